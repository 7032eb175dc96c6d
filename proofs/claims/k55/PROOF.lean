import PyProof.Rows.All
import Wide.All
import OpenK.AllK
import Wide.FinOn
import HandS.ForMost
import HandS.IsInst
import HandS.Zip
import HandS.Walk
import HandS.Evl
import HandS.TupAny
import KE.GoesMore
import KE.DataMinMax
import PyProof.P3In
import KE.KRevSl
import HandS.Style
import KE.SortData
import KE.KeyNested
import KE.KDictKeyed
import HandS.Wide
import HandS.Text
import HandS.FStr
import HandS.Deep
import HandS.Star
import KE.DataCmp
import KE.KSortedM
import HandS.Strs
import HandS.Lambda
import HandS.Iter
import HandS.Conv
import HandS.More
import KE.SortKeyHeap
import HandS.SortKw
import KE.KMinKey
import HandS.Gcd
import HandS.IterVal
import KE.KDictList
import PyProof.CallStr
import HandS.ExcValue
import KE.KSuper
import KE.KExcSuper
import HandS.ExcInit
import HandS.FStrTup
import HandS.WordsExc
import HandS.ExcOwn
import HandS.TryOnly
import KE.GoesComp
import HandS.ExcField
import HandS.ExcIs
import KE.KExcIs
import PySem.Challenge.RW_choicerows_k55_machines_made
set_option Elab.async false
set_option linter.all false
set_option maxRecDepth 100000
set_option maxHeartbeats 4000000
set_option autoImplicit false
namespace Cr
open PySem PySem.Spec PyProof.Rows L2 Evl
def Kt (K : PySem.W.Frag) (H H' : Hp) : Prop := ∀ a xs, SqT K H a xs → SqT K H' a xs
section
variable {K : PySem.W.Frag} {H H1 H2 H' : Hp}
theorem Kt.refl : Kt K H H := fun _ _ h => h
theorem Kt.trans (a : Kt K H H1) (b : Kt K H1 H2) : Kt K H H2 := fun p xs h => b p xs (a p xs h)
theorem Kt.same (e : Same H H') : Kt K H H' := fun _ _ h => ex_t e h
theorem same_new {p : Addr} {o : HO} (h : H p = none) : Same H (upd H p o) := Ex.new h
theorem same_mut {p : Addr} {o : HO} (e : Same H H') (h : H p = none) : Same H (upd H' p o) := Ex.mut e h
theorem Kt.new {p : Addr} {o : HO} (h : H p = none) : Kt K H (upd H p o) := Kt.same (same_new h)
theorem Kt.lst {l : Addr} {xs : List V} {o : HO} (h : H l = some (.lst xs)) : Kt K H (upd H l o) := fun a ys q => by
  rcases q with (q | ⟨ob, q⟩) | q
  · exact .inl (.inl (by rw [upd_ne (ne_of q h (fun z => nomatch z))]; exact q))
  · exact .inl (.inr ⟨ob, by rw [upd_ne (ne_of q h (fun z => nomatch z))]; exact q⟩)
  · exact .inr q
end
inductive Vd (K : PySem.W.Frag) (H : Hp) : V → PyData → Prop
  | int (i : Int) : Vd K H (.int i) (.int i)
  | str (x : Str) : Vd K H (.str x) (.str x)
  | tup {a : Addr} {xs : List V} {ds : List PyData} : SqT K H a xs → xs.length = ds.length → (∀ (i : Nat) v d, xs[i]? = some v → ds[i]? = some d → Vd K H v d) → Vd K H (.ref a) (.tuple ds)
section
variable {K : PySem.W.Frag} {H H' : Hp}
theorem Vd.keep (k : Kt K H H') {v : V} {d : PyData} (h : Vd K H v d) : Vd K H' v d := by
  induction h with
  | int i => exact .int i
  | str x => exact .str x
  | tup hs hl _ ih => exact .tup (k _ _ hs) hl ih
theorem dpAll_of : ∀ {xs : List V} {ds : List PyData}, xs.length = ds.length → (∀ (i : Nat) v d, xs[i]? = some v → ds[i]? = some d → Dp K H v d) → DpAll K H xs ds
  | [], [], _, _ => .nil
  | [], _ :: _, h, _ => by simp at h
  | _ :: _, [], h, _ => by simp at h
  | x :: xs, d :: ds, h, q => .cons (q 0 x d rfl rfl) (dpAll_of (by simpa using h) fun i v e h1 h2 => q (i + 1) v e (by simpa using h1) (by simpa using h2))
theorem Vd.dp {v : V} {d : PyData} (h : Vd K H v d) : Dp K H v d := by
  induction h with
  | int i => exact .int i
  | str x => exact .str x
  | tup hs hl _ ih => exact .tup hs (dpAll_of hl ih)
theorem Vd.get {a : Addr} {ds : List PyData} (h : Vd K H (.ref a) (.tuple ds)) : ∃ xs, SqT K H a xs ∧ xs.length = ds.length ∧ ∀ (i : Nat) v d, xs[i]? = some v → ds[i]? = some d → Vd K H v d := by
  cases h with
  | tup hs hl q => exact ⟨_, hs, hl, q⟩
theorem Vd.ref {v : V} {ds : List PyData} (h : Vd K H v (.tuple ds)) : ∃ a, v = .ref a := by
  cases h with
  | tup hs hl q => exact ⟨_, rfl⟩
theorem Vd.int_inv {v : V} {i : Int} (h : Vd K H v (.int i)) : v = .int i := by cases h; rfl
theorem Vd.str_inv {v : V} {x : Str} (h : Vd K H v (.str x)) : v = .str x := by cases h; rfl
theorem Vd.g1 {v : V} {d : PyData} (h : Vd K H v (.tuple [d])) : ∃ a x, v = .ref a ∧ SqT K H a [x] ∧ Vd K H x d := by
  obtain ⟨a, rfl⟩ := h.ref
  obtain ⟨xs, hs, hl, q⟩ := h.get
  match xs, hl with
  | [x], _ => exact ⟨a, x, rfl, hs, q 0 x d rfl rfl⟩
theorem Vd.g2 {v : V} {d e : PyData} (h : Vd K H v (.tuple [d, e])) : ∃ a x y, v = .ref a ∧ SqT K H a [x, y] ∧ Vd K H x d ∧ Vd K H y e := by
  obtain ⟨a, rfl⟩ := h.ref
  obtain ⟨xs, hs, hl, q⟩ := h.get
  match xs, hl with
  | [x, y], _ => exact ⟨a, x, y, rfl, hs, q 0 x d rfl rfl, q 1 y e rfl rfl⟩
theorem Vd.g3 {v : V} {d e f : PyData} (h : Vd K H v (.tuple [d, e, f])) : ∃ a x y z, v = .ref a ∧ SqT K H a [x, y, z] ∧ Vd K H x d ∧ Vd K H y e ∧ Vd K H z f := by
  obtain ⟨a, rfl⟩ := h.ref
  obtain ⟨xs, hs, hl, q⟩ := h.get
  match xs, hl with
  | [x, y, z], _ => exact ⟨a, x, y, z, rfl, hs, q 0 x d rfl rfl, q 1 y e rfl rfl, q 2 z f rfl rfl⟩
def tyN : PyData → String
  | .int _ => "int"
  | .str _ => "str"
  | _ => "tuple"
theorem Vd.ty {v : V} {d : PyData} (h : Vd K H v d) : TyX K H v (.type (tyN d)) := by
  cases h with
  | int i => exact .base (.int i)
  | str x => exact .base (.str x)
  | tup hs hl q =>
    rcases hs with (hs | ⟨o, hs⟩) | ⟨o, its, n, hk, hc, _⟩
    · exact .base (.tup hs)
    · exact .fTuple hs
    · exact .kTuple hk hc
end
inductive Dk : Nat → PyData → Prop
  | int {n : Nat} (i : Int) : Dk n (.int i)
  | str {n : Nat} {x : Str} : SeqAt.shaped (.str x) = true → x.length ≤ 1000 → Dk n (.str x)
  | tup {n : Nat} {ds : List PyData} : ds.length ≤ 60 → (∀ d ∈ ds, Dk n d) → Dk (n + 1) (.tuple ds)
theorem lay_all : ∀ {ds : List PyData}, (∀ d ∈ ds, d.canLay0 = true) → PyData.canLayAll0 ds = true
  | [], _ => rfl
  | d :: ds, h => by
    unfold PyData.canLayAll0
    rw [h d List.mem_cons_self, lay_all fun e he => h e (List.mem_cons_of_mem _ he)]
    rfl
theorem depth_all {n : Nat} : ∀ {ds : List PyData}, (∀ d ∈ ds, d.depth ≤ n) → PyData.depthAll ds ≤ n
  | [], _ => Nat.zero_le _
  | d :: ds, h => by
    unfold PyData.depthAll
    exact Nat.max_le.mpr ⟨h d List.mem_cons_self, depth_all fun e he => h e (List.mem_cons_of_mem _ he)⟩
theorem Dk.lay {n : Nat} {d : PyData} (h : Dk n d) : d.canLay0 = true ∧ d.depth ≤ n := by
  induction h with
  | int i => exact ⟨rfl, Nat.zero_le _⟩
  | str hs _ => exact ⟨SeqAt.canLay_of_shaped hs, Nat.zero_le _⟩
  | tup _ _ ih => exact ⟨lay_all fun d hd => (ih d hd).1, Nat.succ_le_succ (depth_all fun d hd => (ih d hd).2)⟩
theorem Dk.shaped {n : Nat} {d : PyData} (h : Dk n d) (hn : n ≤ 64) : SeqAt.shaped d = true := by
  unfold SeqAt.shaped
  rw [h.lay.1, decide_eq_true (Nat.le_trans h.lay.2 hn)]
  rfl
theorem Dk.mono {n m : Nat} {d : PyData} (h : Dk n d) (hm : n ≤ m) : Dk m d := by
  induction h generalizing m with
  | int i => exact .int i
  | str hs hl => exact .str hs hl
  | tup hl _ ih =>
    obtain ⟨m', rfl⟩ : ∃ m', m = m' + 1 := ⟨m - 1, by omega⟩
    exact .tup hl fun d hd => ih d hd (by omega)
def isWord (s : Str) : Bool := (decide ((1 : Int) ≤ (s.length : Int)) && decide ((s.length : Int) ≤ 8)) && s.cps.toList.all fun c => decide (97 ≤ c) && decide (c ≤ 122)
theorem lt_sign (a b : Nat) : decide ([a] < [b]) = decide (a < b) := by
  rw [Bool.eq_iff_iff, decide_eq_true_iff, decide_eq_true_iff, List.cons_lt_cons_iff]
  constructor
  · rintro (h | ⟨_, h⟩)
    · exact h
    · exact absurd h (List.not_lt_nil _)
  · exact fun h => .inl h
inductive Kd where
  | int | word | lst (k : Kd) | tup (ks : List Kd)
mutual
def Kd.data : Kd → PyData
  | .int => .str "int"
  | .word => .str "word"
  | .lst k => .tuple [.str "list", k.data]
  | .tup ks => .tuple [.str "tuple", .tuple (dataAll ks)]
def dataAll : List Kd → List PyData
  | [] => []
  | k :: ks => k.data :: dataAll ks
end
theorem dataAll_map : ∀ ks : List Kd, dataAll ks = ks.map Kd.data
  | [] => by rw [dataAll]; rfl
  | k :: ks => by rw [dataAll, dataAll_map ks]; rfl
inductive OkK : Nat → Kd → Prop
  | int {n : Nat} : OkK (n + 1) .int
  | word {n : Nat} : OkK (n + 1) .word
  | lst {n : Nat} {k : Kd} : OkK n k → OkK (n + 1) (.lst k)
  | tup {n : Nat} {ks : List Kd} : ks.length ≤ 60 → (∀ k ∈ ks, OkK n k) → OkK (n + 1) (.tup ks)
theorem dk_str {n : Nat} {x : Str} (h : SeqAt.shaped (.str x) = true := by decide +kernel) (hl : x.length ≤ 1000 := by decide +kernel) : Dk n (.str x) := .str h hl
theorem dk_t2 {n : Nat} {a b : PyData} (ha : Dk n a) (hb : Dk n b) : Dk (n + 1) (.tuple [a, b]) := .tup (show 2 ≤ 60 by decide) fun d hd => by
  rcases List.mem_cons.mp hd with rfl | hd
  · exact ha
  · rcases List.mem_cons.mp hd with rfl | hd
    · exact hb
    · cases hd
theorem OkK.dk {n : Nat} {k : Kd} (h : OkK n k) : Dk (2 * n) k.data := by
  induction h with
  | int => rw [Kd.data]; exact dk_str
  | word => rw [Kd.data]; exact dk_str
  | lst _ ih => rw [Kd.data]; exact (dk_t2 dk_str (ih.mono (Nat.le_succ _)))
  | tup hl _ ih =>
    rw [Kd.data, dataAll_map]
    refine dk_t2 dk_str (.tup (by rw [List.length_map]; exact hl) fun d hd => ?_)
    obtain ⟨k, hk, rfl⟩ := List.mem_map.mp hd
    exact ih k hk
theorem OkK.mono {n m : Nat} {k : Kd} (h : OkK n k) (hm : n ≤ m) : OkK m k := by
  induction h generalizing m with
  | int => obtain ⟨m', rfl⟩ : ∃ m', m = m' + 1 := ⟨m - 1, by omega⟩; exact .int
  | word => obtain ⟨m', rfl⟩ : ∃ m', m = m' + 1 := ⟨m - 1, by omega⟩; exact .word
  | lst _ ih => obtain ⟨m', rfl⟩ : ∃ m', m = m' + 1 := ⟨m - 1, by omega⟩; exact .lst (ih (by omega))
  | tup hl _ ih => obtain ⟨m', rfl⟩ : ∃ m', m = m' + 1 := ⟨m - 1, by omega⟩; exact .tup hl fun k hk => ih k hk (by omega)
structure Cl (P : Program) (w : World) (K : PySem.W.Frag) (mg : Str → Option Value) (base : Heap) (x : Str) (ps : List Str) (k : Nat) (sp : Sp) where
  f : Addr
  fd : FuncData
  ok : FnOk P w K mg base CX0 k f fd ps sp
  b : Binds K fd ps []
  kp : PySem.W.keepIn K (.ref f) = true
  m : mg x = some (.ref f)
theorem no_call {P : Program} {w : World} {K : PySem.W.Frag} {mg : Str → Option Value} {base : Heap} {k : Nat} {f : Addr} {fd : FuncData} {ps : List Str} {sp : Sp} (no : ∀ vs H Q E, ¬ sp vs H Q E) : FnOk P w K mg base CX0 k f fd ps sp :=
  ⟨fun vs H Q E h => absurd h (no vs H Q E), fun A outer s H args us vs Q E _ _ _ _ h => absurd h (no vs H Q E)⟩
section
variable {K : PySem.W.Frag} {σ : L2.St} {H H' : Hp} {ta tb tc te tx : TE} {t u : TT} {x y z v w : V} {r r' : R2}
theorem ev_chain {k k' : Bool} (ha : Ev ta σ H x) (hb : Ev tb σ H y) (hc : Ev tc σ H w) (hr : RV r x y H (.bl k)) (hr' : RV r' y w H (.bl k')) : Ev (tChain r r' ta tb tc) σ H (.bl (k && k')) := fun H1 e Q q =>
  ha H1 e _ fun H2 e2 => hb H2 (e.trans e2) _ fun H3 e3 => hr H3 ((e.trans e2).trans e3) _ fun H4 e4 => ⟨k, rfl, by
    cases k with
    | true => exact hc H4 (((e.trans e2).trans e3).trans e4) _ fun H5 e5 => hr' H5 ((((e.trans e2).trans e3).trans e4).trans e5) Q fun H6 e6 => q H6 ((((e2.trans e3).trans e4).trans e5).trans e6)
    | false => exact q H4 ((e2.trans e3).trans e4)⟩
theorem ev_one {v : V} (h : Ev ta σ H v) : Ev ta σ H v := h
theorem et_yes : EvT tYes σ H true := fun H1 _ _ q => q H1 (Ex.refl H1)
theorem ev_all {bs : List Bool} (h : EvL te σ H (bs.map V.bl)) : Ev (tCB (rAll K) (tCons te tNil)) σ H (.bl (bs.all id)) := fun H1 e Q q =>
  h H1 e _ fun p H2 _ e2 hp => ⟨p, bs, rfl, sq_of hp, q H2 e2⟩
theorem rv_eqD {d e : PyData} (hx : Vd K H x d) (hy : Vd K H y e) (sd : SeqAt.shaped d = true) (se : SeqAt.shaped e = true) : RV (rEqD K) x y H (.bl (PyData.eqv d e)) := fun H1 e1 _ q =>
  ⟨d, e, (hx.keep (Kt.same e1)).dp, (hy.keep (Kt.same e1)).dp, sd, se, q H1 (Ex.refl H1)⟩
theorem rv_notN : RV (fun x y H Q => y = .non ∧ Q (.bl (!decide (x = .non))) H) x .non H (.bl (!decide (x = .non))) := fun H1 _ _ q => ⟨rfl, q H1 (Ex.refl H1)⟩
theorem ev_lenT {p : Addr} {xs : List V} (ha : Ev ta σ H (.ref p)) (h : SqT K H p xs) : Ev (tCB (fun xs H Q => ∃ p ys, xs = [.ref p] ∧ (SqL K H p ys ∨ SqT K H p ys) ∧ Q (.int ys.length) H) (tCons ta tNil)) σ H (.int (xs.length : Int)) := fun H1 e Q q =>
  ha H1 e _ fun H2 e2 => ⟨p, xs, rfl, .inr (ex_t (e.trans e2) h), q H2 e2⟩
theorem ev_lenL {p : Addr} {xs : List V} (ha : Ev ta σ H (.ref p)) (h : SqL K H p xs) : Ev (tCB (fun xs H Q => ∃ p ys, xs = [.ref p] ∧ (SqL K H p ys ∨ SqT K H p ys) ∧ Q (.int ys.length) H) (tCons ta tNil)) σ H (.int (xs.length : Int)) := fun H1 e Q q =>
  ha H1 e _ fun H2 e2 => ⟨p, xs, rfl, .inl (ex_l (e.trans e2) h), q H2 e2⟩
theorem ev_ixT {a : Addr} {xs : List V} {j : Nat} (ha : Ev ta σ H (.ref a)) (hb : Ev tb σ H (.int (j : Int))) (h : SqT K H a xs) (hv : xs[j]? = some v) : Ev (tOp (rIxT K) ta tb) σ H v := ev_op ha hb (rv_ixT h (atI_nat hv))
theorem ev_ixL {a : Addr} {xs : List V} {j : Nat} (ha : Ev ta σ H (.ref a)) (hb : Ev tb σ H (.int (j : Int))) (h : SqL K H a xs) (hv : xs[j]? = some v) : Ev (tOp (rIxL K) ta tb) σ H v := ev_op ha hb (rv_ixL h (atI_nat hv))
theorem given_all (n : Nat) (b : Nat → Bool) : given n (fun _ => true) (fun i => .bl (b i)) = ((List.range n).map b).map V.bl := by
  unfold given
  rw [List.filter_eq_self.mpr (fun _ _ => rfl), List.map_map]
  rfl
theorem el_is {xs ys : List V} (h : EvL te σ H xs) (e : xs = ys) : EvL te σ H ys := by
  rw [← e]
  exact h
theorem ev_andF (h1 : Ev ta σ H (.bl false)) : Ev (tAndV ta tb) σ H (.bl false) := fun H1 e Q q => h1 H1 e _ fun H2 e2 => ⟨false, rfl, q H2 e2⟩
theorem ev_andT {b : Bool} (h1 : Ev ta σ H (.bl true)) (h2 : Ev tb σ H (.bl b)) : Ev (tAndV ta tb) σ H (.bl b) := fun H1 e Q q => h1 H1 e _ fun H2 e2 => ⟨true, rfl, h2 H2 (e.trans e2) Q fun H3 e3 => q H3 (e2.trans e3)⟩
theorem k_tt : kitB "tuple" "tuple" = some true := by decide +kernel
theorem k_st : kitB "str" "tuple" = some false := by decide +kernel
theorem k_is : kitB "int" "str" = some false := by decide +kernel
theorem ev_callC {sp : Sp} {vs : List V} {E : XK} {ta : TA} (h : EvA ta σ H vs) (hs : SpV sp vs H z) : Ev (tCall sp [] E ta) σ H z := ev_call h (by rw [List.append_nil]; exact hs)
end
section
variable {K : PySem.W.Frag} {σ : L2.St} {H H' : Hp} {ta tb tc te tx : TE}
theorem shaped_list {m : Nat} {ds : List PyData} (hm : m ≤ 60) (h : ∀ d ∈ ds, Dk m d) : SeqAt.shaped (.list ds) = true := by
  unfold SeqAt.shaped
  have h1 : (PyData.list ds).canLay0 = true := lay_all fun d hd => (h d hd).lay.1
  have h2 : (PyData.list ds).depth ≤ 64 := Nat.le_trans (Nat.succ_le_succ (depth_all fun d hd => (h d hd).lay.2)) (by omega)
  rw [h1, decide_eq_true h2]
  rfl
end
theorem Dk.item {n : Nat} {ds : List PyData} (h : Dk (n + 1) (.tuple ds)) : ds.length ≤ 60 ∧ ∀ d ∈ ds, Dk n d := by
  cases h with
  | tup h1 h2 => exact ⟨h1, h2⟩
theorem getD_at {α : Type} {ds : List α} {i : Nat} {a0 : α} (h : i < ds.length) : ds[i]? = some (ds.getD i a0) := by
  rw [List.getD_eq_getElem?_getD, List.getElem?_eq_getElem h]
  rfl
theorem OkK.shaped {n : Nat} {k : Kd} (h : OkK n k) (hn : n ≤ 20) : SeqAt.shaped k.data = true := h.dk.shaped (by omega)
theorem shaped_int : SeqAt.shaped (.str "int") = true := by decide +kernel
theorem shaped_word : SeqAt.shaped (.str "word") = true := by decide +kernel
end Cr
namespace Cr
open PySem PySem.Spec PyProof.Rows L2 Evl
section
variable {P : Program} {w : World} {K : PySem.W.Frag} {mg : Str → Option Value} {base : Heap}
def spWord : Sp := fun vs H Q _ => ∃ s : Str, vs = [.str s] ∧ s.length ≤ 1000 ∧ ∀ H', Same H H' → Q (.bl (isWord s)) H'
theorem sign_ok (c : Nat) : (!decide ((⟨#[c]⟩ : Str).cps.toList < ("a" : Str).cps.toList) && !decide (("z" : Str).cps.toList < (⟨#[c]⟩ : Str).cps.toList)) = (decide (97 ≤ c) && decide (c ≤ 122)) := by
  rw [show ("a" : Str).cps.toList = [97] by decide +kernel, show ("z" : Str).cps.toList = [122] by decide +kernel, show (⟨#[c]⟩ : Str).cps.toList = [c] from rfl, lt_sign, lt_sign, ← decide_not, ← decide_not]
  congr 1
  · exact decide_eq_decide.mpr (by omega)
  · exact decide_eq_decide.mpr (by omega)
def spKit (K : PySem.W.Frag) : Sp := fun vs H Q _ => ∃ (v : V) (k : Kd) (n : Nat), vs = [v] ∧ Vd K H v k.data ∧ OkK n k ∧ n ≤ 20 ∧
  ∀ r H', Same H H' → (∀ ks, k = .tup ks → ∃ a, r = .ref a ∧ Vd K H' (.ref a) (.tuple (dataAll ks))) → ((∀ ks, k ≠ .tup ks) → ∃ a, r = .ref a ∧ Vd K H' (.ref a) (.tuple [])) → Q r H'
def spKil (K : PySem.W.Frag) : Sp := fun vs H Q _ => ∃ (v : V) (k : Kd) (n : Nat), vs = [v] ∧ Vd K H v k.data ∧ OkK n k ∧ n ≤ 20 ∧
  ∀ r H', Same H H' → (∀ j, k = .lst j → r ≠ .non ∧ Vd K H' r j.data) → ((∀ j, k ≠ .lst j) → r = .non) → Q r H'
theorem vd_non {H : Hp} {v : V} {d : PyData} (h : Vd K H v d) : v ≠ .non := by cases h <;> exact fun e => nomatch e
end
section
variable {P : Program} {w : World} {K : PySem.W.Frag} {mg : Str → Option Value} {base : Heap}
def spCell (K : PySem.W.Frag) : Sp := fun vs H Q _ => ∃ (a : Addr) (ns : List Int) (k : Nat), vs = [.ref a, .int (k : Int)] ∧ SqL K H a (ns.map V.int) ∧ ∀ c H', Same H H' → Q (.int c) H'
theorem map_int {ms : List Int} {i : Nat} {x : V} (h : (ms.map V.int)[i]? = some x) : ∃ m, ms[i]? = some m ∧ x = .int m := by
  rw [List.getElem?_map] at h
  cases e : ms[i]? with
  | none =>
    rw [e] at h
    cases h
  | some m =>
    rw [e] at h
    cases h
    exact ⟨m, rfl, rfl⟩
def Bx (H : Hp) (b d : Addr) : Prop := ∃ (ns : List Int) (i : Nat), H b = some (.lst [.ref d, .int (i : Int)]) ∧ H d = some (.lst (ns.map V.int)) ∧ d ≠ b
def Mv (b d : Addr) (H H' : Hp) : Prop := (∀ a o, a ≠ b → H a = some o → H' a = some o) ∧ Bx H' b d
section
variable {H H1 H2 H' : Hp} {b d p : Addr} {o : HO}
theorem Bx.same (h : Bx H b d) (e : Same H H') : Bx H' b d := by
  obtain ⟨ns, i, h1, h2, h3⟩ := h
  exact ⟨ns, i, e _ _ h1, e _ _ h2, h3⟩
theorem Mv.refl (h : Bx H b d) : Mv b d H H := ⟨fun _ _ _ h => h, h⟩
theorem Mv.trans (m : Mv b d H H1) (n : Mv b d H1 H2) : Mv b d H H2 := ⟨fun a o ne h => n.1 a o ne (m.1 a o ne h), n.2⟩
theorem Mv.same (h : Bx H b d) (e : Same H H') : Mv b d H H' := ⟨fun a o _ h => e a o h, h.same e⟩
theorem Mv.ext (m : Mv b d H H1) (e : Same H1 H2) : Mv b d H H2 := m.trans (.same m.2 e)
theorem Mv.new (m : Mv b d H H1) (h : H1 p = none) : Mv b d H (upd H1 p o) := m.ext (same_new h)
theorem Bx.neb (h : Bx H b d) (hp : H p = none) : p ≠ b ∧ p ≠ d := by
  obtain ⟨ns, i, h1, h2, h3⟩ := h
  exact ⟨fun e => (by rw [e, h1] at hp; cases hp), fun e => (by rw [e, h2] at hp; cases hp)⟩
theorem Mv.mut (m : Mv b d H H1) (hb : Bx H b d) (hp : H p = none) : Mv b d H (upd H1 p o) := by
  obtain ⟨n1, n2⟩ := hb.neb hp
  obtain ⟨ns, i, h1, h2, h3⟩ := m.2
  exact ⟨fun a u ne h => by rw [upd_ne (ne_of_none h hp)]; exact m.1 a u ne h, ns, i, by rw [upd_ne n1.symm]; exact h1, by rw [upd_ne n2.symm]; exact h2, h3⟩
end
end
def Vds (K : PySem.W.Frag) (H : Hp) (vs : List V) (ds : List PyData) : Prop := vs.length = ds.length ∧ ∀ (i : Nat) v d, vs[i]? = some v → ds[i]? = some d → Vd K H v d
section
variable {K : PySem.W.Frag} {H H' : Hp}
theorem Vds.nil : Vds K H [] [] := ⟨rfl, fun i v d h _ => by simp at h⟩
theorem Vds.keep {vs : List V} {ds : List PyData} (k : Kt K H H') (h : Vds K H vs ds) : Vds K H' vs ds := ⟨h.1, fun i v d h1 h2 => (h.2 i v d h1 h2).keep k⟩
theorem Vds.snoc {vs : List V} {ds : List PyData} {v : V} {d : PyData} (h : Vds K H vs ds) (hv : Vd K H v d) : Vds K H (vs ++ [v]) (ds ++ [d]) := by
  refine ⟨by rw [List.length_append, List.length_append, h.1]; rfl, fun i x e h1 h2 => ?_⟩
  have hl := h.1
  by_cases hi : i < vs.length
  · rw [List.getElem?_append_left hi] at h1
    rw [List.getElem?_append_left (by omega)] at h2
    exact h.2 i x e h1 h2
  · rw [List.getElem?_append_right (by omega)] at h1
    rw [List.getElem?_append_right (by omega), ← hl] at h2
    obtain ⟨z, hz⟩ : ∃ z, i - vs.length = z := ⟨_, rfl⟩
    rw [hz] at h1 h2
    match z with
    | 0 =>
      cases h1
      cases h2
      exact hv
    | z + 1 => simp at h1
theorem Vds.cons {vs : List V} {ds : List PyData} {v : V} {d : PyData} (hv : Vd K H v d) (h : Vds K H vs ds) : Vds K H (v :: vs) (d :: ds) := by
  refine ⟨by rw [List.length_cons, List.length_cons, h.1], fun i x e h1 h2 => ?_⟩
  match i with
  | 0 =>
    cases h1
    cases h2
    exact hv
  | i + 1 => exact h.2 i x e (by simpa using h1) (by simpa using h2)
theorem Vds.app {vs ws : List V} {ds es : List PyData} (h : Vds K H vs ds) (g : Vds K H ws es) : Vds K H (vs ++ ws) (ds ++ es) := by
  refine ⟨by rw [List.length_append, List.length_append, h.1, g.1], fun i x e h1 h2 => ?_⟩
  have hl := h.1
  by_cases hi : i < vs.length
  · rw [List.getElem?_append_left hi] at h1
    rw [List.getElem?_append_left (by omega)] at h2
    exact h.2 i x e h1 h2
  · rw [List.getElem?_append_right (by omega)] at h1
    rw [List.getElem?_append_right (by omega), ← hl] at h2
    exact g.2 _ x e h1 h2
theorem Vds.tup {vs : List V} {ds : List PyData} {a : Addr} (h : Vds K H vs ds) (ha : SqT K H a vs) : Vd K H (.ref a) (.tuple ds) := .tup ha h.1 h.2
end
end Cr
namespace Cr
open PySem PySem.Spec PyProof.Rows L2 Evl
inductive Cd where
  | atmost (n : Int) | divides (n : Int) | is (s : Str) | item (i : Int) (c : Cd) | every (c : Cd) | some_ (c : Cd) | size (c : Cd) | sum (c : Cd) | rising | different | not_ (c : Cd) | and_ (c d : Cd) | or_ (c d : Cd)
def Cd.data : Cd → PyData
  | .atmost n => .tuple [.str "atmost", .int n]
  | .divides n => .tuple [.str "divides", .int n]
  | .is s => .tuple [.str "is", .str s]
  | .item i c => .tuple [.str "item", .int i, c.data]
  | .every c => .tuple [.str "every", c.data]
  | .some_ c => .tuple [.str "some", c.data]
  | .size c => .tuple [.str "size", c.data]
  | .sum c => .tuple [.str "sum", c.data]
  | .rising => .tuple [.str "rising"]
  | .different => .tuple [.str "different"]
  | .not_ c => .tuple [.str "not", c.data]
  | .and_ c d => .tuple [.str "and", c.data, d.data]
  | .or_ c d => .tuple [.str "or", c.data, d.data]
inductive OkC : Nat → Cd → Prop
  | atmost {n : Nat} (i : Int) : OkC (n + 1) (.atmost i)
  | divides {n : Nat} (i : Int) : OkC (n + 1) (.divides i)
  | is {n : Nat} {s : Str} : SeqAt.shaped (.str s) = true → s.length ≤ 1000 → OkC (n + 1) (.is s)
  | item {n : Nat} (i : Int) {c : Cd} : OkC n c → OkC (n + 1) (.item i c)
  | every {n : Nat} {c : Cd} : OkC n c → OkC (n + 1) (.every c)
  | some_ {n : Nat} {c : Cd} : OkC n c → OkC (n + 1) (.some_ c)
  | size {n : Nat} {c : Cd} : OkC n c → OkC (n + 1) (.size c)
  | sum {n : Nat} {c : Cd} : OkC n c → OkC (n + 1) (.sum c)
  | rising {n : Nat} : OkC (n + 1) .rising
  | different {n : Nat} : OkC (n + 1) .different
  | not_ {n : Nat} {c : Cd} : OkC n c → OkC (n + 1) (.not_ c)
  | and_ {n : Nat} {c d : Cd} : OkC n c → OkC n d → OkC (n + 1) (.and_ c d)
  | or_ {n : Nat} {c d : Cd} : OkC n c → OkC n d → OkC (n + 1) (.or_ c d)
theorem OkC.mono {n m : Nat} {c : Cd} (h : OkC n c) (hm : n ≤ m) : OkC m c := by
  induction h generalizing m with
  | _ => obtain ⟨m', rfl⟩ : ∃ m', m = m' + 1 := ⟨m - 1, by omega⟩; first | exact .atmost _ | exact .divides _ | exact .rising | exact .different | (constructor <;> first | assumption | (rename_i ih; exact ih (by omega)) | (rename_i ih _; exact ih (by omega)))
def Kd.isInt : Kd → Bool
  | .int => true
  | _ => false
def Kd.isWord : Kd → Bool
  | .word => true
  | _ => false
def Kd.isFlat : Kd → Bool
  | .int => true
  | .word => true
  | _ => false
def Kd.parts : Kd → List Kd
  | .tup ks => ks
  | _ => []
def fitsC : Cd → Kd → Bool
  | .atmost _, k => k.isInt
  | .divides n, k => k.isInt && (decide (1 ≤ n) && decide (n ≤ 100))
  | .is s, k => k.isWord && Cr.isWord s
  | .item i c, k => (decide (0 ≤ i) && decide (i < (k.parts.length : Int))) && fitsC c (k.parts.getD i.toNat .int)
  | .every c, k => match k with | .lst j => fitsC c j | _ => false
  | .some_ c, k => match k with | .lst j => fitsC c j | _ => false
  | .size c, k => match k with | .lst _ => fitsC c .int | _ => false
  | .sum c, k => match k with | .lst j => j.isInt && fitsC c .int | _ => false
  | .rising, k => match k with | .lst j => j.isInt | _ => false
  | .different, k => match k with | .lst _ => true | _ => false
  | .not_ c, k => fitsC c k
  | .and_ c d, k => fitsC c k && fitsC d k
  | .or_ c d, k => fitsC c k && fitsC d k
def Cd.onList : Cd → Bool
  | .every _ | .some_ _ | .size _ | .sum _ | .rising | .different => true
  | _ => false
theorem eqv_int (k : Kd) : PyData.eqv k.data (.str "int") = k.isInt := by
  cases k with
  | int => rw [Kd.data]; decide +kernel
  | word => rw [Kd.data]; decide +kernel
  | lst j => rw [Kd.data]; rfl
  | tup ks => rw [Kd.data]; rfl
theorem eqv_word (k : Kd) : PyData.eqv k.data (.str "word") = k.isWord := by
  cases k with
  | int => rw [Kd.data]; decide +kernel
  | word => rw [Kd.data]; decide +kernel
  | lst j => rw [Kd.data]; rfl
  | tup ks => rw [Kd.data]; rfl
section
variable {K : PySem.W.Frag} {σ : L2.St} {H0 H H' : Hp} {ta tb tc te tx tl : TE} {t u : TT} {x y z v w : V} {r r' : R2} {tu tz tw : TS} {D : Ends}
theorem ev_isInt {k : Kd} {n : Nat} (h : Ev ta σ H v) (hv : Vd K H v k.data) (hk : OkK n k) (hn : n ≤ 20) : Ev (tOp (rEqD K) ta (tC (.str "int"))) σ H (.bl k.isInt) := ev_is (ev_op h ev_c (rv_eqD hv (.str "int") (OkK.shaped hk hn) shaped_int)) (by rw [eqv_int])
theorem ev_isWord {k : Kd} {n : Nat} (h : Ev ta σ H v) (hv : Vd K H v k.data) (hk : OkK n k) (hn : n ≤ 20) : Ev (tOp (rEqD K) ta (tC (.str "word"))) σ H (.bl k.isWord) := ev_is (ev_op h ev_c (rv_eqD hv (.str "word") (OkK.shaped hk hn) shaped_word)) (by rw [eqv_word])
theorem skipS {i : Nat} {x y : Str} (e0 : Same H0 H) (h : σ[i]? = some (some (.str x))) (ne : decide (V.str x = V.str y) = false) (k : ∀ H1, Same H0 H1 → tz D σ H1) : tSeq (tIfS (tTest (tOp rEq (tVar i) (tC (.str y)))) tu tNext) tz D σ H :=
  q_when (b := false) (et_is (et_test (ev_op (ev_var h) ev_c (rv_eq rfl))) ne) (fun h => Bool.noConfusion h) fun _ H1 e1 => k H1 (e0.trans e1)
theorem takeS {i : Nat} {x y : Str} (e0 : Same H0 H) (h : σ[i]? = some (some (.str x))) (eq : decide (V.str x = V.str y) = true) (k : ∀ H1, Same H0 H1 → tu { D with nx := tz D } σ H1) : tSeq (tIfS (tTest (tOp rEq (tVar i) (tC (.str y)))) tu tNext) tz D σ H :=
  q_when (b := true) (et_is (et_test (ev_op (ev_var h) ev_c (rv_eq rfl))) eq) (fun _ H1 e1 => k H1 (e0.trans e1)) (fun h => Bool.noConfusion h)
theorem skipT {i : Nat} {x : Str} {ys : List V} {ta : TA} (e0 : Same H0 H) (h : σ[i]? = some (some (.str x))) (hy : EvA ta σ H ys) (hl : ys.length ≤ 100000) (fl : ys.all flatV = true) (ne : inV (.str x) ys = false) (k : ∀ H1, Same H0 H1 → tz D σ H1) : tSeq (tIfS (tTest (tOp (rIn K false) (tVar i) (tTup ta))) tu tNext) tz D σ H :=
  q_when (b := false) (et_is (et_test (ev_inU (ev_var h) (eu_tup hy hl) rfl fl)) ne) (fun h => Bool.noConfusion h) fun _ H1 e1 => k H1 (e0.trans e1)
theorem takeT {i : Nat} {x : Str} {ys : List V} {ta : TA} (e0 : Same H0 H) (h : σ[i]? = some (some (.str x))) (hy : EvA ta σ H ys) (hl : ys.length ≤ 100000) (fl : ys.all flatV = true) (eq : inV (.str x) ys = true) (k : ∀ H1, Same H0 H1 → tu { D with nx := tz D } σ H1) : tSeq (tIfS (tTest (tOp (rIn K false) (tVar i) (tTup ta))) tu tNext) tz D σ H :=
  q_when (b := true) (et_is (et_test (ev_inU (ev_var h) (eu_tup hy hl) rfl fl)) eq) (fun _ H1 e1 => k H1 (e0.trans e1)) (fun h => Bool.noConfusion h)
theorem eu_sl1 {a : Addr} {x : V} {xs : List V} (h : Ev te σ H (.ref a)) (hs : SqT K H a (x :: xs)) : EvU (tSl (rSlT K) te (tPart (tC (.int 1))) tNoPart) σ H xs := fun H1 e Q q => h H1 e _ fun H2 e2 => by
  refine ⟨1, rfl, a, x :: xs, rfl, ex_t (e.trans e2) hs, fun hw => ?_, fun p hp => ?_⟩
  · have h1 := hw.1
    rw [show HT.sIx (x :: xs).length 0 (some 1) = min 1 (x :: xs).length from HT.sIx_nat _ 0 1, List.length_cons] at h1
    omega
  · have hc : cutV (x :: xs) (some 1) none = xs := by
      unfold cutV
      rw [show HT.sIx (x :: xs).length 0 (some 1) = min 1 (x :: xs).length from HT.sIx_nat _ 0 1, HT.sIx_none, List.length_cons, show min 1 (xs.length + 1) = 1 by omega]
      show (List.take (xs.length + 1 - 1) xs) = xs
      rw [Nat.add_sub_cancel]
      exact List.take_length
    rw [hc]
    exact q p _ (fresh_back e2 hp) (e2.trans (Ex.new hp)) upd_same
theorem el_lcNT {xs : List V} {j : Nat} {vs : List Nat} (f : Nat → Bool) (v : Nat → V) (h : EvU tl σ H xs) (hz : xs.length ≤ 40000) (hw : ∀ x, wipe ((wipe σ vs).set j (some x)) vs = wipe σ vs)
    (ht : ∀ (i : Nat) (x : V) H1, Ex H H1 → xs[i]? = some x → EvT t ((wipe σ vs).set j (some x)) H1 (f i)) (he : ∀ (i : Nat) (x : V) H1, Ex H H1 → xs[i]? = some x → f i = true → Ev te ((wipe σ vs).set j (some x)) H1 (v i)) :
    EvL (tLc (iTup K tl) (gName j) t te vs) σ H (given xs.length f v) := fun H0 e Q q => h H0 e _ fun a H1 ha e1 hx => ⟨a, rfl, ⟨xs, st_of hx⟩, fun Dl hD =>
  lc_tup (xs := xs) (Cw H1 f v Dl) ⟨hD, Ex.new hD, upd_same⟩ (fun i H' _ p => st_of (p.2.1 a _ hx)) (fun i x H' hi p => ⟨hw x, cw_turn p (by have := (List.getElem?_eq_some_iff.mp hi).1; omega) (ht i x H1 (e.trans e1) hi) (fun hf => he i x H1 (e.trans e1) hi hf)⟩)
    (fun H' p => q Dl H' (fresh_back e1 p.1) (e1.trans p.2.1) p.2.2)⟩
end
def spFits (K : PySem.W.Frag) (n : Nat) : Sp := fun vs H Q _ => ∃ (v u : V) (c : Cd) (k : Kd), vs = [v, u] ∧ Vd K H v c.data ∧ OkC n c ∧ Vd K H u k.data ∧ OkK 10 k ∧ ∀ H', Same H H' → Q (.bl (fitsC c k)) H'
def spFitsItem (K : PySem.W.Frag) (n : Nat) : Sp := fun vs H Q _ => ∃ (i : Int) (v u : V) (c : Cd) (ks : List Kd), vs = [.int i, v, u] ∧ Vd K H v c.data ∧ OkC n c ∧ Vd K H u (.tuple (dataAll ks)) ∧ (∀ k ∈ ks, OkK 10 k) ∧
  ∀ H', Same H H' → Q (.bl ((decide (0 ≤ i) && decide (i < (ks.length : Int))) && fitsC c (ks.getD i.toNat .int))) H'
def spFitsList (K : PySem.W.Frag) (n : Nat) : Sp := fun vs H Q _ => ∃ (v u : V) (c : Cd) (j : Kd), vs = [v, u] ∧ Vd K H v c.data ∧ OkC (n + 1) c ∧ c.onList = true ∧ Vd K H u j.data ∧ OkK 10 j ∧ ∀ H', Same H H' → Q (.bl (fitsC c (.lst j))) H'
section
variable {K : PySem.W.Frag} {H : Hp}
theorem spFits_0 (vs : List V) (H : Hp) (Q : VK) (E : XK) : ¬ spFits K 0 vs H Q E := fun h => by
  obtain ⟨_, _, _, _, _, _, h, _⟩ := h
  cases h
theorem fits_call {n : Nat} {v u : V} {c : Cd} {k : Kd} (hv : Vd K H v c.data) (hc : OkC n c) (hu : Vd K H u k.data) (hk : OkK 10 k) : SpV (spFits K n) [v, u] H (.bl (fitsC c k)) := fun H1 e Q q E =>
  ⟨v, u, c, k, rfl, hv.keep (Kt.same e), hc, hu.keep (Kt.same e), hk, fun H' e' => q H' e'⟩
theorem int_data : Vd K H (.str "int") Kd.int.data := by rw [Kd.data]; exact .str _
end
inductive NeT : Kd → Prop
  | int : NeT .int
  | word : NeT .word
  | lst {k : Kd} : NeT k → NeT (.lst k)
  | tup {ks : List Kd} : 0 < ks.length → ks.length ≤ 4 → (∀ k ∈ ks, NeT k) → NeT (.tup ks)
inductive NeK : Kd → Prop
  | int : NeK .int
  | word : NeK .word
  | lst {k : Kd} : NeK k → NeK (.lst k)
  | tup {ks : List Kd} : 0 < ks.length → ks.length ≤ 2 → (∀ k ∈ ks, NeK k) → (∀ k ∈ ks, k.isFlat = true) → NeK (.tup ks)
theorem NeK.t {k : Kd} (h : NeK k) : NeT k := by
  induction h with
  | int => exact .int
  | word => exact .word
  | lst _ ih => exact .lst ih
  | tup h1 h2 _ _ ih => exact .tup h1 (by omega) ih
theorem OkK.pos {n : Nat} {k : Kd} (h : OkK n k) : 0 < n := by cases h <;> omega
def spLaw (K : PySem.W.Frag) : Sp := fun vs H Q _ => ∃ (a : Addr) (ns : List Int), vs = [.ref a] ∧ SqL K H a (ns.map V.int) ∧ ns.length ≤ 63 ∧ ∀ H', Q (.bl true) H'
end Cr
namespace CrT
open PySem PySem.Spec PyProof.Rows L2
def rInTup (K : PySem.W.Frag) (no : Bool) : R2 := fun x y H Q => ∃ d ds, Dp K H x d ∧ Dp K H y (.tuple ds) ∧ SeqAt.shaped d = true ∧ SeqAt.shaped (.tuple ds) = true ∧ Q (.bl (if no then !ds.any fun z => PyData.eqv z d else ds.any fun z => PyData.eqv z d)) H
theorem tup_room {A : Around} {d : PyData} {ds : List PyData} (hu : A.units + 65 < cLine) (sd : SeqAt.shaped d = true) : A.units + 1 + min (PyData.depthAll ds) d.depth < cLine := by
  have h := SeqAt.depth_of_shaped sd
  have := Nat.min_le_right (PyData.depthAll ds) d.depth
  omega
section
variable {X : Cx}
theorem op_inTup (hu : X.A.units + 65 < cLine) : OpR X (compareOp .In) (rInTup X.K false) := fun pins s σ H x y v u Q I rx ry h => by
  obtain ⟨d, ds, hd, he, sd, se, q⟩ := h
  obtain ⟨as, ra⟩ := Dp.reads I d x v hd rx
  obtain ⟨bs, rb⟩ := Dp.reads I (.tuple ds) y u he ry
  exact SeqAt.in_tuple_reads rb ra (show PyData.canLayAll0 ds = true from SeqAt.canLay_of_shaped se) (SeqAt.canLay_of_shaped sd) (tup_room hu sd) ⟨.bl _, H, I, rfl, q⟩
theorem op_notInTup (hu : X.A.units + 65 < cLine) : OpR X (compareOp .NotIn) (rInTup X.K true) := fun pins s σ H x y v u Q I rx ry h => by
  obtain ⟨d, ds, hd, he, sd, se, q⟩ := h
  obtain ⟨as, ra⟩ := Dp.reads I d x v hd rx
  obtain ⟨bs, rb⟩ := Dp.reads I (.tuple ds) y u he ry
  exact SeqAt.notIn_tuple_reads rb ra (show PyData.canLayAll0 ds = true from SeqAt.canLay_of_shaped se) (SeqAt.canLay_of_shaped sd) (tup_room hu sd) ⟨.bl _, H, I, rfl, q⟩
end
theorem enum_newT (t : Addr) (items : Array Value) : Meets (Builtin.«enumerate.__new__» ⟨[.type "enumerate", .ref t], []⟩) (fun _ R s => s.heap.IsTuple t items ∧
    R (.ok (.ret (.ref (s.heap.push { cls := .type "tuple_iterator", data := .fields #[.ref t, .int 0 0] }).objs.size)))
      { s with heap := (s.heap.push { cls := .type "tuple_iterator", data := .fields #[.ref t, .int 0 0] }).push { cls := .type "enumerate", data := .fields #[.none, .bool false, .ref s.heap.objs.size, rawInt 0, .none, .none] } }) :=
  .of_wp fun prog w A R s hr => by
    obtain ⟨hp, g, d, tk, os⟩ := s
    obtain ⟨ht, hr⟩ := hr
    have hsub := sub_enumerate
    have it1 : ∀ {A' : Around} {E : Value → Shared → Prop} {Q : Value → Shared → Prop}, Q (.ref hp.objs.size) ⟨hp.push { cls := .type "tuple_iterator", data := .fields #[.ref t, .int 0 0] }, g, d, tk, os⟩ → wpAny (model prog w) A' (pyIter (.ref t)) Q E ⟨hp, g, d, tk, os⟩ :=
      fun q => wpAny_pyIter_tuple (s := ⟨hp, g, d, tk, os⟩) ht q
    wp_walk using it1
    refine wpAny_stack_any fun st => wpAny_pure (by
      split
      · rename_i c _ _ _ _ _
        cases (c == Value.type "enumerate") <;> (wp_walk using it1; exact ⟨_, rfl, hr⟩)
      · wp_walk using it1
        exact ⟨_, rfl, hr⟩)
section
variable {prog : Program} {w : World} {A : Around} {E : Value → Shared → Prop} {s : Shared}
theorem enum_tup {t : Addr} {items : Array Value} {Q : Value → Shared → Prop} (ht : s.heap.IsTuple t items)
    (h : ∀ h', IsEnum h' (s.heap.objs.size + 1) s.heap.objs.size 0 .none → h'.IsTupleIter s.heap.objs.size t 0 → (∀ b o, s.heap.get? b = some o → h'.get? b = some o) → Q (.ref (s.heap.objs.size + 1)) { s with heap := h' }) :
    wpAny (model prog w) A (call (.type "enumerate") [.ref t]) Q E s := by
  have len1 : (s.heap.push { cls := .type "tuple_iterator", data := .fields #[.ref t, .int 0 0] }).objs.size = s.heap.objs.size + 1 := Heap.size_push ..
  refine callType_new F.called_enumerate (by decide) (F.typeCall_enumerate_1 _) (F.newCall_enumerate_1 _) (fun obj => F.args_object_init_2 obj _) F.entry_enumerate_new (enum_newT t items) ⟨ht, ?_⟩
  show _ ∧ _
  rw [len1]
  have en : IsEnum ((s.heap.push { cls := .type "tuple_iterator", data := .fields #[.ref t, .int 0 0] }).push { cls := .type "enumerate", data := .fields #[.none, .bool false, .ref s.heap.objs.size, rawInt 0, .none, .none] }) (s.heap.objs.size + 1) s.heap.objs.size 0 .none := by
    have h0 := Heap.get?_push_size (s.heap.push { cls := .type "tuple_iterator", data := .fields #[.ref t, .int 0 0] }) (o := { cls := .type "enumerate", data := .fields #[.none, .bool false, .ref s.heap.objs.size, rawInt 0, .none, .none] }) rfl
    rw [len1] at h0
    exact h0
  exact ⟨⟨_, en, rfl⟩, h _ en ⟨_, Heap.get?_push_of_some _ (Heap.get?_push_size _ rfl), rfl, rfl⟩ fun b o x => Heap.get?_push_of_some _ (Heap.get?_push_of_some _ x)⟩
end
def IteT (K : PySem.W.Frag) (a : Addr) : It :=
  ⟨fun i H => ∃ (xs : List V) (x : V), SqT K H a xs ∧ xs[i]? = some x, fun i H v H' => ∃ T x, v = .ref T ∧ H T = none ∧ H' = upd H T (.tup [.int (i : Nat), x]) ∧ ∀ xs, SqT K H a xs → xs[i]? = some x, fun i H => ∃ xs : List V, SqT K H a xs ∧ xs.length ≤ i⟩
theorem turn_enumT {P : Program} {w : World} {K : PySem.W.Frag} {elts : List Expr} {kk : Nat} {tpos : Pos} {a e it : Addr} (hei : e ≠ it) (hai : a ≠ it) (hae : a ≠ e) :
    Turn P w K (.Tuple elts kk tpos) (IteT K a) [e, it] e (fun i h => (∃ old, IsEnum h e it ((i : Nat) : Int) old) ∧ h.IsTupleIter it a i) where
  mem := by simp
  obj := fun i h st b hb => by
    obtain ⟨⟨old, he⟩, ⟨o, ho, _, hd⟩⟩ := st
    simp only [List.mem_cons, List.not_mem_nil, or_false] at hb
    rcases hb with rfl | rfl
    · exact ⟨_, he, fun v q => nomatch q⟩
    · exact ⟨o, ho, fun v q => by rw [hd] at q; cases q⟩
  keep := fun i h h' st k => let ⟨⟨old, he⟩, hi⟩ := st; ⟨⟨old, k e (by simp) _ he⟩, hi.at fun o q => k it (by simp) o q⟩
  item := by
    intro X hP hw hK hc i pins s σ H E I hf st hg
    subst hP hw hK
    obtain ⟨⟨old, he⟩, hit⟩ := st
    obtain ⟨xs, x, hq, hx⟩ := hg
    obtain ⟨its, rv, p, hz⟩ := I.tuple hq
    obtain ⟨u, hu, ru⟩ := rv.get hx
    have le : e < s.heap.objs.size := Heap.lt_size he
    have li : it < s.heap.objs.size := by obtain ⟨_, q, _⟩ := hit; exact Heap.lt_size q
    have lt_ : i < its.toArray.size := by
      have := (List.getElem?_eq_some_iff.mp hu).1
      rw [List.size_toArray]
      exact this
    refine wpAny_pyNext_enum_itemD (Draws.tuple (A := X.A.in1) (show X.A.in1.handled = none from I.ok.hd hc) it a hai its.toArray) he ⟨hit, p⟩ lt_ hei (by simp only [List.mem_cons, List.not_mem_nil, or_false]; rintro (h | h); exact hei h; exact hae h.symm) fun u' h' tk hP ho st' hT hsz hk => ?_
    have hu' : u' = u := by
      have q : its[i]? = some u' := by simpa using hP
      rw [hu] at q
      exact (Option.some.inj q).symm
    subst hu'
    refine ⟨_, rfl, wpAny_letOwnedTupleGo_enum (s := { s with heap := h', toks := tk + 1 }) ho fun h'' he' sb => ?_⟩
    have hT2 : h''.get? s.heap.objs.size = some { cls := .type "tuple", data := .seq #[.int i tk, u'] } := (sb.2 _ (Nat.ne_of_gt le)).trans hT
    have fresh : ObjOk X.prog X.w (upd H s.heap.objs.size (.tup [.int (i : Nat), x])) h'' s.heap.objs.size (.tup [.int (i : Nat), x]) :=
      ⟨by show 2 ≤ sizeLine; decide, [.int i tk, u'], .cons ⟨_, rfl⟩ (.cons ru .nil), ⟨_, hT2, rfl, _, rfl⟩⟩
    have I1 : Inv X pins σ (upd H s.heap.objs.size (.tup [.int (i : Nat), x])) { s with heap := h'', toks := tk + 1 } :=
      I.turnedNew (ch := [e, it]) (fun b ob hb q => (sb.2 b (fun z => hb (by simp [z]))).trans (hk b ob (fun z => hb (by simp [z])) (fun z => hb (by simp [z])) q)) hf (Nat.le_refl _) fresh
    have e1 : ((i + 1 : Nat) : Int) = (i : Int) + 1 := by omega
    refine ⟨.ref s.heap.objs.size, _, I1, rfl, ⟨_, x, rfl, I.hok.fresh (Nat.le_refl _), rfl, fun ys hy => by rw [I.tuple_inj hy hq]; exact hx⟩, ⟨⟨u', by rw [e1]; exact he'⟩, st'.1.at fun o q => (sb.2 it (Ne.symm hei)).trans q⟩, fun b hb => ?_⟩
    have lb : b < s.heap.objs.size := by
      simp only [List.mem_cons, List.not_mem_nil, or_false] at hb
      rcases hb with rfl | rfl
      · exact le
      · exact li
    rw [upd_ne (Nat.ne_of_lt lb)]
    exact (hf b hb).1
  done := by
    intro X hP hw hK hc i pins s σ H E I hf st hg
    subst hP hw hK
    obtain ⟨⟨old, he⟩, hit⟩ := st
    obtain ⟨xs, hq, hx⟩ := hg
    obtain ⟨its, rv, p, hz⟩ := I.tuple hq
    obtain ⟨f0, f1, f2, f3, f4, f5⟩ := hf it (by simp)
    have hl := rv.length
    have hT : s.TypeIs (.ref e) "enumerate" := ⟨_, he, rfl⟩
    have no : its.toArray[i]? = none := by simp; omega
    unfold pyNext
    refine wpAny_bind (wpAny_attempt (wpAny_callSpecial?_slot (name := Str.ofString "__next__") hT F.slot_enumerate_next (wpAny_call_entry F.slot_enumerate_next hT F.entry_enumerate_next ?_ (F.args_enumerate_next_1 _))))
    show wpAny _ _ (field (.ref e) 2 >>= _) _ _ _
    refine wpAny_bind (wpAny_field he rfl (x := .ref it) rfl (wpAny_bind (wpAny_nextOf_tuple_end (I.ok.hd hc) hit p no fun h' x hb hs => ?_)))
    obtain ⟨o, ho, hcl⟩ := hs
    exact wpAny_bind (wpAny_isInstance (T := "StopIteration") (b := true) ⟨o, ho, hcl⟩ isSubtype_stop (wpAny_pure ⟨rfl, I.turned (t' := s.toks) (fun b o hb' q => hb b o hb' q) f0 f1 f3 f4 f5⟩))
  self := fun A i s Q E st h => let ⟨⟨_, he⟩, _⟩ := st; wpAny_pyIter_enum he h
def iEnumT (K : PySem.W.Frag) (ta : TA) : TI := fun σ H R => ta σ H fun vs H1 => ∃ a xs, vs = [.ref a] ∧ SqT K H1 a xs ∧ R (IteT K a) H1
theorem pi_enumT {X : Cx} {e : Expr} {ta : TA} {p pos tpos : Pos} {elts : List Expr} {kk : Nat} (hg : Gl X "enumerate") (hm : X.mg "enumerate" = none) (ha : PA X [e] ta) (hs : starEach [e] X.env = [(false, eval e X.env)] := by rfl) :
    PI X (.Tuple elts kk tpos) (.Call (.Name "enumerate" p) [e] [] pos) (iEnumT X.K ta) := ⟨fun pins s σ H R I h => by
  refine Call_ (ld_blt I hg hm boot_enumerate (PyProof.Rows.callWith_type1 (thn (ha.run pos pins s σ H _ I h) fun us s1 ⟨vs, H1, I1, r1, q1⟩ => ?_) hs rfl))
  obtain ⟨a, xs, rfl, hq, q⟩ := q1
  cases r1 with
  | cons r rr =>
    cases rr
    cases r
    obtain ⟨its, rv, tp, hz⟩ := I1.tuple hq
    have la : a < s1.heap.objs.size := by
      obtain ⟨_, e, _⟩ := id tp
      exact Heap.lt_size e
    refine enum_tup (show s1.heap.IsTuple a its.toArray from tp) fun h' he hit hk => wpAny_pyIter_enum he ?_
    refine ⟨s1.heap.objs.size + 1, [s1.heap.objs.size + 1, s1.heap.objs.size], _, _, H1, rfl, I1.kept (t' := s1.toks) hk, turn_enumT (Nat.succ_ne_self _) (Nat.ne_of_lt la) (Nat.ne_of_lt (Nat.lt_succ_of_lt la)), ⟨⟨.none, he⟩, hit⟩, fun b hb => ?_, q⟩
    have hle : s1.heap.objs.size ≤ b := by
      simp only [List.mem_cons, List.not_mem_nil, or_false] at hb
      rcases hb with rfl | rfl
      · exact Nat.le_add_right _ _
      · exact Nat.le_refl _
    exact I1.fpOk hle (I1.hok.fresh hle)⟩
theorem walk_enumT {K : PySem.W.Frag} {a : Addr} {xs : List V} : Walk (IteT K a) xs.length (fun H => SqT K H a xs) (YPair (fun i => some (.int (i : Nat))) (fun i => xs[i]?)) :=
  ⟨fun i _ hi q => ⟨xs, xs[i], q, by simp [hi]⟩, fun _ q => ⟨xs, q, Nat.le_refl _⟩, fun i H v H' _ q y => by
    obtain ⟨T, x, h1, h2, h3, h4⟩ := y
    exact ⟨T, .int (i : Nat), x, h1, h2, h3, rfl, h4 xs q⟩⟩
end CrT
namespace CrT
open PySem PySem.Spec PyProof.Rows L2
end CrT
namespace CrT
open PySem PySem.Spec PyProof.Rows L2 PySem.W
section
variable {K : PySem.W.Frag} {H : Hp}
theorem zip_snd {xs : List V} {ds : List PyData} (h : xs.length = ds.length) : (xs.zip ds).map Prod.snd = ds := List.map_snd_zip (by omega)
end
section
variable {X : Cx}
def sortZ (xs : List V) (ds : List PyData) : List (V × PyData) := (xs.zip ds).mergeSort (dataLe false Prod.snd)
end
end CrT
set_option maxRecDepth 10000000
namespace Sm
open PySem PySem.Spec PyProof.Rows L2 Evl
abbrev Atm := Addr → List (PyData × PyData) → Prop
inductive Fd (K : PySem.W.Frag) (A : Atm) (O : Addr → Prop) (H : Hp) : V → PyData → Prop
  | non : Fd K A O H .non .none
  | bl (b : Bool) : Fd K A O H (.bl b) (.bool b)
  | int (i : Int) : Fd K A O H (.int i) (.int i)
  | str (x : Str) : Fd K A O H (.str x) (.str x)
  | tup {a : Addr} {xs : List V} {ds : List PyData} : SqT K H a xs → xs.length = ds.length → (∀ (i : Nat) v d, xs[i]? = some v → ds[i]? = some d → Fd K A O H v d) → Fd K A O H (.ref a) (.tuple ds)
  | lst {a : Addr} {xs : List V} {ds : List PyData} : H a = some (.lst xs) → ¬ O a → xs.length = ds.length → (∀ (i : Nat) v d, xs[i]? = some v → ds[i]? = some d → Fd K A O H v d) → Fd K A O H (.ref a) (.list ds)
  | fn {f : Addr} {kvs : List (PyData × PyData)} : A f kvs → Fd K A O H (.ref f) (.dict kvs)
def Fds (K : PySem.W.Frag) (A : Atm) (O : Addr → Prop) (H : Hp) (xs : List V) (ds : List PyData) : Prop := xs.length = ds.length ∧ ∀ (i : Nat) v d, xs[i]? = some v → ds[i]? = some d → Fd K A O H v d
def Evo (O : Addr → Prop) (H : Hp) (O' : Addr → Prop) (H' : Hp) : Prop := ∀ a o, H a = some o → ¬ O a → H' a = some o ∧ ¬ O' a
def Mu : HO → Prop
  | .lst _ => True
  | .dK _ => True
  | .dT _ => True
  | .ext _ => True
  | .tbl _ => True
  | .frz _ (.dK _) => True
  | .frz _ (.ext _) => True
  | _ => False
def Owl (O : Addr → Prop) (H : Hp) : Prop := ∀ a, O a → ∃ u, H a = some u ∧ Mu u
def Osn (O : Addr → Prop) (p : Addr) : Addr → Prop := fun a => a = p ∨ O a
section
variable {K : PySem.W.Frag} {A : Atm} {O O' O1 O2 : Addr → Prop} {H H' H1 H2 : Hp}
theorem Evo.refl : Evo O H O H := fun _ _ h n => ⟨h, n⟩
theorem Evo.trans (e : Evo O H O1 H1) (f : Evo O1 H1 O2 H2) : Evo O H O2 H2 := fun a o h n => f a o (e a o h n).1 (e a o h n).2
theorem Evo.same (e : Same H H') : Evo O H O H' := fun a o h n => ⟨e a o h, n⟩
theorem Owl.same (l : Owl O H) (e : Same H H') : Owl O H' := fun a h => by
  obtain ⟨xs, hx, hm⟩ := l a h
  exact ⟨xs, e _ _ hx, hm⟩
theorem Owl.none (l : Owl O H) {p : Addr} (h : H p = none) : ¬ O p := fun ho => by
  obtain ⟨xs, hx, _⟩ := l p ho
  rw [h] at hx
  cases hx
theorem sqT_evo (l : Owl O H) (e : Evo O H O' H') {a : Addr} {xs : List V} (h : SqT K H a xs) : SqT K H' a xs := by
  rcases h with (h | ⟨o, h⟩) | h
  · refine .inl (.inl (e a _ h fun ho => ?_).1)
    obtain ⟨ys, hy, hm⟩ := l a ho
    rw [h] at hy
    cases hy
    exact hm
  · refine .inl (.inr ⟨o, (e a _ h fun ho => ?_).1⟩)
    obtain ⟨ys, hy, hm⟩ := l a ho
    rw [h] at hy
    cases hy
    exact hm
  · exact .inr h
theorem Fd.evo (l : Owl O H) (e : Evo O H O' H') {v : V} {d : PyData} (h : Fd K A O H v d) : Fd K A O' H' v d := by
  induction h with
  | non => exact .non
  | bl b => exact .bl b
  | int i => exact .int i
  | str x => exact .str x
  | tup hs hl _ ih => exact .tup (sqT_evo l e hs) hl ih
  | lst hs ho hl _ ih => exact .lst (e _ _ hs ho).1 (e _ _ hs ho).2 hl ih
  | fn h => exact .fn h
theorem Fd.same (e : Same H H') {v : V} {d : PyData} (h : Fd K A O H v d) : Fd K A O H' v d := by
  induction h with
  | non => exact .non
  | bl b => exact .bl b
  | int i => exact .int i
  | str x => exact .str x
  | tup hs hl _ ih => exact .tup (ex_t e hs) hl ih
  | lst hs ho hl _ ih => exact .lst (e _ _ hs) ho hl ih
  | fn h => exact .fn h
theorem Fd.less (s : ∀ a, O' a → O a) {v : V} {d : PyData} (h : Fd K A O H v d) : Fd K A O' H v d := by
  induction h with
  | non => exact .non
  | bl b => exact .bl b
  | int i => exact .int i
  | str x => exact .str x
  | tup hs hl _ ih => exact .tup hs hl ih
  | lst hs ho hl _ ih => exact .lst hs (fun h => ho (s _ h)) hl ih
  | fn h => exact .fn h
theorem Fd.more {p : Addr} (hp : H p = none) {v : V} {d : PyData} (h : Fd K A O H v d) : Fd K A (Osn O p) H v d := by
  induction h with
  | non => exact .non
  | bl b => exact .bl b
  | int i => exact .int i
  | str x => exact .str x
  | tup hs hl _ ih => exact .tup hs hl ih
  | @lst a xs ds hs ho hl _ ih =>
    refine .lst hs (fun h => ?_) hl ih
    rcases h with h | h
    · rw [h, hp] at hs
      cases hs
    · exact ho h
  | fn h => exact .fn h
theorem Fds.evo (l : Owl O H) (e : Evo O H O' H') {vs : List V} {ds : List PyData} (h : Fds K A O H vs ds) : Fds K A O' H' vs ds := ⟨h.1, fun i v d a b => (h.2 i v d a b).evo l e⟩
theorem Fds.same (e : Same H H') {vs : List V} {ds : List PyData} (h : Fds K A O H vs ds) : Fds K A O H' vs ds := ⟨h.1, fun i v d a b => (h.2 i v d a b).same e⟩
theorem Fds.less (s : ∀ a, O' a → O a) {vs : List V} {ds : List PyData} (h : Fds K A O H vs ds) : Fds K A O' H vs ds := ⟨h.1, fun i v d a b => (h.2 i v d a b).less s⟩
theorem Fds.more {p : Addr} (hp : H p = none) {vs : List V} {ds : List PyData} (h : Fds K A O H vs ds) : Fds K A (Osn O p) H vs ds := ⟨h.1, fun i v d a b => (h.2 i v d a b).more hp⟩
theorem Fds.nil : Fds K A O H [] [] := ⟨rfl, fun i v d h _ => by simp at h⟩
theorem Fds.cons {vs : List V} {ds : List PyData} {v : V} {d : PyData} (hv : Fd K A O H v d) (h : Fds K A O H vs ds) : Fds K A O H (v :: vs) (d :: ds) := by
  refine ⟨by rw [List.length_cons, List.length_cons, h.1], fun i x e h1 h2 => ?_⟩
  match i with
  | 0 =>
    cases h1
    cases h2
    exact hv
  | i + 1 => exact h.2 i x e (by simpa using h1) (by simpa using h2)
theorem Fds.app {vs ws : List V} {ds es : List PyData} (h : Fds K A O H vs ds) (g : Fds K A O H ws es) : Fds K A O H (vs ++ ws) (ds ++ es) := by
  refine ⟨by rw [List.length_append, List.length_append, h.1, g.1], fun i x e h1 h2 => ?_⟩
  have hl := h.1
  by_cases hi : i < vs.length
  · rw [List.getElem?_append_left hi] at h1
    rw [List.getElem?_append_left (by omega)] at h2
    exact h.2 i x e h1 h2
  · rw [List.getElem?_append_right (by omega)] at h1
    rw [List.getElem?_append_right (by omega), ← hl] at h2
    exact g.2 _ x e h1 h2
theorem Fds.snoc {vs : List V} {ds : List PyData} {v : V} {d : PyData} (h : Fds K A O H vs ds) (hv : Fd K A O H v d) : Fds K A O H (vs ++ [v]) (ds ++ [d]) := h.app (.cons hv .nil)
theorem Fds.head {vs : List V} {d : PyData} {ds : List PyData} (h : Fds K A O H vs (d :: ds)) : ∃ v ws, vs = v :: ws ∧ Fd K A O H v d ∧ Fds K A O H ws ds := by
  match vs, h with
  | [], h => exact absurd h.1 (by simp)
  | v :: ws, h => exact ⟨v, ws, rfl, h.2 0 v d rfl rfl, by simpa using h.1, fun i x e h1 h2 => h.2 (i + 1) x e (by simpa using h1) (by simpa using h2)⟩
theorem Fds.nil_inv {vs : List V} (h : Fds K A O H vs []) : vs = [] := List.length_eq_zero_iff.mp h.1
theorem Fds.get {vs : List V} {ds : List PyData} (h : Fds K A O H vs ds) {i : Nat} {d : PyData} (hd : ds[i]? = some d) : ∃ v, vs[i]? = some v ∧ Fd K A O H v d := by
  have hi := (List.getElem?_eq_some_iff.mp hd).1
  have hi' : i < vs.length := by rw [h.1]; exact hi
  exact ⟨vs[i], List.getElem?_eq_getElem hi', h.2 i _ d (List.getElem?_eq_getElem hi') hd⟩
theorem Fds.get' {vs : List V} {ds : List PyData} (h : Fds K A O H vs ds) {i : Nat} {v : V} (hv : vs[i]? = some v) : ∃ d, ds[i]? = some d ∧ Fd K A O H v d := by
  have hi := (List.getElem?_eq_some_iff.mp hv).1
  have hi' : i < ds.length := by rw [← h.1]; exact hi
  exact ⟨ds[i], List.getElem?_eq_getElem hi', h.2 i v _ hv (List.getElem?_eq_getElem hi')⟩
theorem Fds.drop {vs : List V} {ds : List PyData} (n : Nat) (h : Fds K A O H vs ds) : Fds K A O H (vs.drop n) (ds.drop n) := ⟨by rw [List.length_drop, List.length_drop, h.1], fun i v d h1 h2 => h.2 (n + i) v d (by rw [← List.getElem?_drop]; exact h1) (by rw [← List.getElem?_drop]; exact h2)⟩
theorem Fds.take {vs : List V} {ds : List PyData} (n : Nat) (h : Fds K A O H vs ds) : Fds K A O H (vs.take n) (ds.take n) := ⟨by rw [List.length_take, List.length_take, h.1], fun i v d h1 h2 => by
  rw [List.getElem?_take] at h1 h2
  split at h1
  · rename_i hi
    rw [if_pos hi] at h2
    exact h.2 i v d h1 h2
  · cases h1⟩
theorem Fds.reverse {xs : List V} {ds : List PyData} (h : Fds K A O H xs ds) : Fds K A O H xs.reverse ds.reverse := by
  refine ⟨by rw [List.length_reverse, List.length_reverse, h.1], fun i v d h1 h2 => ?_⟩
  have hl := h.1
  by_cases hi : i < xs.length
  · rw [List.getElem?_reverse hi] at h1
    rw [List.getElem?_reverse (by omega), ← hl] at h2
    exact h.2 _ v d h1 h2
  · rw [List.getElem?_eq_none (by rw [List.length_reverse]; omega)] at h1
    cases h1
theorem Fds.tup {vs : List V} {ds : List PyData} {a : Addr} (h : Fds K A O H vs ds) (ha : SqT K H a vs) : Fd K A O H (.ref a) (.tuple ds) := .tup ha h.1 h.2
theorem Fds.lst {vs : List V} {ds : List PyData} {a : Addr} (h : Fds K A O H vs ds) (ha : H a = some (.lst vs)) (ho : ¬ O a) : Fd K A O H (.ref a) (.list ds) := .lst ha ho h.1 h.2
theorem Fd.tup_inv {v : V} {ds : List PyData} (h : Fd K A O H v (.tuple ds)) : ∃ a xs, v = .ref a ∧ SqT K H a xs ∧ Fds K A O H xs ds := by
  cases h with
  | tup hs hl q => exact ⟨_, _, rfl, hs, hl, q⟩
theorem Fd.lst_inv {v : V} {ds : List PyData} (h : Fd K A O H v (.list ds)) : ∃ a xs, v = .ref a ∧ H a = some (.lst xs) ∧ ¬ O a ∧ Fds K A O H xs ds := by
  cases h with
  | lst hs ho hl q => exact ⟨_, _, rfl, hs, ho, hl, q⟩
theorem Fd.int_inv {v : V} {i : Int} (h : Fd K A O H v (.int i)) : v = .int i := by cases h; rfl
theorem Fd.str_inv {v : V} {x : Str} (h : Fd K A O H v (.str x)) : v = .str x := by cases h; rfl
theorem Fd.bl_inv {v : V} {x : Bool} (h : Fd K A O H v (.bool x)) : v = .bl x := by cases h; rfl
theorem Fd.non_inv {v : V} (h : Fd K A O H v .none) : v = .non := by cases h; rfl
theorem dp_all : ∀ {vs : List V} {ds : List PyData}, vs.length = ds.length → (∀ (i : Nat) v d, vs[i]? = some v → ds[i]? = some d → Dp K H v d) → DpAll K H vs ds
  | [], [], _, _ => .nil
  | [], _ :: _, h, _ => by simp at h
  | _ :: _, [], h, _ => by simp at h
  | x :: xs, d :: ds, h, q => .cons (q 0 x d rfl rfl) (dp_all (by simpa using h) fun i v e h1 h2 => q (i + 1) v e (by simpa using h1) (by simpa using h2))
theorem lay_of_all : ∀ {ds : List PyData}, PyData.canLayAll0 ds = true → ∀ d ∈ ds, d.canLay0 = true
  | [], _, _, h => by cases h
  | d :: ds, h, e, he => by
    unfold PyData.canLayAll0 at h
    obtain ⟨h1, h2⟩ := Bool.and_eq_true_iff.mp h
    rcases List.mem_cons.mp he with rfl | he
    · exact h1
    · exact lay_of_all h2 e he
theorem Fd.dp {v : V} {d : PyData} (h : Fd K A O H v d) (hc : d.canLay0 = true) : Dp K H v d := by
  induction h with
  | non => exact .non
  | bl b => exact .bl b
  | int i => exact .int i
  | str x => exact .str x
  | tup hs hl _ ih => exact .tup hs (dp_all hl fun i v d h1 h2 => ih i v d h1 h2 (lay_of_all (by simpa [PyData.canLay0] using hc) d (List.mem_of_getElem? h2)))
  | lst hs _ hl _ ih => exact .lst (sq_of hs) (dp_all hl fun i v d h1 h2 => ih i v d h1 h2 (lay_of_all (by simpa [PyData.canLay0] using hc) d (List.mem_of_getElem? h2)))
  | fn h => simp [PyData.canLay0] at hc
theorem Fd.dps {v : V} {d : PyData} (h : Fd K A O H v d) (hc : SeqAt.shaped d = true) : Dp K H v d := h.dp (SeqAt.canLay_of_shaped hc)
theorem Fd.of_vd {v : V} {d : PyData} (h : Cr.Vd K H v d) : Fd K A O H v d := by
  induction h with
  | int i => exact .int i
  | str x => exact .str x
  | tup hs hl _ ih => exact .tup hs hl ih
mutual
def flatD : PyData → Bool
  | .int _ => true
  | .str _ => true
  | .tuple ds => flatDs ds
  | _ => false
def flatDs : List PyData → Bool
  | [] => true
  | d :: ds => flatD d && flatDs ds
end
theorem flatDs_mem : ∀ {ds : List PyData}, flatDs ds = true → ∀ d ∈ ds, flatD d = true
  | [], _, _, h => by cases h
  | d :: ds, h, e, he => by
    unfold flatDs at h
    obtain ⟨h1, h2⟩ := Bool.and_eq_true_iff.mp h
    rcases List.mem_cons.mp he with rfl | he
    · exact h1
    · exact flatDs_mem h2 e he
theorem flatDs_of : ∀ {ds : List PyData}, (∀ d ∈ ds, flatD d = true) → flatDs ds = true
  | [], _ => by unfold flatDs; rfl
  | d :: ds, h => by
    unfold flatDs
    rw [h d List.mem_cons_self, flatDs_of fun e he => h e (List.mem_cons_of_mem _ he)]
    rfl
theorem Fd.vd {v : V} {d : PyData} (h : Fd K A O H v d) (hc : flatD d = true) : Cr.Vd K H v d := by
  induction h with
  | non => simp [flatD] at hc
  | bl b => simp [flatD] at hc
  | int i => exact .int i
  | str x => exact .str x
  | tup hs hl _ ih => exact .tup hs hl fun i v d h1 h2 => ih i v d h1 h2 (flatDs_mem (by simpa [flatD] using hc) d (List.mem_of_getElem? h2))
  | lst => simp [flatD] at hc
  | fn h => simp [flatD] at hc
end
mutual
def keyN : PyData → Option NestedKey
  | .int i => some (.num i)
  | .str x => some (.text x)
  | .tuple ds => (keyNs ds).map .tup
  | _ => none
def keyNs : List PyData → Option (List NestedKey)
  | [] => some []
  | d :: ds => (keyN d).bind fun k => (keyNs ds).bind fun ks => some (k :: ks)
end
inductive OC where
  | l (ds : List PyData) | d (hw : NestedKey → Int) (lk : Bool) (kvs : List (PyData × PyData))
def DxO (hw : NestedKey → Int) (a : Addr) (ks : List (NestedKey × Addr × V)) : HO := .ext fun h => ks.length ≤ sizeLine ∧ (a == sysModules) = false ∧ ∃ xs : List (NestedKey × Addr × Value),
  Paired (fun (p : NestedKey × Addr × V) (q : NestedKey × Addr × Value) => p.1 = q.1 ∧ p.2.1 = q.2.1 ∧ RelV p.2.2 q.2.2) ks xs ∧
  ∃ o es ep, h.get? a = some o ∧ o.ExactDict ∧ o.data = .dict es ep ∧ es.toList = xs.map (fun x => ⟨hw x.1, .ref x.2.1, x.2.2⟩) ∧ (xs.map (·.1)).Nodup
inductive DicO (hw : NestedKey → Int) (a : Addr) : HO → List V → List V → List PyData → Prop
  | k (ks : List (Key × V)) (ds : List PyData) : DicO hw a (.dK ks) (ks.map fun q => kV q.1) (ks.map (·.2)) ds
  | t (ks : List (NestedKey × Addr × V)) : ks ≠ [] → (∀ q ∈ ks, q.1.depth ≤ 8 ∧ keyN q.1.data = some q.1) → DicO hw a (DxO hw a ks) (ks.map fun q => .ref q.2.1) (ks.map (·.2.2)) (ks.map fun q => q.1.data)
def Lk (lk : Bool) (u u0 : HO) : Prop := (lk = false ∧ u = u0) ∨ (lk = true ∧ ∃ o, u = .frz o u0)
def DicL (hw : NestedKey → Int) (a : Addr) (lk : Bool) (u : HO) (ks vs : List V) (ds : List PyData) : Prop := ∃ u0, Lk lk u u0 ∧ DicO hw a u0 ks vs ds
def OwnO (K : PySem.W.Frag) (A : Atm) (O : Addr → Prop) (H : Hp) (p : Addr) (u : HO) : OC → Prop
  | .l ds => ∃ xs, u = .lst xs ∧ Fds K A O H xs ds
  | .d hw lk kvs => ∃ ks vs, DicL hw p lk u ks vs (kvs.map (·.1)) ∧ Fds K A O H ks (kvs.map (·.1)) ∧ Fds K A O H vs (kvs.map (·.2))
section
variable {K : PySem.W.Frag} {A : Atm} {O O' : Addr → Prop} {H H' : Hp} {p : Addr} {u : HO} {c : OC}
theorem OwnO.evo (l : Owl O H) (e : Evo O H O' H') (h : OwnO K A O H p u c) : OwnO K A O' H' p u c := by
  cases c with
  | l ds => obtain ⟨xs, h1, h2⟩ := h; exact ⟨xs, h1, h2.evo l e⟩
  | d hw lk kvs => obtain ⟨ks, xs, h1, h2, h3⟩ := h; exact ⟨ks, xs, h1, h2.evo l e, h3.evo l e⟩
theorem OwnO.same (h : OwnO K A O H p u c) (e : Same H H') : OwnO K A O H' p u c := by
  cases c with
  | l ds => obtain ⟨xs, h1, h2⟩ := h; exact ⟨xs, h1, h2.same e⟩
  | d hw lk kvs => obtain ⟨ks, xs, h1, h2, h3⟩ := h; exact ⟨ks, xs, h1, h2.same e, h3.same e⟩
theorem OwnO.less (h : OwnO K A O H p u c) (s : ∀ a, O' a → O a) : OwnO K A O' H p u c := by
  cases c with
  | l ds => obtain ⟨xs, h1, h2⟩ := h; exact ⟨xs, h1, h2.less s⟩
  | d hw lk kvs => obtain ⟨ks, xs, h1, h2, h3⟩ := h; exact ⟨ks, xs, h1, h2.less s, h3.less s⟩
theorem OwnO.more (h : OwnO K A O H p u c) {q : Addr} (hp : H q = none) : OwnO K A (Osn O q) H p u c := by
  cases c with
  | l ds => obtain ⟨xs, h1, h2⟩ := h; exact ⟨xs, h1, h2.more hp⟩
  | d hw lk kvs => obtain ⟨ks, xs, h1, h2, h3⟩ := h; exact ⟨ks, xs, h1, h2.more hp, h3.more hp⟩
theorem OwnO.mu (h : OwnO K A O H p u c) : Mu u := by
  cases c with
  | l ds => obtain ⟨xs, rfl, _⟩ := h; trivial
  | d hw lk kvs =>
    obtain ⟨ks, xs, h1, _⟩ := h
    generalize kvs.map (·.1) = z at h1
    obtain ⟨u0, h0, h1⟩ := h1
    rcases h0 with ⟨_, rfl⟩ | ⟨_, o, rfl⟩ <;> cases h1 <;> trivial
end
inductive Sl where
  | un | val (d : PyData) | own (c : OC) | fz (hw : NestedKey → Int) (kvs : List (PyData × PyData))
def FzO (K : PySem.W.Frag) (A : Atm) (O : Addr → Prop) (H : Hp) (p : Addr) (hw : NestedKey → Int) (kvs : List (PyData × PyData)) : Prop := ∃ u, ¬ O p ∧ H p = some u ∧ OwnO K A O H p u (.d hw true kvs)
def FzS (K : PySem.W.Frag) (A : Atm) (O : Addr → Prop) (H : Hp) (σ : L2.St) (ρ : List Sl) : Prop := ∀ (i : Nat) (hw : NestedKey → Int) (kvs : List (PyData × PyData)), ρ[i]? = some (Sl.fz hw kvs) → ∃ p, σ[i]? = some (some (V.ref p)) ∧ FzO K A O H p hw kvs
section
variable {K : PySem.W.Frag} {A : Atm} {O O' : Addr → Prop} {σ : L2.St} {H H' : Hp} {ρ : List Sl} {p : Addr} {hw : NestedKey → Int} {kvs : List (PyData × PyData)}
theorem FzO.evo (h : FzO K A O H p hw kvs) (l : Owl O H) (e : Evo O H O' H') : FzO K A O' H' p hw kvs := by
  obtain ⟨u, h1, h2, h3⟩ := h
  exact ⟨u, (e _ _ h2 h1).2, (e _ _ h2 h1).1, h3.evo l e⟩
theorem FzS.evo (h : FzS K A O H σ ρ) (l : Owl O H) (e : Evo O H O' H') : FzS K A O' H' σ ρ := fun i hw kvs hi => by
  obtain ⟨p, h1, h2⟩ := h i hw kvs hi
  exact ⟨p, h1, h2.evo l e⟩
theorem FzO.same (h : FzO K A O H p hw kvs) (e : Same H H') : FzO K A O H' p hw kvs := by
  obtain ⟨u, h1, h2, h3⟩ := h
  exact ⟨u, h1, e _ _ h2, h3.same e⟩
theorem FzS.same (h : FzS K A O H σ ρ) (e : Same H H') : FzS K A O H' σ ρ := fun i hw kvs hi => by
  obtain ⟨p, h1, h2⟩ := h i hw kvs hi
  exact ⟨p, h1, h2.same e⟩
theorem FzO.less (h : FzO K A O H p hw kvs) (s : ∀ a, O' a → O a) : FzO K A O' H p hw kvs := by
  obtain ⟨u, h1, h2, h3⟩ := h
  exact ⟨u, fun g => h1 (s _ g), h2, h3.less s⟩
theorem FzS.less (h : FzS K A O H σ ρ) (s : ∀ a, O' a → O a) : FzS K A O' H σ ρ := fun i hw kvs hi => by
  obtain ⟨p, h1, h2⟩ := h i hw kvs hi
  exact ⟨p, h1, h2.less s⟩
theorem FzO.osn (h : FzO K A O H p hw kvs) {q : Addr} (hq : H q = none) (e : Same H H') : FzO K A (Osn O q) H' p hw kvs := by
  obtain ⟨u, h1, h2, h3⟩ := h
  refine ⟨u, fun g => ?_, e _ _ h2, (h3.more hq).same e⟩
  rcases g with g | g
  · rw [g, hq] at h2
    cases h2
  · exact h1 g
theorem FzS.osn (h : FzS K A O H σ ρ) {q : Addr} (hq : H q = none) (e : Same H H') : FzS K A (Osn O q) H' σ ρ := fun i hw kvs hi => by
  obtain ⟨p, h1, h2⟩ := h i hw kvs hi
  exact ⟨p, h1, h2.osn hq e⟩
theorem FzS.set (h : FzS K A O H σ ρ) (i : Nat) {x : Option V} {s : Sl} (hs : ∀ hw kvs, s ≠ .fz hw kvs) : FzS K A O H (σ.set i x) (ρ.set i s) := fun j hw kvs hj => by
  by_cases hi : i = j
  · subst hi
    rw [List.getElem?_set, if_pos rfl] at hj
    split at hj
    · injection hj with hj
      exact absurd hj (hs _ _)
    · cases hj
  · rw [List.getElem?_set_ne hi] at hj ⊢
    exact h j hw kvs hj
theorem FzS.set' (h : FzS K A O H σ ρ) (i : Nat) {s : Sl} (hs : ∀ hw kvs, s ≠ .fz hw kvs) : FzS K A O H σ (ρ.set i s) := fun j hw kvs hj => by
  by_cases hi : i = j
  · subst hi
    rw [List.getElem?_set, if_pos rfl] at hj
    split at hj
    · injection hj with hj
      exact absurd hj (hs _ _)
    · cases hj
  · rw [List.getElem?_set_ne hi] at hj
    exact h j hw kvs hj
end
structure Rl (K : PySem.W.Frag) (A : Atm) (H0 : Hp) (O0 O : Addr → Prop) (σ : L2.St) (H : Hp) (ρ : List Sl) : Prop where
  len : σ.length = ρ.length
  val : ∀ (i : Nat) (d : PyData), ρ[i]? = some (Sl.val d) → ∃ v, σ[i]? = some (some v) ∧ Fd K A O H v d
  own : ∀ (i : Nat) (ds : OC), ρ[i]? = some (Sl.own ds) → ∃ p u, σ[i]? = some (some (V.ref p)) ∧ O p ∧ H0 p = none ∧ H p = some u ∧ OwnO K A O H p u ds
  inj : ∀ (i j : Nat) (ds es : OC) (p : Addr), ρ[i]? = some (Sl.own ds) → ρ[j]? = some (Sl.own es) → σ[i]? = some (some (V.ref p)) → σ[j]? = some (some (V.ref p)) → i = j
  owl : Owl O H
  frm : Same H0 H
  sub : ∀ a, O0 a → O a
  old : Owl O0 H0
  fz : FzS K A O H σ ρ
section
variable {K : PySem.W.Frag} {A : Atm} {H0 : Hp} {O0 O O' : Addr → Prop} {σ σ' : L2.St} {H H' : Hp} {ρ ρ' : List Sl}
theorem Rl.same (r : Rl K A H0 O0 O σ H ρ) (e : Same H H') : Rl K A H0 O0 O σ H' ρ where
  len := r.len
  val := fun i d h => by
    obtain ⟨v, h1, h2⟩ := r.val i d h
    exact ⟨v, h1, h2.same e⟩
  own := fun i ds h => by
    obtain ⟨p, xs, h1, h2, h3, h4, h5⟩ := r.own i ds h
    exact ⟨p, xs, h1, h2, h3, e _ _ h4, h5.same e⟩
  inj := r.inj
  owl := r.owl.same e
  frm := r.frm.trans e
  sub := r.sub
  old := r.old
  fz := r.fz.same e
theorem Rl.old0 (r : Rl K A H0 O0 O σ H ρ) {p : Addr} (h : H0 p = none) : ¬ O0 p := r.old.none h
theorem Rl.set (r : Rl K A H0 O0 O σ H ρ) (i : Nat) {v : V} {d : PyData} (h : Fd K A O H v d) : Rl K A H0 O0 O (σ.set i (some v)) H (ρ.set i (.val d)) where
  len := by rw [List.length_set, List.length_set, r.len]
  val := fun j e hj => by
    rw [List.getElem?_set] at hj ⊢
    by_cases hi : i = j
    · subst hi
      rw [if_pos rfl] at hj ⊢
      split at hj
      · rename_i hl
        cases hj
        rw [if_pos (by rw [r.len]; exact hl)]
        exact ⟨v, rfl, h⟩
      · cases hj
    · rw [if_neg hi] at hj ⊢
      exact r.val j e hj
  own := fun j es hj => by
    rw [List.getElem?_set] at hj ⊢
    by_cases hi : i = j
    · subst hi
      rw [if_pos rfl] at hj
      split at hj <;> cases hj
    · rw [if_neg hi] at hj ⊢
      exact r.own j es hj
  inj := fun j k ds es p hj hk sj sk => by
    have hij : i ≠ j := fun e => by
      subst e
      rw [List.getElem?_set, if_pos rfl] at hj
      split at hj <;> cases hj
    have hik : i ≠ k := fun e => by
      subst e
      rw [List.getElem?_set, if_pos rfl] at hk
      split at hk <;> cases hk
    rw [List.getElem?_set_ne hij] at hj sj
    rw [List.getElem?_set_ne hik] at hk sk
    exact r.inj j k ds es p hj hk sj sk
  owl := r.owl
  frm := r.frm
  sub := r.sub
  old := r.old
  fz := r.fz.set i (fun _ _ h => nomatch h)
theorem Rl.setOwnC (r : Rl K A H0 O0 O σ H ρ) (i : Nat) {p : Addr} {xs : HO} {ds : OC} (hp : H p = none) (e : Same H H') (hx : H' p = some xs) (h : OwnO K A (Osn O p) H' p xs ds) :
    Rl K A H0 O0 (Osn O p) (σ.set i (some (.ref p))) H' (ρ.set i (.own ds)) where
  len := by rw [List.length_set, List.length_set, r.len]
  val := fun j e' hj => by
    rw [List.getElem?_set] at hj ⊢
    by_cases hi : i = j
    · subst hi
      rw [if_pos rfl] at hj
      split at hj <;> cases hj
    · rw [if_neg hi] at hj ⊢
      obtain ⟨v, h1, h2⟩ := r.val j e' hj
      exact ⟨v, h1, (h2.more hp).same e⟩
  own := fun j es hj => by
    rw [List.getElem?_set] at hj ⊢
    by_cases hi : i = j
    · subst hi
      rw [if_pos rfl] at hj ⊢
      split at hj
      · rename_i hl
        cases hj
        rw [if_pos (by rw [r.len]; exact hl)]
        exact ⟨p, xs, rfl, .inl rfl, r.frm.free hp, hx, h⟩
      · cases hj
    · rw [if_neg hi] at hj ⊢
      obtain ⟨q, ys, h1, h2, h3, h4, h5⟩ := r.own j es hj
      exact ⟨q, ys, h1, .inr h2, h3, e _ _ h4, (h5.more hp).same e⟩
  inj := fun j k es fs q hj hk sj sk => by
    have key : ∀ (j : Nat) (es : OC), (ρ.set i (Sl.own ds))[j]? = some (Sl.own es) → (σ.set i (some (V.ref p)))[j]? = some (some (V.ref q)) → (j = i ∧ q = p) ∨ (j ≠ i ∧ ρ[j]? = some (Sl.own es) ∧ σ[j]? = some (some (V.ref q)) ∧ q ≠ p) := fun j es hj sj => by
      by_cases hi : i = j
      · subst hi
        rw [List.getElem?_set, if_pos rfl] at sj
        split at sj
        · cases sj
          exact .inl ⟨rfl, rfl⟩
        · cases sj
      · rw [List.getElem?_set_ne hi] at hj sj
        refine .inr ⟨fun h => hi h.symm, hj, sj, fun h => ?_⟩
        obtain ⟨q', ys, h1, h2, h3, h4, h5⟩ := r.own j es hj
        rw [sj] at h1
        cases h1
        rw [h, hp] at h4
        cases h4
    rcases key j es hj sj with ⟨a1, a2⟩ | ⟨a1, a2, a3, a4⟩ <;> rcases key k fs hk sk with ⟨b1, b2⟩ | ⟨b1, b2, b3, b4⟩
    · rw [a1, b1]
    · exact absurd a2 b4
    · exact absurd b2 a4
    · exact r.inj j k es fs q a2 b2 a3 b3
  owl := fun a h => by
    rcases h with rfl | h'
    · exact ⟨xs, hx, h.mu⟩
    · exact r.owl.same e a h'
  frm := r.frm.trans e
  sub := fun a h => .inr (r.sub a h)
  old := r.old
  fz := (r.fz.osn hp e).set i (fun _ _ h => nomatch h)
theorem Rl.setOwn (r : Rl K A H0 O0 O σ H ρ) (i : Nat) {p : Addr} {xs : List V} {ds : List PyData} (hp : H p = none) (e : Same H H') (hx : H' p = some (.lst xs)) (h : Fds K A (Osn O p) H' xs ds) :
    Rl K A H0 O0 (Osn O p) (σ.set i (some (.ref p))) H' (ρ.set i (.own (.l ds))) := r.setOwnC i hp e hx ⟨xs, rfl, h⟩
theorem Rl.growC (r : Rl K A H0 O0 O σ H ρ) {i : Nat} {p : Addr} {ds es : OC} {ys : HO} (hi : ρ[i]? = some (.own ds)) (hs : σ[i]? = some (some (V.ref p))) (h : OwnO K A O H p ys es) :
    Rl K A H0 O0 O σ (upd H p ys) (ρ.set i (.own es)) ∧ Evo O H O (upd H p ys) := by
  obtain ⟨p', xs', s1, s2, s3, s4, s5⟩ := r.own i ds hi
  rw [hs] at s1
  cases s1
  have ev : Evo O H O (upd H p ys) := fun a o ha hn => ⟨by
    rw [upd_ne (fun e => by subst e; exact hn s2)]
    exact ha, hn⟩
  refine ⟨⟨by rw [List.length_set, r.len], fun j d hj => ?_, fun j fs hj => ?_, fun j k fs gs q hj hk sj sk => ?_, fun a ha => ?_, fun a o ha => ?_, r.sub, r.old, (r.fz.evo r.owl ev).set' i (fun _ _ h => nomatch h)⟩, ev⟩
  · rw [List.getElem?_set] at hj
    by_cases hij : i = j
    · subst hij
      rw [if_pos rfl] at hj
      split at hj <;> cases hj
    · rw [if_neg hij] at hj
      obtain ⟨v, h1, h2⟩ := r.val j d hj
      exact ⟨v, h1, h2.evo r.owl ev⟩
  · rw [List.getElem?_set] at hj
    by_cases hij : i = j
    · subst hij
      rw [if_pos rfl] at hj
      split at hj
      · cases hj
        exact ⟨p, ys, hs, s2, s3, upd_same, h.evo r.owl ev⟩
      · cases hj
    · rw [if_neg hij] at hj
      obtain ⟨q, zs, h1, h2, h3, h4, h5⟩ := r.own j fs hj
      have hqp : q ≠ p := fun e => by
        subst e
        exact hij (r.inj i j ds fs q hi hj hs h1)
      exact ⟨q, zs, h1, h2, h3, by rw [upd_ne hqp]; exact h4, h5.evo r.owl ev⟩
  · have key : ∀ (j : Nat) (fs : OC), (ρ.set i (Sl.own es))[j]? = some (Sl.own fs) → ∃ gs, ρ[j]? = some (Sl.own gs) := fun j fs hj => by
      by_cases hij : i = j
      · subst hij
        exact ⟨ds, hi⟩
      · rw [List.getElem?_set_ne hij] at hj
        exact ⟨fs, hj⟩
    obtain ⟨f1, h1⟩ := key j fs hj
    obtain ⟨g1, h2⟩ := key k gs hk
    exact r.inj j k f1 g1 q h1 h2 sj sk
  · by_cases hap : a = p
    · subst hap
      exact ⟨ys, upd_same, h.mu⟩
    · rw [upd_ne hap]
      exact r.owl a ha
  · have hap : a ≠ p := fun e => by
      subst e
      rw [s3] at ha
      cases ha
    rw [upd_ne hap]
    exact r.frm a o ha
theorem Rl.grow (r : Rl K A H0 O0 O σ H ρ) {i : Nat} {p : Addr} {ds es : List PyData} {xs ys : List V} (hi : ρ[i]? = some (.own (.l ds))) (hs : σ[i]? = some (some (V.ref p))) (hx : H p = some (.lst xs)) (h : Fds K A O H ys es) :
    Rl K A H0 O0 O σ (upd H p (.lst ys)) (ρ.set i (.own (.l es))) ∧ Evo O H O (upd H p (.lst ys)) := r.growC hi hs ⟨ys, rfl, h⟩
def frz (i : Nat) (ρ : List Sl) : List Sl := match ρ[i]? with
  | some (.own (.l ds)) => ρ.set i (.val (.list ds))
  | _ => ρ
theorem Rl.frz (r : Rl K A H0 O0 O σ H ρ) (i : Nat) : ∃ O', Rl K A H0 O0 O' σ H (frz i ρ) ∧ Evo O H O' H ∧ ∀ a, O' a → O a := by
  unfold Sm.frz
  split
  · rename_i ds hi
    obtain ⟨p, _, s1, s2, s3, s4, xs, rfl, s5⟩ := r.own i _ hi
    have hl : i < σ.length := (List.getElem?_eq_some_iff.mp s1).1
    refine ⟨fun a => O a ∧ a ≠ p, ⟨by rw [List.length_set, r.len], fun j d hj => ?_, fun j fs hj => ?_, fun j k fs gs q hj hk sj sk => ?_, fun a ha => r.owl a ha.1, r.frm, fun a ha => ⟨r.sub a ha, fun e => r.old0 s3 (e ▸ ha)⟩, r.old, (r.fz.less fun a h => h.1).set' i (fun _ _ h => nomatch h)⟩, fun a o ha hn => ⟨ha, fun h => hn h.1⟩, fun a h => h.1⟩
    · rw [List.getElem?_set] at hj
      by_cases hij : i = j
      · subst hij
        rw [if_pos rfl] at hj
        split at hj
        · cases hj
          exact ⟨_, s1, (s5.less fun a h => h.1).lst s4 fun h => h.2 rfl⟩
        · cases hj
      · rw [if_neg hij] at hj
        obtain ⟨v, h1, h2⟩ := r.val j d hj
        exact ⟨v, h1, h2.less fun a h => h.1⟩
    · rw [List.getElem?_set] at hj
      by_cases hij : i = j
      · subst hij
        rw [if_pos rfl] at hj
        split at hj <;> cases hj
      · rw [if_neg hij] at hj
        obtain ⟨q, zs, h1, h2, h3, h4, h5⟩ := r.own j fs hj
        have hqp : q ≠ p := fun e => by
          subst e
          exact hij (r.inj i j _ fs q hi hj s1 h1)
        exact ⟨q, zs, h1, ⟨h2, hqp⟩, h3, h4, h5.less fun a h => h.1⟩
    · have key : ∀ (j : Nat) (fs : OC), (ρ.set i (Sl.val (.list ds)))[j]? = some (Sl.own fs) → ρ[j]? = some (Sl.own fs) := fun j fs hj => by
        by_cases hij : i = j
        · subst hij
          rw [List.getElem?_set, if_pos rfl] at hj
          split at hj <;> cases hj
        · rw [List.getElem?_set_ne hij] at hj
          exact hj
      exact r.inj j k fs gs q (key j fs hj) (key k gs hk) sj sk
  · exact ⟨O, r, .refl, fun _ h => h⟩
theorem Rl.osn (r : Rl K A H0 O0 O σ H ρ) {p : Addr} {xs : List V} (hp : H p = none) (e : Same H H') (hx : H' p = some (.lst xs)) : Rl K A H0 O0 (Osn O p) σ H' ρ where
  len := r.len
  val := fun i d h => by
    obtain ⟨v, h1, h2⟩ := r.val i d h
    exact ⟨v, h1, (h2.more hp).same e⟩
  own := fun i ds h => by
    obtain ⟨q, xs, h1, h2, h3, h4, h5⟩ := r.own i ds h
    exact ⟨q, xs, h1, .inr h2, h3, e _ _ h4, (h5.more hp).same e⟩
  inj := r.inj
  owl := fun a h => by
    rcases h with rfl | h
    · exact ⟨_, hx, trivial⟩
    · exact r.owl.same e a h
  frm := r.frm.trans e
  sub := fun a h => .inr (r.sub a h)
  old := r.old
  fz := r.fz.osn hp e
end
end Sm
set_option maxRecDepth 10000000
namespace Sm
open PySem PySem.Spec PyProof.Rows L2 Evl
abbrev FE := List Sl → Option PyData
abbrev FT := List Sl → Option Bool
abbrev FA := List Sl → Option (List PyData)
abbrev FO := List Sl → Option (Option Int)
abbrev F1 := PyData → Option PyData
abbrev F2 := PyData → PyData → Option PyData
abbrev Fn := List PyData → Option PyData
section
variable (K : PySem.W.Frag) (A : Atm)
def SE (t : TE) (f : FE) : Prop := ∀ {H0 : Hp} {O0 O : Addr → Prop} {σ : L2.St} {H : Hp} {ρ : List Sl}, Rl K A H0 O0 O σ H ρ → ∀ d, f ρ = some d → ∀ Q : VK, (∀ v H', Same H H' → Fd K A O H' v d → Q v H') → t σ H Q
def ST (t : TT) (f : FT) : Prop := ∀ {H0 : Hp} {O0 O : Addr → Prop} {σ : L2.St} {H : Hp} {ρ : List Sl}, Rl K A H0 O0 O σ H ρ → ∀ b, f ρ = some b → ∀ Q : Bool → Hp → Prop, (∀ H', Same H H' → Q b H') → t σ H Q
def SA (t : TA) (f : FA) : Prop := ∀ {H0 : Hp} {O0 O : Addr → Prop} {σ : L2.St} {H : Hp} {ρ : List Sl}, Rl K A H0 O0 O σ H ρ → ∀ ds, f ρ = some ds → ∀ Q : List V → Hp → Prop, (∀ vs H', Same H H' → Fds K A O H' vs ds → Q vs H') → t σ H Q
def SL (t : TE) (f : FA) : Prop := ∀ {H0 : Hp} {O0 O : Addr → Prop} {σ : L2.St} {H : Hp} {ρ : List Sl}, Rl K A H0 O0 O σ H ρ → ∀ ds, f ρ = some ds → ∀ Q : VK, (∀ p xs H', H p = none → Same H H' → H' p = some (.lst xs) → Fds K A (Osn O p) H' xs ds → Q (.ref p) H') → t σ H Q
def SO (t : TO) (f : FO) : Prop := ∀ {H0 : Hp} {O0 O : Addr → Prop} {σ : L2.St} {H : Hp} {ρ : List Sl}, Rl K A H0 O0 O σ H ρ → ∀ o, f ρ = some o → ∀ Q : Option Int → Hp → Prop, (∀ H', Same H H' → Q o H') → t σ H Q
def RD (r : R2) (g : F2) : Prop := ∀ {O : Addr → Prop} {H : Hp} {x y : V} {a b : PyData}, Owl O H → Fd K A O H x a → Fd K A O H y b → ∀ c, g a b = some c → ∀ Q : VK, (∀ v H', Same H H' → Fd K A O H' v c → Q v H') → r x y H Q
def RDL (r : R2) (g : PyData → PyData → Option (List PyData)) : Prop := ∀ {O : Addr → Prop} {H : Hp} {x y : V} {a b : PyData}, Owl O H → Fd K A O H x a → Fd K A O H y b → ∀ ds, g a b = some ds → ∀ Q : VK, (∀ p xs H', H p = none → Same H H' → H' p = some (.lst xs) → Fds K A (Osn O p) H' xs ds → Q (.ref p) H') → r x y H Q
def RU1 (r : V → Hp → VK → Prop) (g : F1) : Prop := ∀ {O : Addr → Prop} {H : Hp} {x : V} {a : PyData}, Owl O H → Fd K A O H x a → ∀ c, g a = some c → ∀ Q : VK, (∀ v H', Same H H' → Fd K A O H' v c → Q v H') → r x H Q
def RDs (r : List V → Hp → VK → Prop) (g : Fn) : Prop := ∀ {O : Addr → Prop} {H : Hp} {xs : List V} {ds : List PyData}, Owl O H → Fds K A O H xs ds → ∀ c, g ds = some c → ∀ Q : VK, (∀ v H', Same H H' → Fd K A O H' v c → Q v H') → r xs H Q
def RDsL (r : List V → Hp → VK → Prop) (g : List PyData → Option (List PyData)) : Prop := ∀ {O : Addr → Prop} {H : Hp} {xs : List V} {ds : List PyData}, Owl O H → Fds K A O H xs ds → ∀ es, g ds = some es → ∀ Q : VK, (∀ p ys H', H p = none → Same H H' → H' p = some (.lst ys) → Fds K A (Osn O p) H' ys es → Q (.ref p) H') → r xs H Q
end
def fVar (i : Nat) : FE := fun ρ => match ρ[i]? with
  | some (.val d) => some d
  | _ => none
def fC (d : PyData) : FE := fun _ => some d
def fOp (g : F2) (fa fb : FE) : FE := fun ρ => (fa ρ).bind fun a => (fb ρ).bind fun b => g a b
def fOpL (g : PyData → PyData → Option (List PyData)) (fa fb : FE) : FA := fun ρ => (fa ρ).bind fun a => (fb ρ).bind fun b => g a b
def fUn (g : F1) (fa : FE) : FE := fun ρ => (fa ρ).bind g
def fNil : FA := fun _ => some []
def fCons (fe : FE) (fr : FA) : FA := fun ρ => (fe ρ).bind fun a => (fr ρ).bind fun r => some (a :: r)
def asB : PyData → Option Bool
  | .bool b => some b
  | _ => none
def fB (fe : FE) : FT := fun ρ => (fe ρ).bind asB
def fAnd (a b : FT) : FT := fun ρ => (a ρ).bind fun x => if x then b ρ else some false
def fOr (a b : FT) : FT := fun ρ => (a ρ).bind fun x => if x then some true else b ρ
def fNot (a : FT) : FT := fun ρ => (a ρ).bind fun x => some (!x)
def fAndV (a b : FE) : FE := fun ρ => (a ρ).bind fun x => (asB x).bind fun x => if x then b ρ else some (.bool false)
def fOrV (a b : FE) : FE := fun ρ => (a ρ).bind fun x => (asB x).bind fun x => if x then some (.bool true) else b ρ
def fNotV (a : FE) : FE := fun ρ => (a ρ).bind fun x => (asB x).bind fun x => some (.bool (!x))
def fIf (t : FT) (a b : FE) : FE := fun ρ => (t ρ).bind fun x => if x then a ρ else b ρ
def fChain (g g' : F2) (a b c : FE) : FE := fun ρ => (a ρ).bind fun x => (b ρ).bind fun y => (g x y).bind fun z => (asB z).bind fun z => if z then (c ρ).bind fun w => g' y w else some (.bool false)
def lim {α : Type} (n : Nat) (x : α) : Option α := if n ≤ 10000000 then some x else none
def fTup (fs : FA) : FE := fun ρ => (fs ρ).bind fun ds => lim ds.length (.tuple ds)
def fLst (fs : FA) : FA := fun ρ => (fs ρ).bind fun ds => lim ds.length ds
def fNoPart : FO := fun _ => some none
def fPart (fe : FE) : FO := fun ρ => (fe ρ).bind fun d => match d with
  | .int i => some (some i)
  | _ => none
def fSl (g : PyData → Option Int → Option Int → Option PyData) (fe : FE) (fl fh : FO) : FE := fun ρ => (fe ρ).bind fun d => (fl ρ).bind fun l => (fh ρ).bind fun h => g d l h
def fCall (fn : Fn) (fa : FA) : FE := fun ρ => (fa ρ).bind fn
def fCallL (fn : List PyData → Option (List PyData)) (fa : FA) : FA := fun ρ => (fa ρ).bind fn
theorem lim_some {α : Type} {n : Nat} {x y : α} (h : lim n x = some y) : n ≤ 10000000 ∧ x = y := by
  unfold lim at h
  split at h
  · rename_i hn
    exact ⟨hn, Option.some.inj h⟩
  · cases h
section
variable {K : PySem.W.Frag} {A : Atm} {ta tb tc te : TE} {fa fb fc fe : FE} {tt tu : TT} {ft fu : FT} {tas : TA} {fas : FA} {r r' : R2} {g g' : F2}
theorem bind_some' {α β : Type} {o : Option α} {f : α → Option β} {y : β} (h : o.bind f = some y) : ∃ x, o = some x ∧ f x = some y := Option.bind_eq_some_iff.mp h
theorem se_var (i : Nat) : SE K A (tVar i) (fVar i) := fun r d h Q q => by
  unfold fVar at h
  split at h
  · rename_i e hi
    cases h
    obtain ⟨v, h1, h2⟩ := r.val i d hi
    exact ⟨v, h1, q v _ (.refl _) h2⟩
  · cases h
theorem se_c {v : V} {d : PyData} (h : ∀ O H, Fd K A O H v d) : SE K A (tC v) (fC d) := fun r e he Q q => by
  cases he
  exact q v _ (.refl _) (h _ _)
theorem se_int {i : Int} : SE K A (tC (.int i)) (fC (.int i)) := se_c fun _ _ => .int i
theorem se_str {x : Str} : SE K A (tC (.str x)) (fC (.str x)) := se_c fun _ _ => .str x
theorem se_bl {b : Bool} : SE K A (tC (.bl b)) (fC (.bool b)) := se_c fun _ _ => .bl b
theorem se_non : SE K A (tC .non) (fC .none) := se_c fun _ _ => .non
theorem se_op (ha : SE K A ta fa) (hb : SE K A tb fb) (hr : RD K A r g) : SE K A (tOp r ta tb) (fOp g fa fb) := fun R d h Q q => by
  obtain ⟨a, h1, h⟩ := bind_some' h
  obtain ⟨b, h2, h⟩ := bind_some' h
  refine ha R a h1 _ fun x H1 e1 hx => hb (R.same e1) b h2 _ fun y H2 e2 hy => ?_
  exact hr (R.owl.same (e1.trans e2)) (hx.same e2) hy d h Q fun v H3 e3 hv => q v H3 ((e1.trans e2).trans e3) hv
theorem sl_op {r : R2} {g : PyData → PyData → Option (List PyData)} (ha : SE K A ta fa) (hb : SE K A tb fb) (hr : RDL K A r g) : SL K A (tOp r ta tb) (fOpL g fa fb) := fun R d h Q q => by
  obtain ⟨a, h1, h⟩ := bind_some' h
  obtain ⟨b, h2, h⟩ := bind_some' h
  refine ha R a h1 _ fun x H1 e1 hx => hb (R.same e1) b h2 _ fun y H2 e2 hy => ?_
  exact hr (R.owl.same (e1.trans e2)) (hx.same e2) hy d h Q fun p xs H3 hp e3 hq hv => q p xs H3 ((e1.trans e2).free hp) ((e1.trans e2).trans e3) hq hv
theorem se_un {r : V → Hp → VK → Prop} {g : F1} (ha : SE K A ta fa) (hr : RU1 K A r g) : SE K A (tUn r ta) (fUn g fa) := fun R d h Q q => by
  obtain ⟨a, h1, h⟩ := bind_some' h
  exact ha R a h1 _ fun x H1 e1 hx => hr (R.owl.same e1) hx d h Q fun v H2 e2 hv => q v H2 (e1.trans e2) hv
theorem sa_nil : SA K A tNil fNil := fun R ds h Q q => by
  cases h
  exact q [] _ (.refl _) .nil
theorem sa_cons (ha : SE K A ta fa) (hr : SA K A tas fas) : SA K A (tCons ta tas) (fCons fa fas) := fun R d h Q q => by
  obtain ⟨a, h1, h⟩ := bind_some' h
  obtain ⟨ds, h2, h⟩ := bind_some' h
  cases h
  exact ha R a h1 _ fun x H1 e1 hx => hr (R.same e1) ds h2 _ fun vs H2 e2 hvs => q _ H2 (e1.trans e2) (.cons (hx.same e2) hvs)
theorem st_B (h : SE K A te fe) : ST K A (tB te) (fB fe) := fun R b hb Q q => by
  obtain ⟨d, h1, h2⟩ := bind_some' hb
  cases d <;> try cases h2
  exact h R _ h1 _ fun v H1 e1 hv => ⟨b, hv.bl_inv, q H1 e1⟩
theorem st_test (h : SE K A te fe) : ST K A (tTest te) (fB fe) := fun R b hb Q q => by
  obtain ⟨d, h1, h2⟩ := bind_some' hb
  cases d <;> try cases h2
  exact h R _ h1 _ fun v H1 e1 hv => ⟨b, hv.bl_inv, q H1 e1⟩
theorem st_and (h : ST K A tt ft) (h' : ST K A tu fu) : ST K A (tAnd tt tu) (fAnd ft fu) := fun R b hb Q q => by
  obtain ⟨x, h1, h2⟩ := bind_some' hb
  refine h R x h1 _ fun H1 e1 => ?_
  cases x with
  | true => exact iteT (h' (R.same e1) b h2 Q fun H2 e2 => q H2 (e1.trans e2))
  | false =>
    cases h2
    exact iteF (q H1 e1)
theorem st_or (h : ST K A tt ft) (h' : ST K A tu fu) : ST K A (tOr tt tu) (fOr ft fu) := fun R b hb Q q => by
  obtain ⟨x, h1, h2⟩ := bind_some' hb
  refine h R x h1 _ fun H1 e1 => ?_
  cases x with
  | false => exact iteF (h' (R.same e1) b h2 Q fun H2 e2 => q H2 (e1.trans e2))
  | true =>
    cases h2
    exact iteT (q H1 e1)
theorem st_not (h : ST K A tt ft) : ST K A (tNot tt) (fNot ft) := fun R b hb Q q => by
  obtain ⟨x, h1, h2⟩ := bind_some' hb
  cases h2
  exact h R x h1 _ fun H1 e1 => q H1 e1
theorem st_yes : ST K A tYes (fun _ => some true) := fun R b hb Q q => by
  cases hb
  exact q _ (.refl _)
theorem asB_some {d : PyData} {b : Bool} (h : asB d = some b) : d = .bool b := by
  cases d <;> first | (cases h; rfl) | cases h
theorem se_and (ha : SE K A ta fa) (hb : SE K A tb fb) : SE K A (tAndV ta tb) (fAndV fa fb) := fun R d h Q q => by
  obtain ⟨x, h1, h⟩ := bind_some' h
  obtain ⟨c, h2, h⟩ := bind_some' h
  cases asB_some h2
  refine ha R _ h1 _ fun v H1 e1 hv => ⟨c, hv.bl_inv, ?_⟩
  cases c with
  | true => exact iteT (hb (R.same e1) d h Q fun v H2 e2 hv => q v H2 (e1.trans e2) hv)
  | false =>
    cases h
    exact iteF (q _ H1 e1 (.bl _))
theorem se_if (ht : ST K A tt ft) (ha : SE K A ta fa) (hb : SE K A tb fb) : SE K A (tIf tt ta tb) (fIf ft fa fb) := fun R d h Q q => by
  obtain ⟨x, h1, h⟩ := bind_some' h
  refine ht R x h1 _ fun H1 e1 => ?_
  cases x with
  | true => exact iteT (ha (R.same e1) d h Q fun v H2 e2 hv => q v H2 (e1.trans e2) hv)
  | false => exact iteF (hb (R.same e1) d h Q fun v H2 e2 hv => q v H2 (e1.trans e2) hv)
theorem se_chain (ha : SE K A ta fa) (hb : SE K A tb fb) (hc : SE K A tc fc) (hr : RD K A r g) (hr' : RD K A r' g') : SE K A (tChain r r' ta tb tc) (fChain g g' fa fb fc) := fun R d h Q q => by
  obtain ⟨x, h1, h⟩ := bind_some' h
  obtain ⟨y, h2, h⟩ := bind_some' h
  obtain ⟨z, h3, h⟩ := bind_some' h
  obtain ⟨c, h4, h⟩ := bind_some' h
  cases asB_some h4
  refine ha R x h1 _ fun vx H1 e1 hx => hb (R.same e1) y h2 _ fun vy H2 e2 hy => hr (R.owl.same (e1.trans e2)) (hx.same e2) hy _ h3 _ fun vz H3 e3 hz => ⟨c, hz.bl_inv, ?_⟩
  have e13 := (e1.trans e2).trans e3
  cases c with
  | true =>
    refine iteT ?_
    have h : ((fc _).bind fun w => g' y w) = some d := h
    obtain ⟨w, h5, h⟩ := bind_some' h
    exact hc (R.same e13) w h5 _ fun vw H4 e4 hw => hr' (R.owl.same (e13.trans e4)) (hy.same (e3.trans e4)) hw d h Q fun v H5 e5 hv => q v H5 ((e13.trans e4).trans e5) hv
  | false =>
    cases h
    exact iteF (q _ H3 e13 (.bl _))
theorem sz100 {n : Nat} (h : n ≤ 10000000) : n ≤ sizeLine := Nat.le_trans h (by decide)
theorem se_tup (h : SA K A tas fas) : SE K A (tTup tas) (fTup fas) := fun R d hd Q q => by
  obtain ⟨ds, h1, h2⟩ := bind_some' hd
  obtain ⟨h3, rfl⟩ := lim_some h2
  exact h R ds h1 _ fun vs H1 e1 hvs => ⟨sz100 (by rw [hvs.1]; exact h3), fun p hp => q _ _ (e1.trans (Cr.same_new hp)) ((hvs.same (Cr.same_new hp)).tup (.of upd_same))⟩
theorem sl_lst (h : SA K A tas fas) : SL K A (tLst tas) (fLst fas) := fun R d hd Q q => by
  obtain ⟨ds, h1, h2⟩ := bind_some' hd
  obtain ⟨h3, rfl⟩ := lim_some h2
  exact h R ds h1 _ fun vs H1 e1 hvs => ⟨sz100 (by rw [hvs.1]; exact h3), fun p hp => q p vs _ (e1.free hp) (e1.trans (Cr.same_new hp)) upd_same ((hvs.more hp).same (Cr.same_new hp))⟩
def fV (f : FA) : FE := fun ρ => (f ρ).bind fun ds => some (.list ds)
theorem se_l (h : SL K A te fas) : SE K A te (fV fas) := fun R d hd Q q => by
  obtain ⟨ds, h1, h2⟩ := bind_some' hd
  cases h2
  exact h R ds h1 _ fun p xs H1 hp e1 hx hxs => q _ H1 e1 ((hxs.less fun a h => .inr h).lst hx (R.owl.none hp))
theorem so_none : SO K A tNoPart fNoPart := fun R o h Q q => by
  cases h
  exact q _ (.refl _)
theorem so_some (h : SE K A te fe) : SO K A (tPart te) (fPart fe) := fun R o ho Q q => by
  obtain ⟨d, h1, h2⟩ := bind_some' ho
  cases d <;> try cases h2
  exact h R _ h1 _ fun v H1 e1 hv => ⟨_, hv.int_inv, q H1 e1⟩
def RS (K : PySem.W.Frag) (A : Atm) (r : V → Option Int → Option Int → Hp → VK → Prop) (g : PyData → Option Int → Option Int → Option PyData) : Prop := ∀ {O : Addr → Prop} {H : Hp} {x : V} {a : PyData}, Owl O H → Fd K A O H x a → ∀ lo hi c, g a lo hi = some c → ∀ Q : VK, (∀ v H', Same H H' → Fd K A O H' v c → Q v H') → r x lo hi H Q
theorem se_sl {r : V → Option Int → Option Int → Hp → VK → Prop} {g : PyData → Option Int → Option Int → Option PyData} {tl th : TO} {fl fh : FO} (h : SE K A te fe) (hl : SO K A tl fl) (hh : SO K A th fh) (hr : RS K A r g) : SE K A (tSl r te tl th) (fSl g fe fl fh) := fun R d hd Q q => by
  obtain ⟨a, h1, hd⟩ := bind_some' hd
  obtain ⟨l, h2, hd⟩ := bind_some' hd
  obtain ⟨u, h3, hd⟩ := bind_some' hd
  exact h R a h1 _ fun x H1 e1 hx => hl (R.same e1) l h2 _ fun H2 e2 => hh (R.same (e1.trans e2)) u h3 _ fun H3 e3 =>
    hr (R.owl.same ((e1.trans e2).trans e3)) (hx.same (e2.trans e3)) l u d hd Q fun v H4 e4 hv => q v H4 (((e1.trans e2).trans e3).trans e4) hv
theorem se_cb {r : List V → Hp → VK → Prop} {gn : Fn} (h : SA K A tas fas) (hr : RDs K A r gn) : SE K A (tCB r tas) (fCall gn fas) := fun R d hd Q q => by
  obtain ⟨ds, h1, h2⟩ := bind_some' hd
  exact h R ds h1 _ fun vs H1 e1 hvs => hr (R.owl.same e1) hvs d h2 Q fun v H2 e2 hv => q v H2 (e1.trans e2) hv
theorem sl_cb {r : List V → Hp → VK → Prop} {gn : List PyData → Option (List PyData)} (h : SA K A tas fas) (hr : RDsL K A r gn) : SL K A (tCB r tas) (fCallL gn fas) := fun R d hd Q q => by
  obtain ⟨ds, h1, h2⟩ := bind_some' hd
  exact h R ds h1 _ fun vs H1 e1 hvs => hr (R.owl.same e1) hvs d h2 Q fun p xs H2 hp e2 hx hv => q p xs H2 (e1.free hp) (e1.trans e2) hx hv
def spF (K : PySem.W.Frag) (A : Atm) (fn : Fn) : Sp := fun vs H Q _ => ∃ (O : Addr → Prop) (ds : List PyData) (r : PyData), Owl O H ∧ Fds K A O H vs ds ∧ fn ds = some r ∧ ∀ v H', Same H H' → Fd K A O H' v r → Q v H'
theorem se_call {E : XK} {fn : Fn} (h : SA K A tas fas) : SE K A (tCall (spF K A fn) [] E tas) (fCall fn fas) := fun {H0 O0 O σ H ρ} R d hd Q q => by
  obtain ⟨ds, h1, h2⟩ := bind_some' hd
  exact h R ds h1 _ fun vs H1 e1 hvs => ⟨O, ds, d, R.owl.same e1, by rw [List.append_nil]; exact hvs, h2, fun v H2 e2 hv => q v H2 (e1.trans e2) hv⟩
end
end Sm
set_option maxRecDepth 10000000
namespace Sm
open PySem PySem.Spec PyProof.Rows L2 Evl
inductive Fl where
  | nx | bk | ct | rt (d : PyData)
abbrev FS := List Sl → Option (Fl × List Sl)
def Post (K : PySem.W.Frag) (A : Atm) (H0 : Hp) (O0 O : Addr → Prop) (H : Hp) (D : Ends) (o : Fl × List Sl) : Prop := match o.1 with
  | .nx => ∀ σ' H' O', Rl K A H0 O0 O' σ' H' o.2 → Evo O H O' H' → D.nx σ' H'
  | .bk => ∀ σ' H' O', Rl K A H0 O0 O' σ' H' o.2 → Evo O H O' H' → D.bk σ' H'
  | .ct => ∀ σ' H' O', Rl K A H0 O0 O' σ' H' o.2 → Evo O H O' H' → D.ct σ' H'
  | .rt d => ∀ v H', Same H0 H' → Fd K A O0 H' v d → D.rt v H'
def SS (K : PySem.W.Frag) (A : Atm) (t : TS) (f : FS) : Prop := ∀ {H0 : Hp} {O0 O : Addr → Prop} {σ : L2.St} {H : Hp} {ρ : List Sl}, Rl K A H0 O0 O σ H ρ → ∀ o, f ρ = some o → ∀ D : Ends, Post K A H0 O0 O H D o → t D σ H
def SG (K : PySem.W.Frag) (A : Atm) (g : TG) (f : PyData → List Sl → Option (List Sl)) (ws : List Nat) : Prop := ∀ {H0 : Hp} {O0 O : Addr → Prop} {σ : L2.St} {H : Hp} {ρ : List Sl} {v : V} {d : PyData}, Rl K A H0 O0 O σ H ρ → Fd K A O H v d → ∀ ρ', f d ρ = some ρ' → ∀ Q : L2.St → Hp → Prop, (∀ σ', Rl K A H0 O0 O σ' H ρ' → σ'.length = σ.length → (∀ i, i ∉ ws → σ'[i]? = σ[i]?) → (∀ (i : Nat) (es : OC), ρ'[i]? = some (Sl.own es) → ρ[i]? = some (Sl.own es) ∧ i ∉ ws) → Q σ' H) → g v σ H Q
def SGs (K : PySem.W.Frag) (A : Atm) (g : TGs) (f : List PyData → List Sl → Option (List Sl)) (ws : List Nat) : Prop := ∀ {H0 : Hp} {O0 O : Addr → Prop} {σ : L2.St} {H : Hp} {ρ : List Sl} {vs : List V} {ds : List PyData}, Rl K A H0 O0 O σ H ρ → Fds K A O H vs ds → ∀ ρ', f ds ρ = some ρ' → ∀ Q : L2.St → Hp → Prop, (∀ σ', Rl K A H0 O0 O σ' H ρ' → σ'.length = σ.length → (∀ i, i ∉ ws → σ'[i]? = σ[i]?) → (∀ (i : Nat) (es : OC), ρ'[i]? = some (Sl.own es) → ρ[i]? = some (Sl.own es) ∧ i ∉ ws) → Q σ' H) → g vs σ H Q
def gS (i : Nat) : PyData → List Sl → Option (List Sl) := fun d ρ => some (ρ.set i (.val d))
def gT (n : Nat) (f : List PyData → List Sl → Option (List Sl)) : PyData → List Sl → Option (List Sl) := fun d ρ => match d with
  | .tuple ds => if ds.length = n then f ds ρ else none
  | _ => none
def gN : List PyData → List Sl → Option (List Sl) := fun ds ρ => match ds with
  | [] => some ρ
  | _ => none
def gC (f : PyData → List Sl → Option (List Sl)) (g : List PyData → List Sl → Option (List Sl)) : List PyData → List Sl → Option (List Sl) := fun ds ρ => match ds with
  | d :: ds => (f d ρ).bind fun ρ1 => g ds ρ1
  | [] => none
def fNext : FS := fun ρ => some (.nx, ρ)
def fThen (o : Option (Fl × List Sl)) (g : FS) : Option (Fl × List Sl) := match o with
  | some (.nx, ρ') => g ρ'
  | o => o
def fSeq (f g : FS) : FS := fun ρ => fThen (f ρ) g
def fRet (fe : FE) : FS := fun ρ => (fe ρ).bind fun d => some (.rt d, ρ)
def fIfS (t : FT) (f g : FS) : FS := fun ρ => (t ρ).bind fun b => if b then f ρ else g ρ
def fAsg (fe : FE) (g : PyData → List Sl → Option (List Sl)) : FS := fun ρ => (fe ρ).bind fun d => (g d ρ).bind fun ρ' => some (.nx, ρ')
def fOwn (i : Nat) (fa : FA) : FS := fun ρ => (fa ρ).bind fun ds => some (.nx, ρ.set i (.own (.l ds)))
def fApp (i : Nat) (fe : FE) : FS := fun ρ => match ρ[i]? with
  | some (.own (.l ds)) => (fe ρ).bind fun d => (lim (ds.length + 1) (ds ++ [d])).bind fun es => some (.nx, ρ.set i (.own (.l es)))
  | _ => none
def fExt (i : Nat) (fe : FE) : FS := fun ρ => match ρ[i]? with
  | some (.own (.l ds)) => (fe ρ).bind fun d => match d with
    | .list zs => (lim (ds.length + zs.length) (ds ++ zs)).bind fun es => some (.nx, ρ.set i (.own (.l es)))
    | _ => none
  | _ => none
def fBrk : FS := fun ρ => some (.bk, ρ)
def fCnt : FS := fun ρ => some (.ct, ρ)
def fDrop (fe : FE) : FS := fun ρ => (fe ρ).bind fun _ => some (.nx, ρ)
def fFrz (i : Nat) (f : FS) : FS := fun ρ => f (frz i ρ)
def fTurn (o : Option (Fl × List Sl)) (g : List Sl → Option (Fl × List Sl)) : Option (Fl × List Sl) := match o with
  | some (.nx, ρ) => g ρ
  | some (.ct, ρ) => g ρ
  | some (.bk, ρ) => some (.nx, ρ)
  | some (.rt d, ρ) => some (.rt d, ρ)
  | none => none
def fLoop (g : PyData → List Sl → Option (List Sl)) (b : FS) : List PyData → List Sl → Option (Fl × List Sl)
  | [], ρ => some (.nx, ρ)
  | d :: ds, ρ => (g d ρ).bind fun ρ1 => fTurn (b ρ1) (fLoop g b ds)
def fFor (fi : FA) (g : PyData → List Sl → Option (List Sl)) (b : FS) : FS := fun ρ => (fi ρ).bind fun ds => fLoop g b ds ρ
section
variable {K : PySem.W.Frag} {A : Atm} {H0 : Hp} {O0 O O' : Addr → Prop} {H H' : Hp} {te : TE} {fe : FE} {tt : TT} {ft : FT} {fas : FA} {t u : TS} {f g : FS} {D D' : Ends} {o : Fl × List Sl}
theorem Post.evo (e : Evo O H O' H') (p : Post K A H0 O0 O H D o) : Post K A H0 O0 O' H' D o := by
  obtain ⟨fl, ρ⟩ := o
  cases fl with
  | nx => exact fun σ' H'' O'' r ev => p σ' H'' O'' r (e.trans ev)
  | bk => exact fun σ' H'' O'' r ev => p σ' H'' O'' r (e.trans ev)
  | ct => exact fun σ' H'' O'' r ev => p σ' H'' O'' r (e.trans ev)
  | rt d => exact p
theorem ss_next : SS K A tNext fNext := fun r o h D p => by
  cases h
  exact p _ _ _ r .refl
theorem ss_seq (h1 : SS K A t f) (h2 : SS K A u g) : SS K A (tSeq t u) (fSeq f g) := fun {H0 O0 O σ H ρ} r o h D p => by
  have h : fThen (f ρ) g = some o := h
  cases e : f ρ with
  | none => rw [e] at h; cases h
  | some o1 =>
    rw [e] at h
    obtain ⟨fl, ρ1⟩ := o1
    cases fl with
    | nx => exact h1 r _ e _ fun σ' H' O' r' ev => h2 r' o h D (p.evo ev)
    | bk => cases h; exact h1 r _ e _ p
    | ct => cases h; exact h1 r _ e _ p
    | rt d => cases h; exact h1 r _ e _ p
theorem ss_ret (h : SE K A te fe) : SS K A (tRet te) (fRet fe) := fun r o ho D p => by
  obtain ⟨d, h1, h2⟩ := bind_some' ho
  cases h2
  exact h r d h1 _ fun v H' e hv => p v H' (r.frm.trans e) (hv.less r.sub)
theorem ss_if (ht : ST K A tt ft) (h1 : SS K A t f) (h2 : SS K A u g) : SS K A (tIfS tt t u) (fIfS ft f g) := fun {H0 O0 O σ H ρ} r o ho D p => by
  obtain ⟨b, hb, h⟩ := bind_some' ho
  refine ht r b hb _ fun H1 e1 => ?_
  cases b with
  | true => exact iteT (h1 (r.same e1) o (by simpa using h) D (p.evo (.same e1)))
  | false => exact iteF (h2 (r.same e1) o (by simpa using h) D (p.evo (.same e1)))
theorem ss_asg {tg : TG} {gg : PyData → List Sl → Option (List Sl)} {ws : List Nat} (h : SE K A te fe) (hg : SG K A tg gg ws) : SS K A (tAsg te tg) (fAsg fe gg) := fun r o ho D p => by
  obtain ⟨d, h1, h2⟩ := bind_some' ho
  obtain ⟨ρ', h3, h4⟩ := bind_some' h2
  cases h4
  exact h r d h1 _ fun v H1 e1 hv => hg (r.same e1) hv ρ' h3 _ fun σ' r' _ _ _ => p σ' H1 _ r' (.same e1)
theorem ss_own {i : Nat} (h : SL K A te fas) : SS K A (tAsg te (gName i)) (fOwn i fas) := fun {H0 O0 O σ H ρ} r o ho D p => by
  obtain ⟨ds, h1, h2⟩ := bind_some' ho
  cases h2
  refine h r ds h1 _ fun q xs H1 hq e1 hx hxs => ?_
  have p' : ∀ σ' H' O', Rl K A H0 O0 O' σ' H' (ρ.set i (.own (.l ds))) → Evo O H O' H' → D.nx σ' H' := p
  refine p' (σ.set i (some (.ref q))) H1 (Osn O q) (r.setOwn i hq e1 hx hxs) fun a o ha hn => ⟨e1 _ _ ha, fun h => ?_⟩
  rcases h with h | h
  · rw [h, hq] at ha
    cases ha
  · exact hn h
theorem ss_app {i : Nat} (h : SE K A te fe) : SS K A (tDrop (tBM K "list" rAppend (tVar i) (tCons te tNil))) (fApp i fe) := fun {H0 O0 O σ H ρ} r o ho D p => by
  have ho : (match ρ[i]? with
    | some (.own (.l ds)) => (fe ρ).bind fun d => (lim (ds.length + 1) (ds ++ [d])).bind fun es => some (.nx, ρ.set i (.own (.l es)))
    | _ => none) = some o := ho
  split at ho
  · rename_i ds hi
    obtain ⟨d, h1, h2⟩ := bind_some' ho
    obtain ⟨es, h3, h4⟩ := bind_some' h2
    cases h4
    obtain ⟨h5, rfl⟩ := lim_some h3
    obtain ⟨q, _, s1, s2, s3, s4, xs, rfl, s5⟩ := r.own i _ hi
    refine ⟨_, s1, .inl ⟨rfl, xs, sq_of s4⟩, h r d h1 _ fun v H1 e1 hv => ?_⟩
    have hx : H1 q = some (.lst xs) := e1 _ _ s4
    refine ⟨q, xs, v, rfl, rfl, hx, Nat.lt_of_lt_of_le (Nat.lt_succ_self _) (sz100 (by rw [s5.1]; exact h5)), ?_⟩
    obtain ⟨r', ev⟩ := (r.same e1).grow hi s1 hx ((s5.same e1).snoc hv)
    exact p σ _ O r' ((Evo.same e1).trans ev)
  · cases ho
theorem ss_frz (i : Nat) (h : SS K A t f) : SS K A t (fFrz i f) := fun r o ho D p => by
  obtain ⟨O', r', ev, _⟩ := r.frz i
  exact h r' o ho D (p.evo ev)
theorem sg_name (i : Nat) : SG K A (gName i) (gS i) [i] := fun {H0 O0 O σ H ρ v d} r hv ρ' h Q q => by
  cases h
  refine q (σ.set i (some v)) (r.set i hv) (List.length_set ..) (fun j hj => ?_) fun j es hj => ?_
  · rw [List.getElem?_set_ne]
    intro e
    exact hj (by simp [e])
  · have hij : i ≠ j := fun e => by
      subst e
      rw [List.getElem?_set, if_pos rfl] at hj
      split at hj <;> cases hj
    rw [List.getElem?_set_ne hij] at hj
    exact ⟨hj, by simpa using fun e => hij e.symm⟩
theorem sgs_nil : SGs K A gNil gN [] := fun {H0 O0 O σ H ρ vs ds} r hv ρ' h Q q => by
  unfold gN at h
  split at h
  · cases h
    exact ⟨hv.nil_inv, q σ r rfl (fun _ _ => rfl) fun _ _ h => ⟨h, by simp⟩⟩
  · cases h
theorem sgs_cons {g1 : TG} {f1 : PyData → List Sl → Option (List Sl)} {gs : TGs} {fs : List PyData → List Sl → Option (List Sl)} {w1 ws : List Nat} (h1 : SG K A g1 f1 w1) (h2 : SGs K A gs fs ws) : SGs K A (gCons g1 gs) (gC f1 fs) (w1 ++ ws) := fun {H0 O0 O σ H ρ vs ds} r hv ρ' h Q q => by
  unfold gC at h
  split at h
  · rename_i d ds
    obtain ⟨ρ1, h3, h4⟩ := bind_some' h
    obtain ⟨v, ws', rfl, hv1, hvs⟩ := hv.head
    exact ⟨v, ws', rfl, h1 r hv1 ρ1 h3 _ fun σ1 r1 l1 k1 o1 => h2 r1 hvs ρ' h4 _ fun σ2 r2 l2 k2 o2 => q σ2 r2 (l2.trans l1) (fun i hi => (k2 i fun h => hi (List.mem_append.mpr (.inr h))).trans (k1 i fun h => hi (List.mem_append.mpr (.inl h)))) fun i es h => by
      obtain ⟨a1, a2⟩ := o2 i es h
      obtain ⟨b1, b2⟩ := o1 i es a1
      exact ⟨b1, fun h => (List.mem_append.mp h).elim b2 a2⟩⟩
  · cases h
theorem sg_tup {gs : TGs} {fs : List PyData → List Sl → Option (List Sl)} {ws : List Nat} (n : Nat) (h : SGs K A gs fs ws) : SG K A (gTup K n gs) (gT n fs) ws := fun {H0 O0 O σ H ρ v d} r hv ρ' hρ Q q => by
  unfold gT at hρ
  split at hρ
  · rename_i ds
    split at hρ
    · rename_i hl
      obtain ⟨a, xs, rfl, hs, hxs⟩ := hv.tup_inv
      exact ⟨a, xs, rfl, hs, by rw [hxs.1, hl], h r hxs ρ' hρ Q q⟩
    · cases hρ
  · cases hρ
def Wk (K : PySem.W.Frag) (A : Atm) (O : Addr → Prop) (H : Hp) (J : It) (ds : List PyData) : Prop := ∃ (G : Hp → Prop) (Y : Nat → Hp → V → Hp → Prop), Walk J ds.length G Y ∧ ∀ O' H', Owl O' H' → Evo O H O' H' → G H' ∧ ∀ i x H2, i < ds.length → Y i H' x H2 → Same H' H2 ∧ ∃ d, ds[i]? = some d ∧ Fd K A O' H2 x d
def SI (K : PySem.W.Frag) (A : Atm) (wi : TI) (f : FA) : Prop := ∀ {H0 : Hp} {O0 O : Addr → Prop} {σ : L2.St} {H : Hp} {ρ : List Sl}, Rl K A H0 O0 O σ H ρ → ∀ ds, f ρ = some ds → ∀ R : It → Hp → Prop, (∀ J H', Same H H' → Wk K A O H' J ds → R J H') → wi σ H R
theorem ss_for {wi : TI} {fi : FA} {tg : TG} {gg : PyData → List Sl → Option (List Sl)} {ws : List Nat} {tb : TS} {fb : FS} (hi : SI K A wi fi) (hg : SG K A tg gg ws) (hb : SS K A tb fb) : SS K A (tFor wi tg tb) (fFor fi gg fb) := fun {H0 O0 O σ H ρ} r o ho D p => by
  obtain ⟨ds, h1, h2⟩ := bind_some' ho
  refine hi r ds h1 _ fun J H1 e1 wk => ?_
  obtain ⟨G, Y, w, hw⟩ := wk
  refine for_it w (D := D) (fun i σ' H' => ∃ O' ρ', Rl K A H0 O0 O' σ' H' ρ' ∧ Evo O H1 O' H' ∧ fLoop gg fb (ds.drop i) ρ' = some o) ⟨O, ρ, r.same e1, .refl, h2⟩ (fun i σ' H' _ hP => ?_) (fun i x σ' H' H2 hi hP hy => ?_) (fun σ' H' hP => ?_)
  · obtain ⟨O', ρ', r', ev, _⟩ := hP
    exact (hw O' H' r'.owl ev).1
  · obtain ⟨O', ρ', r', ev, hl⟩ := hP
    obtain ⟨e2, d, hd, hx⟩ := (hw O' H' r'.owl ev).2 i x H2 hi hy
    have hdr : ds.drop i = d :: ds.drop (i + 1) := by
      obtain ⟨hlt, rfl⟩ := List.getElem?_eq_some_iff.mp hd
      exact List.drop_eq_getElem_cons hlt
    rw [hdr] at hl
    obtain ⟨ρ1, h3, h4⟩ := bind_some' hl
    refine hg (r'.same e2) hx ρ1 h3 _ fun σ2 r2 _ _ _ => ?_
    cases e : fb ρ1 with
    | none => rw [e] at h4; cases h4
    | some o1 =>
      rw [e] at h4
      obtain ⟨fl, ρ2⟩ := o1
      have ev2 : Evo O H1 O' H2 := ev.trans (.same e2)
      cases fl with
      | nx => exact hb r2 _ e _ fun σ3 H3 O3 r3 ev3 => ⟨O3, ρ2, r3, ev2.trans ev3, h4⟩
      | ct => exact hb r2 _ e _ fun σ3 H3 O3 r3 ev3 => ⟨O3, ρ2, r3, ev2.trans ev3, h4⟩
      | bk =>
        cases h4
        exact hb r2 _ e _ fun σ3 H3 O3 r3 ev3 => p σ3 H3 O3 r3 ((Evo.same e1).trans (ev2.trans ev3))
      | rt d' =>
        cases h4
        exact hb r2 _ e _ p
  · obtain ⟨O', ρ', r', ev, hl⟩ := hP
    rw [List.drop_length] at hl
    cases hl
    exact p σ' H' O' r' ((Evo.same e1).trans ev)
end
def wpS (ρ : List Sl) : List Nat → List Sl
  | [] => ρ
  | v :: vs => (wpS ρ vs).set v .un
def compM (step : PyData → Option (Option PyData)) : List PyData → Option (List PyData)
  | [] => some []
  | d :: ds => (step d).bind fun o => (compM step ds).bind fun r => some (match o with
    | some y => y :: r
    | none => r)
def cStep (g : PyData → List Sl → Option (List Sl)) (t : FT) (e : FE) (ρ : List Sl) : PyData → Option (Option PyData) := fun d => (g d ρ).bind fun ρ1 => (t ρ1).bind fun b => if b then (e ρ1).bind fun y => some (some y) else some none
def fComp (fi : FA) (g : PyData → List Sl → Option (List Sl)) (t : FT) (e : FE) (vs : List Nat) : FA := fun ρ => (fi ρ).bind fun ds => (compM (cStep g t e (wpS ρ vs)) ds).bind fun r => lim r.length r
theorem wipe_ext {σ σ' : L2.St} : ∀ {vs : List Nat}, σ'.length = σ.length → (∀ i, i ∉ vs → σ'[i]? = σ[i]?) → wipe σ' vs = wipe σ vs
  | [], _, h => List.ext_getElem? fun i => h i (by simp)
  | v :: vs, hl, h => by
    have key : ∀ (τ : L2.St) (us : List Nat) (i : Nat), (wipe τ us)[i]? = if i ∈ us then (if i < τ.length then some none else none) else τ[i]? := by
      intro τ us i
      induction us with
      | nil => simp [wipe]
      | cons u us ih =>
        unfold wipe
        rw [List.getElem?_set, wipe_length]
        by_cases hu : u = i
        · subst hu
          simp
        · rw [if_neg hu, ih]
          have : (i ∈ u :: us) ↔ i ∈ us := by
            rw [List.mem_cons]
            exact ⟨fun h => h.resolve_left fun e => hu e.symm, .inr⟩
          simp only [this]
    refine List.ext_getElem? fun i => ?_
    rw [key, key, hl]
    split
    · rfl
    · rename_i hi
      exact h i hi
theorem wipe_wipe (σ : L2.St) (vs : List Nat) : wipe (wipe σ vs) vs = wipe σ vs := wipe_ext (wipe_length σ vs) fun i hi => by
  have key : ∀ (us : List Nat), i ∉ us → (wipe σ us)[i]? = σ[i]? := by
    intro us
    induction us with
    | nil => intro _; rfl
    | cons u us ih =>
      intro hi
      unfold wipe
      rw [List.getElem?_set_ne (fun e => hi (by simp [e])), ih fun h => hi (List.mem_cons_of_mem _ h)]
  exact key vs hi
section
variable {K : PySem.W.Frag} {A : Atm} {H0 : Hp} {O0 O O' : Addr → Prop} {σ : L2.St} {ρ : List Sl} {H H' : Hp} {te : TE} {fe : FE} {tt : TT} {ft : FT}
theorem Rl.un (r : Rl K A H0 O0 O σ H ρ) (i : Nat) : Rl K A H0 O0 O (σ.set i none) H (ρ.set i .un) where
  len := by rw [List.length_set, List.length_set, r.len]
  val := fun j e hj => by
    rw [List.getElem?_set] at hj ⊢
    by_cases hi : i = j
    · subst hi
      rw [if_pos rfl] at hj
      split at hj <;> cases hj
    · rw [if_neg hi] at hj ⊢
      exact r.val j e hj
  own := fun j es hj => by
    rw [List.getElem?_set] at hj ⊢
    by_cases hi : i = j
    · subst hi
      rw [if_pos rfl] at hj
      split at hj <;> cases hj
    · rw [if_neg hi] at hj ⊢
      exact r.own j es hj
  inj := fun j k ds es p hj hk sj sk => by
    have hij : i ≠ j := fun e => by
      subst e
      rw [List.getElem?_set, if_pos rfl] at hj
      split at hj <;> cases hj
    have hik : i ≠ k := fun e => by
      subst e
      rw [List.getElem?_set, if_pos rfl] at hk
      split at hk <;> cases hk
    rw [List.getElem?_set_ne hij] at hj sj
    rw [List.getElem?_set_ne hik] at hk sk
    exact r.inj j k ds es p hj hk sj sk
  owl := r.owl
  frm := r.frm
  sub := r.sub
  old := r.old
  fz := r.fz.set i (fun _ _ h => nomatch h)
theorem Rl.wipe (r : Rl K A H0 O0 O σ H ρ) : ∀ vs, Rl K A H0 O0 O (L2.wipe σ vs) H (wpS ρ vs)
  | [] => r
  | v :: vs => (r.wipe vs).un v
theorem sl_lc {wi : TI} {fi : FA} {tg : TG} {gg : PyData → List Sl → Option (List Sl)} {ws vs : List Nat} (hi : SI K A wi fi) (hg : SG K A tg gg ws) (hsub : ∀ i ∈ ws, i ∈ vs) (ht : ST K A tt ft) (he : SE K A te fe) : SL K A (tLc wi tg tt te vs) (fComp fi gg ft fe vs) := fun {H0 O0 O σ H ρ} r rs hr Q q => by
  obtain ⟨ds, h1, h2⟩ := bind_some' hr
  obtain ⟨rs', h3, h4⟩ := bind_some' h2
  obtain ⟨h5, rfl⟩ := lim_some h4
  refine hi r ds h1 _ fun J H1 e1 wk Dl hD => ?_
  obtain ⟨G, Y, w, hw⟩ := wk
  have r1 := (r.same e1).wipe vs
  refine lc_it w (D := Dl) (fun i H' => ∃ acc done rest, Same H1 H' ∧ H' Dl = some (.lst acc) ∧ Fds K A (Osn O Dl) H' acc done ∧ compM (cStep gg ft fe (wpS ρ vs)) (ds.drop i) = some rest ∧ rs' = done ++ rest) ⟨[], [], rs', Cr.same_new hD, upd_same, .nil, h3, rfl⟩ (fun i H' _ hP => ?_) (fun i x H' H2 hi' hP hy => ?_) (fun H' hP => ?_)
  · obtain ⟨acc, done, rest, e, _⟩ := hP
    exact (hw O H' (r1.owl.same e) (.same e)).1
  · obtain ⟨acc, done, rest, e, hDl, hacc, hc, hrs⟩ := hP
    have r2 := r1.osn hD e hDl
    have ev : Evo O H1 (Osn O Dl) H' := fun a o ha hn => ⟨e _ _ ha, fun h => by
      rcases h with h | h
      · rw [h, hD] at ha
        cases ha
      · exact hn h⟩
    obtain ⟨e2, d, hd, hx⟩ := (hw (Osn O Dl) H' r2.owl ev).2 i x H2 hi' hy
    have hdr : ds.drop i = d :: ds.drop (i + 1) := by
      obtain ⟨hlt, rfl⟩ := List.getElem?_eq_some_iff.mp hd
      exact List.drop_eq_getElem_cons hlt
    rw [hdr] at hc
    obtain ⟨o, hs1, hs2⟩ := bind_some' hc
    obtain ⟨rr, hs3, hs4⟩ := bind_some' hs2
    obtain ⟨ρ1, hs5, hs6⟩ := bind_some' hs1
    obtain ⟨b, hs7, hs8⟩ := bind_some' hs6
    refine hg (r2.same e2) hx ρ1 hs5 _ fun σ2 r3 l3 k3 _ => ⟨?_, ht r3 b hs7 _ fun H3 e3 => ?_⟩
    · rw [wipe_ext (σ := L2.wipe σ vs) (by rw [l3]) (fun i hi => k3 i fun h => hi (hsub i h)), wipe_wipe]
    · cases b with
      | true =>
        obtain ⟨y, hy1, hy2⟩ := bind_some' (show ((fe ρ1).bind fun y => some (some y)) = some o from hs8)
        cases hy2
        cases hs4
        refine iteT (he (r3.same e3) y hy1 _ fun v H4 e4 hv => ?_)
        have e24 := (e2.trans e3).trans e4
        have hD4 : H4 Dl = some (.lst acc) := e24 _ _ hDl
        have hacc4 := hacc.same e24
        have ho4 : Owl (Osn O Dl) H4 := r2.owl.same e24
        have ev4 : Evo (Osn O Dl) H4 (Osn O Dl) (upd H4 Dl (.lst (acc ++ [v]))) := fun a o ha hn => ⟨by
          rw [upd_ne (fun e => hn (.inl e))]
          exact ha, hn⟩
        refine ⟨acc, hD4, ?_, acc ++ [v], done ++ [y], rr, ?_, upd_same, (hacc4.snoc hv).evo ho4 ev4, hs3, by rw [hrs]; simp⟩
        · have h6 : acc.length = done.length := hacc.1
          have h7 : (done ++ y :: rr).length ≤ 10000000 := by rw [← hrs]; exact h5
          rw [List.length_append, List.length_cons] at h7
          exact Nat.lt_of_lt_of_le (show acc.length < 10000000 by omega) (by decide)
        · exact Cr.same_mut (e.trans e24) hD
      | false =>
        cases hs8
        cases hs4
        exact iteF ⟨acc, done, rr, e.trans (e2.trans e3), (e2.trans e3) _ _ hDl, hacc.same (e2.trans e3), hs3, hrs⟩
  · obtain ⟨acc, done, rest, e, hDl, hacc, hc, hrs⟩ := hP
    rw [List.drop_length] at hc
    cases hc
    rw [List.append_nil] at hrs
    subst hrs
    exact q Dl acc H' (e1.free hD) (e1.trans e) hDl hacc
end
def runF (n k : Nat) (f : FS) : Fn := fun ds => if ds.length = k then match f (ds.map Sl.val ++ List.replicate (n - k) Sl.un) with
    | some (.rt d, _) => some d
    | some (.nx, _) => some .none
    | _ => none
  else none
theorem start_rl {K : PySem.W.Frag} {A : Atm} {N : List Str} {k : Nat} {O : Addr → Prop} {vs : List V} {ds : List PyData} {H : Hp} (ho : Owl O H) (hds : Fds K A O H vs ds) (hk : ds.length = k) : Rl K A H O O (L2.start N vs) H (ds.map Sl.val ++ List.replicate (N.length - k) Sl.un) := by
  have hl : vs.length = ds.length := hds.1
  have key : ∀ i, (ds.map Sl.val ++ List.replicate (N.length - k) Sl.un)[i]? = if i < ds.length then ds[i]?.map Sl.val else if i - ds.length < N.length - k then some .un else none := fun i => by
    by_cases hi : i < ds.length
    · rw [if_pos hi, List.getElem?_append_left (by rw [List.length_map]; exact hi), List.getElem?_map]
    · rw [if_neg hi, List.getElem?_append_right (by rw [List.length_map]; omega), List.length_map, List.getElem?_replicate]
  refine ⟨?_, fun i d hi => ?_, fun i es hi => ?_, fun i j es fs p hi => ?_, ho, .refl _, fun _ h => h, ho, fun i hw kvs hi => ?_⟩
  · unfold L2.start
    rw [List.length_append, List.length_map, List.length_replicate, List.length_append, List.length_map, List.length_replicate, hl, hk]
  · rw [key] at hi
    split at hi
    · rename_i hlt
      obtain ⟨d', hd, e⟩ := Option.map_eq_some_iff.mp hi
      cases e
      obtain ⟨v, h1, h2⟩ := hds.get hd
      refine ⟨v, ?_, h2⟩
      unfold L2.start
      rw [List.getElem?_append_left (by rw [List.length_map, hl]; exact hlt), List.getElem?_map, h1]
      rfl
    · split at hi <;> cases hi
  · rw [key] at hi
    split at hi
    · obtain ⟨d', hd, e⟩ := Option.map_eq_some_iff.mp hi
      cases e
    · split at hi <;> cases hi
  · rw [key] at hi
    split at hi
    · obtain ⟨d', hd, e⟩ := Option.map_eq_some_iff.mp hi
      cases e
    · split at hi <;> cases hi
  · rw [key] at hi
    split at hi
    · obtain ⟨d', hd, e⟩ := Option.map_eq_some_iff.mp hi
      cases e
    · split at hi <;> cases hi
theorem body_ok {K : PySem.W.Frag} {A : Atm} {N : List Str} {k : Nat} {t : TS} {f : FS} (h : SS K A t f) {vs : List V} {H : Hp} {Q : VK} {E : XK} (hs : spF K A (runF N.length k f) vs H Q E) : t { nx := fun _ H' => Q .non H', rt := Q } (L2.start N vs) H := by
  obtain ⟨O, ds, r, ho, hds, hr, q⟩ := hs
  unfold runF at hr
  split at hr
  · rename_i hk
    have R : Rl K A H O O (L2.start N vs) H (ds.map Sl.val ++ List.replicate (N.length - k) Sl.un) := start_rl ho hds hk
    split at hr
    · rename_i d _ e
      cases hr
      exact h R _ e _ fun v H' s hv => q v H' s hv
    · rename_i _ e
      cases hr
      exact h R _ e _ fun σ' H' O' r' _ => q .non H' r'.frm .non
    · cases hr
  · cases hr
theorem body_len {K : PySem.W.Frag} {A : Atm} {n k : Nat} {f : FS} {vs : List V} {H : Hp} {Q : VK} {E : XK} (hs : spF K A (runF n k f) vs H Q E) : vs.length = k := by
  obtain ⟨O, ds, r, ho, hds, hr, q⟩ := hs
  unfold runF at hr
  split at hr
  · rename_i hk
    rw [hds.1, hk]
  · cases hr
end Sm
set_option maxRecDepth 10000000
namespace Sm
open PySem PySem.Spec PyProof.Rows L2 Evl CrT Cr
section
variable {X : Cx}
theorem opr_or {f : Value → Value → Sem Value} {r r' : R2} (h : OpR X f r) (h' : OpR X f r') : OpR X f (fun x y H Q => r x y H Q ∨ r' x y H Q) := fun pins s σ H x y v u Q I rx ry q => by
  rcases q with q | q
  · exact h pins s σ H x y v u Q I rx ry q
  · exact h' pins s σ H x y v u Q I rx ry q
theorem pi_or {tg e : Expr} {w w' : TI} (h : PI X tg e w) (h' : PI X tg e w') : PI X tg e (fun σ H R => w σ H R ∨ w' σ H R) := ⟨fun pins s σ H R I q => by
  rcases q with q | q
  · exact h.run pins s σ H R I q
  · exact h'.run pins s σ H R I q⟩
def rStrCat : R2 := fun x y H Q => ∃ i j, x = .str i ∧ y = .str j ∧ i.length + j.length ≤ sizeLine ∧ Q (.str (i ++ j)) H
def rAddX (K : PySem.W.Frag) : R2 := fun x y H Q => rI0 (fun i j => .int (i + j)) x y H Q ∨ rCatA K x y H Q ∨ rCat x y H Q ∨ rStrCat x y H Q
theorem op_addX : OpR X (binaryOp .Add) (rAddX X.K) := opr_or op_add (opr_or op_catA (opr_or op_cat op_add_str))
def rMulX : R2 := fun x y H Q => rI CMul (fun i j => .int (i * j)) x y H Q ∨ rI CMulW (fun i j => .int (i * j)) x y H Q ∨ rRep x y H Q
theorem op_mulX : OpR X (binaryOp .Mult) rMulX := opr_or op_mul (opr_or op_mulW op_rep)
def rEqX (K : PySem.W.Frag) : R2 := fun x y H Q => rEq x y H Q ∨ rEqD K x y H Q
def rNeX (K : PySem.W.Frag) : R2 := fun x y H Q => rNe x y H Q ∨ rNeD K x y H Q
theorem op_eqX (hu : X.A.units + 64 < cLine) : OpR X (compareOp .Eq) (rEqX X.K) := opr_or op_eq (op_eqD hu)
theorem op_neX (hu : X.A.units + 64 < cLine) : OpR X (compareOp .NotEq) (rNeX X.K) := opr_or op_ne (op_neD hu)
def rLeS : R2 := fun x y H Q => ∃ i j, x = .str i ∧ y = .str j ∧ Q (.bl (!decide (j.cps.toList < i.cps.toList))) H
def rLeX : R2 := fun x y H Q => rI0 (fun i j => .bl (decide (i ≤ j))) x y H Q ∨ rLeS x y H Q
theorem op_leX : OpR X (compareOp .LtE) rLeX := opr_or op_le op_le_str
def rInX (K : PySem.W.Frag) : R2 := fun x y H Q => rIn K false x y H Q ∨ rInTup K false x y H Q ∨ rInD K x y H Q
def rNiX (K : PySem.W.Frag) : R2 := fun x y H Q => rIn K true x y H Q ∨ rInTup K true x y H Q ∨ rNotInD K x y H Q
theorem op_inX (hu : X.A.units + 65 < cLine) : OpR X (compareOp .In) (rInX X.K) := opr_or op_in_seq (opr_or (op_inTup hu) (op_inD hu))
theorem op_niX (hu : X.A.units + 65 < cLine) : OpR X (compareOp .NotIn) (rNiX X.K) := opr_or op_notIn_seq (opr_or (op_notInTup hu) (op_notInD hu))
def rSlX (K : PySem.W.Frag) : V → Option Int → Option Int → Hp → VK → Prop := fun x lo hi H Q => rSlA K x lo hi H Q ∨ rSlL K x lo hi H Q ∨ rSlS x lo hi H Q
theorem sl_X : SlR X (rSlX X.K) := sl_tupA.or (sl_list.or sl_str)
def rLenX (K : PySem.W.Frag) : List V → Hp → VK → Prop := fun xs H Q => ∃ x n, xs = [x] ∧ LenV K x H n ∧ Q (.int (n : Int)) H
theorem cr_lenX : CallR X (.builtin "len") (rLenX X.K) := call_len
def rTupO (K : PySem.W.Frag) : List V → Hp → VK → Prop := fun xs H Q => ∃ p ys, xs = [.ref p] ∧ ((SqL K H p ys ∧ ∀ l, H l = none → Q (.ref l) (upd H l (.tup ys))) ∨ (SqT K H p ys ∧ Q (.ref p) H))
theorem cr_tupO : CallR X (.type "tuple") (rTupO X.K) := call_tuple_of
def rLstO (K : PySem.W.Frag) : List V → Hp → VK → Prop := fun xs H Q => ∃ p ys, xs = [.ref p] ∧ (SqL K H p ys ∨ SqT K H p ys) ∧ ∀ l, H l = none → Q (.ref l) (upd H l (.lst ys))
theorem cr_lstO : CallR X (.type "list") (rLstO X.K) := call_list_of
def iSeq (K : PySem.W.Frag) (te : TE) : TI := fun σ H R => iList K te σ H R ∨ iTup K te σ H R ∨ iStr te σ H R
theorem pi_seq {tg e : Expr} {te : TE} (he : PE X e te) : PI X tg e (iSeq X.K te) := pi_or (pi_list he) (pi_or (pi_tup he) (pi_str he))
def iEnu (K : PySem.W.Frag) (ta : TA) : TI := fun σ H R => iEnum K ta σ H R ∨ iEnumT K ta σ H R
end
def gAdd : F2
  | .int i, .int j => some (.int (i + j))
  | .tuple xs, .tuple ys => (lim (xs.length + ys.length) (.tuple (xs ++ ys)))
  | .list xs, .list ys => (lim (xs.length + ys.length) (.list (xs ++ ys)))
  | .str x, .str y => (lim (x.length + y.length) (.str (x ++ y)))
  | _, _ => none
def gSub : F2
  | .int i, .int j => some (.int (i - j))
  | _, _ => none
def gMul : F2
  | .int i, .int j => if (i.natAbs < 18446744073709551616 ∨ j.natAbs < 18446744073709551616) ∨ i.natAbs.log2 + j.natAbs.log2 < 1000000 then some (.int (i * j)) else none
  | .list xs, .int k => if k.toNat ≤ 10000000 ∧ -10000000 ≤ k then lim (xs.length * k.toNat) (.list (List.replicate k.toNat xs).flatten) else none
  | _, _ => none
def gMod : F2
  | .int i, .int j => if 0 < j then some (.int (i % j)) else none
  | _, _ => none
def gDiv : F2
  | .int i, .int j => if 0 < j ∧ j.natAbs.log2 < 9000 then some (.int (i / j)) else none
  | _, _ => none
def gNeg : F1
  | .int i => some (.int (-i))
  | _ => none
def eqD (a b : PyData) : Option Bool := match a, b with
  | .int i, .int j => some (decide (i = j))
  | .str x, .str y => some (decide (x = y))
  | .int _, .str _ => some false
  | .str _, .int _ => some false
  | a, b => if SeqAt.shaped a && SeqAt.shaped b then some (PyData.eqv a b) else none
def gEq : F2 := fun a b => (eqD a b).bind fun x => some (.bool x)
def gNe : F2 := fun a b => (eqD a b).bind fun x => some (.bool (!x))
def gLt : F2
  | .int i, .int j => some (.bool (decide (i < j)))
  | _, _ => none
def gLe : F2
  | .int i, .int j => some (.bool (decide (i ≤ j)))
  | .str x, .str y => some (.bool (!decide (y.cps.toList < x.cps.toList)))
  | _, _ => none
def gGt : F2
  | .int i, .int j => some (.bool (decide (j < i)))
  | _, _ => none
def gGe : F2
  | .int i, .int j => some (.bool (decide (j ≤ i)))
  | _, _ => none
def gIsN : F2
  | a, .none => some (.bool (match a with | .none => true | _ => false))
  | _, _ => none
def gNotN : F2
  | a, .none => some (.bool (match a with | .none => false | _ => true))
  | _, _ => none
def fl : PyData → Bool
  | .int _ => true
  | .str _ => true
  | _ => false
def eqF : PyData → PyData → Bool
  | .int a, .int b => decide (a = b)
  | .str a, .str b => decide (a = b)
  | _, _ => false
def inD (a b : PyData) : Option Bool := match b with
  | .tuple ds => if fl a && ds.all fl then some (ds.any fun z => eqF z a) else if SeqAt.shaped a && SeqAt.shaped (.tuple ds) then some (ds.any fun z => PyData.eqv z a) else none
  | .list ds => if fl a && ds.all fl then some (ds.any fun z => eqF z a) else if SeqAt.shaped a && SeqAt.shaped (.list ds) then some (ds.any fun z => PyData.eqv z a) else none
  | _ => none
def gIn : F2 := fun a b => (inD a b).bind fun x => some (.bool x)
def gNi : F2 := fun a b => (inD a b).bind fun x => some (.bool (!x))
def gIx : F2
  | .tuple ds, .int i => atI ds i
  | .list ds, .int i => atI ds i
  | .str z, .int i => (lim z.length z).bind fun z => (atI z.cps.toList i).bind fun c => some (.str ⟨#[c]⟩)
  | _, _ => none
def cutD {α : Type} (xs : List α) (lo hi : Option Int) : List α := (xs.drop (HT.sIx xs.length 0 lo)).take (HT.sIx xs.length xs.length hi - HT.sIx xs.length 0 lo)
def gSl (d : PyData) (lo hi : Option Int) : Option PyData := match d with
  | .tuple ds => some (.tuple (cutD ds lo hi))
  | .list ds => some (.list (cutD ds lo hi))
  | .str z => (lim z.length z).bind fun z => some (.str (cutS z lo hi))
  | _ => none
def gLen : Fn
  | [.tuple ds] => some (.int ds.length)
  | [.list ds] => some (.int ds.length)
  | [.str z] => lim z.length (.int z.length)
  | _ => none
def allB : List PyData → Option Bool
  | [] => some true
  | .bool b :: ds => (allB ds).bind fun r => some (b && r)
  | _ => none
def anyB : List PyData → Option Bool
  | [] => some false
  | .bool b :: ds => (anyB ds).bind fun r => some (b || r)
  | _ => none
def gAll : Fn
  | [.list ds] => (allB ds).bind fun b => some (.bool b)
  | _ => none
def gAny : Fn
  | [.list ds] => (anyB ds).bind fun b => some (.bool b)
  | _ => none
def gTuple : Fn
  | [.list ds] => some (.tuple ds)
  | [.tuple ds] => some (.tuple ds)
  | _ => none
def gList : List PyData → Option (List PyData)
  | [.list ds] => some ds
  | [.tuple ds] => some ds
  | _ => none
def gMax : Fn
  | [.int i, .int j] => some (.int (if j > i then j else i))
  | _ => none
def gMin : Fn
  | [.int i, .int j] => some (.int (if j < i then j else i))
  | _ => none
def tyO : PyData → Option String
  | .int _ => some "int"
  | .str _ => some "str"
  | .tuple _ => some "tuple"
  | .bool _ => some "bool"
  | _ => none
def gIsi (n : String) : Fn
  | [d] => (tyO d).bind fun t => (kitB t n).bind fun b => some (.bool b)
  | _ => none
section
variable {K : PySem.W.Frag} {A : Atm}
theorem rd_add : RD K A (rAddX K) gAdd := fun {O H x y a b} ho hx hy c hc Q q => by
  cases a <;> cases b <;> try cases hc
  · cases hx.int_inv; cases hy.int_inv
    exact .inl ⟨_, _, rfl, rfl, q _ _ (.refl _) (.int _)⟩
  · cases hx.str_inv; cases hy.str_inv
    obtain ⟨h1, rfl⟩ := lim_some hc
    exact .inr (.inr (.inr ⟨_, _, rfl, rfl, sz100 h1, q _ _ (.refl _) (.str _)⟩))
  · obtain ⟨h1, rfl⟩ := lim_some hc
    obtain ⟨p, xs, rfl, hp, hnp, hxs⟩ := hx.lst_inv
    obtain ⟨p2, ys, rfl, hp2, hnp2, hys⟩ := hy.lst_inv
    exact .inr (.inr (.inl ⟨p, p2, xs, ys, rfl, rfl, hp, hp2, sz100 (by rw [hxs.1, hys.1]; exact h1), fun l hl => q _ _ (Cr.same_new hl) (((hxs.app hys).same (Cr.same_new hl)).lst upd_same (ho.none hl))⟩))
  · obtain ⟨h1, rfl⟩ := lim_some hc
    obtain ⟨p, xs, rfl, hp, hxs⟩ := hx.tup_inv
    obtain ⟨p2, ys, rfl, hp2, hys⟩ := hy.tup_inv
    refine .inr (.inl ⟨p, p2, xs, ys, rfl, rfl, hp, hp2, sz100 (by rw [hxs.1, hys.1]; exact h1), fun e => ?_, fun _ e => ?_, fun _ _ l hl => ?_⟩)
    · subst e
      exact q _ _ (.refl _) ((by simpa using hxs.app hys : Fds K A O H ys _).tup hp2)
    · subst e
      exact q _ _ (.refl _) ((by simpa using hxs.app hys : Fds K A O H xs _).tup hp)
    · exact q _ _ (Cr.same_new hl) (((hxs.app hys).same (Cr.same_new hl)).tup (.of upd_same))
theorem rd_sub : RD K A (rI0 fun i j => .int (i - j)) gSub := fun {O H x y a b} ho hx hy c hc Q q => by
  cases a <;> cases b <;> cases hc
  cases hx.int_inv; cases hy.int_inv
  exact ⟨_, _, rfl, rfl, q _ _ (.refl _) (.int _)⟩
theorem rd_mul : RD K A rMulX gMul := fun {O H x y a b} ho hx hy c hc Q q => by
  cases a <;> cases b <;> try cases hc
  · rename_i i j
    have hc : (if (i.natAbs < 18446744073709551616 ∨ j.natAbs < 18446744073709551616) ∨ i.natAbs.log2 + j.natAbs.log2 < 1000000 then some (PyData.int (i * j)) else none) = some c := hc
    split at hc
    · rename_i hw
      cases hc
      cases hx.int_inv; cases hy.int_inv
      rcases hw with (hw | hw) | hw
      · exact .inl ⟨_, _, rfl, rfl, .inl ⟨by omega, by omega⟩, q _ _ (.refl _) (.int _)⟩
      · exact .inl ⟨_, _, rfl, rfl, .inr ⟨by omega, by omega⟩, q _ _ (.refl _) (.int _)⟩
      · exact .inr (.inl ⟨_, _, rfl, rfl, hw, q _ _ (.refl _) (.int _)⟩)
    · cases hc
  · rename_i xs k
    have hc : (if k.toNat ≤ 10000000 ∧ -10000000 ≤ k then lim (xs.length * k.toNat) (PyData.list (List.replicate k.toNat xs).flatten) else none) = some c := hc
    split at hc
    · rename_i hk
      obtain ⟨h1, rfl⟩ := lim_some hc
      obtain ⟨p, ys, rfl, hp, hnp, hys⟩ := hx.lst_inv
      cases hy.int_inv
      have hr : ∀ (n : Nat) H', Same H H' → Fds K A O H' (List.replicate n ys).flatten (List.replicate n xs).flatten := fun n H' s => by
        induction n with
        | zero => exact .nil
        | succ n ih =>
          rw [List.replicate_succ, List.replicate_succ, List.flatten_cons, List.flatten_cons]
          exact (hys.same s).app ih
      refine .inr (.inr ⟨p, k, ys, rfl, rfl, hp, by omega, by omega, sz100 (by rw [hys.1]; exact h1), fun l hl => q _ _ (Cr.same_new hl) ((hr _ _ (Cr.same_new hl)).lst upd_same (ho.none hl))⟩)
    · cases hc
theorem rd_mod : RD K A (rI (fun _ j => 0 < j) fun i j => .int (i % j)) gMod := fun {O H x y a b} ho hx hy c hc Q q => by
  cases a <;> cases b <;> try cases hc
  rename_i i j
  have hc : (if 0 < j then some (PyData.int (i % j)) else none) = some c := hc
  split at hc
  · cases hc
    cases hx.int_inv; cases hy.int_inv
    exact ⟨_, _, rfl, rfl, by assumption, q _ _ (.refl _) (.int _)⟩
  · cases hc
theorem rd_div : RD K A (rI CDivW fun i j => .int (i / j)) gDiv := fun {O H x y a b} ho hx hy c hc Q q => by
  cases a <;> cases b <;> try cases hc
  rename_i i j
  have hc : (if 0 < j ∧ j.natAbs.log2 < 9000 then some (PyData.int (i / j)) else none) = some c := hc
  split at hc
  · rename_i hw
    cases hc
    cases hx.int_inv; cases hy.int_inv
    exact ⟨_, _, rfl, rfl, hw, q _ _ (.refl _) (.int _)⟩
  · cases hc
theorem ru_neg1 : RU1 K A (rU fun i => .int (-i)) gNeg := fun {O H x a} ho hx c hc Q q => by
  cases a <;> cases hc
  cases hx.int_inv
  exact ⟨_, rfl, q _ _ (.refl _) (.int _)⟩
theorem eqD_cases {O : Addr → Prop} {H : Hp} {x y : V} {a b : PyData} {r : Bool} (hx : Fd K A O H x a) (hy : Fd K A O H y b) (h : eqD a b = some r) : (scal x y = true ∧ r = decide (x = y)) ∨ (Dp K H x a ∧ Dp K H y b ∧ SeqAt.shaped a = true ∧ SeqAt.shaped b = true ∧ r = PyData.eqv a b) := by
  unfold eqD at h
  split at h
  · cases h; cases hx.int_inv; cases hy.int_inv
    exact .inl ⟨rfl, decide_eq_decide.mpr ⟨fun e => by rw [e], fun e => V.int.inj e⟩⟩
  · cases h; cases hx.str_inv; cases hy.str_inv
    exact .inl ⟨rfl, decide_eq_decide.mpr ⟨fun e => by rw [e], fun e => V.str.inj e⟩⟩
  · cases h; cases hx.int_inv; cases hy.str_inv
    exact .inl ⟨rfl, (decide_eq_false fun e => nomatch e).symm⟩
  · cases h; cases hx.str_inv; cases hy.int_inv
    exact .inl ⟨rfl, (decide_eq_false fun e => nomatch e).symm⟩
  · split at h
    · rename_i hs
      cases h
      obtain ⟨s1, s2⟩ := Bool.and_eq_true_iff.mp hs
      exact .inr ⟨hx.dps s1, hy.dps s2, s1, s2, rfl⟩
    · cases h
theorem rd_eq : RD K A (rEqX K) gEq := fun {O H x y a b} ho hx hy c hc Q q => by
  obtain ⟨r, h1, h2⟩ := bind_some' hc
  cases h2
  rcases eqD_cases hx hy h1 with ⟨s, rfl⟩ | ⟨d1, d2, s1, s2, rfl⟩
  · exact .inl ⟨s, q _ _ (.refl _) (.bl _)⟩
  · exact .inr ⟨a, b, d1, d2, s1, s2, q _ _ (.refl _) (.bl _)⟩
theorem rd_ne : RD K A (rNeX K) gNe := fun {O H x y a b} ho hx hy c hc Q q => by
  obtain ⟨r, h1, h2⟩ := bind_some' hc
  cases h2
  rcases eqD_cases hx hy h1 with ⟨s, rfl⟩ | ⟨d1, d2, s1, s2, rfl⟩
  · exact .inl ⟨s, q _ _ (.refl _) (.bl _)⟩
  · exact .inr ⟨a, b, d1, d2, s1, s2, q _ _ (.refl _) (.bl _)⟩
theorem rd_lt : RD K A (rI0 fun i j => .bl (decide (i < j))) gLt := fun {O H x y a b} ho hx hy c hc Q q => by
  cases a <;> cases b <;> cases hc
  cases hx.int_inv; cases hy.int_inv
  exact ⟨_, _, rfl, rfl, q _ _ (.refl _) (.bl _)⟩
theorem rd_le : RD K A rLeX gLe := fun {O H x y a b} ho hx hy c hc Q q => by
  cases a <;> cases b <;> cases hc
  · cases hx.int_inv; cases hy.int_inv
    exact .inl ⟨_, _, rfl, rfl, q _ _ (.refl _) (.bl _)⟩
  · cases hx.str_inv; cases hy.str_inv
    exact .inr ⟨_, _, rfl, rfl, q _ _ (.refl _) (.bl _)⟩
theorem rd_gt : RD K A (rI0 fun i j => .bl (decide (j < i))) gGt := fun {O H x y a b} ho hx hy c hc Q q => by
  cases a <;> cases b <;> cases hc
  cases hx.int_inv; cases hy.int_inv
  exact ⟨_, _, rfl, rfl, q _ _ (.refl _) (.bl _)⟩
theorem rd_isN : RD K A (fun x y H Q => y = .non ∧ Q (.bl (decide (x = .non))) H) gIsN := fun {O H x y a b} ho hx hy c hc Q q => by
  cases b <;> try (cases a <;> cases hc; done)
  refine ⟨hy.non_inv, ?_⟩
  cases hx <;> (have hc := Option.some.inj hc; subst hc; exact q _ _ (.refl _) (.bl _))
theorem rd_notN : RD K A (fun x y H Q => y = .non ∧ Q (.bl (!decide (x = .non))) H) gNotN := fun {O H x y a b} ho hx hy c hc Q q => by
  cases b <;> try (cases a <;> cases hc; done)
  refine ⟨hy.non_inv, ?_⟩
  cases hx <;> (have hc := Option.some.inj hc; subst hc; exact q _ _ (.refl _) (.bl _))
theorem fl_v {O : Addr → Prop} {H : Hp} {x : V} {a : PyData} (h : Fd K A O H x a) (hf : fl a = true) : flatV x = true := by
  cases h <;> first | rfl | cases hf
theorem eqF_v {O : Addr → Prop} {H : Hp} {x y : V} {a b : PyData} (hx : Fd K A O H x a) (hy : Fd K A O H y b) (ha : fl a = true) (hb : fl b = true) : eqV x y = eqF a b := by
  cases hx <;> cases ha <;> cases hy <;> cases hb <;> first | rfl | (simp only [eqV, eqF]; rw [Bool.eq_iff_iff]; simp)
theorem fl_all {O : Addr → Prop} {H : Hp} : ∀ {ds : List PyData} {xs : List V}, Fds K A O H xs ds → ds.all fl = true → xs.all flatV = true
  | [], xs, h, _ => by rw [h.nil_inv]; rfl
  | d :: ds, xs, h, hf => by
    obtain ⟨v, ws, rfl, h1, h2⟩ := h.head
    obtain ⟨f1, f2⟩ := Bool.and_eq_true_iff.mp hf
    show (flatV v && ws.all flatV) = true
    rw [fl_v h1 f1, fl_all h2 f2]
    rfl
theorem in_v {O : Addr → Prop} {H : Hp} {x : V} {a : PyData} (hx : Fd K A O H x a) (hf : fl a = true) : ∀ {ds : List PyData} {xs : List V}, Fds K A O H xs ds → ds.all fl = true → inV x xs = ds.any fun z => eqF z a
  | [], xs, h, _ => by rw [h.nil_inv]; rfl
  | d :: ds, xs, h, hd => by
    obtain ⟨v, ws, rfl, h1, h2⟩ := h.head
    obtain ⟨f1, f2⟩ := Bool.and_eq_true_iff.mp hd
    show (eqV v x || inV x ws) = (eqF d a || ds.any fun z => eqF z a)
    rw [eqF_v h1 hx f1 hf, in_v hx hf h2 f2]
theorem inD_cases {O : Addr → Prop} {H : Hp} {x y : V} {a b : PyData} {r : Bool} (hx : Fd K A O H x a) (hy : Fd K A O H y b) (h : inD a b = some r) :
    (∃ p xs, y = .ref p ∧ (SqL K H p xs ∨ SqT K H p xs) ∧ flatV x = true ∧ xs.all flatV = true ∧ r = inV x xs) ∨ (∃ ds, b = .tuple ds ∧ Dp K H x a ∧ Dp K H y (.tuple ds) ∧ SeqAt.shaped a = true ∧ SeqAt.shaped (.tuple ds) = true ∧ r = ds.any fun z => PyData.eqv z a) ∨
    (∃ ds, b = .list ds ∧ Dp K H x a ∧ Dp K H y (.list ds) ∧ SeqAt.shaped a = true ∧ SeqAt.shaped (.list ds) = true ∧ r = ds.any fun z => PyData.eqv z a) := by
  unfold inD at h
  split at h
  · rename_i ds
    obtain ⟨p, xs, rfl, hp, hxs⟩ := hy.tup_inv
    split at h
    · rename_i hf
      obtain ⟨f1, f2⟩ := Bool.and_eq_true_iff.mp hf
      cases h
      exact .inl ⟨p, xs, rfl, .inr hp, fl_v hx f1, fl_all hxs f2, (in_v hx f1 hxs f2).symm⟩
    · split at h
      · rename_i hs
        obtain ⟨s1, s2⟩ := Bool.and_eq_true_iff.mp hs
        cases h
        exact .inr (.inl ⟨ds, rfl, hx.dps s1, hy.dps s2, s1, s2, rfl⟩)
      · cases h
  · rename_i ds
    obtain ⟨p, xs, rfl, hp, hnp, hxs⟩ := hy.lst_inv
    split at h
    · rename_i hf
      obtain ⟨f1, f2⟩ := Bool.and_eq_true_iff.mp hf
      cases h
      exact .inl ⟨p, xs, rfl, .inl (sq_of hp), fl_v hx f1, fl_all hxs f2, (in_v hx f1 hxs f2).symm⟩
    · split at h
      · rename_i hs
        obtain ⟨s1, s2⟩ := Bool.and_eq_true_iff.mp hs
        cases h
        exact .inr (.inr ⟨ds, rfl, hx.dps s1, hy.dps s2, s1, s2, rfl⟩)
      · cases h
  · cases h
theorem rd_in : RD K A (rInX K) gIn := fun {O H x y a b} ho hx hy c hc Q q => by
  obtain ⟨r, h1, h2⟩ := bind_some' hc
  cases h2
  rcases inD_cases hx hy h1 with ⟨p, xs, rfl, hs, f1, f2, rfl⟩ | ⟨ds, rfl, d1, d2, s1, s2, rfl⟩ | ⟨ds, rfl, d1, d2, s1, s2, rfl⟩
  · exact .inl ⟨p, xs, rfl, hs, f1, f2, q _ _ (.refl _) (.bl _)⟩
  · exact .inr (.inl ⟨a, ds, d1, d2, s1, s2, q _ _ (.refl _) (.bl _)⟩)
  · exact .inr (.inr ⟨a, ds, d1, d2, s1, s2, q _ _ (.refl _) (.bl _)⟩)
theorem rd_ni : RD K A (rNiX K) gNi := fun {O H x y a b} ho hx hy c hc Q q => by
  obtain ⟨r, h1, h2⟩ := bind_some' hc
  cases h2
  rcases inD_cases hx hy h1 with ⟨p, xs, rfl, hs, f1, f2, rfl⟩ | ⟨ds, rfl, d1, d2, s1, s2, rfl⟩ | ⟨ds, rfl, d1, d2, s1, s2, rfl⟩
  · exact .inl ⟨p, xs, rfl, hs, f1, f2, q _ _ (.refl _) (.bl _)⟩
  · exact .inr (.inl ⟨a, ds, d1, d2, s1, s2, q _ _ (.refl _) (.bl _)⟩)
  · exact .inr (.inr ⟨a, ds, d1, d2, s1, s2, q _ _ (.refl _) (.bl _)⟩)
theorem atI_get {O : Addr → Prop} {H : Hp} {xs : List V} {ds : List PyData} {i : Int} {c : PyData} (h : Fds K A O H xs ds) (hc : atI ds i = some c) : ∃ v, atI xs i = some v ∧ Fd K A O H v c := by
  unfold atI at hc ⊢
  rw [h.1]
  obtain ⟨j, h1, h2⟩ := Option.bind_eq_some_iff.mp hc
  obtain ⟨v, h3, h4⟩ := h.get h2
  exact ⟨v, by rw [h1]; exact h3, h4⟩
theorem rd_ix : RD K A (rIx K) gIx := fun {O H x y a b} ho hx hy c hc Q q => by
  cases a <;> cases b <;> try cases hc
  · rename_i z i
    cases hx.str_inv; cases hy.int_inv
    obtain ⟨z', h1, h2⟩ := bind_some' (show ((lim z.length z).bind fun z => (atI z.cps.toList i).bind fun c => some (PyData.str ⟨#[c]⟩)) = some c from hc)
    obtain ⟨h3, rfl⟩ := lim_some h1
    obtain ⟨cc, h4, h5⟩ := bind_some' h2
    cases h5
    exact .inr (.inr ⟨z, i, cc, rfl, rfl, sz100 h3, h4, q _ _ (.refl _) (.str _)⟩)
  · cases hy.int_inv
    obtain ⟨p, xs, rfl, hp, hnp, hxs⟩ := hx.lst_inv
    obtain ⟨v, h1, h2⟩ := atI_get hxs hc
    exact .inl ⟨p, xs, _, v, rfl, rfl, sq_of hp, h1, q _ _ (.refl _) h2⟩
  · cases hy.int_inv
    obtain ⟨p, xs, rfl, hp, hxs⟩ := hx.tup_inv
    obtain ⟨v, h1, h2⟩ := atI_get hxs hc
    exact .inr (.inl ⟨p, xs, _, v, rfl, rfl, hp, h1, q _ _ (.refl _) h2⟩)
theorem fds_cut {O : Addr → Prop} {H : Hp} {xs : List V} {ds : List PyData} (h : Fds K A O H xs ds) (lo hi : Option Int) : Fds K A O H (cutV xs lo hi) (cutD ds lo hi) := by
  unfold cutV cutD
  rw [h.1]
  exact (h.drop _).take _
theorem rs_sl : RS K A (rSlX K) gSl := fun {O H x a} ho hx lo hi c hc Q q => by
  cases a <;> try cases hc
  · rename_i z
    cases hx.str_inv
    obtain ⟨z', h1, h2⟩ := bind_some' (show ((lim z.length z).bind fun z => some (PyData.str (cutS z lo hi))) = some c from hc)
    obtain ⟨h3, rfl⟩ := lim_some h1
    cases h2
    exact .inr (.inr ⟨z, rfl, sz100 h3, q _ _ (.refl _) (.str _)⟩)
  · obtain ⟨p, xs, rfl, hp, hnp, hxs⟩ := hx.lst_inv
    exact .inr (.inl ⟨p, xs, rfl, sq_of hp, fun l hl => q _ _ (Cr.same_new hl) (((fds_cut hxs lo hi).same (Cr.same_new hl)).lst upd_same (ho.none hl))⟩)
  · obtain ⟨p, xs, rfl, hp, hxs⟩ := hx.tup_inv
    refine .inl ⟨p, xs, rfl, hp, fun hw => ?_, fun hw l hl => q _ _ (Cr.same_new hl) (((fds_cut hxs lo hi).same (Cr.same_new hl)).tup (.of upd_same))⟩
    have e : cutV xs lo hi = xs := by
      unfold cutV
      rw [hw.1, hw.2]
      show List.take (xs.length - 0) xs = xs
      exact List.take_of_length_le (by omega)
    have := fds_cut hxs lo hi
    rw [e] at this
    exact q _ _ (.refl _) (this.tup hp)
theorem one_inv {O : Addr → Prop} {H : Hp} {xs : List V} {d : PyData} (h : Fds K A O H xs [d]) : ∃ v, xs = [v] ∧ Fd K A O H v d := by
  obtain ⟨v, ws, rfl, h1, h2⟩ := h.head
  rw [h2.nil_inv]
  exact ⟨v, rfl, h1⟩
theorem rc_len : RDs K A (rLenX K) gLen := fun {O H xs ds} ho hx c hc Q q => by
  unfold gLen at hc
  split at hc
  · cases hc
    obtain ⟨v, rfl, hv⟩ := one_inv hx
    obtain ⟨p, ys, rfl, hp, hys⟩ := hv.tup_inv
    exact ⟨_, _, rfl, .inr ⟨ys, hp, hys.1.symm⟩, q _ _ (.refl _) (.int _)⟩
  · cases hc
    obtain ⟨v, rfl, hv⟩ := one_inv hx
    obtain ⟨p, ys, rfl, hp, hnp, hys⟩ := hv.lst_inv
    exact ⟨_, _, rfl, .inl ⟨ys, sq_of hp, hys.1.symm⟩, q _ _ (.refl _) (.int _)⟩
  · obtain ⟨h1, rfl⟩ := lim_some hc
    obtain ⟨v, rfl, hv⟩ := one_inv hx
    cases hv.str_inv
    exact ⟨_, _, rfl, ⟨sz100 h1, rfl⟩, q _ _ (.refl _) (.int _)⟩
  · cases hc
theorem allB_v {O : Addr → Prop} {H : Hp} : ∀ {ds : List PyData} {xs : List V} {b : Bool}, Fds K A O H xs ds → allB ds = some b → ∃ bs : List Bool, xs = bs.map V.bl ∧ bs.all id = b
  | [], xs, b, h, hb => by cases hb; exact ⟨[], by rw [h.nil_inv]; rfl, rfl⟩
  | d :: ds, xs, b, h, hb => by
    cases d <;> try cases hb
    obtain ⟨r, h1, h2⟩ := bind_some' hb
    cases h2
    obtain ⟨v, ws, rfl, h3, h4⟩ := h.head
    obtain ⟨bs, rfl, h5⟩ := allB_v h4 h1
    cases h3.bl_inv
    exact ⟨_ :: bs, rfl, by rw [List.all_cons, h5]; rfl⟩
theorem anyB_v {O : Addr → Prop} {H : Hp} : ∀ {ds : List PyData} {xs : List V} {b : Bool}, Fds K A O H xs ds → anyB ds = some b → ∃ bs : List Bool, xs = bs.map V.bl ∧ bs.any id = b
  | [], xs, b, h, hb => by cases hb; exact ⟨[], by rw [h.nil_inv]; rfl, rfl⟩
  | d :: ds, xs, b, h, hb => by
    cases d <;> try cases hb
    obtain ⟨r, h1, h2⟩ := bind_some' hb
    cases h2
    obtain ⟨v, ws, rfl, h3, h4⟩ := h.head
    obtain ⟨bs, rfl, h5⟩ := anyB_v h4 h1
    cases h3.bl_inv
    exact ⟨_ :: bs, rfl, by rw [List.any_cons, h5]; rfl⟩
theorem rc_all : RDs K A (rAll K) gAll := fun {O H xs ds} ho hx c hc Q q => by
  unfold gAll at hc
  split at hc
  · obtain ⟨b, h1, h2⟩ := bind_some' hc
    cases h2
    obtain ⟨v, rfl, hv⟩ := one_inv hx
    obtain ⟨p, ys, rfl, hp, hnp, hys⟩ := hv.lst_inv
    obtain ⟨bs, rfl, rfl⟩ := allB_v hys h1
    exact ⟨p, bs, rfl, sq_of hp, q _ _ (.refl _) (.bl _)⟩
  · cases hc
theorem rc_any : RDs K A (rAny K) gAny := fun {O H xs ds} ho hx c hc Q q => by
  unfold gAny at hc
  split at hc
  · obtain ⟨b, h1, h2⟩ := bind_some' hc
    cases h2
    obtain ⟨v, rfl, hv⟩ := one_inv hx
    obtain ⟨p, ys, rfl, hp, hnp, hys⟩ := hv.lst_inv
    obtain ⟨bs, rfl, rfl⟩ := anyB_v hys h1
    exact ⟨p, bs, rfl, sq_of hp, q _ _ (.refl _) (.bl _)⟩
  · cases hc
theorem rc_tuple : RDs K A (rTupO K) gTuple := fun {O H xs ds} ho hx c hc Q q => by
  unfold gTuple at hc
  split at hc
  · cases hc
    obtain ⟨v, rfl, hv⟩ := one_inv hx
    obtain ⟨p, ys, rfl, hp, hnp, hys⟩ := hv.lst_inv
    exact ⟨p, ys, rfl, .inl ⟨sq_of hp, fun l hl => q _ _ (Cr.same_new hl) ((hys.same (Cr.same_new hl)).tup (.of upd_same))⟩⟩
  · cases hc
    obtain ⟨v, rfl, hv⟩ := one_inv hx
    obtain ⟨p, ys, rfl, hp, hys⟩ := hv.tup_inv
    exact ⟨p, ys, rfl, .inr ⟨hp, q _ _ (.refl _) (hys.tup hp)⟩⟩
  · cases hc
theorem rc_list : RDsL K A (rLstO K) gList := fun {O H xs ds} ho hx es hc Q q => by
  unfold gList at hc
  split at hc
  · cases hc
    obtain ⟨v, rfl, hv⟩ := one_inv hx
    obtain ⟨p, ys, rfl, hp, hnp, hys⟩ := hv.lst_inv
    exact ⟨p, ys, rfl, .inl (sq_of hp), fun l hl => q l ys _ hl (Cr.same_new hl) upd_same ((hys.more hl).same (Cr.same_new hl))⟩
  · cases hc
    obtain ⟨v, rfl, hv⟩ := one_inv hx
    obtain ⟨p, ys, rfl, hp, hys⟩ := hv.tup_inv
    exact ⟨p, ys, rfl, .inr hp, fun l hl => q l ys _ hl (Cr.same_new hl) upd_same ((hys.more hl).same (Cr.same_new hl))⟩
  · cases hc
theorem rc_max : RDs K A rMax2 gMax := fun {O H xs ds} ho hx c hc Q q => by
  unfold gMax at hc
  split at hc
  · cases hc
    obtain ⟨v, ws, rfl, h1, h2⟩ := hx.head
    obtain ⟨u, rfl, h3⟩ := one_inv h2
    cases h1.int_inv; cases h3.int_inv
    exact ⟨_, _, rfl, q _ _ (.refl _) (.int _)⟩
  · cases hc
def fLenV (i : Nat) : FE := fun ρ => match ρ[i]? with
  | some (.val d) => gLen [d]
  | some (.own (.l ds)) => some (.int ds.length)
  | some (.own (.d _ _ _)) => none
  | _ => none
theorem se_lenV (i : Nat) : SE K A (tCB (rLenX K) (tCons (tVar i) tNil)) (fLenV i) := fun {H0 O0 O σ H ρ} R d hd Q q => by
  unfold fLenV at hd
  split at hd
  · rename_i d' hi
    obtain ⟨v, h1, h2⟩ := R.val i d' hi
    exact ⟨v, h1, rc_len R.owl (.cons h2 .nil) d hd Q q⟩
  · rename_i ds hi
    cases hd
    obtain ⟨p, _, s1, s2, s3, s4, xs, rfl, s5⟩ := R.own i _ hi
    exact ⟨_, s1, _, _, rfl, .inl ⟨xs, sq_of s4, s5.1.symm⟩, q _ _ (.refl _) (.int _)⟩
  · cases hd
  · cases hd
theorem se_isi {te : TE} {fe : FE} {n : String} (h : SE K A te fe) : SE K A (tCB (rIsi K) (tCons te (tCons (tC (.ty n)) tNil))) (fCall (gIsi n) (fCons fe fNil)) := fun {H0 O0 O σ H ρ} R d hd Q q => by
  obtain ⟨ds, h1, h2⟩ := bind_some' hd
  obtain ⟨a, h3, h4⟩ := bind_some' h1
  cases h4
  obtain ⟨t, h5, h6⟩ := bind_some' (show ((tyO a).bind fun t => (kitB t n).bind fun b => some (PyData.bool b)) = some d from h2)
  obtain ⟨c, h7, h8⟩ := bind_some' h6
  cases h8
  refine h R a h3 _ fun v H1 e1 hv => ?_
  have ht : TyX K H1 v (.type t) := by
    cases hv with
    | int i => cases h5; exact .base (.int i)
    | str i => cases h5; exact .base (.str i)
    | bl i => cases h5; exact .base (.bl i)
    | tup hs _ _ =>
      cases h5
      rcases hs with (hs | ⟨o, hs⟩) | ⟨o, its, n, hk, hc, _⟩
      · exact .base (.tup hs)
      · exact .fTuple hs
      · exact .kTuple hk hc
    | non => cases h5
    | lst => cases h5
    | fn => cases h5
  exact ⟨v, .ty n, _, _, c, rfl, .ty n, ht, kit_ty h7, q _ _ e1 (.bl _)⟩
end
def fSeqI (fe : FE) : FA := fun ρ => (fe ρ).bind fun d => match d with
  | .list ds => some ds
  | .tuple ds => some ds
  | .str z => some (z.cps.toList.map fun c => .str ⟨#[c]⟩)
  | _ => none
def rngD (lo : Int) (n : Nat) : List PyData := (List.range n).map fun (i : Nat) => PyData.int (lo + (i : Int))
def fRng1 (fa : FA) : FA := fun ρ => (fa ρ).bind fun ds => match ds with
  | [.int n] => if -10000000 ≤ n ∧ n ≤ 10000000 then some (rngD 0 n.toNat) else none
  | _ => none
def enuD : Nat → List PyData → List PyData
  | _, [] => []
  | i, d :: ds => .tuple [.int i, d] :: enuD (i + 1) ds
def fEnu (fa : FA) : FA := fun ρ => (fa ρ).bind fun ds => match ds with
  | [.list ds] => some (enuD 0 ds)
  | [.tuple ds] => some (enuD 0 ds)
  | _ => none
section
variable {K : PySem.W.Frag} {A : Atm} {te : TE} {fe : FE} {ta : TA} {fa : FA}
theorem wk_list {O : Addr → Prop} {H : Hp} {p : Addr} {xs : List V} {ds : List PyData} (hp : H p = some (.lst xs)) (hn : ¬ O p) (h : Fds K A O H xs ds) (ho : Owl O H) : Wk K A O H (Itl K p) ds := by
  refine ⟨_, _, h.1 ▸ walk_list (xs := xs), fun O' H' ho' ev => ⟨sq_of (ev _ _ hp hn).1, fun i x H2 hi hy => ?_⟩⟩
  obtain ⟨rfl, hx⟩ := hy
  obtain ⟨d, hd, hv⟩ := h.get' hx
  exact ⟨.refl _, d, hd, hv.evo ho ev⟩
theorem wk_tup {O : Addr → Prop} {H : Hp} {p : Addr} {xs : List V} {ds : List PyData} (hp : SqT K H p xs) (h : Fds K A O H xs ds) (ho : Owl O H) : Wk K A O H (Itt K p) ds := by
  refine ⟨_, _, h.1 ▸ walk_tup (xs := xs), fun O' H' ho' ev => ⟨sqT_evo ho ev hp, fun i x H2 hi hy => ?_⟩⟩
  obtain ⟨rfl, hx⟩ := hy
  obtain ⟨d, hd, hv⟩ := h.get' hx
  exact ⟨.refl _, d, hd, hv.evo ho ev⟩
theorem si_seq (h : SE K A te fe) : SI K A (iSeq K te) (fSeqI fe) := fun R ds hds Rr q => by
  obtain ⟨d, h1, h2⟩ := bind_some' hds
  cases d <;> try cases h2
  · refine .inr (.inr (h R _ h1 _ fun v H1 e1 hv => ⟨_, hv.str_inv, q _ _ e1 ?_⟩))
    rename_i z
    refine ⟨_, _, by rw [List.length_map, Array.length_toList]; exact walk_str (z := z), fun O' H' ho' ev => ⟨trivial, fun i x H2 hi hy => ?_⟩⟩
    obtain ⟨rfl, c, hc, rfl⟩ := hy
    exact ⟨.refl _, .str ⟨#[c]⟩, by rw [List.getElem?_map, Array.getElem?_toList, hc]; rfl, .str _⟩
  · refine .inl (h R _ h1 _ fun v H1 e1 hv => ?_)
    obtain ⟨p, xs, rfl, hp, hnp, hxs⟩ := hv.lst_inv
    exact ⟨p, rfl, ⟨xs, sq_of hp⟩, q _ _ e1 (wk_list hp hnp hxs (R.owl.same e1))⟩
  · refine .inr (.inl (h R _ h1 _ fun v H1 e1 hv => ?_))
    obtain ⟨p, xs, rfl, hp, hxs⟩ := hv.tup_inv
    exact ⟨p, rfl, ⟨xs, hp⟩, q _ _ e1 (wk_tup hp hxs (R.owl.same e1))⟩
theorem wk_rng {O : Addr → Prop} {H : Hp} (lo : Int) (n : Nat) : Wk K A O H (Itr lo n) (rngD lo n) := by
  refine ⟨_, _, by unfold rngD; rw [List.length_map, List.length_range]; exact walk_range (lo := lo) (n := n), fun O' H' ho' ev => ⟨trivial, fun i x H2 hi hy => ?_⟩⟩
  obtain ⟨rfl, rfl⟩ := hy
  unfold rngD at hi ⊢
  rw [List.length_map, List.length_range] at hi
  exact ⟨.refl _, .int (lo + i), by rw [List.getElem?_map, List.getElem?_range hi]; rfl, .int _⟩
theorem si_rng1 (h : SA K A ta fa) : SI K A (iRng1 ta) (fRng1 fa) := fun R ds hds Rr q => by
  obtain ⟨es, h1, h2⟩ := bind_some' hds
  split at h2
  · rename_i n
    split at h2
    · cases h2
      refine h R _ h1 _ fun vs H1 e1 hvs => ?_
      obtain ⟨v, rfl, hv⟩ := one_inv hvs
      cases hv.int_inv
      exact ⟨n, rfl, by omega, by omega, q _ _ e1 (wk_rng 0 n.toNat)⟩
    · cases h2
  · cases h2
theorem enu_get : ∀ (k : Nat) (ds : List PyData) (i : Nat) (d : PyData), ds[i]? = some d → (enuD k ds)[i]? = some (.tuple [.int ((k + i : Nat) : Int), d])
  | _, [], i, d, h => by simp at h
  | k, e :: ds, 0, d, h => by cases h; rfl
  | k, e :: ds, i + 1, d, h => by
    show (enuD (k + 1) ds)[i]? = _
    rw [enu_get (k + 1) ds i d (by simpa using h), show k + 1 + i = k + (i + 1) by omega]
theorem enu_len : ∀ (k : Nat) (ds : List PyData), (enuD k ds).length = ds.length
  | _, [] => rfl
  | k, d :: ds => by show (enuD (k + 1) ds).length + 1 = _; rw [enu_len]; rfl
theorem si_enu (h : SA K A ta fa) : SI K A (iEnu K ta) (fEnu fa) := fun {H0 O0 O σ H ρ} R ds hds Rr q => by
  obtain ⟨es, h1, h2⟩ := bind_some' hds
  split at h2
  · rename_i ds'
    cases h2
    refine .inl (h R _ h1 _ fun vs H1 e1 hvs => ?_)
    obtain ⟨v, rfl, hv⟩ := one_inv hvs
    obtain ⟨p, xs, rfl, hp, hnp, hxs⟩ := hv.lst_inv
    refine ⟨p, xs, rfl, sq_of hp, q _ _ e1 ⟨_, _, by rw [enu_len, ← hxs.1]; exact walk_enum (xs := xs), fun O' H' ho' ev => ⟨sq_of (ev _ _ hp hnp).1, fun i x H2 hi hy => ?_⟩⟩⟩
    obtain ⟨T, a, b, rfl, hT, rfl, f1, f2⟩ := hy
    cases f1
    obtain ⟨d, hd, hb⟩ := hxs.get' f2
    refine ⟨Cr.same_new hT, _, by rw [enu_get 0 ds' i d hd, Nat.zero_add], ?_⟩
    exact (Fds.cons (.int _) (.cons ((hb.evo (R.owl.same e1) ev).same (Cr.same_new hT)) .nil)).tup (.of upd_same)
  · rename_i ds'
    cases h2
    refine .inr (h R _ h1 _ fun vs H1 e1 hvs => ?_)
    obtain ⟨v, rfl, hv⟩ := one_inv hvs
    obtain ⟨p, xs, rfl, hp, hxs⟩ := hv.tup_inv
    refine ⟨p, xs, rfl, hp, q _ _ e1 ⟨_, _, by rw [enu_len, ← hxs.1]; exact walk_enumT (xs := xs), fun O' H' ho' ev => ⟨sqT_evo (R.owl.same e1) ev hp, fun i x H2 hi hy => ?_⟩⟩⟩
    obtain ⟨T, a, b, rfl, hT, rfl, f1, f2⟩ := hy
    cases f1
    obtain ⟨d, hd, hb⟩ := hxs.get' f2
    refine ⟨Cr.same_new hT, _, by rw [enu_get 0 ds' i d hd, Nat.zero_add], ?_⟩
    exact (Fds.cons (.int _) (.cons ((hb.evo (R.owl.same e1) ev).same (Cr.same_new hT)) .nil)).tup (.of upd_same)
  · cases h2
end
end Sm
set_option maxRecDepth 10000000
namespace Sm
open PySem PySem.Spec PyProof.Rows L2 Evl CrT Cr
def fStar (fe : FE) (fr : FA) : FA := fun ρ => (fe ρ).bind fun a => match a with
  | .tuple ds => (fr ρ).bind fun r => some (ds ++ r)
  | .list ds => (fr ρ).bind fun r => some (ds ++ r)
  | _ => none
def fAug (i : Nat) (fe : FE) : FS := fun ρ => match ρ[i]? with
  | some (.val (.int a)) => (fe ρ).bind fun d => match d with
    | .int b => some (.nx, ρ.set i (.val (.int (a + b))))
    | _ => none
  | _ => none
section
variable {K : PySem.W.Frag} {A : Atm} {te : TE} {fe : FE} {tas : TA} {fas : FA}
theorem sa_star (ha : SE K A te fe) (hr : SA K A tas fas) : SA K A (StX.tStar K te tas) (fStar fe fas) := fun R ds h Q q => by
  obtain ⟨a, h1, h⟩ := bind_some' h
  cases a <;> try cases h
  · obtain ⟨r, h2, h3⟩ := bind_some' h
    cases h3
    refine ha R _ h1 _ fun v H1 e1 hv => ?_
    obtain ⟨p, xs, rfl, hp, hnp, hxs⟩ := hv.lst_inv
    exact ⟨p, xs, rfl, .inr (sq_of hp), hr (R.same e1) r h2 _ fun vs H2 e2 hvs => q _ H2 (e1.trans e2) ((hxs.same e2).app hvs)⟩
  · obtain ⟨r, h2, h3⟩ := bind_some' h
    cases h3
    refine ha R _ h1 _ fun v H1 e1 hv => ?_
    obtain ⟨p, xs, rfl, hp, hxs⟩ := hv.tup_inv
    exact ⟨p, xs, rfl, .inl hp, hr (R.same e1) r h2 _ fun vs H2 e2 hvs => q _ H2 (e1.trans e2) ((hxs.same e2).app hvs)⟩
end
end Sm
set_option maxRecDepth 10000000
namespace Sm
open PySem PySem.Spec PyProof.Rows L2 Evl CrT Cr
theorem charNat {c d : Char} (h : c.toNat = d.toNat) : c = d := by
  apply Char.ext
  exact UInt32.toNat_inj.mp h
theorem strEq (a b : String) : (Str.ofString a = Str.ofString b) = (a = b) := by
  apply propext
  constructor
  · intro h
    rw [Str.ofString_eq_toList, Str.ofString_eq_toList] at h
    injection h with h
    injection h with h
    have h2 : ∀ {l m : List Char}, l.map Char.toNat = m.map Char.toNat → l = m := by
      intro l
      induction l with
      | nil => intro m h; cases m <;> simp at h ⊢
      | cons x l ih =>
        intro m h
        cases m with
        | nil => simp at h
        | cons y m =>
          simp only [List.map_cons, List.cons.injEq] at h
          rw [charNat h.1, ih h.2]
    exact String.toList_inj.mp (h2 h)
  · intro h
    rw [h]
def resF (o : Option (Fl × List Sl)) : Option PyData := match o with
  | some (.rt d, _) => some d
  | some (.nx, _) => some .none
  | _ => none
theorem run_1 {n : Nat} {f : FS} {a : PyData} : runF n 1 f [a] = resF (f (.val a :: List.replicate (n - 1) .un)) := rfl
theorem run_2 {n : Nat} {f : FS} {a b : PyData} : runF n 2 f [a, b] = resF (f (.val a :: .val b :: List.replicate (n - 2) .un)) := rfl
theorem run_3 {n : Nat} {f : FS} {a b c : PyData} : runF n 3 f [a, b, c] = resF (f (.val a :: .val b :: .val c :: List.replicate (n - 3) .un)) := rfl
theorem run_4 {n : Nat} {f : FS} {a b c d : PyData} : runF n 4 f [a, b, c, d] = resF (f (.val a :: .val b :: .val c :: .val d :: List.replicate (n - 4) .un)) := rfl
theorem ix0 {a : PyData} {as : List PyData} : atI (a :: as) 0 = some a := atI_nat (j := 0) rfl
theorem ix1 {a b : PyData} {as : List PyData} : atI (a :: b :: as) 1 = some b := atI_nat (j := 1) rfl
theorem ix2 {a b c : PyData} {as : List PyData} : atI (a :: b :: c :: as) 2 = some c := atI_nat (j := 2) rfl
theorem ix3 {a b c d : PyData} {as : List PyData} : atI (a :: b :: c :: d :: as) 3 = some d := atI_nat (j := 3) rfl
theorem then_nx {ρ : List Sl} {g : FS} : fThen (some (.nx, ρ)) g = g ρ := rfl
theorem then_rt {d : PyData} {ρ : List Sl} {g : FS} : fThen (some (.rt d, ρ)) g = some (.rt d, ρ) := rfl
theorem then_bk {ρ : List Sl} {g : FS} : fThen (some (.bk, ρ)) g = some (.bk, ρ) := rfl
theorem then_ct {ρ : List Sl} {g : FS} : fThen (some (.ct, ρ)) g = some (.ct, ρ) := rfl
theorem turn_nx {ρ : List Sl} {g : List Sl → Option (Fl × List Sl)} : fTurn (some (.nx, ρ)) g = g ρ := rfl
theorem turn_ct {ρ : List Sl} {g : List Sl → Option (Fl × List Sl)} : fTurn (some (.ct, ρ)) g = g ρ := rfl
theorem turn_bk {ρ : List Sl} {g : List Sl → Option (Fl × List Sl)} : fTurn (some (.bk, ρ)) g = some (.nx, ρ) := rfl
theorem turn_rt {d : PyData} {ρ : List Sl} {g : List Sl → Option (Fl × List Sl)} : fTurn (some (.rt d, ρ)) g = some (.rt d, ρ) := rfl
theorem res_rt {d : PyData} {ρ : List Sl} : resF (some (.rt d, ρ)) = some d := rfl
theorem asB_b {b : Bool} : asB (.bool b) = some b := rfl
theorem loop_c {g : PyData → List Sl → Option (List Sl)} {b : FS} {d : PyData} {ds : List PyData} {ρ : List Sl} : fLoop g b (d :: ds) ρ = (g d ρ).bind fun ρ1 => fTurn (b ρ1) (fLoop g b ds) := rfl
theorem gIx_t {ds : List PyData} {i : Int} : gIx (.tuple ds) (.int i) = atI ds i := rfl
theorem gIx_l {ds : List PyData} {i : Int} : gIx (.list ds) (.int i) = atI ds i := rfl
theorem gAdd_i {i j : Int} : gAdd (.int i) (.int j) = some (.int (i + j)) := rfl
theorem gSub_i {i j : Int} : gSub (.int i) (.int j) = some (.int (i - j)) := rfl
theorem gLt_i {i j : Int} : gLt (.int i) (.int j) = some (.bool (decide (i < j))) := rfl
theorem gLe_i {i j : Int} : gLe (.int i) (.int j) = some (.bool (decide (i ≤ j))) := rfl
theorem gGt_i {i j : Int} : gGt (.int i) (.int j) = some (.bool (decide (j < i))) := rfl
theorem gGe_i {i j : Int} : gGe (.int i) (.int j) = some (.bool (decide (j ≤ i))) := rfl
theorem eq_i {i j : Int} : gEq (.int i) (.int j) = some (.bool (decide (i = j))) := rfl
theorem eq_s {x y : Str} : gEq (.str x) (.str y) = some (.bool (decide (x = y))) := rfl
theorem ne_i {i j : Int} : gNe (.int i) (.int j) = some (.bool (!decide (i = j))) := rfl
theorem ne_s {x y : Str} : gNe (.str x) (.str y) = some (.bool (!decide (x = y))) := rfl
theorem gLen_t {ds : List PyData} : gLen [.tuple ds] = some (.int ds.length) := rfl
theorem gLen_l {ds : List PyData} : gLen [.list ds] = some (.int ds.length) := rfl
theorem gTup_l {ds : List PyData} : gTuple [.list ds] = some (.tuple ds) := rfl
theorem gTup_t {ds : List PyData} : gTuple [.tuple ds] = some (.tuple ds) := rfl
theorem gIn_t {x : Str} {ds : List PyData} (h : ds.all fl = true) : gIn (.str x) (.tuple ds) = some (.bool (ds.any fun z => eqF z (.str x))) := by
  show (inD _ _).bind _ = _
  unfold inD
  simp only [fl, h, Bool.and_self, if_true, Option.bind_some]
theorem gIn_l {x : Str} {ds : List PyData} (h : ds.all fl = true) : gIn (.str x) (.list ds) = some (.bool (ds.any fun z => eqF z (.str x))) := by
  show (inD _ _).bind _ = _
  unfold inD
  simp only [fl, h, Bool.and_self, if_true, Option.bind_some]
theorem gNi_l {x : Str} {ds : List PyData} (h : ds.all fl = true) : gNi (.str x) (.list ds) = some (.bool (!ds.any fun z => eqF z (.str x))) := by
  show (inD _ _).bind _ = _
  unfold inD
  simp only [fl, h, Bool.and_self, if_true, Option.bind_some]
end Sm
namespace Cr
open PySem PySem.Spec PyProof.Rows L2 Evl CrT
def numD : PyData → Int
  | .int i => i
  | _ => 0
def rise : List Int → Bool
  | a :: b :: r => decide (a ≤ b) && rise (b :: r)
  | _ => true
def diff : List PyData → Bool
  | [] => true
  | d :: ds => (!ds.any fun z => PyData.eqv z d) && diff ds
def holdsC : Cd → PyData → Bool
  | .atmost n, d => match d with | .int i => decide (i ≤ n) | _ => false
  | .divides n, d => match d with | .int i => decide (V.int (i % n) = V.int 0) | _ => false
  | .is s, d => match d with | .str x => decide (V.str x = V.str s) | _ => false
  | .item i c, d => match d with | .tuple ds => holdsC c (ds.getD i.toNat .none) | _ => false
  | .every c, d => match d with | .tuple ds => ds.all (holdsC c) | _ => false
  | .some_ c, d => match d with | .tuple ds => ds.any (holdsC c) | _ => false
  | .size c, d => match d with | .tuple ds => holdsC c (.int (ds.length : Int)) | _ => false
  | .sum c, d => match d with | .tuple ds => holdsC c (.int (ds.map numD).sum) | _ => false
  | .rising, d => match d with | .tuple ds => rise (ds.map numD) | _ => false
  | .different, d => match d with | .tuple ds => diff ds | _ => false
  | .not_ c, d => !holdsC c d
  | .and_ c e, d => holdsC c d && holdsC e d
  | .or_ c e, d => holdsC c d || holdsC e d
theorem Room.u65 {k : Nat} {A : Around} (r : Room k A) : A.units + 65 < cLine := by
  have := r.un
  omega
theorem eqv_ints : ∀ ns ms : List Int, PyData.eqvAll (ns.map PyData.int) (ms.map PyData.int) = decide (ns = ms)
  | [], [] => rfl
  | [], _ :: _ => rfl
  | _ :: _, [] => rfl
  | a :: ns, b :: ms => by
    show ((a == b) && PyData.eqvAll (ns.map PyData.int) (ms.map PyData.int)) = _
    rw [eqv_ints ns ms, Bool.eq_iff_iff]
    simp
theorem Vds.drop {K : PySem.W.Frag} {H : Hp} {xs : List V} {ds : List PyData} (h : Vds K H xs ds) (n : Nat) : Vds K H (xs.drop n) (ds.drop n) :=
  ⟨by rw [List.length_drop, List.length_drop, h.1], fun i v d h1 h2 => h.2 (n + i) v d (by rw [List.getElem?_drop] at h1; exact h1) (by rw [List.getElem?_drop] at h2; exact h2)⟩
theorem Vds.take {K : PySem.W.Frag} {H : Hp} {xs : List V} {ds : List PyData} (h : Vds K H xs ds) (n : Nat) : Vds K H (xs.take n) (ds.take n) :=
  ⟨by rw [List.length_take, List.length_take, h.1], fun i v d h1 h2 => by
    rw [List.getElem?_take] at h1 h2
    by_cases hi : i < n
    · rw [if_pos hi] at h1 h2
      exact h.2 i v d h1 h2
    · rw [if_neg hi] at h1
      cases h1⟩
theorem Dk.sub {n : Nat} {ds es : List PyData} (h : Dk n (.tuple ds)) (hl : es.length ≤ ds.length) (hs : ∀ e ∈ es, e ∈ ds) : Dk n (.tuple es) := by
  cases h with
  | tup h1 h2 => exact .tup (Nat.le_trans hl h1) fun e he => h2 e (hs e he)
end Cr
namespace Cr
open PySem PySem.Spec PyProof.Rows L2 Evl CrT
inductive Mp where
  | plus (n : Int) | times (n : Int) | item (k : Int) | length | sum | sorted | reversed
def Mp.data : Mp → PyData
  | .plus n => .tuple [.str "plus", .int n]
  | .times n => .tuple [.str "times", .int n]
  | .item k => .tuple [.str "item", .int k]
  | .length => .tuple [.str "length"]
  | .sum => .tuple [.str "sum"]
  | .sorted => .tuple [.str "sorted"]
  | .reversed => .tuple [.str "reversed"]
def behind : Mp → Kd → Option Kd
  | .plus n, k => if k.isInt && (decide (-1000 ≤ n) && decide (n ≤ 1000)) then some .int else none
  | .times n, k => if k.isInt && (decide (-1000 ≤ n) && decide (n ≤ 1000)) then some .int else none
  | .item i, k => if decide (0 ≤ i) && decide (i < (k.parts.length : Int)) then some (k.parts.getD i.toNat .int) else none
  | .length, k => match k with | .lst _ => some .int | _ => none
  | .sum, k => match k with | .lst j => if j.isInt then some .int else none | _ => none
  | .sorted, k => match k with | .lst j => if j.isFlat then some (.lst j) else none | _ => none
  | .reversed, k => match k with | .lst j => some (.lst j) | _ => none
inductive Gn where
  | int (lo hi : Int) | pick (ws : List Str) | tuple (gs : List Gn) | list (g : Gn) (least most : Int) | one (gs : List Gn) | kept (g : Gn) (c : Cd) | turned (g : Gn) (m : Mp) | repeat_ (g h : Gn)
mutual
def Gn.data : Gn → PyData
  | .int lo hi => .tuple [.str "int", .int lo, .int hi]
  | .pick ws => .tuple [.str "pick", .tuple (ws.map PyData.str)]
  | .tuple gs => .tuple [.str "tuple", .tuple (gnAll gs)]
  | .list g least most => .tuple [.str "list", g.data, .int least, .int most]
  | .one gs => .tuple [.str "one", .tuple (gnAll gs)]
  | .kept g c => .tuple [.str "kept", g.data, c.data]
  | .turned g m => .tuple [.str "turned", g.data, m.data]
  | .repeat_ g h => .tuple [.str "repeat", g.data, h.data]
def gnAll : List Gn → List PyData
  | [] => []
  | g :: gs => g.data :: gnAll gs
end
theorem gnAll_map : ∀ gs : List Gn, gnAll gs = gs.map Gn.data
  | [] => by rw [gnAll]; rfl
  | g :: gs => by rw [gnAll, gnAll_map gs]; rfl
inductive OkG : Nat → Gn → Prop
  | int {n : Nat} (lo hi : Int) : OkG (n + 1) (.int lo hi)
  | pick {n : Nat} {ws : List Str} : ws.length ≤ 60 → (∀ w ∈ ws, SeqAt.shaped (.str w) = true ∧ w.length ≤ 1000) → OkG (n + 1) (.pick ws)
  | tuple {n : Nat} {gs : List Gn} : gs.length ≤ 60 → (∀ g ∈ gs, OkG n g) → OkG (n + 1) (.tuple gs)
  | list {n : Nat} {g : Gn} (a b : Int) : OkG n g → OkG (n + 1) (.list g a b)
  | one {n : Nat} {gs : List Gn} : gs.length ≤ 60 → (∀ g ∈ gs, OkG n g) → OkG (n + 1) (.one gs)
  | kept {n : Nat} {g : Gn} {c : Cd} : OkG n g → OkC 10 c → OkG (n + 1) (.kept g c)
  | turned {n : Nat} {g : Gn} (m : Mp) : OkG n g → OkG (n + 1) (.turned g m)
  | repeat_ {n : Nat} {g h : Gn} : OkG n g → OkG n h → OkG (n + 1) (.repeat_ g h)
theorem OkG.mono {n m : Nat} {g : Gn} (h : OkG n g) (hm : n ≤ m) : OkG m g := by
  induction h generalizing m with
  | int => obtain ⟨m', rfl⟩ : ∃ m', m = m' + 1 := ⟨m - 1, by omega⟩; exact .int _ _
  | pick h1 h2 => obtain ⟨m', rfl⟩ : ∃ m', m = m' + 1 := ⟨m - 1, by omega⟩; exact .pick h1 h2
  | tuple h1 _ ih => obtain ⟨m', rfl⟩ : ∃ m', m = m' + 1 := ⟨m - 1, by omega⟩; exact .tuple h1 fun g hg => ih g hg (by omega)
  | list a b _ ih => obtain ⟨m', rfl⟩ : ∃ m', m = m' + 1 := ⟨m - 1, by omega⟩; exact .list a b (ih (by omega))
  | one h1 _ ih => obtain ⟨m', rfl⟩ : ∃ m', m = m' + 1 := ⟨m - 1, by omega⟩; exact .one h1 fun g hg => ih g hg (by omega)
  | kept _ hc ih => obtain ⟨m', rfl⟩ : ∃ m', m = m' + 1 := ⟨m - 1, by omega⟩; exact .kept (ih (by omega)) hc
  | turned q _ ih => obtain ⟨m', rfl⟩ : ∃ m', m = m' + 1 := ⟨m - 1, by omega⟩; exact .turned q (ih (by omega))
  | repeat_ _ _ ih1 ih2 => obtain ⟨m', rfl⟩ : ∃ m', m = m' + 1 := ⟨m - 1, by omega⟩; exact .repeat_ (ih1 (by omega)) (ih2 (by omega))
inductive GenK : Gn → Kd → Prop
  | int {lo hi : Int} : -1000 ≤ lo → lo ≤ hi → hi ≤ 1000 → GenK (.int lo hi) .int
  | pick {ws : List Str} : 0 < ws.length → ws.length ≤ 10 → ws.Nodup → (∀ w ∈ ws, isWord w = true) → GenK (.pick ws) .word
  | tuple {gs : List Gn} {ks : List Kd} : gs.length ≤ 4 → gs.length = ks.length → (∀ (i : Nat) g k, gs[i]? = some g → ks[i]? = some k → GenK g k) → GenK (.tuple gs) (.tup ks)
  | list {g : Gn} {k : Kd} {a b : Int} : GenK g k → 0 ≤ a → a ≤ b → b ≤ 6 → GenK (.list g a b) (.lst k)
  | one {gs : List Gn} {k : Kd} : 0 < gs.length → gs.length ≤ 4 → (∀ g ∈ gs, GenK g k) → GenK (.one gs) k
  | kept {g : Gn} {k : Kd} {c : Cd} : GenK g k → fitsC c k = true → GenK (.kept g c) k
  | turned {g : Gn} {k k' : Kd} {m : Mp} : GenK g k → behind m k = some k' → GenK (.turned g m) k'
  | repeat_ {g h : Gn} {k : Kd} : GenK g .int → GenK h k → GenK (.repeat_ g h) (.lst k)
def powSum (c : Nat) : Nat → Nat → Nat
  | _, 0 => 0
  | a, n + 1 => c ^ a + powSum c (a + 1) n
mutual
def cntG : Gn → Nat
  | .int lo hi => (hi - lo + 1).toNat
  | .pick ws => ws.length
  | .tuple gs => cntMul gs
  | .list g a b => powSum (cntG g) a.toNat (b.toNat + 1 - a.toNat)
  | .one gs => cntAdd gs
  | .kept g _ => cntG g
  | .turned g _ => cntG g
  | .repeat_ g h => match g with
    | .int lo hi => powSum (cntG h) lo.toNat (hi.toNat + 1 - lo.toNat)
    | g => cntG g * (1 + cntG h) ^ 6
def cntMul : List Gn → Nat
  | [] => 1
  | g :: gs => cntG g * cntMul gs
def cntAdd : List Gn → Nat
  | [] => 0
  | g :: gs => cntG g + cntAdd gs
end
inductive CapG (M : Nat) : Gn → Prop
  | int {lo hi : Int} : cntG (.int lo hi) ≤ M → CapG M (.int lo hi)
  | pick {ws : List Str} : cntG (.pick ws) ≤ M → CapG M (.pick ws)
  | tuple {gs : List Gn} : (∀ g ∈ gs, CapG M g) → cntG (.tuple gs) ≤ M → CapG M (.tuple gs)
  | list {g : Gn} {a b : Int} : CapG M g → cntG (.list g a b) ≤ M → CapG M (.list g a b)
  | one {gs : List Gn} : (∀ g ∈ gs, CapG M g) → cntG (.one gs) ≤ M → CapG M (.one gs)
  | kept {g : Gn} {c : Cd} : CapG M g → cntG (.kept g c) ≤ M → CapG M (.kept g c)
  | turned {g : Gn} {m : Mp} : CapG M g → cntG (.turned g m) ≤ M → CapG M (.turned g m)
  | repeat_ {g h : Gn} : CapG M g → CapG M h → cntG (.repeat_ g h) ≤ M → CapG M (.repeat_ g h)
theorem CapG.cnt {M : Nat} {g : Gn} (h : CapG M g) : cntG g ≤ M := by cases h <;> assumption
theorem CapG.mono {M M' : Nat} {g : Gn} (h : CapG M g) (hm : M ≤ M') : CapG M' g := by
  induction h with
  | int h => exact .int (Nat.le_trans h hm)
  | pick h => exact .pick (Nat.le_trans h hm)
  | tuple _ h ih => exact .tuple ih (Nat.le_trans h hm)
  | list _ h ih => exact .list ih (Nat.le_trans h hm)
  | one _ h ih => exact .one ih (Nat.le_trans h hm)
  | kept _ h ih => exact .kept ih (Nat.le_trans h hm)
  | turned _ h ih => exact .turned ih (Nat.le_trans h hm)
  | repeat_ _ _ h ih1 ih2 => exact .repeat_ ih1 ih2 (Nat.le_trans h hm)
theorem len1 {a : V} : [a].length ≤ sizeLine := by show 1 ≤ sizeLine; decide
theorem flat_in (k : Kd) : ([.str "int", .str "word"] : List PyData).any (fun z => PyData.eqv z k.data) = k.isFlat := by
  have h1 : PyData.eqv (.str "int") k.data = k.isInt := by rw [PySem.W.eqv_comm, eqv_int]
  have h2 : PyData.eqv (.str "word") k.data = k.isWord := by rw [PySem.W.eqv_comm, eqv_word]
  show (PyData.eqv (.str "int") k.data || (PyData.eqv (.str "word") k.data || false)) = _
  rw [h1, h2]
  cases k <;> rfl
end Cr
namespace Cr
open PySem PySem.Spec PyProof.Rows L2 Evl CrT
def intOf : PyData → Int
  | .int i => i
  | _ => 0
def sortD (ds : List PyData) : List PyData := ds.mergeSort (PySem.W.dataLe false id)
def turnD : Mp → PyData → PyData
  | .plus n, .int i => .int (i + n)
  | .times n, .int i => .int (i * n)
  | .item k, .tuple ds => ds.getD k.toNat .none
  | .length, .tuple ds => .int (ds.length : Int)
  | .sum, .tuple ds => .int (ds.map intOf).sum
  | .sorted, .tuple ds => .tuple (sortD ds)
  | .reversed, .tuple ds => .tuple ds.reverse
  | _, d => d
theorem sortZ_snd {xs : List V} {ds : List PyData} (h : xs.length = ds.length) : (sortZ xs ds).map Prod.snd = sortD ds := by
  unfold sortZ sortD
  rw [PySem.W.sort_maps (r := PySem.W.dataLe false Prod.snd) (s := PySem.W.dataLe false id) Prod.snd (fun _ _ _ _ => rfl), zip_snd h]
section
variable {K : PySem.W.Frag} {H H' : Hp}
theorem Vds.zip {xs : List V} {ds : List PyData} (h : Vds K H xs ds) {z : V × PyData} (hz : z ∈ xs.zip ds) : Vd K H z.1 z.2 := by
  obtain ⟨i, hi⟩ := List.mem_iff_getElem?.mp hz
  rw [List.getElem?_zip_eq_some] at hi
  exact h.2 i z.1 z.2 hi.1 hi.2
theorem Vds.sorted {xs : List V} {ds : List PyData} (h : Vds K H xs ds) : Vds K H ((sortZ xs ds).map Prod.fst) (sortD ds) := by
  rw [← sortZ_snd h.1]
  refine ⟨by rw [List.length_map, List.length_map], fun i v d h1 h2 => ?_⟩
  rw [List.getElem?_map] at h1 h2
  cases e : (sortZ xs ds)[i]? with
  | none => rw [e] at h1; cases h1
  | some z =>
    rw [e] at h1 h2
    cases h1
    cases h2
    exact h.zip ((List.mergeSort_perm _ _).mem_iff.mp (List.mem_of_getElem? e))
theorem Vds.reverse {xs : List V} {ds : List PyData} (h : Vds K H xs ds) : Vds K H xs.reverse ds.reverse := by
  refine ⟨by rw [List.length_reverse, List.length_reverse, h.1], fun i v d h1 h2 => ?_⟩
  have hl := h.1
  by_cases hi : i < xs.length
  · rw [List.getElem?_reverse hi] at h1
    rw [List.getElem?_reverse (by omega), ← hl] at h2
    exact h.2 _ v d h1 h2
  · rw [List.getElem?_eq_none (by rw [List.length_reverse]; omega)] at h1
    cases h1
theorem Vds.dp {xs : List V} {ds : List PyData} (h : Vds K H xs ds) : DpAll K H xs ds := dpAll_of h.1 fun i v d h1 h2 => (h.2 i v d h1 h2).dp
theorem Vd.all {a : Addr} {ds : List PyData} (h : Vd K H (.ref a) (.tuple ds)) : ∃ xs, SqT K H a xs ∧ Vds K H xs ds := by
  obtain ⟨xs, h1, h2, h3⟩ := h.get
  exact ⟨xs, h1, h2, h3⟩
end
theorem behind_lst {m : Mp} {k k' : Kd} (h : behind m k = some k') (hm : m = .length ∨ m = .sum ∨ m = .sorted ∨ m = .reversed) : ∃ j, k = .lst j := by
  cases k with
  | lst j => exact ⟨j, rfl⟩
  | _ => rcases hm with rfl | rfl | rfl | rfl <;> simp [behind] at h
theorem behind_item {i : Int} {k k' : Kd} (h : behind (.item i) k = some k') : ∃ ks, k = .tup ks ∧ 0 ≤ i ∧ i.toNat < ks.length ∧ k' = ks.getD i.toNat .int := by
  have h' : (if decide (0 ≤ i) && decide (i < (k.parts.length : Int)) then some (k.parts.getD i.toNat .int) else none) = some k' := h
  by_cases c : (decide (0 ≤ i) && decide (i < (k.parts.length : Int))) = true
  · rw [if_pos c] at h'
    have c' := Bool.and_eq_true_iff.mp c
    have c1 := of_decide_eq_true c'.1
    have c2 := of_decide_eq_true c'.2
    cases h'
    cases k with
    | tup ks =>
      refine ⟨ks, rfl, c1, ?_, rfl⟩
      have : i < (ks.length : Int) := c2
      omega
    | _ => exact absurd c2 (by simp [Kd.parts]; omega)
  · rw [if_neg c] at h'
    cases h'
theorem behind_num {n : Int} {k k' : Kd} {m : Mp} (hm : m = .plus n ∨ m = .times n) (h : behind m k = some k') : k = .int ∧ -1000 ≤ n ∧ n ≤ 1000 ∧ k' = .int := by
  have h' : (if k.isInt && (decide (-1000 ≤ n) && decide (n ≤ 1000)) then some Kd.int else none) = some k' := by
    rcases hm with rfl | rfl <;> exact h
  by_cases c : (k.isInt && (decide (-1000 ≤ n) && decide (n ≤ 1000))) = true
  · rw [if_pos c] at h'
    have c' := Bool.and_eq_true_iff.mp c
    have c2 := Bool.and_eq_true_iff.mp c'.2
    cases h'
    cases k with
    | int => exact ⟨rfl, of_decide_eq_true c2.1, of_decide_eq_true c2.2, rfl⟩
    | _ => exact absurd c'.1 (by simp [Kd.isInt])
  · rw [if_neg c] at h'
    cases h'
end Cr
set_option maxRecDepth 10000000
namespace Sm
open PySem PySem.Spec PyProof.Rows L2 Evl CrT Cr
open Classical in
noncomputable def fnOf (R : List PyData → PyData → Prop) : Fn := fun ds => if h : ∃ r, R ds r then some h.choose else none
theorem fnOf_eq {R : List PyData → PyData → Prop} {ds : List PyData} {r : PyData} (hu : ∀ r', R ds r' → r' = r) (h : R ds r) : fnOf R ds = some r := by
  unfold fnOf
  have hx : ∃ r, R ds r := ⟨r, h⟩
  rw [dif_pos hx]
  exact congrArg some (hu _ hx.choose_spec)
theorem fnOf_inv {R : List PyData → PyData → Prop} {ds : List PyData} {r : PyData} (h : fnOf R ds = some r) : R ds r := by
  unfold fnOf at h
  split at h
  · rename_i hx
    cases h
    exact hx.choose_spec
  · cases h
end Sm
namespace Cr
open PySem PySem.Spec PyProof.Rows L2 Evl CrT
def EvB (K : PySem.W.Frag) (b d : Addr) (te : TE) (σ : L2.St) (H : Hp) (P : PyData → Prop) : Prop := ∀ H1, Mv b d H H1 → ∀ Q : VK, (∀ v e H2, Mv b d H1 H2 → Vd K H2 v e → P e → Q v H2) → te σ H1 Q
def EvBs (K : PySem.W.Frag) (b d : Addr) (ta : TA) (σ : L2.St) (H : Hp) (R : List PyData → Prop) : Prop := ∀ H1, Mv b d H H1 → ∀ Q : List V → Hp → Prop, (∀ vs es H2, Mv b d H1 H2 → Vds K H2 vs es → R es → Q vs H2) → ta σ H1 Q
section
variable {K : PySem.W.Frag} {σ : L2.St} {H H' : Hp} {te : TE} {ta : TA} {tu tz : TS} {D : Ends} {b d : Addr} {P P' : PyData → Prop} {R R' : List PyData → Prop}
theorem EvB.mono (h : EvB K b d te σ H P) (hp : ∀ e, P e → P' e) : EvB K b d te σ H P' := fun H1 m Q q => h H1 m Q fun v e H2 m2 hv he => q v e H2 m2 hv (hp e he)
theorem EvBs.mono (h : EvBs K b d ta σ H R) (hp : ∀ e, R e → R' e) : EvBs K b d ta σ H R' := fun H1 m Q q => h H1 m Q fun v e H2 m2 hv he => q v e H2 m2 hv (hp e he)
theorem Mv.none {H1 : Hp} {p : Addr} (m : Mv b d H H1) (hp : H1 p = none) : H p = none := by
  cases e : H p with
  | none => rfl
  | some o =>
    have := m.1 p o (m.2.neb hp).1 e
    rw [hp] at this
    cases this
end
theorem behind_ok {m : Mp} {k k' : Kd} {n : Nat} (h : behind m k = some k') (hk : OkK n k) : OkK n k' := by
  have hp := hk.pos
  have hi : OkK n .int := by
    obtain ⟨n', rfl⟩ : ∃ n', n = n' + 1 := ⟨n - 1, by omega⟩
    exact .int
  cases m with
  | plus i => obtain ⟨_, _, _, rfl⟩ := behind_num (.inl rfl) h; exact hi
  | times i => obtain ⟨_, _, _, rfl⟩ := behind_num (.inr rfl) h; exact hi
  | item i =>
    obtain ⟨ks, rfl, _, hik, rfl⟩ := behind_item h
    cases hk with
    | tup h1 h2 => exact (h2 _ (List.mem_of_getElem? (getD_at (a0 := Kd.int) hik))).mono (by omega)
  | length =>
    obtain ⟨j, rfl⟩ := behind_lst h (.inl rfl)
    have h' : some Kd.int = some k' := h
    cases h'
    exact hi
  | sum =>
    obtain ⟨j, rfl⟩ := behind_lst h (.inr (.inl rfl))
    have h' : (if j.isInt then some Kd.int else none) = some k' := h
    split at h'
    · cases h'; exact hi
    · cases h'
  | sorted =>
    obtain ⟨j, rfl⟩ := behind_lst h (.inr (.inr (.inl rfl)))
    have h' : (if j.isFlat then some (Kd.lst j) else none) = some k' := h
    split at h'
    · cases h'; exact hk
    · cases h'
  | reversed =>
    obtain ⟨j, rfl⟩ := behind_lst h (.inr (.inr (.inr rfl)))
    have h' : some (Kd.lst j) = some k' := h
    cases h'
    exact hk
end Cr
namespace Cr
open PySem PySem.Spec PyProof.Rows L2 Evl CrT
def partsG : Gn → List Gn
  | .int _ _ => []
  | .pick _ => []
  | .tuple gs => gs
  | .list g _ _ => [g]
  | .one gs => gs
  | .kept g _ => [g]
  | .turned g _ => [g]
  | .repeat_ g h => [g, h]
inductive OkGk : Nat → Nat → Gn → Prop
  | int {k n : Nat} (lo hi : Int) : OkGk k (n + 1) (.int lo hi)
  | pick {k n : Nat} {ws : List Str} : ws.length ≤ 60 → (∀ w ∈ ws, SeqAt.shaped (.str w) = true ∧ w.length ≤ 1000) → OkGk k (n + 1) (.pick ws)
  | tuple {k n : Nat} {gs : List Gn} : gs.length ≤ 60 → (∀ g ∈ gs, OkGk k n g) → OkGk k (n + 1) (.tuple gs)
  | list {k n : Nat} {g : Gn} (a b : Int) : OkGk k n g → OkGk k (n + 1) (.list g a b)
  | one {k n : Nat} {gs : List Gn} : gs.length ≤ 60 → (∀ g ∈ gs, OkGk k n g) → OkGk k (n + 1) (.one gs)
  | kept {k n : Nat} {g : Gn} {c : Cd} : OkGk k n g → OkC k c → OkGk k (n + 1) (.kept g c)
  | turned {k n : Nat} {g : Gn} (m : Mp) : OkGk k n g → OkGk k (n + 1) (.turned g m)
  | repeat_ {k n : Nat} {g h : Gn} : OkGk k n g → OkGk k n h → OkGk k (n + 1) (.repeat_ g h)
theorem OkG.k {n : Nat} {g : Gn} (h : OkG n g) : OkGk 10 n g := by
  induction h with
  | int => exact .int _ _
  | pick h1 h2 => exact .pick h1 h2
  | tuple h1 _ ih => exact .tuple h1 ih
  | list a b _ ih => exact .list a b ih
  | one h1 _ ih => exact .one h1 ih
  | kept _ hc ih => exact .kept ih hc
  | turned m _ ih => exact .turned m ih
  | repeat_ _ _ ih1 ih2 => exact .repeat_ ih1 ih2
theorem OkGk.mono {k k' n m : Nat} {g : Gn} (h : OkGk k n g) (hk : k ≤ k') (hm : n ≤ m) : OkGk k' m g := by
  induction h generalizing m with
  | int => obtain ⟨m', rfl⟩ : ∃ m', m = m' + 1 := ⟨m - 1, by omega⟩; exact .int _ _
  | pick h1 h2 => obtain ⟨m', rfl⟩ : ∃ m', m = m' + 1 := ⟨m - 1, by omega⟩; exact .pick h1 h2
  | tuple h1 _ ih => obtain ⟨m', rfl⟩ : ∃ m', m = m' + 1 := ⟨m - 1, by omega⟩; exact .tuple h1 fun g hg => ih g hg (by omega)
  | list a b _ ih => obtain ⟨m', rfl⟩ : ∃ m', m = m' + 1 := ⟨m - 1, by omega⟩; exact .list a b (ih (by omega))
  | one h1 _ ih => obtain ⟨m', rfl⟩ : ∃ m', m = m' + 1 := ⟨m - 1, by omega⟩; exact .one h1 fun g hg => ih g hg (by omega)
  | kept _ hc ih => obtain ⟨m', rfl⟩ : ∃ m', m = m' + 1 := ⟨m - 1, by omega⟩; exact .kept (ih (by omega)) (hc.mono hk)
  | turned q _ ih => obtain ⟨m', rfl⟩ : ∃ m', m = m' + 1 := ⟨m - 1, by omega⟩; exact .turned q (ih (by omega))
  | repeat_ _ _ ih1 ih2 => obtain ⟨m', rfl⟩ : ∃ m', m = m' + 1 := ⟨m - 1, by omega⟩; exact .repeat_ (ih1 (by omega)) (ih2 (by omega))
theorem dk_t3 {n : Nat} {a b c : PyData} (ha : Dk n a) (hb : Dk n b) (hc : Dk n c) : Dk (n + 1) (.tuple [a, b, c]) := .tup (show 3 ≤ 60 by decide) fun d hd => by
  rcases List.mem_cons.mp hd with rfl | hd
  · exact ha
  · rcases List.mem_cons.mp hd with rfl | hd
    · exact hb
    · cases List.mem_singleton.mp hd
      exact hc
theorem dk_t4 {n : Nat} {a b c e : PyData} (ha : Dk n a) (hb : Dk n b) (hc : Dk n c) (he : Dk n e) : Dk (n + 1) (.tuple [a, b, c, e]) := .tup (show 4 ≤ 60 by decide) fun d hd => by
  rcases List.mem_cons.mp hd with rfl | hd
  · exact ha
  · rcases List.mem_cons.mp hd with rfl | hd
    · exact hb
    · rcases List.mem_cons.mp hd with rfl | hd
      · exact hc
      · cases List.mem_singleton.mp hd
        exact he
theorem dk_t1 {n : Nat} {a : PyData} (ha : Dk n a) : Dk (n + 1) (.tuple [a]) := .tup (show 1 ≤ 60 by decide) fun d hd => by
  cases List.mem_singleton.mp hd
  exact ha
theorem condDk {n : Nat} {c : Cd} (h : OkC n c) : Dk n c.data := by
  induction h with
  | atmost i => rw [Cd.data]; exact dk_t2 dk_str (.int _)
  | divides i => rw [Cd.data]; exact dk_t2 dk_str (.int _)
  | is h1 h2 => rw [Cd.data]; exact dk_t2 dk_str (.str h1 h2)
  | item i _ ih => rw [Cd.data]; exact dk_t3 dk_str (.int _) ih
  | every _ ih => rw [Cd.data]; exact dk_t2 dk_str ih
  | some_ _ ih => rw [Cd.data]; exact dk_t2 dk_str ih
  | size _ ih => rw [Cd.data]; exact dk_t2 dk_str ih
  | sum _ ih => rw [Cd.data]; exact dk_t2 dk_str ih
  | rising => rw [Cd.data]; exact dk_t1 dk_str
  | different => rw [Cd.data]; exact dk_t1 dk_str
  | not_ _ ih => rw [Cd.data]; exact dk_t2 dk_str ih
  | and_ _ _ ih1 ih2 => rw [Cd.data]; exact dk_t3 dk_str ih1 ih2
  | or_ _ _ ih1 ih2 => rw [Cd.data]; exact dk_t3 dk_str ih1 ih2
theorem mapDk (m : Mp) : Dk 1 m.data := by
  cases m <;> rw [Mp.data] <;> first | exact dk_t1 dk_str | exact dk_t2 dk_str (.int _)
theorem OkGk.dk {k n : Nat} {g : Gn} (h : OkGk k n g) : Dk (2 * n + k) g.data := by
  induction h with
  | int => rw [Gn.data]; exact (dk_t3 (n := 0) dk_str (.int _) (.int _)).mono (by omega)
  | pick h1 h2 =>
    rw [Gn.data]
    refine (dk_t2 (n := 1) dk_str (.tup (by rw [List.length_map]; exact h1) fun d hd => ?_)).mono (by omega)
    obtain ⟨w, hw, rfl⟩ := List.mem_map.mp hd
    exact .str (h2 w hw).1 (h2 w hw).2
  | @tuple n gs h1 _ ih =>
    rw [Gn.data, gnAll_map]
    refine (dk_t2 (n := 2 * n + k + 1) dk_str (.tup (by rw [List.length_map]; exact h1) fun d hd => ?_)).mono (by omega)
    obtain ⟨w, hw, rfl⟩ := List.mem_map.mp hd
    exact ih w hw
  | @list n g a b _ ih => rw [Gn.data]; exact (dk_t4 (n := 2 * n + k) dk_str ih (.int _) (.int _)).mono (by omega)
  | @one n gs h1 _ ih =>
    rw [Gn.data, gnAll_map]
    refine (dk_t2 (n := 2 * n + k + 1) dk_str (.tup (by rw [List.length_map]; exact h1) fun d hd => ?_)).mono (by omega)
    obtain ⟨w, hw, rfl⟩ := List.mem_map.mp hd
    exact ih w hw
  | @kept n g c _ hc ih => rw [Gn.data]; exact (dk_t3 (n := 2 * n + k) dk_str ih ((condDk hc).mono (by omega))).mono (by omega)
  | @turned n g m _ ih => rw [Gn.data]; exact (dk_t3 (n := 2 * n + k + 1) dk_str (ih.mono (by omega)) ((mapDk m).mono (by omega))).mono (by omega)
  | @repeat_ n g h _ _ ih1 ih2 => rw [Gn.data]; exact (dk_t3 (n := 2 * n + k) dk_str ih1 ih2).mono (by omega)
theorem OkGk.parts {k n : Nat} {g : Gn} (h : OkGk k (n + 1) g) : ∀ p ∈ partsG g, OkGk k n p := by
  intro p hp
  cases h with
  | int => cases hp
  | pick => cases hp
  | tuple _ h => exact h p hp
  | list _ _ h => cases List.mem_singleton.mp hp; exact h
  | one _ h => exact h p hp
  | kept h _ => cases List.mem_singleton.mp hp; exact h
  | turned _ h => cases List.mem_singleton.mp hp; exact h
  | repeat_ h1 h2 =>
    rcases List.mem_cons.mp hp with rfl | hp
    · exact h1
    · cases List.mem_singleton.mp hp
      exact h2
theorem OkGk.parts_len {k n : Nat} {g : Gn} (h : OkGk k n g) : (partsG g).length ≤ 60 := by
  cases h with
  | int => exact Nat.zero_le _
  | pick => exact Nat.zero_le _
  | tuple h _ => exact h
  | list => show 1 ≤ 60; decide
  | one h _ => exact h
  | kept => show 1 ≤ 60; decide
  | turned => show 1 ≤ 60; decide
  | repeat_ => show 2 ≤ 60; decide
theorem OkGk.pos {k n : Nat} {g : Gn} (h : OkGk k n g) : 0 < n := by cases h <;> omega
end Cr
set_option maxRecDepth 10000000
namespace Sm
open PySem PySem.Spec PyProof.Rows L2 Evl CrT Cr
abbrev A0 : Atm := fun _ _ => False
abbrev O0 : Addr → Prop := fun _ => False
theorem owl0 {H : Hp} : Owl O0 H := fun _ h => h.elim
theorem flat_kd {n : Nat} {k : Kd} (h : OkK n k) : flatD k.data = true := by
  induction h with
  | int => rw [Kd.data]; rfl
  | word => rw [Kd.data]; rfl
  | lst _ ih => rw [Kd.data]; simp [flatD, flatDs, ih]
  | tup _ _ ih =>
    rw [Kd.data, dataAll_map]
    have : flatDs (List.map Kd.data _) = true := flatDs_of fun d hd => by
      obtain ⟨k, hk, rfl⟩ := List.mem_map.mp hd
      exact ih k hk
    simp [flatD, flatDs, this]
theorem flat_cd (c : Cd) : flatD c.data = true := by
  induction c <;> rw [Cd.data] <;> simp_all [flatD, flatDs]
theorem flat_mp (m : Mp) : flatD m.data = true := by
  cases m <;> rw [Mp.data] <;> simp [flatD, flatDs]
theorem flat_gn {k n : Nat} {g : Gn} (h : OkGk k n g) : flatD g.data = true := by
  induction h with
  | int => rw [Gn.data]; rfl
  | pick => 
    rw [Gn.data]
    have : ∀ ws : List Str, flatDs (ws.map PyData.str) = true := fun ws => flatDs_of fun d hd => by
      obtain ⟨w, _, rfl⟩ := List.mem_map.mp hd
      rfl
    simp [flatD, flatDs, this]
  | @tuple n gs _ _ ih =>
    rw [Gn.data, gnAll_map]
    have : flatDs (gs.map Gn.data) = true := flatDs_of fun d hd => by
      obtain ⟨g, hg, rfl⟩ := List.mem_map.mp hd
      exact ih g hg
    simp [flatD, flatDs, this]
  | list a b _ ih => rw [Gn.data]; simp [flatD, flatDs, ih]
  | @one n gs _ _ ih =>
    rw [Gn.data, gnAll_map]
    have : flatDs (gs.map Gn.data) = true := flatDs_of fun d hd => by
      obtain ⟨g, hg, rfl⟩ := List.mem_map.mp hd
      exact ih g hg
    simp [flatD, flatDs, this]
  | @kept n g c _ _ ih => rw [Gn.data]; simp [flatD, flatDs, ih, flat_cd c]
  | @turned n g m _ ih => rw [Gn.data]; simp [flatD, flatDs, ih, flat_mp m]
  | repeat_ _ _ ih1 ih2 => rw [Gn.data]; simp [flatD, flatDs, ih1, ih2]
def clMono {P : Program} {w : World} {K : PySem.W.Frag} {mg : Str → Option Value} {base : Heap} {x : Str} {ps : List Str} {k l : Nat} {sp : Sp} (c : Cl P w K mg base x ps k sp) (h : k ≤ l) : Cl P w K mg base x ps l sp := ⟨c.f, c.fd, c.ok.mono h, c.b, c.kp, c.m⟩
def clImp {P : Program} {w : World} {K : PySem.W.Frag} {mg : Str → Option Value} {base : Heap} {x : Str} {ps : List Str} {k : Nat} {sp sp' : Sp} (c : Cl P w K mg base x ps k sp) (h : ∀ vs H Q E, sp' vs H Q E → sp vs H Q E) : Cl P w K mg base x ps k sp' := ⟨c.f, c.fd, c.ok.imp h, c.b, c.kp, c.m⟩
end Sm
namespace CrU
open PySem PySem.Spec PyProof.Rows
def metN (ws : List Str) : Nat → Nat
  | 0 => 0
  | i + 1 => if (ws.take i).any (· == ws.getD i Str.empty) then metN ws i else metN ws i + 1
theorem metN_le (ws : List Str) : ∀ i, metN ws i ≤ i
  | 0 => Nat.le_refl _
  | i + 1 => by
    have := metN_le ws i
    unfold metN
    split <;> omega
theorem metN_full {ws : List Str} : ∀ i, i ≤ ws.length → (metN ws i = i ↔ (ws.take i).Nodup)
  | 0, _ => by simp [metN]
  | i + 1, h => by
    have ih := metN_full (ws := ws) i (by omega)
    have hl := metN_le ws i
    have e : ws.take (i + 1) = ws.take i ++ [ws.getD i Str.empty] := by
      rw [List.take_add_one, List.getElem?_eq_getElem (by omega), List.getD_eq_getElem?_getD, List.getElem?_eq_getElem (by omega)]
      rfl
    have hm : (ws.take i).any (· == ws.getD i Str.empty) = true ↔ ws.getD i Str.empty ∈ ws.take i := by
      rw [List.any_eq_true]
      exact ⟨fun ⟨y, hy, ey⟩ => by rw [← eq_of_beq ey]; exact hy, fun hy => ⟨_, hy, beq_self_eq_true _⟩⟩
    rw [e, List.nodup_append]
    unfold metN
    split
    · rename_i hc
      have hc := hm.mp hc
      exact ⟨fun h => absurd h (by omega), fun h => absurd rfl (h.2.2 _ hc _ (List.mem_singleton.mpr rfl))⟩
    · rename_i hc
      have hc : ws.getD i Str.empty ∉ ws.take i := fun hh => hc (hm.mpr hh)
      constructor
      · intro h
        exact ⟨ih.mp (by omega), List.nodup_cons.mpr ⟨by simp, List.nodup_nil⟩, fun a ha b hb e => hc (by rw [← List.mem_singleton.mp hb, ← e]; exact ha)⟩
      · intro h
        rw [ih.mpr h.1]
abbrev Wds (ws : List Str) (i : Nat) : Str → Bool := fun z => (ws.take i).any (· == z)
abbrev Bare (led : Bool) : Obj := { cls := .type "set", dict := none, data := .set #[] 0 (.fresh 0 0 led) }
section
variable {P : Program} {w : World} {A : Around} {R : Result → Shared → Prop} {J : Addr} {fp wr : List Addr} {G : Array GenState → Array GenState → Prop} {n : Nat} {Pv : Nat → Value → Prop} {St : Nat → Shared → Prop}
abbrev St1 (P : Program) (w : World) (h : Heap) (S : Addr) (ws : List Str) (i : Nat) : Prop := h.SetOf (PySem.strKind P w) S (Wds ws i) (metN ws i)
theorem st1_move {h h' : Heap} {S : Addr} {ws : List Str} {i : Nat} (x : St1 P w h S ws i) (k : ∀ o, h.get? S = some o → h'.get? S = some o) : St1 P w h' S ws i := by
  obtain ⟨o, es, ep, t, ho, r⟩ := x
  exact ⟨o, es, ep, t, k _ ho, r⟩
theorem grow (W : WalksS P w A.in1 J fp wr G n Pv St) (S : Addr) (hS : S ∉ fp) (ws : List Str) (hn : ws.length = n) (hb : n + 1 < scanBound) (hv : ∀ i v, Pv i v → ∃ t, v = .str (ws.getD i Str.empty) t) :
    ∀ (m i : Nat) (s : Shared), n - i = m → i ≤ n → St i s → St1 P w s.heap S ws i → (∀ s', Moved (S :: wr) G s s' → St1 P w s'.heap S ws n → R (.ok (.ret .none)) s') → codeAny (model P w) A (.builtin "set.update.loop" ⟨[.ref S, .ref J], []⟩) R s := by
  have hw : S ∉ wr := fun h => hS (W.sub _ h)
  have hmem : ∀ b ∈ wr, b ∈ S :: wr := fun b h => List.mem_cons_of_mem _ h
  intro m
  induction m with
  | zero =>
    intro i s hm hi st x fin
    obtain rfl : i = n := by omega
    refine codeAny_builtin PyProof.Rows.F.entry_set_update_loop ?_; rw [Around.under_plainId PyProof.Rows.F.plain_set_update_loop _]
    show wpAny _ A.in1 (pyNext (.ref J) >>= _) _ _ s
    exact wpAny_bind (W.done s _ _ st fun s' hm => (show wpAny _ A.in1 (ret Value.none) _ _ s' from wpAny_pure (fin s' (hm.mono hmem) (st1_move x fun o e => hm.heap S o hw e))))
  | succ m ih =>
    intro i s hm hi st x fin
    have hlt : i < n := by omega
    refine codeAny_builtin PyProof.Rows.F.entry_set_update_loop ?_; rw [Around.under_plainId PyProof.Rows.F.plain_set_update_loop _]
    show wpAny _ A.in1 (pyNext (.ref J) >>= _) _ _ s
    refine wpAny_bind (W.item i s _ _ hlt st fun v s' hp st' hmv => ?_)
    obtain ⟨t, rfl⟩ := hv i v hp
    have x' : St1 P w s'.heap S ws i := st1_move x fun o e => hmv.heap S o hw e
    show wpAny _ A.in1 (holding [Value.str (ws.getD i Str.empty) t] (setAdd S (.str (ws.getD i Str.empty) t)) >>= _) _ _ s'
    refine wpAny_bind (wpAny_holding ?_); unfold setAdd; refine wpAny_holding ?_
    refine wpAny_bind ((PySem.strKind P w).pyHash (k := ws.getD i Str.empty) (strKind_is _ _ _ _) ?_)
    refine wpAny_setAddHashed_of (knd := PySem.strKind P w) (s := { s' with toks := s'.toks + 1 }) (strKind_is _ _ _ _) rfl x' (by have := metN_le ws i; omega) fun h' sb x2 => ?_
    have x3 : St1 P w h' S ws (i + 1) := by
      refine SetOf_congr x2 (fun z => ?_) rfl
      show ((ws.take i).any (· == z) || decide (z = ws.getD i Str.empty)) = (ws.take (i + 1)).any (· == z)
      rw [List.take_add_one, List.getElem?_eq_getElem (show i < ws.length by omega), List.any_append, List.getD_eq_getElem?_getD, List.getElem?_eq_getElem (show i < ws.length by omega)]
      congr 1
      show decide (z = ws[i]) = ((ws[i] == z) || false)
      rw [Bool.or_false, Bool.eq_iff_iff, decide_eq_true_iff, beq_iff_eq]
      exact eq_comm
    refine wpAny_pure ⟨plainId_quiet PyProof.Rows.F.plain_set_update_loop _, ih (i + 1) _ (by omega) hlt (W.frame _ s' _ _ st' (Nat.le_succ _) fun b hb o e => ?_) x3 fun s2 hm2 x4 => ?_⟩
    · rw [sb.2 b fun h : b = S => hS (h ▸ hb)]; exact e
    · refine fin s2 (Moved.trans W.gtrans ((hmv.mono hmem).then_heap (Nat.le_succ _) fun b o hb e => ?_) hm2) x4
      rw [sb.2 b fun h : b = S => hb (h ▸ List.mem_cons_self)]; exact e
end
section
variable {P : Program} {w : World} {A : Around} {E : Value → Shared → Prop} {s : Shared}
set_option maxHeartbeats 3200000 in
theorem set_words {l : Addr} {its : Array Value} {ws : List Str} {Q : Value → Shared → Prop} (hc : A.handled = none) (hl : s.heap.IsTuple l its) (hi : PyProof.Rows.StrsAre its.toList ws) (hz : ws.length ≤ 1000)
    (fin : ∀ (h' : Heap) (tk : Nat), St1 P w h' s.heap.objs.size ws ws.length → (∀ b o, b < s.heap.objs.size → s.heap.get? b = some o → h'.get? b = some o) → Q (.ref s.heap.objs.size) { s with heap := h', toks := tk }) :
    wpAny (model P w) A (call (.type "set") [.ref l]) Q E s := by
  have F1 := PySem.F.called_set
  obtain ⟨c, tl, hmro⟩ := F1.mro
  have a1 := F1.made; have a2 := F1.sub
  refine wpAny_call (codeAny_of_tree ?_); show wpAny _ _ (callAny (.type "set") _) _ _ _
  refine wpAny_pure ⟨Code.quiet_builtin _ (by decide +kernel), codeAny_builtin PySem.F.entry_type_call ?_⟩; rw [Around.under_plain (weight_type_call_type "set" [.ref l] []) rfl]
  have a3 := F1.notType; have a4 := F1.canCreate; have a5 := PySem.F.typeCall_set_1 (.ref l)
  repeat (any_goals (first | assumption | wp_step))
  refine codeAny_mono (code_set_new_1 (.ref l) (E := E) (Q₁ := fun u t => ∃ led : Bool, u = .ref s.heap.objs.size ∧ t = { s with heap := s.heap.push (Bare led) }) fun led => ⟨led, rfl, rfl⟩) fun r t hr => ?_
  cases r with
  | error e => exact hr
  | ok f =>
    cases f with
    | ret u =>
      obtain ⟨led, rfl, rfl⟩ := hr
      have hS : (s.heap.push (Bare led)).get? s.heap.objs.size = some (Bare led) := Heap.get?_push_size _ rfl
      have hT : Shared.TypeIs { s with heap := s.heap.push (Bare led) } (.ref s.heap.objs.size) "set" := ⟨_, hS, rfl⟩
      have b1 := F1.init.lookup; have b2 := F1.init.bind (.ref s.heap.objs.size)
      repeat (any_goals (first | assumption | wp_step))
      refine codeAny_mono (codeAny_call_builtin (R := wants (fun r t => r = .none ∧ ∃ h' tk, t = { s with heap := h', toks := tk } ∧ St1 P w h' s.heap.objs.size ws ws.length ∧ (∀ b o, b < s.heap.objs.size → s.heap.get? b = some o → h'.get? b = some o)) E) F1.init.plain PySem.F.entry_set_init (check_set_init_1 hT ?_)) fun r2 t2 hr2 => ?_
      · obtain ⟨⟨oc, od, oda, osl⟩, ho, e1, nl, e2⟩ := hl
        simp only at e1 e2; subst e1; subst e2
        have ho' : (s.heap.push (Bare led)).get? l = some { cls := .type "tuple", dict := od, data := .seq its nl, slots := osl } := Heap.get?_push_of_some _ ho
        have c1 := PySem.F.sub_tuple_set; have c2 := PySem.F.sub_tuple_frozenset; have c3 : (Value.type "tuple" == Value.type "dict") = false := by decide
        have hl1 : (s.heap.push (Bare led)).IsTuple l its := ⟨_, ho', rfl, nl, rfl⟩
        unfold Builtin.«set.__init__» noKeywords Builtin.Frozenset.updateFrom; generalize hPI : pyIter = PI
        wp_walk
        subst hPI
        refine wpAny_pyIter_tuple hl1 (wpAny_bind (wpAny_runValue ?_))
        have lS : l < s.heap.objs.size := Heap.lt_size ho
        have hh : A.in1.in1.in1.handled = none := by simp [hc]
        have z1 : (s.heap.push (Bare led)).objs.size = s.heap.objs.size + 1 := Heap.size_push ..
        have d1 : l ≠ (s.heap.push (Bare led)).objs.size := by rw [z1]; exact Nat.ne_of_lt (Nat.lt_succ_of_lt lS)
        have d2 : s.heap.objs.size ∉ [(s.heap.push (Bare led)).objs.size, l] := by
          rw [z1]; intro h; rcases List.mem_cons.mp h with h | h
          · exact absurd h (Nat.ne_of_lt (Nat.lt_succ_self _))
          · exact absurd (List.mem_singleton.mp h) (Nat.ne_of_gt lS)
        have hsz : ws.length = its.size := by rw [← StrsAre.len_eq hi, Array.length_toList]
        refine grow ((Walks.tuple hh _ l d1 its).toS) s.heap.objs.size d2 ws hsz (by unfold scanBound; omega) (fun i v hv => SS.strs_at hi i v (by rw [Array.getElem?_toList]; exact hv)) (its.size - 0) 0 _ (by omega) (Nat.zero_le _) ⟨⟨_, Heap.get?_push_size _ rfl, rfl, rfl⟩, (hl1.push _)⟩ ?h0 ?hR
        case h0 =>
          have hg : ((s.heap.push (Bare led)).push { cls := .type "tuple_iterator", data := .fields #[.ref l, .int 0 0] }).get? s.heap.objs.size = some (Bare led) := Heap.get?_push_of_some _ hS
          exact PyProof.Rows.SetOf_congr ((PyProof.Rows.setObjOf_fresh (knd := PySem.strKind P w) led).setOf hg (by unfold scanBound; omega)) (fun z => by simp [Wds]) rfl
        case hR =>
          rintro ⟨h', g', d', tk', os'⟩ hm x
          obtain rfl : g' = s.gens := hm.gens
          obtain rfl : d' = s.drawn := hm.drawn
          obtain rfl : os' = s.os := hm.os
          show wpAny _ _ _ _ _ _
          refine wpAny_pure (show wpAny _ _ (ret Value.none) _ _ _ from ?_)
          rw [← hsz] at x
          refine wpAny_pure ⟨rfl, h', tk', rfl, x, fun b o hb e => hm.heap b o ?_ (Heap.get?_push_of_some _ (Heap.get?_push_of_some _ e))⟩
          intro h
          rcases List.mem_cons.mp h with h | h
          · exact absurd h (Nat.ne_of_lt hb)
          · have h := List.mem_singleton.mp h; rw [z1] at h; exact absurd h (Nat.ne_of_lt (Nat.lt_succ_of_lt hb))
      · cases r2 with
        | error e => exact hr2
        | ok f2 =>
          cases f2 with
          | ret u2 =>
            obtain ⟨rfl, h', tk, rfl, x, k⟩ := hr2
            repeat (any_goals (first | assumption | wp_step))
            exact fin _ _ x k
          | _ => exact hr2.elim
    | _ => exact hr.elim
end
section
open L2
def tLenW (K : PySem.W.Frag) (ta : TE) : TE := fun σ H Q => ta σ H fun x H1 => ∃ (l : Addr) (ws : List Str), x = .ref l ∧ SqT K H1 l (ws.map V.str) ∧ ws.length ≤ 1000 ∧ Q (.int (metN ws ws.length : Nat)) H1
theorem pe_lenW {X : Cx} {a : Expr} {ta : TE} {p p2 q pos : Pos} (hc : X.calm = true) (g1 : Gl X "len") (m1 : X.mg "len" = none) (g2 : Gl X "set") (m2 : X.mg "set" = none) (ha : PE X a ta) (na : starEach [a] X.env = (false, eval a X.env) :: starEach [] X.env := by rfl) :
    PE X (.Call (.Name "len" p) [.Call (.Name "set" p2) [a] [] q] [] pos) (tLenW X.K ta) := ⟨fun pins s σ H Q I h => by
  refine Call_ (ld_blt I g1 m1 boot_len (PyProof.Rows.callWith_builtin1 (PyProof.Rows.args_cons ?_ rfl) rfl rfl))
  refine Call_ (ld_blt I g2 m2 boot_set (PyProof.Rows.callWith_type1 (PyProof.Rows.args_cons (thn (ha.run pins s σ H _ I h) fun v s1 ⟨x, H1, I1, r1, l, ws, ex, hq, hz, q1⟩ => PyProof.Rows.args_nil ?_) na) na rfl))
  subst ex
  cases r1
  obtain ⟨its, rv, pl, hz'⟩ := I1.tuple hq
  have hl : its.length = ws.length := by rw [← rv.length, List.length_map]
  refine set_words (I1.ok.hd hc) pl (by simpa using strsAre_of rv) hz fun h' tk x k => PyProof.Rows.args_nil ?_
  obtain ⟨o, es, ep, t, ho, hex, hd, _, _, _, hf, hn⟩ := x
  have hm := metN_le ws ws.length
  have I2 : Inv X pins σ H1 { s1 with heap := h', toks := tk } := I1.kept fun b o e => k b o (Heap.lt_size e) e
  exact call_len_set ho hex hd hf (by rw [hn]; omega) ⟨.int (metN ws ws.length : Nat), H1, I2.tok _, ⟨_, by rw [hn]⟩, q1⟩⟩
end
end CrU
namespace Sm
open PySem PySem.Spec PyProof.Rows L2 Evl CrT Cr CrU
def tChain3 (r r' r2 : R2) (ta tb tc td : TE) : TT := fun σ H Q => ta σ H fun x H1 => tb σ H1 fun y H2 => r x y H2 fun z H3 => ∃ k, z = .bl k ∧
  (if k = true then tc σ H3 fun u H4 => r' y u H4 fun z' H5 => ∃ k', z' = .bl k' ∧ (if k' = true then td σ H5 fun v H6 => r2 u v H6 fun z2 H7 => ∃ k2, z2 = .bl k2 ∧ Q k2 H7 else Q false H5) else Q false H3)
theorem pt_chain3 {X : Cx} {a b c d : Expr} {ta tb tc td : TE} {pos : Pos} {op op' op2 : CmpOp} {r r' r2 : R2} (ho : OpR X (compareOp op) r) (ho' : OpR X (compareOp op') r') (ho2 : OpR X (compareOp op2) r2) (ha : PE X a ta) (hb : PE X b tb) (hc : PE X c tc) (hd : PE X d td)
    (hm : lastMarks [op, op', op2] [b, c, d] = false := by with_unfolding_all rfl) : PT X (.Compare a [op, op', op2] [b, c, d] pos) (tChain3 r r' r2 ta tb tc td) := ⟨fun pins s σ H Q I h => by
  refine isTrue_chain (thn (ha.run pins s σ H _ I h) fun v s1 ⟨x, H1, I1, q1r, q1⟩ => test_link (thn (hb.run pins s1 σ H1 _ I1 q1) fun u s2 ⟨y, H2, I2, q2r, q2⟩ => thn (ho pins s2 σ H2 x y v u _ I2 q1r q2r q2) fun cv s3 ⟨z, H3, I3, q3r, k, e, q3⟩ => ?_)) hm
  subst e; cases q3r
  refine wpAny_truthy_bool ?_
  cases k with
  | false => exact ite_ff ⟨H3, I3, q3⟩
  | true =>
    refine ite_tt (test_link (thn (hc.run pins s3 σ H3 _ I3 q3) fun w s4 ⟨z4, H4, I4, q4r, q4⟩ => thn (ho' pins s4 σ H4 y z4 u w _ I4 q2r q4r q4) fun cv2 s5 ⟨z5, H5, I5, q5r, k2, e2, q5⟩ => ?_))
    subst e2; cases q5r
    refine wpAny_truthy_bool ?_
    cases k2 with
    | false => exact ite_ff ⟨H5, I5, q5⟩
    | true =>
      refine ite_tt (test_last (thn (hd.run pins s5 σ H5 _ I5 q5) fun w' s6 ⟨z6, H6, I6, q6r, q6⟩ => thn (ho2 pins s6 σ H6 z4 z6 w w' _ I6 q4r q6r q6) fun cv3 s7 ⟨z7, H7, I7, q7r, k3, e3, q7⟩ => ?_))
      subst e3; cases q7r
      exact wpAny_truthy_bool ⟨H7, I7, q7⟩⟩
def fChain3 (g g' g2 : F2) (a b c d : FE) : FT := fun ρ => (a ρ).bind fun x => (b ρ).bind fun y => (g x y).bind fun z => (asB z).bind fun z => if z then (c ρ).bind fun u => (g' y u).bind fun z => (asB z).bind fun z => if z then (d ρ).bind fun v => (g2 u v).bind asB else some false else some false
theorem st_chain3 {K : PySem.W.Frag} {A : Atm} {ta tb tc td : TE} {fa fb fc fd : FE} {r r' r2 : R2} {g g' g2 : F2} (ha : SE K A ta fa) (hb : SE K A tb fb) (hc : SE K A tc fc) (hd : SE K A td fd) (hr : RD K A r g) (hr' : RD K A r' g') (hr2 : RD K A r2 g2) : ST K A (tChain3 r r' r2 ta tb tc td) (fChain3 g g' g2 fa fb fc fd) := fun R d h Q q => by
  obtain ⟨x, h1, h⟩ := bind_some' h
  obtain ⟨y, h2, h⟩ := bind_some' h
  obtain ⟨z, h3, h⟩ := bind_some' h
  obtain ⟨c, h4, h⟩ := bind_some' h
  cases asB_some h4
  refine ha R x h1 _ fun vx H1 e1 hx => hb (R.same e1) y h2 _ fun vy H2 e2 hy => hr (R.owl.same (e1.trans e2)) (hx.same e2) hy _ h3 _ fun vz H3 e3 hz => ⟨c, hz.bl_inv, ?_⟩
  have e13 := (e1.trans e2).trans e3
  cases c with
  | false =>
    have h : some false = some d := h
    cases h
    exact iteF (q H3 e13)
  | true =>
    refine iteT ?_
    have h : ((fc _).bind fun u => (g' y u).bind fun z => (asB z).bind fun z => if z = true then (fd _).bind fun v => (g2 u v).bind asB else some false) = some d := h
    obtain ⟨u, h5, h⟩ := bind_some' h
    obtain ⟨z', h6, h⟩ := bind_some' h
    obtain ⟨c2, h7, h⟩ := bind_some' h
    cases asB_some h7
    refine hc (R.same e13) u h5 _ fun vu H4 e4 hu => hr' (R.owl.same (e13.trans e4)) (hy.same (e3.trans e4)) hu _ h6 _ fun vz' H5 e5 hz' => ⟨c2, hz'.bl_inv, ?_⟩
    have e15 := (e13.trans e4).trans e5
    cases c2 with
    | false =>
      have h : some false = some d := h
      cases h
      exact iteF (q H5 e15)
    | true =>
      refine iteT ?_
      have h : ((fd _).bind fun v => (g2 u v).bind asB) = some d := h
      obtain ⟨v, h8, h⟩ := bind_some' h
      obtain ⟨z2, h9, h10⟩ := bind_some' h
      cases asB_some h10
      exact hd (R.same e15) v h8 _ fun vv H6 e6 hv => hr2 (R.owl.same (e15.trans e6)) (hu.same (e5.trans e6)) hv _ h9 _ fun vz2 H7 e7 hz2 => ⟨d, hz2.bl_inv, q H7 ((e15.trans e6).trans e7)⟩
def strsOf : List PyData → Option (List Str)
  | [] => some []
  | .str s :: ds => (strsOf ds).bind fun r => some (s :: r)
  | _ => none
theorem strsOf_map : ∀ ws : List Str, strsOf (ws.map .str) = some ws
  | [] => rfl
  | w :: ws => by
    show (strsOf (ws.map .str)).bind _ = _
    rw [strsOf_map ws]
    rfl
def gLenW : F1
  | .tuple ds => (strsOf ds).bind fun ws => if ws.length ≤ 1000 then some (.int (metN ws ws.length : Nat)) else none
  | _ => none
theorem strsOf_v {K : PySem.W.Frag} {A : Atm} {O : Addr → Prop} {H : Hp} : ∀ {ds : List PyData} {xs : List V} {ws : List Str}, Fds K A O H xs ds → strsOf ds = some ws → xs = ws.map V.str
  | [], xs, ws, h, hw => by cases hw; rw [h.nil_inv]; rfl
  | d :: ds, xs, ws, h, hw => by
    cases d <;> try cases hw
    obtain ⟨r, h1, h2⟩ := bind_some' hw
    cases h2
    obtain ⟨v, vs, rfl, h3, h4⟩ := h.head
    rw [strsOf_v h4 h1, h3.str_inv]
    rfl
theorem se_lenW {K : PySem.W.Frag} {A : Atm} {te : TE} {fe : FE} (h : SE K A te fe) : SE K A (tLenW K te) (fUn gLenW fe) := fun R d hd Q q => by
  obtain ⟨a, h1, h2⟩ := bind_some' hd
  cases a <;> try cases h2
  obtain ⟨ws, h3, h4⟩ := bind_some' h2
  split at h4
  · rename_i hz
    cases h4
    refine h R _ h1 _ fun v H1 e1 hv => ?_
    obtain ⟨p, xs, rfl, hp, hxs⟩ := hv.tup_inv
    rw [strsOf_v hxs h3] at hp
    exact ⟨p, ws, rfl, hp, hz, q _ _ e1 (.int _)⟩
  · cases h4
theorem pa_starK {X : Cx} (K : PySem.W.Frag) {e : Expr} {es : List Expr} {p : Pos} {te : TE} {t : TA} (he : PE X e te) (hr : PA X es t) (hK : X.K = K := by rfl) (hs : starEach (.Starred e p :: es) X.env = (true, eval e X.env) :: starEach es X.env := by rfl) : PA X (.Starred e p :: es) (StX.tStar K te t) := by
  subst hK
  exact StX.pa_star he hr hs
end Sm
set_option maxRecDepth 10000000
namespace Sm
open PySem PySem.Spec PyProof.Rows L2 Evl CrT Cr
mutual
def noA : PyData → Bool
  | .tuple ds => noAs ds
  | .list ds => noAs ds
  | .int _ => true
  | .str _ => true
  | .bool _ => true
  | .none => true
  | _ => false
def noAs : List PyData → Bool
  | [] => true
  | d :: ds => noA d && noAs ds
end
theorem noAs_mem : ∀ {ds : List PyData}, noAs ds = true → ∀ d ∈ ds, noA d = true
  | [], _, _, h => by cases h
  | d :: ds, h, e, he => by
    unfold noAs at h
    obtain ⟨h1, h2⟩ := Bool.and_eq_true_iff.mp h
    rcases List.mem_cons.mp he with rfl | he
    · exact h1
    · exact noAs_mem h2 e he
theorem noAs_of : ∀ {ds : List PyData}, (∀ d ∈ ds, noA d = true) → noAs ds = true
  | [], _ => by unfold noAs; rfl
  | d :: ds, h => by
    unfold noAs
    rw [h d List.mem_cons_self, noAs_of fun e he => h e (List.mem_cons_of_mem _ he)]
    rfl
mutual
theorem noA_flat : ∀ d : PyData, flatD d = true → noA d = true
  | .int _, _ => by rw [noA]
  | .str _, _ => by rw [noA]
  | .tuple ds, h => by
    rw [noA]
    rw [flatD] at h
    exact noA_flats ds h
  | .list _, h => by simp [flatD] at h
  | .bool _, h => by simp [flatD] at h
  | .none, h => by simp [flatD] at h
  | .dict _, h => by simp [flatD] at h
theorem noA_flats : ∀ ds : List PyData, flatDs ds = true → noAs ds = true
  | [], _ => by unfold noAs; rfl
  | d :: ds, h => by
    unfold flatDs at h
    obtain ⟨h1, h2⟩ := Bool.and_eq_true_iff.mp h
    unfold noAs
    rw [noA_flat d h1, noA_flats ds h2]
    rfl
end
section
variable {K : PySem.W.Frag} {A A' : Atm} {O O' : Addr → Prop} {H H' : Hp}
theorem Fd.amo (m : ∀ f kvs, A f kvs → A' f kvs) {v : V} {d : PyData} (h : Fd K A O H v d) : Fd K A' O H v d := by
  induction h with
  | non => exact .non
  | bl b => exact .bl b
  | int i => exact .int i
  | str x => exact .str x
  | tup hs hl _ ih => exact .tup hs hl ih
  | lst hs ho hl _ ih => exact .lst hs ho hl ih
  | fn h => exact .fn (m _ _ h)
theorem Fd.up {v : V} {d : PyData} (h : Fd K A0 O H v d) : Fd K A O H v d := h.amo fun _ _ h => h.elim
theorem Fd.noa {v : V} {d : PyData} (h : Fd K A O H v d) (hn : noA d = true) : Fd K A0 O H v d := by
  induction h with
  | non => exact .non
  | bl b => exact .bl b
  | int i => exact .int i
  | str x => exact .str x
  | tup hs hl _ ih => exact .tup hs hl fun i v d h1 h2 => ih i v d h1 h2 (noAs_mem (by simpa [noA] using hn) d (List.mem_of_getElem? h2))
  | lst hs ho hl _ ih => exact .lst hs ho hl fun i v d h1 h2 => ih i v d h1 h2 (noAs_mem (by simpa [noA] using hn) d (List.mem_of_getElem? h2))
  | fn h => simp [noA] at hn
theorem Fds.noa {vs : List V} {ds : List PyData} (h : Fds K A O H vs ds) (hn : noAs ds = true) : Fds K A0 O H vs ds := ⟨h.1, fun i v d a b => (h.2 i v d a b).noa (noAs_mem hn d (List.mem_of_getElem? b))⟩
end
def fCall0 (fn : Fn) (fa : FA) : FE := fun ρ => (fa ρ).bind fun ds => if noAs ds then fn ds else none
section
variable {K : PySem.W.Frag} {A : Atm}
theorem se_call0 {E : XK} {fn : Fn} {tas : TA} {fas : FA} (h : SA K A tas fas) : SE K A (tCall (spF K A0 fn) [] E tas) (fCall0 fn fas) := fun {H0 O0 O σ H ρ} R d hd Q q => by
  obtain ⟨ds, h1, h2⟩ := bind_some' hd
  split at h2
  · rename_i hn
    exact h R ds h1 _ fun vs H1 e1 hvs => ⟨O, ds, d, R.owl.same e1, by rw [List.append_nil]; exact hvs.noa hn, h2, fun v H2 e2 hv => q v H2 (e1.trans e2) hv.up⟩
  · cases h2
end
def tagB (k : Nat) : List (PyData × PyData) := [(.int k, .int 0)]
def Abx (a : Addr) (bs : List Addr) : Atm := fun f kvs => (kvs = [] ∧ f = a) ∨ ∃ k : Nat, kvs = tagB k ∧ bs[k]? = some f
def ownS (σ : L2.St) (ρ : List Sl) (q : Addr) : Prop := ∃ (j : Nat) (es : OC), ρ[j]? = some (Sl.own es) ∧ σ[j]? = some (some (V.ref q))
class TabT where
  tl : List (Addr × Str)
instance (priority := low) noTab : TabT := ⟨[]⟩
variable [TabT]
def isT (c : Addr) : Prop := ∃ p ∈ TabT.tl, p.1 = c
abbrev TabsH (H : Hp) : Prop := LamX.Tabs TabT.tl H
theorem isT_tbl {H : Hp} {c : Addr} (h : TabsH H) (t : isT c) : ∃ ps, H c = some (.tbl ps) := by
  obtain ⟨p, hp, rfl⟩ := t
  obtain ⟨ps, h1, _⟩ := h p hp
  exact ⟨ps, h1⟩
theorem own_ne_code {K : PySem.W.Frag} {A : Atm} {O : Addr → Prop} {H : Hp} {p : Addr} {u : HO} {c : OC} (h : OwnO K A O H p u c) (q : Str) : u ≠ LamX.CodeO p q := fun e => by
  subst e
  cases c with
  | l ds => obtain ⟨xs, h1, _⟩ := h; cases h1
  | d hw lk kvs =>
    obtain ⟨ks, vs, ⟨u0, h1, h2⟩, _⟩ := h
    generalize kvs.map (·.1) = kk at h2
    rcases h1 with ⟨_, h1⟩ | ⟨_, o, h1⟩
    · cases h2 with
      | k ks ds => cases h1
      | t ks _ _ =>
        unfold LamX.CodeO DxO at h1
        injection h1 with h1
        have h3 := congrFun h1 { objs := Array.replicate (p + 1) { cls := .none, data := .fields #[.none, .str q 0] } }
        have hg : Heap.get? { objs := Array.replicate (p + 1) { cls := .none, data := .fields #[.none, .str q 0] } } p = some { cls := .none, data := .fields #[.none, .str q 0] } := by
          unfold Heap.get?
          simp
        have h4 := h3.mp ⟨_, _, _, hg, rfl, rfl⟩
        obtain ⟨_, _, _, _, o, es, ep, h5, _, h6, _⟩ := h4
        rw [hg] at h5
        cases h5
        cases h6
    · cases h1
theorem own_ne_tbl {K : PySem.W.Frag} {A : Atm} {O : Addr → Prop} {H : Hp} {p : Addr} {u : HO} {c : OC} (h : OwnO K A O H p u c) (ps : Array Value) : u ≠ .tbl ps := fun e => by
  subst e
  cases c with
  | l ds => obtain ⟨xs, h1, _⟩ := h; cases h1
  | d hw lk kvs =>
    obtain ⟨ks, vs, ⟨u0, h1, h2⟩, _⟩ := h
    generalize kvs.map (·.1) = kk at h2
    rcases h1 with ⟨_, h1⟩ | ⟨_, o, h1⟩
    · cases h2 <;> cases h1
    · cases h1
structure RW (K : PySem.W.Frag) (a : Addr) (ns : List Int) (bs : List Addr) (H0 : Hp) (O0 O : Addr → Prop) (σ : L2.St) (H : Hp) (ρ : List Sl) : Prop where
  r : Rl K (Abx a bs) H0 O0 O σ H ρ
  scr : SqL K H0 a (ns.map V.int)
  len63 : ns.length ≤ 63
  box : ∀ b ∈ bs, O b ∧ H0 b = none ∧ ¬ ownS σ ρ b ∧ ∃ d, Bx H b d ∧ ¬ ownS σ ρ d
  tab : TabsH H
  tbo : ∀ c, isT c → O c ∧ H0 c = none
def WM (bs : List Addr) (H H' : Hp) : Prop := (∀ c o, c ∉ bs → ¬ isT c → H c = some o → H' c = some o) ∧ (∀ b d, b ∈ bs → Bx H b d → Bx H' b d) ∧ (TabsH H → TabsH H')
section
variable {K : PySem.W.Frag} {a : Addr} {ns : List Int} {bs : List Addr} {H0 : Hp} {O0 O O' : Addr → Prop} {σ σ' : L2.St} {H H1 H' : Hp} {ρ ρ' : List Sl}
theorem WM.same (e : Same H H') : WM bs H H' := ⟨fun c o _ _ h => e c o h, fun b d _ h => h.same e, fun t => t.ext e⟩
theorem WM.refl : WM bs H H := .same (.refl _)
theorem WM.trans (m : WM bs H H1) (n : WM bs H1 H') : WM bs H H' := ⟨fun c o hc ht h => n.1 c o hc ht (m.1 c o hc ht h), fun b d hb h => n.2.1 b d hb (m.2.1 b d hb h), fun t => n.2.2 (m.2.2 t)⟩
theorem bx_uni {b d d' : Addr} (h : Bx H b d) (h' : Bx H b d') : d = d' := by
  obtain ⟨ns, i, h1, h2, h3⟩ := h
  obtain ⟨ms, j, g1, g2, g3⟩ := h'
  rw [h1] at g1
  injection g1 with g1
  injection g1 with g1
  injection g1 with g1 _
  injection g1
theorem RW.evo (w : RW K a ns bs H0 O0 O σ H ρ) (m : WM bs H H') : Evo O H O H' := fun c o h n => ⟨m.1 c o (fun hc => n (w.box c hc).1) (fun ht => n (w.tbo c ht).1) h, n⟩
theorem RW.wm (w : RW K a ns bs H0 O0 O σ H ρ) (m : WM bs H H') : RW K a ns bs H0 O0 O σ H' ρ where
  r := {
    len := w.r.len
    val := fun i d h => by
      obtain ⟨v, h1, h2⟩ := w.r.val i d h
      exact ⟨v, h1, h2.evo w.r.owl (w.evo m)⟩
    own := fun i ds h => by
      obtain ⟨p, xs, h1, h2, h3, h4, h5⟩ := w.r.own i ds h
      exact ⟨p, xs, h1, h2, h3, m.1 _ _ (fun hp => (w.box p hp).2.2.1 ⟨i, ds, h, h1⟩) (fun ht => by obtain ⟨ps, e⟩ := isT_tbl w.tab ht; rw [h4] at e; cases e; exact own_ne_tbl h5 _ rfl) h4, h5.evo w.r.owl (w.evo m)⟩
    inj := w.r.inj
    owl := fun c hc => by
      by_cases hb : c ∈ bs
      · obtain ⟨_, _, _, d, h, _⟩ := w.box c hb
        obtain ⟨ms, j, g1, _⟩ := m.2.1 c d hb h
        exact ⟨_, g1, trivial⟩
      · by_cases ht : isT c
        · obtain ⟨ps, e⟩ := isT_tbl (m.2.2 w.tab) ht
          exact ⟨_, e, trivial⟩
        · obtain ⟨xs, hx, hm⟩ := w.r.owl c hc
          exact ⟨xs, m.1 c _ hb ht hx, hm⟩
    frm := fun c o h => m.1 c o (fun hc => by rw [(w.box c hc).2.1] at h; cases h) (fun ht => by rw [(w.tbo c ht).2] at h; cases h) (w.r.frm c o h)
    sub := w.r.sub
    old := w.r.old
    fz := w.r.fz.evo w.r.owl (w.evo m) }
  scr := w.scr
  len63 := w.len63
  box := fun b hb => by
    obtain ⟨h1, h2, h3, d, h4, h5⟩ := w.box b hb
    exact ⟨h1, h2, h3, d, m.2.1 b d hb h4, h5⟩
  tab := m.2.2 w.tab
  tbo := w.tbo
theorem RW.scrH (w : RW K a ns bs H0 O0 O σ H ρ) : SqL K H a (ns.map V.int) := w.r.frm.seq w.scr
open Classical in
noncomputable def keepH (σ : L2.St) (ρ : List Sl) (H : Hp) : Hp := fun c => if ownS σ ρ c then none else H c
theorem keep_some {c : Addr} {o : HO} (h : keepH σ ρ H c = some o) : H c = some o := by
  unfold keepH at h
  split at h
  · cases h
  · exact h
theorem keep_of {c : Addr} (h : ¬ ownS σ ρ c) : keepH σ ρ H c = H c := if_neg h
theorem RW.noT (w : RW K a ns bs H0 O0 O σ H ρ) {c : Addr} (ht : isT c) : ¬ ownS σ ρ c := fun ⟨j, es, h1, h2⟩ => by
  obtain ⟨p, u, g1, _, _, g4, g5⟩ := w.r.own j es h1
  rw [h2] at g1
  cases g1
  obtain ⟨ps, e⟩ := isT_tbl w.tab ht
  rw [g4] at e
  cases e
  exact own_ne_tbl g5 _ rfl
theorem RW.tabs (w : RW K a ns bs H0 O0 O σ H ρ) (s : Same (keepH σ ρ H) H') : TabsH H' := fun p hp => by
  obtain ⟨ps, h1, h2, h3⟩ := w.tab p hp
  refine ⟨ps, s _ _ ((keep_of (w.noT ⟨p, hp, rfl⟩)).trans h1), h2, fun pos cv hcv => ?_⟩
  obtain ⟨c, e1, e2⟩ := h3 pos cv hcv
  refine ⟨c, e1, s _ _ ((keep_of ?_).trans e2)⟩
  rintro ⟨j, es, k1, k2⟩
  obtain ⟨p', u, g1, _, _, g4, g5⟩ := w.r.own j es k1
  rw [k2] at g1
  cases g1
  rw [g4] at e2
  cases e2
  exact own_ne_code g5 _ rfl
theorem RW.lift (w : RW K a ns bs H0 O0 O σ H ρ) : Rl K (Abx a bs) (keepH σ ρ H) (fun c => O0 c ∨ c ∈ bs ∨ isT c) O σ H ρ where
  len := w.r.len
  val := w.r.val
  own := fun i ds h => by
    obtain ⟨p, xs, h1, h2, h3, h4, h5⟩ := w.r.own i ds h
    exact ⟨p, xs, h1, h2, if_pos ⟨i, ds, h, h1⟩, h4, h5⟩
  inj := w.r.inj
  owl := w.r.owl
  frm := fun c o h => keep_some h
  fz := w.r.fz
  sub := fun c h => by
    rcases h with h | h | h
    · exact w.r.sub c h
    · exact (w.box c h).1
    · exact (w.tbo c h).1
  old := fun c h => by
    rcases h with h | h | h
    · obtain ⟨xs, hx, hm⟩ := w.r.old c h
      refine ⟨xs, ?_, hm⟩
      rw [keep_of fun ⟨j, es, h1, h2⟩ => by
        obtain ⟨p, ys, g1, g2, g3, _⟩ := w.r.own j es h1
        rw [h2] at g1
        cases g1
        rw [hx] at g3
        cases g3]
      exact w.r.frm c _ hx
    · obtain ⟨_, _, h3, d, ⟨ms, j, g1, _⟩, _⟩ := w.box c h
      exact ⟨_, (keep_of h3).trans g1, trivial⟩
    · obtain ⟨ps, e⟩ := isT_tbl w.tab h
      exact ⟨_, (keep_of (w.noT h)).trans e, trivial⟩
theorem RW.back (w : RW K a ns bs H0 O0 O σ H ρ) (r : Rl K (Abx a bs) (keepH σ ρ H) (fun c => O0 c ∨ c ∈ bs ∨ isT c) O' σ' H' ρ') : RW K a ns bs H0 O0 O' σ' H' ρ' := by
  have out : ∀ c, H c ≠ none → ¬ ownS σ ρ c → ¬ ownS σ' ρ' c := fun c h1 h2 ⟨j, es, g1, g2⟩ => by
    obtain ⟨p, xs, k1, k2, k3, _⟩ := r.own j es g1
    rw [g2] at k1
    cases k1
    rw [keep_of h2] at k3
    exact h1 k3
  refine ⟨⟨r.len, r.val, fun i ds h => ?_, r.inj, r.owl, fun c o h => ?_, fun c h => r.sub c (.inl h), w.r.old, r.fz⟩, w.scr, w.len63, fun b hb => ?_, w.tabs r.frm, fun c ht => ⟨r.sub c (.inr (.inr ht)), (w.tbo c ht).2⟩⟩
  · obtain ⟨p, xs, h1, h2, h3, h4, h5⟩ := r.own i ds h
    refine ⟨p, xs, h1, h2, ?_, h4, h5⟩
    by_cases ho : ownS σ ρ p
    · obtain ⟨j, es, g1, g2⟩ := ho
      obtain ⟨q, ys, k1, k2, k3, _⟩ := w.r.own j es g1
      rw [g2] at k1
      cases k1
      exact k3
    · rw [keep_of ho] at h3
      exact w.r.frm.free h3
  · refine r.frm c o ?_
    rw [keep_of fun ⟨j, es, h1, h2⟩ => by
      obtain ⟨p, ys, g1, g2, g3, _⟩ := w.r.own j es h1
      rw [h2] at g1
      cases g1
      rw [h] at g3
      cases g3]
    exact w.r.frm c o h
  · obtain ⟨h1, h2, h3, d, h4, h5⟩ := w.box b hb
    obtain ⟨ms, j, g1, g2, g3⟩ := h4
    refine ⟨r.sub b (.inr (.inl hb)), h2, out b (by rw [g1]; exact fun h => nomatch h) h3, d, ⟨ms, j, r.frm _ _ ((keep_of h3).trans g1), r.frm _ _ ((keep_of h5).trans g2), g3⟩, out d (by rw [g2]; exact fun h => nomatch h) h5⟩
theorem RW.frm' (w : RW K a ns bs H0 O0 O σ H ρ) (e : Same (keepH σ ρ H) H') : Same H0 H' := fun c o h => by
  refine e c o ?_
  rw [keep_of fun ⟨j, es, h1, h2⟩ => by
    obtain ⟨p, ys, g1, g2, g3, _⟩ := w.r.own j es h1
    rw [h2] at g1
    cases g1
    rw [h] at g3
    cases g3]
  exact w.r.frm c o h
theorem abx_more {b : Addr} : ∀ f kvs, Abx a bs f kvs → Abx a (bs ++ [b]) f kvs := fun f kvs h => by
  rcases h with h | ⟨k, h1, h2⟩
  · exact .inl h
  · exact .inr ⟨k, h1, by rw [List.getElem?_append_left (List.getElem?_eq_some_iff.mp h2).1]; exact h2⟩
def noOwn : List Sl → Bool
  | [] => true
  | .own _ :: _ => false
  | .fz _ _ :: _ => false
  | _ :: l => noOwn l
theorem noOwn_no : ∀ {ρ : List Sl}, noOwn ρ = true → ∀ (j : Nat) (es : OC), ρ[j]? ≠ some (Sl.own es)
  | [], _, j, es => by simp
  | .un :: l, h, 0, es => by simp
  | .val _ :: l, h, 0, es => by simp
  | .un :: l, h, j + 1, es => by simpa using noOwn_no (ρ := l) h j es
  | .val _ :: l, h, j + 1, es => by simpa using noOwn_no (ρ := l) h j es
  | .own _ :: l, h, _, _ => by cases h
  | .fz _ _ :: l, h, _, _ => by cases h
theorem noOwn_nofz : ∀ {ρ : List Sl}, noOwn ρ = true → ∀ (j : Nat) (hw : NestedKey → Int) (kvs : List (PyData × PyData)), ρ[j]? ≠ some (Sl.fz hw kvs)
  | [], _, j, _, _ => by simp
  | .un :: l, h, 0, _, _ => by simp
  | .val _ :: l, h, 0, _, _ => by simp
  | .un :: l, h, j + 1, hw, kvs => by simpa using noOwn_nofz (ρ := l) h j hw kvs
  | .val _ :: l, h, j + 1, hw, kvs => by simpa using noOwn_nofz (ρ := l) h j hw kvs
  | .own _ :: l, h, _, _, _ => by cases h
  | .fz _ _ :: l, h, _, _, _ => by cases h
theorem RW.more (w : RW K a ns bs H0 O0 O σ H ρ) (hn : noOwn ρ = true) {b d : Addr} (e : Same H H') (hb : H b = none) (hB : Bx H' b d) : RW K a ns (bs ++ [b]) H0 O0 (Osn O b) σ H' ρ := by
  have no : ∀ c, ¬ ownS σ ρ c := fun c ⟨j, es, h, _⟩ => noOwn_no hn j es h
  refine ⟨⟨w.r.len, fun i d' h => ?_, fun i ds h => (noOwn_no hn i ds h).elim, w.r.inj, fun c h => ?_, w.r.frm.trans e, fun c h => .inr (w.r.sub c h), w.r.old, fun i hw kvs h => (noOwn_nofz hn i hw kvs h).elim⟩, w.scr, w.len63, fun c hc => ?_, w.tab.ext e, fun c ht => ⟨.inr (w.tbo c ht).1, (w.tbo c ht).2⟩⟩
  · obtain ⟨v, h1, h2⟩ := w.r.val i d' h
    exact ⟨v, h1, ((h2.more hb).same e).amo abx_more⟩
  · rcases h with rfl | h
    · obtain ⟨ms, j, g1, _⟩ := hB
      exact ⟨_, g1, trivial⟩
    · obtain ⟨xs, hx, hm⟩ := w.r.owl c h
      exact ⟨xs, e _ _ hx, hm⟩
  · rcases List.mem_append.mp hc with hc | hc
    · obtain ⟨h1, h2, h3, d', h4, h5⟩ := w.box c hc
      exact ⟨.inr h1, h2, h3, d', h4.same e, h5⟩
    · cases List.mem_singleton.mp hc
      exact ⟨.inl rfl, w.r.frm.free hb, no _, d, hB, no _⟩
end
abbrev WE := List Sl → (PyData → Prop) → Prop
abbrev WA := List Sl → (List PyData → Prop) → Prop
def SW (K : PySem.W.Frag) (t : TE) (w : WE) : Prop := ∀ {a : Addr} {ns : List Int} {bs : List Addr} {H0 : Hp} {O0 O : Addr → Prop} {σ : L2.St} {H : Hp} {ρ : List Sl}, RW K a ns bs H0 O0 O σ H ρ → ∀ Q, w ρ Q → ∀ Q' : VK, (∀ v d H', WM bs H H' → Fd K (Abx a bs) O H' v d → Q d → Q' v H') → t σ H Q'
def SWs (K : PySem.W.Frag) (t : TA) (w : WA) : Prop := ∀ {a : Addr} {ns : List Int} {bs : List Addr} {H0 : Hp} {O0 O : Addr → Prop} {σ : L2.St} {H : Hp} {ρ : List Sl}, RW K a ns bs H0 O0 O σ H ρ → ∀ Q, w ρ Q → ∀ Q' : List V → Hp → Prop, (∀ vs ds H', WM bs H H' → Fds K (Abx a bs) O H' vs ds → Q ds → Q' vs H') → t σ H Q'
def wOf (fe : FE) : WE := fun ρ Q => ∃ d, fe ρ = some d ∧ Q d
def wsOf (fa : FA) : WA := fun ρ Q => ∃ ds, fa ρ = some ds ∧ Q ds
def wsNil : WA := fun _ Q => Q []
def wsCons (we : WE) (wr : WA) : WA := fun ρ Q => we ρ fun d => wr ρ fun ds => Q (d :: ds)
def wOp (g : F2) (wa wb : WE) : WE := fun ρ Q => wa ρ fun x => wb ρ fun y => ∃ c, g x y = some c ∧ Q c
def wTup (wa : WA) : WE := fun ρ Q => wa ρ fun ds => ds.length ≤ 10000000 ∧ Q (.tuple ds)
def wCall (fn : Fn) (wa : WA) : WE := fun ρ Q => wa ρ fun ds => ∃ d, fn ds = some d ∧ Q d
section
variable {K : PySem.W.Frag} {ta tb te : TE} {wa wb we : WE} {tas : TA} {was : WA}
theorem sw_of {fe : FE} (h : ∀ A, SE K A te fe) : SW K te (wOf fe) := fun {a ns bs H0 O0 O σ H ρ} w Q hQ Q' q => by
  obtain ⟨d, h1, h2⟩ := hQ
  exact h (Abx a bs) w.r d h1 Q' fun v H' e hv => q v d H' (.same e) hv h2
theorem sws_nil : SWs K tNil wsNil := fun w Q hQ Q' q => q [] [] _ .refl .nil hQ
theorem sws_cons (h1 : SW K ta wa) (h2 : SWs K tas was) : SWs K (tCons ta tas) (wsCons wa was) := fun {a ns bs H0 O0 O σ H ρ} w Q hQ Q' q => by
  refine h1 w _ hQ _ fun x d H1 m1 hx hQ1 => ?_
  have w1 := w.wm m1
  refine h2 w1 _ hQ1 _ fun vs ds H2 m2 hvs hQ2 => ?_
  exact q _ _ H2 (m1.trans m2) (.cons (hx.evo w1.r.owl (w1.evo m2)) hvs) hQ2
theorem sw_op {r : R2} {g : F2} (h1 : SW K ta wa) (h2 : SW K tb wb) (hr : ∀ A, RD K A r g) : SW K (tOp r ta tb) (wOp g wa wb) := fun {a ns bs H0 O0 O σ H ρ} w Q hQ Q' q => by
  refine h1 w _ hQ _ fun x d H1 m1 hx hQ1 => ?_
  have w1 := w.wm m1
  refine h2 w1 _ hQ1 _ fun y e H2 m2 hy hQ2 => ?_
  obtain ⟨c, hc, hQ3⟩ := hQ2
  have w2 := w1.wm m2
  exact hr (Abx a bs) w2.r.owl (hx.evo w1.r.owl (w1.evo m2)) hy c hc _ fun v H3 e3 hv => q v c H3 ((m1.trans m2).trans (.same e3)) hv hQ3
theorem sw_tup (h : SWs K tas was) : SW K (tTup tas) (wTup was) := fun {a ns bs H0 O0 O σ H ρ} w Q hQ Q' q => by
  refine h w _ hQ _ fun vs ds H1 m1 hvs hQ1 => ?_
  obtain ⟨hl, hQ2⟩ := hQ1
  exact ⟨sz100 (by rw [hvs.1]; exact hl), fun p hp => q _ _ _ (m1.trans (.same (Cr.same_new hp))) ((hvs.same (Cr.same_new hp)).tup (.of upd_same)) hQ2⟩
theorem sw_cb {r : List V → Hp → VK → Prop} {gn : Fn} (h : SWs K tas was) (hr : ∀ A, RDs K A r gn) : SW K (tCB r tas) (wCall gn was) := fun {a ns bs H0 O0 O σ H ρ} w Q hQ Q' q => by
  refine h w _ hQ _ fun vs ds H1 m1 hvs hQ1 => ?_
  obtain ⟨d, h1, hQ2⟩ := hQ1
  exact hr (Abx a bs) (w.wm m1).r.owl hvs d h1 _ fun v H2 e2 hv => q v d H2 (m1.trans (.same e2)) hv hQ2
def SIW (K : PySem.W.Frag) (wi : TI) (w : WA) : Prop := ∀ {a : Addr} {ns : List Int} {bs : List Addr} {H0 : Hp} {O0 O : Addr → Prop} {σ : L2.St} {H : Hp} {ρ : List Sl}, RW K a ns bs H0 O0 O σ H ρ → ∀ Q, w ρ Q → ∀ R : It → Hp → Prop, (∀ J ds H', WM bs H H' → Wk K (Abx a bs) O H' J ds → Q ds → R J H') → wi σ H R
theorem siw_of {wi : TI} {fi : FA} (h : ∀ A, SI K A wi fi) : SIW K wi (wsOf fi) := fun {a ns bs H0 O0 O σ H ρ} w Q hQ R q => by
  obtain ⟨ds, h1, h2⟩ := hQ
  exact h (Abx a bs) w.r ds h1 R fun J H1 e1 wk => q J ds H1 (.same e1) wk h2
def wRng1 (wa : WA) : WA := fun ρ Q => wa ρ fun ds => ∃ n : Int, ds = [.int n] ∧ -10000000 ≤ n ∧ n ≤ 10000000 ∧ Q (rngD 0 n.toNat)
theorem siw_rng1 (h : SWs K tas was) : SIW K (iRng1 tas) (wRng1 was) := fun {a ns bs H0 O0 O σ H ρ} w Q hQ R q => by
  refine h w _ hQ _ fun vs ds H1 m1 hvs hQ1 => ?_
  obtain ⟨n, rfl, h1, h2, hQ2⟩ := hQ1
  obtain ⟨v, rfl, hv⟩ := one_inv hvs
  cases hv.int_inv
  exact ⟨n, rfl, by omega, by omega, q _ _ _ m1 (wk_rng 0 n.toNat) hQ2⟩
end
section
variable {K : PySem.W.Frag} {a : Addr} {ns : List Int} {bs : List Addr} {H0 : Hp} {O0 O O' : Addr → Prop} {σ σ' : L2.St} {H H1 H' : Hp} {ρ ρ' : List Sl}
theorem own_wipe {q : Addr} : ∀ {vs : List Nat}, ownS (L2.wipe σ vs) (wpS ρ vs) q → ownS σ ρ q
  | [], h => h
  | v :: vs, ⟨j, es, h1, h2⟩ => by
    refine own_wipe (vs := vs) ?_
    have h1 : ((wpS ρ vs).set v Sl.un)[j]? = some (Sl.own es) := h1
    have h2 : ((L2.wipe σ vs).set v none)[j]? = some (some (V.ref q)) := h2
    have hv : v ≠ j := fun e => by
      subst e
      rw [List.getElem?_set, if_pos rfl] at h1
      split at h1 <;> cases h1
    rw [List.getElem?_set_ne hv] at h1 h2
    exact ⟨j, es, h1, h2⟩
theorem RW.wipe (w : RW K a ns bs H0 O0 O σ H ρ) (vs : List Nat) : RW K a ns bs H0 O0 O (L2.wipe σ vs) H (wpS ρ vs) where
  r := w.r.wipe vs
  scr := w.scr
  len63 := w.len63
  box := fun b hb => by
    obtain ⟨h1, h2, h3, d, h4, h5⟩ := w.box b hb
    exact ⟨h1, h2, fun h => h3 (own_wipe h), d, h4, fun h => h5 (own_wipe h)⟩
  tab := w.tab
  tbo := w.tbo
theorem RW.osn (w : RW K a ns bs H0 O0 O σ H ρ) {p : Addr} {xs : List V} (hp : H p = none) (e : Same H H') (hx : H' p = some (.lst xs)) : RW K a ns bs H0 O0 (Osn O p) σ H' ρ where
  r := w.r.osn hp e hx
  scr := w.scr
  len63 := w.len63
  box := fun b hb => by
    obtain ⟨h1, h2, h3, d, h4, h5⟩ := w.box b hb
    exact ⟨.inr h1, h2, h3, d, h4.same e, h5⟩
  tab := w.tab.ext e
  tbo := fun c ht => ⟨.inr (w.tbo c ht).1, (w.tbo c ht).2⟩
end
abbrev WS := Nat → List Sl → (Fl → Nat → List Sl → Prop) → Prop
def Ext (bs bs' : List Addr) : Prop := ∃ t, bs' = bs ++ t
theorem Ext.refl {bs : List Addr} : Ext bs bs := ⟨[], (List.append_nil _).symm⟩
theorem Ext.trans {bs bs1 bs2 : List Addr} (h : Ext bs bs1) (g : Ext bs1 bs2) : Ext bs bs2 := by
  obtain ⟨t, rfl⟩ := h
  obtain ⟨u, rfl⟩ := g
  exact ⟨t ++ u, List.append_assoc _ _ _⟩
def BxK (bs : List Addr) (H H' : Hp) : Prop := (∀ b d, b ∈ bs → Bx H b d → Bx H' b d) ∧ (TabsH H → TabsH H')
theorem BxK.less {bs bs' : List Addr} {H H' : Hp} (x : Ext bs bs') (h : BxK bs' H H') : BxK bs H H' := ⟨fun b d hb hB => by
  obtain ⟨t, rfl⟩ := x
  exact h.1 b d (List.mem_append_left _ hb) hB, h.2⟩
theorem BxK.trans {bs : List Addr} {H H1 H' : Hp} (h : BxK bs H H1) (g : BxK bs H1 H') : BxK bs H H' := ⟨fun b d hb hB => g.1 b d hb (h.1 b d hb hB), fun t => g.2 (h.2 t)⟩
theorem BxK.same {bs : List Addr} {H H' : Hp} (e : Same H H') : BxK bs H H' := ⟨fun b d _ hB => hB.same e, fun t => t.ext e⟩
structure EvW (bs : List Addr) (O : Addr → Prop) (H : Hp) (O' : Addr → Prop) (H' : Hp) : Prop where
  ev : Evo O H O' H'
  bx : BxK bs H H'
theorem EvW.trans {bs bs' : List Addr} {O O1 O' : Addr → Prop} {H H1 H' : Hp} (e : EvW bs O H O1 H1) (x : Ext bs bs') (f : EvW bs' O1 H1 O' H') : EvW bs O H O' H' := ⟨e.ev.trans f.ev, e.bx.trans (f.bx.less x)⟩
theorem EvW.same {bs : List Addr} {O : Addr → Prop} {H H' : Hp} (e : Same H H') : EvW bs O H O H' := ⟨.same e, .same e⟩
theorem EvW.refl {bs : List Addr} {O : Addr → Prop} {H : Hp} : EvW bs O H O H := ⟨.refl, .same (.refl _)⟩
theorem RW.evw {K : PySem.W.Frag} {a : Addr} {ns : List Int} {bs : List Addr} {H0 : Hp} {O0 O : Addr → Prop} {σ : L2.St} {H H' : Hp} {ρ : List Sl} (w : RW K a ns bs H0 O0 O σ H ρ) (m : WM bs H H') : EvW bs O H O H' := ⟨w.evo m, m.2⟩
theorem RW.bxk {K : PySem.W.Frag} {a : Addr} {ns : List Int} {bs : List Addr} {H0 : Hp} {O0 O : Addr → Prop} {σ : L2.St} {H H' : Hp} {ρ : List Sl} (w : RW K a ns bs H0 O0 O σ H ρ) (s : Same (keepH σ ρ H) H') : BxK bs H H' := ⟨(fun b d hb hB => by
  obtain ⟨_, _, h3, d1, h4, h5⟩ := w.box b hb
  cases bx_uni hB h4
  obtain ⟨ms, j, g1, g2, g3⟩ := hB
  exact ⟨ms, j, s _ _ ((keep_of h3).trans g1), s _ _ ((keep_of h5).trans g2), g3⟩), fun _ => w.tabs s⟩
def PostW (K : PySem.W.Frag) (a : Addr) (ns : List Int) (bs : List Addr) (H0 : Hp) (O0 O : Addr → Prop) (H : Hp) (D : Ends) (fl : Fl) (n : Nat) (ρ' : List Sl) : Prop := match fl with
  | .nx => ∀ bs' σ' H' O', Ext bs bs' → bs'.length = n → RW K a ns bs' H0 O0 O' σ' H' ρ' → EvW bs O H O' H' → D.nx σ' H'
  | .bk => ∀ bs' σ' H' O', Ext bs bs' → bs'.length = n → RW K a ns bs' H0 O0 O' σ' H' ρ' → EvW bs O H O' H' → D.bk σ' H'
  | .ct => ∀ bs' σ' H' O', Ext bs bs' → bs'.length = n → RW K a ns bs' H0 O0 O' σ' H' ρ' → EvW bs O H O' H' → D.ct σ' H'
  | .rt d => ∀ bs' v H', Ext bs bs' → Same H0 H' → BxK bs H H' → Fd K (Abx a bs') (fun c => O0 c ∨ c ∈ bs ∨ isT c) H' v d → D.rt v H'
def SSw (K : PySem.W.Frag) (t : TS) (w : WS) : Prop := ∀ {a : Addr} {ns : List Int} {bs : List Addr} {H0 : Hp} {O0 O : Addr → Prop} {σ : L2.St} {H : Hp} {ρ : List Sl}, RW K a ns bs H0 O0 O σ H ρ → ∀ Q, w bs.length ρ Q → ∀ D : Ends, (∀ fl n ρ', Q fl n ρ' → PostW K a ns bs H0 O0 O H D fl n ρ') → t D σ H
def wSt (f : FS) : WS := fun n ρ Q => ∃ o, f ρ = some o ∧ Q o.1 n o.2
def wSeq (w1 w2 : WS) : WS := fun n ρ Q => w1 n ρ fun fl n' ρ' => match fl with
  | .nx => w2 n' ρ' Q
  | fl => Q fl n' ρ'
def wAsg (we : WE) (g : PyData → List Sl → Option (List Sl)) : WS := fun n ρ Q => we ρ fun d => ∃ ρ1, g d ρ = some ρ1 ∧ Q .nx n ρ1
def wLoop (g : PyData → List Sl → Option (List Sl)) (wb : WS) : List PyData → WS
  | [], n, ρ, Q => Q .nx n ρ
  | d :: ds, n, ρ, Q => ∃ ρ1, g d ρ = some ρ1 ∧ wb n ρ1 fun fl n2 ρ2 => match fl with
    | .nx => wLoop g wb ds n2 ρ2 Q
    | .ct => wLoop g wb ds n2 ρ2 Q
    | .bk => Q .nx n2 ρ2
    | .rt d => Q (.rt d) n2 ρ2
def wFor (wi : WA) (g : PyData → List Sl → Option (List Sl)) (wb : WS) : WS := fun n ρ Q => wi ρ fun ds => wLoop g wb ds n ρ Q
section
variable {K : PySem.W.Frag} {a : Addr} {ns : List Int} {bs bs' : List Addr} {H0 : Hp} {O0 O O' : Addr → Prop} {H H' : Hp} {D : Ends} {t u : TS} {w1 w2 : WS}
theorem PostW.evo {fl : Fl} {n : Nat} {ρ' : List Sl} (x : Ext bs bs') (e : EvW bs O H O' H') (p : PostW K a ns bs H0 O0 O H D fl n ρ') : PostW K a ns bs' H0 O0 O' H' D fl n ρ' := by
  cases fl with
  | nx => exact fun b2 σ2 H2 O2 x2 l2 r2 e2 => p b2 σ2 H2 O2 (x.trans x2) l2 r2 (e.trans x e2)
  | bk => exact fun b2 σ2 H2 O2 x2 l2 r2 e2 => p b2 σ2 H2 O2 (x.trans x2) l2 r2 (e.trans x e2)
  | ct => exact fun b2 σ2 H2 O2 x2 l2 r2 e2 => p b2 σ2 H2 O2 (x.trans x2) l2 r2 (e.trans x e2)
  | rt d => exact fun b2 v H2 x2 s2 k2 hv => p b2 v H2 (x.trans x2) s2 (e.bx.trans (k2.less x)) (hv.less fun c hc => hc.imp_right fun h => h.imp_left fun h => by obtain ⟨t, rfl⟩ := x; exact List.mem_append_left _ h)
theorem ssw_of {f : FS} (h : ∀ A, SS K A t f) : SSw K t (wSt f) := fun {a ns bs H0 O0 O σ H ρ} w Q hQ D p => by
  obtain ⟨⟨fl, ρ'⟩, h1, h2⟩ := hQ
  have hp := p fl bs.length ρ' h2
  refine h (Abx a bs) w.lift (fl, ρ') h1 D ?_
  cases fl with
  | nx => exact fun σ' H' O' r e => hp bs σ' H' O' .refl rfl (w.back r) ⟨e, w.bxk r.frm⟩
  | bk => exact fun σ' H' O' r e => hp bs σ' H' O' .refl rfl (w.back r) ⟨e, w.bxk r.frm⟩
  | ct => exact fun σ' H' O' r e => hp bs σ' H' O' .refl rfl (w.back r) ⟨e, w.bxk r.frm⟩
  | rt d => exact fun v H' s hv => hp bs v H' .refl (w.frm' s) (w.bxk s) hv
theorem ssw_seq (h1 : SSw K t w1) (h2 : SSw K u w2) : SSw K (tSeq t u) (wSeq w1 w2) := fun {a ns bs H0 O0 O σ H ρ} w Q hQ D p => by
  refine h1 w _ hQ _ fun fl n ρ' hq => ?_
  cases fl with
  | nx => exact fun bs' σ' H' O' x l r e => h2 r Q (by rw [l]; exact hq) D fun fl2 n2 ρ2 hq2 => (p fl2 n2 ρ2 hq2).evo x e
  | bk => exact p .bk n ρ' hq
  | ct => exact p .ct n ρ' hq
  | rt d => exact p (.rt d) n ρ' hq
theorem ssw_asg {te : TE} {we : WE} {tg : TG} {gg : PyData → List Sl → Option (List Sl)} {ws : List Nat} (he : SW K te we) (hg : ∀ A, SG K A tg gg ws) : SSw K (tAsg te tg) (wAsg we gg) := fun {a ns bs H0 O0 O σ H ρ} w Q hQ D p => by
  refine he w _ hQ _ fun v d H1 m1 hv hQ1 => ?_
  obtain ⟨ρ1, h1, h2⟩ := hQ1
  have w1 := w.wm m1
  exact hg (Abx a bs) w1.lift hv ρ1 h1 _ fun σ' r _ _ _ => p .nx _ ρ1 h2 bs σ' H1 O .refl rfl (w1.back r) (w.evw m1)
theorem ssw_for {wi : TI} {ww : WA} {tg : TG} {gg : PyData → List Sl → Option (List Sl)} {ws : List Nat} (hi : SIW K wi ww) (hg : ∀ A, SG K A tg gg ws) (hb : SSw K t w1) : SSw K (tFor wi tg t) (wFor ww gg w1) := fun {a ns bs H0 O0 O σ H ρ} w Q hQ D p => by
  refine hi w _ hQ _ fun J ds H1 m1 wk hQ1 => ?_
  obtain ⟨G, Y, wl, hw⟩ := wk
  refine for_it wl (D := D) (fun i σ' H' => ∃ bs' O' ρ', Ext bs bs' ∧ RW K a ns bs' H0 O0 O' σ' H' ρ' ∧ EvW bs O H1 O' H' ∧ wLoop gg w1 (ds.drop i) bs'.length ρ' Q) ⟨bs, O, ρ, .refl, w.wm m1, .refl, hQ1⟩ (fun i σ' H' _ hP => ?_) (fun i x σ' H' H2 hi hP hy => ?_) (fun σ' H' hP => ?_)
  · obtain ⟨bs', O', ρ', _, r', ev, _⟩ := hP
    exact (hw O' H' r'.r.owl ev.ev).1
  · obtain ⟨bs', O', ρ', x', r', ev, hl⟩ := hP
    obtain ⟨e2, d, hd, hx⟩ := (hw O' H' r'.r.owl ev.ev).2 i x H2 hi hy
    have hdr : ds.drop i = d :: ds.drop (i + 1) := by
      obtain ⟨hlt, rfl⟩ := List.getElem?_eq_some_iff.mp hd
      exact List.drop_eq_getElem_cons hlt
    rw [hdr] at hl
    obtain ⟨ρ1, h3, h4⟩ := hl
    have r2 := r'.wm (.same e2)
    have hx' : Fd K (Abx a bs') O' H2 x d := hx.amo fun f kvs h => by
      obtain ⟨t, rfl⟩ := x'
      rcases h with h | ⟨k, h1, h2⟩
      · exact .inl h
      · exact .inr ⟨k, h1, by rw [List.getElem?_append_left (List.getElem?_eq_some_iff.mp h2).1]; exact h2⟩
    refine hg (Abx a bs') r2.lift hx' ρ1 h3 _ fun σ2 r3 _ _ _ => ?_
    have ev2 : EvW bs O H1 O' H2 := ev.trans .refl (.same e2)
    refine hb (r2.back r3) _ h4 _ fun fl n2 ρ2 hq => ?_
    cases fl with
    | nx => exact fun b3 σ3 H3 O3 x3 l3 r3 ev3 => ⟨b3, O3, ρ2, x'.trans x3, r3, ev2.trans x' ev3, by rw [l3]; exact hq⟩
    | ct => exact fun b3 σ3 H3 O3 x3 l3 r3 ev3 => ⟨b3, O3, ρ2, x'.trans x3, r3, ev2.trans x' ev3, by rw [l3]; exact hq⟩
    | bk => exact fun b3 σ3 H3 O3 x3 l3 r3 ev3 => p .nx n2 ρ2 hq b3 σ3 H3 O3 (x'.trans x3) l3 r3 ((w.evw m1).trans .refl (ev2.trans x' ev3))
    | rt d' => exact fun b3 v H3 x3 s3 k3 hv => p (.rt d') n2 ρ2 hq b3 v H3 (x'.trans x3) s3 (BxK.trans m1.2 (ev2.bx.trans (k3.less x'))) (hv.less fun c hc => hc.imp_right fun h => h.imp_left fun h => by obtain ⟨t, rfl⟩ := x'; exact List.mem_append_left _ h)
  · obtain ⟨bs', O', ρ', x', r', ev, hl⟩ := hP
    rw [List.drop_length] at hl
    exact p .nx _ ρ' hl bs' σ' H' O' x' rfl r' ((w.evw m1).trans .refl ev)
theorem abx_scr {f : Addr} (h : Abx a bs f []) : f = a := by
  rcases h with ⟨_, h⟩ | ⟨j, h1, _⟩
  · exact h
  · cases h1
end
end Sm
set_option maxRecDepth 10000000
namespace Sm
open PySem PySem.Spec PyProof.Rows L2 Evl CrT Cr
variable [TabT]
abbrev WO := List Sl → (Option Int → Prop) → Prop
def SOW (K : PySem.W.Frag) (t : TO) (w : WO) : Prop := ∀ {a : Addr} {ns : List Int} {bs : List Addr} {H0 : Hp} {O0 O : Addr → Prop} {σ : L2.St} {H : Hp} {ρ : List Sl}, RW K a ns bs H0 O0 O σ H ρ → ∀ Q, w ρ Q → ∀ Q' : Option Int → Hp → Prop, (∀ o H', WM bs H H' → Q o → Q' o H') → t σ H Q'
def wPart (we : WE) : WO := fun ρ Q => we ρ fun d => ∃ i, d = .int i ∧ Q (some i)
def wSl (g : PyData → Option Int → Option Int → Option PyData) (we : WE) (wl wh : WO) : WE := fun ρ Q => we ρ fun d => wl ρ fun l => wh ρ fun u => ∃ c, g d l u = some c ∧ Q c
theorem sow_some {K : PySem.W.Frag} {te : TE} {we : WE} (h : SW K te we) : SOW K (tPart te) (wPart we) := fun w Q hQ Q' q => by
  refine h w _ hQ _ fun v d H1 m1 hv hQ1 => ?_
  obtain ⟨i, rfl, hQ2⟩ := hQ1
  exact ⟨_, hv.int_inv, q _ H1 m1 hQ2⟩
theorem sw_sl {K : PySem.W.Frag} {te : TE} {we : WE} {tl th : TO} {wl wh : WO} {r : V → Option Int → Option Int → Hp → VK → Prop} {g : PyData → Option Int → Option Int → Option PyData} (h : SW K te we) (hl : SOW K tl wl) (hh : SOW K th wh) (hr : ∀ A, RS K A r g) : SW K (tSl r te tl th) (wSl g we wl wh) := fun {a ns bs H0 O0 O σ H ρ} w Q hQ Q' q => by
  refine h w _ hQ _ fun x d H1 m1 hx hQ1 => ?_
  have w1 := w.wm m1
  refine hl w1 _ hQ1 _ fun l H2 m2 hQ2 => ?_
  have w2 := w1.wm m2
  refine hh w2 _ hQ2 _ fun u H3 m3 hQ3 => ?_
  have w3 := w2.wm m3
  obtain ⟨c, hc, hQ4⟩ := hQ3
  exact hr (Abx a bs) w3.r.owl ((hx.evo w1.r.owl (w1.evo m2)).evo w2.r.owl (w2.evo m3)) l u c hc _ fun v H4 e4 hv => q v c H4 (((m1.trans m2).trans m3).trans (.same e4)) hv hQ4
def LInv (K : PySem.W.Frag) (a : Addr) (ns : List Int) (N : Nat) (σ : L2.St) (H : Hp) : Prop := σ.length = N ∧ σ[0]? = some (some (V.ref a)) ∧ SqL K H a (ns.map V.int) ∧ ns.length ≤ 63 ∧ TabsH H
open Classical in
noncomputable def offT (H : Hp) : Hp := fun c => if isT c then none else H c
theorem offT_same {H : Hp} : Same (offT H) H := fun c o h => by
  unfold offT at h
  split at h
  · cases h
  · exact h
theorem offT_sq {K : PySem.W.Frag} {H : Hp} {a : Addr} {xs : List V} (t : TabsH H) (h : SqL K H a xs) : SqL K (offT H) a xs := by
  rcases h with h | h
  · have ht : ¬ isT a := fun ht => by
      obtain ⟨ps, e⟩ := isT_tbl t ht
      rcases h with h | ⟨o, h⟩ <;> rw [e] at h <;> cases h
    have e : offT H a = H a := if_neg ht
    unfold Rd at h
    rw [← e] at h
    exact .inl h
  · exact .inr h
theorem owlT {H : Hp} (t : TabsH H) : Owl isT H := fun c hc => by
  obtain ⟨ps, e⟩ := isT_tbl t hc
  exact ⟨_, e, trivial⟩
theorem owlF {H : Hp} : Owl (fun _ => False) H := fun c hc => hc.elim
def QL (N : Nat) : Fl → Nat → List Sl → Prop := fun fl _ ρ' => (match fl with
  | .nx => True
  | .ct => True
  | _ => False) ∧ ρ'.length = N ∧ ρ'[0]? = some (.val (.dict []))
section
variable {K : PySem.W.Frag} {a : Addr} {ns : List Int} {N : Nat} {σ : L2.St} {H : Hp}
def rhoE (N : Nat) : List Sl := .val (.dict []) :: List.replicate (N - 1) .un
def QT : Fl → Nat → List Sl → Prop := fun fl _ _ => match fl with
  | .rt (.bool true) => True
  | _ => False
theorem rw_startE (inv : LInv K a ns N σ H) (hN : 1 ≤ N) : RW K a ns [] (offT H) (fun _ => False) isT σ H (rhoE N) := by
  obtain ⟨h1, h2, h3, h63, ht⟩ := inv
  refine ⟨⟨by unfold rhoE; rw [h1, List.length_cons, List.length_replicate]; omega, fun j d hj => ?_, fun j ds hj => ?_, fun j k ds es p hj => ?_, owlT ht, offT_same, fun _ h => h.elim, owlF, fun j ds kvs hj => ?_⟩, offT_sq ht h3, h63, (fun b hb => nomatch hb), ht, fun c hc => ⟨hc, if_pos hc⟩⟩
  · match j with
    | 0 =>
      cases hj
      exact ⟨_, h2, .fn (.inl ⟨rfl, rfl⟩)⟩
    | j + 1 =>
      have hj : (List.replicate (N - 1) Sl.un)[j]? = some (Sl.val d) := hj
      rw [List.getElem?_replicate] at hj
      split at hj <;> cases hj
  all_goals
    match j with
    | 0 => cases hj
    | j + 1 =>
      have hj : (List.replicate (N - 1) Sl.un)[j]? = _ := hj
      rw [List.getElem?_replicate] at hj
      split at hj <;> cases hj
theorem rw_fin {bs' : List Addr} {σ' : L2.St} {H0 H' : Hp} {O0 O' : Addr → Prop} {ρ' : List Sl} (r : RW K a ns bs' H0 O0 O' σ' H' ρ') (l : ρ'.length = N) (h : ρ'[0]? = some (Sl.val (.dict []))) : LInv K a ns N σ' H' := by
  obtain ⟨v, h1, h2⟩ := r.r.val 0 _ h
  cases h2 with
  | fn hA =>
    cases abx_scr hA
    exact ⟨by rw [r.r.len, l], h1, r.scrH, r.len63, r.tab⟩
theorem law_for {wi : TI} {ww : WA} {tg : TG} {gg : PyData → List Sl → Option (List Sl)} {ws : List Nat} {tb : TS} {wb : WS} {D : Ends} (hN : 1 ≤ N) (hi : SIW K wi ww) (hg : ∀ A, SG K A tg gg ws) (hb : SSw K tb wb) (inv : LInv K a ns N σ H)
    (hww : ww (rhoE N) fun ds => ∀ d ∈ ds, ∃ ρ1, gg d (rhoE N) = some ρ1 ∧ wb 0 ρ1 (QL N)) (hnx : ∀ σ' H', LInv K a ns N σ' H' → D.nx σ' H') : tFor wi tg tb D σ H := by
  refine hi (rw_startE inv hN) _ hww _ fun J ds H1 m1 wk hQ1 => ?_
  obtain ⟨G, Y, wl, hw⟩ := wk
  have w1 := (rw_startE inv hN).wm m1
  refine for_it wl (D := D) (fun i σ' H' => LInv K a ns N σ' H' ∧ Evo isT H1 isT H') ⟨?_, .refl⟩ (fun i σ' H' _ hP => ?_) (fun i x σ' H' H2 hi' hP hy => ?_) (fun σ' H' hP => hnx σ' H' hP.1)
  · exact ⟨inv.1, inv.2.1, w1.scrH, w1.len63, w1.tab⟩
  · exact (hw isT H' (owlT hP.1.2.2.2.2) hP.2).1
  · obtain ⟨hL, hS⟩ := hP
    obtain ⟨e2, d, hd, hx⟩ := (hw isT H' (owlT hL.2.2.2.2) hS).2 i x H2 hi' hy
    obtain ⟨ρ1, h3, h4⟩ := hQ1 d (List.mem_of_getElem? hd)
    have hL2 : LInv K a ns N σ' H2 := ⟨hL.1, hL.2.1, e2.seq hL.2.2.1, hL.2.2.2.1, hL.2.2.2.2.ext e2⟩
    have w2 := rw_startE hL2 hN
    refine hg (Abx a []) w2.lift hx ρ1 h3 _ fun σ2 r3 _ _ _ => ?_
    refine hb (w2.back r3) (QL N) h4 _ fun fl n ρ' hq => ?_
    obtain ⟨hfl, hl, h0⟩ := hq
    have key : ∀ bs' σ' H' O', RW K a ns bs' (offT H2) (fun _ => False) O' σ' H' ρ' → EvW [] isT H2 O' H' → LInv K a ns N σ' H' ∧ Evo isT H1 isT H' := fun bs' σ' H' O' r ev => ⟨rw_fin r hl h0, fun c o h n => ⟨(ev.ev c o (e2 _ _ (hS c o h n).1) n).1, n⟩⟩
    cases fl with
    | nx => exact fun bs' σ' H' O' _ _ r ev => key bs' σ' H' O' r ev
    | ct => exact fun bs' σ' H' O' _ _ r ev => key bs' σ' H' O' r ev
    | bk => exact hfl.elim
    | rt d => exact hfl.elim
theorem law_tail {tb : TS} {wb : WS} {D : Ends} (hN : 1 ≤ N) (hb : SSw K tb wb) (inv : LInv K a ns N σ H) (hw : wb 0 (rhoE N) QT) (hrt : ∀ H', D.rt (.bl true) H') : tb D σ H := by
  refine hb (rw_startE inv hN) QT hw D fun fl n ρ' hq => ?_
  unfold QT at hq
  split at hq
  · exact fun bs' v H' _ _ _ hv => by
      rw [hv.bl_inv]
      exact hrt H'
  · exact hq.elim
theorem law_body {wi : TI} {ww : WA} {tg : TG} {gg : PyData → List Sl → Option (List Sl)} {ws : List Nat} {tb tt : TS} {wb wt : WS} {D : Ends} (hN : 1 ≤ N) (hi : SIW K wi ww) (hg : ∀ A, SG K A tg gg ws) (hb : SSw K tb wb) (ht : SSw K tt wt) (inv : LInv K a ns N σ H)
    (hww : ww (rhoE N) fun ds => ∀ d ∈ ds, ∃ ρ1, gg d (rhoE N) = some ρ1 ∧ wb 0 ρ1 (QL N)) (hwt : wt 0 (rhoE N) QT) (hrt : ∀ H', D.rt (.bl true) H') : tSeq (tFor wi tg tb) tt D σ H := by
  unfold tSeq
  exact law_for hN hi hg hb inv hww fun σ' H' inv' => show tt D σ' H' from law_tail hN ht inv' hwt hrt
def wLenS : WE := fun ρ Q => ρ[0]? = some (.val (.dict [])) ∧ ∀ n : Nat, n ≤ 63 → Q (.int n)
theorem sw_lenS {K : PySem.W.Frag} : SW K (tCB (rLenX K) (tCons (tVar 0) tNil)) wLenS := fun {a ns bs H0 O0 O σ H ρ} w Q hQ Q' q => by
  obtain ⟨v, h1, h2⟩ := w.r.val 0 _ hQ.1
  cases h2 with
  | fn hA =>
    cases abx_scr hA
    exact ⟨_, h1, _, ns.length, rfl, .inl ⟨_, w.scrH, by rw [List.length_map]⟩, q _ (.int ns.length) _ .refl (.int _) (hQ.2 ns.length w.len63)⟩
end
end Sm
set_option maxRecDepth 10000000
namespace Sm
open PySem PySem.Spec PyProof.Rows L2 Evl CrT Cr
inductive NkV (K : PySem.W.Frag) (H : Hp) : NestedKey → V → Prop
  | num (i : Int) : NkV K H (.num i) (.int i)
  | text (x : Str) : NkV K H (.text x) (.str x)
  | tup {a : Addr} {xs : List V} {ks : List NestedKey} : SqT K H a xs → xs.length = ks.length → (∀ (i : Nat) v k, xs[i]? = some v → ks[i]? = some k → NkV K H k v) → NkV K H (.tup ks) (.ref a)
theorem nested_all {h : Heap} : ∀ {ks : List NestedKey} {xs : List V} {us : List Value}, Vals xs us → xs.length = ks.length → (∀ (i : Nat) v k, xs[i]? = some v → ks[i]? = some k → ∀ u, RelV v u → NestedIs h k u) → NestedAll h ks us
  | [], [], _, .nil, _, _ => .nil
  | k :: ks, x :: xs, _, .cons r t, hl, q => .cons (q 0 x k rfl rfl _ r) (nested_all t (by simpa using hl) fun i v k' h1 h2 => q (i + 1) v k' (by simpa using h1) (by simpa using h2))
  | [], _ :: _, _, _, hl, _ => by simp at hl
  | _ :: _, [], _, _, hl, _ => by simp at hl
section
variable {X : Cx} {pins : List (Addr × Obj)} {σ : L2.St} {H : Hp} {s : Shared}
theorem NkV.is (I : Inv X pins σ H s) {k : NestedKey} {v : V} (h : NkV X.K H k v) : ∀ u, RelV v u → NestedIs s.heap k u := by
  induction h with
  | num i => intro u r; obtain ⟨t, rfl⟩ := (show ∃ t, u = Value.int i t from r); exact .int _ _
  | text x => intro u r; obtain ⟨t, rfl⟩ := (show ∃ t, u = Value.str x t from r); exact .text _ _
  | tup hs hl _ ih =>
    intro u r
    cases (show u = _ from r)
    obtain ⟨its, rv, ⟨o, h1, h2, n, h3⟩, _⟩ := I.tuple hs
    exact .tup h1 h2 h3 (by simpa using nested_all rv hl fun i v k a b u r => ih i v k a b u r)
end
def DXu (H : Hp) (a : Addr) (hw : NestedKey → Int) (ks : List (NestedKey × Addr × V)) : Prop := H a = some (DxO hw a ks) ∨ (ks = [] ∧ H a = some (.dK []))
def valN (ks : List (NestedKey × Addr × V)) (k : NestedKey) : Option V := (ks.find? fun q => decide (q.1 = k)).map (·.2.2)
abbrev KN : List (NestedKey × Addr × V) → List (NestedKey × Addr × Value) → Prop := Paired fun p q => p.1 = q.1 ∧ p.2.1 = q.2.1 ∧ RelV p.2.2 q.2.2
theorem KN.val {ks : List (NestedKey × Addr × V)} {xs : List (NestedKey × Addr × Value)} (r : KN ks xs) (k : NestedKey) : RelO (valN ks k) ((atKey xs k).map (·.2)) := by
  induction r with
  | nil => exact True.intro
  | @cons p q ps qs h t ih =>
    obtain ⟨h1, _, h2⟩ := h
    by_cases e : p.1 = k
    · have e' : q.1 = k := h1.symm.trans e
      have b : atKey (q :: qs) k = some q.2 := by simp [atKey, List.find?_cons, e']
      have c : valN (p :: ps) k = some p.2.2 := by simp [valN, List.find?_cons, e]
      rw [b, c]; exact h2
    · have e' : ¬ q.1 = k := fun z => e (h1.trans z)
      have b : atKey (q :: qs) k = atKey qs k := by simp [atKey, List.find?_cons, e']
      have c : valN (p :: ps) k = valN ps k := by simp [valN, List.find?_cons, e]
      rw [b, c]; exact ih
theorem KN.mem {ks : List (NestedKey × Addr × V)} {xs : List (NestedKey × Addr × Value)} {φ : NestedKey → Addr → Prop} (r : KN ks xs) (h : ∀ q ∈ ks, φ q.1 q.2.1) : ∀ x ∈ xs, φ x.1 x.2.1 := by
  induction r with
  | nil => intro x hx; exact nomatch hx
  | @cons p q ps qs h' t ih =>
    intro x hx
    obtain ⟨h1, h2, _⟩ := h'
    rcases List.mem_cons.mp hx with rfl | hx
    · rw [← h1, ← h2]; exact h p List.mem_cons_self
    · exact ih (fun q hq => h q (List.mem_cons_of_mem _ hq)) x hx
section
variable {X : Cx} {pins : List (Addr × Obj)} {σ : L2.St} {H : Hp} {s : Shared} {a b : Addr} {ks : List (NestedKey × Addr × V)} {k : NestedKey} {v d : V} {u r : Value} {A : Around} {E : Value → Shared → Prop}
theorem DXu.mut (g : DXu H a (NestedKey.hash X.w) ks) : Mut (H a) := by
  rcases g with e | ⟨_, e⟩
  · rw [e]; trivial
  · rw [e]; trivial
end
end Sm
set_option maxRecDepth 10000000
namespace Sm
open PySem PySem.Spec PyProof.Rows L2 Evl CrT Cr
end Sm
set_option maxRecDepth 10000000
namespace Sm
open PySem PySem.Spec PyProof.Rows L2 Evl CrT Cr
end Sm
set_option maxRecDepth 10000000
namespace Sm
open PySem PySem.Spec PyProof.Rows L2 Evl CrT Cr
mutual
def noL : PyData → Bool
  | .tuple ds => noLs ds
  | .int _ => true
  | .str _ => true
  | .bool _ => true
  | .none => true
  | _ => false
def noLs : List PyData → Bool
  | [] => true
  | d :: ds => noL d && noLs ds
end
theorem noLs_mem : ∀ {ds : List PyData}, noLs ds = true → ∀ d ∈ ds, noL d = true
  | [], _, _, h => by cases h
  | d :: ds, h, e, he => by
    unfold noLs at h
    obtain ⟨h1, h2⟩ := Bool.and_eq_true_iff.mp h
    rcases List.mem_cons.mp he with rfl | he
    · exact h1
    · exact noLs_mem h2 e he
theorem noLs_of : ∀ {ds : List PyData}, (∀ d ∈ ds, noL d = true) → noLs ds = true
  | [], _ => by unfold noLs; rfl
  | d :: ds, h => by
    unfold noLs
    rw [h d List.mem_cons_self, noLs_of fun e he => h e (List.mem_cons_of_mem _ he)]
    rfl
mutual
theorem noL_flat : ∀ d : PyData, flatD d = true → noL d = true
  | .int _, _ => by rw [noL]
  | .str _, _ => by rw [noL]
  | .tuple ds, h => by
    rw [noL]
    rw [flatD] at h
    exact noL_flats ds h
  | .list _, h => by simp [flatD] at h
  | .bool _, h => by simp [flatD] at h
  | .none, h => by simp [flatD] at h
  | .dict _, h => by simp [flatD] at h
theorem noL_flats : ∀ ds : List PyData, flatDs ds = true → noLs ds = true
  | [], _ => by unfold noLs; rfl
  | d :: ds, h => by
    unfold flatDs at h
    obtain ⟨h1, h2⟩ := Bool.and_eq_true_iff.mp h
    unfold noLs
    rw [noL_flat d h1, noL_flats ds h2]
    rfl
end
theorem Fd.nol {K : PySem.W.Frag} {A : Atm} {O O' : Addr → Prop} {H : Hp} {v : V} {d : PyData} (h : Fd K A O H v d) (hn : noL d = true) : Fd K A O' H v d := by
  induction h with
  | non => exact .non
  | bl b => exact .bl b
  | int i => exact .int i
  | str x => exact .str x
  | tup hs hl _ ih => exact .tup hs hl fun i v d h1 h2 => ih i v d h1 h2 (noLs_mem (by simpa [noL] using hn) d (List.mem_of_getElem? h2))
  | lst => simp [noL] at hn
  | fn => simp [noL] at hn
def fTmp (j : Nat) (fe : FE) : FE := fun ρ => (fe (frz j ρ)).bind fun d => if noL d then some d else none
def fTmpT (j : Nat) (ft : FT) : FT := fun ρ => ft (frz j ρ)
def fTmpL (j : Nat) (fa : FA) : FA := fun ρ => (fa (frz j ρ)).bind fun ds => if noLs ds then some ds else none
section
variable {K : PySem.W.Frag} {A : Atm} {te : TE} {fe : FE} {tt : TT} {ft : FT} {fas : FA}
theorem se_tmp (j : Nat) (h : SE K A te fe) : SE K A te (fTmp j fe) := fun R d hd Q q => by
  obtain ⟨e, h1, h2⟩ := bind_some' hd
  split at h2
  · rename_i hn
    cases h2
    obtain ⟨O', r', ev, _⟩ := R.frz j
    exact h r' _ h1 Q fun v H' s hv => q v H' s (hv.nol hn)
  · cases h2
theorem st_tmp (j : Nat) (h : ST K A tt ft) : ST K A tt (fTmpT j ft) := fun R b hb Q q => by
  obtain ⟨O', r', ev, _⟩ := R.frz j
  exact h r' b hb Q q
theorem sl_tmp (j : Nat) (h : SL K A te fas) : SL K A te (fTmpL j fas) := fun R ds hd Q q => by
  obtain ⟨es, h1, h2⟩ := bind_some' hd
  split at h2
  · rename_i hn
    cases h2
    obtain ⟨O', r', ev, _⟩ := R.frz j
    exact h r' _ h1 Q fun p xs H' hp s hx hv => q p xs H' hp s hx ⟨hv.1, fun i v d a b => (hv.2 i v d a b).nol (noLs_mem hn d (List.mem_of_getElem? b))⟩
  · cases h2
end
end Sm
set_option maxRecDepth 10000000
namespace Sm
open PySem PySem.Spec PyProof.Rows L2 Evl CrT Cr
theorem rc_min {K : PySem.W.Frag} {A : Atm} : RDs K A (fun xs H Q => ∃ i j, xs = [.int i, .int j] ∧ Q (.int (if j < i then j else i)) H) gMin := fun {O H xs ds} ho hx c hc Q q => by
  unfold gMin at hc
  split at hc
  · cases hc
    obtain ⟨v, ws, rfl, h1, h2⟩ := hx.head
    obtain ⟨u, rfl, h3⟩ := one_inv h2
    cases h1.int_inv; cases h3.int_inv
    exact ⟨_, _, rfl, q _ _ (.refl _) (.int _)⟩
  · cases hc
variable [TabT]
def DrawOk : List Int → List Int → Prop := Paired fun m x => 0 ≤ x ∧ x < m
theorem draw_len {ms xs : List Int} (h : DrawOk ms xs) : ms.length = xs.length := Paired.length h
theorem draw_snoc {ms xs : List Int} {i : Nat} {m x : Int} (h : DrawOk (ms.take i) xs) (hm : ms[i]? = some m) (h0 : 0 ≤ x) (h1 : x < m) : DrawOk (ms.take (i + 1)) (xs ++ [x]) := by
  rw [List.take_add_one, hm]
  exact Paired.snoc h ⟨h0, h1⟩
def spDrawB (K : PySem.W.Frag) : Sp := fun vs H Q _ => ∃ (a b : Addr) (ns ms : List Int) (k : Nat), vs = [.ref a, .int (k : Int), .ref b] ∧ SqL K H a (ns.map V.int) ∧ SqL K H b (ms.map V.int) ∧ ms.length ≤ 1000 ∧ (∀ m ∈ ms, 0 < m ∧ m < 1073741824) ∧
  ∀ p (xs : List Int) H', Same H H' → H p = none → H' p = some (.lst (xs.map V.int)) → DrawOk ms xs → Q (.ref p) H'
def wDraw (wa : WA) : WE := fun ρ Q => wa ρ fun ds => ∃ (k : Nat) (ms : List Int), ds = [.dict [], .int k, .list (ms.map .int)] ∧ ms.length ≤ 1000 ∧ (∀ m ∈ ms, 0 < m ∧ m < 1073741824) ∧ ∀ xs, DrawOk ms xs → Q (.list (xs.map .int))
theorem fds_ints {K : PySem.W.Frag} {A : Atm} {O : Addr → Prop} {H : Hp} : ∀ {ms : List Int} {xs : List V}, Fds K A O H xs (ms.map .int) → xs = ms.map V.int
  | [], xs, h => by rw [h.nil_inv]; rfl
  | m :: ms, xs, h => by
    obtain ⟨v, ws, rfl, h1, h2⟩ := h.head
    rw [fds_ints h2, h1.int_inv]
    rfl
theorem ints_fds {K : PySem.W.Frag} {A : Atm} {O : Addr → Prop} {H : Hp} : ∀ (ms : List Int), Fds K A O H (ms.map V.int) (ms.map .int)
  | [] => .nil
  | m :: ms => .cons (.int m) (ints_fds ms)
section
variable {K : PySem.W.Frag} {tas : TA} {was : WA}
theorem sw_draw {E : XK} (h : SWs K tas was) : SW K (tCall (spDrawB K) [] E tas) (wDraw was) := fun {a ns bs H0 O0 O σ H ρ} w Q hQ Q' q => by
  refine h w _ hQ _ fun vs ds H1 m1 hvs hQ1 => ?_
  obtain ⟨k, ms, rfl, hl, hm, hQ2⟩ := hQ1
  obtain ⟨v, ws, rfl, h1, h2⟩ := hvs.head
  obtain ⟨u, ws, rfl, h3, h4⟩ := h2.head
  obtain ⟨x, rfl, h5⟩ := one_inv h4
  cases h3.int_inv
  obtain ⟨b, xs, rfl, hb, hnb, hxs⟩ := h5.lst_inv
  cases fds_ints hxs
  cases h1 with
  | @fn f kvs hA =>
    cases abx_scr hA
    have w1 := w.wm m1
    refine ⟨_, b, ns, ms, k, rfl, w1.scrH, sq_of hb, hl, hm, fun p xs H2 e2 hp hx hd => q _ (.list (xs.map .int)) H2 (m1.trans (.same e2)) ?_ (hQ2 xs hd)⟩
    exact (ints_fds xs).lst hx (w1.r.owl.none hp)
end
abbrev WT := List Sl → (Bool → Prop) → Prop
end Sm
namespace Cr
open PySem PySem.Spec PyProof.Rows L2 Evl CrT
abbrev VR := PyData × List Int
abbrev TR := List PyData × List Int
def rowD (r : List Int) : PyData := .tuple (r.map PyData.int)
def tupR (p : TR) : VR := (.tuple p.1, p.2)
def besideG (rows : List TR) (parts : List VR) (ahead : List Int) : List TR := rows.flatMap fun r => parts.map fun p => (r.1 ++ [p.1], r.2 ++ ahead ++ p.2)
end Cr
namespace Cr
open PySem PySem.Spec PyProof.Rows L2 Evl CrT
def timesR (parts : List VR) (ahead : List Int) : Nat → List TR → List TR
  | 0, acc => acc
  | n + 1, acc => timesR parts ahead n (besideG acc parts ahead)
def listStep (parts : List VR) (a : Int) (s : List TR × List VR) (many : Nat) : List TR × List VR :=
  if (many : Int) < a then (besideG s.1 parts [], s.2) else (besideG s.1 parts [1], s.2 ++ s.1.map fun r => tupR (r.1, r.2 ++ [0]))
def listRows (parts : List VR) (a b : Int) : List VR :=
  ((List.range b.toNat).foldl (listStep parts a) ([([], [])], [])).2 ++ ((List.range b.toNat).foldl (listStep parts a) ([([], [])], [])).1.map tupR
def repeatRows (parts : List VR) (p : VR) : List VR :=
  match p.1 with
  | .int m => if decide (0 ≤ m) && decide (m ≤ 6) then (timesR parts [] m.toNat [([], p.2)]).map tupR else []
  | _ => []
mutual
def rowsOf : Gn → List VR
  | .int lo hi => (List.range (hi - lo + 1).toNat).map fun (c : Nat) => (PyData.int (lo + (c : Int)), [(c : Int)])
  | .pick ws => ws.zipIdx.map fun (w : Str × Nat) => (PyData.str w.1, [(w.2 : Int)])
  | .tuple gs => (rowsTup gs [([], [])]).map tupR
  | .list g a b => listRows (rowsOf g) a b
  | .one gs => rowsOne gs 0
  | .kept g c => (rowsOf g).filter fun p => holdsC c p.1
  | .turned g m => (rowsOf g).map fun p => (turnD m p.1, p.2)
  | .repeat_ g h => (rowsOf g).flatMap (repeatRows (rowsOf h))
def rowsTup : List Gn → List TR → List TR
  | [], acc => acc
  | g :: gs, acc => rowsTup gs (besideG acc (rowsOf g) [])
def rowsOne : List Gn → Nat → List VR
  | [], _ => []
  | g :: gs, c => (rowsOf g).map (fun p => (p.1, (c : Int) :: p.2)) ++ rowsOne gs (c + 1)
end
theorem mem_beside {rows : List TR} {parts : List VR} {ahead : List Int} {x : TR} (h : x ∈ besideG rows parts ahead) : ∃ r ∈ rows, ∃ p ∈ parts, x = (r.1 ++ [p.1], r.2 ++ ahead ++ p.2) := by
  unfold besideG at h
  obtain ⟨r, hr, h⟩ := List.mem_flatMap.mp h
  obtain ⟨p, hp, rfl⟩ := List.mem_map.mp h
  exact ⟨r, hr, p, hp, rfl⟩
end Cr
namespace Cr
open PySem PySem.Spec PyProof.Rows L2 Evl CrT
inductive Out where
  | val (v : PyData) (used : Nat) | refused (used : Nat) | wrong (place : Nat) | short (place : Nat)
def Out.data : Out → PyData
  | .val v n => .tuple [.str "value", v, .int (n : Int)]
  | .refused n => .tuple [.str "refused", .int (n : Int)]
  | .wrong n => .tuple [.str "wrong", .int (n : Int)]
  | .short n => .tuple [.str "short", .int (n : Int)]
def Out.step (o : Out) (k : PyData → Nat → Out) : Out :=
  match o with
  | .val v n => k v n
  | o => o
def choice (row : List Int) (at_ : Nat) (bound : Int) (k : Int → Out) : Out :=
  if row.length ≤ at_ then .short row.length else if decide (0 ≤ row.getD at_ 0) && decide (row.getD at_ 0 ≤ bound) then k (row.getD at_ 0) else .wrong at_
def outTimes (f : Nat → Out) : Nat → Nat → List PyData → Out
  | 0, at_, acc => .val (.tuple acc) at_
  | n + 1, at_, acc => (f at_).step fun v n' => outTimes f n n' (acc ++ [v])
def outList (f : Nat → Out) (row : List Int) (a : Int) : Nat → Nat → Nat → List PyData → Out
  | 0, _, at_, acc => .val (.tuple acc) at_
  | n + 1, many, at_, acc =>
    if (many : Int) < a then (f at_).step fun v n' => outList f row a n (many + 1) n' (acc ++ [v])
    else choice row at_ 1 fun c => if c = 0 then .val (.tuple acc) (at_ + 1) else (f (at_ + 1)).step fun v n' => outList f row a n (many + 1) n' (acc ++ [v])
def outRepeat (f : Nat → Out) (v : PyData) (n : Nat) : Out :=
  match v with
  | .int m => if decide (0 ≤ m) && decide (m ≤ 6) then outTimes f m.toNat n [] else .refused n
  | _ => .refused n
mutual
def outG : Gn → List Int → Nat → Out
  | .int lo hi, row, at_ => choice row at_ (hi - lo) fun c => .val (.int (lo + c)) (at_ + 1)
  | .pick ws, row, at_ => choice row at_ ((ws.length : Int) - 1) fun c => .val (.str (ws.getD c.toNat "")) (at_ + 1)
  | .tuple gs, row, at_ => outSeq gs row at_ []
  | .list g a b, row, at_ => outList (outG g row) row a b.toNat 0 at_ []
  | .one gs, row, at_ => choice row at_ ((gs.length : Int) - 1) fun c => outPick gs c.toNat row (at_ + 1)
  | .kept g c, row, at_ => (outG g row at_).step fun v n => if holdsC c v then .val v n else .refused n
  | .turned g m, row, at_ => (outG g row at_).step fun v n => .val (turnD m v) n
  | .repeat_ g h, row, at_ => (outG g row at_).step (outRepeat (outG h row))
def outSeq : List Gn → List Int → Nat → List PyData → Out
  | [], _, at_, acc => .val (.tuple acc) at_
  | g :: gs, row, at_, acc => (outG g row at_).step fun v n => outSeq gs row n (acc ++ [v])
def outPick : List Gn → Nat → List Int → Nat → Out
  | [], _, _, _ => .short 0
  | g :: _, 0, row, at_ => outG g row at_
  | _ :: gs, n + 1, row, at_ => outPick gs n row at_
end
def Out.sat (P : PyData → Prop) (o : Out) : Prop := ∀ v n, o = .val v n → P v
theorem Out.sat.mono {o : Out} {n m : Nat} (h : o.sat (Dk n)) (hm : n ≤ m) : o.sat (Dk m) := fun v k e => (h v k e).mono hm
end Cr
set_option maxRecDepth 10000000
namespace Sm
open PySem PySem.Spec PyProof.Rows L2 Evl CrT Cr
theorem rng_map (lo : Int) (n : Nat) : rngD lo n = (List.range n).map fun (i : Nat) => PyData.int (lo + (i : Int)) := rfl
theorem rng_map0 (n : Nat) : rngD 0 n = (List.range n).map fun (i : Nat) => PyData.int (i : Int) := by
  rw [rng_map]
  refine List.map_congr_left fun i _ => ?_
  rw [Int.zero_add]
theorem cutD_take {α : Type} (xs : List α) (i : Nat) : Sm.cutD xs none (some (i : Int)) = xs.take i := by
  unfold Sm.cutD
  rw [HT.sIx_none, HT.sIx_nat, List.drop_zero, Nat.sub_zero]
  by_cases h : i ≤ xs.length
  · rw [Nat.min_eq_left h]
  · rw [Nat.min_eq_right (by omega), List.take_length, List.take_of_length_le (by omega)]
theorem seq_nx {f g : FS} {ρ ρ' : List Sl} (h : f ρ = some (.nx, ρ')) : fSeq f g ρ = g ρ' := by
  show fThen (f ρ) g = _
  rw [h]
  rfl
theorem for_ds {fi : FA} {g : PyData → List Sl → Option (List Sl)} {b : FS} {ρ : List Sl} {ds : List PyData} (h : fi ρ = some ds) : fFor fi g b ρ = fLoop g b ds ρ := by
  show (fi ρ).bind _ = _
  rw [h]
  rfl
theorem wst_nx {f : FS} {w2 : WS} {n : Nat} {ρ ρ' : List Sl} {Q : Fl → Nat → List Sl → Prop} (h : f ρ = some (.nx, ρ')) (h2 : w2 n ρ' Q) : wSeq (wSt f) w2 n ρ Q := ⟨_, h, h2⟩
theorem wst_end {f : FS} {n : Nat} {ρ ρ' : List Sl} {fl : Fl} {Q : Fl → Nat → List Sl → Prop} (h : f ρ = some (fl, ρ')) (h2 : Q fl n ρ') : wSt f n ρ Q := ⟨_, h, h2⟩
end Sm
set_option maxRecDepth 10000000
namespace Sm
open PySem PySem.Spec PyProof.Rows L2 Evl CrT Cr
abbrev WF := List PyData → (PyData → Prop) → Prop
def spWF (K : PySem.W.Frag) (wf : WF) : Sp := fun vs H Q _ => ∃ (a : Addr) (ns : List Int) (O : Addr → Prop) (ds : List PyData) (Qd : PyData → Prop), SqL K H a (ns.map V.int) ∧ ns.length ≤ 63 ∧ Owl O H ∧ Fds K (Abx a []) O H vs ds ∧ wf ds Qd ∧ ∀ v d H', Same H H' → Fd K A0 O H' v d → Qd d → Q v H'
def argOk : PyData → Bool
  | .dict [] => true
  | d => noA d
def wCallF (wf : WF) (wa : WA) : WE := fun ρ Q => wa ρ fun ds => ds.all argOk = true ∧ wf ds Q
def runW (n k : Nat) (w : WS) : WF := fun ds Q => ds.length = k ∧ w 0 (ds.map Sl.val ++ List.replicate (n - k) Sl.un) fun fl _ _ => match fl with
  | .rt d => noA d = true ∧ Q d
  | _ => False
theorem args_to {K : PySem.W.Frag} {a : Addr} {bs : List Addr} {O : Addr → Prop} {H : Hp} {v : V} {d : PyData} (h : Fd K (Abx a bs) O H v d) (ok : argOk d = true) : Fd K (Abx a []) O H v d := by
  by_cases e : d = .dict []
  · subst e
    cases h with
    | fn hA => exact .fn (.inl ⟨rfl, abx_scr hA⟩)
  · have : noA d = true := by
      unfold argOk at ok
      split at ok
      · exact absurd rfl e
      · exact ok
    exact (h.noa this).up
section
variable {K : PySem.W.Frag} {tas : TA} {was : WA}
theorem sw_callF [TabT] {E : XK} {wf : WF} (h : SWs K tas was) : SW K (tCall (spWF K wf) [] E tas) (wCallF wf was) := fun {a ns bs H0 O0 O σ H ρ} w Q hQ Q' q => by
  refine h w _ hQ _ fun vs ds H1 m1 hvs hQ1 => ?_
  have w1 := w.wm m1
  refine ⟨a, ns, O, ds, Q, w1.scrH, w1.len63, w1.r.owl, ?_, hQ1.2, fun v d H2 e2 hv hq => q v d H2 (m1.trans (.same e2)) hv.up hq⟩
  rw [List.append_nil]
  exact ⟨hvs.1, fun i v d a b => args_to (hvs.2 i v d a b) (List.all_eq_true.mp hQ1.1 d (List.mem_of_getElem? b))⟩
theorem body_okW {N : List Str} {k : Nat} {t : TS} {wb : WS} (h : SSw K t wb) {vs : List V} {H : Hp} {Q : VK} {E : XK} (hs : spWF K (runW N.length k wb) vs H Q E) : t { nx := fun _ H' => Q .non H', rt := Q } (L2.start N vs) H := by
  obtain ⟨a, ns, O, ds, Qd, hsc, h63, ho, hds, ⟨hk, hw⟩, q⟩ := hs
  have R : RW K a ns [] H O O (L2.start N vs) H (ds.map Sl.val ++ List.replicate (N.length - k) Sl.un) := ⟨start_rl ho hds hk, hsc, h63, (fun b hb => nomatch hb), (fun p hp => nomatch hp), (fun c hc => by obtain ⟨p, hp, _⟩ := hc; cases hp)⟩
  refine h R _ hw _ fun fl n ρ' hq => ?_
  cases fl with
  | rt d => exact fun bs' v H' _ s _ hv => q v d H' s ((hv.less fun c hc => .inl hc).noa hq.1) hq.2
  | nx => exact hq.elim
  | bk => exact hq.elim
  | ct => exact hq.elim
theorem body_lenW {n k : Nat} {wb : WS} {vs : List V} {H : Hp} {Q : VK} {E : XK} (hs : spWF K (runW n k wb) vs H Q E) : vs.length = k := by
  obtain ⟨a, ns, O, ds, Qd, hsc, h63, ho, hds, ⟨hk, hw⟩, q⟩ := hs
  rw [hds.1, hk]
end
def wRet (we : WE) : WS := fun n ρ Q => we ρ fun d => Q (.rt d) n ρ
theorem ssw_ret [TabT] {K : PySem.W.Frag} {te : TE} {we : WE} (h : SW K te we) (hf : True := trivial) : SSw K (tRet te) (wRet we) := fun {a ns bs H0 O0 O σ H ρ} w Q hQ D p => by
  refine h w _ hQ _ fun v d H1 m1 hv hQ1 => ?_
  have w1 := w.wm m1
  exact p (.rt d) _ ρ hQ1 bs v H1 .refl w1.r.frm m1.2 (hv.less fun c hc => hc.elim (w1.r.sub c) fun h => h.elim (fun h => (w1.box c h).1) fun h => (w1.tbo c h).1)
def gAddL : PyData → PyData → Option (List PyData)
  | .list xs, .list ys => lim (xs.length + ys.length) (xs ++ ys)
  | _, _ => none
theorem rd_addL {K : PySem.W.Frag} {A : Atm} : RDL K A (rAddX K) gAddL := fun {O H x y a b} ho hx hy ds hc Q q => by
  cases a <;> cases b <;> try cases hc
  obtain ⟨h1, rfl⟩ := lim_some hc
  obtain ⟨p, xs, rfl, hp, hnp, hxs⟩ := hx.lst_inv
  obtain ⟨p2, ys, rfl, hp2, hnp2, hys⟩ := hy.lst_inv
  exact .inr (.inr (.inl ⟨p, p2, xs, ys, rfl, rfl, hp, hp2, sz100 (by rw [hxs.1, hys.1]; exact h1), fun l hl => q l _ _ hl (Cr.same_new hl) upd_same (((hxs.app hys).more hl).same (Cr.same_new hl))⟩))
end Sm
set_option maxRecDepth 10000000
namespace Sm
open PySem PySem.Spec PyProof.Rows L2 Evl CrT Cr
end Sm
set_option maxRecDepth 10000000
namespace Sm
open PySem PySem.Spec PyProof.Rows L2 Evl CrT Cr
end Sm
set_option maxRecDepth 10000000
namespace Sm
open PySem PySem.Spec PyProof.Rows L2 Evl CrT Cr
end Sm
set_option maxRecDepth 10000000
namespace Sm
open PySem PySem.Spec PyProof.Rows L2 Evl CrT Cr
end Sm
set_option maxRecDepth 10000000
namespace Sm
open PySem PySem.Spec PyProof.Rows L2 Evl CrT Cr
end Sm
set_option maxRecDepth 10000000
namespace Sm
open PySem PySem.Spec PyProof.Rows L2 Evl CrT Cr
section
variable {P : Program} {w : World} {K : PySem.W.Frag} {mg : Str → Option Value} {base : Heap} {f : Addr} {fd : FuncData} {ps : List Str} {sp : Sp} {k : Nat}
structure FnG (P : Program) (w : World) (K : PySem.W.Frag) (mg : Str → Option Value) (base : Heap) (k : Nat) (f : Addr) (fd : FuncData) (ps : List Str) (sp : Sp) : Prop where
  len : ∀ vs H Q E, sp vs H Q E → vs.length = ps.length
  run : ∀ (A : Around) (o : List Env) (s : Shared) (H : Hp) (ar : Args) (us : List Value) (vs : List V) (Q : VK) (E : XK), A.guards = some [] → Room k A → Env0 P w K mg base A o s H → BindsTo s fd ar (ps.zip us) → Vals vs us → sp vs H Q E →
    codeAny (model P w) A (.call (.ref f) ar) (CR CX0 o P w H s Q E) s
theorem FnG.of (F : FnOk P w K mg base CX0 k f fd ps sp) : FnG P w K mg base k f fd ps sp := ⟨F.len, fun A o s H ar us vs Q E _ r e b v h => F.run A o s H ar us vs Q E r e b v h⟩
theorem FnG.mono {j : Nat} (F : FnG P w K mg base j f fd ps sp) (h : j ≤ k) : FnG P w K mg base k f fd ps sp := ⟨F.len, fun A o s H ar us vs Q E g r => F.run A o s H ar us vs Q E g (r.mono h)⟩
theorem FnG.imp {sq : Sp} (F : FnG P w K mg base k f fd ps sp) (h : ∀ vs H Q E, sq vs H Q E → sp vs H Q E) : FnG P w K mg base k f fd ps sq :=
  ⟨fun vs H Q E q => F.len vs H Q E (h _ _ _ _ q), fun A o s H ar us vs Q E g r e b v q => F.run A o s H ar us vs Q E g r e b v (h _ _ _ _ q)⟩
end
section
variable {X : Cx} {k : Nat} {f : Addr} {fd : FuncData} {ps : List Str} {sp : Sp} {ds : List Value} {dvs : List V} {E : XK}
def ReprOk (d : PyData) : Bool := d.showable && !d.hasDict && decide (d.depth ≤ 60) && decide (d.shown.length ≤ 4000000) && d.canLay0
end
structure ClG (P : Program) (w : World) (K : PySem.W.Frag) (mg : Str → Option Value) (base : Heap) (x : Str) (ps : List Str) (k : Nat) (sp : Sp) where
  f : Addr
  fd : FuncData
  ok : FnG P w K mg base k f fd ps sp
  b : Binds K fd ps []
  kp : PySem.W.keepIn K (.ref f) = true
  m : mg x = some (.ref f)
def ClG.of {P : Program} {w : World} {K : PySem.W.Frag} {mg : Str → Option Value} {base : Heap} {x : Str} {ps : List Str} {k : Nat} {sp : Sp} (c : Cr.Cl P w K mg base x ps k sp) : ClG P w K mg base x ps k sp := ⟨c.f, c.fd, .of c.ok, c.b, c.kp, c.m⟩
def ClG.mono {P : Program} {w : World} {K : PySem.W.Frag} {mg : Str → Option Value} {base : Heap} {x : Str} {ps : List Str} {j k : Nat} {sp : Sp} (c : ClG P w K mg base x ps j sp) (h : j ≤ k) : ClG P w K mg base x ps k sp := ⟨c.f, c.fd, c.ok.mono h, c.b, c.kp, c.m⟩
end Sm
set_option maxRecDepth 10000000
namespace Sm
open PySem PySem.Spec PyProof.Rows L2 Evl CrT Cr
end Sm
set_option maxRecDepth 10000000
namespace Sm
open PySem PySem.Spec PyProof.Rows L2 Evl CrT Cr
def WOk (P : Program) (w : World) (K : PySem.W.Frag) (mg : Str → Option Value) (base : Heap) (A : Atm) (L : Nat) (wfn : List (PyData × PyData) → Fn) : Prop := ∀ f kvs, A f kvs → ∃ (fd : FuncData) (ps : List Str), FnOk P w K mg base CX0 L f fd ps (spF K A (wfn kvs)) ∧ Binds K fd ps [] ∧ PySem.W.keepIn K (.ref f) = true
theorem WOk.mono {P : Program} {w : World} {K : PySem.W.Frag} {mg : Str → Option Value} {base : Heap} {A : Atm} {L L' : Nat} {wfn : List (PyData × PyData) → Fn} (h : WOk P w K mg base A L wfn) (hl : L ≤ L') : WOk P w K mg base A L' wfn := fun f kvs ha => by
  obtain ⟨fd, ps, h1, h2⟩ := h f kvs ha
  exact ⟨fd, ps, h1.mono hl, h2⟩
end Sm
namespace CrV
open PySem PySem.Spec PyProof.Rows
def metN (ws : List Int) : Nat → Nat
  | 0 => 0
  | i + 1 => if (ws.take i).any (· == ws.getD i 0) then metN ws i else metN ws i + 1
theorem metN_le (ws : List Int) : ∀ i, metN ws i ≤ i
  | 0 => Nat.le_refl _
  | i + 1 => by
    have := metN_le ws i
    unfold metN
    split <;> omega
abbrev Wds (ws : List Int) (i : Nat) : Int → Bool := fun z => (ws.take i).any (· == z)
section
variable {P : Program} {w : World} {A : Around} {R : Result → Shared → Prop} {J : Addr} {fp wr : List Addr} {G : Array GenState → Array GenState → Prop} {n : Nat} {Pv : Nat → Value → Prop} {St : Nat → Shared → Prop}
abbrev St1 (P : Program) (w : World) (h : Heap) (S : Addr) (ws : List Int) (i : Nat) : Prop := h.SetOf (PySem.intKind P w) S (Wds ws i) (metN ws i)
theorem st1_move {h h' : Heap} {S : Addr} {ws : List Int} {i : Nat} (x : St1 P w h S ws i) (k : ∀ o, h.get? S = some o → h'.get? S = some o) : St1 P w h' S ws i := by
  obtain ⟨o, es, ep, t, ho, r⟩ := x
  exact ⟨o, es, ep, t, k _ ho, r⟩
theorem grow (W : WalksS P w A.in1 J fp wr G n Pv St) (S : Addr) (hS : S ∉ fp) (ws : List Int) (hn : ws.length = n) (hb : n + 1 < scanBound) (hv : ∀ i v, Pv i v → ∃ t, v = .int (ws.getD i 0) t) :
    ∀ (m i : Nat) (s : Shared), n - i = m → i ≤ n → St i s → St1 P w s.heap S ws i → (∀ s', Moved (S :: wr) G s s' → St1 P w s'.heap S ws n → R (.ok (.ret .none)) s') → codeAny (model P w) A (.builtin "set.update.loop" ⟨[.ref S, .ref J], []⟩) R s := by
  have hw : S ∉ wr := fun h => hS (W.sub _ h)
  have hmem : ∀ b ∈ wr, b ∈ S :: wr := fun b h => List.mem_cons_of_mem _ h
  intro m
  induction m with
  | zero =>
    intro i s hm hi st x fin
    obtain rfl : i = n := by omega
    refine codeAny_builtin PyProof.Rows.F.entry_set_update_loop ?_; rw [Around.under_plainId PyProof.Rows.F.plain_set_update_loop _]
    show wpAny _ A.in1 (pyNext (.ref J) >>= _) _ _ s
    exact wpAny_bind (W.done s _ _ st fun s' hm => (show wpAny _ A.in1 (ret Value.none) _ _ s' from wpAny_pure (fin s' (hm.mono hmem) (st1_move x fun o e => hm.heap S o hw e))))
  | succ m ih =>
    intro i s hm hi st x fin
    have hlt : i < n := by omega
    refine codeAny_builtin PyProof.Rows.F.entry_set_update_loop ?_; rw [Around.under_plainId PyProof.Rows.F.plain_set_update_loop _]
    show wpAny _ A.in1 (pyNext (.ref J) >>= _) _ _ s
    refine wpAny_bind (W.item i s _ _ hlt st fun v s' hp st' hmv => ?_)
    obtain ⟨t, rfl⟩ := hv i v hp
    have x' : St1 P w s'.heap S ws i := st1_move x fun o e => hmv.heap S o hw e
    show wpAny _ A.in1 (holding [Value.int (ws.getD i 0) t] (setAdd S (.int (ws.getD i 0) t)) >>= _) _ _ s'
    refine wpAny_bind (wpAny_holding ?_); unfold setAdd; refine wpAny_holding ?_
    refine wpAny_bind ((PySem.intKind P w).pyHash (k := ws.getD i 0) (intKind_is _ _ _ _) ?_)
    refine wpAny_setAddHashed_of (knd := PySem.intKind P w) (s := { s' with toks := s'.toks + 1 }) (intKind_is _ _ _ _) rfl x' (by have := metN_le ws i; omega) fun h' sb x2 => ?_
    have x3 : St1 P w h' S ws (i + 1) := by
      refine SetOf_congr x2 (fun z => ?_) rfl
      show ((ws.take i).any (· == z) || decide (z = ws.getD i 0)) = (ws.take (i + 1)).any (· == z)
      rw [List.take_add_one, List.getElem?_eq_getElem (show i < ws.length by omega), List.any_append, List.getD_eq_getElem?_getD, List.getElem?_eq_getElem (show i < ws.length by omega)]
      congr 1
      show decide (z = ws[i]) = ((ws[i] == z) || false)
      rw [Bool.or_false, Bool.eq_iff_iff, decide_eq_true_iff, beq_iff_eq]
      exact eq_comm
    refine wpAny_pure ⟨plainId_quiet PyProof.Rows.F.plain_set_update_loop _, ih (i + 1) _ (by omega) hlt (W.frame _ s' _ _ st' (Nat.le_succ _) fun b hb o e => ?_) x3 fun s2 hm2 x4 => ?_⟩
    · rw [sb.2 b fun h : b = S => hS (h ▸ hb)]; exact e
    · refine fin s2 (Moved.trans W.gtrans ((hmv.mono hmem).then_heap (Nat.le_succ _) fun b o hb e => ?_) hm2) x4
      rw [sb.2 b fun h : b = S => hb (h ▸ List.mem_cons_self)]; exact e
end
end CrV
set_option maxRecDepth 10000000
namespace Sm
open PySem PySem.Spec PyProof.Rows L2 Evl CrT Cr
end Sm
set_option maxRecDepth 10000000
namespace Sm
open PySem PySem.Spec PyProof.Rows L2 Evl CrT Cr
def ClG.imp {P : Program} {w : World} {K : PySem.W.Frag} {mg : Str → Option Value} {base : Heap} {x : Str} {ps : List Str} {k : Nat} {sp sp' : Sp} (c : ClG P w K mg base x ps k sp) (h : ∀ vs H Q E, sp' vs H Q E → sp vs H Q E) : ClG P w K mg base x ps k sp' := ⟨c.f, c.fd, c.ok.imp h, c.b, c.kp, c.m⟩
end Sm
namespace Fb
open PySem PySem.Spec PyProof.Rows L2 Evl CrT Cr Sm
def b_parts_in : FS :=
      (fSeq (fAsg (fOp gIx (fVar 0) (fC (.int 0))) (gS 1))
      (fSeq (fIfS (fB (fOp gIn (fVar 1) (fTup (fCons (fC (.str "tuple")) (fCons (fC (.str "one")) fNil))))) (fRet (fOp gIx (fVar 0) (fC (.int 1)))) fNext)
      (fSeq (fIfS (fB (fOp gIn (fVar 1) (fTup (fCons (fC (.str "list")) (fCons (fC (.str "kept")) (fCons (fC (.str "turned")) fNil)))))) (fRet (fTup (fCons (fOp gIx (fVar 0) (fC (.int 1))) fNil))) fNext)
      (fSeq (fIfS (fB (fOp gEq (fVar 1) (fC (.str "repeat")))) (fRet (fTup (fCons (fOp gIx (fVar 0) (fC (.int 1))) (fCons (fOp gIx (fVar 0) (fC (.int 2))) fNil)))) fNext)
      (fRet (fTup fNil))))))
end Fb
namespace Fb
open PySem PySem.Spec PyProof.Rows L2 Evl Cr CrT Sm
end Fb
namespace Fb
open PySem PySem.Spec PyProof.Rows L2 Evl Cr CrT Sm
end Fb
namespace Fb
open PySem PySem.Spec PyProof.Rows L2 Evl CrT Cr Sm
def b_is_word : FS :=
      (fRet (fAndV (fChain gLe gLe (fC (.int 1)) (fLenV 0) (fC (.int 8))) (fCall gAll (fCons (fV (fComp (fSeqI (fVar 0)) (gS 1) (fun _ => some true) (fChain gLe gLe (fC (.str "a")) (fVar 1) (fC (.str "z"))) [1])) fNil))))
def b_kind_of (f__kind_at : Fn) : FS :=
      (fRet (fCall f__kind_at (fCons (fVar 0) (fCons (fTup fNil) fNil))))
def b__kind_at (f__kind_at : Fn) (f_parts_in : Fn) (f__fault_itself : Fn) (f__kind_made : Fn) : FS :=
      (fSeq (fAsg (fV (fComp (fEnu (fCons (fCall f_parts_in (fCons (fVar 0) fNil)) fNil)) (gT 2 (gC (gS 4) (gC (gS 5) gN))) (fun _ => some true) (fCall f__kind_at (fCons (fVar 5) (fCons (fTup (fStar (fVar 1) (fCons (fVar 4) fNil))) fNil))) [4, 5])) (gS 2))
      (fSeq (fAsg (fCall f__fault_itself (fCons (fVar 0) (fCons (fVar 2) fNil))) (gS 3))
      (fSeq (fIfS (fB (fOp gNotN (fVar 3) (fC .none))) (fun _ => none) fNext)
      (fRet (fCall f__kind_made (fCons (fVar 0) (fCons (fVar 2) fNil)))))))
def b__fault_itself (f__are_right_words : Fn) (f_fits : Fn) (f_kind_behind : Fn) : FS :=
      (fSeq (fAsg (fOp gIx (fVar 0) (fC (.int 0))) (gS 2))
      (fSeq (fIfS (fAnd (fB (fOp gEq (fVar 2) (fC (.str "int")))) (fNot (fChain3 gLe gLe gLe (fUn gNeg (fC (.int 1000))) (fOp gIx (fVar 0) (fC (.int 1))) (fOp gIx (fVar 0) (fC (.int 2))) (fC (.int 1000))))) (fRet (fC (.str "wrong bounds"))) fNext)
      (fSeq (fIfS (fAnd (fB (fOp gEq (fVar 2) (fC (.str "list")))) (fNot (fChain3 gLe gLe gLe (fC (.int 0)) (fOp gIx (fVar 0) (fC (.int 2))) (fOp gIx (fVar 0) (fC (.int 3))) (fC (.int 6))))) (fRet (fC (.str "wrong bounds"))) fNext)
      (fSeq (fIfS (fAnd (fB (fOp gEq (fVar 2) (fC (.str "pick")))) (fNot (fB (fCall f__are_right_words (fCons (fOp gIx (fVar 0) (fC (.int 1))) fNil))))) (fRet (fC (.str "wrong words"))) fNext)
      (fSeq (fIfS (fAnd (fB (fOp gEq (fVar 2) (fC (.str "tuple")))) (fB (fOp gGt (fLenV 1) (fC (.int 4))))) (fRet (fC (.str "wrong number"))) fNext)
      (fSeq (fIfS (fAnd (fB (fOp gEq (fVar 2) (fC (.str "one")))) (fNot (fB (fChain gLe gLe (fC (.int 1)) (fLenV 1) (fC (.int 4)))))) (fRet (fC (.str "wrong number"))) fNext)
      (fSeq (fIfS (fAnd (fB (fOp gEq (fVar 2) (fC (.str "one")))) (fB (fCall gAny (fCons (fV (fComp (fSeqI (fVar 1)) (gS 3) (fun _ => some true) (fOp gNe (fVar 3) (fOp gIx (fVar 1) (fC (.int 0)))) [3])) fNil)))) (fRet (fC (.str "other kinds"))) fNext)
      (fSeq (fIfS (fAnd (fB (fOp gEq (fVar 2) (fC (.str "kept")))) (fNot (fB (fCall f_fits (fCons (fOp gIx (fVar 0) (fC (.int 2))) (fCons (fOp gIx (fVar 1) (fC (.int 0))) fNil)))))) (fRet (fC (.str "does not fit"))) fNext)
      (fSeq (fIfS (fAnd (fB (fOp gEq (fVar 2) (fC (.str "turned")))) (fB (fOp gIsN (fCall f_kind_behind (fCons (fOp gIx (fVar 0) (fC (.int 2))) (fCons (fOp gIx (fVar 1) (fC (.int 0))) fNil))) (fC .none)))) (fRet (fC (.str "does not fit"))) fNext)
      (fSeq (fIfS (fAnd (fB (fOp gEq (fVar 2) (fC (.str "repeat")))) (fB (fOp gNe (fOp gIx (fVar 1) (fC (.int 0))) (fC (.str "int"))))) (fRet (fC (.str "does not fit"))) fNext)
      (fRet (fC .none))))))))))))
def b__are_right_words (f_is_word : Fn) : FS :=
      (fSeq (fAsg (fOp gEq (fUn gLenW (fVar 0)) (fLenV 0)) (gS 1))
      (fRet (fAndV (fChain gLe gLe (fC (.int 1)) (fLenV 0) (fC (.int 10))) (fAndV (fVar 1) (fCall gAll (fCons (fV (fComp (fSeqI (fVar 0)) (gS 2) (fun _ => some true) (fCall f_is_word (fCons (fVar 2) fNil)) [2])) fNil))))))
def b__kind_made (f_kind_behind : Fn) : FS :=
      (fSeq (fAsg (fOp gIx (fVar 0) (fC (.int 0))) (gS 2))
      (fSeq (fIfS (fB (fOp gEq (fVar 2) (fC (.str "int")))) (fRet (fC (.str "int"))) fNext)
      (fSeq (fIfS (fB (fOp gEq (fVar 2) (fC (.str "pick")))) (fRet (fC (.str "word"))) fNext)
      (fSeq (fIfS (fB (fOp gEq (fVar 2) (fC (.str "tuple")))) (fRet (fTup (fCons (fC (.str "tuple")) (fCons (fCall gTuple (fCons (fVar 1) fNil)) fNil)))) fNext)
      (fSeq (fIfS (fB (fOp gEq (fVar 2) (fC (.str "list")))) (fRet (fTup (fCons (fC (.str "list")) (fCons (fOp gIx (fVar 1) (fC (.int 0))) fNil)))) fNext)
      (fSeq (fIfS (fB (fOp gEq (fVar 2) (fC (.str "turned")))) (fRet (fCall f_kind_behind (fCons (fOp gIx (fVar 0) (fC (.int 2))) (fCons (fOp gIx (fVar 1) (fC (.int 0))) fNil)))) fNext)
      (fSeq (fIfS (fB (fOp gEq (fVar 2) (fC (.str "repeat")))) (fRet (fTup (fCons (fC (.str "list")) (fCons (fOp gIx (fVar 1) (fC (.int 1))) fNil)))) fNext)
      (fRet (fOp gIx (fVar 1) (fC (.int 0)))))))))))
end Fb
namespace Fb
open PySem PySem.Spec PyProof.Rows L2 Evl CrT Cr Sm
def b_kinds_in_tuple : FS :=
      (fSeq (fIfS (fAnd (fB (fCall (gIsi "tuple") (fCons (fVar 0) fNil))) (fB (fOp gEq (fOp gIx (fVar 0) (fC (.int 0))) (fC (.str "tuple"))))) (fRet (fOp gIx (fVar 0) (fC (.int 1)))) fNext)
      (fRet (fTup fNil)))
def b_kind_in_list : FS :=
      (fSeq (fIfS (fAnd (fB (fCall (gIsi "tuple") (fCons (fVar 0) fNil))) (fB (fOp gEq (fOp gIx (fVar 0) (fC (.int 0))) (fC (.str "list"))))) (fRet (fOp gIx (fVar 0) (fC (.int 1)))) fNext)
      (fRet (fC .none)))
def b_kind_behind (f_kinds_in_tuple : Fn) (f_kind_in_list : Fn) : FS :=
      (fSeq (fAsg (fOp gIx (fVar 0) (fC (.int 0))) (gS 2))
      (fSeq (fIfS (fB (fOp gIn (fVar 2) (fTup (fCons (fC (.str "plus")) (fCons (fC (.str "times")) fNil))))) (fRet (fIf (fAnd (fB (fOp gEq (fVar 1) (fC (.str "int")))) (fB (fChain gLe gLe (fUn gNeg (fC (.int 1000))) (fOp gIx (fVar 0) (fC (.int 1))) (fC (.int 1000))))) (fC (.str "int")) (fC .none))) fNext)
      (fSeq (fIfS (fB (fOp gEq (fVar 2) (fC (.str "item")))) (fSeq (fAsg (fCall f_kinds_in_tuple (fCons (fVar 1) fNil)) (gS 3))
        (fRet (fIf (fB (fChain gLe gLt (fC (.int 0)) (fOp gIx (fVar 0) (fC (.int 1))) (fLenV 3))) (fOp gIx (fVar 3) (fOp gIx (fVar 0) (fC (.int 1)))) (fC .none)))) fNext)
      (fSeq (fAsg (fCall f_kind_in_list (fCons (fVar 1) fNil)) (gS 4))
      (fSeq (fIfS (fB (fOp gIsN (fVar 4) (fC .none))) (fRet (fC .none)) fNext)
      (fSeq (fIfS (fB (fOp gEq (fVar 2) (fC (.str "length")))) (fRet (fC (.str "int"))) fNext)
      (fSeq (fIfS (fB (fOp gEq (fVar 2) (fC (.str "sum")))) (fRet (fIf (fB (fOp gEq (fVar 4) (fC (.str "int")))) (fC (.str "int")) (fC .none))) fNext)
      (fSeq (fIfS (fB (fOp gEq (fVar 2) (fC (.str "sorted")))) (fRet (fIf (fB (fOp gIn (fVar 4) (fTup (fCons (fC (.str "int")) (fCons (fC (.str "word")) fNil))))) (fVar 1) (fC .none))) fNext)
      (fRet (fVar 1))))))))))
end Fb
namespace Fb
open PySem PySem.Spec PyProof.Rows L2 Evl CrT Cr Sm
end Fb
namespace Fb
open PySem PySem.Spec PyProof.Rows L2 Evl CrT Cr Sm
end Fb
namespace Fb
open PySem PySem.Spec PyProof.Rows L2 Evl Cr CrT Sm
end Fb
set_option maxRecDepth 10000000
namespace Sm
open PySem PySem.Spec PyProof.Rows L2 Evl CrT Cr
end Sm
namespace Fb
open PySem PySem.Spec PyProof.Rows L2 Evl CrT Cr Sm
end Fb
set_option maxRecDepth 10000000
namespace Cr
open PySem PySem.Spec PyProof.Rows L2 Evl CrT
def MB : Mp → Prop
  | .plus x => -4 ≤ x ∧ x ≤ 4
  | .times x => -2 ≤ x ∧ x ≤ 2
  | _ => True
inductive LG : Nat → Kd → Gn → Prop
  | one {n : Nat} {k : Kd} {gs : List Gn} : 0 < n → 0 < gs.length → gs.length ≤ 2 → (∀ g ∈ gs, LG (n - 1) k g) → LG n k (.one gs)
  | kept {n : Nat} {k : Kd} {g : Gn} {c : Cd} : 0 < n → LG (n - 1) k g → LG n k (.kept g c)
  | turned {n : Nat} {k : Kd} {g : Gn} {m : Mp} : 0 < n → MB m → LG (n - 1) k g → LG n k (.turned g m)
  | spc {n : Nat} {m : Mp} : 0 < n → (m = .length ∨ m = .sum) → LG n .int (.turned (.list (.int 0 1) 0 2) m)
  | int {n : Nat} {lo hi : Int} : lo ≤ hi → hi - lo ≤ 3 → -3 ≤ lo → hi ≤ 5 → LG n .int (.int lo hi)
  | pick {n : Nat} {ws : List Str} : 0 < ws.length → ws.length ≤ 3 → (∀ w ∈ ws, w = "zz" ∨ w = "ab" ∨ w = "c") → LG n .word (.pick ws)
  | tuple {n : Nat} {ks : List Kd} {gs : List Gn} (κ : Gn → Kd) : gs.length ≤ 2 → (∀ g ∈ gs, (κ g).isFlat = true) → (∀ g ∈ gs, LG 0 (κ g) g) → LG n (.tup ks) (.tuple gs)
  | rep {n : Nat} {k : Kd} {lo hi : Int} {g : Gn} : lo ≤ hi → hi - lo ≤ 3 → -3 ≤ lo → hi ≤ 5 → LG 0 k g → LG n (.lst k) (.repeat_ (.int lo hi) g)
  | list {n : Nat} {k : Kd} {g : Gn} {a b : Int} : b ≤ 3 → LG (n - 1) k g → LG n (.lst k) (.list g a b)
theorem LG.tup {n : Nat} {ks : List Kd} {gs : List Gn} (hl : gs.length ≤ 2) (h : ∀ g ∈ gs, ∃ k : Kd, k.isFlat = true ∧ LG 0 k g) : LG n (.tup ks) (.tuple gs) := by
  classical
  refine .tuple (fun g => if hg : g ∈ gs then (h g hg).choose else .int) hl (fun g hg => ?_) fun g hg => ?_
  · simp only [dif_pos hg]
    exact (h g hg).choose_spec.1
  · simp only [dif_pos hg]
    exact (h g hg).choose_spec.2
structure CL (M n : Nat) (k : Kd) (g : Gn) : Prop where
  cap : CapG M g
  lg : LG n k g
theorem CL.cnt {M n : Nat} {k : Kd} {g : Gn} (h : CL M n k g) : cntG g ≤ M := h.cap.cnt
end Cr
set_option maxRecDepth 10000000
namespace Sm
open PySem PySem.Spec PyProof.Rows L2 Evl CrT Cr
end Sm
namespace Fb
open PySem PySem.Spec PyProof.Rows L2 Evl CrT Cr Sm
end Fb
namespace Fb
open PySem PySem.Spec PyProof.Rows L2 Evl Cr CrT Sm
end Fb
namespace Fb
open PySem PySem.Spec PyProof.Rows L2 Evl CrT Cr Sm
end Fb
namespace ZM
open PySem PySem.Spec PyProof.Rows L2
structure Src (P : Program) (w : World) (p l : Addr) (ws : Array Value) (S : Nat → Heap → Prop) : Prop where
  up : ∀ {k : Nat} {g g' : Heap}, S k g → (∀ o, g.get? p = some o → g'.get? p = some o) → (∀ o, g.get? l = some o → g'.get? l = some o) → S k g'
  tk : ∀ {A : Around} {s : Shared} {k : Nat} {x : Value} {Q : Value → Shared → Prop} {E : Value → Shared → Prop}, S k s.heap → ws[k]? = some x → (∀ g, S (k + 1) g → Heap.SameBut p s.heap g → Q x { s with heap := g }) → wpAny (model P w) A (Builtin.SmallTypes.nextOf (.ref p)) Q E s
  nd : ∀ {A : Around} {s : Shared} {k : Nat} {Q : Value → Shared → Prop} {E : Value → Shared → Prop}, A.handled = none → S k s.heap → ws[k]? = none → (∀ g e, Heap.ExtBut p s.heap g → (∃ o, g.get? e = some o ∧ o.cls = .type "StopIteration") → E (.ref e) { s with heap := g }) → wpAny (model P w) A (Builtin.SmallTypes.nextOf (.ref p)) Q E s
section
variable {P : Program} {w : World} {A : Around} {E : Value → Shared → Prop} {s : Shared} {zz ti to' p q l m : Addr} {j k : Nat} {xs ys : Array Value} {S1 S2 : Nat → Heap → Prop} {a b : Value}
theorem Src.ext {p l c : Addr} {ws : Array Value} {S : Nat → Heap → Prop} (U : Src P w p l ws S) {k : Nat} {g g' : Heap} (h : S k g) (x : Heap.ExtBut c g g') (n1 : p ≠ c) (n2 : l ≠ c) : S k g' := U.up h (fun o e => x _ o n1 e) fun o e => x _ o n2 e
end
abbrev m1 (g : Heap) (l : Addr) : Heap := g.push { cls := .type "list_iterator", data := .fields #[.ref l, .int 0 0] }
abbrev m2 (g : Heap) (l m : Addr) : Heap := (m1 g l).push { cls := .type "tuple_iterator", data := .fields #[.ref m, .int 0 0] }
end ZM
namespace Sm
open PySem PySem.Spec PyProof.Rows L2 Evl
end Sm
namespace Fb
open PySem PySem.Spec PyProof.Rows L2 Evl CrT Cr Sm
end Fb
namespace Cr
open PySem PySem.Spec PyProof.Rows L2 Evl CrT
end Cr
namespace K55
open PySem PySem.Spec PyProof.Rows L2 Evl Cr CrT
def topS (i : Nat) : Stmt := PySem.Challenge.pw_choicerows_k55_machines_made.main.body.getD i (.Pass ⟨0, 0, 0, 0⟩)
structure Tx (mg : Str → Option Value) : Prop where
  z_len : mg "len" = none
  z_all : mg "all" = none
  z_any : mg "any" = none
  z_isinstance : mg "isinstance" = none
  z_tuple : mg "tuple" = none
  z_list : mg "list" = none
  z_int : mg "int" = none
  z_str : mg "str" = none
  z_bool : mg "bool" = none
  z_range : mg "range" = none
  z_zip : mg "zip" = none
  z_enumerate : mg "enumerate" = none
  z_sum : mg "sum" = none
  z_sorted : mg "sorted" = none
  z_min : mg "min" = none
  z_max : mg "max" = none
  z_set : mg "set" = none
  z_repr : mg "repr" = none
  m_GREAT : ∃ t, mg "GREAT" = some (.int 1000 t)
  m_WORDS : ∃ t, mg "WORDS" = some (.int 10 t)
  m_LETTERS : ∃ t, mg "LETTERS" = some (.int 8 t)
  m_ITEMS : ∃ t, mg "ITEMS" = some (.int 4 t)
  m_LONG : ∃ t, mg "LONG" = some (.int 6 t)
  m_DIVISOR : ∃ t, mg "DIVISOR" = some (.int 100 t)
  m_COMMANDS : ∃ t, mg "COMMANDS" = some (.int 4 t)
end K55
namespace K55
open PySem PySem.Spec PyProof.Rows L2 Evl Cr CrT Sm Fb
section
variable {P : Program} {w : World} {K : PySem.W.Frag} {mg : Str → Option Value} {base : Heap}
variable {A : Atm}
abbrev s_is_word : Stmt := topS 8
abbrev N_is_word : List Str := ["text", "letter"]
theorem sc_is_word : FnScope N_is_word ["text"] (defScope s_is_word) := ⟨rfl, rfl, rfl, by decide +kernel, rfl, by decide +kernel, by decide +kernel⟩
theorem ok_is_word {f : Addr} {fd : FuncData} {L : Nat} (T : Tx mg) (F : Fun K "is_word" "is_word" s_is_word f fd)  :
    FnOk P w K mg base CX0 (L + 1) f fd ["text"] (spF K A (runF 2 1 (b_is_word))) := by
  obtain ⟨_, m_LETTERS⟩ := T.m_LETTERS
  refine F.ok sc_is_word (fun vs H Q E h => body_len h) (fun cdv A' outer s H vs Q E hr h => ?_)
  refine ⟨_, (pss_one (ps_ret (pe_and (pe_chain op_leX op_leX pe_int (pe_callB (r := rLenX K) cr_lenX (by rfl) T.z_len PySem.boot_len (pa_cons (pv 0) pa_nil)) (pe_glob (v := .int 8) (by rfl) m_LETTERS ⟨_, rfl⟩)) (pe_one (pe_callB (r := rAll K) (cr_all rfl) (by rfl) T.z_all (by decide +kernel) (pa_cons (pe_lc (own := [("letter", 1)]) (g := gName 1) (by rfl) sc_is_word.nd (pi_seq (pv 0)) (blkOk_by (own := [("letter", 1)]) (N := N_is_word) (sc := defScope s_is_word) (by decide +kernel)) (fun _ _ _ _ _ => (pg_name (i := 1) sc_is_word.nd rfl (Or.inl rfl))) (fun _ _ _ _ _ => pts_nil) (fun _ _ _ _ _ => (pe_chain op_leX op_leX pe_str (pv 1) pe_str))) pa_nil)))))), ?_⟩
  exact body_ok (N := N_is_word) (f := b_is_word) (ss_ret (se_and (se_chain se_int (se_lenV 0) se_int rd_le rd_le) (se_cb (sa_cons (se_l (sl_lc (vs := [1]) (si_seq (se_var 0)) (sg_name 1) (by decide) st_yes (se_chain se_str (se_var 1) se_str rd_le rd_le))) sa_nil) rc_all))) h
abbrev s_kinds_in_tuple : Stmt := topS 9
abbrev N_kinds_in_tuple : List Str := ["kind"]
theorem sc_kinds_in_tuple : FnScope N_kinds_in_tuple ["kind"] (defScope s_kinds_in_tuple) := ⟨rfl, rfl, rfl, by decide +kernel, rfl, by decide +kernel, by decide +kernel⟩
theorem ok_kinds_in_tuple {f : Addr} {fd : FuncData} {L : Nat} (T : Tx mg) (F : Fun K "kinds_in_tuple" "kinds_in_tuple" s_kinds_in_tuple f fd)  :
    FnOk P w K mg base CX0 (L + 1) f fd ["kind"] (spF K A (runF 1 1 (b_kinds_in_tuple))) := by
  refine F.ok sc_kinds_in_tuple (fun vs H Q E h => body_len h) (fun cdv A' outer s H vs Q E hr h => ?_)
  refine ⟨_, (pss_cons (ps_if (PW.pt (pw_and (pt_val (pe_callB (r := rIsi K) call_isi (by rfl) T.z_isinstance (by decide +kernel) (pa_cons (pv 0) (pa_cons (pe_bltn (v := .ty "tuple") (u := .type "tuple") (by rfl) T.z_tuple (by decide +kernel) rfl) pa_nil)))) (pw_and1 (pt_cmpR (r := rEqX K) (op_eqX hr.units) (pe_ix (r := rIx K) ix_seq (pv 0) pe_int (fun _ _ => rfl)) pe_str (nomark _))))) (pss_one (ps_ret (pe_ix (r := rIx K) ix_seq (pv 0) pe_int (fun _ _ => rfl)))) pss_nil)
      (pss_one (ps_ret (pe_tup pa_nil)))), ?_⟩
  exact body_ok (N := N_kinds_in_tuple) (f := b_kinds_in_tuple) (ss_seq (ss_if (st_and (st_B (se_isi (se_var 0))) (st_test (se_op (se_op (se_var 0) se_int rd_ix) se_str rd_eq))) (ss_ret (se_op (se_var 0) se_int rd_ix)) ss_next)
      (ss_ret (se_tup sa_nil))) h
abbrev s_kind_in_list : Stmt := topS 10
abbrev N_kind_in_list : List Str := ["kind"]
theorem sc_kind_in_list : FnScope N_kind_in_list ["kind"] (defScope s_kind_in_list) := ⟨rfl, rfl, rfl, by decide +kernel, rfl, by decide +kernel, by decide +kernel⟩
theorem ok_kind_in_list {f : Addr} {fd : FuncData} {L : Nat} (T : Tx mg) (F : Fun K "kind_in_list" "kind_in_list" s_kind_in_list f fd)  :
    FnOk P w K mg base CX0 (L + 1) f fd ["kind"] (spF K A (runF 1 1 (b_kind_in_list))) := by
  refine F.ok sc_kind_in_list (fun vs H Q E h => body_len h) (fun cdv A' outer s H vs Q E hr h => ?_)
  refine ⟨_, (pss_cons (ps_if (PW.pt (pw_and (pt_val (pe_callB (r := rIsi K) call_isi (by rfl) T.z_isinstance (by decide +kernel) (pa_cons (pv 0) (pa_cons (pe_bltn (v := .ty "tuple") (u := .type "tuple") (by rfl) T.z_tuple (by decide +kernel) rfl) pa_nil)))) (pw_and1 (pt_cmpR (r := rEqX K) (op_eqX hr.units) (pe_ix (r := rIx K) ix_seq (pv 0) pe_int (fun _ _ => rfl)) pe_str (nomark _))))) (pss_one (ps_ret (pe_ix (r := rIx K) ix_seq (pv 0) pe_int (fun _ _ => rfl)))) pss_nil)
      (pss_one (ps_ret pe_non))), ?_⟩
  exact body_ok (N := N_kind_in_list) (f := b_kind_in_list) (ss_seq (ss_if (st_and (st_B (se_isi (se_var 0))) (st_test (se_op (se_op (se_var 0) se_int rd_ix) se_str rd_eq))) (ss_ret (se_op (se_var 0) se_int rd_ix)) ss_next)
      (ss_ret se_non)) h
abbrev s_parts_in : Stmt := topS 19
abbrev N_parts_in : List Str := ["generator", "name"]
theorem sc_parts_in : FnScope N_parts_in ["generator"] (defScope s_parts_in) := ⟨rfl, rfl, rfl, by decide +kernel, rfl, by decide +kernel, by decide +kernel⟩
theorem ok_parts_in {f : Addr} {fd : FuncData} {L : Nat} (T : Tx mg) (F : Fun K "parts_in" "parts_in" s_parts_in f fd)  :
    FnOk P w K mg base CX0 (L + 1) f fd ["generator"] (spF K A (runF 2 1 (b_parts_in))) := by
  refine F.ok sc_parts_in (fun vs H Q E h => body_len h) (fun cdv A' outer s H vs Q E hr h => ?_)
  refine ⟨_, (pss_cons (ps_set (i := 1) sc_parts_in.nd rfl (Or.inl rfl) (pe_ix (r := rIx K) ix_seq (pv 0) pe_int (fun _ _ => rfl)))
      (pss_cons (ps_if (pt_cmpR (r := rInX K) (op_inX (Cr.Room.u65 hr)) (pv 1) (pe_tup (pa_cons pe_str (pa_cons pe_str pa_nil))) (by rfl)) (pss_one (ps_ret (pe_ix (r := rIx K) ix_seq (pv 0) pe_int (fun _ _ => rfl)))) pss_nil)
      (pss_cons (ps_if (pt_cmpR (r := rInX K) (op_inX (Cr.Room.u65 hr)) (pv 1) (pe_tup (pa_cons pe_str (pa_cons pe_str (pa_cons pe_str pa_nil)))) (by rfl)) (pss_one (ps_ret (pe_tup (pa_cons (pe_ix (r := rIx K) ix_seq (pv 0) pe_int (fun _ _ => rfl)) pa_nil)))) pss_nil)
      (pss_cons (ps_if (pt_cmpR (r := rEqX K) (op_eqX hr.units) (pv 1) pe_str (nomark _)) (pss_one (ps_ret (pe_tup (pa_cons (pe_ix (r := rIx K) ix_seq (pv 0) pe_int (fun _ _ => rfl)) (pa_cons (pe_ix (r := rIx K) ix_seq (pv 0) pe_int (fun _ _ => rfl)) pa_nil))))) pss_nil)
      (pss_one (ps_ret (pe_tup pa_nil))))))), ?_⟩
  exact body_ok (N := N_parts_in) (f := b_parts_in) (ss_seq (ss_asg (se_op (se_var 0) se_int rd_ix) (sg_name 1))
      (ss_seq (ss_if (st_test (se_op (se_var 1) (se_tup (sa_cons se_str (sa_cons se_str sa_nil))) rd_in)) (ss_ret (se_op (se_var 0) se_int rd_ix)) ss_next)
      (ss_seq (ss_if (st_test (se_op (se_var 1) (se_tup (sa_cons se_str (sa_cons se_str (sa_cons se_str sa_nil)))) rd_in)) (ss_ret (se_tup (sa_cons (se_op (se_var 0) se_int rd_ix) sa_nil))) ss_next)
      (ss_seq (ss_if (st_test (se_op (se_var 1) se_str rd_eq)) (ss_ret (se_tup (sa_cons (se_op (se_var 0) se_int rd_ix) (sa_cons (se_op (se_var 0) se_int rd_ix) sa_nil)))) ss_next)
      (ss_ret (se_tup sa_nil)))))) h
abbrev s_kind_of : Stmt := topS 20
abbrev N_kind_of : List Str := ["generator"]
theorem sc_kind_of : FnScope N_kind_of ["generator"] (defScope s_kind_of) := ⟨rfl, rfl, rfl, by decide +kernel, rfl, by decide +kernel, by decide +kernel⟩
abbrev s__kind_at : Stmt := topS 21
abbrev N__kind_at : List Str := ["generator", "path", "kinds", "what", "at", "part"]
theorem sc__kind_at : FnScope N__kind_at ["generator", "path"] (defScope s__kind_at) := ⟨rfl, rfl, rfl, by decide +kernel, rfl, by decide +kernel, by decide +kernel⟩
abbrev s__fault_itself : Stmt := topS 22
abbrev N__fault_itself : List Str := ["generator", "kinds", "name", "kind"]
theorem sc__fault_itself : FnScope N__fault_itself ["generator", "kinds"] (defScope s__fault_itself) := ⟨rfl, rfl, rfl, by decide +kernel, rfl, by decide +kernel, by decide +kernel⟩
theorem ok__fault_itself {f : Addr} {fd : FuncData} {L : Nat} {f__are_right_words : Fn} {f_fits : Fn} {f_kind_behind : Fn} (T : Tx mg) (F : Fun K "_fault_itself" "_fault_itself" s__fault_itself f fd) (c__are_right_words : Cl P w K mg base "_are_right_words" ["words"] L (spF K A f__are_right_words)) (c_fits : Cl P w K mg base "fits" ["condition", "kind"] L (spF K A f_fits)) (c_kind_behind : Cl P w K mg base "kind_behind" ["some_map", "kind"] L (spF K A f_kind_behind)) :
    FnOk P w K mg base CX0 (L + 1) f fd ["generator", "kinds"] (spF K A (runF 4 2 (b__fault_itself f__are_right_words f_fits f_kind_behind))) := by
  obtain ⟨_, m_GREAT⟩ := T.m_GREAT
  obtain ⟨_, m_ITEMS⟩ := T.m_ITEMS
  obtain ⟨_, m_LONG⟩ := T.m_LONG
  refine F.ok sc__fault_itself (fun vs H Q E h => body_len h) (fun cdv A' outer s H vs Q E hr h => ?_)
  refine ⟨_, (pss_cons (ps_set (i := 2) sc__fault_itself.nd rfl (Or.inl rfl) (pe_ix (r := rIx K) ix_seq (pv 0) pe_int (fun _ _ => rfl)))
      (pss_cons (ps_if (PW.pt (pw_and (pt_cmpR (r := rEqX K) (op_eqX hr.units) (pv 2) pe_str (nomark _)) (pw_and1 (pt_not (pt_chain3 op_leX op_leX op_leX (pe_un un_neg (pe_glob (v := .int 1000) (by rfl) m_GREAT ⟨_, rfl⟩)) (pe_ix (r := rIx K) ix_seq (pv 0) pe_int (fun _ _ => rfl)) (pe_ix (r := rIx K) ix_seq (pv 0) pe_int (fun _ _ => rfl)) (pe_glob (v := .int 1000) (by rfl) m_GREAT ⟨_, rfl⟩)))))) (pss_one (ps_ret pe_str)) pss_nil)
      (pss_cons (ps_if (PW.pt (pw_and (pt_cmpR (r := rEqX K) (op_eqX hr.units) (pv 2) pe_str (nomark _)) (pw_and1 (pt_not (pt_chain3 op_leX op_leX op_leX pe_int (pe_ix (r := rIx K) ix_seq (pv 0) pe_int (fun _ _ => rfl)) (pe_ix (r := rIx K) ix_seq (pv 0) pe_int (fun _ _ => rfl)) (pe_glob (v := .int 6) (by rfl) m_LONG ⟨_, rfl⟩)))))) (pss_one (ps_ret pe_str)) pss_nil)
      (pss_cons (ps_if (PW.pt (pw_and (pt_cmpR (r := rEqX K) (op_eqX hr.units) (pv 2) pe_str (nomark _)) (pw_and1 (pt_not (pt_val (pe_call c__are_right_words.ok hr (by rfl) c__are_right_words.m c__are_right_words.kp c__are_right_words.b .nil pass0 (pa_cons (pe_ix (r := rIx K) ix_seq (pv 0) pe_int (fun _ _ => rfl)) pa_nil))))))) (pss_one (ps_ret pe_str)) pss_nil)
      (pss_cons (ps_if (PW.pt (pw_and (pt_cmpR (r := rEqX K) (op_eqX hr.units) (pv 2) pe_str (nomark _)) (pw_and1 (pt_cmpR op_gt (pe_callB (r := rLenX K) cr_lenX (by rfl) T.z_len PySem.boot_len (pa_cons (pv 1) pa_nil)) (pe_glob (v := .int 4) (by rfl) m_ITEMS ⟨_, rfl⟩) (nomark _))))) (pss_one (ps_ret pe_str)) pss_nil)
      (pss_cons (ps_if (PW.pt (pw_and (pt_cmpR (r := rEqX K) (op_eqX hr.units) (pv 2) pe_str (nomark _)) (pw_and1 (pt_not (pt_chain op_leX op_leX pe_int (pe_callB (r := rLenX K) cr_lenX (by rfl) T.z_len PySem.boot_len (pa_cons (pv 1) pa_nil)) (pe_glob (v := .int 4) (by rfl) m_ITEMS ⟨_, rfl⟩)))))) (pss_one (ps_ret pe_str)) pss_nil)
      (pss_cons (ps_if (PW.pt (pw_and (pt_cmpR (r := rEqX K) (op_eqX hr.units) (pv 2) pe_str (nomark _)) (pw_and1 (pt_val (pe_callB (r := rAny K) (cr_any rfl) (by rfl) T.z_any (by decide +kernel) (pa_cons (pe_lc (own := [("kind", 3)]) (g := gName 3) (by rfl) sc__fault_itself.nd (pi_seq (pv 1)) (blkOk_by (own := [("kind", 3)]) (N := N__fault_itself) (sc := defScope s__fault_itself) (by decide +kernel)) (fun _ _ _ _ _ => (pg_name (i := 3) sc__fault_itself.nd rfl (Or.inl rfl))) (fun _ _ _ _ _ => pts_nil) (fun _ _ _ _ _ => (pe_cmpR (r := rNeX K) (op_neX hr.units) (pv 3) (pe_ix (r := rIx K) ix_seq (pv 1) pe_int (fun _ _ => rfl)) (nomark _)))) pa_nil)))))) (pss_one (ps_ret pe_str)) pss_nil)
      (pss_cons (ps_if (PW.pt (pw_and (pt_cmpR (r := rEqX K) (op_eqX hr.units) (pv 2) pe_str (nomark _)) (pw_and1 (pt_not (pt_val (pe_call c_fits.ok hr (by rfl) c_fits.m c_fits.kp c_fits.b .nil pass0 (pa_cons (pe_ix (r := rIx K) ix_seq (pv 0) pe_int (fun _ _ => rfl)) (pa_cons (pe_ix (r := rIx K) ix_seq (pv 1) pe_int (fun _ _ => rfl)) pa_nil)))))))) (pss_one (ps_ret pe_str)) pss_nil)
      (pss_cons (ps_if (PW.pt (pw_and (pt_cmpR (r := rEqX K) (op_eqX hr.units) (pv 2) pe_str (nomark _)) (pw_and1 (pt_cmpR op_isN (pe_call c_kind_behind.ok hr (by rfl) c_kind_behind.m c_kind_behind.kp c_kind_behind.b .nil pass0 (pa_cons (pe_ix (r := rIx K) ix_seq (pv 0) pe_int (fun _ _ => rfl)) (pa_cons (pe_ix (r := rIx K) ix_seq (pv 1) pe_int (fun _ _ => rfl)) pa_nil))) pe_non (nomark _))))) (pss_one (ps_ret pe_str)) pss_nil)
      (pss_cons (ps_if (PW.pt (pw_and (pt_cmpR (r := rEqX K) (op_eqX hr.units) (pv 2) pe_str (nomark _)) (pw_and1 (pt_cmpR (r := rNeX K) (op_neX hr.units) (pe_ix (r := rIx K) ix_seq (pv 1) pe_int (fun _ _ => rfl)) pe_str (nomark _))))) (pss_one (ps_ret pe_str)) pss_nil)
      (pss_one (ps_ret pe_non)))))))))))), ?_⟩
  exact body_ok (N := N__fault_itself) (f := b__fault_itself f__are_right_words f_fits f_kind_behind) (ss_seq (ss_asg (se_op (se_var 0) se_int rd_ix) (sg_name 2))
      (ss_seq (ss_if (st_and (st_test (se_op (se_var 2) se_str rd_eq)) (st_not (st_chain3 (se_un se_int ru_neg1) (se_op (se_var 0) se_int rd_ix) (se_op (se_var 0) se_int rd_ix) se_int rd_le rd_le rd_le))) (ss_ret se_str) ss_next)
      (ss_seq (ss_if (st_and (st_test (se_op (se_var 2) se_str rd_eq)) (st_not (st_chain3 se_int (se_op (se_var 0) se_int rd_ix) (se_op (se_var 0) se_int rd_ix) se_int rd_le rd_le rd_le))) (ss_ret se_str) ss_next)
      (ss_seq (ss_if (st_and (st_test (se_op (se_var 2) se_str rd_eq)) (st_not (st_B (se_call (sa_cons (se_op (se_var 0) se_int rd_ix) sa_nil))))) (ss_ret se_str) ss_next)
      (ss_seq (ss_if (st_and (st_test (se_op (se_var 2) se_str rd_eq)) (st_test (se_op (se_lenV 1) se_int rd_gt))) (ss_ret se_str) ss_next)
      (ss_seq (ss_if (st_and (st_test (se_op (se_var 2) se_str rd_eq)) (st_not (st_test (se_chain se_int (se_lenV 1) se_int rd_le rd_le)))) (ss_ret se_str) ss_next)
      (ss_seq (ss_if (st_and (st_test (se_op (se_var 2) se_str rd_eq)) (st_B (se_cb (sa_cons (se_l (sl_lc (vs := [3]) (si_seq (se_var 1)) (sg_name 3) (by decide) st_yes (se_op (se_var 3) (se_op (se_var 1) se_int rd_ix) rd_ne))) sa_nil) rc_any))) (ss_ret se_str) ss_next)
      (ss_seq (ss_if (st_and (st_test (se_op (se_var 2) se_str rd_eq)) (st_not (st_B (se_call (sa_cons (se_op (se_var 0) se_int rd_ix) (sa_cons (se_op (se_var 1) se_int rd_ix) sa_nil)))))) (ss_ret se_str) ss_next)
      (ss_seq (ss_if (st_and (st_test (se_op (se_var 2) se_str rd_eq)) (st_test (se_op (se_call (sa_cons (se_op (se_var 0) se_int rd_ix) (sa_cons (se_op (se_var 1) se_int rd_ix) sa_nil))) se_non rd_isN))) (ss_ret se_str) ss_next)
      (ss_seq (ss_if (st_and (st_test (se_op (se_var 2) se_str rd_eq)) (st_test (se_op (se_op (se_var 1) se_int rd_ix) se_str rd_ne))) (ss_ret se_str) ss_next)
      (ss_ret se_non))))))))))) h
abbrev s__are_right_words : Stmt := topS 23
abbrev N__are_right_words : List Str := ["words", "are_different", "word"]
theorem sc__are_right_words : FnScope N__are_right_words ["words"] (defScope s__are_right_words) := ⟨rfl, rfl, rfl, by decide +kernel, rfl, by decide +kernel, by decide +kernel⟩
theorem ok__are_right_words {f : Addr} {fd : FuncData} {L : Nat} {f_is_word : Fn} (T : Tx mg) (F : Fun K "_are_right_words" "_are_right_words" s__are_right_words f fd) (c_is_word : Cl P w K mg base "is_word" ["text"] L (spF K A f_is_word)) :
    FnOk P w K mg base CX0 (L + 1) f fd ["words"] (spF K A (runF 3 1 (b__are_right_words f_is_word))) := by
  obtain ⟨_, m_WORDS⟩ := T.m_WORDS
  refine F.ok sc__are_right_words (fun vs H Q E h => body_len h) (fun cdv A' outer s H vs Q E hr h => ?_)
  refine ⟨_, (pss_cons (ps_set (i := 1) sc__are_right_words.nd rfl (Or.inl rfl) (pe_cmpR (r := rEqX K) (op_eqX hr.units) (CrU.pe_lenW rfl (by rfl) T.z_len (by rfl) T.z_set (pv 0)) (pe_callB (r := rLenX K) cr_lenX (by rfl) T.z_len PySem.boot_len (pa_cons (pv 0) pa_nil)) (nomark _)))
      (pss_one (ps_ret (pe_and (pe_chain op_leX op_leX pe_int (pe_callB (r := rLenX K) cr_lenX (by rfl) T.z_len PySem.boot_len (pa_cons (pv 0) pa_nil)) (pe_glob (v := .int 10) (by rfl) m_WORDS ⟨_, rfl⟩)) (pe_and (pv 1) (pe_one (pe_callB (r := rAll K) (cr_all rfl) (by rfl) T.z_all (by decide +kernel) (pa_cons (pe_lc (own := [("word", 2)]) (g := gName 2) (by rfl) sc__are_right_words.nd (pi_seq (pv 0)) (blkOk_by (own := [("word", 2)]) (N := N__are_right_words) (sc := defScope s__are_right_words) (by decide +kernel)) (fun _ _ _ _ _ => (pg_name (i := 2) sc__are_right_words.nd rfl (Or.inl rfl))) (fun _ _ _ _ _ => pts_nil) (fun _ _ _ _ _ => (pe_call c_is_word.ok hr (by rfl) c_is_word.m c_is_word.kp c_is_word.b .nil pass0 (pa_cons (pv 2) pa_nil)))) pa_nil)))))))), ?_⟩
  exact body_ok (N := N__are_right_words) (f := b__are_right_words f_is_word) (ss_seq (ss_asg (se_op (se_lenW (se_var 0)) (se_lenV 0) rd_eq) (sg_name 1))
      (ss_ret (se_and (se_chain se_int (se_lenV 0) se_int rd_le rd_le) (se_and (se_var 1) (se_cb (sa_cons (se_l (sl_lc (vs := [2]) (si_seq (se_var 0)) (sg_name 2) (by decide) st_yes (se_call (sa_cons (se_var 2) sa_nil)))) sa_nil) rc_all))))) h
abbrev s__kind_made : Stmt := topS 24
abbrev N__kind_made : List Str := ["generator", "kinds", "name"]
theorem sc__kind_made : FnScope N__kind_made ["generator", "kinds"] (defScope s__kind_made) := ⟨rfl, rfl, rfl, by decide +kernel, rfl, by decide +kernel, by decide +kernel⟩
theorem ok__kind_made {f : Addr} {fd : FuncData} {L : Nat} {f_kind_behind : Fn} (T : Tx mg) (F : Fun K "_kind_made" "_kind_made" s__kind_made f fd) (c_kind_behind : Cl P w K mg base "kind_behind" ["some_map", "kind"] L (spF K A f_kind_behind)) :
    FnOk P w K mg base CX0 (L + 1) f fd ["generator", "kinds"] (spF K A (runF 3 2 (b__kind_made f_kind_behind))) := by
  refine F.ok sc__kind_made (fun vs H Q E h => body_len h) (fun cdv A' outer s H vs Q E hr h => ?_)
  refine ⟨_, (pss_cons (ps_set (i := 2) sc__kind_made.nd rfl (Or.inl rfl) (pe_ix (r := rIx K) ix_seq (pv 0) pe_int (fun _ _ => rfl)))
      (pss_cons (ps_if (pt_cmpR (r := rEqX K) (op_eqX hr.units) (pv 2) pe_str (nomark _)) (pss_one (ps_ret pe_str)) pss_nil)
      (pss_cons (ps_if (pt_cmpR (r := rEqX K) (op_eqX hr.units) (pv 2) pe_str (nomark _)) (pss_one (ps_ret pe_str)) pss_nil)
      (pss_cons (ps_if (pt_cmpR (r := rEqX K) (op_eqX hr.units) (pv 2) pe_str (nomark _)) (pss_one (ps_ret (pe_tup (pa_cons pe_str (pa_cons (pe_callTy (r := rTupO K) cr_tupO (by rfl) T.z_tuple (by decide +kernel) (pa_cons (pv 1) pa_nil)) pa_nil))))) pss_nil)
      (pss_cons (ps_if (pt_cmpR (r := rEqX K) (op_eqX hr.units) (pv 2) pe_str (nomark _)) (pss_one (ps_ret (pe_tup (pa_cons pe_str (pa_cons (pe_ix (r := rIx K) ix_seq (pv 1) pe_int (fun _ _ => rfl)) pa_nil))))) pss_nil)
      (pss_cons (ps_if (pt_cmpR (r := rEqX K) (op_eqX hr.units) (pv 2) pe_str (nomark _)) (pss_one (ps_ret (pe_call c_kind_behind.ok hr (by rfl) c_kind_behind.m c_kind_behind.kp c_kind_behind.b .nil pass0 (pa_cons (pe_ix (r := rIx K) ix_seq (pv 0) pe_int (fun _ _ => rfl)) (pa_cons (pe_ix (r := rIx K) ix_seq (pv 1) pe_int (fun _ _ => rfl)) pa_nil))))) pss_nil)
      (pss_cons (ps_if (pt_cmpR (r := rEqX K) (op_eqX hr.units) (pv 2) pe_str (nomark _)) (pss_one (ps_ret (pe_tup (pa_cons pe_str (pa_cons (pe_ix (r := rIx K) ix_seq (pv 1) pe_int (fun _ _ => rfl)) pa_nil))))) pss_nil)
      (pss_one (ps_ret (pe_ix (r := rIx K) ix_seq (pv 1) pe_int (fun _ _ => rfl))))))))))), ?_⟩
  exact body_ok (N := N__kind_made) (f := b__kind_made f_kind_behind) (ss_seq (ss_asg (se_op (se_var 0) se_int rd_ix) (sg_name 2))
      (ss_seq (ss_if (st_test (se_op (se_var 2) se_str rd_eq)) (ss_ret se_str) ss_next)
      (ss_seq (ss_if (st_test (se_op (se_var 2) se_str rd_eq)) (ss_ret se_str) ss_next)
      (ss_seq (ss_if (st_test (se_op (se_var 2) se_str rd_eq)) (ss_ret (se_tup (sa_cons se_str (sa_cons (se_cb (sa_cons (se_var 1) sa_nil) rc_tuple) sa_nil)))) ss_next)
      (ss_seq (ss_if (st_test (se_op (se_var 2) se_str rd_eq)) (ss_ret (se_tup (sa_cons se_str (sa_cons (se_op (se_var 1) se_int rd_ix) sa_nil)))) ss_next)
      (ss_seq (ss_if (st_test (se_op (se_var 2) se_str rd_eq)) (ss_ret (se_call (sa_cons (se_op (se_var 0) se_int rd_ix) (sa_cons (se_op (se_var 1) se_int rd_ix) sa_nil)))) ss_next)
      (ss_seq (ss_if (st_test (se_op (se_var 2) se_str rd_eq)) (ss_ret (se_tup (sa_cons se_str (sa_cons (se_op (se_var 1) se_int rd_ix) sa_nil)))) ss_next)
      (ss_ret (se_op (se_var 1) se_int rd_ix))))))))) h
abbrev s_kind_behind : Stmt := topS 25
abbrev N_kind_behind : List Str := ["some_map", "kind", "name", "kinds", "listed"]
theorem sc_kind_behind : FnScope N_kind_behind ["some_map", "kind"] (defScope s_kind_behind) := ⟨rfl, rfl, rfl, by decide +kernel, rfl, by decide +kernel, by decide +kernel⟩
theorem ok_kind_behind {f : Addr} {fd : FuncData} {L : Nat} {f_kinds_in_tuple : Fn} {f_kind_in_list : Fn} (T : Tx mg) (F : Fun K "kind_behind" "kind_behind" s_kind_behind f fd) (c_kinds_in_tuple : Cl P w K mg base "kinds_in_tuple" ["kind"] L (spF K A f_kinds_in_tuple)) (c_kind_in_list : Cl P w K mg base "kind_in_list" ["kind"] L (spF K A f_kind_in_list)) :
    FnOk P w K mg base CX0 (L + 1) f fd ["some_map", "kind"] (spF K A (runF 5 2 (b_kind_behind f_kinds_in_tuple f_kind_in_list))) := by
  obtain ⟨_, m_GREAT⟩ := T.m_GREAT
  refine F.ok sc_kind_behind (fun vs H Q E h => body_len h) (fun cdv A' outer s H vs Q E hr h => ?_)
  refine ⟨_, (pss_cons (ps_set (i := 2) sc_kind_behind.nd rfl (Or.inl rfl) (pe_ix (r := rIx K) ix_seq (pv 0) pe_int (fun _ _ => rfl)))
      (pss_cons (ps_if (pt_cmpR (r := rInX K) (op_inX (Cr.Room.u65 hr)) (pv 2) (pe_tup (pa_cons pe_str (pa_cons pe_str pa_nil))) (by rfl)) (pss_one (ps_ret (pe_ifExp (PW.pt (pw_and (pt_cmpR (r := rEqX K) (op_eqX hr.units) (pv 1) pe_str (nomark _)) (pw_and1 (pt_chain op_leX op_leX (pe_un un_neg (pe_glob (v := .int 1000) (by rfl) m_GREAT ⟨_, rfl⟩)) (pe_ix (r := rIx K) ix_seq (pv 0) pe_int (fun _ _ => rfl)) (pe_glob (v := .int 1000) (by rfl) m_GREAT ⟨_, rfl⟩))))) pe_str pe_non))) pss_nil)
      (pss_cons (ps_if (pt_cmpR (r := rEqX K) (op_eqX hr.units) (pv 2) pe_str (nomark _)) (pss_cons (ps_set (i := 3) sc_kind_behind.nd rfl (Or.inl rfl) (pe_call c_kinds_in_tuple.ok hr (by rfl) c_kinds_in_tuple.m c_kinds_in_tuple.kp c_kinds_in_tuple.b .nil pass0 (pa_cons (pv 1) pa_nil)))
        (pss_one (ps_ret (pe_ifExp (pt_chain op_leX op_lt pe_int (pe_ix (r := rIx K) ix_seq (pv 0) pe_int (fun _ _ => rfl)) (pe_callB (r := rLenX K) cr_lenX (by rfl) T.z_len PySem.boot_len (pa_cons (pv 3) pa_nil))) (pe_ix (r := rIx K) ix_seq (pv 3) (pe_ix (r := rIx K) ix_seq (pv 0) pe_int (fun _ _ => rfl)) (fun _ _ => rfl)) pe_non)))) pss_nil)
      (pss_cons (ps_set (i := 4) sc_kind_behind.nd rfl (Or.inl rfl) (pe_call c_kind_in_list.ok hr (by rfl) c_kind_in_list.m c_kind_in_list.kp c_kind_in_list.b .nil pass0 (pa_cons (pv 1) pa_nil)))
      (pss_cons (ps_if (pt_cmpR op_isN (pv 4) pe_non (nomark _)) (pss_one (ps_ret pe_non)) pss_nil)
      (pss_cons (ps_if (pt_cmpR (r := rEqX K) (op_eqX hr.units) (pv 2) pe_str (nomark _)) (pss_one (ps_ret pe_str)) pss_nil)
      (pss_cons (ps_if (pt_cmpR (r := rEqX K) (op_eqX hr.units) (pv 2) pe_str (nomark _)) (pss_one (ps_ret (pe_ifExp (pt_cmpR (r := rEqX K) (op_eqX hr.units) (pv 4) pe_str (nomark _)) pe_str pe_non))) pss_nil)
      (pss_cons (ps_if (pt_cmpR (r := rEqX K) (op_eqX hr.units) (pv 2) pe_str (nomark _)) (pss_one (ps_ret (pe_ifExp (pt_cmpR (r := rInX K) (op_inX (Cr.Room.u65 hr)) (pv 4) (pe_tup (pa_cons pe_str (pa_cons pe_str pa_nil))) (by rfl)) (pv 1) pe_non))) pss_nil)
      (pss_one (ps_ret (pv 1))))))))))), ?_⟩
  exact body_ok (N := N_kind_behind) (f := b_kind_behind f_kinds_in_tuple f_kind_in_list) (ss_seq (ss_asg (se_op (se_var 0) se_int rd_ix) (sg_name 2))
      (ss_seq (ss_if (st_test (se_op (se_var 2) (se_tup (sa_cons se_str (sa_cons se_str sa_nil))) rd_in)) (ss_ret (se_if (st_and (st_test (se_op (se_var 1) se_str rd_eq)) (st_test (se_chain (se_un se_int ru_neg1) (se_op (se_var 0) se_int rd_ix) se_int rd_le rd_le))) se_str se_non)) ss_next)
      (ss_seq (ss_if (st_test (se_op (se_var 2) se_str rd_eq)) (ss_seq (ss_asg (se_call (sa_cons (se_var 1) sa_nil)) (sg_name 3))
        (ss_ret (se_if (st_test (se_chain se_int (se_op (se_var 0) se_int rd_ix) (se_lenV 3) rd_le rd_lt)) (se_op (se_var 3) (se_op (se_var 0) se_int rd_ix) rd_ix) se_non))) ss_next)
      (ss_seq (ss_asg (se_call (sa_cons (se_var 1) sa_nil)) (sg_name 4))
      (ss_seq (ss_if (st_test (se_op (se_var 4) se_non rd_isN)) (ss_ret se_non) ss_next)
      (ss_seq (ss_if (st_test (se_op (se_var 2) se_str rd_eq)) (ss_ret se_str) ss_next)
      (ss_seq (ss_if (st_test (se_op (se_var 2) se_str rd_eq)) (ss_ret (se_if (st_test (se_op (se_var 4) se_str rd_eq)) se_str se_non)) ss_next)
      (ss_seq (ss_if (st_test (se_op (se_var 2) se_str rd_eq)) (ss_ret (se_if (st_test (se_op (se_var 4) (se_tup (sa_cons se_str (sa_cons se_str sa_nil))) rd_in)) (se_var 1) se_non)) ss_next)
      (ss_ret (se_var 1)))))))))) h
end
end K55
set_option maxRecDepth 10000000
namespace Sm
open PySem PySem.Spec PyProof.Rows L2 Evl CrT Cr
end Sm
set_option maxRecDepth 10000000
namespace Sm
open PySem PySem.Spec PyProof.Rows L2 Evl CrT Cr
end Sm
namespace Sm
open PySem PySem.Spec PyProof.Rows L2 Evl CrT Cr
end Sm
set_option maxRecDepth 10000000
namespace Sm
open PySem PySem.Spec PyProof.Rows L2 Evl CrT Cr
end Sm
set_option maxRecDepth 10000000
namespace Sm
open PySem PySem.Spec PyProof.Rows L2 Evl CrT Cr
open Sem (wp)
end Sm
set_option maxRecDepth 10000000
namespace Sm
open PySem PySem.Spec PyProof.Rows L2 Evl CrT Cr
end Sm
set_option maxRecDepth 10000000
namespace Sm
open PySem PySem.Spec PyProof.Rows L2 Evl CrT Cr
section
variable {X : Cx}
def tFmtI (K : PySem.W.Frag) (te : TE) : TE := fun σ H Q => te σ H fun x H1 => ∃ (a : Addr) (ns : List Int), x = .ref a ∧ SqT K H1 a (ns.map V.int) ∧ (∀ i ∈ ns, i.natAbs < 1000) ∧ ns.length ≤ 1000 ∧ ∀ m : Str, m.length ≤ 100000 → Q (.str m) H1
theorem ints_repr {prog : Program} {w : World} : ∀ {ns : List Int} {its : List Value}, Vals (ns.map V.int) its → (∀ i ∈ ns, i.natAbs < 1000) → ReprAll prog w its (ns.map fun i => (toString i : Str))
  | [], _, r, _ => by
    cases r
    exact .nil
  | i :: ns, _, r, h => by
    cases r with
    | cons r1 r2 =>
      obtain ⟨t, rfl⟩ := r1
      have hi := h i List.mem_cons_self
      have h0 : i.natAbs.log2 < 1920 := by
        by_cases z : i.natAbs = 0
        · rw [z]; decide
        · exact (Nat.log2_lt z).mpr (Nat.lt_trans hi (Nat.lt_of_lt_of_le (by decide : 1000 < 2 ^ 10) (Nat.pow_le_pow_right (by decide) (by decide))))
      exact .cons (ReprIs.int t h0) (ints_repr r2 fun z hz => h z (List.mem_cons_of_mem _ hz))
theorem small_text {i : Int} (h : i.natAbs < 1000) : (toString i : Str).length ≤ 5 := by
  have key : ∀ n : Nat, n < 1000 → (toString (n : Int) : Str).length ≤ 5 ∧ (toString (-(n : Int)) : Str).length ≤ 5 := by decide +kernel
  obtain ⟨h1, h2⟩ := key i.natAbs h
  rcases Int.natAbs_eq i with e | e
  · rw [e]; exact h1
  · rw [e]; exact h2
theorem ints_piled : ∀ ns : List Int, (∀ i ∈ ns, i.natAbs < 1000) → piled (ns.map fun i => (toString i : Str)) ≤ 7 * ns.length
  | [], _ => Nat.le_refl _
  | i :: ns, h => by
    rw [List.map_cons, piled_cons, List.length_cons]
    have h1 := small_text (h i List.mem_cons_self)
    have h2 := ints_piled ns fun z hz => h z (List.mem_cons_of_mem _ hz)
    omega
theorem pe_fmtI {e : Expr} {te : TE} {pos : Pos} {k : Nat} (hr : Room k X.A) (he : PE X e te) : PE X (.FormattedValue e (-1) none pos) (tFmtI X.K te) := by
  refine ⟨fun pins s σ H Q I h => ?_⟩
  refine wpAny_FormattedValue_plain (thn (he.run pins s σ H _ I h) fun v s1 hv => ?_)
  obtain ⟨x, H1, I1, r1, a, ns, rfl, ht, hc, hz, q⟩ := hv
  cases r1
  obtain ⟨its, rv, ⟨o, ho, hcl, n, hd⟩, _⟩ := I1.tuple ht
  have htx := fmt_text (ns.map fun i => (toString i : Str))
  have hp := ints_piled ns hc
  have hu := hr.un
  have hsz : (tupleText (ns.map fun i => (toString i : Str))).length ≤ sizeLine := by rw [sizeLine_eq]; omega
  exact fmt_tuple (ts := ns.map fun i => (toString i : Str)) (by omega) ho hcl hd (ints_repr rv hc) hsz fun m u tk hm => ⟨.str m, H1, I1.tok _, ⟨u, rfl⟩, q m (by omega)⟩
end
end Sm
set_option maxRecDepth 10000000
namespace Sm
open PySem PySem.Spec PyProof.Rows L2 Evl CrT Cr
structure ErrC (P : Program) (K : PySem.W.Frag) (C f cda cc : Addr) (fd : FuncData) : Prop where
  ox : OexC K C
  fn : ∃ oc od osl, K.lookup f = some ⟨oc, od, .func fd, osl⟩
  par : ∃ ar, (fd.params.posonlyargs ++ fd.params.args).head? = some ar ∧ ar.arg = "self"
  code : ∃ cl cd vs cs file tf, K.lookup cda = some ⟨cl, cd, .fields vs, cs⟩ ∧ vs[2]? = some (.str file tf) ∧ ((P.main.file : Str) == file) = true
  cell : ∃ cl cd cs, K.lookup cc = some ⟨cl, cd, .cell (some (.ref C)), cs⟩
  cls : ∃ cd, PySem.W.clsIn K C = some cd
  sub : PySem.W.mroIn K C (.ref C) = some true
  sup : PySem.W.ks_superIn K C C "__init__" = some (some (.builtin "ValueError.__init__"))
  ve : PySem.W.subIn K (.ref C) (.type "ValueError") = some true
  opq : PySem.W.nsIn K cStatics "thirdparty.any" = some none
  top : (P.main.scope.names.lookup ("super" : Str)).isSome = false
structure SuFr (X : Cx) (f cda cc : Addr) : Prop where
  ks : X.env.scope.names.lookup ("super" : Str) = some .globalImplicit
  kc : X.env.scope.names.lookup ("__class__" : Str) = some .free
  ka : X.env.scope.names.lookup ("self" : Str) = some .local
  fu : X.env.func = some f
  co : X.env.code = .ref cda
  ce : X.env.cells.lookup ("__class__" : Str) = some cc
  n0 : X.N[0]? = some ("self" : Str)
  ms : X.mg "super" = none
section
variable {X : Cx} {σ : L2.St} {H : Hp} {s : Shared} {a C f cda cc : Addr} {fd : FuncData}
theorem cls_at {K : PySem.W.Frag} {h : Heap} (X : K.In h) {D : Addr} {cd : ClassData} (hD : PySem.W.clsIn K D = some cd) : ∃ o, h.get? D = some o ∧ o.data = .cls cd := by
  unfold PySem.W.clsIn at hD
  split at hD
  · rename_i o _ _ _ e
    cases hD
    exact ⟨_, X _ _ e, rfl⟩
  · cases hD
theorem su_wrapped {A : Around} {E : Value → Shared → Prop} {u : Addr} {us : List Value} {pins : List (Addr × Obj)} {Q : Value → Shared → Prop} (T : OexC X.K C) (I : Inv X pins σ H s) (hu : s.heap.get? u = some (PySem.W.kxs_mw "ValueError.__init__" a)) (e : H a = some (exo a C none)) (hl : us.length ≤ sizeLine) (h : ∀ s', Inv X pins σ H s' → Q .none s') :
    wpAny (model X.prog X.w) A (call (.ref u) us) Q E s := by
  obtain ⟨nm, q, N, bs, bm, sn, sub, ab, col, dd, k0, k1, k2, k3, k5, hC, hbm⟩ := T.cls
  obtain ⟨t1, ho⟩ := exo_at I.hok e
  have hCh := I.kIn _ _ hC
  obtain ⟨hp, g, d, t, os⟩ := s
  refine wpAny_call (codeAny_of_tree ?_)
  show wpAny _ A.in1 (callAny (.ref u) ⟨us, []⟩) _ _ _
  simp only [callAny]
  refine wpAny_bind (wpAny_load hu ?_)
  have w1 : (Value.type "method-wrapper" == Value.type "method" || Value.type "method-wrapper" == Value.type "builtin_function_or_method" || Value.type "method-wrapper" == Value.type "method-wrapper") = true := by decide
  simp only [PySem.W.kxs_mw, w1, if_true]
  refine PySem.W.KFB.if_so (by decide) ?_
  refine wpAny_bind (PySem.W.check_bound_init F.excBase_ValueError.toExcCallFacts hCh ho rfl ?_)
  refine wpAny_bind (wpAny_pure (wpAny_pure ?_))
  refine ⟨plainId_quiet F.excBase_ValueError.init.plain _, codeAny_builtin F.excBase_ValueError.initEntry ?_⟩
  refine PySem.W.exc_init_tree (cls := .ref C) (t0 := t1) (dv := none) (c2 := .none) (c3 := .none) (b4 := .bool false) ho hl fun h' k hx _ => ?_
  have J := I.write (t' := t) (x := a) (e := a) (o := exo a C none) (by rw [e]; exact True.intro) (.inl rfl) k ⟨_, hx⟩ (exo_ok hx)
  have same : upd H a (exo a C none) = H := funext fun b => by
    by_cases hb : b = a
    · rw [hb, upd_same, e]
    · rw [upd_ne hb]
  rw [same] at J
  exact h _ J
theorem su_stmt {pl : Sem Bool} {body : List Stmt} {fs : Expr} {ta : TA} {Q : Hp → Prop} {p0 p1 p2 p3 p4 : Pos} (R : ErrC X.prog X.K C f cda cc fd) (S : SuFr X f cda cc) (I : Inv X [] σ H s) (hs : σ[0]? = some (some (.ref a))) (e : H a = some (exo a C none)) (ha : PA X [fs] ta)
    (h : ta σ H fun vs H1 => vs.length ≤ 1000 ∧ H1 a = some (exo a C none) ∧ Q H1)
    (he : eval (.Call (.Attribute (.Call (.Name "super" p0) [] [] p1) "__init__" p2) [fs] [] p3) X.env = (do
      let ov ← attributeBase (.Call (.Name "super" p0) [] [] p1) "__init__" X.env (eval (.Call (.Name "super" p0) [] [] p1) X.env)
      standAt p2.atName
      let (f, first) ← holding [ov] (getMethod ov "__init__" pl)
      callWith p3 f first (backTo p3 (starEach [fs] X.env)) []) := by rfl) (hse : starEach [fs] X.env = (false, eval fs X.env) :: starEach [] X.env := by rfl)
    (hsw : swapsWith (.Call (.Attribute (.Call (.Name "super" p0) [] [] p1) "__init__" p2) [fs] [] p3) none p4.line X.env = pure false := by rfl) (hi : interactive X.env = false := by rfl) :
    _root_.PySem.wpAt (model X.prog X.w) X.A (.func body X.env) (exec (.Expr (.Call (.Attribute (.Call (.Name "super" p0) [] [] p1) "__init__" p2) [fs] [] p3) p4) X.env) (fun fl s' => fl = .next ∧ ∃ H', Inv X [] σ H' s' ∧ Q H') X.xe s := by
  obtain ⟨oc, od, osl, hf⟩ := R.fn
  obtain ⟨ar, hp, hself⟩ := R.par
  obtain ⟨cl, cd0, vs, cs0, file, tf, hcode, hvs, hfile⟩ := R.code
  obtain ⟨cl2, cd2, cs2, hcell⟩ := R.cell
  obtain ⟨cdD, hD⟩ := R.cls
  have kin := I.kIn
  obtain ⟨oD, hD1, hD2⟩ := cls_at kin hD
  obtain ⟨t1, ho⟩ := exo_at I.hok e
  obtain ⟨m, hns, hloc⟩ := I.loc
  obtain ⟨u0, ru, lk⟩ := hloc 0 "self" (.ref a) S.n0 hs (.inl S.ka)
  cases (show u0 = Value.ref a from ru)
  have hm : m "self" = some (.ref a) := by
    rcases lk with ⟨_, z⟩ | ⟨z, _⟩
    · exact z
    · have hk : X.env.kindOf "self" = some .local := S.ka
      rw [hk] at z
      rcases z with z | z <;> cases z
  obtain ⟨mb, hb, hbb⟩ := I.mod.blt
  refine ks_wpAt_Expr_any (ks_wpAt_MethodCall (pl := pl) (ks_wpAt_super_base S.ks S.kc rfl S.fu (kin _ _ hf) rfl hp S.co (kin _ _ hcode) rfl hvs hfile R.top ?_) he) hi hsw
  refine PySem.W.ks_loadName_global I.ok.kind S.ks (Calls.loadGlobal_builtin (by rw [I.ok.glob]; exact I.mod.glob.keeps I.bk) S.ms (by rw [I.ok.blt]; exact hb.keeps I.bk) ((hbb _ (by decide +kernel)).trans PyProof.Rows.Boot.«super») ⟨rfl, ?_⟩)
  refine wpAny_loadName_free I.ok.kind S.kc S.ce ⟨_, kin _ _ hcell, rfl⟩ ?_
  rw [hself]
  refine wpAny_loadName_local I.ok.kind S.ka hns hm ?_
  refine ks_wpAny_isType_cls hD1 hD2 ⟨rfl, ?_⟩
  obtain ⟨hp0, g, d, t, os⟩ := s
  refine ks_wpAny_call_super hD1 hD2 ho rfl (fun c => nofun) (PySem.W.looks_mroIn kin R.sub) fun h1 so1 k1 => ?_
  have I1 : Inv X [] σ H ⟨h1, g, d, t, os⟩ := I.kept (t' := t) k1
  have sup := R.sup
  unfold PySem.W.ks_superIn at sup
  rw [hD, Option.bind_some] at sup
  have kin1 := I1.kIn
  have ho1 := k1 _ _ ho
  have at1 : PySem.W.InstAt h1 a _ C none := ⟨ho1, rfl, rfl, trivial⟩
  have hI : PySem.W.Looks (model X.prog X.w) h1 (isInstance (.ref a) (.type "ValueError")) true := at1.type.andThen (PySem.W.looks_subIn kin1 R.ve)
  refine PySem.W.kxs_getMethod PySem.W.kxs_ValueError so1 (PySem.W.looks_opaque kin1 R.opq) (l₀ := cdD.mro) (fun A Q E s k q => wpAny_bind ((PySem.W.looks_clsIn kin1 hD) A _ E s k (wpAny_pure q))) rfl kin1 sup hI (PySem.W.ks_ne kin1 at1 hD) rfl ?_
  have hu : (h1.push (PySem.W.kxs_mw "ValueError.__init__" a)).get? h1.objs.size = some (PySem.W.kxs_mw "ValueError.__init__" a) := Heap.get?_push_at rfl rfl
  have I2 : Inv X [] σ H ⟨h1.push (PySem.W.kxs_mw "ValueError.__init__" a), g, d, t + 1, os⟩ := I1.kept (t' := t + 1) fun b o e => Heap.get?_push_of_some _ e
  have I3 : Inv X [(h1.objs.size, PySem.W.kxs_mw "ValueError.__init__" a)] σ H ⟨h1.push (PySem.W.kxs_mw "ValueError.__init__" a), g, d, t + 1, os⟩ := I2.pins_of fun p hp => by
    rw [List.mem_singleton.mp hp]
    exact ⟨hu, I1.hok.fresh (Nat.le_refl _), Nat.ne_of_gt I1.lt, I1.nofs (Nat.le_refl _), fun v => nofun⟩
  rw [hse]
  refine PySem.W.kxs_callWith (i := "ValueError.__init__") (x := a) rfl (Calls.evalArgs_plain ?_)
  have run := ha.run p3 _ _ σ H _ I3 h
  rw [hse] at run
  refine wpAny_mono run (fun us s4 hv => ?_) fun _ _ z => z
  obtain ⟨ws, H4, I4, rv, hl, e4, q4⟩ := hv
  have hu4 := (I4.pin (h1.objs.size, PySem.W.kxs_mw "ValueError.__init__" a) (List.mem_append_right _ List.mem_cons_self)).1
  refine ⟨hu4, su_wrapped R.ox I4 hu4 e4 (by show us.length ≤ sizeLine; rw [← rv.length, sizeLine_eq]; omega) fun s5 I5 => ⟨rfl, H4, ?_, q4⟩⟩
  exact I5.pins_of fun p hp => nomatch hp
end
end Sm
set_option maxRecDepth 10000000
namespace Sm
open PySem PySem.Spec PyProof.Rows L2 Evl CrT Cr
def suCx (P : Program) (w : World) (K : PySem.W.Frag) (mg : Str → Option Value) (base : Heap) (N : List Str) (qual : Str) (scope : Scope) (f cda cc : Addr) (A : Around) (o : List Env) (s : Shared) (H : Hp) : Cx where
  prog := P
  w := w
  K := K
  mg := mg
  base := base
  A := A.deeper (PySem.W.ksEnv qual scope s.heap.objs.size f (.ref cda) cc)
  N := N
  s_0 := s
  H_0 := H
  env := PySem.W.ksEnv qual scope s.heap.objs.size f (.ref cda) cc
  outer := o
  stack := PySem.W.ksEnv qual scope s.heap.objs.size f (.ref cda) cc :: o
  ex := []
  fn := fun _ => false
  calm := true
  pn := []
  xe := fun _ _ => False
theorem lookup_nodup {α : Type} {x : Str} {u : α} : ∀ {l : List (Str × α)}, (l.map Prod.fst).Nodup → (x, u) ∈ l → l.lookup x = some u
  | [], _, h => nomatch h
  | p :: l, hn, h => by
    rw [List.map_cons, List.nodup_cons] at hn
    unfold List.lookup
    rcases List.mem_cons.mp h with e | h
    · rw [← e, beq_self_eq_true]
    · have hne : x ≠ p.1 := fun e => hn.1 (e ▸ List.mem_map.mpr ⟨_, h, rfl⟩)
      rw [show (x == p.1) = false by simpa using hne]
      exact lookup_nodup hn.2 h
structure SuSc (N : List Str) (sc : Scope) : Prop where
  kind : sc.kind = .function
  co : sc.isCoroutine = false
  gen : sc.isGenerator = false
  loc : ∀ x ∈ N, sc.names.lookup x = some .local
  free : ∀ y ∈ sc.names, y.2 ≠ .cell ∧ (y.2 = .free → y.1 = "__class__")
section
variable {P : Program} {w : World} {K : PySem.W.Frag} {mg : Str → Option Value} {base : Heap} {N : List Str} {qual : Str} {scope : Scope} {f cda cc C : Addr} {A : Around} {o : List Env} {s : Shared} {H : Hp} {us : List Value} {vs : List V}
theorem su_start {h1 : Heap} {tk : Nat} (S : SuSc N scope) (hd : A.handled = none) (e0 : Env0 P w K mg base A o s H) (r : Vals vs us) (hl : vs.length = N.length) (hcell : ∃ cl cd cs, K.lookup cc = some ⟨cl, cd, .cell (some (.ref C)), cs⟩)
    (hns : h1.Ns s.heap.objs.size fun x => (N.zip us).reverse.lookup x) (hnd : N.Nodup) (kp : ∀ b ob, s.heap.get? b = some ob → h1.get? b = some ob) :
    Inv (suCx P w K mg base N qual scope f cda cc A o s H) [] (vs.map some) H { s with heap := h1, toks := tk } := by
  obtain ⟨cl, cd, cs, hcell⟩ := hcell
  have one : ∀ {y : Str} {c : Addr}, ([(("__class__" : Str), cc)] : List (Str × Addr)).lookup y = some c → y = "__class__" ∧ c = cc := fun {y c} h => by
    unfold List.lookup at h
    split at h
    · rename_i q
      cases h
      exact ⟨eq_of_beq q, rfl⟩
    · cases h
  have inBase := e0.mod.kin _ _ hcell
  have noX : ∀ b : Addr, b ∉ (suCx P w K mg base N qual scope f cda cc A o s H).ex := fun b z => nomatch (show b ∈ ([] : List Addr) from z)
  have look : ∀ (i : Nat) (x : Str) (v : V), N[i]? = some x → (vs.map some)[i]? = some (some v) → ∃ u, RelV v u ∧ (N.zip us).reverse.lookup x = some u := fun i x v e1 e2 => by
    rw [List.getElem?_map] at e2
    cases e3 : vs[i]? with
    | none => rw [e3] at e2; cases e2
    | some z =>
      rw [e3] at e2
      cases e2
      obtain ⟨u, hu, rv⟩ := r.get e3
      refine ⟨u, rv, ?_⟩
      have hz : (N.zip us)[i]? = some (x, u) := List.getElem?_zip_eq_some.mpr ⟨e1, hu⟩
      have hk : ((N.zip us).reverse.map Prod.fst).Nodup := by
        rw [List.map_reverse]
        refine (List.reverse_perm _).nodup_iff.mpr ?_
        have hlen : us.length = N.length := by rw [← r.length]; exact hl
        rw [List.map_fst_zip (by omega)]
        exact hnd
      exact lookup_nodup hk (List.mem_reverse.mpr (List.mem_of_getElem? hz))
  refine ⟨⟨e0.mod, S.kind, rfl, rfl, Nat.le_refl _, fun x y c h h2 => ?_, fun y hy => ?_, fun y c z _ => ?_, fun _ => hd, Around.frames_deeper e0.frames, .inr ⟨rfl, rfl⟩, fun b z => (noX b z).elim, e0.bs, e0.bsz, fun b _ _ => noX b, fun b z => (noX b z).elim, e0.funs, e0.frf⟩,
    rfl, e0.bare, Un.kept kp, ⟨_, hns, fun i x v e1 e2 e3 => ?_⟩, fun y c h => ?_, e0.hok.fresh (Nat.le_refl _), fun y c h => ?_, (fun p hp => by cases (show p ∈ ([] : List (Addr × Obj)) from hp)), e0.hok.kept kp, by show (vs.map some).length = N.length; rw [List.length_map, hl]⟩
  · rw [(one h).1, (one h2).1]
  · have hy : scope.names.lookup y = some .cell ∨ scope.names.lookup y = some .free := hy
    rcases hy with hy | hy
    · exact absurd rfl (S.free _ (PySem.mem_of_lookup hy)).1
    · have := (S.free _ (PySem.mem_of_lookup hy)).2 rfl
      have this : y = "__class__" := this
      rw [this]
      exact ⟨cc, rfl⟩
  · exact absurd (show false = true from z) (by decide)
  · obtain ⟨u, rv, hu⟩ := look i x v e1 e2
    exact ⟨u, rv, .inl ⟨S.loc x (List.mem_of_getElem? e1), hu⟩⟩
  · rw [(one h).2]
    exact ⟨_, _, kp _ _ (e0.bs _ _ inBase).1, rfl⟩
  · rw [(one h).2]
    exact (e0.bs _ _ inBase).2
end
noncomputable def errH (H : Hp) (a C d : Addr) (n1 : Str) (y1 : V) (n2 : Str) (y2 : V) : Hp := upd (upd (upd H d (exd d [(n1, y1)])) a (exo a C (some d))) d (exd d [(n2, y2), (n1, y1)])
def spErr (C : Addr) (n1 n2 : Str) (TF : Hp → V → V → Prop) : Sp := fun vs H Q _ => ∃ (a : Addr) (v1 v2 : V), vs = [.ref a, v1, v2] ∧ H a = some (exo a C none) ∧ TF H v1 v2 ∧ ∀ d, H d = none → d ≠ a → Q .non (errH H a C d n1 v1 n2 v2)
section
variable {P : Program} {w : World} {K : PySem.W.Frag} {mg : Str → Option Value} {base : Heap} {qual n1 n2 : Str} {scope : Scope} {f cda cc C : Addr} {k : Nat} {TF : Hp → V → V → Prop}
theorem init_ok {pl : Sem Bool} {params : Arguments} {dV kV doc pm ct oc : Value} {an od : Option Addr} {osl : Array (Option Value)} {fs : Expr} {rest : List Stmt} {p0 p1 p2 p3 p4 : Pos} {fd : FuncData}
    (hfd : fd = PySem.W.ksFn "__init__" qual params (.Expr (.Call (.Attribute (.Call (.Name "super" p0) [] [] p1) "__init__" p2) [fs] [] p3) p4 :: rest) scope dV kV doc pm an (.ref cda) ct cc)
    (R : ErrC P K C f cda cc fd) (at_ : K.lookup f = some ⟨oc, od, .func fd, osl⟩) (code : PySem.W.codeIn K (.ref cda) qual = true) (S : SuSc ["self", n1, n2] scope) (hnd : (["self", n1, n2] : List Str).Nodup) (hsup : scope.names.lookup ("super" : Str) = some .globalImplicit) (hcl : scope.names.lookup ("__class__" : Str) = some .free) (ms : mg "super" = none)
    (h1 : PySem.W.findIn K (.ref C) n1 = some none) (h2 : PySem.W.findIn K (.ref C) n2 = some none)
    (hfs : ∀ A o s H, Room k (suCx P w K mg base ["self", n1, n2] qual scope f cda cc A o s H).A → ∃ ta, PA (suCx P w K mg base ["self", n1, n2] qual scope f cda cc A o s H) [fs] ta ∧ ∀ (a : Addr) (v1 v2 : V) (H1 : Hp), TF H1 v1 v2 → ∀ Q : List V → Hp → Prop, (∀ m, Q [.str m] H1) → ta [some (.ref a), some v1, some v2] H1 Q)
    (hrest : ∀ A o s H, ∃ t, PSs (suCx P w K mg base ["self", n1, n2] qual scope f cda cc A o s H) rest t ∧ ∀ (D : Ends) (a : Addr) (v1 v2 : V) (H1 : Hp), H1 a = some (exo a C none) → (∀ d, H1 d = none → d ≠ a → D.nx [some (.ref a), some v1, some v2] (errH H1 a C d n1 v1 n2 v2)) → t D [some (.ref a), some v1, some v2] H1)
    (he : ∀ A o s H, eval (.Call (.Attribute (.Call (.Name "super" p0) [] [] p1) "__init__" p2) [fs] [] p3) (suCx P w K mg base ["self", n1, n2] qual scope f cda cc A o s H).env = (do
      let ov ← attributeBase (.Call (.Name "super" p0) [] [] p1) "__init__" (suCx P w K mg base ["self", n1, n2] qual scope f cda cc A o s H).env (eval (.Call (.Name "super" p0) [] [] p1) (suCx P w K mg base ["self", n1, n2] qual scope f cda cc A o s H).env)
      standAt p2.atName
      let (g, first) ← holding [ov] (getMethod ov "__init__" pl)
      callWith p3 g first (backTo p3 (starEach [fs] (suCx P w K mg base ["self", n1, n2] qual scope f cda cc A o s H).env)) []))
    (hse : ∀ A o s H, starEach [fs] (suCx P w K mg base ["self", n1, n2] qual scope f cda cc A o s H).env = (false, eval fs (suCx P w K mg base ["self", n1, n2] qual scope f cda cc A o s H).env) :: starEach [] (suCx P w K mg base ["self", n1, n2] qual scope f cda cc A o s H).env)
    (hsw : ∀ A o s H, swapsWith (.Call (.Attribute (.Call (.Name "super" p0) [] [] p1) "__init__" p2) [fs] [] p3) none p4.line (suCx P w K mg base ["self", n1, n2] qual scope f cda cc A o s H).env = pure false)
    (hi : ∀ A o s H, interactive (suCx P w K mg base ["self", n1, n2] qual scope f cda cc A o s H).env = false) :
    FnOk P w K mg base CX0 (k + 1) f fd ["self", n1, n2] (spErr C n1 n2 TF) := by
  refine ⟨fun vs H Q E h => ?_, fun A o s H ar us vs Q E room e0 bind r wish => ?_⟩
  · obtain ⟨a, v1, v2, rfl, _⟩ := h
    rfl
  obtain ⟨a, v1, v2, rfl, ea, tf, q⟩ := wish
  have up : ∀ b ob, base.get? b = some ob → s.heap.get? b = some ob := fun b ob e => (e0.bs b ob e).1
  have inK : K.In s.heap := e0.mod.kin.keeps up
  have noLim : s.heap.NoLimit := e0.mod.nolimit.keeps up
  subst hfd
  have hul : us.length = 3 := by
    have := r.length
    rw [← this]
    rfl
  refine ks_codeAny_call_defAt room.depth (inK _ _ at_) rfl noLim (PySem.W.codeRec_of inK code) rfl bind (fun x hx => (S.free x hx).1) (fun x hx => S.loc x.1 (List.of_mem_zip hx).1) (fun h0 hns kp => ?_) S.co S.gen S.kind
  have I : Inv (suCx P w K mg base ["self", n1, n2] qual scope f cda cc A o s H) [] [some (V.ref a), some v1, some v2] H { s with heap := h0, toks := s.toks + ((["self", n1, n2] : List Str).zip us).length } := su_start (vs := [V.ref a, v1, v2]) S room.hd e0 r rfl R.cell hns hnd kp
  have fr : SuFr (suCx P w K mg base ["self", n1, n2] qual scope f cda cc A o s H) f cda cc := ⟨hsup, hcl, S.loc _ List.mem_cons_self, rfl, rfl, rfl, rfl, ms⟩
  have room' : Room k (suCx P w K mg base ["self", n1, n2] qual scope f cda cc A o s H).A := room.deeper _
  obtain ⟨ta, pa, hta⟩ := hfs A o s H room'
  obtain ⟨tr, pr, htr⟩ := hrest A o s H
  show _root_.PySem.wpAt (model P w) (suCx P w K mg base ["self", n1, n2] qual scope f cda cc A o s H).A (.func _ (suCx P w K mg base ["self", n1, n2] qual scope f cda cc A o s H).env) (execs _ (suCx P w K mg base ["self", n1, n2] qual scope f cda cc A o s H).env) _ _ _
  refine ks_wpAt_execs_cons (_root_.PySem.wpAt_mono (su_stmt (Q := fun H1 => H1 = H) (pl := pl) R fr I rfl ea pa (hta a v1 v2 H tf _ fun m => ⟨Nat.le_of_ble_eq_true rfl, ea, rfl⟩) (he A o s H) (hse A o s H) (hsw A o s H) (hi A o s H)) (fun fl s1 hv => ?_) fun _ _ z => z.elim)
  obtain ⟨rfl, H1, I1, rfl⟩ := hv
  refine _root_.PySem.wpAt_of_wpAny (wpAny_mono (pr.run [] s1 _ _ { nx := fun _ H2 => Q .non H2, rt := fun _ _ => False } I1 (htr _ a v1 v2 _ ea fun d n1 n2 => q d n1 n2)) (fun fl s2 hv => ?_) fun _ _ z => z.elim)
  cases fl with
  | next =>
    obtain ⟨σ2, H2, J, q2⟩ := hv
    exact ⟨.non, H2, J.os, J.bare, J.base, J.hok, rfl, q2⟩
  | ret u =>
    obtain ⟨_, _, _, _, _, q2⟩ := hv
    exact q2.elim
  | brk =>
    obtain ⟨_, _, _, q2⟩ := hv
    exact q2.elim
  | cont =>
    obtain ⟨_, _, _, q2⟩ := hv
    exact q2.elim
end
end Sm
set_option maxRecDepth 10000000
namespace Sm
open PySem PySem.Spec PyProof.Rows L2 Evl CrT Cr
structure Err where
  c : Nat
  d1 : PyData
  d2 : PyData
abbrev ET := Nat → Addr × Str × Str
def ErrAt (K : PySem.W.Frag) (A : Atm) (O : Addr → Prop) (H : Hp) (T : ET) (e : Err) (d : Addr) : Prop := ∃ y1 y2, H d = some (.xd [((T e.c).2.2, y2), ((T e.c).2.1, y1)]) ∧ Fd K A O H y1 e.d1 ∧ Fd K A O H y2 e.d2
abbrev OutE := PyData ⊕ Err
abbrev OutS := (Fl × List Sl) ⊕ (Err × List Sl)
abbrev FEX := List Sl → Option OutE
abbrev FSX := List Sl → Option OutS
abbrev FnX := List PyData → Option OutE
def PostX (K : PySem.W.Frag) (A : Atm) (T : ET) (H0 : Hp) (O0 O : Addr → Prop) (H : Hp) (W : WX) (D : Ends) : OutS → Prop
  | .inl o => Post K A H0 O0 O H D o
  | .inr (e, ρ') => ∀ σ' H' O' d', Rl K A H0 O0 O' σ' H' ρ' → Evo O H O' H' → ErrAt K A O' H' T e d' → W (.ref (T e.c).1) (some d') σ' H'
def SEX (K : PySem.W.Frag) (A : Atm) (T : ET) (W : WX) (t : TE) (f : FEX) : Prop := ∀ {H0 : Hp} {O0 O : Addr → Prop} {σ : L2.St} {H : Hp} {ρ : List Sl}, Rl K A H0 O0 O σ H ρ → ∀ o, f ρ = some o → ∀ Q : VK, (match o with
  | .inl d => ∀ v H', Same H H' → Fd K A O H' v d → Q v H'
  | .inr e => ∀ d' H', Same H H' → ErrAt K A O H' T e d' → W (.ref (T e.c).1) (some d') σ H') → t σ H Q
def SSX (K : PySem.W.Frag) (A : Atm) (T : ET) (W : WX) (t : TS) (f : FSX) : Prop := ∀ {H0 : Hp} {O0 O : Addr → Prop} {σ : L2.St} {H : Hp} {ρ : List Sl}, Rl K A H0 O0 O σ H ρ → ∀ o, f ρ = some o → ∀ D : Ends, PostX K A T H0 O0 O H W D o → t D σ H
def xSt (f : FS) : FSX := fun ρ => (f ρ).map .inl
def xCall (fn : FnX) (fas : FA) : FEX := fun ρ => (fas ρ).bind fn
def xAsg (fe : FEX) (g : PyData → List Sl → Option (List Sl)) : FSX := fun ρ => (fe ρ).bind fun
  | .inl d => (g d ρ).map fun ρ' => .inl (.nx, ρ')
  | .inr e => some (.inr (e, ρ))
def xRet (fe : FEX) : FSX := fun ρ => (fe ρ).bind fun
  | .inl d => some (.inl (.rt d, ρ))
  | .inr e => some (.inr (e, ρ))
def xThen (o : Option OutS) (g : FSX) : Option OutS := o.bind fun
  | .inl (.nx, ρ') => g ρ'
  | o => some o
def xSeq (f g : FSX) : FSX := fun ρ => xThen (f ρ) g
def xIf (ft : FT) (f g : FSX) : FSX := fun ρ => (ft ρ).bind fun b => if b then f ρ else g ρ
def xRaise (c : Nat) (ok : PyData → PyData → Bool) (fas : FA) : FSX := fun ρ => (fas ρ).bind fun
  | [d1, d2] => if ok d1 d2 then some (.inr (⟨c, d1, d2⟩, ρ)) else none
  | _ => none
def resX : Option OutS → Option OutE
  | some (.inl (.rt d, _)) => some (.inl d)
  | some (.inl (.nx, _)) => some (.inl .none)
  | some (.inr (e, _)) => some (.inr e)
  | _ => none
def runX (N k : Nat) (f : FSX) : FnX := fun ds => if ds.length = k then resX (f (ds.map Sl.val ++ List.replicate (N - k) Sl.un)) else none
def spX (K : PySem.W.Frag) (A : Atm) (T : ET) (fn : FnX) : Sp := fun vs H Q E => ∃ (O : Addr → Prop) (ds : List PyData) (r : OutE), Owl O H ∧ Fds K A O H vs ds ∧ fn ds = some r ∧ (match r with
  | .inl d => ∀ v H', Same H H' → Fd K A O H' v d → Q v H'
  | .inr e => ∀ d' H', Same H H' → ErrAt K A O H' T e d' → E (.ref (T e.c).1) (some d') H')
section
variable {K : PySem.W.Frag} {A : Atm} {T : ET} {W : WX} {te : TE} {tas : TA} {t u : TS} {fe : FE} {fx : FEX} {fas : FA} {f g : FSX}
theorem ErrAt.same {O : Addr → Prop} {H H' : Hp} {e : Err} {d : Addr} (s : Same H H') (h : ErrAt K A O H T e d) : ErrAt K A O H' T e d := by
  obtain ⟨y1, y2, h1, h2, h3⟩ := h
  exact ⟨y1, y2, s _ _ h1, h2.same s, h3.same s⟩
theorem ErrAt.less {O O' : Addr → Prop} {H : Hp} {e : Err} {d : Addr} (s : ∀ a, O' a → O a) (h : ErrAt K A O H T e d) : ErrAt K A O' H T e d := by
  obtain ⟨y1, y2, h1, h2, h3⟩ := h
  exact ⟨y1, y2, h1, h2.less s, h3.less s⟩
theorem sx_call {fn : FnX} (h : SA K A tas fas) : SEX K A T W (tCallS (spX K A T fn) (L2.WE W) tas) (xCall fn fas) := fun {H0 O0 O σ H ρ} R o ho Q q => by
  obtain ⟨ds, h1, h2⟩ := bind_some' ho
  refine h R ds h1 _ fun vs H1 e1 hvs => ⟨O, ds, o, R.owl.same e1, hvs, h2, ?_⟩
  cases o with
  | inl d => exact fun v H2 e2 hv => q v H2 (e1.trans e2) hv
  | inr e => exact fun d' H2 e2 hd => q d' H2 (e1.trans e2) hd
theorem ssx_of {ts : TS} {fs : FS} (h : SS K A ts fs) : SSX K A T W ts (xSt fs) := fun {H0 O0 O σ H ρ} R o ho D p => by
  unfold xSt at ho
  cases e : fs ρ with
  | none => rw [e] at ho; cases ho
  | some r =>
    rw [e] at ho
    cases ho
    exact h R r e D p
theorem ssx_asg {tg : TG} {gg : PyData → List Sl → Option (List Sl)} {ws : List Nat} (h : SEX K A T W te fx) (hg : SG K A tg gg ws) : SSX K A T W (tAsg te tg) (xAsg fx gg) := fun {H0 O0 O σ H ρ} R o ho D p => by
  obtain ⟨r, h1, h2⟩ := bind_some' ho
  cases r with
  | inl d =>
    dsimp only at h2
    cases e : gg d ρ with
    | none => rw [e] at h2; cases h2
    | some ρ' =>
      rw [e] at h2
      cases h2
      refine h R _ h1 _ fun v H1 e1 hv => ?_
      exact hg (R.same e1) hv ρ' e _ fun σ' R' _ _ _ => p σ' H1 O R' (.same e1)
  | inr e =>
    cases h2
    exact h R _ h1 _ fun d' H1 e1 hd => p σ H1 O d' (R.same e1) (.same e1) hd
theorem ssx_ret (h : SEX K A T W te fx) : SSX K A T W (tRet te) (xRet fx) := fun {H0 O0 O σ H ρ} R o ho D p => by
  obtain ⟨r, h1, h2⟩ := bind_some' ho
  cases r with
  | inl d =>
    cases h2
    exact h R _ h1 _ fun v H1 e1 hv => p v H1 (R.frm.trans e1) (hv.less R.sub)
  | inr e =>
    cases h2
    exact h R _ h1 _ fun d' H1 e1 hd => p σ H1 O d' (R.same e1) (.same e1) hd
theorem PostX.evo {H0 : Hp} {O0 O O' : Addr → Prop} {H H' : Hp} {D : Ends} {o : OutS} (p : PostX K A T H0 O0 O H W D o) (e : Evo O H O' H') : PostX K A T H0 O0 O' H' W D o := by
  cases o with
  | inl o => exact Post.evo e p
  | inr o =>
    obtain ⟨e', ρ'⟩ := o
    exact fun σ2 H2 O2 d2 R2 ev hd => p σ2 H2 O2 d2 R2 (e.trans ev) hd
theorem ssx_seq (h1 : SSX K A T W t f) (h2 : SSX K A T W u g) : SSX K A T W (tSeq t u) (xSeq f g) := fun {H0 O0 O σ H ρ} R o h D p => by
  have h : xThen (f ρ) g = some o := h
  cases e : f ρ with
  | none => rw [e] at h; cases h
  | some o1 =>
    rw [e] at h
    cases o1 with
    | inr o1 =>
      cases h
      exact h1 R _ e _ p
    | inl o1 =>
      obtain ⟨fl, ρ1⟩ := o1
      cases fl with
      | nx => exact h1 R _ e _ fun σ' H' O' r' ev => h2 r' o h D (p.evo ev)
      | bk => cases h; exact h1 R _ e _ p
      | ct => cases h; exact h1 R _ e _ p
      | rt d => cases h; exact h1 R _ e _ p
theorem ssx_if {tt : TT} {ft : FT} (ht : ST K A tt ft) (h1 : SSX K A T W t f) (h2 : SSX K A T W u g) : SSX K A T W (tIfS tt t u) (xIf ft f g) := fun {H0 O0 O σ H ρ} R o ho D p => by
  obtain ⟨b, hb, h⟩ := bind_some' ho
  refine ht R b hb _ fun H1 e1 => ?_
  cases b with
  | true => exact iteT (h1 (R.same e1) o (by simpa using h) D (p.evo (.same e1)))
  | false => exact iteF (h2 (R.same e1) o (by simpa using h) D (p.evo (.same e1)))
def tRaise (C : Addr) (n1 n2 : Str) (TF : Hp → V → V → Prop) (W : WX) (ta : TA) : TS := fun _ σ H => tMkO C (spErr C n1 n2 TF) [] ta σ H fun cls d H' => W cls d σ H'
theorem ssx_raise {c : Nat} {ok : PyData → PyData → Bool} {TF : Hp → V → V → Prop} (hT : ∀ {O : Addr → Prop} {H : Hp} {v1 v2 : V} {d1 d2 : PyData}, Fd K A O H v1 d1 → Fd K A O H v2 d2 → ok d1 d2 = true → TF H v1 v2) (h : SA K A tas fas) :
    SSX K A T W (tRaise (T c).1 (T c).2.1 (T c).2.2 TF W tas) (xRaise c ok fas) := fun {H0 O0 O σ H ρ} R o ho D p => by
  obtain ⟨ds, h1, h2⟩ := bind_some' ho
  match ds, h2 with
  | [d1, d2], h2 =>
    dsimp only at h2
    split at h2
    · rename_i hok
      cases h2
      refine h R _ h1 _ fun vs H1 e1 hvs => ?_
      obtain ⟨v1, ws, rfl, f1, hws⟩ := hvs.head
      obtain ⟨v2, ws2, rfl, f2, hws2⟩ := hws.head
      cases hws2.nil_inv
      refine ⟨by show 2 ≤ 1000; decide, fun a ha => ?_⟩
      have s1 : Same H1 (upd H1 a (exo a (T c).1 none)) := Cr.same_new ha
      refine ⟨a, v1, v2, rfl, upd_same, hT (f1.same s1) (f2.same s1) hok, fun d hd hda => ?_⟩
      have hd1 : H1 d = none := by rw [upd_ne hda] at hd; exact hd
      have had : a ≠ d := fun z => hda z.symm
      refine ⟨rfl, d, [((T c).2.2, v2), ((T c).2.1, v1)], ?_, ?_, hd1, ?_⟩
      · unfold errH
        rw [upd_ne had, upd_same]
      · unfold errH
        rw [upd_same]
      · have s2 : Same H1 (upd (del (errH (upd H1 a (exo a (T c).1 none)) a (T c).1 d (T c).2.1 v1 (T c).2.2 v2) a) d (.xd [((T c).2.2, v2), ((T c).2.1, v1)])) := fun b ob hb => by
          have n1 : b ≠ a := ne_of_none hb ha
          have n2 : b ≠ d := ne_of_none hb hd1
          rw [upd_ne n2, del_ne n1]
          unfold errH
          rw [upd_ne n2, upd_ne n1, upd_ne n2, upd_ne n1]
          exact hb
        exact p σ _ O d (R.same (e1.trans s2)) (.same (e1.trans s2)) ⟨v1, v2, upd_same, f1.same s2, f2.same s2⟩
    · cases h2
  | [], h2 => cases h2
  | [_], h2 => cases h2
  | _ :: _ :: _ :: _, h2 => cases h2
theorem body_okX {N : List Str} {k : Nat} {E : XK} (h : SSX K A T (fun cls d _ H => E cls d H) t f) {vs : List V} {H : Hp} {Q : VK} (hs : spX K A T (runX N.length k f) vs H Q E) : t { nx := fun _ H' => Q .non H', rt := Q } (L2.start N vs) H := by
  obtain ⟨O, ds, r, ho, hds, hr, q⟩ := hs
  unfold runX at hr
  split at hr
  · rename_i hk
    have R : Rl K A H O O (L2.start N vs) H (ds.map Sl.val ++ List.replicate (N.length - k) Sl.un) := start_rl ho hds hk
    unfold resX at hr
    split at hr
    · rename_i e
      cases hr
      exact h R _ e _ fun v H' s hv => q v H' s hv
    · rename_i e
      cases hr
      exact h R _ e _ fun σ' H' O' r' _ => q .non H' r'.frm .non
    · rename_i e
      cases hr
      exact h R _ e _ fun σ' H' O' d' r' _ hd => q d' H' r'.frm (hd.less r'.sub)
    · cases hr
  · cases hr
theorem body_lenX {N k : Nat} {vs : List V} {H : Hp} {Q : VK} {E : XK} (hs : spX K A T (runX N k f) vs H Q E) : vs.length = k := by
  obtain ⟨O, ds, r, ho, hds, hr, q⟩ := hs
  unfold runX at hr
  split at hr
  · rename_i hk
    rw [hds.1, hk]
  · cases hr
end
end Sm
set_option maxRecDepth 10000000
namespace Sm
open PySem PySem.Spec PyProof.Rows L2 Evl CrT Cr
structure ClX (P : Program) (w : World) (K : PySem.W.Frag) (mg : Str → Option Value) (base : Heap) (x : Str) (ps : List Str) (k : Nat) (sp : Sp) where
  f : Addr
  fd : FuncData
  ok : FnOk P w K mg base (L2.CX P w) k f fd ps sp
  b : Binds K fd ps []
  kp : PySem.W.keepIn K (.ref f) = true
  m : mg x = some (.ref f)
def ClX.mono {P : Program} {w : World} {K : PySem.W.Frag} {mg : Str → Option Value} {base : Heap} {x : Str} {ps : List Str} {j k : Nat} {sp : Sp} (c : ClX P w K mg base x ps j sp) (h : j ≤ k) : ClX P w K mg base x ps k sp := ⟨c.f, c.fd, c.ok.mono h, c.b, c.kp, c.m⟩
structure ErrM (P : Program) (w : World) (K : PySem.W.Frag) (mg : Str → Option Value) (base : Heap) (x : Str) (C : Addr) (n1 n2 : Str) (TF : Hp → V → V → Prop) : Type where
  fI : Addr
  fd : FuncData
  ox : OexC K C
  iC : PySem.W.findIn K (.ref C) "__init__" = some (some (.ref fI))
  tI : PySem.W.typeIn K (.ref fI) = some (.type "function")
  ok : FnOk P w K mg base CX0 1 fI fd ["self", n1, n2] (spErr C n1 n2 TF)
  b : Binds K fd ["self", n1, n2] []
  m : mg x = some (.ref C)
  ex : PySem.W.exmOne K (.ref C) (.ref C) = some true
def fTry (c : Nat) (fx : FSX) (fs : FS) : FS := fun ρ => (fx ρ).bind fun
  | .inl o => some o
  | .inr (e, ρ') => if e.c = c then fs ρ' else none
section
variable {K : PySem.W.Frag} {A : Atm} {T : ET} {fx : FSX} {fs : FS} {tb : WX → TS} {ts : Addr → Value → Option Addr → TS} {Wout : WX}
theorem ss_try {c : Nat} (hex : PySem.W.exmOne K (.ref (T c).1) (.ref (T c).1) = some true) (hb : ∀ W, SSX K A T W (tb W) fx) (hs : ∀ a cls d, SS K A (ts a cls d) fs) : SS K A (fun D σ H => tb (wOnly K (.ref (T c).1) ts Wout D) D σ H) (fTry c fx fs) := fun {H0 O0 O σ H ρ} R o ho D p => by
  obtain ⟨r, h1, h2⟩ := bind_some' ho
  cases r with
  | inl o1 =>
    cases h2
    exact hb _ R _ h1 D p
  | inr o1 =>
    obtain ⟨e, ρ'⟩ := o1
    dsimp only at h2
    split at h2
    · rename_i ec
      refine hb _ R _ h1 D fun σ' H' O' d' R' ev _ => ?_
      rw [ec]
      exact ⟨true, hex, fun _ a _ => hs a _ _ R' o h2 D (p.evo ev), fun h => nomatch h⟩
    · cases h2
end
def tfP (K : PySem.W.Frag) (H : Hp) (v1 v2 : V) : Prop := ∃ (x : Str) (a : Addr) (ns : List Int), v1 = .str x ∧ x.length ≤ 1000 ∧ v2 = .ref a ∧ SqT K H a (ns.map V.int) ∧ (∀ i ∈ ns, i.natAbs < 1000) ∧ ns.length ≤ 1000
def smallI : List PyData → Bool
  | [] => true
  | .int i :: ds => decide (i.natAbs < 1000) && smallI ds
  | _ => false
def okP (d1 d2 : PyData) : Bool := match d1, d2 with
  | .str x, .tuple ds => decide (x.length ≤ 1000) && (decide (ds.length ≤ 1000) && smallI ds)
  | _, _ => false
theorem smallI_v {K : PySem.W.Frag} {A : Atm} {O : Addr → Prop} {H : Hp} : ∀ {ds : List PyData} {xs : List V}, Fds K A O H xs ds → smallI ds = true → ∃ ns : List Int, xs = ns.map V.int ∧ (∀ i ∈ ns, i.natAbs < 1000) ∧ ns.length = ds.length
  | [], xs, h, _ => by
    cases h.nil_inv
    exact ⟨[], rfl, (fun _ h => nomatch h), rfl⟩
  | d :: ds, xs, h, hs => by
    obtain ⟨v, ws, rfl, hv, hw⟩ := h.head
    cases d with
    | int i =>
      obtain ⟨h1, h2⟩ := Bool.and_eq_true_iff.mp hs
      obtain ⟨ns, rfl, h3, h4⟩ := smallI_v hw h2
      rw [hv.int_inv]
      refine ⟨i :: ns, rfl, fun j hj => ?_, by rw [List.length_cons, List.length_cons, h4]⟩
      rcases List.mem_cons.mp hj with rfl | hj
      · exact of_decide_eq_true h1
      · exact h3 j hj
    | _ => cases hs
theorem okP_tf {K : PySem.W.Frag} {A : Atm} {O : Addr → Prop} {H : Hp} {v1 v2 : V} {d1 d2 : PyData} (h1 : Fd K A O H v1 d1) (h2 : Fd K A O H v2 d2) (h : okP d1 d2 = true) : tfP K H v1 v2 := by
  unfold okP at h
  split at h
  · obtain ⟨g1, g2⟩ := Bool.and_eq_true_iff.mp h
    obtain ⟨g2, g3⟩ := Bool.and_eq_true_iff.mp g2
    obtain ⟨a, xs, rfl, hs, hx⟩ := h2.tup_inv
    obtain ⟨ns, rfl, hn, hl⟩ := smallI_v hx g3
    exact ⟨_, a, ns, h1.str_inv, of_decide_eq_true g1, rfl, hs, hn, by rw [hl]; exact of_decide_eq_true g2⟩
  · cases h
def clsFn : Stmt → Stmt
  | .ClassDef _ _ _ (st :: _) _ _ _ _ _ _ _ => st
  | st => st
end Sm
set_option maxRecDepth 10000000
namespace Sm
open PySem PySem.Spec PyProof.Rows L2 Evl CrT Cr
theorem oex_mk {K : PySem.W.Frag} {C : Addr} {nm q N bs bm sn sub ab col dd k0 k1 k2 k3 k5} (h : K.lookup C = some (excClassObj nm q C N bs bm true sn sub ab col dd k0 k1 k2 k3 k5 "ValueError.__new__")) (hb : PySem.HandSPX.refsVE bm = true) (sa : PySem.W.findIn K (.ref C) "__setattr__" = some (some (.builtin "object.__setattr__")))
    (ex : PySem.W.subIn K (.ref C) (.type "BaseException") = some true) (ty : PySem.W.typeIn K (.ref C) = some (.type "type")) (kp : PySem.W.keepIn K (.ref C) = true) : OexC K C :=
  ⟨⟨nm, q, N, bs, bm, sn, sub, ab, col, dd, k0, k1, k2, k3, k5, h, hb⟩, sa, ex, ty, kp⟩
theorem errc_mk {P : Program} {K : PySem.W.Frag} {C f cda cc : Addr} {fd : FuncData} {oc : Value} {od : Option Addr} {osl : Array (Option Value)} {ar : Arg} {cl : Value} {cd : Option Addr} {vs : Array Value} {cs : Array (Option Value)} {file : Str} {tf : Tok} {cl2 : Value} {cd2 : Option Addr} {cs2 : Array (Option Value)} {cdd : ClassData}
    (h1 : K.lookup f = some ⟨oc, od, .func fd, osl⟩) (h2 : (fd.params.posonlyargs ++ fd.params.args).head? = some ar) (h3 : ar.arg = "self") (h4 : K.lookup cda = some ⟨cl, cd, .fields vs, cs⟩) (h5 : vs[2]? = some (.str file tf)) (h6 : ((P.main.file : Str) == file) = true)
    (h7 : K.lookup cc = some ⟨cl2, cd2, .cell (some (.ref C)), cs2⟩) (h8 : PySem.W.clsIn K C = some cdd) (h9 : PySem.W.mroIn K C (.ref C) = some true) (h10 : PySem.W.ks_superIn K C C "__init__" = some (some (.builtin "ValueError.__init__")))
    (h11 : PySem.W.subIn K (.ref C) (.type "ValueError") = some true) (h12 : PySem.W.nsIn K cStatics "thirdparty.any" = some none) (h13 : (P.main.scope.names.lookup ("super" : Str)).isSome = false) (ox : OexC K C) : ErrC P K C f cda cc fd :=
  ⟨ox, ⟨oc, od, osl, h1⟩, ⟨ar, h2, h3⟩, ⟨cl, cd, vs, cs, file, tf, h4, h5, h6⟩, ⟨cl2, cd2, cs2, h7⟩, ⟨cdd, h8⟩, h9, h10, h11, h12, h13⟩
end Sm
set_option maxRecDepth 10000000
namespace Sm
open PySem PySem.Spec PyProof.Rows L2 Evl CrT Cr
theorem note_frame {u : Value} {e1 e2 : Env} (h : e1.frame = e2.frame) : noteFrame u e1 = noteFrame u e2 := by
  unfold noteFrame PySem.frameOf
  rw [h]
theorem okXe {X : Cx} {f : Value → Shared → Prop} (o : X.Ok) : ({ X with xe := f } : Cx).Ok :=
  ⟨o.mod, o.kind, o.glob, o.blt, o.above, o.inj, o.has, o.cab, o.hd, o.frames, o.stk, o.exf, o.bs, o.bsz, o.noex, o.exfs, o.funs, o.frf⟩
theorem invXe {X : Cx} {f : Value → Shared → Prop} {pins : List (Addr × Obj)} {σ : L2.St} {H : Hp} {s : Shared} (I : Inv X pins σ H s) : Inv ({ X with xe := f } : Cx) pins σ H s :=
  ⟨okXe I.ok, I.os, I.bare, I.base, I.loc, I.cell, I.free, I.freeC, I.pin, I.hok, I.len⟩
def airB (B : Cx) (E : XK) (u : Value) (s' : Shared) : Prop := ∃ pins σ H s, Inv B pins σ H s ∧ L2.CX B.prog B.w B.stack H s E u s'
abbrev blkX (X : Cx) (s : Shared) (H : Hp) (scope : Scope) (cenv : Env) (fp : List Addr) (E : XK) : Cx := { X.blk s H scope cenv fp with xe := airB (X.blk s H scope cenv fp) E }
theorem passB {X : Cx} {s : Shared} {H : Hp} {scope : Scope} {cenv : Env} {fp : List Addr} {E : XK} (σ : L2.St) : PassesAt (L2.CX X.prog X.w) (blkX X s H scope cenv fp E) σ E := fun pins H' s1 e s' I c => ⟨pins, σ, H', s1, invXe (f := fun _ _ => False) I, c⟩
theorem airB_fly {B : Cx} {E : XK} {u : Value} {s' : Shared} (h : airB B E u s') : ∃ (a : Addr) (G : Heap) (sI : Shared) (pins : List (Addr × Obj)) (σ : L2.St) (H : Hp) (cls : Value) (d : Option Addr),
    u = .ref a ∧ Inv B pins σ H sI ∧ (∀ b o, sI.heap.get? b = some o → b ∉ frs B.stack → G.get? b = some o) ∧ sI.heap.UpToSlots s'.heap ∧ HandSPX.FlyingZ G B.stack a (Zc cls d) s'.heap ∧ H a = none ∧ s'.os = sI.os ∧ AllBare s'.gens ∧ E cls d H := by
  obtain ⟨pb, σb, Hb, sb, Ib, c⟩ := h
  obtain ⟨a, G, sI, pins, σ, H, cls, d, hu, I, nb, up, sky, na, os, ag, hE⟩ := XE.of_call (W := fun cls d _ H' => E cls d H') Ib (fun _ _ _ h => h) c
  refine ⟨a, G, sI, pins, σ, H, cls, d, hu, I, nb, up, ?_, na, os, ag, hE⟩
  obtain ⟨a', _, _, _, _, e, ⟨_, _, _, oe, vs, T, oT, ts, h1, _, h2, h3, _, _, h5, h6, h7⟩, _⟩ := c
  rw [hu] at e
  cases e
  rcases sky with ⟨_, _, _, oe2, vs2, j1, _, j2, j3⟩ | fl | ⟨_, _, _, oe2, vs2, T2, oT2, ts2, j1, _, j2, j3, _, _, j5, j6, j7⟩
  · rw [h1] at j1
    cases j1
    rw [h2] at j2
    cases j2
    rw [h3] at j3
    cases j3
  · exact fl
  · rw [h1] at j1
    cases j1
    rw [h2] at j2
    cases j2
    rw [h3] at j3
    cases j3
    rw [h5] at j5
    cases j5
    rw [h6] at j6
    cases j6
    rw [h7] at j7
    cases j7
section
variable {X : Cx} {pins : List (Addr × Obj)} {σ : L2.St} {H3 : Hp} {s3 : Shared}
theorem blk_out {W : WX} {E : XK} {E₁ : Value → Shared → Prop} {scope : Scope} {ce : Env} {fp : List Addr} {u : Value} {s' : Shared} (I3 : Inv X pins σ H3 s3) (hs : X.stack = X.env :: X.outer) (hf : X.env.frame = some X.env.locals) (tk : Takes X W) (hW : ∀ cls d H', E cls d H' → W cls d σ H')
    (hcf : ce.frame = X.env.frame) (hC : ce.locals = s3.heap.objs.size) (hfp : ∀ b ∈ fp, FpOk X pins H3 b) (h : airB (X.blk s3 H3 scope ce fp) E u s') :
    wpAny (model X.prog X.w) X.A (noteFrame u ce) (fun _ s2 => CompFails (model X.prog X.w) X.A X.xe ce u s2) E₁ s' := by
  obtain ⟨a, G, sI, pb, σb, H, cls, d, rfl, I, nb, up, fl, na, os, ag, hE⟩ := airB_fly h
  have fl : HandSPX.FlyingZ G (X.env :: X.outer) a (Zc cls d) s'.heap := by rw [← hs]; exact fl
  rw [note_frame hcf]
  refine HandSPX.looks_onZ Zc.steady (by rw [I3.ok.frames, hs]) hf fl fun h1 hh up1 => ?_
  obtain ⟨m, ⟨oc, es, ep, hoc, hdc, hsk, hnf⟩, _⟩ := I.loc
  have hoc : sI.heap.get? ce.locals = some oc := hoc
  have up2 := up.trans up1
  obtain ⟨sl, hc1⟩ := up2 _ _ hoc (fun vs z => by rw [hdc] at z; cases z)
  refine ⟨m, ⟨_, es, ep, hc1, hdc, hsk, hnf⟩, fun h2 m' _ sb => ?_⟩
  have nC : H ce.locals = none := I.free
  obtain ⟨G2, p1, p2⟩ := restrict G fun b => decide (b ≠ ce.locals)
  obtain ⟨S2, q1, q2⟩ := restrict sI.heap fun b => decide (b ≠ ce.locals)
  have gg : ∀ b o, G2.get? b = some o → b ≠ ce.locals ∧ G.get? b = some o := fun b o e => by
    by_cases hb : b = ce.locals
    · rw [p2 b (decide_eq_false (fun n => n hb))] at e
      cases e
    · rw [p1 b (decide_eq_true hb)] at e
      exact ⟨hb, e⟩
  have gn : ∀ b, G.get? b = none → G2.get? b = none := fun b e => by
    cases q : G2.get? b with
    | none => rfl
    | some o =>
      have := (gg b o q).2
      rw [e] at this
      cases this
  have ss : ∀ b o, S2.get? b = some o → b ≠ ce.locals ∧ sI.heap.get? b = some o := fun b o e => by
    by_cases hb : b = ce.locals
    · rw [q2 b (decide_eq_false (fun n => n hb))] at e
      cases e
    · rw [q1 b (decide_eq_true hb)] at e
      exact ⟨hb, e⟩
  obtain ⟨k1, k2, k3, oe, vs, T, oT, ts, t1, t2, t3, t4, t5, t6, t7, t8, t9⟩ := hh
  have neC : ∀ {b o ws}, h1.get? b = some o → o.data = .fields ws → b ≠ ce.locals := fun {b o ws} e z n => by
    rw [n, hc1] at e
    cases e
    have z : oc.data = .fields ws := z
    rw [hdc] at z
    cases z
  have h12 : ∀ b, b ≠ ce.locals → h2.get? b = h1.get? b := fun b hb => sb.2 b hb
  have hh2 : HandSPX.HeldZ G2 (X.env :: X.outer) a (Zc cls d) X.env.locals h2 := by
    refine ⟨fun b o e => ?_, gn _ k2, ?_, oe, vs, T, oT, ts, ?_, t2, t3, t4, gn _ t5, t6, ?_, t8, t9⟩
    · obtain ⟨hb, e⟩ := gg b o e
      rw [h12 b hb]
      exact k1 b o e
    · have fr : ∀ L ∈ frs (X.env :: X.outer), L ≠ ce.locals := fun L hL => by
        rw [← hs] at hL
        intro e
        rw [hC] at e
        have z := I3.stack.mem hL
        obtain ⟨_, o, ho, _⟩ := z
        exact absurd (Heap.lt_size ho) (by rw [e]; exact Nat.lt_irrefl _)
      have go : ∀ l : List Env, (∀ L ∈ frs l, L ≠ ce.locals) → h1.FunFrames G l → h2.FunFrames G2 l := by
        intro l
        induction l with
        | nil => exact fun _ _ => trivial
        | cons e l ih =>
          intro hn hl
          obtain ⟨z1, ⟨L, o, z2, z3, z4, z5⟩, z6⟩ := hl
          have hL : L ∈ frs (e :: l) := List.mem_filterMap.mpr ⟨e, List.mem_cons_self, z2⟩
          exact ⟨z1, ⟨L, o, z2, gn _ z3, by rw [h12 L (hn L hL)]; exact z4, z5⟩, ih (fun L' hL' => hn L' (by
            obtain ⟨e', he', w⟩ := List.mem_filterMap.mp hL'
            exact List.mem_filterMap.mpr ⟨e', List.mem_cons_of_mem _ he', w⟩)) z6⟩
      exact go _ fr k3
    · rw [h12 a (neC t1 t3)]
      exact t1
    · rw [h12 T (neC t7 t8)]
      exact t7
  have J0 : Inv X pins σ H sI := I3.call' (ch := fp) I.os I.base I.hok I.bare fun b hb => ⟨(hfp b hb).2.2.2.1, (hfp b hb).2.1, (hfp b hb).2.2.2.2.1, (hfp b hb).2.2.2.2.2⟩
  obtain ⟨f0, f1, f2, f3, f4, f5⟩ : FpOk X pins H ce.locals := I3.fpOk (by rw [hC]; exact Nat.le_refl _) nC
  have J := J0.turned (t' := sI.toks) (h' := S2) (it := ce.locals) (fun b o hb e => (q1 b (decide_eq_true hb)).trans e) f0 f1 f3 f4 f5
  have hfr : ce.frame = some X.env.locals := hcf.trans hf
  unfold PySem.passOn
  refine wpAny_bind (wpAny_field (s := { s' with heap := h2 }) (by show h2.get? a = _; rw [h12 a (neC t1 t3)]; exact t1) t3 t4 ?_)
  rw [if_neg (show ¬ ((Value.ref T == Value.none) = true) from by simp)]
  refine wpAny_bind ?_
  rw [hfr]
  refine HandSPX.setFlight_onZ (s := { s' with heap := h2 }) hh2 fun h4 hh4 up4 => wpAny_throw (tk _ _ ⟨a, G2, { sI with heap := S2, toks := sI.toks }, pins, σ, H, cls, d, rfl, J, fun b o e hb => ?_, fun b o e hnf => ?_, .inr (.inr (by rw [hs]; exact hh4)), na, os, ag, hW _ _ _ hE⟩)
  · obtain ⟨hbc, e⟩ := ss b o e
    rw [p1 b (decide_eq_true hbc)]
    exact nb b o e hb
  · obtain ⟨hbc, e⟩ := ss b o e
    obtain ⟨sl2, e2⟩ := up2 b o e hnf
    rw [← h12 b hbc] at e2
    obtain ⟨sl3, e3⟩ := up4 b _ e2 hnf
    exact ⟨sl3, e3⟩
end
end Sm
set_option maxRecDepth 10000000
namespace Sm
open PySem PySem.Spec PyProof.Rows L2 Evl CrT Cr
section
variable {B : Cx} {τ : L2.St} {vs : List Nat} {fp : List Addr} {it : Addr} {tn : Nat → Heap → Prop} {J : It} {tg elt : Expr} {ifs : List Expr} {g : TG} {tt : TT} {te : TE} {E : XK} {R : Result → Shared → Prop} {D : Addr}
def Stand (B : Cx) (τ : L2.St) (fp : List Addr) (tn : Nat → Heap → Prop) (M : Nat → Nat → Hp → Prop) (n : Nat) (s : Shared) : Prop := ∃ i H, Inv B [] τ H s ∧ tn i s.heap ∧ (∀ b ∈ fp, H b = none) ∧ M i n H
theorem blk_fp (hex : B.ex = fp) (hpn : B.pn = []) {σ' : L2.St} {H' : Hp} {s' : Shared} (I : Inv B [] σ' H' s') (hn : ∀ b ∈ fp, H' b = none) : ∀ b ∈ fp, FpOk B [] H' b := fun b hb => by
  have hx : b ∈ B.ex := by rw [hex]; exact hb
  refine ⟨hn b hb, (I.ok.exf b hx).1, I.ok.exfs b hx, .inl hx, fun x c e => (I.ok.exf b hx).2 x c e, fun p hp => ?_⟩
  rw [hpn] at hp
  cases hp
theorem turn_back {M : Nat → Nat → Hp → Prop} {n i : Nat} {σ8 : L2.St} {H' : Hp} {s7 s' : Shared} (hpn : B.pn = []) (T : Turn B.prog B.w B.K tg J fp it tn) (hw : wipe σ8 vs = wipe τ vs) (st7 : tn (i + 1) s7.heap) (I : Inv B ([] ++ pinsAt fp s7.heap) σ8 H' s') (h : ∃ m, m < n ∧ M (i + 1) m H') : ∃ m, m < n ∧ Stand B (wipe τ vs) fp tn M m s' := by
  obtain ⟨m, hm, hM⟩ := h
  have pin : ∀ b ∈ fp, ∀ o, s7.heap.get? b = some o → s'.heap.get? b = some o ∧ H' b = none := fun b hb o e =>
    have z := I.pin (b, o) (List.mem_append_right _ (List.mem_append_right _ (mem_pinsAt hb e)))
    ⟨z.1, z.2.1⟩
  refine ⟨m, hm, i + 1, H', (I.unpinned (pins := [])).weak (by rw [wipe_length, ← wipe_length σ8 vs, hw, wipe_length]) (fun j v e => ?_), T.keep _ _ _ st7 fun b hb o e => (pin b hb o e).1, fun b hb => ?_, hM⟩
  · rw [← hw] at e
    exact (wipe_some e).1
  · obtain ⟨o, e, _⟩ := T.obj _ _ st7 b hb
    exact (pin b hb o e).2
theorem blk_turn {M : Nat → Nat → Hp → Prop} {Pd : Hp → Prop} {n : Nat} {s : Shared} (hc : B.calm = true) (hex : B.ex = fp) (hpn : B.pn = []) (hxe : B.xe = fun _ _ => False) (T : Turn B.prog B.w B.K tg J fp it tn) (pg : PG B tg g) (pt : PTs B ifs tt) (pe : PE ({ B with xe := airB B E } : Cx) elt te)
    (hr : ∀ u s', airB B E u s' → notedBy (model B.prog B.w) B.A B.env (fun e s' => R (.error e) s') u s')
    (ht : ∀ i m H, M i m H → (J.stop i H ∧ Pd H) ∨ (J.go i H ∧ ∃ Nx : Hp → Prop, (∀ H', Nx H' → ∃ m', m' < m ∧ M (i + 1) m' H') ∧ ∀ x H', J.yld i H x H' → g x (wipe τ vs) H' fun σ2 H2 => wipe σ2 vs = wipe τ vs ∧ tt σ2 H2 fun b H3 =>
      if b = true then te σ2 H3 fun y H4 => ∃ acc, H4 D = some (.lst acc) ∧ acc.length < sizeLine ∧ Nx (upd H4 D (.lst (acc ++ [y]))) else Nx H3))
    (hd : ∀ H s', Inv B [] (wipe τ vs) H s' → Pd H → R (.ok .next) s') (h : Stand B (wipe τ vs) fp tn M n s) :
    wpAny (model B.prog B.w) B.A (pyNext (.ref it)) (fun r s₁ => match r with
      | none => R (.ok .next) s₁
      | some v => wpAny (model B.prog B.w) B.A (letOwnedTupleGo tg (.ref it) v) (fun _ s₁' => wpAny (model B.prog B.w) B.A (assign tg B.env v) (fun _ s₂ =>
          wpAny (model B.prog B.w) B.A (forIn ifs true fun c r => if r = true then do let ok ← isTrue c B.env (eval c B.env); pure (ForInStep.yield ok) else pure (ForInStep.yield r)) (fun ok s₃ =>
            if ok = true then wpAny (model B.prog B.w) B.A (eval elt B.env) (fun x s₄ =>
              wpAny (model B.prog B.w) B.A (call (.builtin "list.append") [.ref D, x]) (fun _ s₅ => ∃ m, m < n ∧ Stand B (wipe τ vs) fp tn M m s₅) (notedBy (model B.prog B.w) B.A B.env fun e s' => R (.error e) s') s₄) (notedBy (model B.prog B.w) B.A B.env fun e s' => R (.error e) s') s₃
            else ∃ m, m < n ∧ Stand B (wipe τ vs) fp tn M m s₃) (notedBy (model B.prog B.w) B.A B.env fun e s' => R (.error e) s') s₂) (notedBy (model B.prog B.w) B.A B.env fun e s' => R (.error e) s') s₁') (notedBy (model B.prog B.w) B.A B.env fun e s' => R (.error e) s') s₁) (notedBy (model B.prog B.w) B.A B.env fun e s' => R (.error e) s') s := by
  obtain ⟨i, H, I, st, nf, hM⟩ := h
  rcases ht i n H hM with ⟨stop, pd⟩ | ⟨go, Nx, hNx, step⟩
  · refine thnF (T.done B rfl rfl rfl hc i [] s _ H (fun _ _ => False) I (blk_fp hex hpn I nf) st stop) fun r s1 ⟨e, I1⟩ => ?_
    subst e
    exact hd _ _ I1 pd
  · refine thnF (T.item B rfl rfl rfl hc i [] s _ H (fun _ _ => False) I (blk_fp hex hpn I nf) st go) fun r s1 ⟨u, e, h1⟩ => ?_
    subst e
    refine thnF h1 fun _ s2 ⟨x, H2, I2, rx, y2, st2, n2⟩ => ?_
    have P2 := I2.pinned (blk_fp hex hpn I2 n2) (T.obj _ _ st2)
    have g1 := pg.run _ s2 _ H2 x u _ P2 rx (step x H2 y2)
    have hF : ∀ {α : Type} {t : Sem α} {Q' Q2 : α → Shared → Prop} {s0 : Shared}, wpAny (model B.prog B.w) B.A t Q' B.xe s0 → (∀ a s, Q' a s → Q2 a s) → wpAny (model B.prog B.w) B.A t Q2 (notedBy (model B.prog B.w) B.A B.env fun e s' => R (.error e) s') s0 := fun hh hq => by
      rw [hxe] at hh
      exact thnF hh hq
    refine hF g1 fun _ s3 ⟨σ3, H3, I3, hw3, q3⟩ => ?_
    refine hF (pt.run _ s3 σ3 H3 _ I3 q3) fun b s4 ⟨H4, I4, q4⟩ => ?_
    cases b with
    | false =>
      rw [if_neg (by decide)] at q4 ⊢
      exact turn_back hpn T hw3 st2 I4 (hNx _ q4)
    | true =>
      rw [if_pos rfl] at q4 ⊢
      have g5 := pe.run _ s4 σ3 H4 _ (invXe I4) q4
      refine wpAny_mono g5 (fun z s5 ⟨yv, H5, I5, r5, acc, hD5, hz5, nx⟩ => ?_) hr
      have I5 : Inv B ([] ++ pinsAt fp s2.heap) σ3 H5 s5 := by
        have := invXe (f := B.xe) I5
        exact this
      exact app_ok (X := B) I5 hD5 hz5 r5 fun s6 I6 => turn_back hpn T hw3 st2 I6 (hNx _ nx)
end
section
variable {X : Cx} {W : WX}
def tLcX (wi : TI) (g : TG) (tt : TT) (te : XK → TE) (vs : List Nat) (W : WX) : TE := fun σ H Q => tLc wi g tt (te fun cls d H' => W cls d σ H') vs σ H Q
theorem lcx_core {pins : List (Addr × Obj)} {s : Shared} {σ : L2.St} {H : Hp} {Q : VK} {elt tg iter : Expr} {ifs : List Expr} {scope : Scope} {own : List (Str × Nat)} {pos pos' : Pos} {wi : TI} {g : TG} {tt : TT} {te : XK → TE} {use : Option (Value → Sem Unit)} {Qf : Value → Shared → Prop}
    (hc : X.calm = true) (hs0 : X.stack = X.env :: X.outer) (hf : X.env.frame = some X.env.locals) (tk : Takes X W) (hN : X.N.Nodup) (I : Inv X pins σ H s) (hi : PI X tg iter wi) (ok : BlkOk X.N X.env.scope scope own)
    (hg : ∀ (s : Shared) (H : Hp) (C : Addr) (cl : List (Str × Addr)) (fp : List Addr), PG (X.blk s H scope (compEnvC scope cl C X.env) fp) tg g) (ht : ∀ (s : Shared) (H : Hp) (C : Addr) (cl : List (Str × Addr)) (fp : List Addr), PTs (X.blk s H scope (compEnvC scope cl C X.env) fp) ifs tt)
    (he : ∀ (s : Shared) (H : Hp) (C : Addr) (cl : List (Str × Addr)) (fp : List Addr) (E : XK), PE (blkX X s H scope (compEnvC scope cl C X.env) fp E) elt (te E)) (hs : ∀ x, foldedSetIterable iter X.env x = pure x)
    (h : tLcX wi g tt te (own.map (·.2)) W σ H Q)
    (hR : ∀ D ce s' m H', Inv X pins σ H' s' → Q (.ref D) H' → s'.heap.Ns ce.locals m → FpOk X pins H' ce.locals → compEnds (model X.prog X.w) X.A X.xe use Qf (.ref D) ce (.ok .next) s') :
    wpAny (model X.prog X.w) X.A (comprehension (.ListComp elt [⟨tg, iter, ifs, 0⟩] scope pos) scope X.env pos' (newList []) false (eval iter X.env) use) Qf X.xe s := by
  have hfree : ∀ y ∈ scope.names, y.2 = .free → ∃ c, X.env.cells.lookup y.1 = some c := fun y hy e => (ok.free y hy e).elim (fun k => I.ok.has _ (.inl k)) (fun k => I.ok.has _ (.inr k))
  have h : wi σ H _ := h
  refine comprehension_at (use := use) rfl hs (closure_ok hfree) ok.kind (fun y hy e => by rw [ok.uniq y hy, e]) (thn (hi.run pins s σ H _ I h) fun xv s1 hx => thn hx fun itv s2 ⟨it, fp, tn, J, H2, e, I2, T, st2, f2, q⟩ => ?_)
  subst e
  refine wpAny_newObj_type (newEnv_comp ?_) (by show 0 ≤ sizeLine; decide)
  obtain ⟨D, hD⟩ : ∃ D, D = s2.heap.objs.size := ⟨_, rfl⟩
  rw [← hD]
  obtain ⟨M, ⟨m0, w0⟩, turn⟩ := q D (I2.hok.fresh (Nat.le_of_eq hD.symm))
  obtain ⟨s3, h3⟩ : ∃ s3 : Shared, s3 = { s2 with heap := s2.heap.push { cls := .type "list", data := .seq ([] : List Value).toArray } } := ⟨_, rfl⟩
  have e3 : s3.heap = s2.heap.push { cls := .type "list", data := .seq ([] : List Value).toArray } := by rw [h3]
  have I3 : Inv X pins σ (upd H2 D (.lst [])) s3 := by
    rw [h3]
    refine I2.laid (t' := s2.toks) (fun b o e => Heap.get?_push_of_some _ e) (Nat.le_of_eq hD.symm) ⟨Nat.zero_le _, [], 0, .nil, ?_⟩
    rw [hD]
    exact Heap.get?_push_size _ rfl
  have low : ∀ b ∈ fp, b < s2.heap.objs.size := fun b hb => by
    obtain ⟨o, e, _⟩ := T.obj _ _ st2 b hb
    exact Heap.lt_size e
  have f3 : ∀ b ∈ fp, FpOk X pins (upd H2 D (.lst [])) b ∧ b < s3.heap.objs.size := fun b hb => by
    have hb2 := low b hb
    refine ⟨⟨by rw [upd_ne (by rw [hD]; exact Nat.ne_of_lt hb2)]; exact (f2 b hb).1, (f2 b hb).2⟩, by rw [e3, Heap.size_push]; exact Nat.lt_succ_of_lt hb2⟩
  have st3 : tn 0 s3.heap := T.keep _ _ _ st2 fun b _ o e => by rw [e3]; exact Heap.get?_push_of_some _ e
  have I4 := block_start I3 ok hN f3
  obtain ⟨cl, hcl⟩ : ∃ cl, cl = cellsFrom (s3.heap.objs.size + 1) scope.names (cloFrom X.env.cells scope.names []) := ⟨_, rfl⟩
  obtain ⟨ce, hce⟩ : ∃ ce, ce = compEnvC scope cl s3.heap.objs.size X.env := ⟨_, rfl⟩
  rw [← hcl, ← hce] at I4
  obtain ⟨s4, h4⟩ : ∃ s4 : Shared, s4 = { s3 with heap := pushCells (s3.heap.push { cls := .type "dict", data := .dict #[] }) scope.names } := ⟨_, rfl⟩
  rw [← h4] at I4
  have goal : codeAny (model X.prog X.w) X.A (.compStart (.ListComp elt [⟨tg, iter, ifs, 0⟩] scope pos) 0 (.ref it) (.ref D) ce) (compEnds (model X.prog X.w) X.A X.xe use Qf (.ref D) ce) s4 := by
    have cL : ce.locals = s3.heap.objs.size := by rw [hce]; rfl
    have st4 : tn 0 s4.heap := T.keep _ _ _ st3 fun b _ o e => by rw [h4]; exact pushCells_keeps _ _ _ _ (Heap.get?_push_of_some _ e)
    have pg := hg s3 (upd H2 D (.lst [])) s3.heap.objs.size cl fp
    have pt := ht s3 (upd H2 D (.lst [])) s3.heap.objs.size cl fp
    have pe := he s3 (upd H2 D (.lst [])) s3.heap.objs.size cl fp fun cls d H' => W cls d σ H'
    rw [← hce] at pg pt pe
    have loop : codeAny (model X.prog X.w) X.A (.compLoop (.ListComp elt [⟨tg, iter, ifs, 0⟩] scope pos) 0 (.ref it) (.ref D) ce) (compEnds (model X.prog X.w) X.A X.xe use Qf (.ref D) ce) s4 := by
      refine compLoop_any (fun n s' => Stand (X.blk s3 (upd H2 D (.lst [])) scope ce fp) (wipe σ (own.map (·.2))) fp tn M n s') (fun n s5 stand => ?_) m0 ⟨0, _, I4, st4, fun b hb => (f3 b hb).1.1, w0⟩
      exact blk_turn (B := X.blk s3 (upd H2 D (.lst [])) scope ce fp) (Pd := fun H' => Q (.ref D) H') hc rfl rfl rfl T pg pt pe (fun u s' air => blk_out I3 hs0 hf tk (fun _ _ _ w => w) (by rw [hce]; rfl) cL (fun b hb => (f3 b hb).1) air) turn (fun H' s' I' pd => by
        have nC : H' ce.locals = none := I'.free
        obtain ⟨m, hn, _⟩ := I'.loc
        have I7 : Inv X pins σ H' s' := I3.call' (ch := fp) I'.os I'.base I'.hok I'.bare fun b hb => ⟨(f3 b hb).1.2.2.2.1, (f3 b hb).1.2.1, (f3 b hb).1.2.2.2.2.1, (f3 b hb).1.2.2.2.2.2⟩
        exact hR D ce s' m H' I7 pd hn (I3.fpOk (by rw [cL]; exact Nat.le_refl _) nC)) stand
    exact codeAny_compStart_list loop (T.self X.A 0 _ _ _ st4 loop)
  rw [h4, hce, hcl, h3] at goal
  rw [hD] at goal ⊢
  exact goal
theorem ps_setLcX {i : Nat} {y : Str} {py : Pos} {elt tg iter : Expr} {ifs : List Expr} {scope : Scope} {own : List (Str × Nat)} {pos spos : Pos} {wi : TI} {g : TG} {tt : TT} {te : XK → TE} (hc : X.calm = true) (hs0 : X.stack = X.env :: X.outer) (hf : X.env.frame = some X.env.locals) (tk : Takes X W) (hN : X.N.Nodup) (hy : X.N[i]? = some y) (hyl : X.env.scope.names.lookup y = some .local)
    (hsw : swapsWith (.ListComp elt [⟨tg, iter, ifs, 0⟩] scope pos) (some (.Name y py)) spos.line X.env = pure true) (hi : PI X tg iter wi) (ok : BlkOk X.N X.env.scope scope own)
    (hg : ∀ (s : Shared) (H : Hp) (C : Addr) (cl : List (Str × Addr)) (fp : List Addr), PG (X.blk s H scope (compEnvC scope cl C X.env) fp) tg g) (ht : ∀ (s : Shared) (H : Hp) (C : Addr) (cl : List (Str × Addr)) (fp : List Addr), PTs (X.blk s H scope (compEnvC scope cl C X.env) fp) ifs tt)
    (he : ∀ (s : Shared) (H : Hp) (C : Addr) (cl : List (Str × Addr)) (fp : List Addr) (E : XK), PE (blkX X s H scope (compEnvC scope cl C X.env) fp E) elt (te E)) (hs : ∀ x, foldedSetIterable iter X.env x = pure x := by intro _; rfl) :
    PS X (.Assign [.Name y py] (.ListComp elt [⟨tg, iter, ifs, 0⟩] scope pos) spos) (tAsg (tLcX wi g tt te (own.map (·.2)) W) (gName i)) := by
  refine ⟨fun pins s σ H Dn I h => ?_⟩
  rw [exec_Assign_Name_used _ _ _ _ hsw]
  refine wpAny_bind (wpAny_standAt (wpAny_bind ?_))
  show wpAny _ X.A (do let _ ← comprehension (.ListComp elt [⟨tg, iter, ifs, 0⟩] scope pos) scope X.env (firstIterPos [⟨tg, iter, ifs, 0⟩] pos) (newList []) false (eval iter X.env) (some (assign (.Name y py) X.env))) _ _ s
  have h : tLcX wi g tt te (own.map (·.2)) W σ H (fun x H1 => gName i x σ H1 Dn.nx) := h
  refine wpAny_bind (thn (lcx_core (Qf := fun _ s' => SP X pins Dn .next s') hc hs0 hf tk hN I hi ok hg ht he hs h fun L ce s' m H' I' q hn ⟨f0, f1, f2, f3, f4, f5⟩ => ?_) fun _ s' hq => wpAny_pure (wpAny_pure hq))
  refine wpAny_assign_Name (store_ok2 (v := V.ref L) I' hN hy (.inl hyl) rfl (fun s2 I2 ⟨a, sb, ha⟩ => ?_) (.inr hyl))
  have hne : ce.locals ≠ a := ha.elim (fun z => by rw [z]; exact f1) (fun z e => f4 y a z e.symm)
  exact ⟨m, hn.sameBut sb hne, fun h3 sb3 => ⟨_, H', I2.turned (t' := s2.toks) (fun b o hb e => (sb3.2 b hb).trans e) f0 f1 f3 f4 f5, q⟩⟩
end
end Sm
set_option maxRecDepth 10000000
namespace Sm
open PySem PySem.Spec PyProof.Rows L2 Evl CrT Cr
def cStepX (g : PyData → List Sl → Option (List Sl)) (t : FT) (e : FEX) (ρ : List Sl) : PyData → Option (Option OutE) := fun d => (g d ρ).bind fun ρ1 => (t ρ1).bind fun b => if b then (e ρ1).bind fun y => some (some y) else some none
def compMX (step : PyData → Option (Option OutE)) : List PyData → Option (List PyData ⊕ Err)
  | [] => some (.inl [])
  | d :: ds => (step d).bind fun
    | none => compMX step ds
    | some (.inl y) => (compMX step ds).bind fun
      | .inl r => some (.inl (y :: r))
      | .inr e => some (.inr e)
    | some (.inr e) => some (.inr e)
def xComp (fi : FA) (g : PyData → List Sl → Option (List Sl)) (t : FT) (e : FEX) (vs : List Nat) : FEX := fun ρ => (fi ρ).bind fun ds => if ds.length ≤ 10000000 then (compMX (cStepX g t e (wpS ρ vs)) ds).bind fun
    | .inl r => some (.inl (.list r))
    | .inr e => some (.inr e)
  else none
def outL (done : List PyData) : List PyData ⊕ Err → OutE
  | .inl r => .inl (.list (done ++ r))
  | .inr e => .inr e
section
variable {K : PySem.W.Frag} {A : Atm} {T : ET} {W : WX} {wi : TI} {fi : FA} {tg : TG} {tt : TT} {ft : FT} {te : XK → TE} {fe : FEX} {gg : PyData → List Sl → Option (List Sl)} {ws vs : List Nat}
theorem sx_callE {E : XK} {fn : FnX} {tas : TA} {fas : FA} (h : SA K A tas fas) : SEX K A T (fun cls d _ H => E cls d H) (tCallS (spX K A T fn) (fun _ => E) tas) (xCall fn fas) := sx_call (W := fun cls d _ H => E cls d H) h
theorem sx_lc (hi : SI K A wi fi) (hg : SG K A tg gg ws) (hsub : ∀ i ∈ ws, i ∈ vs) (ht : ST K A tt ft) (he : ∀ E : XK, SEX K A T (fun cls d _ H => E cls d H) (te E) fe) : SEX K A T W (tLcX wi tg tt te vs W) (xComp fi gg ft fe vs) := fun {H0 O0 O σ H ρ} r o ho Q q => by
  obtain ⟨ds, h1, h2⟩ := bind_some' ho
  split at h2
  case isFalse => cases h2
  rename_i hlen
  obtain ⟨w0, h3, h4⟩ := bind_some' h2
  have ho : o = outL [] w0 := by
    cases w0 with
    | inl r => cases h4; rfl
    | inr e => cases h4; rfl
  refine hi r ds h1 _ fun J H1 e1 wk Dl hD => ?_
  obtain ⟨G, Y, w, hw⟩ := wk
  have r1 := (r.same e1).wipe vs
  refine lc_it w (D := Dl) (fun i H' => ∃ acc done rest, Same H1 H' ∧ H' Dl = some (.lst acc) ∧ Fds K A (Osn O Dl) H' acc done ∧ done.length ≤ i ∧ compMX (cStepX gg ft fe (wpS ρ vs)) (ds.drop i) = some rest ∧ o = outL done rest) ⟨[], [], w0, Cr.same_new hD, upd_same, .nil, Nat.le_refl _, h3, ho⟩ (fun i H' _ hP => ?_) (fun i x H' H2 hi' hP hy => ?_) (fun H' hP => ?_)
  · obtain ⟨acc, done, rest, e, _⟩ := hP
    exact (hw O H' (r1.owl.same e) (.same e)).1
  · obtain ⟨acc, done, rest, e, hDl, hacc, hdl, hc, hrs⟩ := hP
    have r2 := r1.osn hD e hDl
    have ev : Evo O H1 (Osn O Dl) H' := fun a o ha hn => ⟨e _ _ ha, fun h => by
      rcases h with h | h
      · rw [h, hD] at ha
        cases ha
      · exact hn h⟩
    obtain ⟨e2, d, hd, hx⟩ := (hw (Osn O Dl) H' r2.owl ev).2 i x H2 hi' hy
    have hlt := (List.getElem?_eq_some_iff.mp hd).1
    have hdr : ds.drop i = d :: ds.drop (i + 1) := by
      obtain ⟨hlt, rfl⟩ := List.getElem?_eq_some_iff.mp hd
      exact List.drop_eq_getElem_cons hlt
    rw [hdr] at hc
    obtain ⟨o1, hs1, hs2⟩ := bind_some' hc
    obtain ⟨ρ1, hs5, hs6⟩ := bind_some' hs1
    obtain ⟨b, hs7, hs8⟩ := bind_some' hs6
    refine hg (r2.same e2) hx ρ1 hs5 _ fun σ2 r3 l3 k3 _ => ⟨?_, ht r3 b hs7 _ fun H3 e3 => ?_⟩
    · rw [wipe_ext (σ := L2.wipe σ vs) (by rw [l3]) (fun i hi => k3 i fun h => hi (hsub i h)), wipe_wipe]
    · cases b with
      | true =>
        obtain ⟨y, hy1, hy2⟩ := bind_some' (show ((fe ρ1).bind fun y => some (some y)) = some o1 from hs8)
        cases hy2
        refine iteT (he _ (r3.same e3) y hy1 _ ?_)
        cases y with
        | inr er =>
          cases hs2
          refine fun d' H4 e4 hE => ?_
          have e24 := (e2.trans e3).trans e4
          rw [hrs] at q
          exact q d' H4 (e1.trans (e.trans e24)) (hE.less fun a h => .inr h)
        | inl y =>
          refine fun v H4 e4 hv => ?_
          have e24 := (e2.trans e3).trans e4
          have hD4 : H4 Dl = some (.lst acc) := e24 _ _ hDl
          have hacc4 := hacc.same e24
          have ho4 : Owl (Osn O Dl) H4 := r2.owl.same e24
          have ev4 : Evo (Osn O Dl) H4 (Osn O Dl) (upd H4 Dl (.lst (acc ++ [v]))) := fun a o ha hn => ⟨by
            rw [upd_ne (fun e => hn (.inl e))]
            exact ha, hn⟩
          obtain ⟨w2, hs3, hs4⟩ := bind_some' hs2
          refine ⟨acc, hD4, ?_, acc ++ [v], done ++ [y], w2, ?_, upd_same, (hacc4.snoc hv).evo ho4 ev4, ?_, hs3, ?_⟩
          · have h6 : acc.length = done.length := hacc.1
            exact Nat.lt_of_lt_of_le (show acc.length < 10000000 by omega) (by decide)
          · exact Cr.same_mut (e.trans e24) hD
          · rw [List.length_append, List.length_singleton]
            omega
          · rw [hrs]
            cases w2 with
            | inl r =>
              cases hs4
              show (Sum.inl _ : OutE) = Sum.inl _
              rw [List.append_assoc]
              rfl
            | inr e =>
              cases hs4
              rfl
      | false =>
        cases hs8
        exact iteF ⟨acc, done, rest, e.trans (e2.trans e3), (e2.trans e3) _ _ hDl, hacc.same (e2.trans e3), by omega, hs2, hrs⟩
  · obtain ⟨acc, done, rest, e, hDl, hacc, _, hc, hrs⟩ := hP
    rw [List.drop_length] at hc
    cases hc
    rw [hrs] at q
    have q : ∀ v H', Same H H' → Fd K A O H' v (.list (done ++ [])) → Q v H' := q
    rw [List.append_nil] at q
    exact q _ H' (e1.trans e) ((hacc.less fun a h => .inr h).lst hDl (r1.owl.none hD))
def xLoop (gg : PyData → List Sl → Option (List Sl)) (fx : FSX) : List PyData → FSX
  | [], ρ => some (.inl (.nx, ρ))
  | d :: ds, ρ => (gg d ρ).bind fun ρ1 => (fx ρ1).bind fun
    | .inl (.nx, ρ2) => xLoop gg fx ds ρ2
    | .inl (.ct, ρ2) => xLoop gg fx ds ρ2
    | .inl (.bk, ρ2) => some (.inl (.nx, ρ2))
    | .inl (.rt d, ρ2) => some (.inl (.rt d, ρ2))
    | .inr e => some (.inr e)
def xFor (fi : FA) (gg : PyData → List Sl → Option (List Sl)) (fx : FSX) : FSX := fun ρ => (fi ρ).bind fun ds => xLoop gg fx ds ρ
theorem ssx_for {tb : TS} {fx : FSX} (hi : SI K A wi fi) (hg : SG K A tg gg ws) (hb : SSX K A T W tb fx) : SSX K A T W (tFor wi tg tb) (xFor fi gg fx) := fun {H0 O0 O σ H ρ} r o ho D p => by
  obtain ⟨ds, h1, h2⟩ := bind_some' ho
  refine hi r ds h1 _ fun J H1 e1 wk => ?_
  obtain ⟨G, Y, w, hw⟩ := wk
  have p : ∀ {O' : Addr → Prop} {H' : Hp}, Evo O H1 O' H' → PostX K A T H0 O0 O' H' W D o := fun ev => p.evo ((Evo.same e1).trans ev)
  refine for_it w (D := D) (fun i σ' H' => ∃ O' ρ', Rl K A H0 O0 O' σ' H' ρ' ∧ Evo O H1 O' H' ∧ xLoop gg fx (ds.drop i) ρ' = some o) ⟨O, ρ, r.same e1, .refl, h2⟩ (fun i σ' H' _ ⟨O', ρ', r', ev, _⟩ => (hw O' H' r'.owl ev).1) (fun i x σ' H' H2 hi hP hy => ?_) (fun σ' H' hP => ?_)
  · obtain ⟨O', ρ', r', ev, hl⟩ := hP
    obtain ⟨e2, d, hd, hx⟩ := (hw O' H' r'.owl ev).2 i x H2 hi hy
    obtain ⟨hlt, hdd⟩ := List.getElem?_eq_some_iff.mp hd
    rw [List.drop_eq_getElem_cons hlt, hdd] at hl
    obtain ⟨ρ1, h3, h4⟩ := bind_some' hl
    obtain ⟨o1, h5, h6⟩ := bind_some' h4
    refine hg (r'.same e2) hx ρ1 h3 _ fun σ2 r2 _ _ _ => ?_
    have ev2 : Evo O H1 O' H2 := ev.trans (.same e2)
    refine hb r2 o1 h5 _ ?_
    cases o1 with
    | inr e =>
      cases h6
      exact p ev2
    | inl o2 =>
      obtain ⟨fl, ρ2⟩ := o2
      cases fl with
      | nx => exact fun σ3 H3 O3 r3 ev3 => ⟨O3, ρ2, r3, ev2.trans ev3, h6⟩
      | ct => exact fun σ3 H3 O3 r3 ev3 => ⟨O3, ρ2, r3, ev2.trans ev3, h6⟩
      | bk =>
        cases h6
        exact p ev2
      | rt d' =>
        cases h6
        exact p ev2
  · obtain ⟨O', ρ', r', ev, hl⟩ := hP
    rw [List.drop_length] at hl
    cases hl
    exact p ev σ' H' O' r' .refl
end
def tfW (K : PySem.W.Frag) (H : Hp) (v1 v2 : V) : Prop := ∃ (x : Str) (i : Int), v1 = .str x ∧ x.length ≤ 1000 ∧ v2 = .int i ∧ i.natAbs < 1000
def okW (d1 d2 : PyData) : Bool := match d1, d2 with
  | .str x, .int i => decide (x.length ≤ 1000) && decide (i.natAbs < 1000)
  | _, _ => false
theorem okW_tf {K : PySem.W.Frag} {A : Atm} {O : Addr → Prop} {H : Hp} {v1 v2 : V} {d1 d2 : PyData} (h1 : Fd K A O H v1 d1) (h2 : Fd K A O H v2 d2) (h : okW d1 d2 = true) : tfW K H v1 v2 := by
  unfold okW at h
  split at h
  · obtain ⟨g1, g2⟩ := Bool.and_eq_true_iff.mp h
    exact ⟨_, _, h1.str_inv, of_decide_eq_true g1, h2.int_inv, of_decide_eq_true g2⟩
  · cases h
theorem log_small {i : Int} (h : i.natAbs < 1000) : i.natAbs.log2 < 1920 := Nat.lt_of_le_of_lt (Nat.log2_le_self _) (by omega)
end Sm
set_option maxRecDepth 10000000
namespace Sm
open PySem PySem.Spec PyProof.Rows L2 Evl CrT Cr
section
variable {K : PySem.W.Frag} {A : Atm} {T : ET} {W : WX}
theorem Rl.setUn {H0 : Hp} {O0 O : Addr → Prop} {σ : L2.St} {H : Hp} {ρ : List Sl} (r : Rl K A H0 O0 O σ H ρ) (i : Nat) (w : Option V) : Rl K A H0 O0 O (σ.set i w) H (ρ.set i .un) where
  len := by rw [List.length_set, List.length_set, r.len]
  val := fun j d hj => by
    by_cases hi : i = j
    · subst hi
      rw [List.getElem?_set, if_pos rfl] at hj
      split at hj <;> cases hj
    · rw [List.getElem?_set_ne hi] at hj ⊢
      exact r.val j d hj
  own := fun j d hj => by
    by_cases hi : i = j
    · subst hi
      rw [List.getElem?_set, if_pos rfl] at hj
      split at hj <;> cases hj
    · rw [List.getElem?_set_ne hi] at hj ⊢
      exact r.own j d hj
  inj := fun j k ds es p hj hk sj sk => by
    have hij : i ≠ j := fun e => by
      subst e
      rw [List.getElem?_set, if_pos rfl] at hj
      split at hj <;> cases hj
    have hik : i ≠ k := fun e => by
      subst e
      rw [List.getElem?_set, if_pos rfl] at hk
      split at hk <;> cases hk
    rw [List.getElem?_set_ne hij] at hj sj
    rw [List.getElem?_set_ne hik] at hk sk
    exact r.inj j k ds es p hj hk sj sk
  owl := r.owl
  frm := r.frm
  sub := r.sub
  old := r.old
  fz := r.fz.set i (fun _ _ => nofun)
def Hold (K : PySem.W.Frag) (A : Atm) (T : ET) (i : Nat) (a d : Addr) (e : Err) (O : Addr → Prop) (σ : L2.St) (H : Hp) : Prop := σ[i]? = some (some (.ref a)) ∧ ErrAt K A O H T e d
def SEP (K : PySem.W.Frag) (A : Atm) (T : ET) (i : Nat) (a d : Addr) (e : Err) (t : TE) (f : FE) : Prop := ∀ {H0 : Hp} {O0 O : Addr → Prop} {σ : L2.St} {H : Hp} {ρ : List Sl}, Rl K A H0 O0 O σ H ρ → Hold K A T i a d e O σ H → ∀ x, f ρ = some x → ∀ Q : VK, (∀ v H', Same H H' → Fd K A O H' v x → Q v H') → t σ H Q
def SAP (K : PySem.W.Frag) (A : Atm) (T : ET) (i : Nat) (a d : Addr) (e : Err) (t : TA) (f : FA) : Prop := ∀ {H0 : Hp} {O0 O : Addr → Prop} {σ : L2.St} {H : Hp} {ρ : List Sl}, Rl K A H0 O0 O σ H ρ → Hold K A T i a d e O σ H → ∀ ds, f ρ = some ds → ∀ Q : List V → Hp → Prop, (∀ vs H', Same H H' → Fds K A O H' vs ds → Q vs H') → t σ H Q
def STP (K : PySem.W.Frag) (A : Atm) (T : ET) (i : Nat) (a d : Addr) (e : Err) (t : TT) (f : FT) : Prop := ∀ {H0 : Hp} {O0 O : Addr → Prop} {σ : L2.St} {H : Hp} {ρ : List Sl}, Rl K A H0 O0 O σ H ρ → Hold K A T i a d e O σ H → ∀ b, f ρ = some b → ∀ Q : Bool → Hp → Prop, (∀ H', Same H H' → Q b H') → t σ H Q
def SSP (K : PySem.W.Frag) (A : Atm) (T : ET) (i : Nat) (a d : Addr) (e : Err) (t : TS) (f : FS) : Prop := ∀ {H0 : Hp} {O0 O : Addr → Prop} {σ : L2.St} {H : Hp} {ρ : List Sl}, Rl K A H0 O0 O σ H ρ → Hold K A T i a d e O σ H → ∀ o, f ρ = some o → ∀ D : Ends, Post K A H0 O0 O H D o → t D σ H
section
variable {i : Nat} {a d : Addr} {e : Err} {te te2 : TE} {ta : TA} {tt : TT} {ts tu : TS} {fe fe2 : FE} {fa : FA} {ft : FT} {fs fu : FS}
theorem Hold.same {O : Addr → Prop} {σ : L2.St} {H H' : Hp} (h : Hold K A T i a d e O σ H) (s : Same H H') : Hold K A T i a d e O σ H' := ⟨h.1, h.2.same s⟩
theorem sap_nil : SAP K A T i a d e tNil fNil := fun R _ => sa_nil R
theorem sap_cons (h : SEP K A T i a d e te fe) (h2 : SAP K A T i a d e ta fa) : SAP K A T i a d e (tCons te ta) (fCons fe fa) := fun {H0 O0 O σ H ρ} R hd ds hds Q q => by
  obtain ⟨x, h1, h3⟩ := bind_some' hds
  obtain ⟨xs, h4, h5⟩ := bind_some' h3
  cases h5
  exact h R hd x h1 _ fun v H1 e1 hv => h2 (R.same e1) (hd.same e1) xs h4 _ fun vs H2 e2 hvs => q _ H2 (e1.trans e2) (.cons (hv.same e2) hvs)
theorem sep_tup (h : SAP K A T i a d e ta fa) : SEP K A T i a d e (tTup ta) (fTup fa) := fun {H0 O0 O σ H ρ} R hh x hx Q q => by
  obtain ⟨ds, h1, h2⟩ := bind_some' hx
  obtain ⟨h3, rfl⟩ := lim_some h2
  exact h R hh ds h1 _ fun vs H1 e1 hvs => ⟨sz100 (by rw [hvs.1]; exact h3), fun p hp => q _ _ (e1.trans (Cr.same_new hp)) ((hvs.same (Cr.same_new hp)).tup (.of upd_same))⟩
theorem sep_f1 {n1 n2 : Str} (hT : (T e.c).2 = (n1, n2)) (hn : (n1 == n2) = false) : SEP K A T i a d e (tXf a (.ref (T e.c).1) (some d) (T e.c).1 n1 (tVar i)) (fC e.d1) := fun {H0 O0 O σ H ρ} R hh x hx Q q => by
  cases hx
  obtain ⟨h1, y1, y2, h2, h3, h4⟩ := hh
  rw [hT] at h2
  refine ⟨_, h1, rfl, rfl, d, _, y1, rfl, h2, ?_, q _ _ (.refl _) h3⟩
  rw [List.lookup_cons, hn, List.lookup_cons, show (n1 == n1) = true from by simp]
theorem sep_f2 {n1 n2 : Str} (hT : (T e.c).2 = (n1, n2)) : SEP K A T i a d e (tXf a (.ref (T e.c).1) (some d) (T e.c).1 n2 (tVar i)) (fC e.d2) := fun {H0 O0 O σ H ρ} R hh x hx Q q => by
  cases hx
  obtain ⟨h1, y1, y2, h2, h3, h4⟩ := hh
  rw [hT] at h2
  refine ⟨_, h1, rfl, rfl, d, _, y2, rfl, h2, ?_, q _ _ (.refl _) h4⟩
  rw [List.lookup_cons, show (n2 == n2) = true from by simp]
theorem ssp_ret (h : SEP K A T i a d e te fe) : SSP K A T i a d e (tRet te) (fRet fe) := fun {H0 O0 O σ H ρ} R hh o ho D p => by
  obtain ⟨x, h1, h2⟩ := bind_some' ho
  cases h2
  exact h R hh x h1 _ fun v H1 e1 hv => p v H1 (R.frm.trans e1) (hv.less R.sub)
end
def fTryAs (c i : Nat) (fx : FSX) (fh : Err → FS) : FS := fun ρ => (fx ρ).bind fun
  | .inl o => some o
  | .inr (e, ρ') => if e.c = c ∧ i < ρ'.length then (fh e (ρ'.set i .un)).map fun o => (o.1, o.2.set i .un) else none
theorem ss_tryAs {c i : Nat} {C : Addr} {tb : WX → TS} {ts : Addr → Value → Option Addr → TS} {fx : FSX} {fh : Err → FS} {Wout : WX} (hex : PySem.W.exmOne K (.ref (T c).1) (.ref C) = some true) (hb : ∀ W, SSX K A T W (tb W) fx) (hs : ∀ (a d : Addr) (d1 d2 : PyData), SSP K A T i a d ⟨c, d1, d2⟩ (ts a (.ref (T c).1) (some d)) (fh ⟨c, d1, d2⟩)) :
    SS K A (fun D σ H => tb (wAs K (.ref C) i ts Wout D) D σ H) (fTryAs c i fx fh) := fun {H0 O0 O σ H ρ} R o ho D p => by
  obtain ⟨r, h1, h2⟩ := bind_some' ho
  cases r with
  | inl o1 =>
    cases h2
    exact hb _ R _ h1 D p
  | inr o1 =>
    obtain ⟨⟨c', d1, d2⟩, ρ'⟩ := o1
    dsimp only at h2
    split at h2
    · rename_i hc
      obtain ⟨ec, hi⟩ := hc
      have ec : c' = c := ec
      subst ec
      obtain ⟨o2, h3, h4⟩ := Option.map_eq_some_iff.mp h2
      refine hb _ R _ h1 D fun σ' H' O' d' R' ev hE => ⟨true, hex, fun _ a _ => ?_, fun h => nomatch h⟩
      refine hs a d' d1 d2 (R'.setUn i _) ⟨by rw [List.getElem?_set_self (by rw [R'.len]; exact hi)], hE⟩ o2 h3 _ ?_
      have p : Post K A H0 O0 O' H' D o := p.evo ev
      subst h4
      obtain ⟨fl, ρ2⟩ := o2
      cases fl with
      | nx => exact fun σ2 H2 O2 R2 ev2 => p _ H2 O2 (R2.setUn i none) ev2
      | bk => exact fun σ2 H2 O2 R2 ev2 => p _ H2 O2 (R2.setUn i none) ev2
      | ct => exact fun σ2 H2 O2 R2 ev2 => p _ H2 O2 (R2.setUn i none) ev2
      | rt x => exact p
    · cases h2
structure ErrF (K : PySem.W.Frag) (C : Addr) (n1 n2 : Str) : Prop where
  xf : XfC K C
  h1 : PySem.W.findIn K (.ref C) n1 = some none
  h2 : PySem.W.findIn K (.ref C) n2 = some none
end
end Sm
set_option maxRecDepth 10000000
namespace Sm
open PySem PySem.Spec PyProof.Rows L2 Evl CrT Cr
def rIsX (K : PySem.W.Frag) (D a : Addr) (cls : Value) (dd : Option Addr) : List V → Hp → VK → Prop := fun xs H Q => ∃ (c : V) (cv : Value) (b : Bool) (d : Addr) (fs : List (Str × V)), xs = [.ref a, c] ∧ cls = .ref D ∧ dd = some d ∧ (∀ u, RelV c u → u = cv) ∧ PySem.W.kitOne K (.ref D) cv = some b ∧ H d = some (.xd fs) ∧ Q (.bl b) H
theorem call_isX {X : Cx} {a D : Addr} {cls : Value} {dd : Option Addr} {oe : Obj} {pn : List (Addr × Obj)} (C : ExcC X.K D) (hz : Zc cls dd oe) (hf : ∃ vs, oe.data = .fields vs) : CallR (X.suite a ((a, oe) :: pn)) (.builtin "isinstance") (rIsX X.K D a cls dd) := by
  intro pins s σ H xs us Q I r h
  obtain ⟨c, cv, b, d, fs, rfl, rfl, rfl, hcv, e, hd, q⟩ := h
  obtain ⟨u1, u2, rfl, r1, r2⟩ : ∃ u1 u2, us = [u1, u2] ∧ RelV (.ref a) u1 ∧ RelV c u2 := by
    cases r with
    | cons r1 r => cases r with
      | cons r2 r => cases r; exact ⟨_, _, rfl, r1, r2⟩
  obtain rfl : u1 = .ref a := r1
  obtain rfl := hcv _ r2
  obtain ⟨at_a, _⟩ := I.pin (a, oe) (List.mem_append_left _ List.mem_cons_self)
  obtain ⟨vs, hv⟩ := hf
  obtain ⟨mA, hns, _⟩ : ObjOk X.prog X.w H s.heap d (.xd fs) := I.hok d _ hd
  obtain ⟨od, ho, _⟩ := lookIn_ns hns
  have J : PySem.W.InstAt s.heap a oe D (some od) := ⟨at_a, hz.1, by unfold PySem.W.notCls; rw [hv] <;> rfl, by rw [hz.2]; exact ho⟩
  have cl : (PySem.W.clsIn X.K D).isSome = true := by
    obtain ⟨cd, z, _⟩ := PySem.W.any_some C.hd
    rw [z]
    rfl
  exact PySem.W.kia_one (PySem.W.kitx_exc cl C.hg C.hk C.hs C.ha C.hn C.ht C.hm) I.kIn J e (fun z => nomatch z) fun tk => ⟨.bl b, H, I.kept (t' := tk) fun _ _ z => z, rfl, q⟩
theorem stp_isX {K : PySem.W.Frag} {A : Atm} {T : ET} {i : Nat} {a d M : Addr} {e : Err} {b : Bool} (hk : PySem.W.kitOne K (.ref (T e.c).1) (.ref M) = some b) : STP K A T i a d e (tTest (tCB (rIsX K (T e.c).1 a (.ref (T e.c).1) (some d)) (tCons (tVar i) (tCons (tC (.ref M)) tNil)))) (fun _ => some b) := fun {H0 O0 O σ H ρ} R hh x hx Q q => by
  cases hx
  obtain ⟨h1, y1, y2, h2, _⟩ := hh
  exact ⟨.ref a, h1, .ref M, .ref M, b, d, _, rfl, rfl, rfl, fun u z => z, hk, h2, b, rfl, q _ (.refl _)⟩
theorem ssp_isnt {K : PySem.W.Frag} {A : Atm} {T : ET} {i : Nat} {a d : Addr} {e : Err} {tt : TT} {ts tu : TS} {fu : FS} (ht : STP K A T i a d e tt (fun _ => some true)) (hu : SSP K A T i a d e tu fu) : SSP K A T i a d e (tSeq (tIfS (tNot tt) ts tNext) tu) fu := fun {H0 O0 O σ H ρ} R hh o ho D p =>
  ht R hh true rfl _ fun H1 e1 => iteF (hu (R.same e1) (hh.same e1) o ho D (p.evo (.same e1)))
def xOp1 (g : F2) (fx : FEX) (fe : FE) : FEX := fun ρ => (fx ρ).bind fun
  | .inl d => (fe ρ).bind fun e => (g d e).map .inl
  | .inr e => some (.inr e)
theorem sx_op1 {K : PySem.W.Frag} {A : Atm} {T : ET} {W : WX} {r : R2} {g : F2} {te te2 : TE} {fx : FEX} {fe2 : FE} (h1 : SEX K A T W te fx) (h2 : SE K A te2 fe2) (hr : RD K A r g) : SEX K A T W (tOp r te te2) (xOp1 g fx fe2) := fun {H0 O0 O σ H ρ} R o ho Q q => by
  obtain ⟨y, k1, k2⟩ := bind_some' ho
  refine h1 R y k1 _ ?_
  cases y with
  | inr e =>
    cases k2
    exact q
  | inl d =>
    obtain ⟨z, k3, k4⟩ := bind_some' k2
    obtain ⟨x, k5, k6⟩ := Option.map_eq_some_iff.mp k4
    subst k6
    exact fun v H1 e1 hv => h2 (R.same e1) z k3 _ fun w H2 e2 hw => hr ((R.same e1).same e2).owl (hv.same e2) hw x k5 _ fun u H3 e3 hu => q u H3 ((e1.trans e2).trans e3) hu
def fPutL (i : Nat) (fk fv : FE) : FS := fun ρ => (fv ρ).bind fun e => (fk ρ).bind fun d => match ρ[i]?, d with
  | some (.own (.l ds)), .int j => if 0 ≤ j ∧ j.toNat < ds.length then some (.nx, ρ.set i (.own (.l (ds.set j.toNat e)))) else none
  | _, _ => none
theorem Fds.setAt {K : PySem.W.Frag} {A : Atm} {O : Addr → Prop} {H : Hp} {xs : List V} {ds : List PyData} {v : V} {d : PyData} (h : Fds K A O H xs ds) (hv : Fd K A O H v d) (j : Nat) : Fds K A O H (xs.set j v) (ds.set j d) := by
  refine ⟨by rw [List.length_set, List.length_set]; exact h.1, fun i x y h1 h2 => ?_⟩
  by_cases e : j = i
  · subst e
    rw [List.getElem?_set] at h1 h2
    rw [if_pos rfl] at h1 h2
    split at h1
    · split at h2
      · cases h1; cases h2; exact hv
      · cases h2
    · cases h1
  · rw [List.getElem?_set_ne e] at h1 h2
    exact h.2 i x y h1 h2
theorem ss_putL {K : PySem.W.Frag} {A : Atm} {i : Nat} {tk tv : TE} {fk fv : FE} (hk : SE K A tk fk) (hv : SE K A tv fv) : SS K A (tAsg tv (L2.gSub (tVar i) tk rSetL)) (fPutL i fk fv) := fun {H0 O0 O σ H ρ} r o ho D pp => by
  obtain ⟨e, h1, h2⟩ := bind_some' ho
  obtain ⟨d, h3, h4⟩ := bind_some' h2
  split at h4
  · rename_i ds j hi
    split at h4
    · rename_i hc
      cases h4
      obtain ⟨p, u, s1, s2, s3, s4, xs, rfl, s5⟩ := r.own i _ hi
      refine hv r e h1 _ fun v H1 e1 hv' => ⟨_, s1, hk (r.same e1) _ h3 _ fun y H2 e2 hy => ?_⟩
      have e12 := e1.trans e2
      have hx : H2 p = some (.lst xs) := e12 _ _ s4
      obtain ⟨n, rfl⟩ := Int.eq_ofNat_of_zero_le hc.1
      refine ⟨p, xs, (n : Int), n, rfl, hy.int_inv, hx, ?_, ?_⟩
      · have hlt : n < xs.length := by rw [s5.1]; exact hc.2
        unfold ixN
        rw [if_pos (by omega), if_pos (by omega)]
        rfl
      · obtain ⟨r', ev⟩ := (r.same e12).grow hi s1 hx ((s5.same e12).setAt (hv'.same e2) n)
        exact pp σ _ O r' ((Evo.same e12).trans ev)
    · cases h4
  · cases h4
end Sm
namespace Fb
open PySem PySem.Spec PyProof.Rows L2 Evl Cr CrT Sm
def bx_kind_of (f__kind_at : FnX) : FSX :=
      (xRet (xCall f__kind_at (fCons (fVar 0) (fCons (fTup fNil) fNil))))
end Fb
namespace Fb
open PySem PySem.Spec PyProof.Rows L2 Evl CrT Cr Sm
def b__fault_in (f_is_word : Fn) (f_fits : Fn) (f__makes_integers : Fn) : FS :=
      (fSeq (fAsg (fVar 0) (gT 4 (gC (gS 2) (gC (gS 3) (gC (gS 4) (gC (gS 5) gN))))))
      (fSeq (fIfS (fNot (fB (fCall f_is_word (fCons (fVar 2) fNil)))) (fRet (fC (.str "wrong name"))) fNext)
      (fSeq (fIfS (fB (fOp gIn (fVar 2) (fVar 1))) (fRet (fC (.str "named twice"))) fNext)
      (fSeq (fIfS (fNot (fB (fCall f_fits (fCons (fVar 3) (fCons (fC (.str "int")) fNil))))) (fRet (fC (.str "wrong guard"))) fNext)
      (fSeq (fIfS (fNot (fB (fCall f__makes_integers (fCons (fVar 4) fNil)))) (fRet (fC (.str "wrong generator"))) fNext)
      (fSeq (fIfS (fB (fOp gNi (fVar 5) (fTup (fCons (fC (.str "add")) (fCons (fC (.str "take")) (fCons (fC (.str "set")) fNil)))))) (fRet (fC (.str "wrong effect"))) fNext)
      (fRet (fC .none))))))))
def bx__makes_integers (f_kind_of : FnX) : FS :=
      (fTry 0 (xRet (xOp1 gEq (xCall f_kind_of (fCons (fVar 0) fNil)) (fC (.str "int")))) (fRet (fC (.bool false))))
def bx_machine (f__fault_in : Fn) : FSX :=
      (xSeq (xIf (fNot (fB (fChain gLe gLe (fUn gNeg (fC (.int 1000))) (fVar 0) (fC (.int 1000))))) (xRaise 1 okW (fCons (fC (.str "wrong first")) (fCons (fUn gNeg (fC (.int 1))) fNil))) (xSt fNext))
      (xSeq (xIf (fNot (fB (fChain gLe gLe (fC (.int 1)) (fLenV 1) (fC (.int 4))))) (xRaise 1 okW (fCons (fC (.str "wrong number")) (fCons (fUn gNeg (fC (.int 1))) fNil))) (xSt fNext))
      (xSeq (xIf (fNot (fB (fChain gLe gLe (fC (.int 0)) (fVar 2) (fC (.int 6))))) (xRaise 1 okW (fCons (fC (.str "wrong most")) (fCons (fUn gNeg (fC (.int 1))) fNil))) (xSt fNext))
      (xSeq (xFor (fEnu (fCons (fVar 1) fNil)) (gT 2 (gC (gS 3) (gC (gS 4) gN))) (xSeq (xSt (fAsg (fCall f__fault_in (fCons (fVar 4) (fCons (fV (fComp (fSeqI (fSl gSl (fVar 1) fNoPart (fPart (fVar 3)))) (gS 6) (fun _ => some true) (fOp gIx (fVar 6) (fC (.int 0))) [6])) fNil))) (gS 5)))
        (xIf (fB (fOp gNotN (fVar 5) (fC .none))) (xRaise 1 okW (fCons (fVar 5) (fCons (fVar 3) fNil))) (xSt fNext))))
      (xSt (fRet (fTup (fCons (fVar 0) (fCons (fCall gTuple (fCons (fVar 1) fNil)) (fCons (fVar 2) fNil))))))))))
def bx_l55_told (f_machine : FnX) : FS :=
      (fTryAs 1 3 (xRet (xCall f_machine (fCons (fVar 0) (fCons (fV (fCallL gList (fCons (fVar 1) fNil))) (fCons (fVar 2) fNil))))) (fun er => (fRet (fTup (fCons (fC er.d1) (fCons (fC er.d2) fNil))))))
end Fb
namespace Fb
open PySem PySem.Spec PyProof.Rows L2 Evl Cr CrT Sm
def bx__kind_all (f__kind_at : FnX) (f_parts_in : Fn) (f__fault_itself : Fn) (f__kind_made : Fn) : FSX :=
      (xSeq (xAsg (xComp (fEnu (fCons (fCall f_parts_in (fCons (fVar 0) fNil)) fNil)) (gT 2 (gC (gS 4) (gC (gS 5) gN))) (fun _ => some true) (xCall f__kind_at (fCons (fVar 5) (fCons (fTup (fStar (fVar 1) (fCons (fVar 4) fNil))) fNil))) [4, 5]) (gS 2))
      (xSeq (xSt (fAsg (fCall f__fault_itself (fCons (fVar 0) (fCons (fVar 2) fNil))) (gS 3)))
      (xSeq (xIf (fB (fOp gNotN (fVar 3) (fC .none))) (xRaise 0 okP (fCons (fVar 3) (fCons (fVar 1) fNil))) (xSt fNext))
      (xSt (fRet (fCall f__kind_made (fCons (fVar 0) (fCons (fVar 2) fNil))))))))
end Fb
namespace K55
open PySem PySem.Spec PyProof.Rows L2 Evl CrT Cr Sm Fb
section
variable {P : Program} {w : World} {K : PySem.W.Frag} {mg : Str → Option Value} {base : Heap}
variable {A : Atm}
abbrev s_err_GeneratorError : Stmt := clsFn (topS 16)
theorem init_GeneratorError {f cda cc C : Addr} {fd : FuncData} {dV kV doc pm ct oc : Value} {an od : Option Addr} {osl : Array (Option Value)}
    (hfd : fd = PySem.W.ksFn "__init__" "GeneratorError.__init__" (defArgs s_err_GeneratorError) (defBody s_err_GeneratorError) (defScope s_err_GeneratorError) dV kV doc pm an (.ref cda) ct cc) (R : ErrC P K C f cda cc fd) (at_ : K.lookup f = some ⟨oc, od, .func fd, osl⟩) (code : PySem.W.codeIn K (.ref cda) "GeneratorError.__init__" = true) (ms : mg "super" = none)
    (h1 : PySem.W.findIn K (.ref C) "what" = some none) (h2 : PySem.W.findIn K (.ref C) "path" = some none) : FnOk P w K mg base CX0 1 f fd ["self", "what", "path"] (spErr C "what" "path" (tfP K)) := by
  refine init_ok (pl := _) (k := 0) hfd R at_ code ⟨rfl, rfl, rfl, by decide +kernel, by decide +kernel⟩ (by decide +kernel) rfl rfl ms h1 h2 (fun A o s H hr => ⟨_, pa_cons (pe_joined (.cons (pe_fmt (pv 1)) (.cons pe_str (.cons (pe_fmtI hr (pv 2)) .nil)))) pa_nil, fun a v1 v2 H1 tf Q q => ?_⟩) (fun A o s H => ⟨_, pss_cons (ps_ost (pv 0) (pv 1)) (pss_one (ps_ost (pv 0) (pv 2))), fun D a v1 v2 H1 e q => ?_⟩) (fun _ _ _ _ => rfl) (fun _ _ _ _ => rfl) (fun _ _ _ _ => rfl) (fun _ _ _ _ => rfl)
  · obtain ⟨x, p, ns, rfl, hx, rfl, hs, hn, hl⟩ := tf
    refine ⟨.str x, rfl, .inl ⟨x, rfl, by rw [sizeLine_eq]; omega, x, rfl, ?_, ", at ", rfl, ?_, .ref p, rfl, p, ns, rfl, hs, hn, hl, fun m hm => ⟨m, rfl, ?_, q _⟩⟩⟩
    · rw [Str.length_append, sizeLine_eq]; show 0 + x.length ≤ _; omega
    · rw [Str.length_append, Str.length_append, sizeLine_eq]; show 0 + x.length + 5 ≤ _; omega
    · rw [Str.length_append, Str.length_append, Str.length_append, sizeLine_eq]; show 0 + x.length + 5 + m.length ≤ _; omega
  · refine ⟨v1, rfl, .ref a, rfl, a, C, rfl, R.ox, h1, .inl ⟨e, fun d hd hda => ⟨v2, rfl, .ref a, rfl, a, C, rfl, R.ox, h2, .inr ⟨d, [("what", v1)], upd_same, ?_, Nat.le_of_ble_eq_true rfl, q d hd hda⟩⟩⟩⟩
    rw [upd_ne hda, upd_same]
abbrev s_err_MachineError : Stmt := clsFn (topS 17)
theorem init_MachineError {f cda cc C : Addr} {fd : FuncData} {dV kV doc pm ct oc : Value} {an od : Option Addr} {osl : Array (Option Value)}
    (hfd : fd = PySem.W.ksFn "__init__" "MachineError.__init__" (defArgs s_err_MachineError) (defBody s_err_MachineError) (defScope s_err_MachineError) dV kV doc pm an (.ref cda) ct cc) (R : ErrC P K C f cda cc fd) (at_ : K.lookup f = some ⟨oc, od, .func fd, osl⟩) (code : PySem.W.codeIn K (.ref cda) "MachineError.__init__" = true) (ms : mg "super" = none)
    (h1 : PySem.W.findIn K (.ref C) "what" = some none) (h2 : PySem.W.findIn K (.ref C) "place" = some none) : FnOk P w K mg base CX0 1 f fd ["self", "what", "place"] (spErr C "what" "place" (tfW K)) := by
  refine init_ok (pl := _) (k := 0) hfd R at_ code ⟨rfl, rfl, rfl, by decide +kernel, by decide +kernel⟩ (by decide +kernel) rfl rfl ms h1 h2 (fun A o s H hr => ⟨_, pa_cons (pe_joined (.cons (pe_fmt (pv 1)) (.cons pe_str (.cons (pe_fmt (pv 2)) .nil)))) pa_nil, fun a v1 v2 H1 tf Q q => ?_⟩) (fun A o s H => ⟨_, pss_cons (ps_ost (pv 0) (pv 1)) (pss_one (ps_ost (pv 0) (pv 2))), fun D a v1 v2 H1 e q => ?_⟩) (fun _ _ _ _ => rfl) (fun _ _ _ _ => rfl) (fun _ _ _ _ => rfl) (fun _ _ _ _ => rfl)
  · obtain ⟨x, i, rfl, hx, rfl, hi⟩ := tf
    have hs := small_text hi
    refine ⟨.str x, rfl, .inl ⟨x, rfl, by rw [sizeLine_eq]; omega, x, rfl, ?_, ", at ", rfl, ?_, .int i, rfl, .inr ⟨i, rfl, log_small hi, toString i, rfl, ?_, q _⟩⟩⟩
    · rw [Str.length_append, sizeLine_eq]; show 0 + x.length ≤ _; omega
    · rw [Str.length_append, Str.length_append, sizeLine_eq]; show 0 + x.length + 5 ≤ _; omega
    · rw [Str.length_append, Str.length_append, Str.length_append, sizeLine_eq]; show 0 + x.length + 5 + (toString i : Str).length ≤ _; omega
  · refine ⟨v1, rfl, .ref a, rfl, a, C, rfl, R.ox, h1, .inl ⟨e, fun d hd hda => ⟨v2, rfl, .ref a, rfl, a, C, rfl, R.ox, h2, .inr ⟨d, [("what", v1)], upd_same, ?_, Nat.le_of_ble_eq_true rfl, q d hd hda⟩⟩⟩⟩
    rw [upd_ne hda, upd_same]
abbrev s__fault_in : Stmt := topS 28
abbrev N__fault_in : List Str := ["command", "names", "name", "guard", "generator", "effect"]
theorem sc__fault_in : FnScope N__fault_in ["command", "names"] (defScope s__fault_in) := ⟨rfl, rfl, rfl, by decide +kernel, rfl, by decide +kernel, by decide +kernel⟩
theorem ok__fault_in {f : Addr} {fd : FuncData} {L : Nat} {f_is_word : Fn} {f_fits : Fn} {f__makes_integers : Fn} (T : Tx mg) (F : Fun K "_fault_in" "_fault_in" s__fault_in f fd) (c_is_word : Cl P w K mg base "is_word" ["text"] L (spF K A f_is_word)) (c_fits : Cl P w K mg base "fits" ["condition", "kind"] L (spF K A f_fits)) (c__makes_integers : Cl P w K mg base "_makes_integers" ["generator"] L (spF K A f__makes_integers)) :
    FnOk P w K mg base CX0 (L + 1) f fd ["command", "names"] (spF K A (runF 6 2 (b__fault_in f_is_word f_fits f__makes_integers))) := by
  refine F.ok sc__fault_in (fun vs H Q E h => body_len h) (fun cdv A' outer s H vs Q E hr h => ?_)
  refine ⟨_, (pss_cons (ps_asg (pv 0) (pg_tup rfl (pgs_cons (pg_name (i := 2) sc__fault_in.nd rfl (Or.inl rfl)) (pgs_cons (pg_name (i := 3) sc__fault_in.nd rfl (Or.inl rfl)) (pgs_cons (pg_name (i := 4) sc__fault_in.nd rfl (Or.inl rfl)) (pgs_cons (pg_name (i := 5) sc__fault_in.nd rfl (Or.inl rfl)) pgs_nil))))))
      (pss_cons (ps_if (pt_not (pt_val (pe_call c_is_word.ok hr (by rfl) c_is_word.m c_is_word.kp c_is_word.b .nil pass0 (pa_cons (pv 2) pa_nil)))) (pss_one (ps_ret pe_str)) pss_nil)
      (pss_cons (ps_if (pt_cmpR (r := rInX K) (op_inX (Cr.Room.u65 hr)) (pv 2) (pv 1) (by rfl)) (pss_one (ps_ret pe_str)) pss_nil)
      (pss_cons (ps_if (pt_not (pt_val (pe_call c_fits.ok hr (by rfl) c_fits.m c_fits.kp c_fits.b .nil pass0 (pa_cons (pv 3) (pa_cons pe_str pa_nil))))) (pss_one (ps_ret pe_str)) pss_nil)
      (pss_cons (ps_if (pt_not (pt_val (pe_call c__makes_integers.ok hr (by rfl) c__makes_integers.m c__makes_integers.kp c__makes_integers.b .nil pass0 (pa_cons (pv 4) pa_nil)))) (pss_one (ps_ret pe_str)) pss_nil)
      (pss_cons (ps_if (pt_cmpR (r := rNiX K) (op_niX (Cr.Room.u65 hr)) (pv 5) (pe_tup (pa_cons pe_str (pa_cons pe_str (pa_cons pe_str pa_nil)))) (by rfl)) (pss_one (ps_ret pe_str)) pss_nil)
      (pss_one (ps_ret pe_non)))))))), ?_⟩
  exact body_ok (N := N__fault_in) (f := b__fault_in f_is_word f_fits f__makes_integers) (ss_seq (ss_asg (se_var 0) (sg_tup 4 (sgs_cons (sg_name 2) (sgs_cons (sg_name 3) (sgs_cons (sg_name 4) (sgs_cons (sg_name 5) sgs_nil))))))
      (ss_seq (ss_if (st_not (st_B (se_call (sa_cons (se_var 2) sa_nil)))) (ss_ret se_str) ss_next)
      (ss_seq (ss_if (st_test (se_op (se_var 2) (se_var 1) rd_in)) (ss_ret se_str) ss_next)
      (ss_seq (ss_if (st_not (st_B (se_call (sa_cons (se_var 3) (sa_cons se_str sa_nil))))) (ss_ret se_str) ss_next)
      (ss_seq (ss_if (st_not (st_B (se_call (sa_cons (se_var 4) sa_nil)))) (ss_ret se_str) ss_next)
      (ss_seq (ss_if (st_test (se_op (se_var 5) (se_tup (sa_cons se_str (sa_cons se_str (sa_cons se_str sa_nil)))) rd_ni)) (ss_ret se_str) ss_next)
      (ss_ret se_non))))))) h
abbrev s__makes_integers : Stmt := topS 29
abbrev N__makes_integers : List Str := ["generator"]
theorem sc__makes_integers : FnScope N__makes_integers ["generator"] (defScope s__makes_integers) := ⟨rfl, rfl, rfl, by decide +kernel, rfl, by decide +kernel, by decide +kernel⟩
theorem okx__makes_integers {f : Addr} {fd : FuncData} {L : Nat} {ET : ET} {f_kind_of : FnX} (T : Tx mg) (E_GeneratorError : ErrM P w K mg base "GeneratorError" (ET 0).1 (ET 0).2.1 (ET 0).2.2 (tfP K)) (F : Fun K "_makes_integers" "_makes_integers" s__makes_integers f fd) (c_kind_of : ClX P w K mg base "kind_of" ["generator"] L (spX K A ET f_kind_of))  :
    FnOk P w K mg base CX0 (L + 1) f fd ["generator"] (spF K A (runF 1 1 (bx__makes_integers f_kind_of))) := by
  refine F.ok sc__makes_integers (fun vs H Q E h => body_len h) (fun cdv A' outer s H vs Q E hr h => ?_)
  refine ⟨_, (pss_one (ps_try_only rfl rfl ⟨by rfl, by decide, .inl E_GeneratorError.m⟩ LamX.takes0 (fun W pn xe tkt _ => (pss_one (ps_ret (pe_cmpR (r := rEqX K) (op_eqX hr.units) (pe_callS c_kind_of.ok hr (by rfl) c_kind_of.m c_kind_of.kp c_kind_of.b (fun σ => passAt tkt σ) (pa_cons (pv 0) pa_nil)) pe_str (nomark _))))) (fun a oe cls d pn _ _ => (pss_one (ps_ret pe_bl))))), ?_⟩
  exact body_ok (N := N__makes_integers) (f := bx__makes_integers f_kind_of) (ss_try (T := ET) (c := 0) E_GeneratorError.ex (fun W => (ssx_ret (sx_op1 (sx_call (sa_cons (se_var 0) sa_nil)) se_str rd_eq))) (fun a cls d => (ss_ret se_bl))) h
theorem okx_kind_of {f : Addr} {fd : FuncData} {L : Nat} {ET : ET} {f__kind_at : FnX} (hL : 2 ≤ L) (T : Tx mg)  (F : Fun K "kind_of" "kind_of" s_kind_of f fd) (c__kind_at : ClX P w K mg base "_kind_at" ["generator", "path"] L (spX K A ET f__kind_at))  :
    FnOk P w K mg base (L2.CX P w) (L + 1) f fd ["generator"] (spX K A ET (runX 1 1 (bx_kind_of f__kind_at))) := by
  refine F.okX sc_kind_of (fun vs H Q E h => body_lenX h) (fun cdv A' outer s H vs Q E hr h => ?_)
  refine ⟨_, (let tk := takes_of (E := E) rfl rfl rfl rfl; (pss_one (ps_ret (pe_callS c__kind_at.ok hr (by rfl) c__kind_at.m c__kind_at.kp c__kind_at.b (fun σ => passAt tk σ) (pa_cons (pv 0) (pa_cons (pe_tup pa_nil) pa_nil)))))), ?_⟩
  exact body_okX (N := N_kind_of) (f := bx_kind_of f__kind_at) (ssx_ret (sx_call (sa_cons (se_var 0) (sa_cons (se_tup sa_nil) sa_nil)))) h
theorem okx__kind_at {f : Addr} {fd : FuncData} {L : Nat} {ET : ET} {f__kind_at : FnX} {f_parts_in : Fn} {f__fault_itself : Fn} {f__kind_made : Fn} (hL : 2 ≤ L) (T : Tx mg) (E_GeneratorError : ErrM P w K mg base "GeneratorError" (ET 0).1 (ET 0).2.1 (ET 0).2.2 (tfP K)) (F : Fun K "_kind_at" "_kind_at" s__kind_at f fd) (c__kind_at : ClX P w K mg base "_kind_at" ["generator", "path"] L (spX K A ET f__kind_at)) (c_parts_in : Cl P w K mg base "parts_in" ["generator"] L (spF K A f_parts_in)) (c__fault_itself : Cl P w K mg base "_fault_itself" ["generator", "kinds"] L (spF K A f__fault_itself)) (c__kind_made : Cl P w K mg base "_kind_made" ["generator", "kinds"] L (spF K A f__kind_made)) :
    FnOk P w K mg base (L2.CX P w) (L + 1) f fd ["generator", "path"] (spX K A ET (runX 6 2 (bx__kind_all f__kind_at f_parts_in f__fault_itself f__kind_made))) := by
  refine F.okX sc__kind_at (fun vs H Q E h => body_lenX h) (fun cdv A' outer s H vs Q E hr h => ?_)
  refine ⟨_, (let tk := takes_of (E := E) rfl rfl rfl rfl; (pss_cons (ps_setLcX (i := 2) (own := [("at", 4), ("part", 5)]) (g := gTup K 2 (gCons (gName 4) (gCons (gName 5) gNil))) (by rfl) rfl rfl tk sc__kind_at.nd rfl rfl (sw_true rfl rfl rfl (by decide +kernel)) (pi_or (pi_enum (by rfl) T.z_enumerate (pa_cons (pe_call c_parts_in.ok hr (by rfl) c_parts_in.m c_parts_in.kp c_parts_in.b .nil pass0 (pa_cons (pv 0) pa_nil)) pa_nil)) (pi_enumT (by rfl) T.z_enumerate (pa_cons (pe_call c_parts_in.ok hr (by rfl) c_parts_in.m c_parts_in.kp c_parts_in.b .nil pass0 (pa_cons (pv 0) pa_nil)) pa_nil))) (blkOk_by (own := [("at", 4), ("part", 5)]) (N := N__kind_at) (sc := defScope s__kind_at) (by decide +kernel)) (fun _ _ _ _ _ => (pg_tup rfl (pgs_cons (pg_name (i := 4) sc__kind_at.nd rfl (Or.inl rfl) (hf := Or.inr rfl)) (pgs_cons (pg_name (i := 5) sc__kind_at.nd rfl (Or.inl rfl) (hf := Or.inr rfl)) pgs_nil)))) (fun _ _ _ _ _ => pts_nil) (fun _ _ _ _ _ _ => (pe_callS c__kind_at.ok hr (by rfl) c__kind_at.m c__kind_at.kp c__kind_at.b (fun σ => passB σ) (pa_cons (pv 5) (pa_cons (pe_tup (pa_starK K (pv 1) (pa_cons (pv 4) pa_nil))) pa_nil)))))
      (pss_cons (ps_set (i := 3) sc__kind_at.nd rfl (Or.inl rfl) (pe_call c__fault_itself.ok hr (by rfl) c__fault_itself.m c__fault_itself.kp c__fault_itself.b .nil pass0 (pa_cons (pv 0) (pa_cons (pv 2) pa_nil))))
      (pss_cons (ps_if (pt_cmpR op_notN (pv 3) pe_non (nomark _)) (pss_one (ps_raise rfl tk (pmk_oex E_GeneratorError.ox E_GeneratorError.iC E_GeneratorError.tI E_GeneratorError.ok (hr.mono hL) E_GeneratorError.b .nil pass0 (by rfl) E_GeneratorError.m (pa_cons (pv 3) (pa_cons (pv 1) pa_nil))))) pss_nil)
      (pss_one (ps_ret (pe_call c__kind_made.ok hr (by rfl) c__kind_made.m c__kind_made.kp c__kind_made.b .nil pass0 (pa_cons (pv 0) (pa_cons (pv 2) pa_nil))))))))), ?_⟩
  exact body_okX (N := N__kind_at) (f := bx__kind_all f__kind_at f_parts_in f__fault_itself f__kind_made) (ssx_seq (ssx_asg (sx_lc (vs := [4, 5]) (si_enu (sa_cons (se_call (sa_cons (se_var 0) sa_nil)) sa_nil)) (sg_tup 2 (sgs_cons (sg_name 4) (sgs_cons (sg_name 5) sgs_nil))) (by decide) st_yes (fun _ => (sx_callE (sa_cons (se_var 5) (sa_cons (se_tup (sa_star (se_var 1) (sa_cons (se_var 4) sa_nil))) sa_nil))))) (sg_name 2))
      (ssx_seq (ssx_of (ss_asg (se_call (sa_cons (se_var 0) (sa_cons (se_var 2) sa_nil))) (sg_name 3)))
      (ssx_seq (ssx_if (st_test (se_op (se_var 3) se_non rd_notN)) (ssx_raise (T := ET) (c := 0) okP_tf (sa_cons (se_var 3) (sa_cons (se_var 1) sa_nil))) (ssx_of ss_next))
      (ssx_of (ss_ret (se_call (sa_cons (se_var 0) (sa_cons (se_var 2) sa_nil)))))))) h
abbrev s_machine : Stmt := topS 27
abbrev N_machine : List Str := ["first", "commands", "most", "at", "command", "what", "earlier"]
theorem sc_machine : FnScope N_machine ["first", "commands", "most"] (defScope s_machine) := ⟨rfl, rfl, rfl, by decide +kernel, rfl, by decide +kernel, by decide +kernel⟩
theorem okx_machine {f : Addr} {fd : FuncData} {L : Nat} {ET : ET} {f__fault_in : Fn} (hL : 2 ≤ L) (T : Tx mg) (E_MachineError : ErrM P w K mg base "MachineError" (ET 1).1 (ET 1).2.1 (ET 1).2.2 (tfW K)) (F : Fun K "machine" "machine" s_machine f fd)  (c__fault_in : Cl P w K mg base "_fault_in" ["command", "names"] L (spF K A f__fault_in)) :
    FnOk P w K mg base (L2.CX P w) (L + 1) f fd ["first", "commands", "most"] (spX K A ET (runX 7 3 (bx_machine f__fault_in))) := by
  obtain ⟨_, m_GREAT⟩ := T.m_GREAT
  obtain ⟨_, m_LONG⟩ := T.m_LONG
  obtain ⟨_, m_COMMANDS⟩ := T.m_COMMANDS
  refine F.okX sc_machine (fun vs H Q E h => body_lenX h) (fun cdv A' outer s H vs Q E hr h => ?_)
  refine ⟨_, (let tk := takes_of (E := E) rfl rfl rfl rfl; (pss_cons (ps_if (pt_not (pt_chain op_leX op_leX (pe_un un_neg (pe_glob (v := .int 1000) (by rfl) m_GREAT ⟨_, rfl⟩)) (pv 0) (pe_glob (v := .int 1000) (by rfl) m_GREAT ⟨_, rfl⟩))) (pss_one (ps_raise rfl tk (pmk_oex E_MachineError.ox E_MachineError.iC E_MachineError.tI E_MachineError.ok (hr.mono hL) E_MachineError.b .nil pass0 (by rfl) E_MachineError.m (pa_cons pe_str (pa_cons (pe_un un_neg pe_int) pa_nil))))) pss_nil)
      (pss_cons (ps_if (pt_not (pt_chain op_leX op_leX pe_int (pe_callB (r := rLenX K) cr_lenX (by rfl) T.z_len PySem.boot_len (pa_cons (pv 1) pa_nil)) (pe_glob (v := .int 4) (by rfl) m_COMMANDS ⟨_, rfl⟩))) (pss_one (ps_raise rfl tk (pmk_oex E_MachineError.ox E_MachineError.iC E_MachineError.tI E_MachineError.ok (hr.mono hL) E_MachineError.b .nil pass0 (by rfl) E_MachineError.m (pa_cons pe_str (pa_cons (pe_un un_neg pe_int) pa_nil))))) pss_nil)
      (pss_cons (ps_if (pt_not (pt_chain op_leX op_leX pe_int (pv 2) (pe_glob (v := .int 6) (by rfl) m_LONG ⟨_, rfl⟩))) (pss_one (ps_raise rfl tk (pmk_oex E_MachineError.ox E_MachineError.iC E_MachineError.tI E_MachineError.ok (hr.mono hL) E_MachineError.b .nil pass0 (by rfl) E_MachineError.m (pa_cons pe_str (pa_cons (pe_un un_neg pe_int) pa_nil))))) pss_nil)
      (pss_cons (ps_for (passes_of rfl) rfl (pi_or (pi_enum (by rfl) T.z_enumerate (pa_cons (pv 1) pa_nil)) (pi_enumT (by rfl) T.z_enumerate (pa_cons (pv 1) pa_nil))) (pg_tup rfl (pgs_cons (pg_name (i := 3) sc_machine.nd rfl (Or.inl rfl)) (pgs_cons (pg_name (i := 4) sc_machine.nd rfl (Or.inl rfl)) pgs_nil))) (pss_cons (ps_set (i := 5) sc_machine.nd rfl (Or.inl rfl) (pe_call c__fault_in.ok hr (by rfl) c__fault_in.m c__fault_in.kp c__fault_in.b .nil pass0 (pa_cons (pv 4) (pa_cons (pe_lc (own := [("earlier", 6)]) (g := gName 6) (by rfl) sc_machine.nd (pi_seq (pe_slice (r := rSlX K) sl_X (pv 1) po_none (po_some (pv 3)))) (blkOk_by (own := [("earlier", 6)]) (N := N_machine) (sc := defScope s_machine) (by decide +kernel)) (fun _ _ _ _ _ => (pg_name (i := 6) sc_machine.nd rfl (Or.inl rfl))) (fun _ _ _ _ _ => pts_nil) (fun _ _ _ _ _ => (pe_ix (r := rIx K) ix_seq (pv 6) pe_int (fun _ _ => rfl)))) pa_nil))))
        (pss_one (ps_if (pt_cmpR op_notN (pv 5) pe_non (nomark _)) (pss_one (ps_raise rfl tk (pmk_oex E_MachineError.ox E_MachineError.iC E_MachineError.tI E_MachineError.ok (hr.mono hL) E_MachineError.b .nil pass0 (by rfl) E_MachineError.m (pa_cons (pv 5) (pa_cons (pv 3) pa_nil))))) pss_nil))))
      (pss_one (ps_ret (pe_tup (pa_cons (pv 0) (pa_cons (pe_callTy (r := rTupO K) cr_tupO (by rfl) T.z_tuple (by decide +kernel) (pa_cons (pv 1) pa_nil)) (pa_cons (pv 2) pa_nil))))))))))), ?_⟩
  exact body_okX (N := N_machine) (f := bx_machine f__fault_in) (ssx_seq (ssx_if (st_not (st_test (se_chain (se_un se_int ru_neg1) (se_var 0) se_int rd_le rd_le))) (ssx_raise (T := ET) (c := 1) okW_tf (sa_cons se_str (sa_cons (se_un se_int ru_neg1) sa_nil))) (ssx_of ss_next))
      (ssx_seq (ssx_if (st_not (st_test (se_chain se_int (se_lenV 1) se_int rd_le rd_le))) (ssx_raise (T := ET) (c := 1) okW_tf (sa_cons se_str (sa_cons (se_un se_int ru_neg1) sa_nil))) (ssx_of ss_next))
      (ssx_seq (ssx_if (st_not (st_test (se_chain se_int (se_var 2) se_int rd_le rd_le))) (ssx_raise (T := ET) (c := 1) okW_tf (sa_cons se_str (sa_cons (se_un se_int ru_neg1) sa_nil))) (ssx_of ss_next))
      (ssx_seq (ssx_for (si_enu (sa_cons (se_var 1) sa_nil)) (sg_tup 2 (sgs_cons (sg_name 3) (sgs_cons (sg_name 4) sgs_nil))) (ssx_seq (ssx_of (ss_asg (se_call (sa_cons (se_var 4) (sa_cons (se_l (sl_lc (vs := [6]) (si_seq (se_sl (se_var 1) so_none (so_some (se_var 3)) rs_sl)) (sg_name 6) (by decide) st_yes (se_op (se_var 6) se_int rd_ix))) sa_nil))) (sg_name 5)))
        (ssx_if (st_test (se_op (se_var 5) se_non rd_notN)) (ssx_raise (T := ET) (c := 1) okW_tf (sa_cons (se_var 5) (sa_cons (se_var 3) sa_nil))) (ssx_of ss_next))))
      (ssx_of (ss_ret (se_tup (sa_cons (se_var 0) (sa_cons (se_cb (sa_cons (se_var 1) sa_nil) rc_tuple) (sa_cons (se_var 2) sa_nil)))))))))) h
abbrev s__law_told : Stmt := topS 37
abbrev N__law_told : List Str := ["first", "commands", "most", "e"]
theorem sc__law_told : FnScope N__law_told ["first", "commands", "most"] (defScope s__law_told) := ⟨rfl, rfl, rfl, by decide +kernel, rfl, by decide +kernel, by decide +kernel⟩
theorem okx__law_told {f : Addr} {fd : FuncData} {L : Nat} {ET : ET} {f_machine : FnX} (T : Tx mg) (E_MachineError : ErrM P w K mg base "MachineError" (ET 1).1 (ET 1).2.1 (ET 1).2.2 (tfW K)) (XF_MachineError : ErrF K (ET 1).1 "what" "place") (hT_MachineError : (ET 1).2 = (("what" : Str), ("place" : Str))) {B_ChoiceError : Addr} (mB_ChoiceError : mg "ChoiceError" = some (.ref B_ChoiceError)) (hB_ChoiceError : PySem.W.exmOne K (.ref (ET 1).1) (.ref B_ChoiceError) = some true) (XC_MachineError : L2.ExcC K (ET 1).1) (kit_MachineError : PySem.W.kitOne K (.ref (ET 1).1) (.ref (ET 1).1) = some true) (F : Fun K "_law_told" "_law_told" s__law_told f fd) (c_machine : ClX P w K mg base "machine" ["first", "commands", "most"] L (spX K A ET f_machine))  :
    FnOk P w K mg base CX0 (L + 1) f fd ["first", "commands", "most"] (spF K A (runF 4 3 (bx_l55_told f_machine))) := by
  refine F.ok sc__law_told (fun vs H Q E h => body_len h) (fun cdv A' outer s H vs Q E hr h => ?_)
  refine ⟨_, (pss_one (ps_try_as (i := 3) rfl rfl sc__law_told.nd rfl rfl ⟨by rfl, by decide, .inl mB_ChoiceError⟩ LamX.takes0 (fun W pn xe tkt _ => (pss_one (ps_ret (pe_callS c_machine.ok hr (by rfl) c_machine.m c_machine.kp c_machine.b (fun σ => passAt tkt σ) (pa_cons (pv 0) (pa_cons (pe_callTy (r := rLstO K) cr_lstO (by rfl) T.z_list (by decide +kernel) (pa_cons (pv 1) pa_nil)) (pa_cons (pv 2) pa_nil))))))) (fun a oe cls d pn hz hv => (pss_cons (ps_if (pt_not (pt_val (pe_callB (r := rIsX K (ET 1).1 a cls d) (call_isX XC_MachineError hz hv) (by rfl) T.z_isinstance (by decide +kernel) (pa_cons (pv 3) (pa_cons (pe_glob (v := .ref (ET 1).1) (by rfl) E_MachineError.m rfl) pa_nil))))) (pss_one (ps_ret pe_non)) pss_nil) (pss_one (ps_ret (pe_tup (pa_cons (pe_xf XF_MachineError.xf XF_MachineError.h1 hz hv (pv 3)) (pa_cons (pe_xf XF_MachineError.xf XF_MachineError.h2 hz hv (pv 3)) pa_nil))))))))), ?_⟩
  exact body_ok (N := N__law_told) (f := bx_l55_told f_machine) (ss_tryAs (T := ET) (c := 1) (i := 3) hB_ChoiceError (fun W => (ssx_ret (sx_call (sa_cons (se_var 0) (sa_cons (se_l (sl_cb (sa_cons (se_var 1) sa_nil) rc_list)) (sa_cons (se_var 2) sa_nil)))))) (fun a d d1 d2 => (ssp_isnt (stp_isX kit_MachineError) (ssp_ret (sep_tup (sap_cons (sep_f1 (e := ⟨1, _, _⟩) hT_MachineError (by decide +kernel)) (sap_cons (sep_f2 (e := ⟨1, _, _⟩) hT_MachineError) sap_nil))))))) h
end
end K55
namespace K55
open PySem PySem.Spec PyProof.Rows L2 Evl Cr CrT
section
variable {P : Program} {w : World} {K : PySem.W.Frag} {mg : Str → Option Value} {base : Heap}
abbrev s_fits : Stmt := topS 11
abbrev N_fits : List Str := ["condition", "kind", "name", "listed", "part"]
theorem sc_fits : FnScope N_fits ["condition", "kind"] (defScope s_fits) := ⟨rfl, rfl, rfl, by decide +kernel, rfl, by decide +kernel, by decide +kernel⟩
abbrev s__fits_item : Stmt := topS 12
abbrev N__fits_item : List Str := ["place", "condition", "kinds"]
theorem sc__fits_item : FnScope N__fits_item ["place", "condition", "kinds"] (defScope s__fits_item) := ⟨rfl, rfl, rfl, by decide +kernel, rfl, by decide +kernel, by decide +kernel⟩
abbrev s__fits_list : Stmt := topS 13
abbrev N__fits_list : List Str := ["condition", "listed", "name"]
theorem sc__fits_list : FnScope N__fits_list ["condition", "listed"] (defScope s__fits_list) := ⟨rfl, rfl, rfl, by decide +kernel, rfl, by decide +kernel, by decide +kernel⟩
theorem ok_fits {f : Addr} {fd : FuncData} {n : Nat} (T : Tx mg) (F : Fun K "fits" "fits" s_fits f fd) (c_is_word : Cl P w K mg base "is_word" ["text"] 1 spWord) (c_kinds_in_tuple : Cl P w K mg base "kinds_in_tuple" ["kind"] 1 (spKit K))
    (c_kind_in_list : Cl P w K mg base "kind_in_list" ["kind"] 1 (spKil K)) (c_fits : Cl P w K mg base "fits" ["condition", "kind"] (2 * n + 1) (spFits K n)) (c__fits_item : Cl P w K mg base "_fits_item" ["place", "condition", "kinds"] (2 * n + 2) (spFitsItem K n))
    (c__fits_list : Cl P w K mg base "_fits_list" ["condition", "listed"] (2 * n + 2) (spFitsList K n)) : FnOk P w K mg base CX0 (2 * n + 2 + 1) f fd ["condition", "kind"] (spFits K (n + 1)) := by
  obtain ⟨tD, m_DIVISOR⟩ := T.m_DIVISOR
  refine F.ok sc_fits (fun vs H Q E h => ?_) (fun cdv A outer s H vs Q E hr h => ?_)
  · obtain ⟨v, u, c, k, rfl, _⟩ := h
    rfl
  obtain ⟨v, u, c, k, rfl, hv, hc, hu, hk, q⟩ := h
  refine ⟨_, (pss_cons (ps_set (i := 2) sc_fits.nd rfl (Or.inl rfl) (pe_ix (r := rIxT K) ix_tup (pv 0) pe_int (fun _ _ => rfl)))
      (pss_cons (ps_if (pt_cmpR op_in_seq (pv 2) (pe_tup (pa_cons pe_str (pa_cons pe_str (pa_cons pe_str pa_nil)))) (by rfl)) (pss_one (ps_ret (pe_callB (cr_all rfl) (by rfl) T.z_all (by decide +kernel) (pa_cons (pe_lc (own := [("part", 4)]) (g := gName 4) (by rfl) sc_fits.nd (pi_tup (pe_slice (r := rSlT K) sl_tup (pv 0) (po_some pe_int) po_none)) (blkOk_by (own := [("part", 4)]) (N := N_fits) (sc := defScope s_fits) (by decide +kernel)) (fun _ _ _ _ _ => (pg_name (i := 4) sc_fits.nd rfl (Or.inl rfl))) (fun _ _ _ _ _ => pts_nil) (fun _ _ _ _ _ => (pe_call c_fits.ok (hr.mono (by omega)) (by rfl) c_fits.m c_fits.kp c_fits.b .nil pass0 (pa_cons (pv 4) (pa_cons (pv 1) pa_nil))))) pa_nil)))) pss_nil)
      (pss_cons (ps_if (pt_cmpR op_eq (pv 2) pe_str (nomark _)) (pss_one (ps_ret (pe_cmpR (op_eqD hr.units) (pv 1) pe_str (nomark _)))) pss_nil)
      (pss_cons (ps_if (pt_cmpR op_eq (pv 2) pe_str (nomark _)) (pss_one (ps_ret (pe_and (pe_cmpR (op_eqD hr.units) (pv 1) pe_str (nomark _)) (pe_one (pe_chain op_le op_le pe_int (pe_ix (r := rIxT K) ix_tup (pv 0) pe_int (fun _ _ => rfl)) (pe_glob (v := .int 100) (by rfl) m_DIVISOR ⟨_, rfl⟩)))))) pss_nil)
      (pss_cons (ps_if (pt_cmpR op_eq (pv 2) pe_str (nomark _)) (pss_one (ps_ret (pe_and (pe_cmpR (op_eqD hr.units) (pv 1) pe_str (nomark _)) (pe_one (pe_call c_is_word.ok (hr.mono (by omega)) (by rfl) c_is_word.m c_is_word.kp c_is_word.b .nil pass0 (pa_cons (pe_ix (r := rIxT K) ix_tup (pv 0) pe_int (fun _ _ => rfl)) pa_nil)))))) pss_nil)
      (pss_cons (ps_if (pt_cmpR op_eq (pv 2) pe_str (nomark _)) (pss_one (ps_ret (pe_call c__fits_item.ok (hr.mono (by omega)) (by rfl) c__fits_item.m c__fits_item.kp c__fits_item.b .nil pass0 (pa_cons (pe_ix (r := rIxT K) ix_tup (pv 0) pe_int (fun _ _ => rfl)) (pa_cons (pe_ix (r := rIxT K) ix_tup (pv 0) pe_int (fun _ _ => rfl)) (pa_cons (pe_call c_kinds_in_tuple.ok (hr.mono (by omega)) (by rfl) c_kinds_in_tuple.m c_kinds_in_tuple.kp c_kinds_in_tuple.b .nil pass0 (pa_cons (pv 1) pa_nil)) pa_nil)))))) pss_nil)
      (pss_cons (ps_set (i := 3) sc_fits.nd rfl (Or.inl rfl) (pe_call c_kind_in_list.ok (hr.mono (by omega)) (by rfl) c_kind_in_list.m c_kind_in_list.kp c_kind_in_list.b .nil pass0 (pa_cons (pv 1) pa_nil)))
      (pss_one (ps_ret (pe_and (pe_cmpR op_notN (pv 3) pe_non (nomark _)) (pe_one (pe_call c__fits_list.ok (hr.mono (by omega)) (by rfl) c__fits_list.m c__fits_list.kp c__fits_list.b .nil pass0 (pa_cons (pv 0) (pa_cons (pv 3) pa_nil)))))))))))))), ?_⟩
  cases c with
  | not_ c =>
    rw [Cd.data] at hv
    obtain ⟨a, x, y, rfl, hs, hx, hy⟩ := hv.g2
    cases hx.str_inv
    refine q_asg (ev_ixT (j := 0) (ev_var rfl) ev_c hs rfl) fun H1 e1 => ?_
    refine takeT e1 rfl (ea_cons ev_c (ea_cons ev_c (ea_cons ev_c ea_nil))) (by show 3 ≤ 100000; decide) rfl (by decide +kernel) fun H2 e2 => ?_
    have hc1 : OkC n c := by cases hc with | not_ h => exact h
    refine s_ret (ev_is (ev_all (el_is (el_lcNT (fun _ => true) (fun _ => .bl (fitsC c k)) (eu_sl1 (ev_var rfl) (ex_t e2 hs)) (by show 1 ≤ 40000; decide) (fun _ => rfl) (fun _ _ _ _ _ => et_yes) (fun i x H9 e9 hx _ => ?_)) (given_all _ _))) ?_) fun H9 e9 => q H9 (e2.trans e9)
    · have e09 := e2.trans e9
      match i, hx with
      | 0, hx =>
        cases hx
        exact ev_callC (ea_cons (ev_var rfl) (ea_cons (ev_var rfl) ea_nil)) (fits_call (hy.keep (Kt.same e09)) hc1 (hu.keep (Kt.same e09)) hk)
    · show V.bl ([fitsC c k].all id) = V.bl (fitsC c k)
      cases fitsC c k <;> rfl
  | and_ c d =>
    rw [Cd.data] at hv
    obtain ⟨a, x, y, z, rfl, hs, hx, hy, hz⟩ := hv.g3
    cases hx.str_inv
    refine q_asg (ev_ixT (j := 0) (ev_var rfl) ev_c hs rfl) fun H1 e1 => ?_
    refine takeT e1 rfl (ea_cons ev_c (ea_cons ev_c (ea_cons ev_c ea_nil))) (by show 3 ≤ 100000; decide) rfl (by decide +kernel) fun H2 e2 => ?_
    have hc1 : OkC n c ∧ OkC n d := by cases hc with | and_ h g => exact ⟨h, g⟩
    refine s_ret (ev_is (ev_all (el_is (el_lcNT (fun _ => true) (fun i => .bl (if i = 0 then fitsC c k else fitsC d k)) (eu_sl1 (ev_var rfl) (ex_t e2 hs)) (by show 2 ≤ 40000; decide) (fun _ => rfl) (fun _ _ _ _ _ => et_yes) (fun i x H9 e9 hx _ => ?_)) (given_all _ _))) ?_) fun H9 e9 => q H9 (e2.trans e9)
    · have e09 := e2.trans e9
      match i, hx with
      | 0, hx =>
        cases hx
        exact ev_callC (ea_cons (ev_var rfl) (ea_cons (ev_var rfl) ea_nil)) (fits_call (hy.keep (Kt.same e09)) hc1.1 (hu.keep (Kt.same e09)) hk)
      | 1, hx =>
        cases hx
        exact ev_callC (ea_cons (ev_var rfl) (ea_cons (ev_var rfl) ea_nil)) (fits_call (hz.keep (Kt.same e09)) hc1.2 (hu.keep (Kt.same e09)) hk)
    · show V.bl ([fitsC c k, fitsC d k].all id) = V.bl (fitsC c k && fitsC d k)
      cases fitsC c k <;> cases fitsC d k <;> rfl
  | or_ c d =>
    rw [Cd.data] at hv
    obtain ⟨a, x, y, z, rfl, hs, hx, hy, hz⟩ := hv.g3
    cases hx.str_inv
    refine q_asg (ev_ixT (j := 0) (ev_var rfl) ev_c hs rfl) fun H1 e1 => ?_
    refine takeT e1 rfl (ea_cons ev_c (ea_cons ev_c (ea_cons ev_c ea_nil))) (by show 3 ≤ 100000; decide) rfl (by decide +kernel) fun H2 e2 => ?_
    have hc1 : OkC n c ∧ OkC n d := by cases hc with | or_ h g => exact ⟨h, g⟩
    refine s_ret (ev_is (ev_all (el_is (el_lcNT (fun _ => true) (fun i => .bl (if i = 0 then fitsC c k else fitsC d k)) (eu_sl1 (ev_var rfl) (ex_t e2 hs)) (by show 2 ≤ 40000; decide) (fun _ => rfl) (fun _ _ _ _ _ => et_yes) (fun i x H9 e9 hx _ => ?_)) (given_all _ _))) ?_) fun H9 e9 => q H9 (e2.trans e9)
    · have e09 := e2.trans e9
      match i, hx with
      | 0, hx =>
        cases hx
        exact ev_callC (ea_cons (ev_var rfl) (ea_cons (ev_var rfl) ea_nil)) (fits_call (hy.keep (Kt.same e09)) hc1.1 (hu.keep (Kt.same e09)) hk)
      | 1, hx =>
        cases hx
        exact ev_callC (ea_cons (ev_var rfl) (ea_cons (ev_var rfl) ea_nil)) (fits_call (hz.keep (Kt.same e09)) hc1.2 (hu.keep (Kt.same e09)) hk)
    · show V.bl ([fitsC c k, fitsC d k].all id) = V.bl (fitsC c k && fitsC d k)
      cases fitsC c k <;> cases fitsC d k <;> rfl
  | atmost m =>
    rw [Cd.data] at hv
    obtain ⟨a, x, y, rfl, hs, hx, hy⟩ := hv.g2
    cases hx.str_inv
    refine q_asg (ev_ixT (j := 0) (ev_var rfl) ev_c hs rfl) fun H1 e1 => ?_
    refine skipT e1 rfl (ea_cons ev_c (ea_cons ev_c (ea_cons ev_c ea_nil))) (by show 3 ≤ 100000; decide) rfl (by decide +kernel) fun H2 e2 => ?_
    refine takeS e2 rfl (by decide +kernel) fun H3 e3 => ?_
    exact s_ret (ev_isInt (ev_var rfl) (hu.keep (Kt.same e3)) hk (by omega)) fun H9 e9 => q H9 (e3.trans e9)
  | divides m =>
    rw [Cd.data] at hv
    obtain ⟨a, x, y, rfl, hs, hx, hy⟩ := hv.g2
    cases hx.str_inv
    refine q_asg (ev_ixT (j := 0) (ev_var rfl) ev_c hs rfl) fun H1 e1 => ?_
    refine skipT e1 rfl (ea_cons ev_c (ea_cons ev_c (ea_cons ev_c ea_nil))) (by show 3 ≤ 100000; decide) rfl (by decide +kernel) fun H2 e2 => ?_
    refine skipS e2 rfl (by decide +kernel) fun H3 e3 => ?_
    refine takeS e3 rfl (by decide +kernel) fun H4 e4 => ?_
    cases hy.int_inv
    exact s_ret (ev_andV (ev_isInt (ev_var rfl) (hu.keep (Kt.same e4)) hk (by omega)) fun _ => ev_one (ev_chain ev_c (ev_ixT (j := 1) (ev_var rfl) ev_c (ex_t e4 hs) rfl) ev_c rv_I0 rv_I0)) fun H9 e9 => q H9 (e4.trans e9)
  | is m =>
    rw [Cd.data] at hv
    obtain ⟨a, x, y, rfl, hs, hx, hy⟩ := hv.g2
    cases hx.str_inv
    refine q_asg (ev_ixT (j := 0) (ev_var rfl) ev_c hs rfl) fun H1 e1 => ?_
    refine skipT e1 rfl (ea_cons ev_c (ea_cons ev_c (ea_cons ev_c ea_nil))) (by show 3 ≤ 100000; decide) rfl (by decide +kernel) fun H2 e2 => ?_
    refine skipS e2 rfl (by decide +kernel) fun H3 e3 => ?_
    refine skipS e3 rfl (by decide +kernel) fun H4 e4 => ?_
    refine takeS e4 rfl (by decide +kernel) fun H5 e5 => ?_
    cases hy.str_inv
    have hm : m.length ≤ 1000 := by cases hc with | is _ h => exact h
    exact s_ret (ev_andV (ev_isWord (ev_var rfl) (hu.keep (Kt.same e5)) hk (by omega)) fun _ => ev_one (ev_callC (ea_cons (ev_ixT (j := 1) (ev_var rfl) ev_c (ex_t e5 hs) rfl) ea_nil) fun H1 e Q q E => ⟨m, rfl, hm, fun H' e' => q H' e'⟩)) fun H9 e9 => q H9 (e5.trans e9)
  | item m c =>
    rw [Cd.data] at hv
    obtain ⟨a, x, y, z, rfl, hs, hx, hy, hz⟩ := hv.g3
    cases hx.str_inv
    refine q_asg (ev_ixT (j := 0) (ev_var rfl) ev_c hs rfl) fun H1 e1 => ?_
    refine skipT e1 rfl (ea_cons ev_c (ea_cons ev_c (ea_cons ev_c ea_nil))) (by show 3 ≤ 100000; decide) rfl (by decide +kernel) fun H2 e2 => ?_
    refine skipS e2 rfl (by decide +kernel) fun H3 e3 => ?_
    refine skipS e3 rfl (by decide +kernel) fun H4 e4 => ?_
    refine skipS e4 rfl (by decide +kernel) fun H5 e5 => ?_
    refine takeS e5 rfl (by decide +kernel) fun H6 e6 => ?_
    cases hy.int_inv
    have hc1 : OkC n c := by cases hc with | item _ h => exact h
    refine ⟨_, rfl, a, _, 1, _, rfl, rfl, ex_t e6 hs, rfl, _, rfl, a, _, 2, _, rfl, rfl, ex_t e6 hs, rfl, _, rfl, u, k, 10, rfl, hu.keep (Kt.same e6), hk, by omega, fun r H8 e8 ht hn => ?_⟩
    have e08 := e6.trans e8
    have hb : ∃ b, r = .ref b ∧ Vd K H8 (.ref b) (.tuple (dataAll k.parts)) ∧ ∀ j ∈ k.parts, OkK 10 j := by
      cases hk with
      | int => obtain ⟨b, rfl, hb⟩ := hn (fun _ e => Kd.noConfusion e); exact ⟨b, rfl, hb, fun _ h => nomatch h⟩
      | word => obtain ⟨b, rfl, hb⟩ := hn (fun _ e => Kd.noConfusion e); exact ⟨b, rfl, hb, fun _ h => nomatch h⟩
      | lst _ => obtain ⟨b, rfl, hb⟩ := hn (fun _ e => Kd.noConfusion e); exact ⟨b, rfl, hb, fun _ h => nomatch h⟩
      | tup _ hks => obtain ⟨b, rfl, hb⟩ := ht _ rfl; exact ⟨b, rfl, hb, fun j hj => (hks j hj).mono (by omega)⟩
    obtain ⟨b, rfl, hb, hkp⟩ := hb
    exact ⟨m, _, _, c, k.parts, rfl, hz.keep (Kt.same e08), hc1, hb, hkp, fun H9 e9 => q H9 (e08.trans e9)⟩
  | every c =>
    have hv0 := hv
    rw [Cd.data] at hv
    obtain ⟨a, x, y, rfl, hs, hx, hy⟩ := hv.g2
    cases hx.str_inv
    refine q_asg (ev_ixT (j := 0) (ev_var rfl) ev_c hs rfl) fun H1 e1 => ?_
    refine skipT e1 rfl (ea_cons ev_c (ea_cons ev_c (ea_cons ev_c ea_nil))) (by show 3 ≤ 100000; decide) rfl (by decide +kernel) fun H2 e2 => ?_
    refine skipS e2 rfl (by decide +kernel) fun H3 e3 => ?_
    refine skipS e3 rfl (by decide +kernel) fun H4 e4 => ?_
    refine skipS e4 rfl (by decide +kernel) fun H5 e5 => ?_
    refine skipS e5 rfl (by decide +kernel) fun H6 e6 => ?_
    refine ⟨_, rfl, u, k, 10, rfl, hu.keep (Kt.same e6), hk, by omega, fun r H8 e8 hl hn => ?_⟩
    have e08 := e6.trans e8
    have no : (∀ j, k ≠ .lst j) → tRet (tAndV (tOp (fun x y H Q => y = .non ∧ Q (.bl (!decide (x = .non))) H) (tVar 3) (tC .non)) (tCall (spFitsList K n) [] E0 (tCons (tVar 0) (tCons (tVar 3) tNil)))) { nx := fun _ H' => Q .non H', rt := Q } [some (.ref a), some u, some (.str "every"), some r, none] H8 := fun nk => by
      cases hn nk
      have hf : fitsC (.every c) k = false := by
        cases k with
        | lst j => exact absurd rfl (nk j)
        | _ => rfl
      rw [hf] at q
      exact s_ret (ev_andF (ev_is (ev_op (ev_var rfl) ev_c rv_notN) (by decide))) fun H9 e9 => q H9 (e08.trans e9)
    cases k with
    | int => exact no fun _ e => Kd.noConfusion e
    | word => exact no fun _ e => Kd.noConfusion e
    | tup _ => exact no fun _ e => Kd.noConfusion e
    | lst j =>
      obtain ⟨hr0, hj⟩ := hl j rfl
      have hj1 : OkK 10 j := by cases hk with | lst h => exact h.mono (by omega)
      exact s_ret (ev_andT (ev_is (ev_op (ev_var rfl) ev_c rv_notN) (by rw [decide_eq_false hr0]; rfl)) (ev_one (ev_callC (ea_cons (ev_var rfl) (ea_cons (ev_var rfl) ea_nil)) fun H7 e7 Q q E => ⟨_, r, .every c, j, rfl, hv0.keep (Kt.same (e08.trans e7)), hc, rfl, hj.keep (Kt.same e7), hj1, fun H' e' => q H' e'⟩))) fun H9 e9 => q H9 (e08.trans e9)
  | some_ c =>
    have hv0 := hv
    rw [Cd.data] at hv
    obtain ⟨a, x, y, rfl, hs, hx, hy⟩ := hv.g2
    cases hx.str_inv
    refine q_asg (ev_ixT (j := 0) (ev_var rfl) ev_c hs rfl) fun H1 e1 => ?_
    refine skipT e1 rfl (ea_cons ev_c (ea_cons ev_c (ea_cons ev_c ea_nil))) (by show 3 ≤ 100000; decide) rfl (by decide +kernel) fun H2 e2 => ?_
    refine skipS e2 rfl (by decide +kernel) fun H3 e3 => ?_
    refine skipS e3 rfl (by decide +kernel) fun H4 e4 => ?_
    refine skipS e4 rfl (by decide +kernel) fun H5 e5 => ?_
    refine skipS e5 rfl (by decide +kernel) fun H6 e6 => ?_
    refine ⟨_, rfl, u, k, 10, rfl, hu.keep (Kt.same e6), hk, by omega, fun r H8 e8 hl hn => ?_⟩
    have e08 := e6.trans e8
    have no : (∀ j, k ≠ .lst j) → tRet (tAndV (tOp (fun x y H Q => y = .non ∧ Q (.bl (!decide (x = .non))) H) (tVar 3) (tC .non)) (tCall (spFitsList K n) [] E0 (tCons (tVar 0) (tCons (tVar 3) tNil)))) { nx := fun _ H' => Q .non H', rt := Q } [some (.ref a), some u, some (.str "some"), some r, none] H8 := fun nk => by
      cases hn nk
      have hf : fitsC (.some_ c) k = false := by
        cases k with
        | lst j => exact absurd rfl (nk j)
        | _ => rfl
      rw [hf] at q
      exact s_ret (ev_andF (ev_is (ev_op (ev_var rfl) ev_c rv_notN) (by decide))) fun H9 e9 => q H9 (e08.trans e9)
    cases k with
    | int => exact no fun _ e => Kd.noConfusion e
    | word => exact no fun _ e => Kd.noConfusion e
    | tup _ => exact no fun _ e => Kd.noConfusion e
    | lst j =>
      obtain ⟨hr0, hj⟩ := hl j rfl
      have hj1 : OkK 10 j := by cases hk with | lst h => exact h.mono (by omega)
      exact s_ret (ev_andT (ev_is (ev_op (ev_var rfl) ev_c rv_notN) (by rw [decide_eq_false hr0]; rfl)) (ev_one (ev_callC (ea_cons (ev_var rfl) (ea_cons (ev_var rfl) ea_nil)) fun H7 e7 Q q E => ⟨_, r, .some_ c, j, rfl, hv0.keep (Kt.same (e08.trans e7)), hc, rfl, hj.keep (Kt.same e7), hj1, fun H' e' => q H' e'⟩))) fun H9 e9 => q H9 (e08.trans e9)
  | size c =>
    have hv0 := hv
    rw [Cd.data] at hv
    obtain ⟨a, x, y, rfl, hs, hx, hy⟩ := hv.g2
    cases hx.str_inv
    refine q_asg (ev_ixT (j := 0) (ev_var rfl) ev_c hs rfl) fun H1 e1 => ?_
    refine skipT e1 rfl (ea_cons ev_c (ea_cons ev_c (ea_cons ev_c ea_nil))) (by show 3 ≤ 100000; decide) rfl (by decide +kernel) fun H2 e2 => ?_
    refine skipS e2 rfl (by decide +kernel) fun H3 e3 => ?_
    refine skipS e3 rfl (by decide +kernel) fun H4 e4 => ?_
    refine skipS e4 rfl (by decide +kernel) fun H5 e5 => ?_
    refine skipS e5 rfl (by decide +kernel) fun H6 e6 => ?_
    refine ⟨_, rfl, u, k, 10, rfl, hu.keep (Kt.same e6), hk, by omega, fun r H8 e8 hl hn => ?_⟩
    have e08 := e6.trans e8
    have no : (∀ j, k ≠ .lst j) → tRet (tAndV (tOp (fun x y H Q => y = .non ∧ Q (.bl (!decide (x = .non))) H) (tVar 3) (tC .non)) (tCall (spFitsList K n) [] E0 (tCons (tVar 0) (tCons (tVar 3) tNil)))) { nx := fun _ H' => Q .non H', rt := Q } [some (.ref a), some u, some (.str "size"), some r, none] H8 := fun nk => by
      cases hn nk
      have hf : fitsC (.size c) k = false := by
        cases k with
        | lst j => exact absurd rfl (nk j)
        | _ => rfl
      rw [hf] at q
      exact s_ret (ev_andF (ev_is (ev_op (ev_var rfl) ev_c rv_notN) (by decide))) fun H9 e9 => q H9 (e08.trans e9)
    cases k with
    | int => exact no fun _ e => Kd.noConfusion e
    | word => exact no fun _ e => Kd.noConfusion e
    | tup _ => exact no fun _ e => Kd.noConfusion e
    | lst j =>
      obtain ⟨hr0, hj⟩ := hl j rfl
      have hj1 : OkK 10 j := by cases hk with | lst h => exact h.mono (by omega)
      exact s_ret (ev_andT (ev_is (ev_op (ev_var rfl) ev_c rv_notN) (by rw [decide_eq_false hr0]; rfl)) (ev_one (ev_callC (ea_cons (ev_var rfl) (ea_cons (ev_var rfl) ea_nil)) fun H7 e7 Q q E => ⟨_, r, .size c, j, rfl, hv0.keep (Kt.same (e08.trans e7)), hc, rfl, hj.keep (Kt.same e7), hj1, fun H' e' => q H' e'⟩))) fun H9 e9 => q H9 (e08.trans e9)
  | sum c =>
    have hv0 := hv
    rw [Cd.data] at hv
    obtain ⟨a, x, y, rfl, hs, hx, hy⟩ := hv.g2
    cases hx.str_inv
    refine q_asg (ev_ixT (j := 0) (ev_var rfl) ev_c hs rfl) fun H1 e1 => ?_
    refine skipT e1 rfl (ea_cons ev_c (ea_cons ev_c (ea_cons ev_c ea_nil))) (by show 3 ≤ 100000; decide) rfl (by decide +kernel) fun H2 e2 => ?_
    refine skipS e2 rfl (by decide +kernel) fun H3 e3 => ?_
    refine skipS e3 rfl (by decide +kernel) fun H4 e4 => ?_
    refine skipS e4 rfl (by decide +kernel) fun H5 e5 => ?_
    refine skipS e5 rfl (by decide +kernel) fun H6 e6 => ?_
    refine ⟨_, rfl, u, k, 10, rfl, hu.keep (Kt.same e6), hk, by omega, fun r H8 e8 hl hn => ?_⟩
    have e08 := e6.trans e8
    have no : (∀ j, k ≠ .lst j) → tRet (tAndV (tOp (fun x y H Q => y = .non ∧ Q (.bl (!decide (x = .non))) H) (tVar 3) (tC .non)) (tCall (spFitsList K n) [] E0 (tCons (tVar 0) (tCons (tVar 3) tNil)))) { nx := fun _ H' => Q .non H', rt := Q } [some (.ref a), some u, some (.str "sum"), some r, none] H8 := fun nk => by
      cases hn nk
      have hf : fitsC (.sum c) k = false := by
        cases k with
        | lst j => exact absurd rfl (nk j)
        | _ => rfl
      rw [hf] at q
      exact s_ret (ev_andF (ev_is (ev_op (ev_var rfl) ev_c rv_notN) (by decide))) fun H9 e9 => q H9 (e08.trans e9)
    cases k with
    | int => exact no fun _ e => Kd.noConfusion e
    | word => exact no fun _ e => Kd.noConfusion e
    | tup _ => exact no fun _ e => Kd.noConfusion e
    | lst j =>
      obtain ⟨hr0, hj⟩ := hl j rfl
      have hj1 : OkK 10 j := by cases hk with | lst h => exact h.mono (by omega)
      exact s_ret (ev_andT (ev_is (ev_op (ev_var rfl) ev_c rv_notN) (by rw [decide_eq_false hr0]; rfl)) (ev_one (ev_callC (ea_cons (ev_var rfl) (ea_cons (ev_var rfl) ea_nil)) fun H7 e7 Q q E => ⟨_, r, .sum c, j, rfl, hv0.keep (Kt.same (e08.trans e7)), hc, rfl, hj.keep (Kt.same e7), hj1, fun H' e' => q H' e'⟩))) fun H9 e9 => q H9 (e08.trans e9)
  | rising =>
    have hv0 := hv
    rw [Cd.data] at hv
    obtain ⟨a, x, rfl, hs, hx⟩ := hv.g1
    cases hx.str_inv
    refine q_asg (ev_ixT (j := 0) (ev_var rfl) ev_c hs rfl) fun H1 e1 => ?_
    refine skipT e1 rfl (ea_cons ev_c (ea_cons ev_c (ea_cons ev_c ea_nil))) (by show 3 ≤ 100000; decide) rfl (by decide +kernel) fun H2 e2 => ?_
    refine skipS e2 rfl (by decide +kernel) fun H3 e3 => ?_
    refine skipS e3 rfl (by decide +kernel) fun H4 e4 => ?_
    refine skipS e4 rfl (by decide +kernel) fun H5 e5 => ?_
    refine skipS e5 rfl (by decide +kernel) fun H6 e6 => ?_
    refine ⟨_, rfl, u, k, 10, rfl, hu.keep (Kt.same e6), hk, by omega, fun r H8 e8 hl hn => ?_⟩
    have e08 := e6.trans e8
    have no : (∀ j, k ≠ .lst j) → tRet (tAndV (tOp (fun x y H Q => y = .non ∧ Q (.bl (!decide (x = .non))) H) (tVar 3) (tC .non)) (tCall (spFitsList K n) [] E0 (tCons (tVar 0) (tCons (tVar 3) tNil)))) { nx := fun _ H' => Q .non H', rt := Q } [some (.ref a), some u, some (.str "rising"), some r, none] H8 := fun nk => by
      cases hn nk
      have hf : fitsC (.rising) k = false := by
        cases k with
        | lst j => exact absurd rfl (nk j)
        | _ => rfl
      rw [hf] at q
      exact s_ret (ev_andF (ev_is (ev_op (ev_var rfl) ev_c rv_notN) (by decide))) fun H9 e9 => q H9 (e08.trans e9)
    cases k with
    | int => exact no fun _ e => Kd.noConfusion e
    | word => exact no fun _ e => Kd.noConfusion e
    | tup _ => exact no fun _ e => Kd.noConfusion e
    | lst j =>
      obtain ⟨hr0, hj⟩ := hl j rfl
      have hj1 : OkK 10 j := by cases hk with | lst h => exact h.mono (by omega)
      exact s_ret (ev_andT (ev_is (ev_op (ev_var rfl) ev_c rv_notN) (by rw [decide_eq_false hr0]; rfl)) (ev_one (ev_callC (ea_cons (ev_var rfl) (ea_cons (ev_var rfl) ea_nil)) fun H7 e7 Q q E => ⟨_, r, .rising, j, rfl, hv0.keep (Kt.same (e08.trans e7)), hc, rfl, hj.keep (Kt.same e7), hj1, fun H' e' => q H' e'⟩))) fun H9 e9 => q H9 (e08.trans e9)
  | different =>
    have hv0 := hv
    rw [Cd.data] at hv
    obtain ⟨a, x, rfl, hs, hx⟩ := hv.g1
    cases hx.str_inv
    refine q_asg (ev_ixT (j := 0) (ev_var rfl) ev_c hs rfl) fun H1 e1 => ?_
    refine skipT e1 rfl (ea_cons ev_c (ea_cons ev_c (ea_cons ev_c ea_nil))) (by show 3 ≤ 100000; decide) rfl (by decide +kernel) fun H2 e2 => ?_
    refine skipS e2 rfl (by decide +kernel) fun H3 e3 => ?_
    refine skipS e3 rfl (by decide +kernel) fun H4 e4 => ?_
    refine skipS e4 rfl (by decide +kernel) fun H5 e5 => ?_
    refine skipS e5 rfl (by decide +kernel) fun H6 e6 => ?_
    refine ⟨_, rfl, u, k, 10, rfl, hu.keep (Kt.same e6), hk, by omega, fun r H8 e8 hl hn => ?_⟩
    have e08 := e6.trans e8
    have no : (∀ j, k ≠ .lst j) → tRet (tAndV (tOp (fun x y H Q => y = .non ∧ Q (.bl (!decide (x = .non))) H) (tVar 3) (tC .non)) (tCall (spFitsList K n) [] E0 (tCons (tVar 0) (tCons (tVar 3) tNil)))) { nx := fun _ H' => Q .non H', rt := Q } [some (.ref a), some u, some (.str "different"), some r, none] H8 := fun nk => by
      cases hn nk
      have hf : fitsC (.different) k = false := by
        cases k with
        | lst j => exact absurd rfl (nk j)
        | _ => rfl
      rw [hf] at q
      exact s_ret (ev_andF (ev_is (ev_op (ev_var rfl) ev_c rv_notN) (by decide))) fun H9 e9 => q H9 (e08.trans e9)
    cases k with
    | int => exact no fun _ e => Kd.noConfusion e
    | word => exact no fun _ e => Kd.noConfusion e
    | tup _ => exact no fun _ e => Kd.noConfusion e
    | lst j =>
      obtain ⟨hr0, hj⟩ := hl j rfl
      have hj1 : OkK 10 j := by cases hk with | lst h => exact h.mono (by omega)
      exact s_ret (ev_andT (ev_is (ev_op (ev_var rfl) ev_c rv_notN) (by rw [decide_eq_false hr0]; rfl)) (ev_one (ev_callC (ea_cons (ev_var rfl) (ea_cons (ev_var rfl) ea_nil)) fun H7 e7 Q q E => ⟨_, r, .different, j, rfl, hv0.keep (Kt.same (e08.trans e7)), hc, rfl, hj.keep (Kt.same e7), hj1, fun H' e' => q H' e'⟩))) fun H9 e9 => q H9 (e08.trans e9)
theorem ok__fits_item {f : Addr} {fd : FuncData} {n : Nat} (T : Tx mg) (F : Fun K "_fits_item" "_fits_item" s__fits_item f fd) (c_fits : Cl P w K mg base "fits" ["condition", "kind"] (2 * n + 1) (spFits K n)) : FnOk P w K mg base CX0 (2 * n + 1 + 1) f fd ["place", "condition", "kinds"] (spFitsItem K n) := by
  refine F.ok sc__fits_item (fun vs H Q E h => ?_) (fun cdv A outer s H vs Q E hr h => ?_)
  · obtain ⟨i, v, u, c, ks, rfl, _⟩ := h
    rfl
  obtain ⟨i, v, u, c, ks, rfl, hv, hc, hu, hk, q⟩ := h
  refine ⟨_, (pss_one (ps_ret (pe_and (pe_chain op_le op_lt pe_int (pv 0) (pe_callB call_len_seq (by rfl) T.z_len PySem.boot_len (pa_cons (pv 2) pa_nil))) (pe_one (pe_call c_fits.ok (hr.mono (by omega)) (by rfl) c_fits.m c_fits.kp c_fits.b .nil pass0 (pa_cons (pv 1) (pa_cons (pe_ix (r := rIxT K) ix_tup (pv 2) (pv 0) (fun _ _ => rfl)) pa_nil))))))), ?_⟩
  obtain ⟨b, rfl⟩ := hu.ref
  obtain ⟨ys, hys, hyl, hyi⟩ := hu.get
  have hyk : ys.length = ks.length := by rw [hyl, dataAll_map, List.length_map]
  refine s_ret (ev_is (ev_andV (b := fitsC c (ks.getD i.toNat .int)) (ev_chain ev_c (ev_var rfl) (ev_lenT (ev_var rfl) hys) rv_I0 rv_I0) fun hb => ev_one (ev_callC (vs := [v, ys.getD i.toNat .non]) (ea_cons (ev_var rfl) (ea_cons ?_ ea_nil)) ?_)) ?_) q
  · obtain ⟨h0, h1⟩ := Bool.and_eq_true_iff.mp hb
    have h0 := of_decide_eq_true h0
    have h1 := of_decide_eq_true h1
    obtain ⟨j, rfl⟩ := Int.eq_ofNat_of_zero_le h0
    exact ev_ixT (j := j) (ev_var rfl) (ev_var rfl) hys (getD_at (by omega))
  · obtain ⟨h0, h1⟩ := Bool.and_eq_true_iff.mp hb
    have h0 := of_decide_eq_true h0
    have h1 := of_decide_eq_true h1
    have hi : i.toNat < ks.length := by omega
    have hyd : (dataAll ks)[i.toNat]? = some (ks.getD i.toNat .int).data := by rw [dataAll_map, List.getElem?_map, getD_at (a0 := Kd.int) hi]; rfl
    exact fits_call hv hc (hyi _ _ _ (getD_at (by omega)) hyd) (hk _ (List.mem_of_getElem? (getD_at hi)))
  · rw [hyk]
theorem ok__fits_list {f : Addr} {fd : FuncData} {n : Nat} (T : Tx mg) (F : Fun K "_fits_list" "_fits_list" s__fits_list f fd) (c_fits : Cl P w K mg base "fits" ["condition", "kind"] (2 * n + 1) (spFits K n)) : FnOk P w K mg base CX0 (2 * n + 1 + 1) f fd ["condition", "listed"] (spFitsList K n) := by
  refine F.ok sc__fits_list (fun vs H Q E h => ?_) (fun cdv A outer s H vs Q E hr h => ?_)
  · obtain ⟨v, u, c, j, rfl, _⟩ := h
    rfl
  obtain ⟨v, u, c, j, rfl, hv, hc, ho, hu, hj, q⟩ := h
  refine ⟨_, (pss_cons (ps_set (i := 2) sc__fits_list.nd rfl (Or.inl rfl) (pe_ix (r := rIxT K) ix_tup (pv 0) pe_int (fun _ _ => rfl)))
      (pss_cons (ps_if (pt_cmpR op_in_seq (pv 2) (pe_tup (pa_cons pe_str (pa_cons pe_str pa_nil))) (by rfl)) (pss_one (ps_ret (pe_call c_fits.ok (hr.mono (by omega)) (by rfl) c_fits.m c_fits.kp c_fits.b .nil pass0 (pa_cons (pe_ix (r := rIxT K) ix_tup (pv 0) pe_int (fun _ _ => rfl)) (pa_cons (pv 1) pa_nil))))) pss_nil)
      (pss_cons (ps_if (pt_cmpR op_eq (pv 2) pe_str (nomark _)) (pss_one (ps_ret (pe_call c_fits.ok (hr.mono (by omega)) (by rfl) c_fits.m c_fits.kp c_fits.b .nil pass0 (pa_cons (pe_ix (r := rIxT K) ix_tup (pv 0) pe_int (fun _ _ => rfl)) (pa_cons pe_str pa_nil))))) pss_nil)
      (pss_cons (ps_if (pt_cmpR op_eq (pv 2) pe_str (nomark _)) (pss_one (ps_ret (pe_and (pe_cmpR (op_eqD hr.units) (pv 1) pe_str (nomark _)) (pe_one (pe_call c_fits.ok (hr.mono (by omega)) (by rfl) c_fits.m c_fits.kp c_fits.b .nil pass0 (pa_cons (pe_ix (r := rIxT K) ix_tup (pv 0) pe_int (fun _ _ => rfl)) (pa_cons pe_str pa_nil))))))) pss_nil)
      (pss_cons (ps_if (pt_cmpR op_eq (pv 2) pe_str (nomark _)) (pss_one (ps_ret (pe_cmpR (op_eqD hr.units) (pv 1) pe_str (nomark _)))) pss_nil)
      (pss_one (ps_ret (pe_cmpR op_eq (pv 2) pe_str (nomark _))))))))), ?_⟩
  cases c with
  | atmost m => cases ho
  | divides m => cases ho
  | is m => cases ho
  | item m c => cases ho
  | not_ c => cases ho
  | and_ c d => cases ho
  | or_ c d => cases ho
  | every c =>
    rw [Cd.data] at hv
    obtain ⟨a, x, y, rfl, hs, hx, hy⟩ := hv.g2
    cases hx.str_inv
    refine q_asg (ev_ixT (j := 0) (ev_var rfl) ev_c hs rfl) fun H1 e1 => ?_
    have hc1 : OkC n c := by cases hc with | every h => exact h
    refine takeT e1 rfl (ea_cons ev_c (ea_cons ev_c ea_nil)) (by show 2 ≤ 100000; decide) rfl (by decide +kernel) fun H2 e2 => ?_
    exact s_ret (ev_callC (ea_cons (ev_ixT (j := 1) (ev_var rfl) ev_c (ex_t e2 hs) rfl) (ea_cons (ev_var rfl) ea_nil)) (fits_call (hy.keep (Kt.same e2)) hc1 (hu.keep (Kt.same e2)) hj)) fun H9 e9 => q H9 (e2.trans e9)
  | some_ c =>
    rw [Cd.data] at hv
    obtain ⟨a, x, y, rfl, hs, hx, hy⟩ := hv.g2
    cases hx.str_inv
    refine q_asg (ev_ixT (j := 0) (ev_var rfl) ev_c hs rfl) fun H1 e1 => ?_
    have hc1 : OkC n c := by cases hc with | some_ h => exact h
    refine takeT e1 rfl (ea_cons ev_c (ea_cons ev_c ea_nil)) (by show 2 ≤ 100000; decide) rfl (by decide +kernel) fun H2 e2 => ?_
    exact s_ret (ev_callC (ea_cons (ev_ixT (j := 1) (ev_var rfl) ev_c (ex_t e2 hs) rfl) (ea_cons (ev_var rfl) ea_nil)) (fits_call (hy.keep (Kt.same e2)) hc1 (hu.keep (Kt.same e2)) hj)) fun H9 e9 => q H9 (e2.trans e9)
  | size c =>
    rw [Cd.data] at hv
    obtain ⟨a, x, y, rfl, hs, hx, hy⟩ := hv.g2
    cases hx.str_inv
    refine q_asg (ev_ixT (j := 0) (ev_var rfl) ev_c hs rfl) fun H1 e1 => ?_
    have hc1 : OkC n c := by cases hc with | size h => exact h
    refine skipT e1 rfl (ea_cons ev_c (ea_cons ev_c ea_nil)) (by show 2 ≤ 100000; decide) rfl (by decide +kernel) fun H2 e2 => ?_
    refine takeS e2 rfl (by decide +kernel) fun H3 e3 => ?_
    exact s_ret (ev_callC (ea_cons (ev_ixT (j := 1) (ev_var rfl) ev_c (ex_t e3 hs) rfl) (ea_cons ev_c ea_nil)) (fits_call (hy.keep (Kt.same e3)) hc1 int_data .int)) fun H9 e9 => q H9 (e3.trans e9)
  | sum c =>
    rw [Cd.data] at hv
    obtain ⟨a, x, y, rfl, hs, hx, hy⟩ := hv.g2
    cases hx.str_inv
    refine q_asg (ev_ixT (j := 0) (ev_var rfl) ev_c hs rfl) fun H1 e1 => ?_
    have hc1 : OkC n c := by cases hc with | sum h => exact h
    refine skipT e1 rfl (ea_cons ev_c (ea_cons ev_c ea_nil)) (by show 2 ≤ 100000; decide) rfl (by decide +kernel) fun H2 e2 => ?_
    refine skipS e2 rfl (by decide +kernel) fun H3 e3 => ?_
    refine takeS e3 rfl (by decide +kernel) fun H4 e4 => ?_
    exact s_ret (ev_andV (ev_isInt (ev_var rfl) (hu.keep (Kt.same e4)) hj (by omega)) fun _ => ev_one (ev_callC (ea_cons (ev_ixT (j := 1) (ev_var rfl) ev_c (ex_t e4 hs) rfl) (ea_cons ev_c ea_nil)) (fits_call (hy.keep (Kt.same e4)) hc1 int_data .int))) fun H9 e9 => q H9 (e4.trans e9)
  | rising =>
    rw [Cd.data] at hv
    obtain ⟨a, x, rfl, hs, hx⟩ := hv.g1
    cases hx.str_inv
    refine q_asg (ev_ixT (j := 0) (ev_var rfl) ev_c hs rfl) fun H1 e1 => ?_
    refine skipT e1 rfl (ea_cons ev_c (ea_cons ev_c ea_nil)) (by show 2 ≤ 100000; decide) rfl (by decide +kernel) fun H2 e2 => ?_
    refine skipS e2 rfl (by decide +kernel) fun H3 e3 => ?_
    refine skipS e3 rfl (by decide +kernel) fun H4 e4 => ?_
    refine takeS e4 rfl (by decide +kernel) fun H5 e5 => ?_
    exact s_ret (ev_isInt (ev_var rfl) (hu.keep (Kt.same e5)) hj (by omega)) fun H9 e9 => q H9 (e5.trans e9)
  | different =>
    rw [Cd.data] at hv
    obtain ⟨a, x, rfl, hs, hx⟩ := hv.g1
    cases hx.str_inv
    refine q_asg (ev_ixT (j := 0) (ev_var rfl) ev_c hs rfl) fun H1 e1 => ?_
    refine skipT e1 rfl (ea_cons ev_c (ea_cons ev_c ea_nil)) (by show 2 ≤ 100000; decide) rfl (by decide +kernel) fun H2 e2 => ?_
    refine skipS e2 rfl (by decide +kernel) fun H3 e3 => ?_
    refine skipS e3 rfl (by decide +kernel) fun H4 e4 => ?_
    refine skipS e4 rfl (by decide +kernel) fun H5 e5 => ?_
    exact s_ret (ev_is (ev_op (ev_var rfl) ev_c (rv_eq rfl)) (by rw [decide_eq_true rfl]; rfl)) fun H9 e9 => q H9 (e5.trans e9)
abbrev s__law_cell : Stmt := topS 31
abbrev N__law_cell : List Str := ["script", "k"]
theorem sc__law_cell : FnScope N__law_cell ["script", "k"] (defScope s__law_cell) := ⟨rfl, rfl, rfl, by decide +kernel, rfl, by decide +kernel, by decide +kernel⟩
theorem ok__law_cell {f : Addr} {fd : FuncData} {k : Nat} (T : Tx mg) (F : Fun K "_law_cell" "_law_cell" s__law_cell f fd) : FnOk P w K mg base CX0 (k + 1) f fd ["script", "k"] (Cr.spCell K) := by
  refine F.ok sc__law_cell (fun vs H Q E h => ?_) (fun cdv A outer s H vs Q E hr h => ?_)
  · obtain ⟨a, ns, j, rfl, _⟩ := h
    rfl
  obtain ⟨a, ns, j, rfl, ha, q⟩ := h
  refine ⟨_, (pss_cons (ps_if (pt_cmpR op_lt (pv 1) (pe_callB call_len_seq (by rfl) T.z_len PySem.boot_len (pa_cons (pv 0) pa_nil)) (nomark _)) (pss_one (ps_ret (pe_ix (r := rIxL K) ix_list (pv 0) (pv 1) (fun _ _ => rfl)))) pss_nil)
      (pss_one (ps_ret pe_int))), ?_⟩
  refine q_when (et_test (ev_op (ev_var rfl) (ev_lenL (ev_var rfl) ha) rv_I0)) (fun hb H1 e1 => ?_) (fun hb H1 e1 => ?_)
  · have hlt : j < ns.length := by
      have h := of_decide_eq_true hb
      rw [List.length_map] at h
      omega
    have hx : (ns.map V.int)[j]? = some (.int ns[j]) := by
      rw [List.getElem?_map, List.getElem?_eq_getElem hlt]
      rfl
    exact s_ret (ev_ixL (j := j) (ev_var rfl) (ev_var rfl) (ex_l e1 ha) hx) fun H2 e2 => q _ H2 (e1.trans e2)
  · exact s_ret ev_c fun H2 e2 => q _ H2 (e1.trans e2)
abbrev s__law_draw : Stmt := topS 32
abbrev N__law_draw : List Str := ["script", "k", "sizes", "cell", "drawn", "size", "mixed", "j"]
theorem sc__law_draw : FnScope N__law_draw ["script", "k", "sizes"] (defScope s__law_draw) := ⟨rfl, rfl, rfl, by decide +kernel, rfl, by decide +kernel, by decide +kernel⟩
theorem ok__law_draw {f : Addr} {fd : FuncData} (T : Tx mg) (F : Fun K "_law_draw" "_law_draw" s__law_draw f fd) (c__law_cell : Cl P w K mg base "_law_cell" ["script", "k"] 1 (Cr.spCell K)) : FnOk P w K mg base CX0 2 f fd ["script", "k", "sizes"] (Sm.spDrawB K) := by
  refine F.ok sc__law_draw (fun vs H Q E h => ?_) (fun cdv A outer s H vs Q E hr h => ?_)
  · obtain ⟨a, b, ns, ms, j, rfl, _⟩ := h
    rfl
  obtain ⟨a, b, ns, ms, k, rfl, ha, hb, hm, hms, q⟩ := h
  refine ⟨_, (pss_cons (ps_set (i := 3) sc__law_draw.nd rfl (Or.inl rfl) (pe_call c__law_cell.ok (hr.mono (by omega)) (by rfl) c__law_cell.m c__law_cell.kp c__law_cell.b .nil pass0 (pa_cons (pv 0) (pa_cons (pv 1) pa_nil))))
      (pss_cons (ps_if (pt_cmpR op_lt (pv 3) pe_int (nomark _)) (pss_one (ps_set (i := 3) sc__law_draw.nd rfl (Or.inl rfl) (pe_un un_neg (pv 3)))) pss_nil)
      (pss_cons (ps_set (i := 4) sc__law_draw.nd rfl (Or.inl rfl) (pe_lst pa_nil))
      (pss_cons (ps_if (pt_cmpR op_ge (pv 3) (pe_op op_pow pe_int pe_int) (nomark _)) (pss_cons (ps_set (i := 3) sc__law_draw.nd rfl (Or.inl rfl) (pe_op op_sub (pv 3) (pe_op op_pow pe_int pe_int)))
        (pss_cons (ps_for PassesOwn.never rfl (pi_list (pv 2)) (pg_name (i := 5) sc__law_draw.nd rfl (Or.inl rfl)) (pss_cons (ps_expr (pe_bm PySem.F.plainAttrs_list PySem.F.slot_list_append PySem.F.type_list_append mt_append (pv 4) (pa_cons (pe_op op_mod (pv 3) (pv 5)) pa_nil)))
          (pss_one (ps_set (i := 3) sc__law_draw.nd rfl (Or.inl rfl) (pe_op op_fdiv (pv 3) (pv 5))))))
        (pss_one (ps_ret (pv 4))))) pss_nil)
      (pss_cons (ps_set (i := 6) sc__law_draw.nd rfl (Or.inl rfl) (pe_op op_mod (pe_op op_add (pe_op op_add (pv 3) pe_int) (pe_op op_mul pe_int (pv 1))) pe_int))
      (pss_cons (ps_for PassesOwn.never rfl (pi_range1 (by rfl) T.z_range (pa_cons (pe_callB call_len_seq (by rfl) T.z_len PySem.boot_len (pa_cons (pv 2) pa_nil)) pa_nil)) (pg_name (i := 7) sc__law_draw.nd rfl (Or.inl rfl)) (pss_cons (ps_set (i := 6) sc__law_draw.nd rfl (Or.inl rfl) (pe_op op_mod (pe_op op_add (pe_op op_add (pe_op op_mul (pv 6) pe_int) pe_int) (pv 7)) pe_int))
        (pss_cons (ps_set (i := 6) sc__law_draw.nd rfl (Or.inl rfl) (pe_op op_mod (pe_op op_add (pe_op op_mul (pv 6) pe_int) pe_int) pe_int))
        (pss_one (ps_expr (pe_bm PySem.F.plainAttrs_list PySem.F.slot_list_append PySem.F.type_list_append mt_append (pv 4) (pa_cons (pe_op op_mod (pe_op op_fdiv (pv 6) pe_int) (pe_ix (r := rIxL K) ix_list (pv 2) (pv 7) (fun _ _ => rfl))) pa_nil)))))))
      (pss_one (ps_ret (pv 4))))))))), ?_⟩
  refine ⟨_, rfl, _, rfl, a, ns, k, rfl, ha, fun c H1 e1 => ?_⟩
  refine q_ifAsg (b := decide (c < 0)) (v := .int (if c < 0 then -c else c)) (et_test (ev_op (ev_var rfl) ev_c rv_I0)) (fun hc => ev_is (ev_un (ev_var rfl) ru_neg) (by rw [if_pos (of_decide_eq_true hc)])) (fun hc => by rw [if_neg (of_decide_eq_false hc)]; rfl) fun H2 e2' => ?_
  have e2 := e1.trans e2'
  generalize (if c < 0 then -c else c) = c
  refine q_asgL (el_lst ea_nil (by decide)) fun p H3 hp3 e3 h3 => ?_
  have hp : H p = none := Same.free e2 hp3
  have e03 : Same H H3 := e2.trans e3
  have fin : ∀ (acc : List Int) H', Same H H' → H' p = some (.lst (acc.map V.int)) → Sm.DrawOk ms acc → Q (.ref p) H' := fun acc H' e h hl => q p acc H' e hp h hl
  refine q_when (et_test (ev_op (ev_var rfl) (ev_op ev_c ev_c (rv_I ⟨by decide, by decide, by decide⟩)) rv_I0)) (fun _ H4 e4 => ?_) (fun _ H4 e4 => ?_)
  · refine q_asg (ev_op (ev_var rfl) (ev_op ev_c ev_c (rv_I ⟨by decide, by decide, by decide⟩)) rv_I0) fun H5 e5 => ?_
    have e05 := e03.trans (e4.trans e5)
    refine q_forLn (a := b) (xs := ms.map V.int) (ev_var rfl) (ex_l e05 hb) (fun i σ' H' => ∃ (c : Int) (z : Option V) (acc : List Int), σ' = [some (.ref a), some (.int (k : Int)), some (.ref b), some (.int c), some (.ref p), z, none, none] ∧ Same H H' ∧ H' p = some (.lst (acc.map V.int)) ∧ Sm.DrawOk (ms.take i) acc)
      (fun H6 e6 => ⟨_, none, [], rfl, e05.trans e6, e6 _ _ (e5 _ _ (e4 _ _ h3)), .nil⟩) (fun i σ' H' _ ⟨_, _, _, _, e, _, _⟩ => ex_l e hb) (fun i x σ' H' hx hP => ?_) (fun σ' H' hP => ?_)
    · obtain ⟨c', z, acc, rfl, e, hpl, hl⟩ := hP
      obtain ⟨m, hmi, rfl⟩ := map_int hx
      have him := (List.getElem?_eq_some_iff.mp hmi).1
      obtain ⟨m0, m1⟩ := hms m (List.mem_of_getElem? hmi)
      refine q_app hpl (ev_var rfl) (ev_op (ev_var rfl) (ev_var rfl) (rv_I m0)) (by have := Sm.draw_len hl; rw [List.length_take] at this; rw [List.length_map]; omega) fun H7 e7 => ?_
      refine s_asg (ev_op (ev_var rfl) (ev_var rfl) (rv_I ⟨m0, m1⟩)) fun H8 e8 => ⟨_, _, acc ++ [c' % m], rfl, ?_, ?_, ?_⟩
      · exact (same_mut (e.trans e7) hp).trans e8
      · exact e8 _ _ (by rw [upd_same, List.map_append]; rfl)
      · exact Sm.draw_snoc hl hmi (Int.emod_nonneg _ (by omega)) (Int.emod_lt_of_pos _ m0)
    · obtain ⟨c', z, acc, rfl, e, hpl, hl⟩ := hP
      rw [List.length_map, List.take_length] at hl
      exact s_ret (ev_var rfl) fun H9 e9 => fin acc H9 (e.trans e9) (e9 _ _ hpl) hl
  · refine q_asg (ev_op (ev_op (ev_op (ev_var rfl) ev_c rv_I0) (ev_op ev_c (ev_var rfl) (rv_I (.inl ⟨by decide, by decide⟩))) rv_I0) ev_c (rv_I (by decide))) fun H5 e5 => ?_
    have e05 := e03.trans (e4.trans e5)
    refine q_forR1 (n := ((ms.map V.int).length : Int)) (ea_cons (ev_lenL (ev_var rfl) (ex_l e05 hb)) ea_nil) (by rw [List.length_map]; omega) (fun i σ' H' => ∃ (c : Int) (z : Option V) (acc : List Int), σ' = [some (.ref a), some (.int (k : Int)), some (.ref b), σ'.getD 3 none, some (.ref p), none, some (.int c), z] ∧ Same H H' ∧ H' p = some (.lst (acc.map V.int)) ∧ Sm.DrawOk (ms.take i) acc)
      (fun H6 e6 => ⟨_, none, [], rfl, e05.trans e6, e6 _ _ (e5 _ _ (e4 _ _ h3)), .nil⟩) (fun i σ' H' hi hP => ?_) (fun σ' H' hP => ?_)
    · obtain ⟨c', z, acc, hσ, e, hpl, hl⟩ := hP
      rw [List.length_map] at hi
      generalize σ'.getD 3 none = y at hσ
      subst hσ
      have hmi : ms[i]? = some ms[i] := List.getElem?_eq_getElem (by omega)
      obtain ⟨m0, m1⟩ := hms ms[i] (List.mem_of_getElem? hmi)
      have hx : (ms.map V.int)[i]? = some (.int ms[i]) := by rw [List.getElem?_map, hmi]; rfl
      refine q_asg (ev_op (ev_op (ev_op (ev_op (ev_var rfl) ev_c (rv_I (.inr ⟨by decide, by decide⟩))) ev_c rv_I0) (ev_var rfl) rv_I0) ev_c (rv_I (by decide))) fun H7 e7 => ?_
      refine q_asg (ev_op (ev_op (ev_op (ev_var rfl) ev_c (rv_I (.inr ⟨by decide, by decide⟩))) ev_c rv_I0) ev_c (rv_I (by decide))) fun H8 e8 => ?_
      have e78 := e7.trans e8
      refine s_app (e78 _ _ hpl) (ev_var rfl) (ev_op (ev_op (ev_var rfl) ev_c (rv_I ⟨by decide, by decide⟩)) (ev_ixL (j := i) (ev_var rfl) (ev_var rfl) (ex_l (e.trans e78) hb) hx) (rv_I m0)) (by have := Sm.draw_len hl; rw [List.length_take] at this; rw [List.length_map]; omega) fun H9 e9 => ⟨_, _, acc ++ [((c' * 48271 + 11 + (i : Int)) % 2147483647 * 69621 + 3) % 2147483647 / 7 % ms[i]], rfl, ?_, ?_, ?_⟩
      · exact same_mut ((e.trans e78).trans e9) hp
      · rw [upd_same, List.map_append]; rfl
      · exact Sm.draw_snoc hl hmi (Int.emod_nonneg _ (by omega)) (Int.emod_lt_of_pos _ m0)
    · obtain ⟨c', z, acc, hσ, e, hpl, hl⟩ := hP
      rw [List.length_map, Int.toNat_natCast, List.take_length] at hl
      rw [hσ]
      exact s_ret (ev_var rfl) fun H9 e9 => fin acc H9 (e.trans e9) (e9 _ _ hpl) hl
end
end K55
namespace Fb
open PySem PySem.Spec PyProof.Rows L2 Evl CrT Cr Sm
noncomputable section
def b_l55_about : FS :=
      (fSeq (fIfS (fB (fOp gEq (fOp gIx (fVar 0) (fC (.int 0))) (fC (.int 0)))) (fRet (fTup (fCons (fC (.str "atmost")) (fCons (fOp gSub (fOp gIx (fVar 0) (fC (.int 1))) (fC (.int 1))) fNil)))) fNext)
      (fSeq (fIfS (fB (fOp gEq (fOp gIx (fVar 0) (fC (.int 0))) (fC (.int 1)))) (fRet (fTup (fCons (fC (.str "divides")) (fCons (fOp gAdd (fC (.int 1)) (fOp gMod (fOp gIx (fVar 0) (fC (.int 1))) (fC (.int 3)))) fNil)))) fNext)
      (fSeq (fIfS (fB (fOp gEq (fOp gIx (fVar 0) (fC (.int 0))) (fC (.int 2)))) (fRet (fTup (fCons (fC (.str "not")) (fCons (fTup (fCons (fC (.str "atmost")) (fCons (fOp gSub (fOp gIx (fVar 0) (fC (.int 1))) (fC (.int 1))) fNil))) fNil)))) fNext)
      (fRet (fTup (fCons (fC (.str "or")) (fCons (fTup (fCons (fC (.str "atmost")) (fCons (fOp gSub (fOp gIx (fVar 0) (fC (.int 1))) (fC (.int 2))) fNil))) (fCons (fTup (fCons (fC (.str "divides")) (fCons (fC (.int 2)) fNil))) fNil))))))))
def b_l55_due : FS :=
      (fSeq (fIfS (fOr (fB (fOp gLt (fVar 0) (fUn gNeg (fC (.int 1000))))) (fB (fOp gGt (fVar 0) (fC (.int 1000))))) (fRet (fTup (fCons (fC (.str "wrong first")) (fCons (fUn gNeg (fC (.int 1))) fNil)))) fNext)
      (fSeq (fIfS (fOr (fB (fOp gLt (fLenV 1) (fC (.int 1)))) (fB (fOp gGt (fLenV 1) (fC (.int 4))))) (fRet (fTup (fCons (fC (.str "wrong number")) (fCons (fUn gNeg (fC (.int 1))) fNil)))) fNext)
      (fSeq (fIfS (fOr (fB (fOp gLt (fVar 2) (fC (.int 0)))) (fB (fOp gGt (fVar 2) (fC (.int 6))))) (fRet (fTup (fCons (fC (.str "wrong most")) (fCons (fUn gNeg (fC (.int 1))) fNil)))) fNext)
      (fSeq (fFor (fRng1 (fCons (fLenV 1) fNil)) (gS 3) (fSeq (fAsg (fOp gIx (fVar 1) (fVar 3)) (gT 4 (gC (gS 4) (gC (gS 5) (gC (gS 6) (gC (gS 7) gN))))))
        (fSeq (fIfS (fB (fOp gIn (fVar 4) (fV (fLst (fCons (fC (.str "")) (fCons (fC (.str "Put")) (fCons (fC (.str "toolongname")) (fCons (fC (.str "a1")) fNil)))))))) (fRet (fTup (fCons (fC (.str "wrong name")) (fCons (fVar 3) fNil)))) fNext)
        (fSeq (fIfS (fB (fOp gIn (fVar 4) (fV (fComp (fSeqI (fSl gSl (fVar 1) fNoPart (fPart (fVar 3)))) (gS 8) (fun _ => some true) (fOp gIx (fVar 8) (fC (.int 0))) [8])))) (fRet (fTup (fCons (fC (.str "named twice")) (fCons (fVar 3) fNil)))) fNext)
        (fSeq (fIfS (fB (fOp gIn (fVar 5) (fV (fLst (fCons (fTup (fCons (fC (.str "rising")) fNil)) (fCons (fTup (fCons (fC (.str "is")) (fCons (fC (.str "a")) fNil))) (fCons (fTup (fCons (fC (.str "divides")) (fCons (fC (.int 0)) fNil))) (fCons (fTup (fCons (fC (.str "and")) (fCons (fTup (fCons (fC (.str "atmost")) (fCons (fC (.int 1)) fNil))) (fCons (fTup (fCons (fC (.str "different")) fNil)) fNil)))) fNil)))))))) (fRet (fTup (fCons (fC (.str "wrong guard")) (fCons (fVar 3) fNil)))) fNext)
        (fSeq (fIfS (fB (fOp gIn (fVar 6) (fV (fLst (fCons (fTup (fCons (fC (.str "pick")) (fCons (fTup (fCons (fC (.str "a")) (fCons (fC (.str "b")) fNil))) fNil))) (fCons (fTup (fCons (fC (.str "int")) (fCons (fC (.int 3)) (fCons (fC (.int 2)) fNil)))) (fCons (fTup (fCons (fC (.str "list")) (fCons (fTup (fCons (fC (.str "int")) (fCons (fC (.int 0)) (fCons (fC (.int 1)) fNil)))) (fCons (fC (.int 0)) (fCons (fC (.int 1)) fNil))))) (fCons (fTup (fCons (fC (.str "kept")) (fCons (fTup (fCons (fC (.str "int")) (fCons (fC (.int 0)) (fCons (fC (.int 2)) fNil)))) (fCons (fTup (fCons (fC (.str "rising")) fNil)) fNil)))) (fCons (fTup (fCons (fC (.str "turned")) (fCons (fTup (fCons (fC (.str "int")) (fCons (fC (.int 0)) (fCons (fC (.int 1)) fNil)))) (fCons (fTup (fCons (fC (.str "length")) fNil)) fNil)))) fNil))))))))) (fRet (fTup (fCons (fC (.str "wrong generator")) (fCons (fVar 3) fNil)))) fNext)
        (fIfS (fB (fOp gNi (fVar 7) (fV (fLst (fCons (fC (.str "add")) (fCons (fC (.str "take")) (fCons (fC (.str "set")) fNil))))))) (fRet (fTup (fCons (fC (.str "wrong effect")) (fCons (fVar 3) fNil)))) fNext)))))))
      (fRet (fTup (fCons (fVar 0) (fCons (fCall gTuple (fCons (fVar 1) fNil)) (fCons (fVar 2) fNil)))))))))
noncomputable def w__law_commands_1 (f__law_about : Fn) : WS :=
      (wSeq (wAsg (wSl gSl (wDraw (wsCons (wOf (fVar 0)) (wsCons (wOf (fOp gAdd (fOp gAdd (fVar 1) (fC (.int 1))) (fOp gMod (fVar 4) (fC (.int 2))))) (wsCons (wOf (fV (fLst (fCons (fC (.int 4)) (fCons (fC (.int 5)) (fCons (fC (.int 3)) (fCons (fC (.int 3)) (fCons (fC (.int 3)) (fCons (fC (.int 4)) (fCons (fC (.int 5)) (fCons (fC (.int 3)) (fCons (fC (.int 3)) (fCons (fC (.int 3)) fNil))))))))))))) wsNil)))) (wPart (wOf (fOp gMul (fC (.int 5)) (fOp gDiv (fVar 4) (fC (.int 2)))))) (wPart (wOf (fOp gAdd (fOp gMul (fC (.int 5)) (fOp gDiv (fVar 4) (fC (.int 2)))) (fC (.int 5)))))) (gS 5))
        (wSeq (wSt (fAsg (fCall0 f__law_about (fCons (fSl gSl (fVar 5) fNoPart (fPart (fC (.int 2)))) fNil)) (gS 6)))
        (wSeq (wSt (fIfS (fB (fOp gEq (fOp gIx (fVar 5) (fC (.int 0))) (fC (.int 3)))) (fAsg (fTup (fCons (fC (.str "atmost")) (fCons (fOp gAdd (fC (.int 2)) (fOp gIx (fVar 5) (fC (.int 1)))) fNil))) (gS 6)) fNext))
        (wSeq (wSt (fAsg (fTup (fCons (fC (.str "int")) (fCons (fOp gSub (fOp gIx (fVar 5) (fC (.int 2))) (fC (.int 1))) (fCons (fOp gAdd (fOp gSub (fOp gIx (fVar 5) (fC (.int 2))) (fC (.int 1))) (fOp gIx (fVar 5) (fC (.int 3)))) fNil)))) (gS 7)))
        (wSeq (wSt (fIfS (fB (fOp gEq (fOp gIx (fVar 5) (fC (.int 4))) (fC (.int 0)))) (fAsg (fTup (fCons (fC (.str "kept")) (fCons (fVar 7) (fCons (fCall0 f__law_about (fCons (fV (fLst (fCons (fOp gIx (fVar 5) (fC (.int 2))) (fCons (fOp gIx (fVar 5) (fC (.int 3))) fNil)))) fNil)) fNil)))) (gS 7)) fNext))
        (wSt (fApp 3 (fTup (fCons (fOp gIx (fV (fLst (fCons (fC (.str "put")) (fCons (fC (.str "get")) (fCons (fC (.str "reset")) (fCons (fC (.str "jump")) fNil)))))) (fVar 4)) (fCons (fVar 6) (fCons (fVar 7) (fCons (fOp gIx (fV (fLst (fCons (fC (.str "add")) (fCons (fC (.str "take")) (fCons (fC (.str "set")) fNil))))) (fOp gMod (fOp gAdd (fOp gIx (fVar 5) (fC (.int 4))) (fVar 4)) (fC (.int 3)))) fNil))))))))))))
noncomputable def w__law_commands (f__law_about : Fn) : WS :=
      (wSeq (wAsg (wDraw (wsCons (wOf (fVar 0)) (wsCons (wOf (fVar 1)) (wsCons (wOf (fV (fLst (fCons (fC (.int 4)) fNil)))) wsNil)))) (gS 2))
      (wSeq (wSt (fOwn 3 (fLst fNil)))
      (wSeq (wFor (wsOf (fRng1 (fCons (fOp gAdd (fC (.int 1)) (fOp gIx (fVar 2) (fC (.int 0)))) fNil))) (gS 4) (w__law_commands_1 f__law_about))
      (wSt (fFrz 3 (fRet (fVar 3)))))))
noncomputable def w__law_machine (f__law_commands : WF) : WS :=
      (wSeq (wAsg (wDraw (wsCons (wOf (fVar 0)) (wsCons (wOf (fVar 1)) (wsCons (wOf (fV (fLst (fCons (fC (.int 5)) (fCons (fC (.int 4)) fNil))))) wsNil)))) (gS 2))
      (wRet (wTup (wsCons (wOf (fOp gSub (fOp gIx (fVar 2) (fC (.int 0))) (fC (.int 2)))) (wsCons (wCall gTuple (wsCons (wCallF f__law_commands (wsCons (wOf (fVar 0)) (wsCons (wOf (fOp gAdd (fVar 1) (fC (.int 1)))) wsNil))) wsNil)) (wsCons (wOf (fOp gIx (fVar 2) (fC (.int 1)))) wsNil))))))
end
end Fb
namespace K55
open PySem PySem.Spec PyProof.Rows L2 Evl CrT Cr Sm Fb
section
variable {P : Program} {w : World} {K : PySem.W.Frag} {mg : Str → Option Value} {base : Heap}
variable {A : Atm}
abbrev s__law_about : Stmt := topS 33
abbrev N__law_about : List Str := ["digits"]
theorem sc__law_about : FnScope N__law_about ["digits"] (defScope s__law_about) := ⟨rfl, rfl, rfl, by decide +kernel, rfl, by decide +kernel, by decide +kernel⟩
theorem ok__law_about {f : Addr} {fd : FuncData} {L : Nat} (T : Tx mg) (F : Fun K "_law_about" "_law_about" s__law_about f fd)  :
    FnOk P w K mg base CX0 (L + 1) f fd ["digits"] (spF K A (runF 1 1 (b_l55_about))) := by
  refine F.ok sc__law_about (fun vs H Q E h => body_len h) (fun cdv A' outer s H vs Q E hr h => ?_)
  refine ⟨_, (pss_cons (ps_if (pt_cmpR (r := rEqX K) (op_eqX hr.units) (pe_ix (r := rIx K) ix_seq (pv 0) pe_int (fun _ _ => rfl)) pe_int (nomark _)) (pss_one (ps_ret (pe_tup (pa_cons pe_str (pa_cons (pe_op op_sub (pe_ix (r := rIx K) ix_seq (pv 0) pe_int (fun _ _ => rfl)) pe_int) pa_nil))))) pss_nil)
      (pss_cons (ps_if (pt_cmpR (r := rEqX K) (op_eqX hr.units) (pe_ix (r := rIx K) ix_seq (pv 0) pe_int (fun _ _ => rfl)) pe_int (nomark _)) (pss_one (ps_ret (pe_tup (pa_cons pe_str (pa_cons (pe_op (r := rAddX K) op_addX pe_int (pe_op op_mod (pe_ix (r := rIx K) ix_seq (pv 0) pe_int (fun _ _ => rfl)) pe_int)) pa_nil))))) pss_nil)
      (pss_cons (ps_if (pt_cmpR (r := rEqX K) (op_eqX hr.units) (pe_ix (r := rIx K) ix_seq (pv 0) pe_int (fun _ _ => rfl)) pe_int (nomark _)) (pss_one (ps_ret (pe_tup (pa_cons pe_str (pa_cons (pe_tup (pa_cons pe_str (pa_cons (pe_op op_sub (pe_ix (r := rIx K) ix_seq (pv 0) pe_int (fun _ _ => rfl)) pe_int) pa_nil))) pa_nil))))) pss_nil)
      (pss_one (ps_ret (pe_tup (pa_cons pe_str (pa_cons (pe_tup (pa_cons pe_str (pa_cons (pe_op op_sub (pe_ix (r := rIx K) ix_seq (pv 0) pe_int (fun _ _ => rfl)) pe_int) pa_nil))) (pa_cons (pe_tup (pa_cons pe_str (pa_cons pe_int pa_nil))) pa_nil))))))))), ?_⟩
  exact body_ok (N := N__law_about) (f := b_l55_about) (ss_seq (ss_if (st_test (se_op (se_op (se_var 0) se_int rd_ix) se_int rd_eq)) (ss_ret (se_tup (sa_cons se_str (sa_cons (se_op (se_op (se_var 0) se_int rd_ix) se_int rd_sub) sa_nil)))) ss_next)
      (ss_seq (ss_if (st_test (se_op (se_op (se_var 0) se_int rd_ix) se_int rd_eq)) (ss_ret (se_tup (sa_cons se_str (sa_cons (se_op se_int (se_op (se_op (se_var 0) se_int rd_ix) se_int rd_mod) rd_add) sa_nil)))) ss_next)
      (ss_seq (ss_if (st_test (se_op (se_op (se_var 0) se_int rd_ix) se_int rd_eq)) (ss_ret (se_tup (sa_cons se_str (sa_cons (se_tup (sa_cons se_str (sa_cons (se_op (se_op (se_var 0) se_int rd_ix) se_int rd_sub) sa_nil))) sa_nil)))) ss_next)
      (ss_ret (se_tup (sa_cons se_str (sa_cons (se_tup (sa_cons se_str (sa_cons (se_op (se_op (se_var 0) se_int rd_ix) se_int rd_sub) sa_nil))) (sa_cons (se_tup (sa_cons se_str (sa_cons se_int sa_nil))) sa_nil)))))))) h
abbrev s__law_due : Stmt := topS 36
abbrev N__law_due : List Str := ["first", "commands", "most", "k", "name", "guard", "generator", "effect", "command"]
theorem sc__law_due : FnScope N__law_due ["first", "commands", "most"] (defScope s__law_due) := ⟨rfl, rfl, rfl, by decide +kernel, rfl, by decide +kernel, by decide +kernel⟩
theorem ok__law_due {f : Addr} {fd : FuncData} {L : Nat} (T : Tx mg) (F : Fun K "_law_due" "_law_due" s__law_due f fd)  :
    FnOk P w K mg base CX0 (L + 1) f fd ["first", "commands", "most"] (spF K A (runF 9 3 (b_l55_due))) := by
  refine F.ok sc__law_due (fun vs H Q E h => body_len h) (fun cdv A' outer s H vs Q E hr h => ?_)
  refine ⟨_, (pss_cons (ps_if (PW.pt (pw_or (pt_cmpR op_lt (pv 0) (pe_un un_neg pe_int) (nomark _)) (pw_or1 (pt_cmpR op_gt (pv 0) pe_int (nomark _))))) (pss_one (ps_ret (pe_tup (pa_cons pe_str (pa_cons (pe_un un_neg pe_int) pa_nil))))) pss_nil)
      (pss_cons (ps_if (PW.pt (pw_or (pt_cmpR op_lt (pe_callB (r := rLenX K) cr_lenX (by rfl) T.z_len PySem.boot_len (pa_cons (pv 1) pa_nil)) pe_int (nomark _)) (pw_or1 (pt_cmpR op_gt (pe_callB (r := rLenX K) cr_lenX (by rfl) T.z_len PySem.boot_len (pa_cons (pv 1) pa_nil)) pe_int (nomark _))))) (pss_one (ps_ret (pe_tup (pa_cons pe_str (pa_cons (pe_un un_neg pe_int) pa_nil))))) pss_nil)
      (pss_cons (ps_if (PW.pt (pw_or (pt_cmpR op_lt (pv 2) pe_int (nomark _)) (pw_or1 (pt_cmpR op_gt (pv 2) pe_int (nomark _))))) (pss_one (ps_ret (pe_tup (pa_cons pe_str (pa_cons (pe_un un_neg pe_int) pa_nil))))) pss_nil)
      (pss_cons (ps_for PassesOwn.never rfl (pi_range1 (by rfl) T.z_range (pa_cons (pe_callB (r := rLenX K) cr_lenX (by rfl) T.z_len PySem.boot_len (pa_cons (pv 1) pa_nil)) pa_nil)) (pg_name (i := 3) sc__law_due.nd rfl (Or.inl rfl)) (pss_cons (ps_asg (pe_ix (r := rIx K) ix_seq (pv 1) (pv 3) (fun _ _ => rfl)) (pg_tup rfl (pgs_cons (pg_name (i := 4) sc__law_due.nd rfl (Or.inl rfl)) (pgs_cons (pg_name (i := 5) sc__law_due.nd rfl (Or.inl rfl)) (pgs_cons (pg_name (i := 6) sc__law_due.nd rfl (Or.inl rfl)) (pgs_cons (pg_name (i := 7) sc__law_due.nd rfl (Or.inl rfl)) pgs_nil))))))
        (pss_cons (ps_if (pt_cmpR (r := rInX K) (op_inX (Cr.Room.u65 hr)) (pv 4) (pe_lst (pa_cons pe_str (pa_cons pe_str (pa_cons pe_str (pa_cons pe_str pa_nil))))) (by rfl)) (pss_one (ps_ret (pe_tup (pa_cons pe_str (pa_cons (pv 3) pa_nil))))) pss_nil)
        (pss_cons (ps_if (pt_cmpR (r := rInX K) (op_inX (Cr.Room.u65 hr)) (pv 4) (pe_lc (own := [("command", 8)]) (g := gName 8) (by rfl) sc__law_due.nd (pi_seq (pe_slice (r := rSlX K) sl_X (pv 1) po_none (po_some (pv 3)))) (blkOk_by (own := [("command", 8)]) (N := N__law_due) (sc := defScope s__law_due) (by decide +kernel)) (fun _ _ _ _ _ => (pg_name (i := 8) sc__law_due.nd rfl (Or.inl rfl))) (fun _ _ _ _ _ => pts_nil) (fun _ _ _ _ _ => (pe_ix (r := rIx K) ix_seq (pv 8) pe_int (fun _ _ => rfl)))) (by rfl)) (pss_one (ps_ret (pe_tup (pa_cons pe_str (pa_cons (pv 3) pa_nil))))) pss_nil)
        (pss_cons (ps_if (pt_cmpR (r := rInX K) (op_inX (Cr.Room.u65 hr)) (pv 5) (pe_lst (pa_cons (pe_tup (pa_cons pe_str pa_nil)) (pa_cons (pe_tup (pa_cons pe_str (pa_cons pe_str pa_nil))) (pa_cons (pe_tup (pa_cons pe_str (pa_cons pe_int pa_nil))) (pa_cons (pe_tup (pa_cons pe_str (pa_cons (pe_tup (pa_cons pe_str (pa_cons pe_int pa_nil))) (pa_cons (pe_tup (pa_cons pe_str pa_nil)) pa_nil)))) pa_nil))))) (by rfl)) (pss_one (ps_ret (pe_tup (pa_cons pe_str (pa_cons (pv 3) pa_nil))))) pss_nil)
        (pss_cons (ps_if (pt_cmpR (r := rInX K) (op_inX (Cr.Room.u65 hr)) (pv 6) (pe_lst (pa_cons (pe_tup (pa_cons pe_str (pa_cons (pe_tup (pa_cons pe_str (pa_cons pe_str pa_nil))) pa_nil))) (pa_cons (pe_tup (pa_cons pe_str (pa_cons pe_int (pa_cons pe_int pa_nil)))) (pa_cons (pe_tup (pa_cons pe_str (pa_cons (pe_tup (pa_cons pe_str (pa_cons pe_int (pa_cons pe_int pa_nil)))) (pa_cons pe_int (pa_cons pe_int pa_nil))))) (pa_cons (pe_tup (pa_cons pe_str (pa_cons (pe_tup (pa_cons pe_str (pa_cons pe_int (pa_cons pe_int pa_nil)))) (pa_cons (pe_tup (pa_cons pe_str pa_nil)) pa_nil)))) (pa_cons (pe_tup (pa_cons pe_str (pa_cons (pe_tup (pa_cons pe_str (pa_cons pe_int (pa_cons pe_int pa_nil)))) (pa_cons (pe_tup (pa_cons pe_str pa_nil)) pa_nil)))) pa_nil)))))) (by rfl)) (pss_one (ps_ret (pe_tup (pa_cons pe_str (pa_cons (pv 3) pa_nil))))) pss_nil)
        (pss_one (ps_if (pt_cmpR (r := rNiX K) (op_niX (Cr.Room.u65 hr)) (pv 7) (pe_lst (pa_cons pe_str (pa_cons pe_str (pa_cons pe_str pa_nil)))) (by rfl)) (pss_one (ps_ret (pe_tup (pa_cons pe_str (pa_cons (pv 3) pa_nil))))) pss_nil))))))))
      (pss_one (ps_ret (pe_tup (pa_cons (pv 0) (pa_cons (pe_callTy (r := rTupO K) cr_tupO (by rfl) T.z_tuple (by decide +kernel) (pa_cons (pv 1) pa_nil)) (pa_cons (pv 2) pa_nil)))))))))), ?_⟩
  exact body_ok (N := N__law_due) (f := b_l55_due) (ss_seq (ss_if (st_or (st_test (se_op (se_var 0) (se_un se_int ru_neg1) rd_lt)) (st_test (se_op (se_var 0) se_int rd_gt))) (ss_ret (se_tup (sa_cons se_str (sa_cons (se_un se_int ru_neg1) sa_nil)))) ss_next)
      (ss_seq (ss_if (st_or (st_test (se_op (se_lenV 1) se_int rd_lt)) (st_test (se_op (se_lenV 1) se_int rd_gt))) (ss_ret (se_tup (sa_cons se_str (sa_cons (se_un se_int ru_neg1) sa_nil)))) ss_next)
      (ss_seq (ss_if (st_or (st_test (se_op (se_var 2) se_int rd_lt)) (st_test (se_op (se_var 2) se_int rd_gt))) (ss_ret (se_tup (sa_cons se_str (sa_cons (se_un se_int ru_neg1) sa_nil)))) ss_next)
      (ss_seq (ss_for (si_rng1 (sa_cons (se_lenV 1) sa_nil)) (sg_name 3) (ss_seq (ss_asg (se_op (se_var 1) (se_var 3) rd_ix) (sg_tup 4 (sgs_cons (sg_name 4) (sgs_cons (sg_name 5) (sgs_cons (sg_name 6) (sgs_cons (sg_name 7) sgs_nil))))))
        (ss_seq (ss_if (st_test (se_op (se_var 4) (se_l (sl_lst (sa_cons se_str (sa_cons se_str (sa_cons se_str (sa_cons se_str sa_nil)))))) rd_in)) (ss_ret (se_tup (sa_cons se_str (sa_cons (se_var 3) sa_nil)))) ss_next)
        (ss_seq (ss_if (st_test (se_op (se_var 4) (se_l (sl_lc (vs := [8]) (si_seq (se_sl (se_var 1) so_none (so_some (se_var 3)) rs_sl)) (sg_name 8) (by decide) st_yes (se_op (se_var 8) se_int rd_ix))) rd_in)) (ss_ret (se_tup (sa_cons se_str (sa_cons (se_var 3) sa_nil)))) ss_next)
        (ss_seq (ss_if (st_test (se_op (se_var 5) (se_l (sl_lst (sa_cons (se_tup (sa_cons se_str sa_nil)) (sa_cons (se_tup (sa_cons se_str (sa_cons se_str sa_nil))) (sa_cons (se_tup (sa_cons se_str (sa_cons se_int sa_nil))) (sa_cons (se_tup (sa_cons se_str (sa_cons (se_tup (sa_cons se_str (sa_cons se_int sa_nil))) (sa_cons (se_tup (sa_cons se_str sa_nil)) sa_nil)))) sa_nil)))))) rd_in)) (ss_ret (se_tup (sa_cons se_str (sa_cons (se_var 3) sa_nil)))) ss_next)
        (ss_seq (ss_if (st_test (se_op (se_var 6) (se_l (sl_lst (sa_cons (se_tup (sa_cons se_str (sa_cons (se_tup (sa_cons se_str (sa_cons se_str sa_nil))) sa_nil))) (sa_cons (se_tup (sa_cons se_str (sa_cons se_int (sa_cons se_int sa_nil)))) (sa_cons (se_tup (sa_cons se_str (sa_cons (se_tup (sa_cons se_str (sa_cons se_int (sa_cons se_int sa_nil)))) (sa_cons se_int (sa_cons se_int sa_nil))))) (sa_cons (se_tup (sa_cons se_str (sa_cons (se_tup (sa_cons se_str (sa_cons se_int (sa_cons se_int sa_nil)))) (sa_cons (se_tup (sa_cons se_str sa_nil)) sa_nil)))) (sa_cons (se_tup (sa_cons se_str (sa_cons (se_tup (sa_cons se_str (sa_cons se_int (sa_cons se_int sa_nil)))) (sa_cons (se_tup (sa_cons se_str sa_nil)) sa_nil)))) sa_nil))))))) rd_in)) (ss_ret (se_tup (sa_cons se_str (sa_cons (se_var 3) sa_nil)))) ss_next)
        (ss_if (st_test (se_op (se_var 7) (se_l (sl_lst (sa_cons se_str (sa_cons se_str (sa_cons se_str sa_nil))))) rd_ni)) (ss_ret (se_tup (sa_cons se_str (sa_cons (se_var 3) sa_nil)))) ss_next)))))))
      (ss_ret (se_tup (sa_cons (se_var 0) (sa_cons (se_cb (sa_cons (se_var 1) sa_nil) rc_tuple) (sa_cons (se_var 2) sa_nil))))))))) h
abbrev s__law_commands : Stmt := topS 34
abbrev N__law_commands : List Str := ["script", "k", "head", "commands", "j", "digits", "guard", "argument"]
theorem sc__law_commands : FnScope N__law_commands ["script", "k"] (defScope s__law_commands) := ⟨rfl, rfl, rfl, by decide +kernel, rfl, by decide +kernel, by decide +kernel⟩
theorem ok__law_commands {f : Addr} {fd : FuncData} {L : Nat} {f__law_about : Fn} (T : Tx mg) (F : Fun K "_law_commands" "_law_commands" s__law_commands f fd) (c__law_draw : Cl P w K mg base "_law_draw" ["script", "k", "sizes"] L (spDrawB K)) (c__law_about : Cl P w K mg base "_law_about" ["digits"] L (spF K A0 f__law_about)) :
    FnOk P w K mg base CX0 (L + 1) f fd ["script", "k"] (spWF K (runW 8 2 (w__law_commands f__law_about))) := by
  refine F.ok sc__law_commands (fun vs H Q E h => body_lenW h) (fun cdv A' outer s H vs Q E hr h => ?_)
  refine ⟨_, (pss_cons (ps_set (i := 2) sc__law_commands.nd rfl (Or.inl rfl) (pe_call c__law_draw.ok hr (by rfl) c__law_draw.m c__law_draw.kp c__law_draw.b .nil pass0 (pa_cons (pv 0) (pa_cons (pv 1) (pa_cons (pe_lst (pa_cons pe_int pa_nil)) pa_nil)))))
      (pss_cons (ps_set (i := 3) sc__law_commands.nd rfl (Or.inl rfl) (pe_lst pa_nil))
      (pss_cons (ps_for PassesOwn.never rfl (pi_range1 (by rfl) T.z_range (pa_cons (pe_op (r := rAddX K) op_addX pe_int (pe_ix (r := rIx K) ix_seq (pv 2) pe_int (fun _ _ => rfl))) pa_nil)) (pg_name (i := 4) sc__law_commands.nd rfl (Or.inl rfl)) (pss_cons (ps_set (i := 5) sc__law_commands.nd rfl (Or.inl rfl) (pe_slice (r := rSlX K) sl_X (pe_call c__law_draw.ok hr (by rfl) c__law_draw.m c__law_draw.kp c__law_draw.b .nil pass0 (pa_cons (pv 0) (pa_cons (pe_op (r := rAddX K) op_addX (pe_op (r := rAddX K) op_addX (pv 1) pe_int) (pe_op op_mod (pv 4) pe_int)) (pa_cons (pe_lst (pa_cons pe_int (pa_cons pe_int (pa_cons pe_int (pa_cons pe_int (pa_cons pe_int (pa_cons pe_int (pa_cons pe_int (pa_cons pe_int (pa_cons pe_int (pa_cons pe_int pa_nil))))))))))) pa_nil)))) (po_some (pe_op op_mulX pe_int (pe_op op_fdivW (pv 4) pe_int))) (po_some (pe_op (r := rAddX K) op_addX (pe_op op_mulX pe_int (pe_op op_fdivW (pv 4) pe_int)) pe_int))))
        (pss_cons (ps_set (i := 6) sc__law_commands.nd rfl (Or.inl rfl) (pe_call c__law_about.ok hr (by rfl) c__law_about.m c__law_about.kp c__law_about.b .nil pass0 (pa_cons (pe_slice (r := rSlX K) sl_X (pv 5) po_none (po_some pe_int)) pa_nil)))
        (pss_cons (ps_if (pt_cmpR (r := rEqX K) (op_eqX hr.units) (pe_ix (r := rIx K) ix_seq (pv 5) pe_int (fun _ _ => rfl)) pe_int (nomark _)) (pss_one (ps_set (i := 6) sc__law_commands.nd rfl (Or.inl rfl) (pe_tup (pa_cons pe_str (pa_cons (pe_op (r := rAddX K) op_addX pe_int (pe_ix (r := rIx K) ix_seq (pv 5) pe_int (fun _ _ => rfl))) pa_nil))))) pss_nil)
        (pss_cons (ps_set (i := 7) sc__law_commands.nd rfl (Or.inl rfl) (pe_tup (pa_cons pe_str (pa_cons (pe_op op_sub (pe_ix (r := rIx K) ix_seq (pv 5) pe_int (fun _ _ => rfl)) pe_int) (pa_cons (pe_op (r := rAddX K) op_addX (pe_op op_sub (pe_ix (r := rIx K) ix_seq (pv 5) pe_int (fun _ _ => rfl)) pe_int) (pe_ix (r := rIx K) ix_seq (pv 5) pe_int (fun _ _ => rfl))) pa_nil)))))
        (pss_cons (ps_if (pt_cmpR (r := rEqX K) (op_eqX hr.units) (pe_ix (r := rIx K) ix_seq (pv 5) pe_int (fun _ _ => rfl)) pe_int (nomark _)) (pss_one (ps_set (i := 7) sc__law_commands.nd rfl (Or.inl rfl) (pe_tup (pa_cons pe_str (pa_cons (pv 7) (pa_cons (pe_call c__law_about.ok hr (by rfl) c__law_about.m c__law_about.kp c__law_about.b .nil pass0 (pa_cons (pe_lst (pa_cons (pe_ix (r := rIx K) ix_seq (pv 5) pe_int (fun _ _ => rfl)) (pa_cons (pe_ix (r := rIx K) ix_seq (pv 5) pe_int (fun _ _ => rfl)) pa_nil))) pa_nil)) pa_nil)))))) pss_nil)
        (pss_one (ps_expr (pe_bm PySem.F.plainAttrs_list PySem.F.slot_list_append PySem.F.type_list_append mt_append (pv 3) (pa_cons (pe_tup (pa_cons (pe_ix (r := rIx K) ix_seq (pe_lst (pa_cons pe_str (pa_cons pe_str (pa_cons pe_str (pa_cons pe_str pa_nil))))) (pv 4) (fun _ _ => rfl)) (pa_cons (pv 6) (pa_cons (pv 7) (pa_cons (pe_ix (r := rIx K) ix_seq (pe_lst (pa_cons pe_str (pa_cons pe_str (pa_cons pe_str pa_nil)))) (pe_op op_mod (pe_op (r := rAddX K) op_addX (pe_ix (r := rIx K) ix_seq (pv 5) pe_int (fun _ _ => rfl)) (pv 4)) pe_int) (fun _ _ => rfl)) pa_nil))))) pa_nil))))))))))
      (pss_one (ps_ret (pv 3)))))), ?_⟩
  exact body_okW (N := N__law_commands) (wb := w__law_commands f__law_about) (ssw_seq (ssw_asg (sw_draw (sws_cons (sw_of fun A => (se_var 0)) (sws_cons (sw_of fun A => (se_var 1)) (sws_cons (sw_of fun A => (se_l (sl_lst (sa_cons se_int sa_nil)))) sws_nil)))) fun A => sg_name 2)
      (ssw_seq (ssw_of fun A => (ss_own (sl_lst sa_nil)))
      (ssw_seq (ssw_for (w1 := (w__law_commands_1 f__law_about)) (siw_of fun A => (si_rng1 (sa_cons (se_op se_int (se_op (se_var 2) se_int rd_ix) rd_add) sa_nil))) (fun A => (sg_name 4)) (ssw_seq (ssw_asg (sw_sl (sw_draw (sws_cons (sw_of fun A => (se_var 0)) (sws_cons (sw_of fun A => (se_op (se_op (se_var 1) se_int rd_add) (se_op (se_var 4) se_int rd_mod) rd_add)) (sws_cons (sw_of fun A => (se_l (sl_lst (sa_cons se_int (sa_cons se_int (sa_cons se_int (sa_cons se_int (sa_cons se_int (sa_cons se_int (sa_cons se_int (sa_cons se_int (sa_cons se_int (sa_cons se_int sa_nil))))))))))))) sws_nil)))) (sow_some (sw_of fun A => (se_op se_int (se_op (se_var 4) se_int rd_div) rd_mul))) (sow_some (sw_of fun A => (se_op (se_op se_int (se_op (se_var 4) se_int rd_div) rd_mul) se_int rd_add))) fun A => rs_sl) fun A => sg_name 5)
        (ssw_seq (ssw_of fun A => (ss_asg (se_call0 (sa_cons (se_sl (se_var 5) so_none (so_some se_int) rs_sl) sa_nil)) (sg_name 6)))
        (ssw_seq (ssw_of fun A => (ss_if (st_test (se_op (se_op (se_var 5) se_int rd_ix) se_int rd_eq)) (ss_asg (se_tup (sa_cons se_str (sa_cons (se_op se_int (se_op (se_var 5) se_int rd_ix) rd_add) sa_nil))) (sg_name 6)) ss_next))
        (ssw_seq (ssw_of fun A => (ss_asg (se_tup (sa_cons se_str (sa_cons (se_op (se_op (se_var 5) se_int rd_ix) se_int rd_sub) (sa_cons (se_op (se_op (se_op (se_var 5) se_int rd_ix) se_int rd_sub) (se_op (se_var 5) se_int rd_ix) rd_add) sa_nil)))) (sg_name 7)))
        (ssw_seq (ssw_of fun A => (ss_if (st_test (se_op (se_op (se_var 5) se_int rd_ix) se_int rd_eq)) (ss_asg (se_tup (sa_cons se_str (sa_cons (se_var 7) (sa_cons (se_call0 (sa_cons (se_l (sl_lst (sa_cons (se_op (se_var 5) se_int rd_ix) (sa_cons (se_op (se_var 5) se_int rd_ix) sa_nil)))) sa_nil)) sa_nil)))) (sg_name 7)) ss_next))
        (ssw_of fun A => (ss_app (se_tup (sa_cons (se_op (se_l (sl_lst (sa_cons se_str (sa_cons se_str (sa_cons se_str (sa_cons se_str sa_nil)))))) (se_var 4) rd_ix) (sa_cons (se_var 6) (sa_cons (se_var 7) (sa_cons (se_op (se_l (sl_lst (sa_cons se_str (sa_cons se_str (sa_cons se_str sa_nil))))) (se_op (se_op (se_op (se_var 5) se_int rd_ix) (se_var 4) rd_add) se_int rd_mod) rd_ix) sa_nil)))))))))))))
      (ssw_of fun A => (ss_frz 3 (ss_ret (se_var 3))))))) h
abbrev s__law_machine : Stmt := topS 35
abbrev N__law_machine : List Str := ["script", "k", "digits"]
theorem sc__law_machine : FnScope N__law_machine ["script", "k"] (defScope s__law_machine) := ⟨rfl, rfl, rfl, by decide +kernel, rfl, by decide +kernel, by decide +kernel⟩
theorem ok__law_machine {f : Addr} {fd : FuncData} {L : Nat} {f__law_commands : WF} (T : Tx mg) (F : Fun K "_law_machine" "_law_machine" s__law_machine f fd) (c__law_draw : Cl P w K mg base "_law_draw" ["script", "k", "sizes"] L (spDrawB K)) (c__law_commands : Cl P w K mg base "_law_commands" ["script", "k"] L (spWF K f__law_commands)) :
    FnOk P w K mg base CX0 (L + 1) f fd ["script", "k"] (spWF K (runW 3 2 (w__law_machine f__law_commands))) := by
  refine F.ok sc__law_machine (fun vs H Q E h => body_lenW h) (fun cdv A' outer s H vs Q E hr h => ?_)
  refine ⟨_, (pss_cons (ps_set (i := 2) sc__law_machine.nd rfl (Or.inl rfl) (pe_call c__law_draw.ok hr (by rfl) c__law_draw.m c__law_draw.kp c__law_draw.b .nil pass0 (pa_cons (pv 0) (pa_cons (pv 1) (pa_cons (pe_lst (pa_cons pe_int (pa_cons pe_int pa_nil))) pa_nil)))))
      (pss_one (ps_ret (pe_tup (pa_cons (pe_op op_sub (pe_ix (r := rIx K) ix_seq (pv 2) pe_int (fun _ _ => rfl)) pe_int) (pa_cons (pe_callTy (r := rTupO K) cr_tupO (by rfl) T.z_tuple (by decide +kernel) (pa_cons (pe_call c__law_commands.ok hr (by rfl) c__law_commands.m c__law_commands.kp c__law_commands.b .nil pass0 (pa_cons (pv 0) (pa_cons (pe_op (r := rAddX K) op_addX (pv 1) pe_int) pa_nil))) pa_nil)) (pa_cons (pe_ix (r := rIx K) ix_seq (pv 2) pe_int (fun _ _ => rfl)) pa_nil))))))), ?_⟩
  exact body_okW (N := N__law_machine) (wb := w__law_machine f__law_commands) (ssw_seq (ssw_asg (sw_draw (sws_cons (sw_of fun A => (se_var 0)) (sws_cons (sw_of fun A => (se_var 1)) (sws_cons (sw_of fun A => (se_l (sl_lst (sa_cons se_int (sa_cons se_int sa_nil))))) sws_nil)))) fun A => sg_name 2)
      (ssw_ret (sw_tup (sws_cons (sw_of fun A => (se_op (se_op (se_var 2) se_int rd_ix) se_int rd_sub)) (sws_cons (sw_cb (sws_cons (sw_callF (sws_cons (sw_of fun A => (se_var 0)) (sws_cons (sw_of fun A => (se_op (se_var 1) se_int rd_add)) sws_nil))) sws_nil) fun A => rc_tuple) (sws_cons (sw_of fun A => (se_op (se_var 2) se_int rd_ix)) sws_nil)))))) h
noncomputable def w_law_1 (f__law_machine : WF) (f__law_told : Fn) (f__law_due : Fn) : WS :=
      (wSeq (wAsg (wDraw (wsCons (wOf (fVar 0)) (wsCons (wOf (fOp gAdd (fOp gAdd (fOp gMul (fC (.int 6)) (fVar 1)) (fC (.int 4))) (fVar 5))) (wsCons (wOf (fV (fLst (fCons (fC (.int 10)) (fCons (fC (.int 4)) (fCons (fC (.int 5)) (fCons (fC (.int 4)) fNil))))))) wsNil)))) (gS 6))
        (wSeq (wSt (fAsg (fOp gMod (fOp gIx (fVar 6) (fC (.int 1))) (fCall gMax (fCons (fC (.int 1)) (fCons (fLenV 3) fNil)))) (gS 7)))
        (wSeq (wSt (fIfS (fAnd (fB (fOp gGt (fLenV 3) (fC (.int 0)))) (fB (fOp gLt (fOp gIx (fVar 6) (fC (.int 0))) (fC (.int 6))))) (fSeq (fAsg (fTmp 3 (fOp gIx (fVar 3) (fVar 7))) (gT 4 (gC (gS 8) (gC (gS 9) (gC (gS 10) (gC (gS 11) gN))))))
          (fSeq (fAsg (fV (fLst (fCons (fC (.str "")) (fCons (fC (.str "Put")) (fCons (fC (.str "toolongname")) (fCons (fC (.str "a1")) (fCons (fTmp 3 (fOp gIx (fOp gIx (fVar 3) (fC (.int 0))) (fC (.int 0)))) fNil))))))) (gS 12))
          (fSeq (fAsg (fV (fLst (fCons (fTup (fCons (fC (.str "rising")) fNil)) (fCons (fTup (fCons (fC (.str "is")) (fCons (fC (.str "a")) fNil))) (fCons (fTup (fCons (fC (.str "divides")) (fCons (fC (.int 0)) fNil))) (fCons (fTup (fCons (fC (.str "and")) (fCons (fTup (fCons (fC (.str "atmost")) (fCons (fC (.int 1)) fNil))) (fCons (fTup (fCons (fC (.str "different")) fNil)) fNil)))) (fCons (fTup (fCons (fC (.str "divides")) (fCons (fC (.int 7)) fNil))) fNil))))))) (gS 13))
          (fSeq (fAsg (fV (fLst (fCons (fTup (fCons (fC (.str "pick")) (fCons (fTup (fCons (fC (.str "a")) (fCons (fC (.str "b")) fNil))) fNil))) (fCons (fTup (fCons (fC (.str "int")) (fCons (fC (.int 3)) (fCons (fC (.int 2)) fNil)))) (fCons (fTup (fCons (fC (.str "list")) (fCons (fTup (fCons (fC (.str "int")) (fCons (fC (.int 0)) (fCons (fC (.int 1)) fNil)))) (fCons (fC (.int 0)) (fCons (fC (.int 1)) fNil))))) (fCons (fTup (fCons (fC (.str "kept")) (fCons (fTup (fCons (fC (.str "int")) (fCons (fC (.int 0)) (fCons (fC (.int 2)) fNil)))) (fCons (fTup (fCons (fC (.str "rising")) fNil)) fNil)))) (fCons (fTup (fCons (fC (.str "turned")) (fCons (fTup (fCons (fC (.str "int")) (fCons (fC (.int 0)) (fCons (fC (.int 1)) fNil)))) (fCons (fTup (fCons (fC (.str "length")) fNil)) fNil)))) fNil))))))) (gS 14))
          (fPutL 3 (fVar 7) (fOp gIx (fV (fLst (fCons (fTup (fCons (fOp gIx (fVar 12) (fOp gIx (fVar 6) (fC (.int 2)))) (fCons (fVar 9) (fCons (fVar 10) (fCons (fVar 11) fNil))))) (fCons (fTup (fCons (fVar 8) (fCons (fOp gIx (fVar 13) (fOp gIx (fVar 6) (fC (.int 2)))) (fCons (fVar 10) (fCons (fVar 11) fNil))))) (fCons (fTup (fCons (fVar 8) (fCons (fVar 9) (fCons (fOp gIx (fVar 14) (fOp gIx (fVar 6) (fC (.int 2)))) (fCons (fVar 11) fNil))))) (fCons (fTup (fCons (fVar 8) (fCons (fVar 9) (fCons (fVar 10) (fCons (fOp gIx (fV (fLst (fCons (fC (.str "drop")) (fCons (fC (.str "")) (fCons (fC (.str "add")) (fCons (fC (.str "set")) fNil)))))) (fOp gIx (fVar 6) (fC (.int 3)))) fNil))))) (fCons (fTup (fCons (fOp gIx (fVar 12) (fOp gIx (fVar 6) (fC (.int 3)))) (fCons (fOp gIx (fVar 13) (fOp gIx (fVar 6) (fC (.int 2)))) (fCons (fOp gIx (fVar 14) (fOp gIx (fVar 6) (fC (.int 3)))) (fCons (fC (.str "x")) fNil))))) (fCons (fTup (fCons (fVar 8) (fCons (fTup (fCons (fC (.str "not")) (fCons (fTup (fCons (fC (.str "atmost")) (fCons (fOp gIx (fVar 6) (fC (.int 2))) fNil))) fNil))) (fCons (fVar 10) (fCons (fVar 11) fNil))))) fNil)))))))) (fOp gIx (fVar 6) (fC (.int 0))))))))) (fIfS (fB (fOp gEq (fOp gIx (fVar 6) (fC (.int 0))) (fC (.int 6)))) (fAsg (fOp gIx (fV (fLst (fCons (fUn gNeg (fC (.int 1001))) (fCons (fUn gNeg (fC (.int 1000))) (fCons (fC (.int 1000)) (fCons (fC (.int 1001)) fNil)))))) (fOp gIx (fVar 6) (fC (.int 3)))) (gS 2)) (fIfS (fB (fOp gEq (fOp gIx (fVar 6) (fC (.int 0))) (fC (.int 7)))) (fAsg (fOp gIx (fV (fLst (fCons (fUn gNeg (fC (.int 1))) (fCons (fC (.int 0)) (fCons (fC (.int 6)) (fCons (fC (.int 7)) fNil)))))) (fOp gIx (fVar 6) (fC (.int 3)))) (gS 4)) (fIfS (fB (fOp gEq (fOp gIx (fVar 6) (fC (.int 0))) (fC (.int 8)))) (fOwn 3 (fTmpL 3 (fOpL gAddL (fVar 3) (fV (fComp (fRng1 (fCons (fOp gIx (fVar 6) (fC (.int 3))) fNil)) (gS 15) (fun _ => some true) (fTup (fCons (fOp gAdd (fC (.str "w")) (fOp gIx (fC (.str "abcd")) (fVar 15))) (fCons (fTup (fCons (fC (.str "atmost")) (fCons (fC (.int 1)) fNil))) (fCons (fTup (fCons (fC (.str "int")) (fCons (fC (.int 0)) (fCons (fC (.int 1)) fNil)))) (fCons (fC (.str "set")) fNil))))) [15]))))) (fOwn 3 (fLst fNil)))))))
        (wSt (fIfS (fTmpT 3 (fB (fOp gNe (fCall0 f__law_told (fCons (fVar 2) (fCons (fVar 3) (fCons (fVar 4) fNil)))) (fCall0 f__law_due (fCons (fVar 2) (fCons (fVar 3) (fCons (fVar 4) fNil))))))) (fRet (fC (.bool false))) fNext)))))
noncomputable def w_law (f__law_machine : WF) (f__law_told : Fn) (f__law_due : Fn) : WS :=
      (wSeq (wAsg (wCallF f__law_machine (wsCons (wOf (fVar 0)) (wsCons (wOf (fOp gMul (fC (.int 6)) (fVar 1))) wsNil))) (gT 3 (gC (gS 2) (gC (gS 3) (gC (gS 4) gN)))))
      (wSeq (wSt (fOwn 3 (fTmpL 3 (fCallL gList (fCons (fVar 3) fNil)))))
      (wSeq (wSt (fIfS (fTmpT 3 (fB (fOp gNe (fCall0 f__law_told (fCons (fVar 2) (fCons (fVar 3) (fCons (fVar 4) fNil)))) (fCall0 f__law_due (fCons (fVar 2) (fCons (fVar 3) (fCons (fVar 4) fNil))))))) (fRet (fC (.bool false))) fNext))
      (wFor (wsOf (fRng1 (fCons (fC (.int 2)) fNil))) (gS 5) (w_law_1 f__law_machine f__law_told f__law_due)))))
noncomputable def w_law_t (f__law_machine : WF) (f__law_told : Fn) (f__law_due : Fn) : WS :=
      (wSt (fRet (fC (.bool true))))
noncomputable def w_law_h (f__law_machine : WF) (f__law_told : Fn) (f__law_due : Fn) : WA :=
      (wRng1 (wsCons (wCall gMin (wsCons (wOf (fC (.int 6))) (wsCons (wOp gAdd (wOf (fC (.int 1))) (wOp gDiv wLenS (wOf (fC (.int 6))))) wsNil))) wsNil))
abbrev s_law : Stmt := topS 38
abbrev N_law : List Str := ["script", "w", "first", "commands", "most", "j", "digits", "k", "name", "guard", "generator", "effect", "names", "guards", "makers", "i"]
theorem sc_law : FnScope N_law ["script"] (defScope s_law) := ⟨rfl, rfl, rfl, by decide +kernel, rfl, by decide +kernel, by decide +kernel⟩
theorem ok_law {f : Addr} {fd : FuncData} {L : Nat} {f__law_machine : WF} {f__law_told : Fn} {f__law_due : Fn} (T : Tx mg) (F : Fun K "law" "law" s_law f fd) (c__law_machine : Cl P w K mg base "_law_machine" ["script", "k"] L (spWF K f__law_machine)) (c__law_told : Cl P w K mg base "_law_told" ["first", "commands", "most"] L (spF K A0 f__law_told)) (c__law_due : Cl P w K mg base "_law_due" ["first", "commands", "most"] L (spF K A0 f__law_due)) (c__law_draw : Cl P w K mg base "_law_draw" ["script", "k", "sizes"] L (spDrawB K))
    (hw : w_law_h f__law_machine f__law_told f__law_due (rhoE 16) fun ds => ∀ d ∈ ds, ∃ ρ1, (gS 1) d (rhoE 16) = some ρ1 ∧ w_law f__law_machine f__law_told f__law_due 0 ρ1 (QL 16)) (ht : w_law_t f__law_machine f__law_told f__law_due 0 (rhoE 16) QT) : FnOk P w K mg base CX0 (L + 1) f fd ["script"] (spLaw K) := by
  refine F.ok sc_law (fun vs H Q E h => ?_) (fun cdv A' outer s H vs Q E hr h => ?_)
  · obtain ⟨a, ns, rfl, _⟩ := h
    rfl
  obtain ⟨a, ns, rfl, ha, h63, q⟩ := h
  refine ⟨_, (pss_cons (ps_for PassesOwn.never rfl (pi_range1 (by rfl) T.z_range (pa_cons (pe_callB (call_min2 rfl) (by rfl) T.z_min (by decide +kernel) (pa_cons pe_int (pa_cons (pe_op (r := rAddX K) op_addX pe_int (pe_op op_fdivW (pe_callB (r := rLenX K) cr_lenX (by rfl) T.z_len PySem.boot_len (pa_cons (pv 0) pa_nil)) pe_int)) pa_nil))) pa_nil)) (pg_name (i := 1) sc_law.nd rfl (Or.inl rfl)) (pss_cons (ps_asg (pe_call c__law_machine.ok hr (by rfl) c__law_machine.m c__law_machine.kp c__law_machine.b .nil pass0 (pa_cons (pv 0) (pa_cons (pe_op op_mulX pe_int (pv 1)) pa_nil))) (pg_tup rfl (pgs_cons (pg_name (i := 2) sc_law.nd rfl (Or.inl rfl)) (pgs_cons (pg_name (i := 3) sc_law.nd rfl (Or.inl rfl)) (pgs_cons (pg_name (i := 4) sc_law.nd rfl (Or.inl rfl)) pgs_nil)))))
      (pss_cons (ps_set (i := 3) sc_law.nd rfl (Or.inl rfl) (pe_callTy (r := rLstO K) cr_lstO (by rfl) T.z_list (by decide +kernel) (pa_cons (pv 3) pa_nil)))
      (pss_cons (ps_if (pt_cmpR (r := rNeX K) (op_neX hr.units) (pe_call c__law_told.ok hr (by rfl) c__law_told.m c__law_told.kp c__law_told.b .nil pass0 (pa_cons (pv 2) (pa_cons (pv 3) (pa_cons (pv 4) pa_nil)))) (pe_call c__law_due.ok hr (by rfl) c__law_due.m c__law_due.kp c__law_due.b .nil pass0 (pa_cons (pv 2) (pa_cons (pv 3) (pa_cons (pv 4) pa_nil)))) (nomark _)) (pss_one (ps_ret pe_bl)) pss_nil)
      (pss_one (ps_for PassesOwn.never rfl (pi_range1 (by rfl) T.z_range (pa_cons pe_int pa_nil)) (pg_name (i := 5) sc_law.nd rfl (Or.inl rfl)) (pss_cons (ps_set (i := 6) sc_law.nd rfl (Or.inl rfl) (pe_call c__law_draw.ok hr (by rfl) c__law_draw.m c__law_draw.kp c__law_draw.b .nil pass0 (pa_cons (pv 0) (pa_cons (pe_op (r := rAddX K) op_addX (pe_op (r := rAddX K) op_addX (pe_op op_mulX pe_int (pv 1)) pe_int) (pv 5)) (pa_cons (pe_lst (pa_cons pe_int (pa_cons pe_int (pa_cons pe_int (pa_cons pe_int pa_nil))))) pa_nil)))))
        (pss_cons (ps_set (i := 7) sc_law.nd rfl (Or.inl rfl) (pe_op op_mod (pe_ix (r := rIx K) ix_seq (pv 6) pe_int (fun _ _ => rfl)) (pe_callB (call_max2 rfl) (by rfl) T.z_max (by decide +kernel) (pa_cons pe_int (pa_cons (pe_callB (r := rLenX K) cr_lenX (by rfl) T.z_len PySem.boot_len (pa_cons (pv 3) pa_nil)) pa_nil)))))
        (pss_cons (ps_if (PW.pt (pw_and (pt_cmpR op_gt (pe_callB (r := rLenX K) cr_lenX (by rfl) T.z_len PySem.boot_len (pa_cons (pv 3) pa_nil)) pe_int (nomark _)) (pw_and1 (pt_cmpR op_lt (pe_ix (r := rIx K) ix_seq (pv 6) pe_int (fun _ _ => rfl)) pe_int (nomark _))))) (pss_cons (ps_asg (pe_ix (r := rIx K) ix_seq (pv 3) (pv 7) (fun _ _ => rfl)) (pg_tup rfl (pgs_cons (pg_name (i := 8) sc_law.nd rfl (Or.inl rfl)) (pgs_cons (pg_name (i := 9) sc_law.nd rfl (Or.inl rfl)) (pgs_cons (pg_name (i := 10) sc_law.nd rfl (Or.inl rfl)) (pgs_cons (pg_name (i := 11) sc_law.nd rfl (Or.inl rfl)) pgs_nil))))))
          (pss_cons (ps_set (i := 12) sc_law.nd rfl (Or.inl rfl) (pe_lst (pa_cons pe_str (pa_cons pe_str (pa_cons pe_str (pa_cons pe_str (pa_cons (pe_ix (r := rIx K) ix_seq (pe_ix (r := rIx K) ix_seq (pv 3) pe_int (fun _ _ => rfl)) pe_int (fun _ _ => rfl)) pa_nil)))))))
          (pss_cons (ps_set (i := 13) sc_law.nd rfl (Or.inl rfl) (pe_lst (pa_cons (pe_tup (pa_cons pe_str pa_nil)) (pa_cons (pe_tup (pa_cons pe_str (pa_cons pe_str pa_nil))) (pa_cons (pe_tup (pa_cons pe_str (pa_cons pe_int pa_nil))) (pa_cons (pe_tup (pa_cons pe_str (pa_cons (pe_tup (pa_cons pe_str (pa_cons pe_int pa_nil))) (pa_cons (pe_tup (pa_cons pe_str pa_nil)) pa_nil)))) (pa_cons (pe_tup (pa_cons pe_str (pa_cons pe_int pa_nil))) pa_nil)))))))
          (pss_cons (ps_set (i := 14) sc_law.nd rfl (Or.inl rfl) (pe_lst (pa_cons (pe_tup (pa_cons pe_str (pa_cons (pe_tup (pa_cons pe_str (pa_cons pe_str pa_nil))) pa_nil))) (pa_cons (pe_tup (pa_cons pe_str (pa_cons pe_int (pa_cons pe_int pa_nil)))) (pa_cons (pe_tup (pa_cons pe_str (pa_cons (pe_tup (pa_cons pe_str (pa_cons pe_int (pa_cons pe_int pa_nil)))) (pa_cons pe_int (pa_cons pe_int pa_nil))))) (pa_cons (pe_tup (pa_cons pe_str (pa_cons (pe_tup (pa_cons pe_str (pa_cons pe_int (pa_cons pe_int pa_nil)))) (pa_cons (pe_tup (pa_cons pe_str pa_nil)) pa_nil)))) (pa_cons (pe_tup (pa_cons pe_str (pa_cons (pe_tup (pa_cons pe_str (pa_cons pe_int (pa_cons pe_int pa_nil)))) (pa_cons (pe_tup (pa_cons pe_str pa_nil)) pa_nil)))) pa_nil)))))))
          (pss_one (ps_asg (pe_ix (r := rIx K) ix_seq (pe_lst (pa_cons (pe_tup (pa_cons (pe_ix (r := rIx K) ix_seq (pv 12) (pe_ix (r := rIx K) ix_seq (pv 6) pe_int (fun _ _ => rfl)) (fun _ _ => rfl)) (pa_cons (pv 9) (pa_cons (pv 10) (pa_cons (pv 11) pa_nil))))) (pa_cons (pe_tup (pa_cons (pv 8) (pa_cons (pe_ix (r := rIx K) ix_seq (pv 13) (pe_ix (r := rIx K) ix_seq (pv 6) pe_int (fun _ _ => rfl)) (fun _ _ => rfl)) (pa_cons (pv 10) (pa_cons (pv 11) pa_nil))))) (pa_cons (pe_tup (pa_cons (pv 8) (pa_cons (pv 9) (pa_cons (pe_ix (r := rIx K) ix_seq (pv 14) (pe_ix (r := rIx K) ix_seq (pv 6) pe_int (fun _ _ => rfl)) (fun _ _ => rfl)) (pa_cons (pv 11) pa_nil))))) (pa_cons (pe_tup (pa_cons (pv 8) (pa_cons (pv 9) (pa_cons (pv 10) (pa_cons (pe_ix (r := rIx K) ix_seq (pe_lst (pa_cons pe_str (pa_cons pe_str (pa_cons pe_str (pa_cons pe_str pa_nil))))) (pe_ix (r := rIx K) ix_seq (pv 6) pe_int (fun _ _ => rfl)) (fun _ _ => rfl)) pa_nil))))) (pa_cons (pe_tup (pa_cons (pe_ix (r := rIx K) ix_seq (pv 12) (pe_ix (r := rIx K) ix_seq (pv 6) pe_int (fun _ _ => rfl)) (fun _ _ => rfl)) (pa_cons (pe_ix (r := rIx K) ix_seq (pv 13) (pe_ix (r := rIx K) ix_seq (pv 6) pe_int (fun _ _ => rfl)) (fun _ _ => rfl)) (pa_cons (pe_ix (r := rIx K) ix_seq (pv 14) (pe_ix (r := rIx K) ix_seq (pv 6) pe_int (fun _ _ => rfl)) (fun _ _ => rfl)) (pa_cons pe_str pa_nil))))) (pa_cons (pe_tup (pa_cons (pv 8) (pa_cons (pe_tup (pa_cons pe_str (pa_cons (pe_tup (pa_cons pe_str (pa_cons (pe_ix (r := rIx K) ix_seq (pv 6) pe_int (fun _ _ => rfl)) pa_nil))) pa_nil))) (pa_cons (pv 10) (pa_cons (pv 11) pa_nil))))) pa_nil))))))) (pe_ix (r := rIx K) ix_seq (pv 6) pe_int (fun _ _ => rfl)) (fun _ _ => rfl)) (pg_sub (pv 3) (pv 7) set_list))))))) (pss_one (ps_if (pt_cmpR (r := rEqX K) (op_eqX hr.units) (pe_ix (r := rIx K) ix_seq (pv 6) pe_int (fun _ _ => rfl)) pe_int (nomark _)) (pss_one (ps_set (i := 2) sc_law.nd rfl (Or.inl rfl) (pe_ix (r := rIx K) ix_seq (pe_lst (pa_cons (pe_un un_neg pe_int) (pa_cons (pe_un un_neg pe_int) (pa_cons pe_int (pa_cons pe_int pa_nil))))) (pe_ix (r := rIx K) ix_seq (pv 6) pe_int (fun _ _ => rfl)) (fun _ _ => rfl)))) (pss_one (ps_if (pt_cmpR (r := rEqX K) (op_eqX hr.units) (pe_ix (r := rIx K) ix_seq (pv 6) pe_int (fun _ _ => rfl)) pe_int (nomark _)) (pss_one (ps_set (i := 4) sc_law.nd rfl (Or.inl rfl) (pe_ix (r := rIx K) ix_seq (pe_lst (pa_cons (pe_un un_neg pe_int) (pa_cons pe_int (pa_cons pe_int (pa_cons pe_int pa_nil))))) (pe_ix (r := rIx K) ix_seq (pv 6) pe_int (fun _ _ => rfl)) (fun _ _ => rfl)))) (pss_one (ps_if (pt_cmpR (r := rEqX K) (op_eqX hr.units) (pe_ix (r := rIx K) ix_seq (pv 6) pe_int (fun _ _ => rfl)) pe_int (nomark _)) (pss_one (ps_set (i := 3) sc_law.nd rfl (Or.inl rfl) (pe_op (r := rAddX K) op_addX (pv 3) (pe_lc (own := [("i", 15)]) (g := gName 15) (by rfl) sc_law.nd (pi_range1 (by rfl) T.z_range (pa_cons (pe_ix (r := rIx K) ix_seq (pv 6) pe_int (fun _ _ => rfl)) pa_nil)) (blkOk_by (own := [("i", 15)]) (N := N_law) (sc := defScope s_law) (by decide +kernel)) (fun _ _ _ _ _ => (pg_name (i := 15) sc_law.nd rfl (Or.inl rfl))) (fun _ _ _ _ _ => pts_nil) (fun _ _ _ _ _ => (pe_tup (pa_cons (pe_op (r := rAddX K) op_addX pe_str (pe_ix (r := rIx K) ix_seq pe_str (pv 15) (fun _ _ => rfl))) (pa_cons (pe_tup (pa_cons pe_str (pa_cons pe_int pa_nil))) (pa_cons (pe_tup (pa_cons pe_str (pa_cons pe_int (pa_cons pe_int pa_nil)))) (pa_cons pe_str pa_nil)))))))))) (pss_one (ps_set (i := 3) sc_law.nd rfl (Or.inl rfl) (pe_lst pa_nil))))))))))
        (pss_one (ps_if (pt_cmpR (r := rNeX K) (op_neX hr.units) (pe_call c__law_told.ok hr (by rfl) c__law_told.m c__law_told.kp c__law_told.b .nil pass0 (pa_cons (pv 2) (pa_cons (pv 3) (pa_cons (pv 4) pa_nil)))) (pe_call c__law_due.ok hr (by rfl) c__law_due.m c__law_due.kp c__law_due.b .nil pass0 (pa_cons (pv 2) (pa_cons (pv 3) (pa_cons (pv 4) pa_nil)))) (nomark _)) (pss_one (ps_ret pe_bl)) pss_nil)))))))))))
      (pss_one (ps_ret pe_bl))), ?_⟩
  refine law_body (N := 16) (wb := w_law f__law_machine f__law_told f__law_due) (ww := w_law_h f__law_machine f__law_told f__law_due) (wt := w_law_t f__law_machine f__law_told f__law_due) (gg := (gS 1)) (by decide) ?_ (fun A => (sg_name 1)) ?_ ?_ ⟨rfl, rfl, ha, h63, fun p hp => nomatch hp⟩ hw ht fun _ => q _
  · exact (siw_rng1 (sws_cons (sw_cb (sws_cons (sw_of fun A => se_int) (sws_cons (sw_op (sw_of fun A => se_int) (sw_op sw_lenS (sw_of fun A => se_int) fun A => rd_div) fun A => rd_add) sws_nil)) fun A => rc_min) sws_nil))
  · exact (ssw_seq (ssw_asg (sw_callF (sws_cons (sw_of fun A => (se_var 0)) (sws_cons (sw_of fun A => (se_op se_int (se_var 1) rd_mul)) sws_nil))) fun A => (sg_tup 3 (sgs_cons (sg_name 2) (sgs_cons (sg_name 3) (sgs_cons (sg_name 4) sgs_nil)))))
      (ssw_seq (ssw_of fun A => (ss_own (sl_tmp 3 (sl_cb (sa_cons (se_var 3) sa_nil) rc_list))))
      (ssw_seq (ssw_of fun A => (ss_if (st_tmp 3 (st_test (se_op (se_call0 (sa_cons (se_var 2) (sa_cons (se_var 3) (sa_cons (se_var 4) sa_nil)))) (se_call0 (sa_cons (se_var 2) (sa_cons (se_var 3) (sa_cons (se_var 4) sa_nil)))) rd_ne))) (ss_ret se_bl) ss_next))
      (ssw_for (w1 := (w_law_1 f__law_machine f__law_told f__law_due)) (siw_of fun A => (si_rng1 (sa_cons se_int sa_nil))) (fun A => (sg_name 5)) (ssw_seq (ssw_asg (sw_draw (sws_cons (sw_of fun A => (se_var 0)) (sws_cons (sw_of fun A => (se_op (se_op (se_op se_int (se_var 1) rd_mul) se_int rd_add) (se_var 5) rd_add)) (sws_cons (sw_of fun A => (se_l (sl_lst (sa_cons se_int (sa_cons se_int (sa_cons se_int (sa_cons se_int sa_nil))))))) sws_nil)))) fun A => sg_name 6)
        (ssw_seq (ssw_of fun A => (ss_asg (se_op (se_op (se_var 6) se_int rd_ix) (se_cb (sa_cons se_int (sa_cons (se_lenV 3) sa_nil)) rc_max) rd_mod) (sg_name 7)))
        (ssw_seq (ssw_of fun A => (ss_if (st_and (st_test (se_op (se_lenV 3) se_int rd_gt)) (st_test (se_op (se_op (se_var 6) se_int rd_ix) se_int rd_lt))) (ss_seq (ss_asg (se_tmp 3 (se_op (se_var 3) (se_var 7) rd_ix)) (sg_tup 4 (sgs_cons (sg_name 8) (sgs_cons (sg_name 9) (sgs_cons (sg_name 10) (sgs_cons (sg_name 11) sgs_nil))))))
          (ss_seq (ss_asg (se_l (sl_lst (sa_cons se_str (sa_cons se_str (sa_cons se_str (sa_cons se_str (sa_cons (se_tmp 3 (se_op (se_op (se_var 3) se_int rd_ix) se_int rd_ix)) sa_nil))))))) (sg_name 12))
          (ss_seq (ss_asg (se_l (sl_lst (sa_cons (se_tup (sa_cons se_str sa_nil)) (sa_cons (se_tup (sa_cons se_str (sa_cons se_str sa_nil))) (sa_cons (se_tup (sa_cons se_str (sa_cons se_int sa_nil))) (sa_cons (se_tup (sa_cons se_str (sa_cons (se_tup (sa_cons se_str (sa_cons se_int sa_nil))) (sa_cons (se_tup (sa_cons se_str sa_nil)) sa_nil)))) (sa_cons (se_tup (sa_cons se_str (sa_cons se_int sa_nil))) sa_nil))))))) (sg_name 13))
          (ss_seq (ss_asg (se_l (sl_lst (sa_cons (se_tup (sa_cons se_str (sa_cons (se_tup (sa_cons se_str (sa_cons se_str sa_nil))) sa_nil))) (sa_cons (se_tup (sa_cons se_str (sa_cons se_int (sa_cons se_int sa_nil)))) (sa_cons (se_tup (sa_cons se_str (sa_cons (se_tup (sa_cons se_str (sa_cons se_int (sa_cons se_int sa_nil)))) (sa_cons se_int (sa_cons se_int sa_nil))))) (sa_cons (se_tup (sa_cons se_str (sa_cons (se_tup (sa_cons se_str (sa_cons se_int (sa_cons se_int sa_nil)))) (sa_cons (se_tup (sa_cons se_str sa_nil)) sa_nil)))) (sa_cons (se_tup (sa_cons se_str (sa_cons (se_tup (sa_cons se_str (sa_cons se_int (sa_cons se_int sa_nil)))) (sa_cons (se_tup (sa_cons se_str sa_nil)) sa_nil)))) sa_nil))))))) (sg_name 14))
          (ss_putL (i := 3) (se_var 7) (se_op (se_l (sl_lst (sa_cons (se_tup (sa_cons (se_op (se_var 12) (se_op (se_var 6) se_int rd_ix) rd_ix) (sa_cons (se_var 9) (sa_cons (se_var 10) (sa_cons (se_var 11) sa_nil))))) (sa_cons (se_tup (sa_cons (se_var 8) (sa_cons (se_op (se_var 13) (se_op (se_var 6) se_int rd_ix) rd_ix) (sa_cons (se_var 10) (sa_cons (se_var 11) sa_nil))))) (sa_cons (se_tup (sa_cons (se_var 8) (sa_cons (se_var 9) (sa_cons (se_op (se_var 14) (se_op (se_var 6) se_int rd_ix) rd_ix) (sa_cons (se_var 11) sa_nil))))) (sa_cons (se_tup (sa_cons (se_var 8) (sa_cons (se_var 9) (sa_cons (se_var 10) (sa_cons (se_op (se_l (sl_lst (sa_cons se_str (sa_cons se_str (sa_cons se_str (sa_cons se_str sa_nil)))))) (se_op (se_var 6) se_int rd_ix) rd_ix) sa_nil))))) (sa_cons (se_tup (sa_cons (se_op (se_var 12) (se_op (se_var 6) se_int rd_ix) rd_ix) (sa_cons (se_op (se_var 13) (se_op (se_var 6) se_int rd_ix) rd_ix) (sa_cons (se_op (se_var 14) (se_op (se_var 6) se_int rd_ix) rd_ix) (sa_cons se_str sa_nil))))) (sa_cons (se_tup (sa_cons (se_var 8) (sa_cons (se_tup (sa_cons se_str (sa_cons (se_tup (sa_cons se_str (sa_cons (se_op (se_var 6) se_int rd_ix) sa_nil))) sa_nil))) (sa_cons (se_var 10) (sa_cons (se_var 11) sa_nil))))) sa_nil)))))))) (se_op (se_var 6) se_int rd_ix) rd_ix)))))) (ss_if (st_test (se_op (se_op (se_var 6) se_int rd_ix) se_int rd_eq)) (ss_asg (se_op (se_l (sl_lst (sa_cons (se_un se_int ru_neg1) (sa_cons (se_un se_int ru_neg1) (sa_cons se_int (sa_cons se_int sa_nil)))))) (se_op (se_var 6) se_int rd_ix) rd_ix) (sg_name 2)) (ss_if (st_test (se_op (se_op (se_var 6) se_int rd_ix) se_int rd_eq)) (ss_asg (se_op (se_l (sl_lst (sa_cons (se_un se_int ru_neg1) (sa_cons se_int (sa_cons se_int (sa_cons se_int sa_nil)))))) (se_op (se_var 6) se_int rd_ix) rd_ix) (sg_name 4)) (ss_if (st_test (se_op (se_op (se_var 6) se_int rd_ix) se_int rd_eq)) (ss_own (sl_tmp 3 (sl_op (se_var 3) (se_l (sl_lc (vs := [15]) (si_rng1 (sa_cons (se_op (se_var 6) se_int rd_ix) sa_nil)) (sg_name 15) (by decide) st_yes (se_tup (sa_cons (se_op se_str (se_op se_str (se_var 15) rd_ix) rd_add) (sa_cons (se_tup (sa_cons se_str (sa_cons se_int sa_nil))) (sa_cons (se_tup (sa_cons se_str (sa_cons se_int (sa_cons se_int sa_nil)))) (sa_cons se_str sa_nil))))))) rd_addL))) (ss_own (sl_lst sa_nil)))))))
        (ssw_of fun A => (ss_if (st_tmp 3 (st_test (se_op (se_call0 (sa_cons (se_var 2) (sa_cons (se_var 3) (sa_cons (se_var 4) sa_nil)))) (se_call0 (sa_cons (se_var 2) (sa_cons (se_var 3) (sa_cons (se_var 4) sa_nil)))) rd_ne))) (ss_ret se_bl) ss_next)))))))))
  · exact (ssw_of fun A => (ss_ret se_bl))
end
end K55
namespace Fb
open PySem PySem.Spec PyProof.Rows L2 Evl CrT Cr
theorem pre_app {r s row : List Int} {k : Nat} (h : r ++ s <+: row.drop k) : r <+: row.drop k ∧ s <+: row.drop (k + r.length) := by
  obtain ⟨t, ht⟩ := h
  refine ⟨⟨s ++ t, by rw [← List.append_assoc]; exact ht⟩, ⟨t, ?_⟩⟩
  rw [← List.drop_drop, ← ht, List.append_assoc, List.drop_left]
theorem app_pre {r s row : List Int} {k : Nat} (h1 : r <+: row.drop k) (h2 : s <+: row.drop (k + r.length)) : r ++ s <+: row.drop k := by
  obtain ⟨t, ht⟩ := h1
  obtain ⟨u, hu⟩ := h2
  rw [← List.drop_drop, ← ht, List.drop_left] at hu
  exact ⟨u, by rw [List.append_assoc, hu]; exact ht⟩
theorem pre_one {c : Int} {row : List Int} {k : Nat} (h : [c] <+: row.drop k) : k < row.length ∧ row.getD k 0 = c := by
  obtain ⟨t, ht⟩ := h
  have hk : k < row.length := by
    by_cases hk : k < row.length
    · exact hk
    · rw [List.drop_eq_nil_of_le (by omega)] at ht
      cases ht
  refine ⟨hk, ?_⟩
  rw [List.drop_eq_getElem_cons hk] at ht
  injection ht with ht _
  rw [List.getD_eq_getElem?_getD, List.getElem?_eq_getElem hk]
  exact ht.symm
theorem one_pre {row : List Int} {k : Nat} (h : k < row.length) : [row.getD k 0] <+: row.drop k := by
  rw [List.drop_eq_getElem_cons h, List.getD_eq_getElem?_getD, List.getElem?_eq_getElem h]
  exact ⟨_, rfl⟩
theorem choice_val {row : List Int} {k : Nat} {b c : Int} {f : Int → Out} (h : [c] <+: row.drop k) (h0 : 0 ≤ c) (h1 : c ≤ b) : choice row k b f = f c := by
  obtain ⟨hk, hc⟩ := pre_one h
  unfold choice
  rw [if_neg (by omega), hc, if_pos (by rw [decide_eq_true h0, decide_eq_true h1]; rfl)]
theorem choice_inv {row : List Int} {k n : Nat} {b : Int} {f : Int → Out} {v : PyData} (h : choice row k b f = .val v n) : ∃ c, [c] <+: row.drop k ∧ 0 ≤ c ∧ c ≤ b ∧ f c = .val v n := by
  unfold choice at h
  split at h
  · cases h
  · rename_i hk
    split at h
    · rename_i hc
      have h2 := Bool.and_eq_true_iff.mp hc
      exact ⟨_, one_pre (by omega), of_decide_eq_true h2.1, of_decide_eq_true h2.2, h⟩
    · cases h
theorem step_inv {o : Out} {f : PyData → Nat → Out} {v : PyData} {n : Nat} (h : o.step f = .val v n) : ∃ u m, o = .val u m ∧ f u m = .val v n := by
  cases o with
  | val u m => exact ⟨u, m, rfl, h⟩
  | _ => cases h
def Snd (f : List Int → Nat → Out) (parts : List VR) : Prop := ∀ p ∈ parts, ∀ row k, p.2 <+: row.drop k → f row k = .val p.1 (k + p.2.length)
def Cmp (f : List Int → Nat → Out) (parts : List VR) : Prop := ∀ row k v n, f row k = .val v n → ∃ r, r <+: row.drop k ∧ n = k + r.length ∧ (v, r) ∈ parts
theorem mk_beside {rows : List TR} {parts : List VR} {ahead : List Int} {a : List PyData} {r : List Int} {v : PyData} {q : List Int} (h : (a, r) ∈ rows) (g : (v, q) ∈ parts) : (a ++ [v], r ++ ahead ++ q) ∈ besideG rows parts ahead := by
  unfold besideG
  exact List.mem_flatMap.mpr ⟨_, h, List.mem_map.mpr ⟨_, g, rfl⟩⟩
theorem tup_snd : ∀ (gs : List Gn) (acc : List TR), (∀ g ∈ gs, Snd (outG g) (rowsOf g)) → ∀ r ∈ rowsTup gs acc, ∃ r0 ∈ acc, ∃ rest, r.2 = r0.2 ++ rest ∧ ∀ row k, rest <+: row.drop k → outSeq gs row k r0.1 = .val (.tuple r.1) (k + rest.length)
  | [], acc, _, r, hr => by
    rw [rowsTup] at hr
    exact ⟨r, hr, [], by simp, fun row k _ => by rw [outSeq]; rfl⟩
  | g :: gs, acc, hg, r, hr => by
    rw [rowsTup] at hr
    obtain ⟨r1, h1, rest, e1, h2⟩ := tup_snd gs _ (fun g' h' => hg g' (List.mem_cons_of_mem _ h')) r hr
    obtain ⟨r0, h0, p, hp, rfl⟩ := mem_beside h1
    refine ⟨r0, h0, p.2 ++ rest, by rw [e1]; simp, fun row k h => ?_⟩
    obtain ⟨h3, h4⟩ := pre_app h
    rw [outSeq, hg g List.mem_cons_self p hp row k h3, Out.step, h2 row _ h4, List.length_append, Nat.add_assoc]
theorem tup_cmp : ∀ (gs : List Gn) (row : List Int) (k n : Nat) (acc : List PyData) (v : PyData), (∀ g ∈ gs, Cmp (outG g) (rowsOf g)) → outSeq gs row k acc = .val v n → ∃ vs rest, v = .tuple vs ∧ rest <+: row.drop k ∧ n = k + rest.length ∧ ∀ rows r0, (acc, r0) ∈ rows → (vs, r0 ++ rest) ∈ rowsTup gs rows
  | [], row, k, n, acc, v, _, h => by
    rw [outSeq] at h
    cases h
    exact ⟨acc, [], rfl, List.nil_prefix, rfl, fun rows r0 h => by rw [rowsTup, List.append_nil]; exact h⟩
  | g :: gs, row, k, n, acc, v, hg, h => by
    rw [outSeq] at h
    obtain ⟨u, m, h1, h2⟩ := step_inv h
    obtain ⟨q, hq, rfl, hm⟩ := hg g List.mem_cons_self row k u m h1
    obtain ⟨vs, rest, rfl, h3, rfl, h4⟩ := tup_cmp gs row _ n _ v (fun g' h' => hg g' (List.mem_cons_of_mem _ h')) h2
    refine ⟨vs, q ++ rest, rfl, app_pre hq h3, by rw [List.length_append]; omega, fun rows r0 h0 => ?_⟩
    rw [rowsTup]
    have := h4 _ _ (mk_beside (ahead := []) h0 hm)
    rwa [List.append_nil, List.append_assoc] at this
theorem times_snd {f : List Int → Nat → Out} {parts : List VR} (hf : Snd f parts) : ∀ (m : Nat) (acc : List TR), ∀ r ∈ timesR parts [] m acc, ∃ r0 ∈ acc, ∃ rest, r.2 = r0.2 ++ rest ∧ ∀ row k, rest <+: row.drop k → outTimes (f row) m k r0.1 = .val (.tuple r.1) (k + rest.length)
  | 0, acc, r, hr => ⟨r, hr, [], by simp, fun row k _ => rfl⟩
  | m + 1, acc, r, hr => by
    rw [timesR] at hr
    obtain ⟨r1, h1, rest, e1, h2⟩ := times_snd hf m _ r hr
    obtain ⟨r0, h0, p, hp, rfl⟩ := mem_beside h1
    refine ⟨r0, h0, p.2 ++ rest, by rw [e1]; simp, fun row k h => ?_⟩
    obtain ⟨h3, h4⟩ := pre_app h
    rw [outTimes, hf p hp row k h3, Out.step, h2 row _ h4, List.length_append, Nat.add_assoc]
theorem times_cmp {f : List Int → Nat → Out} {parts : List VR} (hf : Cmp f parts) : ∀ (m : Nat) (row : List Int) (k n : Nat) (acc : List PyData) (v : PyData), outTimes (f row) m k acc = .val v n → ∃ vs rest, v = .tuple vs ∧ rest <+: row.drop k ∧ n = k + rest.length ∧ ∀ rows r0, (acc, r0) ∈ rows → (vs, r0 ++ rest) ∈ timesR parts [] m rows
  | 0, row, k, n, acc, v, h => by
    cases h
    exact ⟨acc, [], rfl, List.nil_prefix, rfl, fun rows r0 h => by rw [timesR, List.append_nil]; exact h⟩
  | m + 1, row, k, n, acc, v, h => by
    rw [outTimes] at h
    obtain ⟨u, j, h1, h2⟩ := step_inv h
    obtain ⟨q, hq, rfl, hm⟩ := hf row k u j h1
    obtain ⟨vs, rest, rfl, h3, rfl, h4⟩ := times_cmp hf m row _ n _ v h2
    refine ⟨vs, q ++ rest, rfl, app_pre hq h3, by rw [List.length_append]; omega, fun rows r0 h0 => ?_⟩
    rw [timesR]
    have := h4 _ _ (mk_beside (ahead := []) h0 hm)
    rwa [List.append_nil, List.append_assoc] at this
def finL (s : List TR × List VR) : List VR := s.2 ++ s.1.map tupR
theorem fin_keep {parts : List VR} {a : Int} : ∀ (l : List Nat) (s : List TR × List VR) (p : VR), p ∈ s.2 → p ∈ finL (l.foldl (listStep parts a) s)
  | [], s, p, h => List.mem_append.mpr (.inl h)
  | x :: l, s, p, h => by
    rw [List.foldl_cons]
    refine fin_keep l _ p ?_
    unfold listStep
    split
    · exact h
    · exact List.mem_append.mpr (.inl h)
theorem lis_snd {f : List Int → Nat → Out} {parts : List VR} {a : Int} (hf : Snd f parts) : ∀ (k m : Nat) (s : List TR × List VR), ∀ p ∈ finL ((List.range' m k).foldl (listStep parts a) s), p ∈ s.2 ∨ ∃ r0 ∈ s.1, ∃ rest, p.2 = r0.2 ++ rest ∧ ∀ row j, rest <+: row.drop j → outList (f row) row a k m j r0.1 = .val p.1 (j + rest.length)
  | 0, m, s, p, hp => by
    rcases List.mem_append.mp hp with h | h
    · exact .inl h
    · obtain ⟨r, hr, rfl⟩ := List.mem_map.mp h
      exact .inr ⟨r, hr, [], by show r.2 = _; simp, fun row j _ => rfl⟩
  | k + 1, m, s, p, hp => by
    rw [List.range'_succ, List.foldl_cons] at hp
    have ih := lis_snd (a := a) hf k (m + 1) (listStep parts a s m) p hp
    by_cases hlt : (m : Int) < a
    · rw [show listStep parts a s m = (besideG s.1 parts [], s.2) from if_pos hlt] at ih
      rcases ih with ih | ⟨r1, h1, rest, e1, h2⟩
      · exact .inl ih
      · obtain ⟨r0, h0, q, hq, rfl⟩ := mem_beside h1
        refine .inr ⟨r0, h0, q.2 ++ rest, by rw [e1]; simp, fun row j h => ?_⟩
        obtain ⟨h3, h4⟩ := pre_app h
        rw [outList, if_pos hlt, hf q hq row j h3, Out.step, h2 row _ h4, List.length_append, Nat.add_assoc]
    · rw [show listStep parts a s m = (besideG s.1 parts [1], s.2 ++ s.1.map fun r => tupR (r.1, r.2 ++ [0])) from if_neg hlt] at ih
      rcases ih with ih | ⟨r1, h1, rest, e1, h2⟩
      · rcases List.mem_append.mp ih with ih | ih
        · exact .inl ih
        · obtain ⟨r, hr, rfl⟩ := List.mem_map.mp ih
          refine .inr ⟨r, hr, [0], rfl, fun row j h => ?_⟩
          rw [outList, if_neg hlt, choice_val h (by decide) (by decide), if_pos rfl]
          rfl
      · obtain ⟨r0, h0, q, hq, rfl⟩ := mem_beside h1
        refine .inr ⟨r0, h0, [1] ++ (q.2 ++ rest), by rw [e1]; simp, fun row j h => ?_⟩
        obtain ⟨h3, h4⟩ := pre_app h
        obtain ⟨h5, h6⟩ := pre_app h4
        have h5 : q.2 <+: row.drop (j + 1) := h5
        have h6 : rest <+: row.drop (j + 1 + q.2.length) := h6
        rw [outList, if_neg hlt, choice_val h3 (by decide) (by decide), if_neg (by decide), hf q hq row _ h5, Out.step, h2 row _ h6, List.length_append, List.length_append]
        congr 1
        show j + 1 + q.2.length + rest.length = j + (1 + (q.2.length + rest.length))
        omega
theorem lis_cmp {f : List Int → Nat → Out} {parts : List VR} {a : Int} (hf : Cmp f parts) : ∀ (k m : Nat) (row : List Int) (j n : Nat) (acc : List PyData) (v : PyData), outList (f row) row a k m j acc = .val v n → ∃ rest, rest <+: row.drop j ∧ n = j + rest.length ∧ ∀ (s : List TR × List VR) r0, (acc, r0) ∈ s.1 → (v, r0 ++ rest) ∈ finL ((List.range' m k).foldl (listStep parts a) s)
  | 0, m, row, j, n, acc, v, h => by
    cases h
    exact ⟨[], List.nil_prefix, rfl, fun s r0 h => List.mem_append.mpr (.inr (List.mem_map.mpr ⟨_, h, by rw [List.append_nil]; rfl⟩))⟩
  | k + 1, m, row, j, n, acc, v, h => by
    rw [outList] at h
    by_cases hlt : (m : Int) < a
    · rw [if_pos hlt] at h
      obtain ⟨u, i, h1, h2⟩ := step_inv h
      obtain ⟨q, hq, rfl, hm⟩ := hf row j u i h1
      obtain ⟨rest, h3, rfl, h4⟩ := lis_cmp hf k (m + 1) row _ n _ v h2
      refine ⟨q ++ rest, app_pre hq h3, by rw [List.length_append]; omega, fun s r0 h0 => ?_⟩
      rw [List.range'_succ, List.foldl_cons, show listStep parts a s m = (besideG s.1 parts [], s.2) from if_pos hlt]
      have := h4 (besideG s.1 parts [], s.2) _ (mk_beside (ahead := []) h0 hm)
      rwa [List.append_nil, List.append_assoc] at this
    · rw [if_neg hlt] at h
      obtain ⟨c, hc, h0, h1, h⟩ := choice_inv h
      by_cases hz : c = 0
      · subst hz
        rw [if_pos rfl] at h
        cases h
        refine ⟨[0], hc, rfl, fun s r0 h0 => ?_⟩
        rw [List.range'_succ, List.foldl_cons, show listStep parts a s m = (besideG s.1 parts [1], s.2 ++ s.1.map fun r => tupR (r.1, r.2 ++ [0])) from if_neg hlt]
        exact fin_keep _ _ _ (List.mem_append.mpr (.inr (List.mem_map.mpr ⟨_, h0, rfl⟩)))
      · rw [if_neg hz] at h
        have hc1 : c = 1 := by omega
        subst hc1
        obtain ⟨u, i, h1, h2⟩ := step_inv h
        obtain ⟨q, hq, rfl, hm⟩ := hf row _ u i h1
        obtain ⟨rest, h3, rfl, h4⟩ := lis_cmp hf k (m + 1) row _ n _ v h2
        refine ⟨[1] ++ (q ++ rest), app_pre hc (app_pre hq h3), by rw [List.length_append, List.length_append, List.length_singleton]; omega, fun s r0 h0 => ?_⟩
        rw [List.range'_succ, List.foldl_cons, show listStep parts a s m = (besideG s.1 parts [1], s.2 ++ s.1.map fun r => tupR (r.1, r.2 ++ [0])) from if_neg hlt]
        have := h4 (besideG s.1 parts [1], s.2 ++ s.1.map fun r => tupR (r.1, r.2 ++ [0])) _ (mk_beside (ahead := [1]) h0 hm)
        rwa [List.append_assoc, List.append_assoc] at this
theorem one_snd : ∀ (gs : List Gn) (c : Nat), (∀ g ∈ gs, Snd (outG g) (rowsOf g)) → ∀ p ∈ rowsOne gs c, ∃ i q, i < gs.length ∧ p.2 = ((c + i : Nat) : Int) :: q ∧ ∀ row k, q <+: row.drop k → outPick gs i row k = .val p.1 (k + q.length)
  | [], c, _, p, hp => by rw [rowsOne] at hp; cases hp
  | g :: gs, c, hg, p, hp => by
    rw [rowsOne] at hp
    rcases List.mem_append.mp hp with h | h
    · obtain ⟨q, hq, rfl⟩ := List.mem_map.mp h
      exact ⟨0, q.2, by simp, rfl, fun row k h => by rw [outPick]; exact hg g List.mem_cons_self q hq row k h⟩
    · obtain ⟨i, q, hi, he, h2⟩ := one_snd gs (c + 1) (fun g' h' => hg g' (List.mem_cons_of_mem _ h')) p h
      exact ⟨i + 1, q, by rw [List.length_cons]; omega, by rw [he]; congr 2; omega, fun row k h => by rw [outPick]; exact h2 row k h⟩
theorem one_cmp : ∀ (gs : List Gn) (c i : Nat) (row : List Int) (k n : Nat) (v : PyData), (∀ g ∈ gs, Cmp (outG g) (rowsOf g)) → outPick gs i row k = .val v n → ∃ q, q <+: row.drop k ∧ n = k + q.length ∧ (v, ((c + i : Nat) : Int) :: q) ∈ rowsOne gs c
  | [], c, i, row, k, n, v, _, h => by rw [outPick] at h; cases h
  | g :: gs, c, 0, row, k, n, v, hg, h => by
    rw [outPick] at h
    obtain ⟨q, hq, hn, hm⟩ := hg g List.mem_cons_self row k v n h
    refine ⟨q, hq, hn, ?_⟩
    rw [rowsOne]
    exact List.mem_append.mpr (.inl (List.mem_map.mpr ⟨_, hm, rfl⟩))
  | g :: gs, c, i + 1, row, k, n, v, hg, h => by
    rw [outPick] at h
    obtain ⟨q, hq, hn, hm⟩ := one_cmp gs (c + 1) i row k n v (fun g' h' => hg g' (List.mem_cons_of_mem _ h')) h
    refine ⟨q, hq, hn, ?_⟩
    rw [rowsOne]
    have e : c + 1 + i = c + (i + 1) := by omega
    rw [e] at hm
    exact List.mem_append.mpr (.inr hm)
theorem mem_at {gs : List Gn} {ks : List Kd} {Pr : Gn → Prop} (hl : gs.length = ks.length) (h : ∀ (i : Nat) g k, gs[i]? = some g → ks[i]? = some k → Pr g) : ∀ g ∈ gs, Pr g := fun g hg => by
  obtain ⟨i, hi⟩ := List.mem_iff_getElem?.mp hg
  have hlt := (List.getElem?_eq_some_iff.mp hi).1
  exact h i g _ hi (List.getElem?_eq_getElem (by omega))
theorem rows_snd {g : Gn} {kd : Kd} (h : GenK g kd) : Snd (outG g) (rowsOf g) := by
  induction h with
  | @int lo hi h1 h2 h3 =>
    intro p hp row k h
    rw [rowsOf] at hp
    obtain ⟨c, hc, rfl⟩ := List.mem_map.mp hp
    have hc := List.mem_range.mp hc
    rw [outG, choice_val h (by omega) (by omega)]
    rfl
  | @pick ws h0 _ _ hw =>
    intro p hp row k h
    rw [rowsOf] at hp
    obtain ⟨w, hwm, rfl⟩ := List.mem_map.mp hp
    have hm := List.mem_zipIdx hwm
    have h : [(w.2 : Int)] <+: row.drop k := h
    rw [outG, choice_val h (by omega) (by omega)]
    have e : ws.getD (w.2 : Int).toNat "" = w.1 := by
      rw [Int.toNat_natCast, List.getD_eq_getElem?_getD, List.getElem?_eq_getElem (by omega)]
      simp [hm.2.2]
    rw [e]
    rfl
  | @tuple gs ks h4 hl _ ih =>
    intro p hp row k h
    rw [rowsOf] at hp
    obtain ⟨r, hr, rfl⟩ := List.mem_map.mp hp
    obtain ⟨r0, h0, rest, e, h2⟩ := tup_snd gs _ (mem_at hl ih) r hr
    cases List.mem_singleton.mp h0
    have e : r.2 = rest := by rw [e]; rfl
    have h : r.2 <+: row.drop k := h
    rw [outG]
    show _ = Out.val (.tuple r.1) (k + r.2.length)
    rw [e] at h ⊢
    exact h2 row k h
  | @list g k' a b hg h0 hab hb ih =>
    intro p hp row k h
    rw [rowsOf, listRows, List.range_eq_range'] at hp
    rcases lis_snd ih b.toNat 0 _ p hp with h' | ⟨r0, h0, rest, e, h2⟩
    · cases h'
    · cases List.mem_singleton.mp h0
      have e : p.2 = rest := by rw [e]; rfl
      rw [outG, e]
      rw [e] at h
      exact h2 row k h
  | @one gs k' h0 h4 _ ih =>
    intro p hp row k h
    rw [rowsOf] at hp
    obtain ⟨i, q, hi, e, h2⟩ := one_snd gs 0 ih p hp
    rw [Nat.zero_add] at e
    rw [e, ← List.singleton_append] at h
    obtain ⟨h3, h4⟩ := pre_app h
    have h4 : q <+: row.drop (k + 1) := h4
    rw [outG, choice_val h3 (by omega) (by omega), Int.toNat_natCast, h2 row _ h4, e, List.length_cons]
    congr 1
    show k + 1 + q.length = _
    omega
  | @kept g k' c _ _ ih =>
    intro p hp row k h
    rw [rowsOf] at hp
    obtain ⟨h1, h2⟩ := List.mem_filter.mp hp
    rw [outG, ih p h1 row k h, Out.step, if_pos h2]
  | @turned g k' k2 m _ _ ih =>
    intro p hp row k h
    rw [rowsOf] at hp
    obtain ⟨q, hq, rfl⟩ := List.mem_map.mp hp
    rw [outG, ih q hq row k h, Out.step]
  | @repeat_ g h' k' _ _ ih1 ih2 =>
    intro p hp row k h
    rw [rowsOf] at hp
    obtain ⟨q, hq, hp⟩ := List.mem_flatMap.mp hp
    unfold repeatRows at hp
    split at hp
    · rename_i m hm
      split at hp
      · rename_i hc
        obtain ⟨r, hr, rfl⟩ := List.mem_map.mp hp
        obtain ⟨r0, h0, rest, e, h2⟩ := times_snd ih2 m.toNat _ r hr
        cases List.mem_singleton.mp h0
        have h : r.2 <+: row.drop k := h
        rw [e] at h
        obtain ⟨h3, h4⟩ := pre_app h
        rw [outG, ih1 q hq row k h3, Out.step, hm]
        show (if decide (0 ≤ m) && decide (m ≤ 6) then outTimes (outG h' row) m.toNat (k + q.2.length) [] else _) = Out.val (.tuple r.1) (k + r.2.length)
        rw [if_pos hc, h2 row _ h4, e, List.length_append, Nat.add_assoc]
      · cases hp
    · cases hp
theorem rows_cmp {g : Gn} {kd : Kd} (h : GenK g kd) : Cmp (outG g) (rowsOf g) := by
  induction h with
  | @int lo hi h1 h2 h3 =>
    intro row k v n h
    rw [outG] at h
    obtain ⟨c, hc, h0, h1, h⟩ := choice_inv h
    cases h
    refine ⟨[c], hc, rfl, ?_⟩
    rw [rowsOf]
    exact List.mem_map.mpr ⟨c.toNat, List.mem_range.mpr (by omega), by rw [Int.toNat_of_nonneg h0]⟩
  | @pick ws h0 _ _ hw =>
    intro row k v n h
    rw [outG] at h
    obtain ⟨c, hc, h0, h1, h⟩ := choice_inv h
    cases h
    refine ⟨[c], hc, rfl, ?_⟩
    rw [rowsOf]
    have hl : c.toNat < ws.length := by omega
    refine List.mem_map.mpr ⟨(ws[c.toNat], c.toNat), ?_, ?_⟩
    · rw [List.mem_zipIdx_iff_getElem?]
      exact List.getElem?_eq_getElem hl
    · rw [Int.toNat_of_nonneg h0, List.getD_eq_getElem?_getD, List.getElem?_eq_getElem hl]
      rfl
  | @tuple gs ks h4 hl _ ih =>
    intro row k v n h
    rw [outG] at h
    obtain ⟨vs, rest, rfl, h1, h2, h3⟩ := tup_cmp gs row k n [] v (mem_at hl ih) h
    refine ⟨rest, h1, h2, ?_⟩
    rw [rowsOf]
    exact List.mem_map.mpr ⟨_, h3 [([], [])] [] (List.mem_singleton.mpr rfl), rfl⟩
  | @list g k' a b hg h0 hab hb ih =>
    intro row k v n h
    rw [outG] at h
    obtain ⟨rest, h1, h2, h3⟩ := lis_cmp ih b.toNat 0 row k n [] v h
    refine ⟨rest, h1, h2, ?_⟩
    rw [rowsOf, listRows, List.range_eq_range']
    exact h3 ([([], [])], []) [] (List.mem_singleton.mpr rfl)
  | @one gs k' h0 h4 _ ih =>
    intro row k v n h
    rw [outG] at h
    obtain ⟨c, hc, h0, h1, h⟩ := choice_inv h
    obtain ⟨q, h2, h3, h4⟩ := one_cmp gs 0 c.toNat row (k + 1) n v ih h
    refine ⟨[c] ++ q, app_pre hc h2, by rw [List.length_append, List.length_singleton]; omega, ?_⟩
    rw [rowsOf]
    rw [Nat.zero_add, Int.toNat_of_nonneg h0] at h4
    exact h4
  | @kept g k' c _ _ ih =>
    intro row k v n h
    rw [outG] at h
    obtain ⟨u, m, h1, h2⟩ := step_inv h
    split at h2
    · rename_i hc
      cases h2
      obtain ⟨r, h3, h4, h5⟩ := ih row k _ _ h1
      refine ⟨r, h3, h4, ?_⟩
      rw [rowsOf]
      exact List.mem_filter.mpr ⟨h5, hc⟩
    · cases h2
  | @turned g k' k2 m _ _ ih =>
    intro row k v n h
    rw [outG] at h
    obtain ⟨u, j, h1, h2⟩ := step_inv h
    cases h2
    obtain ⟨r, h3, h4, h5⟩ := ih row k _ _ h1
    refine ⟨r, h3, h4, ?_⟩
    rw [rowsOf]
    exact List.mem_map.mpr ⟨_, h5, rfl⟩
  | @repeat_ g h' k' _ _ ih1 ih2 =>
    intro row k v n h
    rw [outG] at h
    obtain ⟨u, j, h1, h2⟩ := step_inv h
    obtain ⟨q, h3, rfl, h5⟩ := ih1 row k u j h1
    unfold outRepeat at h2
    split at h2
    · rename_i m
      split at h2
      · rename_i hc
        obtain ⟨vs, rest, rfl, h6, rfl, h7⟩ := times_cmp ih2 m.toNat row _ n [] v h2
        refine ⟨q ++ rest, app_pre h3 h6, by rw [List.length_append]; omega, ?_⟩
        rw [rowsOf]
        refine List.mem_flatMap.mpr ⟨_, h5, ?_⟩
        unfold repeatRows
        show _ ∈ (if decide (0 ≤ m) && decide (m ≤ 6) then (timesR (rowsOf h') [] m.toNat [([], q)]).map tupR else [])
        rw [if_pos hc]
        exact List.mem_map.mpr ⟨_, h7 _ _ (List.mem_singleton.mpr rfl), rfl⟩
      · cases h2
    · cases h2
end Fb
namespace Fb
open PySem PySem.Spec PyProof.Rows L2 Evl CrT Cr
theorem exact_iff {g : Gn} {kd : Kd} (h : GenK g kd) (row : List Int) (v : PyData) : outG g row 0 = .val v row.length ↔ (v, row) ∈ rowsOf g := by
  constructor
  · intro e
    obtain ⟨r, h1, h2, h3⟩ := rows_cmp h row 0 v _ e
    have h1 : r <+: row := by simpa using h1
    have : r = row := h1.eq_of_length (by omega)
    rw [← this]
    exact h3
  · intro hm
    have := rows_snd h (v, row) hm row 0 (by simp)
    rw [this]
    simp
theorem rows_free {g : Gn} {kd : Kd} (h : GenK g kd) {v v' : PyData} {r r' : List Int} (h1 : (v, r) ∈ rowsOf g) (h2 : (v', r') ∈ rowsOf g) (hp : r <+: r') : v = v' ∧ r = r' := by
  have e1 := rows_snd h _ h1 r' 0 (by simpa using hp)
  have e2 := (exact_iff h r' v').mpr h2
  rw [e1] at e2
  injection e2 with e3 e4
  exact ⟨e3, hp.eq_of_length (by simpa using e4)⟩
def Inc (r s : List Int) : Prop := ¬ r <+: s ∧ ¬ s <+: r
theorem Inc.symm {r s : List Int} (h : Inc r s) : Inc s r := ⟨h.2, h.1⟩
theorem Inc.app {r s : List Int} (h : Inc r s) (t u : List Int) : Inc (r ++ t) (s ++ u) := by
  refine ⟨fun hp => ?_, fun hp => ?_⟩
  · have h1 : r <+: s ++ u := (List.prefix_append r t).trans hp
    rcases List.prefix_or_prefix_of_prefix h1 (List.prefix_append s u) with h2 | h2
    · exact h.1 h2
    · exact h.2 h2
  · have h1 : s <+: r ++ t := (List.prefix_append s u).trans hp
    rcases List.prefix_or_prefix_of_prefix h1 (List.prefix_append r t) with h2 | h2
    · exact h.2 h2
    · exact h.1 h2
end Fb
namespace Fb
open PySem PySem.Spec PyProof.Rows L2 Evl CrT Cr
abbrev WR := PyData × Rat × List Int
def lexle : List Int → List Int → Prop
  | [], _ => True
  | _ :: _, [] => False
  | a :: r, b :: s => a < b ∨ (a = b ∧ lexle r s)
def rk (r s : List Int) : Prop := r.length < s.length ∨ (r.length = s.length ∧ lexle r s)
theorem lexle_refl : ∀ r, lexle r r
  | [] => trivial
  | _ :: r => .inr ⟨rfl, lexle_refl r⟩
theorem lexle_trans : ∀ {r s t : List Int}, lexle r s → lexle s t → lexle r t
  | [], _, _, _, _ => trivial
  | _ :: _, [], _, h, _ => h.elim
  | _ :: _, _ :: _, [], _, h => h.elim
  | a :: r, b :: s, c :: t, h, g => by
    rcases h with h | ⟨rfl, h⟩
    · rcases g with g | ⟨rfl, g⟩
      · exact .inl (by omega)
      · exact .inl h
    · rcases g with g | ⟨rfl, g⟩
      · exact .inl g
      · exact .inr ⟨rfl, lexle_trans h g⟩
theorem lexle_total : ∀ (r s : List Int), r.length = s.length → lexle r s ∨ lexle s r
  | [], _, _ => .inl trivial
  | _ :: _, [], h => by simp at h
  | a :: r, b :: s, h => by
    rcases Int.lt_trichotomy a b with g | g | g
    · exact .inl (.inl g)
    · rcases lexle_total r s (by simpa using h) with k | k
      · exact .inl (.inr ⟨g, k⟩)
      · exact .inr (.inr ⟨g.symm, k⟩)
    · exact .inr (.inl g)
theorem lexle_app : ∀ {r r' s s' : List Int}, r.length = r'.length → lexle r r' → lexle s s' → lexle (r ++ s) (r' ++ s')
  | [], [], s, s', _, _, h => h
  | [], _ :: _, _, _, h, _, _ => by simp at h
  | _ :: _, [], _, _, h, _, _ => by simp at h
  | a :: r, b :: r', s, s', h, g, k => by
    rcases g with g | ⟨rfl, g⟩
    · exact .inl g
    · exact .inr ⟨rfl, lexle_app (by simpa using h) g k⟩
theorem rk_refl (r : List Int) : rk r r := .inr ⟨rfl, lexle_refl r⟩
theorem rk_trans {r s t : List Int} (h : rk r s) (g : rk s t) : rk r t := by
  rcases h with h | ⟨h1, h2⟩
  · rcases g with g | ⟨g1, _⟩
    · exact .inl (by omega)
    · exact .inl (by omega)
  · rcases g with g | ⟨g1, g2⟩
    · exact .inl (by omega)
    · exact .inr ⟨by omega, lexle_trans h2 g2⟩
theorem rk_total (r s : List Int) : rk r s ∨ rk s r := by
  rcases Nat.lt_trichotomy r.length s.length with h | h | h
  · exact .inl (.inl h)
  · rcases lexle_total r s h with g | g
    · exact .inl (.inr ⟨h, g⟩)
    · exact .inr (.inr ⟨h.symm, g⟩)
  · exact .inr (.inl h)
theorem rk_app {r r' s s' : List Int} (h : rk r r') (g : rk s s') : rk (r ++ s) (r' ++ s') := by
  unfold rk
  rw [List.length_append, List.length_append]
  rcases h with h | ⟨h1, h2⟩
  · rcases g with g | ⟨g, _⟩ <;> exact .inl (by omega)
  · rcases g with g | ⟨g1, g2⟩
    · exact .inl (by omega)
    · exact .inr ⟨by omega, lexle_app h1 h2 g2⟩
def sumF (φ : PyData → Rat) : List WR → Rat
  | [] => 0
  | x :: l => x.2.1 * φ x.1 + sumF φ l
theorem sumF_app (φ : PyData → Rat) : ∀ (l m : List WR), sumF φ (l ++ m) = sumF φ l + sumF φ m
  | [], m => by rw [List.nil_append, sumF, Rat.zero_add]
  | x :: l, m => by rw [List.cons_append, sumF, sumF_app φ l m, sumF, Rat.add_assoc]
structure Rep (R W : List WR) : Prop where
  sum : ∀ φ, sumF φ W = sumF φ R
  real : ∀ y ∈ W, ∃ x ∈ R, x.1 = y.1 ∧ x.2.2 = y.2.2
  low : ∀ x ∈ R, ∃ y ∈ W, y.1 = x.1 ∧ rk y.2.2 x.2.2
theorem Rep.refl (R : List WR) : Rep R R := ⟨fun _ => rfl, fun y h => ⟨y, h, rfl, rfl⟩, fun x h => ⟨x, h, rfl, rk_refl _⟩⟩
theorem Rep.trans {R W V : List WR} (h : Rep R W) (g : Rep W V) : Rep R V := ⟨fun φ => (g.sum φ).trans (h.sum φ), fun z hz => by
  obtain ⟨y, hy, e1, e2⟩ := g.real z hz
  obtain ⟨x, hx, e3, e4⟩ := h.real y hy
  exact ⟨x, hx, e3.trans e1, e4.trans e2⟩, fun x hx => by
  obtain ⟨y, hy, e1, e2⟩ := h.low x hx
  obtain ⟨z, hz, e3, e4⟩ := g.low y hy
  exact ⟨z, hz, e3.trans e1, rk_trans e4 e2⟩⟩
theorem Rep.app {R W R' W' : List WR} (h : Rep R W) (g : Rep R' W') : Rep (R ++ R') (W ++ W') := ⟨fun φ => by rw [sumF_app, sumF_app, h.sum, g.sum], fun y hy => by
  rcases List.mem_append.mp hy with hy | hy
  · obtain ⟨x, hx, e⟩ := h.real y hy
    exact ⟨x, List.mem_append.mpr (.inl hx), e⟩
  · obtain ⟨x, hx, e⟩ := g.real y hy
    exact ⟨x, List.mem_append.mpr (.inr hx), e⟩, fun x hx => by
  rcases List.mem_append.mp hx with hx | hx
  · obtain ⟨y, hy, e⟩ := h.low x hx
    exact ⟨y, List.mem_append.mpr (.inl hy), e⟩
  · obtain ⟨y, hy, e⟩ := g.low x hx
    exact ⟨y, List.mem_append.mpr (.inr hy), e⟩⟩
theorem sumF_filter (φ : PyData → Rat) (p : PyData → Bool) : ∀ l : List WR, sumF φ (l.filter fun x => p x.1) = sumF (fun v => if p v then φ v else 0) l
  | [] => rfl
  | x :: l => by
    rw [List.filter_cons, sumF]
    by_cases hp : p x.1 = true
    · rw [if_pos hp, sumF, sumF_filter φ p l, if_pos hp]
    · rw [if_neg hp, sumF_filter φ p l, if_neg hp, Rat.mul_zero, Rat.zero_add]
theorem Rep.filter {R W : List WR} (h : Rep R W) (p : PyData → Bool) : Rep (R.filter fun x => p x.1) (W.filter fun x => p x.1) := ⟨fun φ => by rw [sumF_filter, sumF_filter, h.sum], fun y hy => by
  obtain ⟨hy, hp⟩ := List.mem_filter.mp hy
  obtain ⟨x, hx, e1, e2⟩ := h.real y hy
  exact ⟨x, List.mem_filter.mpr ⟨hx, by rw [e1]; exact hp⟩, e1, e2⟩, fun x hx => by
  obtain ⟨hx, hp⟩ := List.mem_filter.mp hx
  obtain ⟨y, hy, e1, e2⟩ := h.low x hx
  exact ⟨y, List.mem_filter.mpr ⟨hy, by rw [e1]; exact hp⟩, e1, e2⟩⟩
theorem sumF_turn (φ : PyData → Rat) (t : PyData → PyData) : ∀ l : List WR, sumF φ (l.map fun x => (t x.1, x.2.1, x.2.2)) = sumF (fun v => φ (t v)) l
  | [] => rfl
  | x :: l => by
    rw [List.map_cons, sumF, sumF_turn φ t l, sumF]
theorem Rep.turn {R W : List WR} (h : Rep R W) (t : PyData → PyData) : Rep (R.map fun x => (t x.1, x.2.1, x.2.2)) (W.map fun x => (t x.1, x.2.1, x.2.2)) := ⟨fun φ => by rw [sumF_turn, sumF_turn, h.sum], fun y hy => by
  obtain ⟨z, hz, rfl⟩ := List.mem_map.mp hy
  obtain ⟨x, hx, e1, e2⟩ := h.real z hz
  exact ⟨_, List.mem_map.mpr ⟨x, hx, rfl⟩, by show t x.1 = t z.1; rw [e1], e2⟩, fun x hx => by
  obtain ⟨z, hz, rfl⟩ := List.mem_map.mp hx
  obtain ⟨y, hy, e1, e2⟩ := h.low z hz
  exact ⟨_, List.mem_map.mpr ⟨y, hy, rfl⟩, by show t y.1 = t z.1; rw [e1], e2⟩⟩
def cross (h : PyData → PyData → PyData) (l m : List WR) : List WR := l.flatMap fun a => m.map fun b => (h a.1 b.1, a.2.1 * b.2.1, a.2.2 ++ b.2.2)
theorem sumF_scale (φ : PyData → Rat) (h : PyData → PyData → PyData) (a : WR) : ∀ m : List WR, sumF φ (m.map fun b => (h a.1 b.1, a.2.1 * b.2.1, a.2.2 ++ b.2.2)) = a.2.1 * sumF (fun v => φ (h a.1 v)) m
  | [] => by rw [List.map_nil, sumF, sumF, Rat.mul_zero]
  | b :: m => by rw [List.map_cons, sumF, sumF_scale φ h a m, sumF, Rat.mul_add, Rat.mul_assoc]
theorem sumF_cross (φ : PyData → Rat) (h : PyData → PyData → PyData) (m : List WR) : ∀ l : List WR, sumF φ (cross h l m) = (l.map fun a => a.2.1 * sumF (fun v => φ (h a.1 v)) m).sum
  | [] => rfl
  | a :: l => by
    have ih := sumF_cross φ h m l
    unfold cross at ih ⊢
    rw [List.flatMap_cons, sumF_app, sumF_scale, ih, List.map_cons, List.sum_cons]
theorem sumF_swap (φ : PyData → Rat) (h : PyData → PyData → PyData) (m : List WR) : ∀ l : List WR, (l.map fun a => a.2.1 * sumF (fun v => φ (h a.1 v)) m).sum = (m.map fun b => b.2.1 * sumF (fun u => φ (h u b.1)) l).sum
  | [] => by
    induction m with
    | nil => rfl
    | cons b m ih =>
      rw [List.map_cons, List.sum_cons, ← ih, sumF, Rat.mul_zero, Rat.zero_add]
      rfl
  | a :: l => by
    rw [List.map_cons, List.sum_cons, sumF_swap φ h m l]
    induction m with
    | nil => simp [sumF, Rat.mul_zero]; exact Rat.zero_add 0
    | cons b m ih =>
      rw [List.map_cons, List.sum_cons, List.map_cons, List.sum_cons, ← ih, sumF, sumF, Rat.mul_add, Rat.mul_add, ← Rat.mul_assoc, ← Rat.mul_assoc, Rat.mul_comm b.2.1 a.2.1]
      simp only [Rat.add_assoc, Rat.add_comm, Rat.add_left_comm]
theorem Rep.cross {R W R' W' : List WR} (r : Rep R W) (r' : Rep R' W') (h : PyData → PyData → PyData) : Rep (cross h R R') (cross h W W') := ⟨fun φ => by
  rw [sumF_cross, sumF_cross]
  have e1 : (W.map fun a => a.2.1 * sumF (fun v => φ (h a.1 v)) W') = W.map fun a => a.2.1 * sumF (fun v => φ (h a.1 v)) R' := List.map_congr_left fun a _ => by rw [r'.sum]
  rw [e1, sumF_swap, sumF_swap φ h R' R]
  congr 1
  exact List.map_congr_left fun b _ => by rw [r.sum], fun y hy => by
  obtain ⟨a, ha, hy⟩ := List.mem_flatMap.mp hy
  obtain ⟨b, hb, rfl⟩ := List.mem_map.mp hy
  obtain ⟨a', ha', e1, e2⟩ := r.real a ha
  obtain ⟨b', hb', e3, e4⟩ := r'.real b hb
  exact ⟨_, List.mem_flatMap.mpr ⟨a', ha', List.mem_map.mpr ⟨b', hb', rfl⟩⟩, by show h a'.1 b'.1 = h a.1 b.1; rw [e1, e3], by show a'.2.2 ++ b'.2.2 = a.2.2 ++ b.2.2; rw [e2, e4]⟩, fun x hx => by
  obtain ⟨a, ha, hx⟩ := List.mem_flatMap.mp hx
  obtain ⟨b, hb, rfl⟩ := List.mem_map.mp hx
  obtain ⟨a', ha', e1, e2⟩ := r.low a ha
  obtain ⟨b', hb', e3, e4⟩ := r'.low b hb
  exact ⟨_, List.mem_flatMap.mpr ⟨a', ha', List.mem_map.mpr ⟨b', hb', rfl⟩⟩, by show h a'.1 b'.1 = h a.1 b.1; rw [e1, e3], rk_app e2 e4⟩⟩
end Fb
namespace Fb
open PySem PySem.Spec PyProof.Rows L2 Evl CrT Cr
open Classical in
noncomputable def lesR (r s : List Int) : List Int := if rk r s then r else s
theorem lesR_l (r s : List Int) : rk (lesR r s) r := by
  unfold lesR
  split
  · exact rk_refl _
  · rename_i h
    exact (rk_total r s).resolve_left h
theorem lesR_r (r s : List Int) : rk (lesR r s) s := by
  unfold lesR
  split
  · assumption
  · exact rk_refl _
theorem lesR_or (r s : List Int) : lesR r s = r ∨ lesR r s = s := by
  unfold lesR
  split
  · exact .inl rfl
  · exact .inr rfl
open Classical in
noncomputable def putT : List WR → WR → List WR
  | [], x => [x]
  | y :: T, x => if y.1 = x.1 then (y.1, y.2.1 + x.2.1, lesR y.2.2 x.2.2) :: T else y :: putT T x
theorem put_sum (φ : PyData → Rat) (x : WR) : ∀ T : List WR, sumF φ (putT T x) = sumF φ T + sumF φ [x]
  | [] => by rw [putT, sumF, sumF, sumF, Rat.zero_add]
  | y :: T => by
    rw [putT]
    split
    · rename_i h
      rw [sumF, sumF, sumF, sumF, Rat.add_zero, ← h, Rat.add_mul]
      simp only [Rat.add_assoc, Rat.add_comm, Rat.add_left_comm]
    · rw [sumF, put_sum φ x T, ← Rat.add_assoc]
      rfl
theorem put_vals (x : WR) : ∀ (T : List WR) (v : PyData), v ∈ (putT T x).map (·.1) → v ∈ T.map (·.1) ∨ v = x.1
  | [], v, h => by
    rw [putT] at h
    simp at h
    exact .inr h
  | y :: T, v, h => by
    rw [putT] at h
    split at h
    · exact .inl h
    · rcases List.mem_cons.mp h with h | h
      · exact .inl (List.mem_cons.mpr (.inl h))
      · rcases put_vals x T v h with h | h
        · exact .inl (List.mem_cons_of_mem _ h)
        · exact .inr h
theorem put_nodup (x : WR) : ∀ T : List WR, (T.map (·.1)).Nodup → ((putT T x).map (·.1)).Nodup
  | [], _ => by simp [putT]
  | y :: T, h => by
    rw [putT]
    rw [List.map_cons, List.nodup_cons] at h
    split
    · rw [List.map_cons, List.nodup_cons]
      exact h
    · rename_i hne
      rw [List.map_cons, List.nodup_cons]
      refine ⟨fun hm => ?_, put_nodup x T h.2⟩
      rcases put_vals x T _ hm with hm | hm
      · exact h.1 hm
      · exact hne hm
theorem put_real (x : WR) : ∀ (T : List WR), ∀ y ∈ putT T x, ∃ z ∈ T ++ [x], z.1 = y.1 ∧ z.2.2 = y.2.2
  | [], y, h => ⟨y, by simpa [putT] using h, rfl, rfl⟩
  | z :: T, y, h => by
    rw [putT] at h
    split at h
    · rename_i he
      rcases List.mem_cons.mp h with rfl | h
      · rcases lesR_or z.2.2 x.2.2 with e | e
        · exact ⟨z, by simp, rfl, e.symm⟩
        · exact ⟨x, by simp, he.symm, e.symm⟩
      · exact ⟨y, by simp [h], rfl, rfl⟩
    · rcases List.mem_cons.mp h with rfl | h
      · exact ⟨y, by simp, rfl, rfl⟩
      · obtain ⟨u, hu, e⟩ := put_real x T y h
        exact ⟨u, List.mem_cons_of_mem _ hu, e⟩
theorem put_low (x : WR) : ∀ (T : List WR), ∀ z ∈ T ++ [x], ∃ y ∈ putT T x, y.1 = z.1 ∧ rk y.2.2 z.2.2
  | [], z, h => ⟨z, by simpa [putT] using h, rfl, rk_refl _⟩
  | w :: T, z, h => by
    rw [putT]
    split
    · rename_i he
      rcases List.mem_cons.mp h with rfl | h
      · exact ⟨_, List.mem_cons_self, rfl, lesR_l _ _⟩
      · rcases List.mem_append.mp h with h | h
        · exact ⟨z, List.mem_cons_of_mem _ h, rfl, rk_refl _⟩
        · cases List.mem_singleton.mp h
          exact ⟨_, List.mem_cons_self, he, lesR_r _ _⟩
    · rcases List.mem_cons.mp h with rfl | h
      · exact ⟨z, List.mem_cons_self, rfl, rk_refl _⟩
      · obtain ⟨y, hy, e⟩ := put_low x T z h
        exact ⟨y, List.mem_cons_of_mem _ hy, e⟩
theorem rep_put (T : List WR) (x : WR) : Rep (T ++ [x]) (putT T x) := ⟨fun φ => by rw [put_sum, sumF_app], put_real x T, put_low x T⟩
noncomputable def togeT (W : List WR) : List WR := W.foldl putT []
theorem toge_rep : ∀ (W T R : List WR), Rep R T → Rep (R ++ W) (W.foldl putT T)
  | [], T, R, h => by rw [List.append_nil]; exact h
  | x :: W, T, R, h => by
    have e := toge_rep W (putT T x) (R ++ [x]) ((h.app (Rep.refl [x])).trans (rep_put T x))
    rwa [List.append_assoc] at e
theorem rep_toge (W : List WR) : Rep W (togeT W) := toge_rep W [] [] (Rep.refl [])
theorem toge_nodup : ∀ (W T : List WR), (T.map (·.1)).Nodup → ((W.foldl putT T).map (·.1)).Nodup
  | [], _, h => h
  | x :: W, T, h => toge_nodup W _ (put_nodup x T h)
theorem nodup_toge (W : List WR) : ((togeT W).map (·.1)).Nodup := toge_nodup W [] List.nodup_nil
theorem sumF_perm (φ : PyData → Rat) {l m : List WR} (h : l.Perm m) : sumF φ l = sumF φ m := by
  induction h with
  | nil => rfl
  | cons x _ ih => rw [sumF, sumF, ih]
  | swap x y l =>
    rw [sumF, sumF, sumF, sumF]
    simp only [Rat.add_assoc, Rat.add_comm, Rat.add_left_comm]
  | trans _ _ ih1 ih2 => exact ih1.trans ih2
theorem Rep.perm {R W V : List WR} (h : Rep R W) (p : W.Perm V) : Rep R V := ⟨fun φ => (sumF_perm φ p).symm.trans (h.sum φ), fun y hy => h.real y (p.mem_iff.mpr hy), fun x hx => by
  obtain ⟨y, hy, e⟩ := h.low x hx
  exact ⟨y, p.mem_iff.mp hy, e⟩⟩
def Asc (T : List WR) : Prop := T.Pairwise fun a b => rk a.2.2 b.2.2 ∧ a.2.2 ≠ b.2.2
end Fb
namespace Fb
open PySem PySem.Spec PyProof.Rows L2 Evl CrT Cr
def snocV (u v : PyData) : PyData := match u with
  | .tuple vs => .tuple (vs ++ [v])
  | u => u
def seqW (tables : List (List WR)) : List WR := tables.foldl (cross snocV) [(.tuple [], 1, [])]
def behW (c : Int) (w : Rat) (x : WR) : WR := (x.1, w * x.2.1, c :: x.2.2)
def endW (w : Rat) (x : WR) : WR := (x.1, x.2.1 * w, x.2.2 ++ [0])
def oneW (w : Rat) : Nat → List (List WR) → List WR
  | _, [] => []
  | c, t :: ts => t.map (behW c w) ++ oneW w (c + 1) ts
def sizW (w : Rat) (rows : List WR) (a b m : Nat) : List WR :=
  let s := seqW (List.replicate a rows ++ List.replicate (m - a) (rows.map (behW 1 w)))
  if m < b then s.map (endW w) else s
def lisW (w : Rat) (rows : List WR) (a b : Nat) : List WR := (List.range' a (b + 1 - a)).flatMap (sizW w rows a b)
def repW (others : List WR) (x : WR) : List WR := match x.1 with
  | .int m => if decide (0 ≤ m) && decide (m ≤ 6) then (seqW (List.replicate m.toNat others)).map fun y => (y.1, x.2.1 * y.2.1, x.2.2 ++ y.2.2) else []
  | _ => []
def waysG (wf : Int → Rat) : Gn → List (List WR) → List WR
  | .int lo hi, _ => (List.range (hi - lo + 1).toNat).map fun (c : Nat) => (PyData.int (lo + (c : Int)), wf (hi - lo), [(c : Int)])
  | .pick ws, _ => ws.zipIdx.map fun (w : Str × Nat) => (PyData.str w.1, wf ((ws.length : Int) - 1), [(w.2 : Int)])
  | .tuple _, ts => seqW ts
  | .list _ a b, ts => lisW (wf 1) (ts.headD []) a.toNat b.toNat
  | .one gs, ts => oneW (wf ((gs.length : Int) - 1)) 0 ts
  | .kept _ c, ts => (ts.headD []).filter fun x => holdsC c x.1
  | .turned _ m, ts => (ts.headD []).map fun x => (turnD m x.1, x.2.1, x.2.2)
  | .repeat_ _ _, ts => (ts.headD []).flatMap (repW ((ts.drop 1).headD []))
inductive Reps : List (List WR) → List (List WR) → Prop
  | nil : Reps [] []
  | cons {R W : List WR} {Rs Ws : List (List WR)} : Rep R W → Reps Rs Ws → Reps (R :: Rs) (W :: Ws)
theorem Reps.fold (h : PyData → PyData → PyData) : ∀ {Rs Ws : List (List WR)} {A B : List WR}, Rep A B → Reps Rs Ws → Rep (Rs.foldl (cross h) A) (Ws.foldl (cross h) B)
  | [], [], A, B, e, _ => e
  | R :: Rs, W :: Ws, A, B, e, .cons r rs => show Rep (Rs.foldl (cross h) (cross h A R)) (Ws.foldl (cross h) (cross h B W)) from Reps.fold h (e.cross r h) rs
theorem Reps.seq {Rs Ws : List (List WR)} (h : Reps Rs Ws) : Rep (seqW Rs) (seqW Ws) := Reps.fold _ (Rep.refl _) h
theorem Reps.rep {R W : List WR} (h : Rep R W) : ∀ n, Reps (List.replicate n R) (List.replicate n W)
  | 0 => .nil
  | n + 1 => .cons h (Reps.rep h n)
theorem Reps.app {Rs Ws Rs' Ws' : List (List WR)} (h : Reps Rs Ws) (g : Reps Rs' Ws') : Reps (Rs ++ Rs') (Ws ++ Ws') := by
  induction h with
  | nil => exact g
  | cons r _ ih => exact .cons r ih
theorem Reps.head {Rs Ws : List (List WR)} (h : Reps Rs Ws) : Rep (Rs.headD []) (Ws.headD []) := by
  cases h with
  | nil => exact Rep.refl _
  | cons r _ => exact r
theorem Reps.drop1 {Rs Ws : List (List WR)} (h : Reps Rs Ws) : Reps (Rs.drop 1) (Ws.drop 1) := by
  cases h with
  | nil => exact .nil
  | cons _ r => exact r
theorem map_as_cross (c : Int) (w : Rat) (R : List WR) : R.map (behW c w) = cross (fun _ v => v) [(PyData.none, w, [c])] R := by
  unfold cross
  rw [List.flatMap_cons, List.flatMap_nil, List.append_nil]
  rfl
theorem end_as_cross (w : Rat) : ∀ R : List WR, R.map (endW w) = cross (fun u _ => u) R [(PyData.none, w, [0])]
  | [] => rfl
  | x :: R => by
    have ih := end_as_cross w R
    unfold cross at ih ⊢
    rw [List.flatMap_cons, List.map_cons, ih]
    rfl
theorem Rep.beh {R W : List WR} (h : Rep R W) (c : Int) (w : Rat) : Rep (R.map (behW c w)) (W.map (behW c w)) := by
  rw [map_as_cross, map_as_cross]
  exact (Rep.refl _).cross h _
theorem Rep.fin {R W : List WR} (h : Rep R W) (w : Rat) : Rep (R.map (endW w)) (W.map (endW w)) := by
  rw [end_as_cross, end_as_cross]
  exact h.cross (Rep.refl _) _
theorem Rep.ones (w : Rat) : ∀ (c : Nat) {Rs Ws : List (List WR)}, Reps Rs Ws → Rep (oneW w c Rs) (oneW w c Ws)
  | _, [], [], _ => Rep.refl _
  | c, R :: Rs, W :: Ws, .cons r rs => (r.beh c w).app (Rep.ones w (c + 1) rs)
theorem Rep.flat {α : Type} {F G : α → List WR} : ∀ (l : List α), (∀ a ∈ l, Rep (F a) (G a)) → Rep (l.flatMap F) (l.flatMap G)
  | [], _ => Rep.refl _
  | a :: l, h => by
    rw [List.flatMap_cons, List.flatMap_cons]
    exact (h a List.mem_cons_self).app (Rep.flat l fun b hb => h b (List.mem_cons_of_mem _ hb))
theorem Rep.lis {R W : List WR} (h : Rep R W) (w : Rat) (a b : Nat) : Rep (lisW w R a b) (lisW w W a b) := Rep.flat _ fun m _ => by
  have s : Rep (seqW (List.replicate a R ++ List.replicate (m - a) (R.map (behW 1 w)))) (seqW (List.replicate a W ++ List.replicate (m - a) (W.map (behW 1 w)))) := ((Reps.rep h a).app (Reps.rep (h.beh 1 w) (m - a))).seq
  unfold sizW
  show Rep (if m < b then _ else _) (if m < b then _ else _)
  split
  · exact s.fin w
  · exact s
def bindW (F : PyData → List WR) (l : List WR) : List WR := l.flatMap fun x => (F x.1).map fun y => (y.1, x.2.1 * y.2.1, x.2.2 ++ y.2.2)
theorem sumF_bind (φ : PyData → Rat) (F : PyData → List WR) : ∀ l : List WR, sumF φ (bindW F l) = sumF (fun v => sumF φ (F v)) l
  | [] => rfl
  | x :: l => by
    have ih := sumF_bind φ F l
    unfold bindW at ih ⊢
    rw [List.flatMap_cons, sumF_app, ih, sumF]
    congr 1
    exact sumF_scale φ (fun _ v => v) x (F x.1)
theorem Rep.bind {R W : List WR} (h : Rep R W) (F : PyData → List WR) : Rep (bindW F R) (bindW F W) := ⟨fun φ => by rw [sumF_bind, sumF_bind, h.sum], fun y hy => by
  obtain ⟨a, ha, hy⟩ := List.mem_flatMap.mp hy
  obtain ⟨b, hb, rfl⟩ := List.mem_map.mp hy
  obtain ⟨a', ha', e1, e2⟩ := h.real a ha
  exact ⟨_, List.mem_flatMap.mpr ⟨a', ha', List.mem_map.mpr ⟨b, by rw [e1]; exact hb, rfl⟩⟩, rfl, by show a'.2.2 ++ b.2.2 = a.2.2 ++ b.2.2; rw [e2]⟩, fun x hx => by
  obtain ⟨a, ha, hx⟩ := List.mem_flatMap.mp hx
  obtain ⟨b, hb, rfl⟩ := List.mem_map.mp hx
  obtain ⟨a', ha', e1, e2⟩ := h.low a ha
  exact ⟨_, List.mem_flatMap.mpr ⟨a', ha', List.mem_map.mpr ⟨b, by rw [e1]; exact hb, rfl⟩⟩, rfl, rk_app e2 (rk_refl _)⟩⟩
def timW (others : List WR) (v : PyData) : List WR := match v with
  | .int m => if decide (0 ≤ m) && decide (m ≤ 6) then seqW (List.replicate m.toNat others) else []
  | _ => []
theorem rep_as_bind (others l : List WR) : l.flatMap (repW others) = bindW (timW others) l := by
  unfold bindW
  congr 1
  funext x
  unfold repW timW
  split
  · split <;> rfl
  · rfl
theorem tim_rep {R W : List WR} (h : Rep R W) (v : PyData) : Rep (timW R v) (timW W v) := by
  unfold timW
  split
  · split
    · exact (Reps.rep h _).seq
    · exact Rep.refl _
  · exact Rep.refl _
theorem Rep.repeats {R W R' W' : List WR} (h : Rep R W) (h' : Rep R' W') : Rep (R.flatMap (repW R')) (W.flatMap (repW W')) := by
  rw [rep_as_bind, rep_as_bind]
  refine Rep.trans ?_ (h.bind (timW W'))
  unfold bindW
  exact Rep.flat R fun x _ => by
    have := (Rep.refl [(PyData.none, x.2.1, x.2.2)]).cross (tim_rep h' x.1) (fun _ v => v)
    unfold Fb.cross at this
    rw [List.flatMap_cons, List.flatMap_nil, List.append_nil, List.flatMap_cons, List.flatMap_nil, List.append_nil] at this
    exact this
theorem ways_rep (wf : Int → Rat) (g : Gn) {Rs Ws : List (List WR)} (h : Reps Rs Ws) : Rep (waysG wf g Rs) (waysG wf g Ws) := by
  cases g with
  | int => exact Rep.refl _
  | pick => exact Rep.refl _
  | tuple gs => exact h.seq
  | list g a b => exact Rep.lis h.head _ _ _
  | one gs => exact Rep.ones _ 0 h
  | kept g c => exact h.head.filter fun v => holdsC c v
  | turned g m => exact h.head.turn _
  | repeat_ g g' => exact Rep.repeats h.head h.drop1.head
end Fb
namespace Fb
open PySem PySem.Spec PyProof.Rows L2 Evl CrT Cr
mutual
def exW (wf : Int → Rat) : Gn → List WR
  | .int lo hi => waysG wf (.int lo hi) []
  | .pick ws => waysG wf (.pick ws) []
  | .tuple gs => waysG wf (.tuple gs) (exAll wf gs)
  | .list g a b => waysG wf (.list g a b) [exW wf g]
  | .one gs => waysG wf (.one gs) (exAll wf gs)
  | .kept g c => waysG wf (.kept g c) [exW wf g]
  | .turned g m => waysG wf (.turned g m) [exW wf g]
  | .repeat_ g h => waysG wf (.repeat_ g h) [exW wf g, exW wf h]
def exAll (wf : Int → Rat) : List Gn → List (List WR)
  | [] => []
  | g :: gs => exW wf g :: exAll wf gs
end
structure IsTab (R T : List WR) : Prop where
  rep : Rep R T
  nodup : (T.map (·.1)).Nodup
  asc : Asc T
theorem exAll_parts (wf : Int → Rat) : ∀ gs : List Gn, exAll wf gs = gs.map (exW wf)
  | [] => by rw [exAll]; rfl
  | g :: gs => by rw [exAll, exAll_parts wf gs]; rfl
theorem exW_ways (wf : Int → Rat) (g : Gn) : exW wf g = waysG wf g ((partsG g).map (exW wf)) := by
  cases g <;> rw [exW] <;> first | rfl | (rw [exAll_parts]; rfl)
theorem tab_step (wf : Int → Rat) (g : Gn) {Ts : List (List WR)} {T : List WR} (h : Reps ((partsG g).map (exW wf)) Ts) (t : IsTab (waysG wf g Ts) T) : IsTab (exW wf g) T := ⟨by
  rw [exW_ways]
  exact (ways_rep wf g h).trans t.rep, t.nodup, t.asc⟩
def prW (x : WR) : VR := (x.1, x.2.2)
theorem cross_pr {A t : List WR} {acc : List TR} {parts : List VR} (ahead : List Int) (hA : A.map prW = acc.map tupR) (ht : t.map prW = parts.map fun p => (p.1, ahead ++ p.2)) : (cross snocV A t).map prW = (besideG acc parts ahead).map tupR := by
  have e1 : (cross snocV A t).map prW = (A.map prW).flatMap fun q => (t.map prW).map fun p => (snocV q.1 p.1, q.2 ++ p.2) := by
    unfold cross
    rw [List.map_flatMap, List.flatMap_map]
    congr 1
    funext a
    rw [List.map_map, List.map_map]
    rfl
  have e2 : (besideG acc parts ahead).map tupR = (acc.map tupR).flatMap fun q => (parts.map fun p => (p.1, ahead ++ p.2)).map fun p => (snocV q.1 p.1, q.2 ++ p.2) := by
    unfold besideG
    rw [List.map_flatMap, List.flatMap_map]
    congr 1
    funext r
    rw [List.map_map, List.map_map]
    congr 1
    funext p
    show (PyData.tuple (r.1 ++ [p.1]), r.2 ++ ahead ++ p.2) = (snocV (.tuple r.1) p.1, r.2 ++ (ahead ++ p.2))
    rw [List.append_assoc]
    rfl
  rw [e1, e2, hA, ht]
theorem cross_pr0 {A t : List WR} {acc : List TR} {parts : List VR} (hA : A.map prW = acc.map tupR) (ht : t.map prW = parts) : (cross snocV A t).map prW = (besideG acc parts []).map tupR := cross_pr [] hA (by rw [ht]; exact (List.map_id' _).symm)
theorem seq_pr (wf : Int → Rat) : ∀ (gs : List Gn) (A : List WR) (acc : List TR), (∀ g ∈ gs, (exW wf g).map prW = rowsOf g) → A.map prW = acc.map tupR → ((gs.map (exW wf)).foldl (cross snocV) A).map prW = (rowsTup gs acc).map tupR
  | [], A, acc, _, h => by rw [rowsTup]; exact h
  | g :: gs, A, acc, hg, h => by
    rw [rowsTup]
    exact seq_pr wf gs _ _ (fun g' h' => hg g' (List.mem_cons_of_mem _ h')) (cross_pr0 h (hg g List.mem_cons_self))
theorem times_pr {t : List WR} {parts : List VR} (ht : t.map prW = parts) : ∀ (n : Nat) (A : List WR) (acc : List TR), A.map prW = acc.map tupR → ((List.replicate n t).foldl (cross snocV) A).map prW = (timesR parts [] n acc).map tupR
  | 0, A, acc, h => h
  | n + 1, A, acc, h => by
    rw [timesR]
    exact times_pr ht n _ _ (cross_pr0 h ht)
theorem one_pr (wf : Int → Rat) (w : Rat) : ∀ (gs : List Gn) (c : Nat), (∀ g ∈ gs, (exW wf g).map prW = rowsOf g) → (oneW w c (gs.map (exW wf))).map prW = rowsOne gs c
  | [], c, _ => by rw [rowsOne]; rfl
  | g :: gs, c, hg => by
    rw [rowsOne, ← hg g List.mem_cons_self, ← one_pr wf w gs (c + 1) fun g' h' => hg g' (List.mem_cons_of_mem _ h')]
    rw [List.map_cons, oneW, List.map_append, List.map_map, List.map_map]
    rfl
theorem beh_pr {t : List WR} {parts : List VR} (w : Rat) (ht : t.map prW = parts) : (t.map (behW 1 w)).map prW = parts.map fun p => (p.1, [1] ++ p.2) := by
  rw [← ht, List.map_map, List.map_map]
  rfl
def seqL (w : Rat) (t : List WR) (a m : Nat) : List WR := seqW (List.replicate (min m a) t ++ List.replicate (m - a) (t.map (behW 1 w)))
theorem seqL_succ (w : Rat) (t : List WR) (a m : Nat) : seqL w t a (m + 1) = cross snocV (seqL w t a m) (if m < a then t else t.map (behW 1 w)) := by
  unfold seqL seqW
  by_cases h : m < a
  · rw [if_pos h, show min (m + 1) a = min m a + 1 by omega, show m + 1 - a = 0 by omega, show m - a = 0 by omega, List.replicate_zero, List.append_nil, List.append_nil, List.replicate_succ', List.foldl_append]
    rfl
  · rw [if_neg h, show min (m + 1) a = min m a by omega, show m + 1 - a = (m - a) + 1 by omega, List.replicate_succ', ← List.append_assoc, List.foldl_append]
    rfl
theorem lis_pr {t : List WR} {parts : List VR} (w : Rat) (ht : t.map prW = parts) {a : Int} (h0 : 0 ≤ a) : ∀ m : Nat, (seqL w t a.toNat m).map prW = ((List.range m).foldl (listStep parts a) ([([], [])], [])).1.map tupR ∧ ((List.range' a.toNat (m - a.toNat)).flatMap fun j => (seqL w t a.toNat j).map (endW w)).map prW = ((List.range m).foldl (listStep parts a) ([([], [])], [])).2
  | 0 => ⟨by simp [seqL, seqW, prW, tupR], by simp⟩
  | m + 1 => by
    obtain ⟨h1, h2⟩ := lis_pr w ht h0 m
    rw [List.range_succ, List.foldl_append, List.foldl_cons, List.foldl_nil]
    generalize (List.range m).foldl (listStep parts a) ([([], [])], []) = s at h1 h2 ⊢
    rw [seqL_succ]
    by_cases h : (m : Int) < a
    · rw [show listStep parts a s m = (besideG s.1 parts [], s.2) from if_pos h, if_pos (by omega)]
      refine ⟨cross_pr0 h1 ht, ?_⟩
      rw [← h2, show m + 1 - a.toNat = 0 by omega, show m - a.toNat = 0 by omega]
    · rw [show listStep parts a s m = (besideG s.1 parts [1], s.2 ++ s.1.map fun r => tupR (r.1, r.2 ++ [0])) from if_neg h, if_neg (by omega)]
      refine ⟨cross_pr [1] h1 (beh_pr w ht), ?_⟩
      rw [show m + 1 - a.toNat = (m - a.toNat) + 1 by omega, List.range'_concat, List.flatMap_append, List.map_append, h2]
      congr 1
      rw [List.flatMap_cons, List.flatMap_nil, List.append_nil, show a.toNat + 1 * (m - a.toNat) = m by omega]
      have e : ((seqL w t a.toNat m).map (endW w)).map prW = ((seqL w t a.toNat m).map prW).map fun q => (q.1, q.2 ++ [0]) := by
        rw [List.map_map, List.map_map]
        rfl
      rw [e, h1, List.map_map]
      rfl
theorem flat_congr {α β : Type} {f g : α → List β} : ∀ (l : List α), (∀ a ∈ l, f a = g a) → l.flatMap f = l.flatMap g
  | [], _ => rfl
  | a :: l, h => by rw [List.flatMap_cons, List.flatMap_cons, h a List.mem_cons_self, flat_congr l fun b hb => h b (List.mem_cons_of_mem _ hb)]
theorem list_pr {t : List WR} {parts : List VR} (w : Rat) (ht : t.map prW = parts) {a b : Int} (h0 : 0 ≤ a) (hab : a ≤ b) : (lisW w t a.toNat b.toNat).map prW = listRows parts a b := by
  obtain ⟨h1, h2⟩ := lis_pr w ht h0 b.toNat
  unfold listRows lisW
  rw [← h1, ← h2, show b.toNat + 1 - a.toNat = (b.toNat - a.toNat) + 1 by omega, List.range'_concat, List.flatMap_append, List.map_append]
  congr 1
  · congr 1
    refine flat_congr _ fun j hj => ?_
    have hj := List.mem_range'.mp hj
    obtain ⟨i, hi, rfl⟩ := hj
    unfold sizW seqL
    rw [if_pos (by omega), show min (a.toNat + 1 * i) a.toNat = a.toNat by omega]
  · rw [List.flatMap_cons, List.flatMap_nil, List.append_nil, show a.toNat + 1 * (b.toNat - a.toNat) = b.toNat by omega]
    unfold sizW seqL
    rw [if_neg (by omega), show min b.toNat a.toNat = a.toNat by omega]
theorem tim_pr {t : List WR} {parts : List VR} (ht : t.map prW = parts) (x : WR) : (repW t x).map prW = repeatRows parts (prW x) := by
  unfold repW repeatRows
  show List.map prW (match x.1 with
    | .int m => _
    | _ => _) = match x.1 with
    | .int m => _
    | _ => _
  split
  · rename_i m hm
    show _ = if decide (0 ≤ m) && decide (m ≤ 6) then (timesR parts [] m.toNat [([], x.2.2)]).map tupR else []
    split
    · have e := times_pr ht m.toNat [(PyData.tuple [], x.2.1, x.2.2)] [([], x.2.2)] rfl
      rw [← e, List.map_map]
      have key : ∀ (n : Nat) (A : List WR), (List.replicate n t).foldl (cross snocV) (A.map fun y => (y.1, x.2.1 * y.2.1, x.2.2 ++ y.2.2)) = ((List.replicate n t).foldl (cross snocV) A).map fun y => (y.1, x.2.1 * y.2.1, x.2.2 ++ y.2.2) := by
        intro n
        induction n with
        | zero => intro A; rfl
        | succ n ih =>
          intro A
          rw [List.replicate_succ, List.foldl_cons, List.foldl_cons, ← ih]
          congr 1
          unfold cross
          rw [List.map_flatMap, List.flatMap_map]
          congr 1
          funext a
          rw [List.map_map]
          congr 1
          funext b
          show (snocV a.1 b.1, x.2.1 * a.2.1 * b.2.1, x.2.2 ++ a.2.2 ++ b.2.2) = (snocV a.1 b.1, x.2.1 * (a.2.1 * b.2.1), x.2.2 ++ (a.2.2 ++ b.2.2))
          rw [Rat.mul_assoc, List.append_assoc]
      have k2 := key m.toNat [(PyData.tuple [], 1, [])]
      rw [List.map_cons, List.map_nil, Rat.mul_one, List.append_nil] at k2
      rw [k2, List.map_map]
      rfl
    · rfl
  · rfl
theorem ex_pr (wf : Int → Rat) {g : Gn} {kd : Kd} (h : GenK g kd) : (exW wf g).map prW = rowsOf g := by
  induction h with
  | int =>
    rw [exW, waysG, rowsOf, List.map_map]
    rfl
  | pick =>
    rw [exW, waysG, rowsOf, List.map_map]
    rfl
  | @tuple gs ks h4 hl _ ih =>
    rw [exW, waysG, rowsOf, exAll_parts]
    exact seq_pr wf gs _ _ (mem_at hl ih) rfl
  | @list g k' a b hg h0 hab hb ih =>
    rw [exW, waysG, rowsOf]
    exact list_pr (wf 1) ih h0 hab
  | @one gs k' h0 h4 _ ih =>
    rw [exW, waysG, rowsOf, exAll_parts]
    exact one_pr wf _ gs 0 ih
  | @kept g k' c _ _ ih =>
    rw [exW, waysG, rowsOf, ← ih, List.filter_map]
    rfl
  | @turned g k' k2 m _ _ ih =>
    rw [exW, waysG, rowsOf, ← ih, List.map_map, List.map_map]
    rfl
  | @repeat_ g h' k' _ _ ih1 ih2 =>
    rw [exW, waysG, rowsOf, ← ih1, List.flatMap_map, List.map_flatMap]
    exact flat_congr _ fun x _ => tim_pr ih2 x
end Fb
namespace Fb
open PySem PySem.Spec PyProof.Rows
mutual
def plainD : PyData → Bool
  | .int _ => true
  | .str s => Cr.isWord s
  | .tuple ds => plainDs ds
  | _ => false
def plainDs : List PyData → Bool
  | [] => true
  | d :: ds => plainD d && plainDs ds
end
def sh (d : PyData) : List Nat := d.shown.cps.toList
def shT : List PyData → List Nat
  | [] => [41]
  | d :: ds => [44, 32] ++ sh d ++ shT ds
theorem cps_app (a b : Str) : (a ++ b).cps.toList = a.cps.toList ++ b.cps.toList := by
  show (a.cps ++ b.cps).toList = _
  rw [Array.toList_append]
theorem sh_int (i : Int) : sh (.int i) = (toString i).toList.map Char.toNat := by
  unfold sh
  rw [PyData.shown]
  exact signs_ofString _
theorem reprChar_letter {c : Nat} (h1 : 97 ≤ c) (h2 : c ≤ 122) : Builtin.Str.reprChar 39 c = [c] := by
  have : c ∈ List.range' 97 26 := by rw [List.mem_range'_1]; omega
  have key : ∀ c ∈ List.range' 97 26, Builtin.Str.reprChar 39 c = [c] := by decide +kernel
  exact key c this
theorem sh_word {s : Str} (h : Cr.isWord s = true) : sh (.str s) = 39 :: s.cps.toList ++ [39] := by
  unfold Cr.isWord at h
  obtain ⟨_, hl⟩ := Bool.and_eq_true_iff.mp h
  have hl : ∀ c ∈ s.cps.toList, 97 ≤ c ∧ c ≤ 122 := fun c hc => by
    have := List.all_eq_true.mp hl c hc
    simpa using this
  unfold sh
  rw [PyData.shown]
  have hq : reprQuote s = 39 := by
    unfold reprQuote
    have n39 : s.cps.contains 39 = false := by
      rw [Bool.eq_false_iff]
      intro hc
      have := Array.contains_iff_mem.mp hc
      have := hl 39 (Array.mem_toList_iff.mpr this)
      omega
    rw [n39]
    rfl
  unfold PySem.reprText
  rw [hq]
  have fold : ∀ (l : List Nat) (acc : Array Nat), (∀ c ∈ l, 97 ≤ c ∧ c ≤ 122) → (l.foldl (fun out c => out ++ (Builtin.Str.reprChar 39 c).toArray) acc).toList = acc.toList ++ l := by
    intro l
    induction l with
    | nil => intro acc _; simp
    | cons c l ih =>
      intro acc h
      rw [List.foldl_cons, ih _ fun c hc => h c (List.mem_cons_of_mem _ hc), reprChar_letter (h c List.mem_cons_self).1 (h c List.mem_cons_self).2]
      simp
  rw [Array.toList_push, ← Array.foldl_toList, fold _ _ hl]
  simp
theorem shownAll_cps_join (x : PyData) : ∀ ds : List PyData, (Str.join ", " (PyData.shownAll (x :: ds))).cps.toList ++ [41] = sh x ++ shT ds
  | [] => by
    rw [PyData.shownAll, PyData.shownAll, Str.join, shT]
    rfl
  | d :: ds => by
    have ih := shownAll_cps_join d ds
    rw [PyData.shownAll, PyData.shownAll, Str.join]
    rotate_left
    · intro h; cases h
    rw [cps_app, cps_app, shT, List.append_assoc, List.append_assoc]
    have e : (Str.ofString ", ").cps.toList = [44, 32] := by decide +kernel
    rw [e]
    rw [PyData.shownAll] at ih
    rw [ih]
    show sh x ++ ([44, 32] ++ (sh d ++ shT ds)) = _
    simp
theorem sh_tup0 : sh (.tuple []) = [40, 41] := by
  unfold sh
  rw [PyData.shown, PyData.shownAll]
  decide +kernel
theorem sh_tup1 (x : PyData) : sh (.tuple [x]) = 40 :: (sh x ++ [44, 41]) := by
  unfold sh
  rw [PyData.shown, PyData.shownAll, PyData.shownAll]
  unfold tupleText
  rw [cps_app, cps_app]
  have e1 : (Str.ofString "(").cps.toList = [40] := by decide +kernel
  have e2 : (Str.ofString ",)").cps.toList = [44, 41] := by decide +kernel
  rw [e1]
  show [40] ++ _ ++ (Str.ofString ",)").cps.toList = _
  rw [e2, Str.join]
  rfl
theorem sh_tup2 (x y : PyData) (ds : List PyData) : sh (.tuple (x :: y :: ds)) = 40 :: (sh x ++ shT (y :: ds)) := by
  have h := shownAll_cps_join x (y :: ds)
  unfold sh
  rw [PyData.shown]
  unfold tupleText
  rw [cps_app, cps_app]
  have e1 : (Str.ofString "(").cps.toList = [40] := by decide +kernel
  have e2 : (Str.ofString ")").cps.toList = [41] := by decide +kernel
  have e3 : ((PyData.shownAll (x :: y :: ds)).length == 1) = false := by
    rw [PyData.shownAll, PyData.shownAll]
    simp
  rw [e1, e3]
  show [40] ++ _ ++ (Str.ofString ")").cps.toList = _
  rw [e2, List.append_assoc, h]
  rfl
end Fb
namespace Fb
open PySem PySem.Spec PyProof.Rows
inductive Sd : Nat → PyData → Prop
  | int {n : Nat} {i : Int} : i.natAbs < 10 ^ 31 → Sd n (.int i)
  | str {n : Nat} {s : Str} : Cr.isWord s = true → Sd n (.str s)
  | tup {n : Nat} {ds : List PyData} : ds.length ≤ 6 → (∀ d ∈ ds, Sd n d) → Sd (n + 1) (.tuple ds)
theorem Sd.mono {n m : Nat} {d : PyData} (h : Sd n d) (hm : n ≤ m) : Sd m d := by
  induction h generalizing m with
  | int h => exact .int h
  | str h => exact .str h
  | tup hl _ ih =>
    obtain ⟨k, rfl⟩ : ∃ k, m = k + 1 := ⟨m - 1, by omega⟩
    exact .tup hl fun d hd => ih d hd (by omega)
theorem plainDs_of : ∀ {ds : List PyData}, (∀ d ∈ ds, plainD d = true) → plainDs ds = true
  | [], _ => by rw [plainDs]
  | d :: ds, h => by
    rw [plainDs, h d List.mem_cons_self, plainDs_of fun e he => h e (List.mem_cons_of_mem _ he)]
    rfl
theorem Sd.plain {n : Nat} {d : PyData} (h : Sd n d) : plainD d = true := by
  induction h with
  | int _ => rw [plainD]
  | str h => rw [plainD]; exact h
  | tup _ _ ih => rw [plainD]; exact plainDs_of ih
theorem int_len {i : Int} (h : i.natAbs < 10 ^ 31) : (sh (.int i)).length ≤ 32 := by
  rw [sh_int, List.length_map]
  have key : ∀ n : Nat, n < 10 ^ 31 → n.repr.toList.length ≤ 31 := fun n hn => by
    rw [Nat.toList_repr]
    exact digits10_le (by decide) hn
  cases i with
  | ofNat n =>
    have := key n h
    show (Int.repr (Int.ofNat n)).toList.length ≤ 32
    simp only [Int.repr]
    omega
  | negSucc n =>
    have := key (n + 1) h
    have e0 : (n + 1).repr = n.succ.repr := rfl
    rw [e0] at this
    show (Int.repr (Int.negSucc n)).toList.length ≤ 32
    simp only [Int.repr]
    rw [String.toList_append, List.length_append]
    have e : "-".toList.length = 1 := by decide
    omega
theorem word_len {s : Str} (h : Cr.isWord s = true) : (sh (.str s)).length ≤ 10 := by
  rw [sh_word h]
  unfold Cr.isWord at h
  have h1 : (s.length : Int) ≤ 8 := by
    have := (Bool.and_eq_true_iff.mp (Bool.and_eq_true_iff.mp h).1).2
    simpa using this
  have h2 : s.cps.toList.length = s.length := by rw [Array.length_toList]; rfl
  simp only [List.length_append, List.length_cons, List.length_nil]
  omega
def shB : Nat → Nat
  | 0 => 40
  | n + 1 => 6 * (shB n + 2) + 4
theorem shT_len {B : Nat} : ∀ {ds : List PyData}, (∀ d ∈ ds, (sh d).length ≤ B) → (shT ds).length ≤ ds.length * (B + 2) + 1
  | [], _ => by rw [shT]; simp
  | d :: ds, h => by
    have ih := shT_len fun e he => h e (List.mem_cons_of_mem _ he)
    have h1 := h d List.mem_cons_self
    rw [shT]
    simp only [List.length_append, List.length_cons, List.length_nil]
    have e : (ds.length + 1) * (B + 2) = ds.length * (B + 2) + (B + 2) := Nat.succ_mul _ _
    omega
theorem shB_pos (n : Nat) : 40 ≤ shB n := by
  cases n with
  | zero => exact Nat.le_refl _
  | succ n => have := shB_pos n; rw [shB]; omega
theorem Sd.len {n : Nat} {d : PyData} (h : Sd n d) : (sh d).length ≤ shB n := by
  induction h with
  | @int n _ h => have := int_len h; have := shB_pos n; omega
  | @str n _ h => have := word_len h; have := shB_pos n; omega
  | @tup n ds hl hd ih =>
    rw [shB]
    match ds with
    | [] => rw [sh_tup0]; simp
    | [x] =>
      rw [sh_tup1]
      have := ih x List.mem_cons_self
      simp only [List.length_append, List.length_cons, List.length_nil]
      omega
    | x :: y :: ds =>
      rw [sh_tup2]
      have h1 := ih x List.mem_cons_self
      have h2 := shT_len (B := shB n) (ds := y :: ds) fun e he => ih e (List.mem_cons_of_mem _ he)
      simp only [List.length_append, List.length_cons, List.length_nil] at h2 hl ⊢
      have h3 : (ds.length + 1) * (shB n + 2) ≤ 5 * (shB n + 2) := Nat.mul_le_mul_right _ (by omega)
      omega
theorem Sd.show {n : Nat} {d : PyData} (h : Sd n d) : d.showable = true := by
  induction h with
  | @int n i h =>
    rw [PyData.showable]
    refine decide_eq_true ?_
    have : i.natAbs < 2 ^ 1920 := Nat.lt_of_lt_of_le h (by decide)
    by_cases h0 : i.natAbs = 0
    · rw [h0]; decide
    · exact (Nat.log2_lt h0).mpr this
  | str _ => rw [PyData.showable]
  | @tup n ds _ _ ih =>
    rw [PyData.showable]
    have : ∀ {ds : List PyData}, (∀ d ∈ ds, d.showable = true) → PyData.showableAll ds = true := by
      intro ds
      induction ds with
      | nil => intro _; rw [PyData.showableAll]
      | cons d ds ih => intro h; rw [PyData.showableAll, h d List.mem_cons_self, ih fun e he => h e (List.mem_cons_of_mem _ he)]; rfl
    exact this ih
theorem Sd.lay {n : Nat} {d : PyData} (h : Sd n d) : d.canLay0 = true := by
  induction h with
  | int _ => rfl
  | @str n s h =>
    unfold Cr.isWord at h
    have hl : ∀ c ∈ s.cps.toList, 97 ≤ c ∧ c ≤ 122 := fun c hc => by
      have := List.all_eq_true.mp (Bool.and_eq_true_iff.mp h).2 c hc
      simpa using this
    have h1 : (s.length : Int) ≤ 8 := by
      have := (Bool.and_eq_true_iff.mp (Bool.and_eq_true_iff.mp h).1).2
      simpa using this
    simp only [PyData.canLay0]
    show s.cps.all (· < 0x110000) = true
    rw [Array.all_eq_true]
    intro i hi
    have := hl s.cps[i] (by simp)
    simp only [decide_eq_true_eq]
    omega
  | @tup n ds hl _ ih => exact Cr.lay_all ih
theorem Sd.dep {n : Nat} {d : PyData} (h : Sd n d) : d.depth ≤ n := by
  induction h with
  | int _ => simp [PyData.depth]
  | str _ => simp [PyData.depth]
  | @tup n ds _ _ ih =>
    have : ∀ {ds : List PyData} {n : Nat}, (∀ d ∈ ds, d.depth ≤ n) → PyData.depthAll ds ≤ n := by
      intro ds n
      induction ds with
      | nil => intro _; simp [PyData.depthAll]
      | cons d ds ih =>
        intro h
        have h1 := h d List.mem_cons_self
        have h2 := ih fun e he => h e (List.mem_cons_of_mem _ he)
        simp only [PyData.depthAll]
        omega
    have := this ih
    simp only [PyData.depth]
    omega
theorem Sd.repr {d : PyData} (h : Sd 6 d) : Sm.ReprOk d = true := by
  unfold Sm.ReprOk
  have h1 := h.dep
  have h2 := h.len
  have e : d.shown.length = (sh d).length := by
    show d.shown.cps.size = d.shown.cps.toList.length
    rw [Array.length_toList]
  have e5 : shB 6 ≤ 4000000 := by decide
  rw [h.show, PyData.hasDict_of_canLay d h.lay, h.lay]
  simp only [Bool.true_and, Bool.not_false, Bool.and_true, Bool.and_eq_true, decide_eq_true_eq]
  omega
end Fb
namespace Fb
open PySem PySem.Spec PyProof.Rows L2 Evl CrT Cr Sm
def rkD (r : List Int) : PyData := .tuple [.int (r.length : Int), rowD r]
theorem alike_row (a b : List Int) : PySem.W.alike (rowD a) (rowD b) = true := by
  unfold rowD
  simp only [PySem.W.alike]
  exact PySem.W.alike_ints a b
theorem lex_lt : ∀ {r s : List Int}, r.length = s.length → (r < s ↔ ¬ lexle s r)
  | [], [], _ => by simp [lexle]
  | [], _ :: _, h => by simp at h
  | _ :: _, [], h => by simp at h
  | a :: r, b :: s, h => by
    rw [List.cons_lt_cons_iff, lex_lt (r := r) (s := s) (by simpa using h), lexle]
    constructor
    · rintro (h1 | ⟨h1, h2⟩) h3
      · rcases h3 with h3 | ⟨h3, _⟩ <;> omega
      · rcases h3 with h3 | ⟨_, h3⟩
        · omega
        · exact h2 h3
    · intro h3
      rcases Int.lt_trichotomy a b with g | g | g
      · exact .inl g
      · exact .inr ⟨g, fun h4 => h3 (.inr ⟨g.symm, h4⟩)⟩
      · exact absurd (.inl g) h3
open Classical in
theorem lt_rk (a b : List Int) : PySem.W.dataLt (rkD a) (rkD b) = decide (¬ rk b a) := by
  unfold rkD
  rw [PySem.W.dataLt_tuple, PySem.W.dataLt_cons (by simp [PySem.W.alike]), PySem.W.dataLt_int]
  simp only [PyData.eqv, beq_iff_eq]
  have hrow : PySem.W.dataLt (rowD a) (rowD b) = decide (a < b) := by
    unfold rowD
    rw [PySem.W.dataLt_tuple]
    exact PySem.W.dataLt_ints a b
  have hself : PyProof.Rows.lexLt PyProof.Rows.itemOrd (PySem.W.keyToksAll []) (PySem.W.keyToksAll []) = false := PyProof.Rows.lex_irrefl _
  by_cases h : (a.length : Int) = b.length
  · have hl : a.length = b.length := by omega
    rw [if_pos h, PySem.W.dataLt_cons (alike_row a b), hself, hrow]
    by_cases h2 : a = b
    · subst h2
      have e0 : decide (¬ rk a a) = false := decide_eq_false fun h => h (rk_refl a)
      rw [e0]
      split
      · rfl
      · exact decide_eq_false (List.lt_irrefl a)
    · have e1 : (a < b) ↔ ¬ rk b a := by
        rw [lex_lt hl]
        unfold rk
        constructor
        · rintro h3 (h4 | ⟨_, h4⟩)
          · omega
          · exact h3 h4
        · exact fun h3 h4 => h3 (.inr ⟨hl.symm, h4⟩)
      have e2 : PyData.eqv (rowD a) (rowD b) = false := by
        unfold rowD
        show PyData.eqvAll (a.map .int) (b.map .int) = false
        rw [eqv_ints]
        exact decide_eq_false h2
      rw [e2, if_neg (by decide)]
      exact decide_eq_decide.mpr e1
  · rw [if_neg h]
    refine decide_eq_decide.mpr ?_
    unfold rk
    constructor
    · rintro h3 (h4 | ⟨h4, _⟩) <;> omega
    · intro h3
      rcases Nat.lt_trichotomy a.length b.length with g | g | g
      · omega
      · omega
      · exact absurd (.inl g) h3
def leW (a b : WR) : Bool := PySem.W.dataLe false (fun x : WR => rkD x.2.2) a b
theorem leW_iff (a b : WR) : leW a b = true ↔ rk a.2.2 b.2.2 := by
  show (!PySem.W.dataLt (rkD b.2.2) (rkD a.2.2)) = true ↔ _
  rw [lt_rk]
  simp
def sortT (W : List WR) : List WR := W.mergeSort leW
theorem sortT_perm (W : List WR) : (sortT W).Perm W := List.mergeSort_perm _ _
theorem sortT_rk (W : List WR) : (sortT W).Pairwise fun a b => rk a.2.2 b.2.2 := by
  have := PySem.W.sort_pairwise (PySem.W.sortLe_total (PyProof.Rows.listOrd PyProof.Rows.itemOrd) false fun b : WR => PySem.W.keyToks (rkD b.2.2)) W
  exact this.imp fun {a b} h => (leW_iff a b).mp h
theorem sortT_asc {W : List WR} (h : W.Pairwise fun a b => a.2.2 ≠ b.2.2) : Asc (sortT W) := by
  unfold Asc
  refine (sortT_rk W).imp₂ (fun a b h1 h2 => ⟨h1, h2⟩) ?_
  exact h.perm (sortT_perm W).symm fun {a b} h => h.symm
open Classical
end Fb
namespace Fb
open PySem PySem.Spec PyProof.Rows L2 Evl CrT Cr Sm
def qb (D B : Nat) (q : Rat) : Prop := q.den ∣ D ∧ 0 ≤ q ∧ q ≤ (B : Rat)
theorem mul_den (q : Rat) : q * (q.den : Rat) = (q.num : Rat) := by
  rw [Rat.mul_def', Rat.num_natCast, Rat.den_natCast, Nat.mul_one]
  have := Rat.mkRat_mul_right (n := q.num) (d := 1) q.den_nz
  rw [Nat.one_mul] at this
  rw [this]
  exact Rat.mkRat_one _
theorem den_dvd {q : Rat} {D : Nat} {z : Int} (h : q * (D : Rat) = (z : Rat)) : q.den ∣ D := by
  have h1 : q.num * (D : Int) = z * (q.den : Int) := by
    have h2 : (q.num : Rat) * (D : Rat) = (z : Rat) * (q.den : Rat) := by
      rw [← h, ← mul_den]
      grind
    exact_mod_cast h2
  have h3 : q.den ∣ q.num.natAbs * D := by
    have : (q.den : Int) ∣ q.num * (D : Int) := ⟨z, by rw [h1, Int.mul_comm]⟩
    have := Int.natAbs_dvd_natAbs.mpr this
    rwa [Int.natAbs_mul, Int.natAbs_natCast, Int.natAbs_natCast] at this
  exact (Nat.Coprime.dvd_of_dvd_mul_left q.reduced.symm h3)
theorem dvd_den {q : Rat} {D : Nat} (h : q.den ∣ D) : ∃ z : Int, q * (D : Rat) = (z : Rat) := by
  obtain ⟨k, hk⟩ := h
  refine ⟨q.num * k, ?_⟩
  rw [hk, Rat.natCast_mul, Rat.intCast_mul, ← mul_den]
  have : ((k : Int) : Rat) = (k : Rat) := rfl
  rw [this]
  grind
theorem qb_mul {D E B C : Nat} {p q : Rat} (h : qb D B p) (g : qb E C q) : qb (D * E) (B * C) (p * q) := by
  obtain ⟨z, hz⟩ := dvd_den h.1
  obtain ⟨y, hy⟩ := dvd_den g.1
  refine ⟨den_dvd (z := z * y) ?_, Rat.mul_nonneg h.2.1 g.2.1, ?_⟩
  · rw [Rat.natCast_mul, Rat.intCast_mul, ← hz, ← hy]
    grind
  · rw [Rat.natCast_mul]
    exact Rat.le_trans (Rat.mul_le_mul_of_nonneg_right h.2.2 g.2.1) (Rat.mul_le_mul_of_nonneg_left g.2.2 (by exact_mod_cast Nat.zero_le B))
theorem qb.mono {D E B C : Nat} {q : Rat} (h : qb D B q) (hd : D ∣ E) (hb : B ≤ C) : qb E C q := ⟨Nat.dvd_trans h.1 hd, h.2.1, Rat.le_trans h.2.2 (by exact_mod_cast hb)⟩
end Fb
namespace Fb
open PySem PySem.Spec PyProof.Rows L2 Evl CrT Cr Sm Classical
noncomputable def tabT (W : List WR) : List WR := sortT (togeT W)
end Fb
namespace Fb
open PySem PySem.Spec PyProof.Rows L2 Evl CrT Cr Sm
theorem compM_map {α : Type} {step : PyData → Option (Option PyData)} {f φ : α → PyData} : ∀ {l : List α}, (∀ a ∈ l, step (f a) = some (some (φ a))) → compM step (l.map f) = some (l.map φ)
  | [], _ => rfl
  | a :: l, h => by
    show (step (f a)).bind _ = _
    rw [h a List.mem_cons_self, Option.bind_some, compM_map fun b hb => h b (List.mem_cons_of_mem _ hb)]
    rfl
theorem fComp_map {α : Type} {fi : FA} {g : PyData → List Sl → Option (List Sl)} {t : FT} {e : FE} {vs : List Nat} {ρ : List Sl} {l : List α} {f φ : α → PyData} (hi : fi ρ = some (l.map f)) (hl : l.length ≤ 10000000) (hs : ∀ a ∈ l, cStep g t e (Sm.wpS ρ vs) (f a) = some (some (φ a))) : fComp fi g t e vs ρ = some (l.map φ) := by
  unfold fComp
  rw [hi, Option.bind_some, compM_map hs, Option.bind_some]
  exact if_pos (by rw [List.length_map]; exact hl)
def D_parts : Fn := runF 2 1 b_parts_in
theorem m_parts (g : Gn) : D_parts [g.data] = some (.tuple ((partsG g).map Gn.data)) := by
  unfold D_parts
  cases g <;> simp only [fSeq, fIfS, fRet, fAsg, fOwn, fApp, fExt, fBrk, fCnt, fDrop, fFrz, frz, fNext, fFor, fB, fAnd, fOr, fNot, fAndV, fOrV, fNotV, fIf, fChain, fOp, fUn, fVar, fC, fTup, fLst, fV, fCons, fNil, fCall, fCallL, fLenV, fSl, fPart, fNoPart, fStar, fAug, gS, gT, gN, gC, fSeqI, run_1, run_2, run_3, run_4, ix0, ix1, ix2, ix3, then_nx, then_rt, then_bk, then_ct, turn_nx, turn_ct, turn_bk, turn_rt, res_rt, asB_b, gIx_t, gIx_l, gAdd_i, gSub_i, gLt_i, gLe_i, gGt_i, gGe_i, eq_i, eq_s, ne_i, ne_s, gLen_t, gLen_l, gTup_l, gTup_t, strEq, Option.bind_some, List.getElem?_cons_zero, List.getElem?_cons_succ, List.set_cons_zero, List.set_cons_succ, List.replicate_succ, List.replicate_zero, Nat.reduceSub, Nat.reduceAdd, if_true, if_false, decide_true, decide_false, Bool.not_true, Bool.not_false, Bool.false_eq_true, String.reduceEq, reduceIte, List.length_cons, List.length_nil, Nat.reduceLeDiff, lim, gIn_t, gIn_l, gNi_l, List.all_cons, List.all_nil, fl, Bool.and_self, eqF, List.any_cons, List.any_nil, Bool.or_true, Bool.or_false, Bool.true_or, Bool.false_or, Bool.and_true, Bool.and_false, Bool.false_and, Bool.true_and, b_parts_in, Gn.data, partsG, gnAll_map, List.map_cons, List.map_nil]
theorem allB_map {α : Type} (f : α → Bool) : ∀ l : List α, Sm.allB (l.map fun a => .bool (f a)) = some (l.all f)
  | [] => rfl
  | a :: l => by
    show (Sm.allB (l.map fun a => .bool (f a))).bind _ = _
    rw [allB_map f l]
    rfl
end Fb
namespace Fb
open PySem PySem.Spec PyProof.Rows L2 Evl CrT Cr Sm
structure WB (D B L : Nat) (W : List WR) : Prop where
  qb : ∀ x ∈ W, qb D B x.2.1
  len : ∀ x ∈ W, x.2.2.length ≤ L
def WT (m : Nat) (W : List WR) : Prop := ∀ x ∈ W, ∃ vs, x.1 = .tuple vs ∧ vs.length ≤ m
theorem WB.cross {D B L D' B' L' : Nat} {A W : List WR} (h : WB D B L A) (g : WB D' B' L' W) : WB (D * D') (B * B') (L + L') (cross snocV A W) := ⟨fun x hx => by
  obtain ⟨a, ha, hx⟩ := List.mem_flatMap.mp hx
  obtain ⟨b, hb, rfl⟩ := List.mem_map.mp hx
  exact qb_mul (h.qb a ha) (g.qb b hb), fun x hx => by
  obtain ⟨a, ha, hx⟩ := List.mem_flatMap.mp hx
  obtain ⟨b, hb, rfl⟩ := List.mem_map.mp hx
  rw [List.length_append]
  have := h.len a ha
  have := g.len b hb
  omega⟩
theorem WT.cross {m : Nat} {A W : List WR} (h : WT m A) : WT (m + 1) (cross snocV A W) := fun x hx => by
  obtain ⟨a, ha, hx⟩ := List.mem_flatMap.mp hx
  obtain ⟨b, hb, rfl⟩ := List.mem_map.mp hx
  obtain ⟨vs, hv, hl⟩ := h a ha
  refine ⟨vs ++ [b.1], ?_, by rw [List.length_append]; simpa using hl⟩
  show snocV a.1 b.1 = _
  rw [hv]
  rfl
def lensT (Ts : List (List WR)) : Nat := (Ts.map List.length).foldr (· * ·) 1
end Fb
namespace Fb
open PySem PySem.Spec PyProof.Rows L2 Evl CrT Cr Sm
variable {wfn : List (PyData × PyData) → Fn} {wf : Int → Rat} {kvs : List (PyData × PyData)}
theorem WB.mono {D B L D' B' L' : Nat} {W : List WR} (h : WB D B L W) (hd : D ∣ D') (hb : B ≤ B') (hl : L ≤ L') : WB D' B' L' W := ⟨fun x hx => (h.qb x hx).mono hd hb, fun x hx => Nat.le_trans (h.len x hx) hl⟩
theorem WB.beh {D B L Dw Bw : Nat} {W : List WR} {w : Rat} (h : WB D B L W) (hw : Fb.qb Dw Bw w) (c : Int) : WB (Dw * D) (Bw * B) (L + 1) (W.map (behW c w)) := ⟨fun x hx => by
  obtain ⟨y, hy, rfl⟩ := List.mem_map.mp hx
  exact qb_mul hw (h.qb y hy), fun x hx => by
  obtain ⟨y, hy, rfl⟩ := List.mem_map.mp hx
  exact Nat.succ_le_succ (h.len y hy)⟩
theorem WB.fin {D B L Dw Bw : Nat} {W : List WR} {w : Rat} (h : WB D B L W) (hw : Fb.qb Dw Bw w) : WB (D * Dw) (B * Bw) (L + 1) (W.map (endW w)) := ⟨fun x hx => by
  obtain ⟨y, hy, rfl⟩ := List.mem_map.mp hx
  exact qb_mul (h.qb y hy) hw, fun x hx => by
  obtain ⟨y, hy, rfl⟩ := List.mem_map.mp hx
  show (y.2.2 ++ [0]).length ≤ L + 1
  rw [List.length_append]
  exact Nat.succ_le_succ (h.len y hy)⟩
structure LisB (D B L N : Nat) (rows : List WR) (a b : Nat) (w : Rat) : Prop where
  wb : WB D B L rows
  w : Fb.qb D B w
  h0 : 0 < D
  b0 : 0 < B
  ab : a ≤ b
  b6 : b ≤ 6
  d : (D * D) ^ 7 < 2 ^ 3900
  bb : (B * B) ^ 7 < 2 ^ 3900
  l : 8 * (L + 1) ≤ 9000000
  n : rows.length ^ b ≤ N ∧ rows.length ≤ N
  n1 : 1 ≤ N
  n2 : N ≤ 1000000
end Fb
namespace Fb
open PySem PySem.Spec PyProof.Rows L2 Evl CrT Cr Sm
end Fb
namespace Fb
open PySem PySem.Spec PyProof.Rows L2 Evl CrT Cr Sm
end Fb
namespace Fb
open PySem PySem.Spec PyProof.Rows L2 Evl CrT Cr Sm
theorem beside_len (rows : List TR) (parts : List VR) (ahead : List Int) : (besideG rows parts ahead).length = rows.length * parts.length := by
  unfold besideG
  induction rows with
  | nil => simp
  | cons r rows ih => rw [List.flatMap_cons, List.length_append, ih, List.length_map, List.length_cons, Nat.succ_mul, Nat.add_comm]
theorem times_count {parts : List VR} {ahead : List Int} : ∀ (n : Nat) (acc : List TR), (timesR parts ahead n acc).length = acc.length * parts.length ^ n
  | 0, acc => by rw [timesR, Nat.pow_zero, Nat.mul_one]
  | n + 1, acc => by rw [timesR, times_count n, beside_len, Nat.pow_succ, Nat.mul_assoc, Nat.mul_comm parts.length]
end Fb
namespace Fb
open PySem PySem.Spec PyProof.Rows L2 Evl CrT Cr Sm
theorem powSum_snoc (c : Nat) : ∀ (n a : Nat), powSum c a (n + 1) = powSum c a n + c ^ (a + n)
  | 0, a => by simp [powSum]
  | n + 1, a => by
    have e : a + 1 + n = a + (n + 1) := by omega
    rw [powSum, powSum_snoc c n (a + 1), powSum, e]
    exact (Nat.add_assoc _ _ _).symm
theorem powSum_mono {c c' : Nat} (h : c ≤ c') : ∀ (n a : Nat), powSum c a n ≤ powSum c' a n
  | 0, a => by rw [powSum, powSum]; exact Nat.le_refl _
  | n + 1, a => by rw [powSum, powSum]; exact Nat.add_le_add (Nat.pow_le_pow_left h a) (powSum_mono h n (a + 1))
theorem powSum_more (c : Nat) {n m : Nat} (h : n ≤ m) (a : Nat) : powSum c a n ≤ powSum c a m := by
  induction h with
  | refl => exact Nat.le_refl _
  | step _ ih => rw [powSum_snoc]; exact Nat.le_trans ih (Nat.le_add_right _ _)
theorem tup_count : ∀ (gs : List Gn) (acc : List TR), (∀ g ∈ gs, (rowsOf g).length ≤ cntG g) → (rowsTup gs acc).length ≤ acc.length * cntMul gs
  | [], acc, _ => by rw [rowsTup, cntMul, Nat.mul_one]; exact Nat.le_refl _
  | g :: gs, acc, h => by
    rw [rowsTup, cntMul]
    refine Nat.le_trans (tup_count gs _ fun g' h' => h g' (List.mem_cons_of_mem _ h')) ?_
    rw [beside_len, ← Nat.mul_assoc]
    exact Nat.mul_le_mul_right _ (Nat.mul_le_mul_left _ (h g List.mem_cons_self))
theorem one_count : ∀ (gs : List Gn) (c : Nat), (∀ g ∈ gs, (rowsOf g).length ≤ cntG g) → (rowsOne gs c).length ≤ cntAdd gs
  | [], _, _ => by rw [rowsOne]; exact Nat.zero_le _
  | g :: gs, c, h => by
    rw [rowsOne, cntAdd, List.length_append, List.length_map]
    exact Nat.add_le_add (h g List.mem_cons_self) (one_count gs (c + 1) fun g' h' => h g' (List.mem_cons_of_mem _ h'))
theorem step_count (parts : List VR) (a : Int) (h0 : 0 ≤ a) : ∀ m : Nat, (((List.range m).foldl (listStep parts a) ([([], [])], [])).1.length = parts.length ^ m) ∧ ((List.range m).foldl (listStep parts a) ([([], [])], [])).2.length = powSum parts.length a.toNat (m - a.toNat)
  | 0 => ⟨by simp, by simp [powSum]⟩
  | m + 1 => by
    obtain ⟨h1, h2⟩ := step_count parts a h0 m
    rw [List.range_succ, List.foldl_append, List.foldl_cons, List.foldl_nil]
    generalize (List.range m).foldl (listStep parts a) ([([], [])], []) = s at h1 h2 ⊢
    unfold listStep
    split
    · rename_i hlt
      refine ⟨by rw [beside_len, h1, Nat.pow_succ], ?_⟩
      have e1 : m - a.toNat = 0 := by omega
      have e2 : m + 1 - a.toNat = 0 := by omega
      rw [h2, e1, e2]
    · rename_i hlt
      refine ⟨by rw [beside_len, h1, Nat.pow_succ], ?_⟩
      have e1 : m + 1 - a.toNat = (m - a.toNat) + 1 := by omega
      have e2 : a.toNat + (m - a.toNat) = m := by omega
      rw [List.length_append, List.length_map, h2, h1, e1, powSum_snoc, e2]
theorem list_count {parts : List VR} {a b : Int} (h0 : 0 ≤ a) (hab : a ≤ b) : (listRows parts a b).length = powSum parts.length a.toNat (b.toNat + 1 - a.toNat) := by
  obtain ⟨h1, h2⟩ := step_count parts a h0 b.toNat
  unfold listRows
  have e1 : b.toNat + 1 - a.toNat = (b.toNat - a.toNat) + 1 := by omega
  have e2 : a.toNat + (b.toNat - a.toNat) = b.toNat := by omega
  rw [List.length_append, List.length_map, h1, h2, e1, powSum_snoc, e2]
theorem rep_count {parts : List VR} {m : Int} {row : List Int} : (repeatRows parts (.int m, row)).length ≤ if 0 ≤ m then parts.length ^ m.toNat else 0 := by
  unfold repeatRows
  show (if decide (0 ≤ m) && decide (m ≤ 6) then (timesR parts [] m.toNat [([], row)]).map tupR else []).length ≤ _
  split
  · rename_i hc
    have h2 := Bool.and_eq_true_iff.mp hc
    rw [if_pos (of_decide_eq_true h2.1), List.length_map, times_count]
    simp
  · exact Nat.zero_le _
theorem rep_any {parts : List VR} {p : VR} : (repeatRows parts p).length ≤ (1 + parts.length) ^ 6 := by
  unfold repeatRows
  split
  · split
    · rename_i hc
      have h2 := of_decide_eq_true (Bool.and_eq_true_iff.mp hc).2
      rw [List.length_map, times_count]
      simp only [List.length_cons, List.length_nil, Nat.zero_add, Nat.one_mul]
      exact Nat.le_trans (Nat.pow_le_pow_left (by omega) _) (Nat.pow_le_pow_right (by omega) (by omega))
    · exact Nat.zero_le _
  · exact Nat.zero_le _
theorem rep_ints {parts : List VR} {c : Nat} (hc : parts.length ≤ c) (lo : Int) : ∀ N : Nat, (((List.range N).map fun (x : Nat) => (PyData.int (lo + (x : Int)), [(x : Int)])).flatMap (repeatRows parts)).length ≤ powSum c lo.toNat ((lo + N).toNat - lo.toNat)
  | 0 => by simp
  | N + 1 => by
    have ih := rep_ints hc lo N
    rw [List.range_succ, List.map_append, List.flatMap_append, List.length_append]
    have hr : (repeatRows parts (PyData.int (lo + (N : Int)), [(N : Int)])).length ≤ if 0 ≤ lo + (N : Int) then parts.length ^ (lo + (N : Int)).toNat else 0 := rep_count
    simp only [List.map_cons, List.map_nil, List.flatMap_cons, List.flatMap_nil, List.append_nil]
    by_cases h : 0 ≤ lo + (N : Int)
    · rw [if_pos h] at hr
      have e1 : (lo + (N + 1 : Nat)).toNat - lo.toNat = ((lo + N).toNat - lo.toNat) + 1 := by omega
      have e2 : lo.toNat + ((lo + N).toNat - lo.toNat) = (lo + N).toNat := by omega
      rw [e1, powSum_snoc, e2]
      exact Nat.add_le_add ih (Nat.le_trans hr (Nat.pow_le_pow_left hc _))
    · rw [if_neg h] at hr
      have e1 : (lo + (N + 1 : Nat)).toNat - lo.toNat = (lo + N).toNat - lo.toNat := by omega
      rw [e1]
      omega
theorem flat_len {α β : Type} {f : α → List β} {B : Nat} : ∀ (l : List α), (∀ a ∈ l, (f a).length ≤ B) → (l.flatMap f).length ≤ l.length * B
  | [], _ => by simp
  | a :: l, h => by
    rw [List.flatMap_cons, List.length_append, List.length_cons, Nat.succ_mul]
    have h1 := h a List.mem_cons_self
    have h2 := flat_len l fun b hb => h b (List.mem_cons_of_mem _ hb)
    omega
theorem rows_cnt {g : Gn} {kd : Kd} (h : GenK g kd) : (rowsOf g).length ≤ cntG g := by
  induction h with
  | int => rw [rowsOf, cntG, List.length_map, List.length_range]; exact Nat.le_refl _
  | pick => rw [rowsOf, cntG, List.length_map, List.length_zipIdx]; exact Nat.le_refl _
  | @tuple gs ks h4 hl _ ih =>
    rw [rowsOf, cntG, List.length_map]
    have h := tup_count gs [([], [])] fun g hg => by
      obtain ⟨i, hi⟩ := List.mem_iff_getElem?.mp hg
      have hlt := (List.getElem?_eq_some_iff.mp hi).1
      exact ih i g _ hi (List.getElem?_eq_getElem (by omega))
    simpa using h
  | @list g k a b hg h0 hab hb ih =>
    rw [rowsOf, cntG, list_count h0 hab]
    exact powSum_mono ih _ _
  | one _ _ _ ih => rw [rowsOf, cntG]; exact one_count _ 0 ih
  | kept _ _ ih => rw [rowsOf, cntG]; exact Nat.le_trans (List.length_filter_le _ _) ih
  | turned _ _ ih => rw [rowsOf, cntG, List.length_map]; exact ih
  | @repeat_ g h k hg hh ih1 ih2 =>
    rw [rowsOf]
    cases hg with
    | @int lo hi h1 h2 h3 =>
      rw [cntG, rowsOf]
      have e := rep_ints ih2 lo (hi - lo + 1).toNat
      exact Nat.le_trans e (powSum_more _ (by omega) _)
    | kept | turned | one =>
      rw [cntG]
      · refine Nat.le_trans (flat_len _ fun p _ => rep_any) ?_
        exact Nat.mul_le_mul ih1 (Nat.pow_le_pow_left (by omega) _)
      · intro _ _ e; cases e
end Fb
namespace Fb
open PySem PySem.Spec PyProof.Rows L2 Evl CrT Cr Sm
end Fb
namespace Fb
open PySem PySem.Spec PyProof.Rows L2 Evl CrT Cr Sm
variable {wfn : List (PyData × PyData) → Fn} {wf : Int → Rat} {kvs : List (PyData × PyData)}
def intV (x : WR) : Prop := ∃ i : Int, x.1 = .int i
structure RepB (D B L N : Nat) (firsts others : List WR) : Prop where
  f : WB D B L firsts
  o : WB D B L others
  h0 : 0 < D
  b0 : 0 < B
  d : D ^ 7 < 2 ^ 3900
  bb : B ^ 7 < 2 ^ 3900
  l : 8 * L ≤ 9000000
  fi : ∀ x ∈ firsts, intV x
  n : ∀ x ∈ firsts, ∀ m : Nat, x.1 = .int (m : Int) → m ≤ 6 → others.length ^ m ≤ N
  fl : firsts.length ≤ 3000
  n2 : N ≤ 3000
def WaysB (wf : Int → Rat) (hol trn : Fn) (D B L : Nat) : Gn → List (List WR) → Prop
  | .int lo hi, _ => lo ≤ hi ∧ -400000 ≤ lo ∧ hi ≤ 400000
  | .pick ws, _ => 0 < ws.length ∧ ws.length ≤ 1000000
  | .tuple _, ts => (∀ T ∈ ts, WB D B L T) ∧ ts.length ≤ 7 ∧ ((∀ T ∈ ts, 0 < T.length) → lensT ts ≤ 10000000)
  | .list _ a b, ts => (0 ≤ a ∧ 0 ≤ b) ∧ ∃ T N, ts = [T] ∧ LisB D B L N T a.toNat b.toNat (wf 1)
  | .one gs, ts => ts.length = gs.length ∧ 0 < gs.length ∧ gs.length ≤ 60 ∧ (∀ T ∈ ts, WB D B L T ∧ T.length ≤ 100000) ∧ Fb.qb D B (wf ((gs.length : Int) - 1))
  | .kept _ c, ts => ∃ T, ts = [T] ∧ T.length ≤ 1000000 ∧ ∀ x ∈ T, hol [c.data, x.1] = some (.bool (holdsC c x.1))
  | .turned _ m, ts => ∃ T, ts = [T] ∧ T.length ≤ 1000000 ∧ ∀ x ∈ T, trn [m.data, x.1] = some (turnD m x.1)
  | .repeat_ _ _, ts => ∃ T U N, ts = [T, U] ∧ RepB D B L N T U
end Fb
namespace Fb
open PySem PySem.Spec PyProof.Rows L2 Evl CrT Cr Sm
def D_kit : Fn := runF 1 1 b_kinds_in_tuple
def D_kil : Fn := runF 1 1 b_kind_in_list
def listedK : Kd → Option Kd
  | .lst j => some j
  | _ => none
theorem isi_s (x : Str) : gIsi "tuple" [.str x] = some (.bool false) := by simp only [gIsi, tyO, Option.bind_some, k_st]
theorem isi_t (ds : List PyData) : gIsi "tuple" [.tuple ds] = some (.bool true) := by simp only [gIsi, tyO, Option.bind_some, k_tt]
theorem m_kit (k : Kd) : D_kit [k.data] = some (.tuple (dataAll k.parts)) := by
  unfold D_kit
  cases k <;> simp only [fSeq, fIfS, fRet, fAsg, fOwn, fApp, fExt, fBrk, fCnt, fDrop, fFrz, frz, fNext, fFor, fB, fAnd, fOr, fNot, fAndV, fOrV, fNotV, fIf, fChain, fOp, fUn, fVar, fC, fTup, fLst, fV, fCons, fNil, fCall, fCallL, fLenV, fSl, fPart, fNoPart, fStar, fAug, gS, gT, gN, gC, fSeqI, run_1, run_2, run_3, run_4, ix0, ix1, ix2, ix3, then_nx, then_rt, then_bk, then_ct, turn_nx, turn_ct, turn_bk, turn_rt, res_rt, asB_b, gIx_t, gIx_l, gAdd_i, gSub_i, gLt_i, gLe_i, gGt_i, gGe_i, eq_i, eq_s, ne_i, ne_s, gLen_t, gLen_l, gTup_l, gTup_t, strEq, Option.bind_some, List.getElem?_cons_zero, List.getElem?_cons_succ, List.set_cons_zero, List.set_cons_succ, List.replicate_succ, List.replicate_zero, Nat.reduceSub, Nat.reduceAdd, if_true, if_false, decide_true, decide_false, Bool.not_true, Bool.not_false, Bool.false_eq_true, String.reduceEq, reduceIte, List.length_cons, List.length_nil, Nat.reduceLeDiff, lim, b_kinds_in_tuple, Kd.data, Kd.parts, dataAll, isi_s, isi_t]
theorem m_kil (k : Kd) : D_kil [k.data] = some (match listedK k with | none => .none | some j => j.data) := by
  unfold D_kil
  cases k <;> simp only [fSeq, fIfS, fRet, fAsg, fOwn, fApp, fExt, fBrk, fCnt, fDrop, fFrz, frz, fNext, fFor, fB, fAnd, fOr, fNot, fAndV, fOrV, fNotV, fIf, fChain, fOp, fUn, fVar, fC, fTup, fLst, fV, fCons, fNil, fCall, fCallL, fLenV, fSl, fPart, fNoPart, fStar, fAug, gS, gT, gN, gC, fSeqI, run_1, run_2, run_3, run_4, ix0, ix1, ix2, ix3, then_nx, then_rt, then_bk, then_ct, turn_nx, turn_ct, turn_bk, turn_rt, res_rt, asB_b, gIx_t, gIx_l, gAdd_i, gSub_i, gLt_i, gLe_i, gGt_i, gGe_i, eq_i, eq_s, ne_i, ne_s, gLen_t, gLen_l, gTup_l, gTup_t, strEq, Option.bind_some, List.getElem?_cons_zero, List.getElem?_cons_succ, List.set_cons_zero, List.set_cons_succ, List.replicate_succ, List.replicate_zero, Nat.reduceSub, Nat.reduceAdd, if_true, if_false, decide_true, decide_false, Bool.not_true, Bool.not_false, Bool.false_eq_true, String.reduceEq, reduceIte, List.length_cons, List.length_nil, Nat.reduceLeDiff, lim, b_kind_in_list, Kd.data, listedK, isi_s, isi_t]
def D_behind : Fn := runF 5 2 (b_kind_behind D_kit D_kil)
theorem eq_int (k : Kd) (h : ∃ n, OkK n k ∧ n ≤ 20) : gEq k.data (.str "int") = some (.bool k.isInt) := by
  obtain ⟨n, hk, hn⟩ := h
  have hs := OkK.shaped hk hn
  have e := eqv_int k
  cases k with
  | int => rw [Kd.data]; simp only [eq_s, decide_true, Kd.isInt]
  | word => rw [Kd.data]; simp only [fSeq, fIfS, fRet, fAsg, fOwn, fApp, fExt, fBrk, fCnt, fDrop, fFrz, frz, fNext, fFor, fB, fAnd, fOr, fNot, fAndV, fOrV, fNotV, fIf, fChain, fOp, fUn, fVar, fC, fTup, fLst, fV, fCons, fNil, fCall, fCallL, fLenV, fSl, fPart, fNoPart, fStar, fAug, gS, gT, gN, gC, fSeqI, run_1, run_2, run_3, run_4, ix0, ix1, ix2, ix3, then_nx, then_rt, then_bk, then_ct, turn_nx, turn_ct, turn_bk, turn_rt, res_rt, asB_b, gIx_t, gIx_l, gAdd_i, gSub_i, gLt_i, gLe_i, gGt_i, gGe_i, eq_i, eq_s, ne_i, ne_s, gLen_t, gLen_l, gTup_l, gTup_t, strEq, Option.bind_some, List.getElem?_cons_zero, List.getElem?_cons_succ, List.set_cons_zero, List.set_cons_succ, List.replicate_succ, List.replicate_zero, Nat.reduceSub, Nat.reduceAdd, if_true, if_false, decide_true, decide_false, Bool.not_true, Bool.not_false, Bool.false_eq_true, String.reduceEq, reduceIte, List.length_cons, List.length_nil, Nat.reduceLeDiff, lim, Kd.isInt]
  | lst j =>
    rw [Kd.data] at hs e ⊢
    show (eqD _ _).bind _ = _
    unfold eqD
    simp only [hs, shaped_int, e, Bool.and_self, if_true, Option.bind_some]
  | tup ks =>
    rw [Kd.data] at hs e ⊢
    show (eqD _ _).bind _ = _
    unfold eqD
    simp only [hs, shaped_int, e, Bool.and_self, if_true, Option.bind_some]
theorem any2 (x : Str) (a b : Str) : ([.str a, .str b] : List PyData).any (fun z => eqF z (.str x)) = (decide (a = x) || decide (b = x)) := by simp [eqF]
theorem dataAll_get {ks : List Kd} {i : Nat} (h : i < ks.length) : atI (dataAll ks) (i : Int) = some (ks.getD i .int).data := by
  apply atI_nat
  rw [dataAll_map, List.getElem?_map, getD_at (a0 := Kd.int) h]
  rfl
theorem kd_int : Kd.int.data = .str "int" := by rw [Kd.data]
theorem isN_kd (j : Kd) : gIsN j.data .none = some (.bool false) := by cases j <;> rfl
theorem lst_ok {j : Kd} (h : ∃ n, OkK n (.lst j) ∧ n ≤ 20) : ∃ n, OkK n j ∧ n ≤ 20 := by
  obtain ⟨n, hk, hn⟩ := h
  cases hk with
  | lst h => exact ⟨_, h, by omega⟩
theorem in_flat (k : Kd) (h : ∃ n, OkK n k ∧ n ≤ 20) : gIn k.data (.tuple [.str "int", .str "word"]) = some (.bool k.isFlat) := by
  obtain ⟨n, hk, hn⟩ := h
  have hs := OkK.shaped hk hn
  have e := flat_in k
  have sf : SeqAt.shaped (.tuple [.str "int", .str "word"]) = true := by decide +kernel
  cases k with
  | int => rw [Kd.data]; simp only [fSeq, fIfS, fRet, fAsg, fOwn, fApp, fExt, fBrk, fCnt, fDrop, fFrz, frz, fNext, fFor, fB, fAnd, fOr, fNot, fAndV, fOrV, fNotV, fIf, fChain, fOp, fUn, fVar, fC, fTup, fLst, fV, fCons, fNil, fCall, fCallL, fLenV, fSl, fPart, fNoPart, fStar, fAug, gS, gT, gN, gC, fSeqI, run_1, run_2, run_3, run_4, ix0, ix1, ix2, ix3, then_nx, then_rt, then_bk, then_ct, turn_nx, turn_ct, turn_bk, turn_rt, res_rt, asB_b, gIx_t, gIx_l, gAdd_i, gSub_i, gLt_i, gLe_i, gGt_i, gGe_i, eq_i, eq_s, ne_i, ne_s, gLen_t, gLen_l, gTup_l, gTup_t, strEq, Option.bind_some, List.getElem?_cons_zero, List.getElem?_cons_succ, List.set_cons_zero, List.set_cons_succ, List.replicate_succ, List.replicate_zero, Nat.reduceSub, Nat.reduceAdd, if_true, if_false, decide_true, decide_false, Bool.not_true, Bool.not_false, Bool.false_eq_true, String.reduceEq, reduceIte, List.length_cons, List.length_nil, Nat.reduceLeDiff, lim, gIn_t, List.all_cons, List.all_nil, fl, Bool.and_self, any2, Bool.or_false, Kd.isFlat]
  | word => rw [Kd.data]; simp only [fSeq, fIfS, fRet, fAsg, fOwn, fApp, fExt, fBrk, fCnt, fDrop, fFrz, frz, fNext, fFor, fB, fAnd, fOr, fNot, fAndV, fOrV, fNotV, fIf, fChain, fOp, fUn, fVar, fC, fTup, fLst, fV, fCons, fNil, fCall, fCallL, fLenV, fSl, fPart, fNoPart, fStar, fAug, gS, gT, gN, gC, fSeqI, run_1, run_2, run_3, run_4, ix0, ix1, ix2, ix3, then_nx, then_rt, then_bk, then_ct, turn_nx, turn_ct, turn_bk, turn_rt, res_rt, asB_b, gIx_t, gIx_l, gAdd_i, gSub_i, gLt_i, gLe_i, gGt_i, gGe_i, eq_i, eq_s, ne_i, ne_s, gLen_t, gLen_l, gTup_l, gTup_t, strEq, Option.bind_some, List.getElem?_cons_zero, List.getElem?_cons_succ, List.set_cons_zero, List.set_cons_succ, List.replicate_succ, List.replicate_zero, Nat.reduceSub, Nat.reduceAdd, if_true, if_false, decide_true, decide_false, Bool.not_true, Bool.not_false, Bool.false_eq_true, String.reduceEq, reduceIte, List.length_cons, List.length_nil, Nat.reduceLeDiff, lim, gIn_t, List.all_cons, List.all_nil, fl, Bool.and_self, any2, Bool.or_true, Kd.isFlat]
  | lst j =>
    rw [Kd.data] at hs e ⊢
    show (inD _ _).bind _ = _
    unfold inD
    simp only [fl, hs, sf, e, Bool.and_self, Bool.false_and, Bool.false_eq_true, if_false, if_true, Option.bind_some]
  | tup ks =>
    rw [Kd.data] at hs e ⊢
    show (inD _ _).bind _ = _
    unfold inD
    simp only [fl, hs, sf, e, Bool.and_self, Bool.false_and, Bool.false_eq_true, if_false, if_true, Option.bind_some]
theorem m_behind (m : Mp) (k : Kd) (h : ∃ n, OkK n k ∧ n ≤ 20) : D_behind [m.data, k.data] = some (match behind m k with | none => .none | some j => j.data) := by
  unfold D_behind
  have hi := eq_int k h
  have t1 := m_kit k
  have t2 := m_kil k
  cases m with
  | plus n =>
    cases e : k.isInt <;> by_cases h1 : -1000 ≤ n <;> by_cases h2 : n ≤ 1000
    all_goals
      rw [e] at hi
      simp only [fSeq, fIfS, fRet, fAsg, fOwn, fApp, fExt, fBrk, fCnt, fDrop, fFrz, frz, fNext, fFor, fB, fAnd, fOr, fNot, fAndV, fOrV, fNotV, fIf, fChain, fOp, fUn, fVar, fC, fTup, fLst, fV, fCons, fNil, fCall, fCallL, fLenV, fSl, fPart, fNoPart, fStar, fAug, gS, gT, gN, gC, fSeqI, run_1, run_2, run_3, run_4, ix0, ix1, ix2, ix3, then_nx, then_rt, then_bk, then_ct, turn_nx, turn_ct, turn_bk, turn_rt, res_rt, asB_b, gIx_t, gIx_l, gAdd_i, gSub_i, gLt_i, gLe_i, gGt_i, gGe_i, eq_i, eq_s, ne_i, ne_s, gLen_t, gLen_l, gTup_l, gTup_t, strEq, Option.bind_some, List.getElem?_cons_zero, List.getElem?_cons_succ, List.set_cons_zero, List.set_cons_succ, List.replicate_succ, List.replicate_zero, Nat.reduceSub, Nat.reduceAdd, if_true, if_false, decide_true, decide_false, Bool.not_true, Bool.not_false, Bool.false_eq_true, String.reduceEq, reduceIte, List.length_cons, List.length_nil, Nat.reduceLeDiff, lim, b_kind_behind, Mp.data, behind, hi, e, h1, h2, gIn_t, gIn_l, List.all_cons, List.all_nil, fl, Bool.and_self, any2, Bool.or_true, Bool.or_false, Bool.true_or, Bool.false_or, Bool.and_true, Bool.and_false, Bool.false_and, Bool.true_and, gNeg, Kd.data]
  | times n =>
    cases e : k.isInt <;> by_cases h1 : -1000 ≤ n <;> by_cases h2 : n ≤ 1000
    all_goals
      rw [e] at hi
      simp only [fSeq, fIfS, fRet, fAsg, fOwn, fApp, fExt, fBrk, fCnt, fDrop, fFrz, frz, fNext, fFor, fB, fAnd, fOr, fNot, fAndV, fOrV, fNotV, fIf, fChain, fOp, fUn, fVar, fC, fTup, fLst, fV, fCons, fNil, fCall, fCallL, fLenV, fSl, fPart, fNoPart, fStar, fAug, gS, gT, gN, gC, fSeqI, run_1, run_2, run_3, run_4, ix0, ix1, ix2, ix3, then_nx, then_rt, then_bk, then_ct, turn_nx, turn_ct, turn_bk, turn_rt, res_rt, asB_b, gIx_t, gIx_l, gAdd_i, gSub_i, gLt_i, gLe_i, gGt_i, gGe_i, eq_i, eq_s, ne_i, ne_s, gLen_t, gLen_l, gTup_l, gTup_t, strEq, Option.bind_some, List.getElem?_cons_zero, List.getElem?_cons_succ, List.set_cons_zero, List.set_cons_succ, List.replicate_succ, List.replicate_zero, Nat.reduceSub, Nat.reduceAdd, if_true, if_false, decide_true, decide_false, Bool.not_true, Bool.not_false, Bool.false_eq_true, String.reduceEq, reduceIte, List.length_cons, List.length_nil, Nat.reduceLeDiff, lim, b_kind_behind, Mp.data, behind, hi, e, h1, h2, gIn_t, gIn_l, List.all_cons, List.all_nil, fl, Bool.and_self, any2, Bool.or_true, Bool.or_false, Bool.true_or, Bool.false_or, Bool.and_true, Bool.and_false, Bool.false_and, Bool.true_and, gNeg, Kd.data]
  | item i =>
    have hl : (dataAll k.parts).length = k.parts.length := by rw [dataAll_map, List.length_map]
    by_cases h1 : 0 ≤ i <;> by_cases h2 : i < (k.parts.length : Int)
    · obtain ⟨j, rfl⟩ := Int.eq_ofNat_of_zero_le h1
      have hg := dataAll_get (show j < k.parts.length by omega)
      simp only [fSeq, fIfS, fRet, fAsg, fOwn, fApp, fExt, fBrk, fCnt, fDrop, fFrz, frz, fNext, fFor, fB, fAnd, fOr, fNot, fAndV, fOrV, fNotV, fIf, fChain, fOp, fUn, fVar, fC, fTup, fLst, fV, fCons, fNil, fCall, fCallL, fLenV, fSl, fPart, fNoPart, fStar, fAug, gS, gT, gN, gC, fSeqI, run_1, run_2, run_3, run_4, ix0, ix1, ix2, ix3, then_nx, then_rt, then_bk, then_ct, turn_nx, turn_ct, turn_bk, turn_rt, res_rt, asB_b, gIx_t, gIx_l, gAdd_i, gSub_i, gLt_i, gLe_i, gGt_i, gGe_i, eq_i, eq_s, ne_i, ne_s, gLen_t, gLen_l, gTup_l, gTup_t, strEq, Option.bind_some, List.getElem?_cons_zero, List.getElem?_cons_succ, List.set_cons_zero, List.set_cons_succ, List.replicate_succ, List.replicate_zero, Nat.reduceSub, Nat.reduceAdd, if_true, if_false, decide_true, decide_false, Bool.not_true, Bool.not_false, Bool.false_eq_true, String.reduceEq, reduceIte, List.length_cons, List.length_nil, Nat.reduceLeDiff, lim, b_kind_behind, Mp.data, behind, t1, hl, hg, h1, h2, gIn_t, gIn_l, List.all_cons, List.all_nil, fl, Bool.and_self, any2, Bool.or_true, Bool.or_false, Bool.true_or, Bool.false_or, Bool.and_true, Bool.and_false, Bool.false_and, Bool.true_and, Kd.data, Int.toNat_natCast]
    all_goals simp only [fSeq, fIfS, fRet, fAsg, fOwn, fApp, fExt, fBrk, fCnt, fDrop, fFrz, frz, fNext, fFor, fB, fAnd, fOr, fNot, fAndV, fOrV, fNotV, fIf, fChain, fOp, fUn, fVar, fC, fTup, fLst, fV, fCons, fNil, fCall, fCallL, fLenV, fSl, fPart, fNoPart, fStar, fAug, gS, gT, gN, gC, fSeqI, run_1, run_2, run_3, run_4, ix0, ix1, ix2, ix3, then_nx, then_rt, then_bk, then_ct, turn_nx, turn_ct, turn_bk, turn_rt, res_rt, asB_b, gIx_t, gIx_l, gAdd_i, gSub_i, gLt_i, gLe_i, gGt_i, gGe_i, eq_i, eq_s, ne_i, ne_s, gLen_t, gLen_l, gTup_l, gTup_t, strEq, Option.bind_some, List.getElem?_cons_zero, List.getElem?_cons_succ, List.set_cons_zero, List.set_cons_succ, List.replicate_succ, List.replicate_zero, Nat.reduceSub, Nat.reduceAdd, if_true, if_false, decide_true, decide_false, Bool.not_true, Bool.not_false, Bool.false_eq_true, String.reduceEq, reduceIte, List.length_cons, List.length_nil, Nat.reduceLeDiff, lim, b_kind_behind, Mp.data, behind, t1, hl, h1, h2, gIn_t, gIn_l, List.all_cons, List.all_nil, fl, Bool.and_self, any2, Bool.or_true, Bool.or_false, Bool.true_or, Bool.false_or, Bool.and_true, Bool.and_false, Bool.false_and, Bool.true_and, Kd.data]
  | length =>
    cases k with
    | lst j =>
      have t2 : D_kil [(Kd.lst j).data] = some j.data := t2
      simp only [fSeq, fIfS, fRet, fAsg, fOwn, fApp, fExt, fBrk, fCnt, fDrop, fFrz, frz, fNext, fFor, fB, fAnd, fOr, fNot, fAndV, fOrV, fNotV, fIf, fChain, fOp, fUn, fVar, fC, fTup, fLst, fV, fCons, fNil, fCall, fCallL, fLenV, fSl, fPart, fNoPart, fStar, fAug, gS, gT, gN, gC, fSeqI, run_1, run_2, run_3, run_4, ix0, ix1, ix2, ix3, then_nx, then_rt, then_bk, then_ct, turn_nx, turn_ct, turn_bk, turn_rt, res_rt, asB_b, gIx_t, gIx_l, gAdd_i, gSub_i, gLt_i, gLe_i, gGt_i, gGe_i, eq_i, eq_s, ne_i, ne_s, gLen_t, gLen_l, gTup_l, gTup_t, strEq, Option.bind_some, List.getElem?_cons_zero, List.getElem?_cons_succ, List.set_cons_zero, List.set_cons_succ, List.replicate_succ, List.replicate_zero, Nat.reduceSub, Nat.reduceAdd, if_true, if_false, decide_true, decide_false, Bool.not_true, Bool.not_false, Bool.false_eq_true, String.reduceEq, reduceIte, List.length_cons, List.length_nil, Nat.reduceLeDiff, lim, gIn_t, gIn_l, List.all_cons, List.all_nil, fl, Bool.and_self, any2, Bool.or_true, Bool.or_false, Bool.true_or, Bool.false_or, Bool.and_true, Bool.and_false, Bool.false_and, Bool.true_and, b_kind_behind, Mp.data, behind, t2, isN_kd, kd_int]
    | _ => simp only [fSeq, fIfS, fRet, fAsg, fOwn, fApp, fExt, fBrk, fCnt, fDrop, fFrz, frz, fNext, fFor, fB, fAnd, fOr, fNot, fAndV, fOrV, fNotV, fIf, fChain, fOp, fUn, fVar, fC, fTup, fLst, fV, fCons, fNil, fCall, fCallL, fLenV, fSl, fPart, fNoPart, fStar, fAug, gS, gT, gN, gC, fSeqI, run_1, run_2, run_3, run_4, ix0, ix1, ix2, ix3, then_nx, then_rt, then_bk, then_ct, turn_nx, turn_ct, turn_bk, turn_rt, res_rt, asB_b, gIx_t, gIx_l, gAdd_i, gSub_i, gLt_i, gLe_i, gGt_i, gGe_i, eq_i, eq_s, ne_i, ne_s, gLen_t, gLen_l, gTup_l, gTup_t, strEq, Option.bind_some, List.getElem?_cons_zero, List.getElem?_cons_succ, List.set_cons_zero, List.set_cons_succ, List.replicate_succ, List.replicate_zero, Nat.reduceSub, Nat.reduceAdd, if_true, if_false, decide_true, decide_false, Bool.not_true, Bool.not_false, Bool.false_eq_true, String.reduceEq, reduceIte, List.length_cons, List.length_nil, Nat.reduceLeDiff, lim, gIn_t, gIn_l, List.all_cons, List.all_nil, fl, Bool.and_self, any2, Bool.or_true, Bool.or_false, Bool.true_or, Bool.false_or, Bool.and_true, Bool.and_false, Bool.false_and, Bool.true_and, b_kind_behind, Mp.data, behind, t2, listedK, gIsN]
  | sum =>
    cases k with
    | lst j =>
      have t2 : D_kil [(Kd.lst j).data] = some j.data := t2
      have hj := eq_int j (lst_ok h)
      cases e : j.isInt <;> (rw [e] at hj; simp only [fSeq, fIfS, fRet, fAsg, fOwn, fApp, fExt, fBrk, fCnt, fDrop, fFrz, frz, fNext, fFor, fB, fAnd, fOr, fNot, fAndV, fOrV, fNotV, fIf, fChain, fOp, fUn, fVar, fC, fTup, fLst, fV, fCons, fNil, fCall, fCallL, fLenV, fSl, fPart, fNoPart, fStar, fAug, gS, gT, gN, gC, fSeqI, run_1, run_2, run_3, run_4, ix0, ix1, ix2, ix3, then_nx, then_rt, then_bk, then_ct, turn_nx, turn_ct, turn_bk, turn_rt, res_rt, asB_b, gIx_t, gIx_l, gAdd_i, gSub_i, gLt_i, gLe_i, gGt_i, gGe_i, eq_i, eq_s, ne_i, ne_s, gLen_t, gLen_l, gTup_l, gTup_t, strEq, Option.bind_some, List.getElem?_cons_zero, List.getElem?_cons_succ, List.set_cons_zero, List.set_cons_succ, List.replicate_succ, List.replicate_zero, Nat.reduceSub, Nat.reduceAdd, if_true, if_false, decide_true, decide_false, Bool.not_true, Bool.not_false, Bool.false_eq_true, String.reduceEq, reduceIte, List.length_cons, List.length_nil, Nat.reduceLeDiff, lim, gIn_t, gIn_l, List.all_cons, List.all_nil, fl, Bool.and_self, any2, Bool.or_true, Bool.or_false, Bool.true_or, Bool.false_or, Bool.and_true, Bool.and_false, Bool.false_and, Bool.true_and, b_kind_behind, Mp.data, behind, t2, isN_kd, hj, e, kd_int])
    | _ => simp only [fSeq, fIfS, fRet, fAsg, fOwn, fApp, fExt, fBrk, fCnt, fDrop, fFrz, frz, fNext, fFor, fB, fAnd, fOr, fNot, fAndV, fOrV, fNotV, fIf, fChain, fOp, fUn, fVar, fC, fTup, fLst, fV, fCons, fNil, fCall, fCallL, fLenV, fSl, fPart, fNoPart, fStar, fAug, gS, gT, gN, gC, fSeqI, run_1, run_2, run_3, run_4, ix0, ix1, ix2, ix3, then_nx, then_rt, then_bk, then_ct, turn_nx, turn_ct, turn_bk, turn_rt, res_rt, asB_b, gIx_t, gIx_l, gAdd_i, gSub_i, gLt_i, gLe_i, gGt_i, gGe_i, eq_i, eq_s, ne_i, ne_s, gLen_t, gLen_l, gTup_l, gTup_t, strEq, Option.bind_some, List.getElem?_cons_zero, List.getElem?_cons_succ, List.set_cons_zero, List.set_cons_succ, List.replicate_succ, List.replicate_zero, Nat.reduceSub, Nat.reduceAdd, if_true, if_false, decide_true, decide_false, Bool.not_true, Bool.not_false, Bool.false_eq_true, String.reduceEq, reduceIte, List.length_cons, List.length_nil, Nat.reduceLeDiff, lim, gIn_t, gIn_l, List.all_cons, List.all_nil, fl, Bool.and_self, any2, Bool.or_true, Bool.or_false, Bool.true_or, Bool.false_or, Bool.and_true, Bool.and_false, Bool.false_and, Bool.true_and, b_kind_behind, Mp.data, behind, t2, listedK, gIsN]
  | sorted =>
    cases k with
    | lst j =>
      have t2 : D_kil [(Kd.lst j).data] = some j.data := t2
      have hj := in_flat j (lst_ok h)
      cases e : j.isFlat <;> (rw [e] at hj; simp only [fSeq, fIfS, fRet, fAsg, fOwn, fApp, fExt, fBrk, fCnt, fDrop, fFrz, frz, fNext, fFor, fB, fAnd, fOr, fNot, fAndV, fOrV, fNotV, fIf, fChain, fOp, fUn, fVar, fC, fTup, fLst, fV, fCons, fNil, fCall, fCallL, fLenV, fSl, fPart, fNoPart, fStar, fAug, gS, gT, gN, gC, fSeqI, run_1, run_2, run_3, run_4, ix0, ix1, ix2, ix3, then_nx, then_rt, then_bk, then_ct, turn_nx, turn_ct, turn_bk, turn_rt, res_rt, asB_b, gIx_t, gIx_l, gAdd_i, gSub_i, gLt_i, gLe_i, gGt_i, gGe_i, eq_i, eq_s, ne_i, ne_s, gLen_t, gLen_l, gTup_l, gTup_t, strEq, Option.bind_some, List.getElem?_cons_zero, List.getElem?_cons_succ, List.set_cons_zero, List.set_cons_succ, List.replicate_succ, List.replicate_zero, Nat.reduceSub, Nat.reduceAdd, if_true, if_false, decide_true, decide_false, Bool.not_true, Bool.not_false, Bool.false_eq_true, String.reduceEq, reduceIte, List.length_cons, List.length_nil, Nat.reduceLeDiff, lim, gIn_t, gIn_l, List.all_cons, List.all_nil, fl, Bool.and_self, any2, Bool.or_true, Bool.or_false, Bool.true_or, Bool.false_or, Bool.and_true, Bool.and_false, Bool.false_and, Bool.true_and, b_kind_behind, Mp.data, behind, t2, isN_kd, hj, e, kd_int])
    | _ => simp only [fSeq, fIfS, fRet, fAsg, fOwn, fApp, fExt, fBrk, fCnt, fDrop, fFrz, frz, fNext, fFor, fB, fAnd, fOr, fNot, fAndV, fOrV, fNotV, fIf, fChain, fOp, fUn, fVar, fC, fTup, fLst, fV, fCons, fNil, fCall, fCallL, fLenV, fSl, fPart, fNoPart, fStar, fAug, gS, gT, gN, gC, fSeqI, run_1, run_2, run_3, run_4, ix0, ix1, ix2, ix3, then_nx, then_rt, then_bk, then_ct, turn_nx, turn_ct, turn_bk, turn_rt, res_rt, asB_b, gIx_t, gIx_l, gAdd_i, gSub_i, gLt_i, gLe_i, gGt_i, gGe_i, eq_i, eq_s, ne_i, ne_s, gLen_t, gLen_l, gTup_l, gTup_t, strEq, Option.bind_some, List.getElem?_cons_zero, List.getElem?_cons_succ, List.set_cons_zero, List.set_cons_succ, List.replicate_succ, List.replicate_zero, Nat.reduceSub, Nat.reduceAdd, if_true, if_false, decide_true, decide_false, Bool.not_true, Bool.not_false, Bool.false_eq_true, String.reduceEq, reduceIte, List.length_cons, List.length_nil, Nat.reduceLeDiff, lim, gIn_t, gIn_l, List.all_cons, List.all_nil, fl, Bool.and_self, any2, Bool.or_true, Bool.or_false, Bool.true_or, Bool.false_or, Bool.and_true, Bool.and_false, Bool.false_and, Bool.true_and, b_kind_behind, Mp.data, behind, t2, listedK, gIsN]
  | reversed =>
    cases k with
    | lst j =>
      have t2 : D_kil [(Kd.lst j).data] = some j.data := t2
      simp only [fSeq, fIfS, fRet, fAsg, fOwn, fApp, fExt, fBrk, fCnt, fDrop, fFrz, frz, fNext, fFor, fB, fAnd, fOr, fNot, fAndV, fOrV, fNotV, fIf, fChain, fOp, fUn, fVar, fC, fTup, fLst, fV, fCons, fNil, fCall, fCallL, fLenV, fSl, fPart, fNoPart, fStar, fAug, gS, gT, gN, gC, fSeqI, run_1, run_2, run_3, run_4, ix0, ix1, ix2, ix3, then_nx, then_rt, then_bk, then_ct, turn_nx, turn_ct, turn_bk, turn_rt, res_rt, asB_b, gIx_t, gIx_l, gAdd_i, gSub_i, gLt_i, gLe_i, gGt_i, gGe_i, eq_i, eq_s, ne_i, ne_s, gLen_t, gLen_l, gTup_l, gTup_t, strEq, Option.bind_some, List.getElem?_cons_zero, List.getElem?_cons_succ, List.set_cons_zero, List.set_cons_succ, List.replicate_succ, List.replicate_zero, Nat.reduceSub, Nat.reduceAdd, if_true, if_false, decide_true, decide_false, Bool.not_true, Bool.not_false, Bool.false_eq_true, String.reduceEq, reduceIte, List.length_cons, List.length_nil, Nat.reduceLeDiff, lim, gIn_t, gIn_l, List.all_cons, List.all_nil, fl, Bool.and_self, any2, Bool.or_true, Bool.or_false, Bool.true_or, Bool.false_or, Bool.and_true, Bool.and_false, Bool.false_and, Bool.true_and, b_kind_behind, Mp.data, behind, t2, isN_kd, kd_int]
    | _ => simp only [fSeq, fIfS, fRet, fAsg, fOwn, fApp, fExt, fBrk, fCnt, fDrop, fFrz, frz, fNext, fFor, fB, fAnd, fOr, fNot, fAndV, fOrV, fNotV, fIf, fChain, fOp, fUn, fVar, fC, fTup, fLst, fV, fCons, fNil, fCall, fCallL, fLenV, fSl, fPart, fNoPart, fStar, fAug, gS, gT, gN, gC, fSeqI, run_1, run_2, run_3, run_4, ix0, ix1, ix2, ix3, then_nx, then_rt, then_bk, then_ct, turn_nx, turn_ct, turn_bk, turn_rt, res_rt, asB_b, gIx_t, gIx_l, gAdd_i, gSub_i, gLt_i, gLe_i, gGt_i, gGe_i, eq_i, eq_s, ne_i, ne_s, gLen_t, gLen_l, gTup_l, gTup_t, strEq, Option.bind_some, List.getElem?_cons_zero, List.getElem?_cons_succ, List.set_cons_zero, List.set_cons_succ, List.replicate_succ, List.replicate_zero, Nat.reduceSub, Nat.reduceAdd, if_true, if_false, decide_true, decide_false, Bool.not_true, Bool.not_false, Bool.false_eq_true, String.reduceEq, reduceIte, List.length_cons, List.length_nil, Nat.reduceLeDiff, lim, gIn_t, gIn_l, List.all_cons, List.all_nil, fl, Bool.and_self, any2, Bool.or_true, Bool.or_false, Bool.true_or, Bool.false_or, Bool.and_true, Bool.and_false, Bool.false_and, Bool.true_and, b_kind_behind, Mp.data, behind, t2, listedK, gIsN]
end Fb
namespace Fb
open PySem PySem.Spec PyProof.Rows L2 Evl CrT Cr Sm
end Fb
namespace Fb
open PySem PySem.Spec PyProof.Rows L2 Evl CrT Cr Sm
end Fb
namespace Fb
open PySem PySem.Spec PyProof.Rows L2 Evl CrT Cr Sm CrU
def D_word : Fn := runF 2 1 b_is_word
theorem gLen_s {z : Str} (h : z.length ≤ 10000000) : gLen [.str z] = some (.int z.length) := if_pos h
theorem gLe_s {x y : Str} : gLe (.str x) (.str y) = some (.bool (!decide (y.cps.toList < x.cps.toList))) := rfl
theorem m_word {s : Str} (h : s.length ≤ 1000) : D_word [.str s] = some (.bool (isWord s)) := by
  unfold D_word
  have hl := gLen_s (show s.length ≤ 10000000 by omega)
  have hc : fComp (fSeqI (fVar 0)) (gS 1) (fun _ => some true) (fChain gLe gLe (fC (.str "a")) (fVar 1) (fC (.str "z"))) [1] [.val (.str s), .un] = some (s.cps.toList.map fun c => .bool (decide (97 ≤ c) && decide (c ≤ 122))) := by
    refine fComp_map (l := s.cps.toList) (f := fun c => .str ⟨#[c]⟩) ?_ (by have : s.cps.toList.length = s.length := rfl; omega) fun c _ => ?_
    · simp only [fSeq, fIfS, fRet, fAsg, fOwn, fApp, fExt, fBrk, fCnt, fDrop, fFrz, frz, fNext, fFor, fB, fAnd, fOr, fNot, fAndV, fOrV, fNotV, fIf, fChain, fOp, fUn, fVar, fC, fTup, fLst, fV, fCons, fNil, fCall, fCallL, fLenV, fSl, fPart, fNoPart, fStar, fAug, gS, gT, gN, gC, fSeqI, run_1, run_2, run_3, run_4, ix0, ix1, ix2, ix3, then_nx, then_rt, then_bk, then_ct, turn_nx, turn_ct, turn_bk, turn_rt, res_rt, asB_b, gIx_t, gIx_l, gAdd_i, gSub_i, gLt_i, gLe_i, gGt_i, gGe_i, eq_i, eq_s, ne_i, ne_s, gLen_t, gLen_l, gTup_l, gTup_t, strEq, Option.bind_some, List.getElem?_cons_zero, List.getElem?_cons_succ, List.set_cons_zero, List.set_cons_succ, List.replicate_succ, List.replicate_zero, Nat.reduceSub, Nat.reduceAdd, if_true, if_false, decide_true, decide_false, Bool.not_true, Bool.not_false, Bool.false_eq_true, String.reduceEq, reduceIte, List.length_cons, List.length_nil, Nat.reduceLeDiff, lim]
    · have e := sign_ok c
      rw [← e]
      simp only [fSeq, fIfS, fRet, fAsg, fOwn, fApp, fExt, fBrk, fCnt, fDrop, fFrz, frz, fNext, fFor, fB, fAnd, fOr, fNot, fAndV, fOrV, fNotV, fIf, fChain, fOp, fUn, fVar, fC, fTup, fLst, fV, fCons, fNil, fCall, fCallL, fLenV, fSl, fPart, fNoPart, fStar, fAug, gS, gT, gN, gC, fSeqI, run_1, run_2, run_3, run_4, ix0, ix1, ix2, ix3, then_nx, then_rt, then_bk, then_ct, turn_nx, turn_ct, turn_bk, turn_rt, res_rt, asB_b, gIx_t, gIx_l, gAdd_i, gSub_i, gLt_i, gLe_i, gGt_i, gGe_i, eq_i, eq_s, ne_i, ne_s, gLen_t, gLen_l, gTup_l, gTup_t, strEq, Option.bind_some, List.getElem?_cons_zero, List.getElem?_cons_succ, List.set_cons_zero, List.set_cons_succ, List.replicate_succ, List.replicate_zero, Nat.reduceSub, Nat.reduceAdd, if_true, if_false, decide_true, decide_false, Bool.not_true, Bool.not_false, Bool.false_eq_true, String.reduceEq, reduceIte, List.length_cons, List.length_nil, Nat.reduceLeDiff, lim, cStep, Sm.wpS, gLe_s]
      cases decide ((⟨#[c]⟩ : Str).cps.toList < ("a" : Str).cps.toList) <;> simp only [fSeq, fIfS, fRet, fAsg, fOwn, fApp, fExt, fBrk, fCnt, fDrop, fFrz, frz, fNext, fFor, fB, fAnd, fOr, fNot, fAndV, fOrV, fNotV, fIf, fChain, fOp, fUn, fVar, fC, fTup, fLst, fV, fCons, fNil, fCall, fCallL, fLenV, fSl, fPart, fNoPart, fStar, fAug, gS, gT, gN, gC, fSeqI, run_1, run_2, run_3, run_4, ix0, ix1, ix2, ix3, then_nx, then_rt, then_bk, then_ct, turn_nx, turn_ct, turn_bk, turn_rt, res_rt, asB_b, gIx_t, gIx_l, gAdd_i, gSub_i, gLt_i, gLe_i, gGt_i, gGe_i, eq_i, eq_s, ne_i, ne_s, gLen_t, gLen_l, gTup_l, gTup_t, strEq, Option.bind_some, List.getElem?_cons_zero, List.getElem?_cons_succ, List.set_cons_zero, List.set_cons_succ, List.replicate_succ, List.replicate_zero, Nat.reduceSub, Nat.reduceAdd, if_true, if_false, decide_true, decide_false, Bool.not_true, Bool.not_false, Bool.false_eq_true, String.reduceEq, reduceIte, List.length_cons, List.length_nil, Nat.reduceLeDiff, lim, Bool.true_and, Bool.false_and]
  have ha : gAll [.list (s.cps.toList.map fun c => .bool (decide (97 ≤ c) && decide (c ≤ 122)))] = some (.bool (s.cps.toList.all fun c => decide (97 ≤ c) && decide (c ≤ 122))) := by
    show (Sm.allB _).bind _ = _
    rw [allB_map]
    rfl
  unfold isWord
  by_cases h1 : (1 : Int) ≤ s.length <;> by_cases h2 : (s.length : Int) ≤ 8
  all_goals simp only [fSeq, fIfS, fRet, fAsg, fOwn, fApp, fExt, fBrk, fCnt, fDrop, fFrz, frz, fNext, fFor, fB, fAnd, fOr, fNot, fAndV, fOrV, fNotV, fIf, fChain, fOp, fUn, fVar, fC, fTup, fLst, fV, fCons, fNil, fCall, fCallL, fLenV, fSl, fPart, fNoPart, fStar, fAug, gS, gT, gN, gC, fSeqI, run_1, run_2, run_3, run_4, ix0, ix1, ix2, ix3, then_nx, then_rt, then_bk, then_ct, turn_nx, turn_ct, turn_bk, turn_rt, res_rt, asB_b, gIx_t, gIx_l, gAdd_i, gSub_i, gLt_i, gLe_i, gGt_i, gGe_i, eq_i, eq_s, ne_i, ne_s, gLen_t, gLen_l, gTup_l, gTup_t, strEq, Option.bind_some, List.getElem?_cons_zero, List.getElem?_cons_succ, List.set_cons_zero, List.set_cons_succ, List.replicate_succ, List.replicate_zero, Nat.reduceSub, Nat.reduceAdd, if_true, if_false, decide_true, decide_false, Bool.not_true, Bool.not_false, Bool.false_eq_true, String.reduceEq, reduceIte, List.length_cons, List.length_nil, Nat.reduceLeDiff, lim, b_is_word, hl, h1, h2, hc, ha, Bool.and_true, Bool.and_false, Bool.true_and, Bool.false_and, Bool.and_self]
def D_rw : Fn := runF 3 1 (b__are_right_words D_word)
theorem m_rw {ws : List Str} (h60 : ws.length ≤ 60) (hw : ∀ w ∈ ws, w.length ≤ 1000) : D_rw [.tuple (ws.map .str)] = some (.bool ((decide ((1 : Int) ≤ ws.length) && decide ((ws.length : Int) ≤ 10)) && (decide (ws.Nodup) && ws.all isWord))) := by
  unfold D_rw
  have hg : gLenW (.tuple (ws.map .str)) = some (.int (metN ws ws.length : Nat)) := by
    show (strsOf _).bind _ = _
    rw [strsOf_map]
    exact if_pos (by omega)
  have hc : ∀ z, fComp (fSeqI (fVar 0)) (gS 2) (fun _ => some true) (fCall D_word (fCons (fVar 2) fNil)) [2] [.val (.tuple (ws.map .str)), z, .un] = some (ws.map fun w => .bool (isWord w)) := fun z => by
    refine fComp_map (l := ws) (f := .str) ?_ (by omega) fun w hwm => ?_
    · simp only [fSeq, fIfS, fRet, fAsg, fOwn, fApp, fExt, fBrk, fCnt, fDrop, fFrz, frz, fNext, fFor, fB, fAnd, fOr, fNot, fAndV, fOrV, fNotV, fIf, fChain, fOp, fUn, fVar, fC, fTup, fLst, fV, fCons, fNil, fCall, fCallL, fLenV, fSl, fPart, fNoPart, fStar, fAug, gS, gT, gN, gC, fSeqI, run_1, run_2, run_3, run_4, ix0, ix1, ix2, ix3, then_nx, then_rt, then_bk, then_ct, turn_nx, turn_ct, turn_bk, turn_rt, res_rt, asB_b, gIx_t, gIx_l, gAdd_i, gSub_i, gLt_i, gLe_i, gGt_i, gGe_i, eq_i, eq_s, ne_i, ne_s, gLen_t, gLen_l, gTup_l, gTup_t, strEq, Option.bind_some, List.getElem?_cons_zero, List.getElem?_cons_succ, List.set_cons_zero, List.set_cons_succ, List.replicate_succ, List.replicate_zero, Nat.reduceSub, Nat.reduceAdd, if_true, if_false, decide_true, decide_false, Bool.not_true, Bool.not_false, Bool.false_eq_true, String.reduceEq, reduceIte, List.length_cons, List.length_nil, Nat.reduceLeDiff, lim]
    · have e := m_word (hw w hwm)
      simp only [fSeq, fIfS, fRet, fAsg, fOwn, fApp, fExt, fBrk, fCnt, fDrop, fFrz, frz, fNext, fFor, fB, fAnd, fOr, fNot, fAndV, fOrV, fNotV, fIf, fChain, fOp, fUn, fVar, fC, fTup, fLst, fV, fCons, fNil, fCall, fCallL, fLenV, fSl, fPart, fNoPart, fStar, fAug, gS, gT, gN, gC, fSeqI, run_1, run_2, run_3, run_4, ix0, ix1, ix2, ix3, then_nx, then_rt, then_bk, then_ct, turn_nx, turn_ct, turn_bk, turn_rt, res_rt, asB_b, gIx_t, gIx_l, gAdd_i, gSub_i, gLt_i, gLe_i, gGt_i, gGe_i, eq_i, eq_s, ne_i, ne_s, gLen_t, gLen_l, gTup_l, gTup_t, strEq, Option.bind_some, List.getElem?_cons_zero, List.getElem?_cons_succ, List.set_cons_zero, List.set_cons_succ, List.replicate_succ, List.replicate_zero, Nat.reduceSub, Nat.reduceAdd, if_true, if_false, decide_true, decide_false, Bool.not_true, Bool.not_false, Bool.false_eq_true, String.reduceEq, reduceIte, List.length_cons, List.length_nil, Nat.reduceLeDiff, lim, cStep, Sm.wpS, e]
  have ha : gAll [.list (ws.map fun w => .bool (isWord w))] = some (.bool (ws.all isWord)) := by
    show (Sm.allB _).bind _ = _
    rw [allB_map]
    rfl
  have hn : decide ((metN ws ws.length : Int) = (ws.length : Int)) = decide ws.Nodup := by
    have := metN_full (ws := ws) ws.length (Nat.le_refl _)
    rw [List.take_length] at this
    exact decide_eq_decide.mpr ⟨fun h => this.mp (by omega), fun h => by have := this.mpr h; omega⟩
  by_cases h1 : (1 : Int) ≤ ws.length <;> by_cases h2 : (ws.length : Int) ≤ 10 <;> cases h3 : decide ws.Nodup
  all_goals
    rw [h3] at hn
    simp only [fSeq, fIfS, fRet, fAsg, fOwn, fApp, fExt, fBrk, fCnt, fDrop, fFrz, frz, fNext, fFor, fB, fAnd, fOr, fNot, fAndV, fOrV, fNotV, fIf, fChain, fOp, fUn, fVar, fC, fTup, fLst, fV, fCons, fNil, fCall, fCallL, fLenV, fSl, fPart, fNoPart, fStar, fAug, gS, gT, gN, gC, fSeqI, run_1, run_2, run_3, run_4, ix0, ix1, ix2, ix3, then_nx, then_rt, then_bk, then_ct, turn_nx, turn_ct, turn_bk, turn_rt, res_rt, asB_b, gIx_t, gIx_l, gAdd_i, gSub_i, gLt_i, gLe_i, gGt_i, gGe_i, eq_i, eq_s, ne_i, ne_s, gLen_t, gLen_l, gTup_l, gTup_t, strEq, Option.bind_some, List.getElem?_cons_zero, List.getElem?_cons_succ, List.set_cons_zero, List.set_cons_succ, List.replicate_succ, List.replicate_zero, Nat.reduceSub, Nat.reduceAdd, if_true, if_false, decide_true, decide_false, Bool.not_true, Bool.not_false, Bool.false_eq_true, String.reduceEq, reduceIte, List.length_cons, List.length_nil, Nat.reduceLeDiff, lim, b__are_right_words, hg, List.length_map, hn, h1, h2, h3, hc, ha, Bool.and_true, Bool.and_false, Bool.true_and, Bool.false_and, Bool.and_self]
def FitOk (fit : Fn) : Prop := ∀ c k, OkC 10 c → OkK 10 k → fit [c.data, k.data] = some (.bool (fitsC c k))
def D_fault (fit : Fn) : Fn := runF 4 2 (b__fault_itself D_rw fit D_behind)
def D_made : Fn := runF 3 2 (b__kind_made D_behind)
end Fb
namespace Fb
open PySem PySem.Spec PyProof.Rows L2 Evl CrT Cr Sm
variable {wfn : List (PyData × PyData) → Fn} {wf : Int → Rat} {kvs : List (PyData × PyData)}
def timesV (x : WR) : Option Nat := match x.1 with
  | .int i => if 0 ≤ i ∧ i ≤ 6 then some i.toNat else none
  | _ => none
def cjG : Gn → List (List WR) → Nat
  | .tuple _, ts => lensT ts
  | .list _ a b, ts => ((List.range' a.toNat (b.toNat + 1 - a.toNat)).map fun m => (ts.headD []).length ^ m).sum
  | .repeat_ _ _, ts => ((ts.headD []).filterMap fun x => (timesV x).map fun m => ((ts.drop 1).headD []).length ^ m).sum
  | _, _ => 0
mutual
noncomputable def tabG (wf : Int → Rat) : Gn → List WR
  | .int lo hi => tabT (waysG wf (.int lo hi) [])
  | .pick ws => tabT (waysG wf (.pick ws) [])
  | .tuple gs => tabT (waysG wf (.tuple gs) (tabAll wf gs))
  | .list g a b => tabT (waysG wf (.list g a b) [tabG wf g])
  | .one gs => tabT (waysG wf (.one gs) (tabAll wf gs))
  | .kept g c => tabT (waysG wf (.kept g c) [tabG wf g])
  | .turned g m => tabT (waysG wf (.turned g m) [tabG wf g])
  | .repeat_ g h => tabT (waysG wf (.repeat_ g h) [tabG wf g, tabG wf h])
noncomputable def tabAll (wf : Int → Rat) : List Gn → List (List WR)
  | [] => []
  | g :: gs => tabG wf g :: tabAll wf gs
end
theorem tabAll_map (wf : Int → Rat) : ∀ gs : List Gn, tabAll wf gs = gs.map (tabG wf)
  | [] => by rw [tabAll]; rfl
  | g :: gs => by rw [tabAll, tabAll_map wf gs]; rfl
theorem tabG_eq (wf : Int → Rat) (g : Gn) : tabG wf g = tabT (waysG wf g ((partsG g).map (tabG wf))) := by
  cases g <;> rw [tabG] <;> first | rfl | (rw [tabAll_map]; rfl)
structure LocB (wf : Int → Rat) (hol trn : Fn) (D B L : Nat) (g : Gn) : Prop where
  ways : WaysB wf hol trn D B L g ((partsG g).map (tabG wf))
  sd : ∀ x ∈ waysG wf g ((partsG g).map (tabG wf)), Sd 6 x.1
  qb : ∃ D' B', 0 < D' ∧ D' < 2 ^ 3900 ∧ (waysG wf g ((partsG g).map (tabG wf))).length * B' < 2 ^ 3900 ∧ ∀ x ∈ waysG wf g ((partsG g).map (tabG wf)), Fb.qb D' B' x.2.1
  wl : (waysG wf g ((partsG g).map (tabG wf))).length ≤ 10000000
  cj : cjG g ((partsG g).map (tabG wf)) ≤ 2000
  tl : (tabG wf g).length ≤ 2000
  pl : (partsG g).length ≤ 60
  iv : ∀ g1 g2, g = .repeat_ g1 g2 → ∀ x ∈ tabG wf g1, intV x
inductive TabB (wf : Int → Rat) (hol trn : Fn) (D B L : Nat) : Gn → Prop
  | mk {g : Gn} : LocB wf hol trn D B L g → (∀ p ∈ partsG g, TabB wf hol trn D B L p) → TabB wf hol trn D B L g
theorem TabB.loc {hol trn : Fn} {D B L : Nat} {g : Gn} (h : TabB wf hol trn D B L g) : LocB wf hol trn D B L g := by cases h; assumption
theorem TabB.parts {hol trn : Fn} {D B L : Nat} {g : Gn} (h : TabB wf hol trn D B L g) : ∀ p ∈ partsG g, TabB wf hol trn D B L p := by cases h; assumption
end Fb
namespace Fb
open PySem PySem.Spec PyProof.Rows L2 Evl CrT Cr Sm
variable {wf : Int → Rat}
theorem ex_mem {g : Gn} {kd : Kd} (h : GenK g kd) {x : WR} (hx : x ∈ exW wf g) : (x.1, x.2.2) ∈ rowsOf g := by
  rw [← ex_pr wf h]
  exact List.mem_map.mpr ⟨x, hx, rfl⟩
theorem reps_map : ∀ {ps : List Gn}, (∀ p ∈ ps, Rep (exW wf p) (tabG wf p)) → Reps (ps.map (exW wf)) (ps.map (tabG wf))
  | [], _ => .nil
  | p :: ps, h => .cons (h p List.mem_cons_self) (reps_map fun q hq => h q (List.mem_cons_of_mem _ hq))
theorem tabT_tab {W : List WR} (h : ∀ x ∈ W, ∀ y ∈ W, x.2.2 = y.2.2 → x.1 = y.1) : IsTab W (tabT W) := by
  have hr := rep_toge W
  refine ⟨hr.perm (sortT_perm _).symm, ?_, sortT_asc ?_⟩
  · exact (((sortT_perm (togeT W)).map (·.1)).nodup_iff).mpr (nodup_toge W)
  · have hn := nodup_toge W
    unfold List.Nodup at hn
    rw [List.pairwise_map] at hn
    refine (List.Pairwise.and_mem.mp hn).imp fun {a b} ⟨ha, hb, hne⟩ hrow => hne ?_
    obtain ⟨x, hx, e1, e2⟩ := hr.real a ha
    obtain ⟨y, hy, e3, e4⟩ := hr.real b hb
    rw [← e1, ← e3]
    exact h x hx y hy (by rw [e2, e4, hrow])
theorem parts_gen {g : Gn} {kd : Kd} (h : GenK g kd) : ∀ p ∈ partsG g, ∃ k, GenK p k := by
  intro p hp
  cases h with
  | int => cases hp
  | pick => cases hp
  | tuple h4 hl hat => exact mem_at (Pr := fun p => ∃ k, GenK p k) hl (fun i g k a b => ⟨k, hat i g k a b⟩) p hp
  | list h _ _ _ => cases List.mem_singleton.mp hp; exact ⟨_, h⟩
  | one _ _ hat => exact ⟨_, hat p hp⟩
  | kept h _ => cases List.mem_singleton.mp hp; exact ⟨_, h⟩
  | turned h _ => cases List.mem_singleton.mp hp; exact ⟨_, h⟩
  | repeat_ h1 h2 =>
    rcases List.mem_cons.mp hp with rfl | hp
    · exact ⟨_, h1⟩
    · cases List.mem_singleton.mp hp; exact ⟨_, h2⟩
theorem isTab_ways {g : Gn} {kd : Kd} (h : GenK g kd) (hp : ∀ p ∈ partsG g, IsTab (exW wf p) (tabG wf p)) : Rep (exW wf g) (waysG wf g ((partsG g).map (tabG wf))) ∧ IsTab (exW wf g) (tabG wf g) := by
  have hr : Rep (waysG wf g ((partsG g).map (exW wf))) (waysG wf g ((partsG g).map (tabG wf))) := ways_rep wf g (reps_map fun p hpp => (hp p hpp).rep)
  rw [← exW_ways] at hr
  refine ⟨hr, tab_step wf g (reps_map fun p hpp => (hp p hpp).rep) ?_⟩
  rw [tabG_eq]
  refine tabT_tab fun x hx y hy e => ?_
  obtain ⟨x', hx', e1, e2⟩ := hr.real x hx
  obtain ⟨y', hy', e3, e4⟩ := hr.real y hy
  have := rows_free h (ex_mem h hx') (ex_mem h hy') (by rw [e2, e4, e]; exact List.prefix_refl _)
  rw [← e1, ← e3]
  exact this.1
theorem isTab_G : ∀ (n : Nat) {k : Nat} {g : Gn} {kd : Kd}, OkGk k n g → GenK g kd → IsTab (exW wf g) (tabG wf g)
  | 0, _, _, _, h, _ => absurd h.pos (by omega)
  | n + 1, k, g, kd, ho, h => (isTab_ways h fun p hp => by
    obtain ⟨k', hk'⟩ := parts_gen h p hp
    exact isTab_G n (ho.parts p hp) hk').2
structure SemL (wf : Int → Rat) (D B L : Nat) (g : Gn) : Prop where
  cnt : (rowsOf g).length ≤ B
  len : ∀ p ∈ rowsOf g, p.2.length ≤ L
  sd : ∀ p ∈ rowsOf g, Sd 6 p.1
  w : ∀ x ∈ exW wf g, Fb.qb D 1 x.2.1
  cw : match g with
    | .int lo hi => Fb.qb D B (wf (hi - lo))
    | .pick ws => Fb.qb D B (wf ((ws.length : Int) - 1))
    | .list _ _ _ => Fb.qb D B (wf 1)
    | .one gs => Fb.qb D B (wf ((gs.length : Int) - 1))
    | _ => True
  cj : cjG g ((partsG g).map (tabG wf)) ≤ 2000
  tl : (tabG wf g).length ≤ 2000
inductive SemB (wf : Int → Rat) (D B L : Nat) : Gn → Prop
  | mk {g : Gn} : SemL wf D B L g → (∀ p ∈ partsG g, SemB wf D B L p) → SemB wf D B L g
theorem SemB.loc {D B L : Nat} {g : Gn} (h : SemB wf D B L g) : SemL wf D B L g := by cases h; assumption
theorem SemB.parts {D B L : Nat} {g : Gn} (h : SemB wf D B L g) : ∀ p ∈ partsG g, SemB wf D B L p := by cases h; assumption
theorem tab_real {g : Gn} {kd : Kd} (h : GenK g kd) {T : List WR} (t : Rep (exW wf g) T) : ∀ y ∈ T, (y.1, y.2.2) ∈ rowsOf g := fun y hy => by
  obtain ⟨x, hx, e1, e2⟩ := t.real y hy
  rw [← e1, ← e2]
  exact ex_mem h hx
end Fb
namespace Fb
open PySem PySem.Spec PyProof.Rows L2 Evl CrT Cr Sm
end Fb
namespace Fb
open PySem PySem.Spec PyProof.Rows L2 Evl CrT Cr Sm
variable {wf : Int → Rat}
inductive SdA (A : Nat) : Nat → PyData → Prop
  | int {n : Nat} {i : Int} : i.natAbs ≤ A → SdA A n (.int i)
  | str {n : Nat} {s : Str} : Cr.isWord s = true → SdA A n (.str s)
  | tup {n : Nat} {ds : List PyData} : ds.length ≤ 6 → (∀ d ∈ ds, SdA A n d) → SdA A (n + 1) (.tuple ds)
theorem SdA.mono {A B n m : Nat} {d : PyData} (h : SdA A n d) (hA : A ≤ B) (hm : n ≤ m) : SdA B m d := by
  induction h generalizing m with
  | int h => exact .int (Nat.le_trans h hA)
  | str h => exact .str h
  | tup hl _ ih =>
    obtain ⟨k, rfl⟩ : ∃ k, m = k + 1 := ⟨m - 1, by omega⟩
    exact .tup hl fun d hd => ih d hd (by omega)
def qe (E : Nat) (x : WR) : Prop := Fb.qb (E ^ x.2.2.length) 1 x.2.1
def PW (E A d L : Nat) (W : List WR) : Prop := ∀ x ∈ W, SdA A d x.1 ∧ x.2.2.length ≤ L ∧ qe E x
def PT (E A d L m : Nat) (W : List WR) : Prop := ∀ x ∈ W, (∃ vs, x.1 = .tuple vs ∧ vs.length ≤ m ∧ ∀ v ∈ vs, SdA A d v) ∧ x.2.2.length ≤ L ∧ qe E x
theorem qe_mul {E : Nat} {v : PyData} {p q : Rat} {r s : List Int} (h : Fb.qb (E ^ r.length) 1 p) (g : Fb.qb (E ^ s.length) 1 q) : qe E (v, p * q, r ++ s) := by
  have := qb_mul h g
  unfold qe
  rw [List.length_append, Nat.pow_add]
  exact this
theorem PW.mono {E A d L B e M : Nat} {W : List WR} (h : PW E A d L W) (hA : A ≤ B) (hd : d ≤ e) (hL : L ≤ M) : PW E B e M W := fun x hx => by
  obtain ⟨h1, h2, h3⟩ := h x hx
  exact ⟨h1.mono hA hd, Nat.le_trans h2 hL, h3⟩
theorem PW.beh {E A d L : Nat} {W : List WR} {w : Rat} (h : PW E A d L W) (hw : Fb.qb E 1 w) (c : Int) : PW E A d (L + 1) (W.map (behW c w)) := fun x hx => by
  obtain ⟨y, hy, rfl⟩ := List.mem_map.mp hx
  obtain ⟨h1, h2, h3⟩ := h y hy
  refine ⟨h1, Nat.succ_le_succ h2, ?_⟩
  have := qe_mul (v := y.1) (r := [c]) (s := y.2.2) (p := w) (q := y.2.1) (by simpa using hw) h3
  exact this
theorem PT.fin {E A d L m : Nat} {W : List WR} {w : Rat} (h : PT E A d L m W) (hw : Fb.qb E 1 w) : PT E A d (L + 1) m (W.map (endW w)) := fun x hx => by
  obtain ⟨y, hy, rfl⟩ := List.mem_map.mp hx
  obtain ⟨h1, h2, h3⟩ := h y hy
  refine ⟨h1, ?_, ?_⟩
  · show (y.2.2 ++ [0]).length ≤ L + 1
    rw [List.length_append]
    exact Nat.succ_le_succ h2
  · have := qe_mul (v := y.1) (r := y.2.2) (s := [0]) (p := y.2.1) (q := w) h3 (by simpa using hw)
    exact this
inductive Chs (E : Nat) (wf : Int → Rat) : Gn → Prop
  | int {lo hi : Int} : Fb.qb E 1 (wf (hi - lo)) → Chs E wf (.int lo hi)
  | pick {ws : List Str} : Fb.qb E 1 (wf ((ws.length : Int) - 1)) → Chs E wf (.pick ws)
  | tuple {gs : List Gn} : (∀ g ∈ gs, Chs E wf g) → Chs E wf (.tuple gs)
  | list {g : Gn} {a b : Int} : Fb.qb E 1 (wf 1) → Chs E wf g → Chs E wf (.list g a b)
  | one {gs : List Gn} : Fb.qb E 1 (wf ((gs.length : Int) - 1)) → (∀ g ∈ gs, Chs E wf g) → Chs E wf (.one gs)
  | kept {g : Gn} {c : Cd} : Chs E wf g → Chs E wf (.kept g c)
  | turned {g : Gn} {m : Mp} : Chs E wf g → Chs E wf (.turned g m)
  | repeat_ {g h : Gn} : Chs E wf g → Chs E wf h → Chs E wf (.repeat_ g h)
mutual
def lenB : Gn → Nat
  | .int _ _ => 1
  | .pick _ => 1
  | .tuple gs => lenBs gs
  | .list g _ b => b.toNat * (lenB g + 1)
  | .one gs => 1 + lenBm gs
  | .kept g _ => lenB g
  | .turned g _ => lenB g
  | .repeat_ g h => lenB g + 6 * lenB h
def lenBs : List Gn → Nat
  | [] => 0
  | g :: gs => lenB g + lenBs gs
def lenBm : List Gn → Nat
  | [] => 0
  | g :: gs => max (lenB g) (lenBm gs)
end
end Fb
namespace Fb
open PySem PySem.Spec PyProof.Rows L2 Evl CrT Cr Sm
abbrev w1 : Int → Rat := fun _ => 1
open Classical in
theorem nodup_len {α : Type} : ∀ (l D : List α), l.Nodup → (∀ x ∈ l, x ∈ D) → l.length ≤ D.length
  | [], _, _, _ => Nat.zero_le _
  | x :: l, D, hn, hs => by
    have hx := hs x List.mem_cons_self
    have hn := List.nodup_cons.mp hn
    have ih := nodup_len l (D.erase x) hn.2 fun y hy => (List.mem_erase_of_ne fun e => hn.1 (by rw [← e]; exact hy)).mpr (hs y (List.mem_cons_of_mem _ hy))
    rw [List.length_erase_of_mem hx] at ih
    have := List.length_pos_of_mem hx
    rw [List.length_cons]
    omega
theorem tab_len {wf : Int → Rat} {g : Gn} {kd : Kd} (h : GenK g kd) (t : IsTab (exW wf g) (tabG wf g)) : (tabG wf g).length ≤ (rowsOf g).length := by
  have hsub : ∀ v ∈ (tabG wf g).map (·.1), v ∈ (rowsOf g).map (·.1) := fun v hv => by
    obtain ⟨y, hy, rfl⟩ := List.mem_map.mp hv
    exact List.mem_map.mpr ⟨_, tab_real h t.rep y hy, rfl⟩
  have := nodup_len _ _ t.nodup hsub
  rwa [List.length_map, List.length_map] at this
end Fb
namespace Fb
open PySem PySem.Spec PyProof.Rows L2 Evl CrT Cr Sm
variable {wf : Int → Rat}
mutual
noncomputable def exS (wf : Int → Rat) : Gn → List WR
  | .int lo hi => sortT (waysG wf (.int lo hi) [])
  | .pick ws => sortT (waysG wf (.pick ws) [])
  | .tuple gs => sortT (waysG wf (.tuple gs) (exSs wf gs))
  | .list g a b => sortT (waysG wf (.list g a b) [exS wf g])
  | .one gs => sortT (waysG wf (.one gs) (exSs wf gs))
  | .kept g c => sortT (waysG wf (.kept g c) [exS wf g])
  | .turned g m => sortT (waysG wf (.turned g m) [exS wf g])
  | .repeat_ g h => sortT (waysG wf (.repeat_ g h) [exS wf g, exS wf h])
noncomputable def exSs (wf : Int → Rat) : List Gn → List (List WR)
  | [] => []
  | g :: gs => exS wf g :: exSs wf gs
end
theorem exSs_map (wf : Int → Rat) : ∀ gs : List Gn, exSs wf gs = gs.map (exS wf)
  | [] => by rw [exSs]; rfl
  | g :: gs => by rw [exSs, exSs_map wf gs]; rfl
theorem exS_eq (wf : Int → Rat) (g : Gn) : exS wf g = sortT (waysG wf g ((partsG g).map (exS wf))) := by
  cases g <;> rw [exS] <;> first | rfl | (rw [exSs_map]; rfl)
inductive Prms : List (List WR) → List (List WR) → Prop
  | nil : Prms [] []
  | cons {R W : List WR} {Rs Ws : List (List WR)} : R.Perm W → Prms Rs Ws → Prms (R :: Rs) (W :: Ws)
theorem flat_perm {α β : Type} {f g : α → List β} : ∀ (l : List α), (∀ a ∈ l, (f a).Perm (g a)) → (l.flatMap f).Perm (l.flatMap g)
  | [], _ => .refl _
  | a :: l, h => by
    rw [List.flatMap_cons, List.flatMap_cons]
    exact (h a List.mem_cons_self).append (flat_perm l fun b hb => h b (List.mem_cons_of_mem _ hb))
theorem cross_perm (h : PyData → PyData → PyData) {A B T U : List WR} (p : A.Perm B) (q : T.Perm U) : (cross h A T).Perm (cross h B U) := by
  unfold cross
  exact (p.flatMap_right _).trans (flat_perm _ fun a _ => q.map _)
theorem Prms.fold (h : PyData → PyData → PyData) : ∀ {Rs Ws : List (List WR)} {A B : List WR}, A.Perm B → Prms Rs Ws → (Rs.foldl (cross h) A).Perm (Ws.foldl (cross h) B)
  | [], [], A, B, e, _ => e
  | R :: Rs, W :: Ws, A, B, e, .cons r rs => show (Rs.foldl (cross h) (cross h A R)).Perm (Ws.foldl (cross h) (cross h B W)) from Prms.fold h (cross_perm h e r) rs
theorem Prms.seq {Rs Ws : List (List WR)} (h : Prms Rs Ws) : (seqW Rs).Perm (seqW Ws) := Prms.fold _ (.refl _) h
theorem Prms.rep {R W : List WR} (h : R.Perm W) : ∀ n, Prms (List.replicate n R) (List.replicate n W)
  | 0 => .nil
  | n + 1 => .cons h (Prms.rep h n)
theorem Prms.app {Rs Ws Rs' Ws' : List (List WR)} (h : Prms Rs Ws) (g : Prms Rs' Ws') : Prms (Rs ++ Rs') (Ws ++ Ws') := by
  induction h with
  | nil => exact g
  | cons r _ ih => exact .cons r ih
theorem Prms.head {Rs Ws : List (List WR)} (h : Prms Rs Ws) : (Rs.headD []).Perm (Ws.headD []) := by
  cases h with
  | nil => exact .refl _
  | cons r _ => exact r
theorem Prms.drop1 {Rs Ws : List (List WR)} (h : Prms Rs Ws) : Prms (Rs.drop 1) (Ws.drop 1) := by
  cases h with
  | nil => exact .nil
  | cons _ r => exact r
theorem Prms.ones (w : Rat) : ∀ (c : Nat) {Rs Ws : List (List WR)}, Prms Rs Ws → (oneW w c Rs).Perm (oneW w c Ws)
  | _, [], [], _ => .refl _
  | c, R :: Rs, W :: Ws, .cons r rs => (r.map _).append (Prms.ones w (c + 1) rs)
theorem lis_perm {R W : List WR} (h : R.Perm W) (w : Rat) (a b : Nat) : (lisW w R a b).Perm (lisW w W a b) := flat_perm _ fun m _ => by
  have s := ((Prms.rep h a).app (Prms.rep (h.map (behW 1 w)) (m - a))).seq
  unfold sizW
  show (if m < b then _ else _ : List WR).Perm (if m < b then _ else _)
  split
  · exact s.map _
  · exact s
theorem rep_perm {R W R' W' : List WR} (h : R.Perm W) (h' : R'.Perm W') : (R.flatMap (repW R')).Perm (W.flatMap (repW W')) := by
  refine (h.flatMap_right _).trans (flat_perm _ fun x _ => ?_)
  unfold repW
  split
  · split
    · exact ((Prms.rep h' _).seq).map _
    · exact .refl _
  · exact .refl _
theorem ways_perm (wf : Int → Rat) (g : Gn) {Rs Ws : List (List WR)} (h : Prms Rs Ws) : (waysG wf g Rs).Perm (waysG wf g Ws) := by
  cases g with
  | int => exact .refl _
  | pick => exact .refl _
  | tuple gs => exact h.seq
  | list g a b => exact lis_perm h.head _ _ _
  | one gs => exact Prms.ones _ 0 h
  | kept g c => exact h.head.filter _
  | turned g m => exact h.head.map _
  | repeat_ g g' => exact rep_perm h.head h.drop1.head
theorem prms_map : ∀ {ps : List Gn}, (∀ p ∈ ps, (exS wf p).Perm (exW wf p)) → Prms (ps.map (exS wf)) (ps.map (exW wf))
  | [], _ => .nil
  | p :: ps, h => .cons (h p List.mem_cons_self) (prms_map fun q hq => h q (List.mem_cons_of_mem _ hq))
theorem exS_perm : ∀ (n : Nat) {k : Nat} {g : Gn}, OkGk k n g → (exS wf g).Perm (exW wf g)
  | 0, _, _, h => absurd h.pos (by omega)
  | n + 1, k, g, ho => by
    rw [exS_eq, exW_ways]
    exact (sortT_perm _).trans (ways_perm wf g (prms_map fun p hp => exS_perm n (ho.parts p hp)))
structure FstL (D B L : Nat) (g : Gn) : Prop where
  cnt : (rowsOf g).length ≤ 3000
  len : ∀ p ∈ rowsOf g, p.2.length ≤ L
  noa : ∀ p ∈ rowsOf g, noA p.1 = true
  w : ∀ x ∈ exW w1 g, Fb.qb D B x.2.1
  cj : cjG g ((partsG g).map (exS w1)) ≤ 3000
inductive FstB (D B L : Nat) : Gn → Prop
  | mk {g : Gn} : FstL D B L g → (∀ p ∈ partsG g, FstB D B L p) → FstB D B L g
theorem FstB.loc {D B L : Nat} {g : Gn} (h : FstB D B L g) : FstL D B L g := by cases h; assumption
theorem FstB.parts {D B L : Nat} {g : Gn} (h : FstB D B L g) : ∀ p ∈ partsG g, FstB D B L p := by cases h; assumption
theorem exS_len {n k : Nat} {g : Gn} {kd : Kd} (ho : OkGk k n g) (h : GenK g kd) : (exS w1 g).length = (rowsOf g).length := by
  rw [(exS_perm n ho).length_eq, ← ex_pr w1 h, List.length_map]
end Fb
namespace Fb
open PySem PySem.Spec PyProof.Rows L2 Evl CrT Cr Sm
end Fb
namespace Fb
open PySem PySem.Spec PyProof.Rows L2 Evl CrT Cr Sm
end Fb
namespace Fb
open PySem PySem.Spec PyProof.Rows L2 Evl CrT Cr Sm
end Fb
namespace Fb
open PySem PySem.Spec PyProof.Rows L2 Evl CrT Cr Sm
mutual
theorem kd_inj : ∀ k j : Kd, k.data = j.data → k = j
  | .int, j, h => by
    cases j <;> simp only [Kd.data, PyData.str.injEq, strEq, String.reduceEq, reduceCtorEq] at h ⊢
  | .word, j, h => by
    cases j <;> simp only [Kd.data, PyData.str.injEq, strEq, String.reduceEq, reduceCtorEq] at h ⊢
  | .lst k, j, h => by
    cases j with
    | lst j =>
      simp only [Kd.data, PyData.tuple.injEq, List.cons.injEq, and_true, true_and] at h
      rw [kd_inj k j h]
    | _ => simp only [Kd.data, PyData.tuple.injEq, PyData.str.injEq, List.cons.injEq, strEq, String.reduceEq, reduceCtorEq, false_and] at h
  | .tup ks, j, h => by
    cases j with
    | tup js =>
      simp only [Kd.data, PyData.tuple.injEq, List.cons.injEq, and_true, true_and] at h
      rw [kds_inj ks js h]
    | _ => simp only [Kd.data, PyData.tuple.injEq, PyData.str.injEq, List.cons.injEq, strEq, String.reduceEq, reduceCtorEq, false_and] at h
theorem kds_inj : ∀ ks js : List Kd, dataAll ks = dataAll js → ks = js
  | [], [], _ => rfl
  | [], _ :: _, h => by simp [dataAll] at h
  | _ :: _, [], h => by simp [dataAll] at h
  | k :: ks, j :: js, h => by
    simp only [dataAll, List.cons.injEq] at h
    rw [kd_inj k j h.1, kds_inj ks js h.2]
end
theorem cd_inj : ∀ c d : Cd, c.data = d.data → c = d := by
  intro c
  induction c with
  | item i c ih => 
    intro d h
    cases d <;> simp only [Cd.data, PyData.tuple.injEq, PyData.str.injEq, PyData.int.injEq, List.cons.injEq, strEq, String.reduceEq, reduceCtorEq, false_and, and_false, and_true, true_and] at h
    obtain ⟨rfl, h⟩ := h
    rw [ih _ h]
  | and_ c1 c2 ih1 ih2 =>
    intro d h
    cases d <;> simp only [Cd.data, PyData.tuple.injEq, PyData.str.injEq, PyData.int.injEq, List.cons.injEq, strEq, String.reduceEq, reduceCtorEq, false_and, and_false, and_true, true_and] at h
    rw [ih1 _ h.1, ih2 _ h.2]
  | or_ c1 c2 ih1 ih2 =>
    intro d h
    cases d <;> simp only [Cd.data, PyData.tuple.injEq, PyData.str.injEq, PyData.int.injEq, List.cons.injEq, strEq, String.reduceEq, reduceCtorEq, false_and, and_false, and_true, true_and] at h
    rw [ih1 _ h.1, ih2 _ h.2]
  | atmost | divides | is =>
    intro d h
    cases d <;> simp only [Cd.data, PyData.tuple.injEq, PyData.str.injEq, PyData.int.injEq, List.cons.injEq, strEq, String.reduceEq, reduceCtorEq, false_and, and_false, and_true, true_and] at h
    rw [h]
  | rising | different =>
    intro d h
    cases d <;> first | rfl | simp only [Cd.data, PyData.tuple.injEq, PyData.str.injEq, PyData.int.injEq, List.cons.injEq, strEq, String.reduceEq, reduceCtorEq, false_and, and_false, and_true, true_and] at h
  | _ c ih =>
    intro d h
    cases d <;> simp only [Cd.data, PyData.tuple.injEq, PyData.str.injEq, PyData.int.injEq, List.cons.injEq, strEq, String.reduceEq, reduceCtorEq, false_and, and_false, and_true, true_and] at h
    rw [ih _ h]
def RFits : List PyData → PyData → Prop := fun ds r => ∃ c k, ds = [Cd.data c, Kd.data k] ∧ OkC 10 c ∧ OkK 10 k ∧ r = .bool (fitsC c k)
noncomputable def D_fits : Fn := fnOf RFits
theorem m_fits {c : Cd} {k : Kd} (hc : OkC 10 c) (hk : OkK 10 k) : D_fits [c.data, k.data] = some (.bool (fitsC c k)) := fnOf_eq (fun r h => by
  obtain ⟨c', k', e, _, _, rfl⟩ := h
  injection e with e1 e
  injection e with e2 _
  rw [cd_inj _ _ e1, kd_inj _ _ e2]) ⟨c, k, rfl, hc, hk, rfl⟩
theorem fits_sp {K : PySem.W.Frag} {A : Atm} : ∀ vs H Q E, spF K A D_fits vs H Q E → spFits K 10 vs H Q E := fun vs H Q E h => by
  obtain ⟨O, ds, r, ho, hds, hr, q⟩ := h
  obtain ⟨c, k, rfl, hc, hk, rfl⟩ := fnOf_inv hr
  obtain ⟨v, ws, rfl, h1, h2⟩ := hds.head
  obtain ⟨u, rfl, h3⟩ := one_inv h2
  exact ⟨v, u, c, k, rfl, h1.vd (flat_cd c), hc, h3.vd (flat_kd hk), hk, fun H' s => q _ H' s (.bl _)⟩
end Fb
namespace Fb
open PySem PySem.Spec PyProof.Rows L2 Evl CrT Cr Sm
end Fb
namespace Fb
open PySem PySem.Spec PyProof.Rows L2 Evl CrT Cr Sm Classical
mutual
theorem eqv_plain : ∀ d e : PyData, plainD d = true → plainD e = true → PyData.eqv d e = decide (d = e)
  | .int i, .int j, _, _ => by
    rw [PyData.eqv, Bool.eq_iff_iff, beq_iff_eq, decide_eq_true_iff]
    exact ⟨fun h => by rw [h], fun h => PyData.int.inj h⟩
  | .str x, .str y, _, _ => by
    rw [PyData.eqv, Bool.eq_iff_iff, beq_iff_eq, decide_eq_true_iff]
    exact ⟨fun h => by rw [h], fun h => PyData.str.inj h⟩
  | .tuple ds, .tuple es, hd, he => by
    rw [plainD] at hd he
    rw [PyData.eqv, eqv_plains ds es hd he]
    exact decide_eq_decide.mpr ⟨fun h => by rw [h], fun h => PyData.tuple.inj h⟩
  | .int _, .str _, _, _ => by simp [PyData.eqv]
  | .int _, .tuple _, _, _ => by simp [PyData.eqv]
  | .str _, .int _, _, _ => by simp [PyData.eqv]
  | .str _, .tuple _, _, _ => by simp [PyData.eqv]
  | .tuple _, .int _, _, _ => by simp [PyData.eqv]
  | .tuple _, .str _, _, _ => by simp [PyData.eqv]
  | .bool _, _, h, _ => by simp [plainD] at h
  | .none, _, h, _ => by simp [plainD] at h
  | .list _, _, h, _ => by simp [plainD] at h
  | .dict _, _, h, _ => by simp [plainD] at h
  | _, .bool _, _, h => by simp [plainD] at h
  | _, .none, _, h => by simp [plainD] at h
  | _, .list _, _, h => by simp [plainD] at h
  | _, .dict _, _, h => by simp [plainD] at h
theorem eqv_plains : ∀ ds es : List PyData, plainDs ds = true → plainDs es = true → PyData.eqvAll ds es = decide (ds = es)
  | [], [], _, _ => by simp [PyData.eqvAll]
  | [], _ :: _, _, _ => by simp [PyData.eqvAll]
  | _ :: _, [], _, _ => by simp [PyData.eqvAll]
  | d :: ds, e :: es, hd, he => by
    rw [plainDs, Bool.and_eq_true] at hd he
    rw [PyData.eqvAll, eqv_plain d e hd.1 he.1, eqv_plains ds es hd.2 he.2, Bool.eq_iff_iff]
    simp
end
structure TG (g : Gn) (kd : Kd) : Prop where
  ho : OkGk 10 6 g
  hk : GenK g kd
  sem : SemB w1 1 1000000 300000 g
theorem TG.tab {g : Gn} {kd : Kd} (t : TG g kd) : IsTab (exW w1 g) (tabG w1 g) := isTab_G 6 t.ho t.hk
theorem TG.tl {g : Gn} {kd : Kd} (t : TG g kd) : (tabG w1 g).length ≤ 2000 := t.sem.loc.tl
structure FG (g : Gn) (kd : Kd) : Prop where
  t : TG g kd
  f : FstB 1 1000000 300000 g
theorem FG.len {g : Gn} {kd : Kd} (t : FG g kd) : (exS w1 g).length ≤ 3000 := by
  rw [exS_len t.t.ho t.t.hk]
  exact t.f.loc.cnt
end Fb
namespace Fb
open PySem PySem.Spec PyProof.Rows L2 Evl CrT Cr Sm Classical
theorem rep_perm' {R R' T : List WR} (t : Rep R T) (p : R.Perm R') : Rep R' T := ⟨fun φ => (t.sum φ).trans (sumF_perm φ p), fun y hy => by
  obtain ⟨x, hx, h⟩ := t.real y hy
  exact ⟨x, p.mem_iff.mp hx, h⟩, fun x hx => t.low x (p.mem_iff.mpr hx)⟩
theorem IsTab.perm {R R' T : List WR} (t : IsTab R T) (p : R.Perm R') : IsTab R' T := ⟨rep_perm' t.rep p, t.nodup, t.asc⟩
end Fb
namespace Fb
open PySem PySem.Spec PyProof.Rows L2 Evl CrT Cr Sm
def wch (b : Int) : Rat := mkRat 1 (b + 1).toNat
theorem qb_cha {b : Int} (h0 : 0 ≤ b) (h1 : b ≤ 3) : Fb.qb 12 1 (wch b) := by
  rcases (by omega : b = 0 ∨ b = 1 ∨ b = 2 ∨ b = 3) with rfl | rfl | rfl | rfl <;> exact ⟨by decide +kernel, by decide +kernel, by decide +kernel⟩
def b0 : Kd → Nat
  | .int => 1
  | .word => 1
  | .tup _ => 2
  | .lst k => 6 * b0 k + 1
end Fb
namespace Fb
open PySem PySem.Spec PyProof.Rows L2 Evl CrT Cr Sm
def Tb (g : Gn) (t : Nat) : Prop := ∀ wf, (tabG wf g).length ≤ t
theorem Tb.mono {g : Gn} {t u : Nat} (h : Tb g t) (hu : t ≤ u) : Tb g u := fun wf => Nat.le_trans (h wf) hu
theorem tb_cnt {n k : Nat} {g : Gn} {kd : Kd} (ho : OkGk k n g) (hk : GenK g kd) : Tb g (cntG g) := fun _ => Nat.le_trans (tab_len hk (isTab_G _ ho hk)) (rows_cnt hk)
structure SizL (g : Gn) : Prop where
  cnt : cntG g ≤ 3000
  len : lenB g ≤ 55
  tab : Tb g 2000
  cj : ∀ wf, cjG g ((partsG g).map (tabG wf)) ≤ 2000
inductive Siz : Gn → Prop
  | mk {g : Gn} : SizL g → (∀ p ∈ partsG g, Siz p) → Siz g
theorem Siz.loc {g : Gn} (h : Siz g) : SizL g := by cases h; assumption
theorem Siz.parts {g : Gn} (h : Siz g) : ∀ p ∈ partsG g, Siz p := by cases h; assumption
end Fb
namespace Fb
open PySem PySem.Spec PyProof.Rows L2 Evl CrT Cr Sm
def En (E : Int) (l : List Int) : Prop := ∀ x ∈ l, 0 ≤ x ∧ x ≤ E
def Eb (E : Int) (g : Gn) : Prop := ∀ p ∈ rowsOf g, En E p.2
def Lb (N : Nat) (g : Gn) : Prop := ∀ p ∈ rowsOf g, p.2.length ≤ N
def EbT (E : Int) (acc : List TR) : Prop := ∀ r ∈ acc, En E r.2
theorem En.app {E : Int} {l m : List Int} (a : En E l) (b : En E m) : En E (l ++ m) := fun x hx => by
  rcases List.mem_append.mp hx with h | h
  · exact a x h
  · exact b x h
theorem En.nil {E : Int} : En E [] := fun _ h => nomatch h
theorem En.cons {E x : Int} {l : List Int} (h0 : 0 ≤ x) (h1 : x ≤ E) (a : En E l) : En E (x :: l) := fun y hy => by
  rcases List.mem_cons.mp hy with rfl | h
  · exact ⟨h0, h1⟩
  · exact a y h
theorem Eb.mono {E F : Int} {g : Gn} (h : Eb E g) (hE : E ≤ F) : Eb F g := fun p hp x hx => by
  have := h p hp x hx
  omega
theorem Lb.mono {N M : Nat} {g : Gn} (h : Lb N g) (hE : N ≤ M) : Lb M g := fun p hp => Nat.le_trans (h p hp) hE
theorem EbT.beside {E : Int} {acc : List TR} {parts : List VR} {ahead : List Int} (h : EbT E acc) (hp : ∀ p ∈ parts, En E p.2) (ha : En E ahead) : EbT E (besideG acc parts ahead) := fun r hr => by
  unfold besideG at hr
  obtain ⟨s, hs, hr⟩ := List.mem_flatMap.mp hr
  obtain ⟨p, hp', rfl⟩ := List.mem_map.mp hr
  exact ((h s hs).app ha).app (hp p hp')
theorem EbT.times {E : Int} {parts : List VR} (hp : ∀ p ∈ parts, En E p.2) : ∀ (n : Nat) {acc : List TR}, EbT E acc → EbT E (timesR parts [] n acc)
  | 0, _, h => h
  | n + 1, _, h => EbT.times hp n (h.beside hp .nil)
end Fb
namespace Fb
open PySem PySem.Spec PyProof.Rows L2 Evl CrT Cr Sm
theorem siz_int {lo hi : Int} (h : GenK (.int lo hi) .int) (h3 : hi - lo ≤ 3) : Siz (.int lo hi) := by
  have hl : lo ≤ hi := by cases h; assumption
  have hc : cntG (.int lo hi) ≤ 4 := by rw [cntG]; omega
  refine .mk ⟨by omega, by rw [lenB]; decide, (tb_cnt (OkGk.int (k := 10) (n := 0) lo hi) h).mono (by omega), fun wf => Nat.zero_le _⟩ fun p hp => nomatch hp
def NoIt : Mp → Prop
  | .item _ => False
  | _ => True
inductive Tg : Gn → Kd → Prop
  | int {lo hi : Int} : Tg (.int lo hi) .int
  | tuple {gs : List Gn} {ks : List Kd} : gs.length = ks.length → (∀ (i : Nat) g k, gs[i]? = some g → ks[i]? = some k → Tg g k) → Tg (.tuple gs) (.tup ks)
  | list {g : Gn} {a b : Int} : Tg g .int → Tg (.list g a b) (.lst .int)
  | one {gs : List Gn} {k : Kd} : 0 < gs.length → (∀ g ∈ gs, Tg g k) → Tg (.one gs) k
  | kept {g : Gn} {k : Kd} {c : Cd} : Tg g k → Tg (.kept g c) k
  | turned {g : Gn} {k k' : Kd} {m : Mp} : Tg g k → NoIt m → behind m k = some k' → Tg (.turned g m) k'
  | repeat_ {g h : Gn} : Tg g .int → Tg h .int → Tg (.repeat_ g h) (.lst .int)
structure PlOk (lo hi : Int) : Prop where
  l : -1 ≤ lo
  h : hi ≤ 6
  o : lo ≤ hi
  d : hi - lo ≤ 2
theorem PlOk.g {lo hi : Int} (p : PlOk lo hi) : GenK (.int lo hi) .int := .int (by have := p.l; omega) p.o (by have := p.h; omega)
theorem PlOk.cnt {lo hi : Int} (p : PlOk lo hi) : cntG (.int lo hi) ≤ 3 := by
  rw [cntG]
  have := p.d
  omega
theorem PlOk.siz {lo hi : Int} (p : PlOk lo hi) : Siz (.int lo hi) := siz_int p.g (by have := p.d; omega)
theorem PlOk.tb {lo hi : Int} (p : PlOk lo hi) : Tb (.int lo hi) 3 := (tb_cnt (OkGk.int (k := 10) (n := 0) lo hi) p.g).mono p.cnt
theorem PlOk.chs {lo hi : Int} (p : PlOk lo hi) : Chs 12 wch (.int lo hi) := .int (qb_cha (by have := p.o; omega) (by have := p.d; omega))
def nB (C l : Nat) : Nat := (if C ≤ 186 then 10 else 15) + if l ≤ 4 then 0 else 1
theorem nB_mono {C C' l l' : Nat} (hC : C ≤ C') (hl : l ≤ l') : nB C l ≤ nB C' l' := by
  unfold nB
  split <;> split <;> split <;> split <;> omega
structure LstOk (C T l : Nat) (g : Gn) : Prop where
  k : GenK g (.lst .int)
  ok : OkGk 10 l g
  cnt : cntG g ≤ C
  tb : Tb g T
  len : lenB g ≤ 31
  siz : Siz g
  chs : Chs 12 wch g
  tg : Tg g (.lst .int)
  eb : (Eb 2 g ∧ Lb (nB C l) g) ∨ (Eb 3 g ∧ Lb 9 g)
section
variable {C T B : Nat} {g : Gn} {x y : Int}
theorem LstOk.mono {C' T' l l' : Nat} (h : LstOk C T l g) (hC : C ≤ C') (hT : T ≤ T') (hl : l ≤ l') : LstOk C' T' l' g := ⟨h.k, h.ok.mono (Nat.le_refl _) hl, Nat.le_trans h.cnt hC, h.tb.mono hT, h.len, h.siz, h.chs, h.tg, h.eb.imp (fun e => ⟨e.1, e.2.mono (nB_mono hC hl)⟩) (fun e => e)⟩
theorem LstOk.c {l : Nat} (h : LstOk C T l g) : True := trivial
end
end Fb
namespace Fb
open PySem PySem.Spec PyProof.Rows L2 Evl CrT Cr Sm
theorem x_seq {f : FS} {g : FSX} {ρ ρ' : List Sl} (h : f ρ = some (.nx, ρ')) : xSeq (xSt f) g ρ = g ρ' := by
  unfold xSeq xSt
  rw [h]
  rfl
end Fb
namespace Fb
open PySem PySem.Spec PyProof.Rows L2 Evl CrT Cr Sm
end Fb
namespace Fb
open PySem PySem.Spec PyProof.Rows L2 Evl CrT Cr Sm
end Fb
namespace Fb
open PySem PySem.Spec PyProof.Rows L2 Evl CrT Cr Sm Classical
end Fb
namespace Fb
open PySem PySem.Spec PyProof.Rows L2 Evl CrT Cr Sm Classical
mutual
theorem kd_plain : ∀ k : Kd, plainD k.data = true
  | .int => by rw [Kd.data, plainD]; decide +kernel
  | .word => by rw [Kd.data, plainD]; decide +kernel
  | .lst k => by
    rw [Kd.data, plainD]
    refine plainDs_of fun d hd => ?_
    rcases List.mem_cons.mp hd with rfl | hd
    · rw [plainD]; decide +kernel
    · rw [List.mem_singleton.mp hd]
      exact kd_plain k
  | .tup ks => by
    rw [Kd.data, plainD]
    refine plainDs_of fun d hd => ?_
    rcases List.mem_cons.mp hd with rfl | hd
    · rw [plainD]; decide +kernel
    · rw [List.mem_singleton.mp hd, plainD]
      exact plainDs_of (kds_plain ks)
theorem kds_plain : ∀ (ks : List Kd), ∀ d ∈ dataAll ks, plainD d = true
  | [], d, h => by rw [dataAll] at h; cases h
  | k :: ks, d, h => by
    rw [dataAll] at h
    rcases List.mem_cons.mp h with rfl | h
    · exact kd_plain k
    · exact kds_plain ks d h
end
theorem ne_kds {k j : Kd} (hk : OkK 10 k) (hj : OkK 10 j) : gNe k.data j.data = some (.bool (!decide (k = j))) := by
  have e : PyData.eqv k.data j.data = decide (k = j) := by
    rw [eqv_plain _ _ (kd_plain k) (kd_plain j), Bool.eq_iff_iff, decide_eq_true_iff, decide_eq_true_iff]
    exact ⟨fun h => kd_inj _ _ h, fun h => by rw [h]⟩
  have hs := hk.shaped (by decide)
  have hs2 := hj.shaped (by decide)
  have key : eqD k.data j.data = some (decide (k = j)) := by
    by_cases hf : ∃ x y, k.data = .str x ∧ j.data = .str y
    · obtain ⟨x, y, h1, h2⟩ := hf
      rw [h1, h2]
      show some (decide (x = y)) = _
      congr 1
      rw [Bool.eq_iff_iff, decide_eq_true_iff, decide_eq_true_iff]
      exact ⟨fun h => kd_inj _ _ (by rw [h1, h2, h]), fun h => by
        have := congrArg Kd.data h
        rw [h1, h2] at this
        injection this⟩
    · rw [← e]
      unfold eqD
      cases k <;> cases j <;> simp only [Kd.data] at hs hs2 hf ⊢ <;> first
        | (simp only [hs, hs2, Bool.and_self, if_true]; done)
        | exact (hf ⟨_, _, rfl, rfl⟩).elim
  show (eqD _ _).bind _ = _
  rw [key]
  rfl
noncomputable def faultG : Gn → List Kd → Option Str
  | .int a b, _ => if -1000 ≤ a ∧ a ≤ b ∧ b ≤ 1000 then none else some "wrong bounds"
  | .pick ws, _ => if ((decide ((1 : Int) ≤ ws.length) && decide ((ws.length : Int) ≤ 10)) && (decide (ws.Nodup) && ws.all isWord)) = true then none else some "wrong words"
  | .tuple _, ks => if (4 : Int) < (ks.length : Int) then some "wrong number" else none
  | .list _ a b, _ => if 0 ≤ a ∧ a ≤ b ∧ b ≤ 6 then none else some "wrong bounds"
  | .one _, ks => if (1 : Int) ≤ (ks.length : Int) ∧ (ks.length : Int) ≤ 4 then (if ∃ k ∈ ks, k ≠ ks.headD .int then some "other kinds" else none) else some "wrong number"
  | .kept _ c, ks => if fitsC c (ks.headD .int) = true then none else some "does not fit"
  | .turned _ m, ks => if behind m (ks.headD .int) = none then some "does not fit" else none
  | .repeat_ _ _, ks => if ks.headD .int = .int then none else some "does not fit"
def madeG : Gn → List Kd → Kd
  | .int _ _, _ => .int
  | .pick _, _ => .word
  | .tuple _, ks => .tup ks
  | .list _ _ _, ks => .lst (ks.headD .int)
  | .one _, ks => ks.headD .int
  | .kept _ _, ks => ks.headD .int
  | .turned _ m, ks => (behind m (ks.headD .int)).getD .int
  | .repeat_ _ _, ks => .lst ((ks.drop 1).headD .int)
abbrev Rs := Kd ⊕ (Str × List Int)
def looks (f : Gn → List Int → Rs) : List Gn → Nat → List Int → List Kd ⊕ (Str × List Int)
  | [], _, _ => .inl []
  | g :: gs, k, p => match f g (p ++ [(k : Int)]) with
    | .inr e => .inr e
    | .inl kd => match looks f gs (k + 1) p with
      | .inl ks => .inl (kd :: ks)
      | .inr e => .inr e
noncomputable def lookN : Nat → Gn → List Int → Rs
  | 0, _, _ => .inl .int
  | n + 1, g, p => match looks (lookN n) (partsG g) 0 p with
    | .inr e => .inr e
    | .inl ks => match faultG g ks with
      | some w => .inr (w, p)
      | none => .inl (madeG g ks)
def outK : Rs → OutE
  | .inl kd => .inl kd.data
  | .inr (w, p) => .inr ⟨0, .str w, rowD p⟩
def fltD : Option Str → PyData
  | some w => .str w
  | none => .none
section
variable {fit : Fn} {ks : List Kd}
theorem fault_int {a b : Int} {L : PyData} : D_fault fit [(Gn.int a b).data, L] = some (fltD (faultG (.int a b) ks)) := by
  unfold D_fault faultG
  by_cases h1 : -1000 ≤ a
  · by_cases h2 : a ≤ b
    · by_cases h3 : b ≤ 1000
      · simp only [fSeq, fIfS, fRet, fAsg, fOwn, fApp, fExt, fBrk, fCnt, fDrop, fFrz, frz, fNext, fFor, fB, fAnd, fOr, fNot, fAndV, fOrV, fNotV, fIf, fChain, fOp, fUn, fVar, fC, fTup, fLst, fV, fCons, fNil, fCall, fCallL, fLenV, fSl, fPart, fNoPart, fStar, fAug, gS, gT, gN, gC, fSeqI, run_1, run_2, run_3, run_4, ix0, ix1, ix2, ix3, then_nx, then_rt, then_bk, then_ct, turn_nx, turn_ct, turn_bk, turn_rt, res_rt, asB_b, gIx_t, gIx_l, gAdd_i, gSub_i, gLt_i, gLe_i, gGt_i, gGe_i, eq_i, eq_s, ne_i, ne_s, gLen_t, gLen_l, gTup_l, gTup_t, strEq, Option.bind_some, List.getElem?_cons_zero, List.getElem?_cons_succ, List.set_cons_zero, List.set_cons_succ, List.replicate_succ, List.replicate_zero, Nat.reduceSub, Nat.reduceAdd, if_true, if_false, decide_true, decide_false, Bool.not_true, Bool.not_false, Bool.false_eq_true, String.reduceEq, reduceIte, List.length_cons, List.length_nil, Nat.reduceLeDiff, lim, b__fault_itself, Gn.data, fChain3, gNeg, h1, h2, h3, and_self, fltD]
      · simp only [fSeq, fIfS, fRet, fAsg, fOwn, fApp, fExt, fBrk, fCnt, fDrop, fFrz, frz, fNext, fFor, fB, fAnd, fOr, fNot, fAndV, fOrV, fNotV, fIf, fChain, fOp, fUn, fVar, fC, fTup, fLst, fV, fCons, fNil, fCall, fCallL, fLenV, fSl, fPart, fNoPart, fStar, fAug, gS, gT, gN, gC, fSeqI, run_1, run_2, run_3, run_4, ix0, ix1, ix2, ix3, then_nx, then_rt, then_bk, then_ct, turn_nx, turn_ct, turn_bk, turn_rt, res_rt, asB_b, gIx_t, gIx_l, gAdd_i, gSub_i, gLt_i, gLe_i, gGt_i, gGe_i, eq_i, eq_s, ne_i, ne_s, gLen_t, gLen_l, gTup_l, gTup_t, strEq, Option.bind_some, List.getElem?_cons_zero, List.getElem?_cons_succ, List.set_cons_zero, List.set_cons_succ, List.replicate_succ, List.replicate_zero, Nat.reduceSub, Nat.reduceAdd, if_true, if_false, decide_true, decide_false, Bool.not_true, Bool.not_false, Bool.false_eq_true, String.reduceEq, reduceIte, List.length_cons, List.length_nil, Nat.reduceLeDiff, lim, b__fault_itself, Gn.data, fChain3, gNeg, h1, h2, h3, and_self, and_false, fltD]
    · simp only [fSeq, fIfS, fRet, fAsg, fOwn, fApp, fExt, fBrk, fCnt, fDrop, fFrz, frz, fNext, fFor, fB, fAnd, fOr, fNot, fAndV, fOrV, fNotV, fIf, fChain, fOp, fUn, fVar, fC, fTup, fLst, fV, fCons, fNil, fCall, fCallL, fLenV, fSl, fPart, fNoPart, fStar, fAug, gS, gT, gN, gC, fSeqI, run_1, run_2, run_3, run_4, ix0, ix1, ix2, ix3, then_nx, then_rt, then_bk, then_ct, turn_nx, turn_ct, turn_bk, turn_rt, res_rt, asB_b, gIx_t, gIx_l, gAdd_i, gSub_i, gLt_i, gLe_i, gGt_i, gGe_i, eq_i, eq_s, ne_i, ne_s, gLen_t, gLen_l, gTup_l, gTup_t, strEq, Option.bind_some, List.getElem?_cons_zero, List.getElem?_cons_succ, List.set_cons_zero, List.set_cons_succ, List.replicate_succ, List.replicate_zero, Nat.reduceSub, Nat.reduceAdd, if_true, if_false, decide_true, decide_false, Bool.not_true, Bool.not_false, Bool.false_eq_true, String.reduceEq, reduceIte, List.length_cons, List.length_nil, Nat.reduceLeDiff, lim, b__fault_itself, Gn.data, fChain3, gNeg, h1, h2, and_self, and_false, false_and, fltD]
  · simp only [fSeq, fIfS, fRet, fAsg, fOwn, fApp, fExt, fBrk, fCnt, fDrop, fFrz, frz, fNext, fFor, fB, fAnd, fOr, fNot, fAndV, fOrV, fNotV, fIf, fChain, fOp, fUn, fVar, fC, fTup, fLst, fV, fCons, fNil, fCall, fCallL, fLenV, fSl, fPart, fNoPart, fStar, fAug, gS, gT, gN, gC, fSeqI, run_1, run_2, run_3, run_4, ix0, ix1, ix2, ix3, then_nx, then_rt, then_bk, then_ct, turn_nx, turn_ct, turn_bk, turn_rt, res_rt, asB_b, gIx_t, gIx_l, gAdd_i, gSub_i, gLt_i, gLe_i, gGt_i, gGe_i, eq_i, eq_s, ne_i, ne_s, gLen_t, gLen_l, gTup_l, gTup_t, strEq, Option.bind_some, List.getElem?_cons_zero, List.getElem?_cons_succ, List.set_cons_zero, List.set_cons_succ, List.replicate_succ, List.replicate_zero, Nat.reduceSub, Nat.reduceAdd, if_true, if_false, decide_true, decide_false, Bool.not_true, Bool.not_false, Bool.false_eq_true, String.reduceEq, reduceIte, List.length_cons, List.length_nil, Nat.reduceLeDiff, lim, b__fault_itself, Gn.data, fChain3, gNeg, h1, and_self, and_false, false_and, fltD]
theorem fault_list {g : Gn} {a b : Int} {L : PyData} : D_fault fit [(Gn.list g a b).data, L] = some (fltD (faultG (.list g a b) ks)) := by
  unfold D_fault faultG
  by_cases h1 : 0 ≤ a
  · by_cases h2 : a ≤ b
    · by_cases h3 : b ≤ 6
      · simp only [fSeq, fIfS, fRet, fAsg, fOwn, fApp, fExt, fBrk, fCnt, fDrop, fFrz, frz, fNext, fFor, fB, fAnd, fOr, fNot, fAndV, fOrV, fNotV, fIf, fChain, fOp, fUn, fVar, fC, fTup, fLst, fV, fCons, fNil, fCall, fCallL, fLenV, fSl, fPart, fNoPart, fStar, fAug, gS, gT, gN, gC, fSeqI, run_1, run_2, run_3, run_4, ix0, ix1, ix2, ix3, then_nx, then_rt, then_bk, then_ct, turn_nx, turn_ct, turn_bk, turn_rt, res_rt, asB_b, gIx_t, gIx_l, gAdd_i, gSub_i, gLt_i, gLe_i, gGt_i, gGe_i, eq_i, eq_s, ne_i, ne_s, gLen_t, gLen_l, gTup_l, gTup_t, strEq, Option.bind_some, List.getElem?_cons_zero, List.getElem?_cons_succ, List.set_cons_zero, List.set_cons_succ, List.replicate_succ, List.replicate_zero, Nat.reduceSub, Nat.reduceAdd, if_true, if_false, decide_true, decide_false, Bool.not_true, Bool.not_false, Bool.false_eq_true, String.reduceEq, reduceIte, List.length_cons, List.length_nil, Nat.reduceLeDiff, lim, b__fault_itself, Gn.data, fChain3, h1, h2, h3, and_self, fltD]
      · simp only [fSeq, fIfS, fRet, fAsg, fOwn, fApp, fExt, fBrk, fCnt, fDrop, fFrz, frz, fNext, fFor, fB, fAnd, fOr, fNot, fAndV, fOrV, fNotV, fIf, fChain, fOp, fUn, fVar, fC, fTup, fLst, fV, fCons, fNil, fCall, fCallL, fLenV, fSl, fPart, fNoPart, fStar, fAug, gS, gT, gN, gC, fSeqI, run_1, run_2, run_3, run_4, ix0, ix1, ix2, ix3, then_nx, then_rt, then_bk, then_ct, turn_nx, turn_ct, turn_bk, turn_rt, res_rt, asB_b, gIx_t, gIx_l, gAdd_i, gSub_i, gLt_i, gLe_i, gGt_i, gGe_i, eq_i, eq_s, ne_i, ne_s, gLen_t, gLen_l, gTup_l, gTup_t, strEq, Option.bind_some, List.getElem?_cons_zero, List.getElem?_cons_succ, List.set_cons_zero, List.set_cons_succ, List.replicate_succ, List.replicate_zero, Nat.reduceSub, Nat.reduceAdd, if_true, if_false, decide_true, decide_false, Bool.not_true, Bool.not_false, Bool.false_eq_true, String.reduceEq, reduceIte, List.length_cons, List.length_nil, Nat.reduceLeDiff, lim, b__fault_itself, Gn.data, fChain3, h1, h2, h3, and_self, and_false, fltD]
    · simp only [fSeq, fIfS, fRet, fAsg, fOwn, fApp, fExt, fBrk, fCnt, fDrop, fFrz, frz, fNext, fFor, fB, fAnd, fOr, fNot, fAndV, fOrV, fNotV, fIf, fChain, fOp, fUn, fVar, fC, fTup, fLst, fV, fCons, fNil, fCall, fCallL, fLenV, fSl, fPart, fNoPart, fStar, fAug, gS, gT, gN, gC, fSeqI, run_1, run_2, run_3, run_4, ix0, ix1, ix2, ix3, then_nx, then_rt, then_bk, then_ct, turn_nx, turn_ct, turn_bk, turn_rt, res_rt, asB_b, gIx_t, gIx_l, gAdd_i, gSub_i, gLt_i, gLe_i, gGt_i, gGe_i, eq_i, eq_s, ne_i, ne_s, gLen_t, gLen_l, gTup_l, gTup_t, strEq, Option.bind_some, List.getElem?_cons_zero, List.getElem?_cons_succ, List.set_cons_zero, List.set_cons_succ, List.replicate_succ, List.replicate_zero, Nat.reduceSub, Nat.reduceAdd, if_true, if_false, decide_true, decide_false, Bool.not_true, Bool.not_false, Bool.false_eq_true, String.reduceEq, reduceIte, List.length_cons, List.length_nil, Nat.reduceLeDiff, lim, b__fault_itself, Gn.data, fChain3, h1, h2, and_self, and_false, false_and, fltD]
  · simp only [fSeq, fIfS, fRet, fAsg, fOwn, fApp, fExt, fBrk, fCnt, fDrop, fFrz, frz, fNext, fFor, fB, fAnd, fOr, fNot, fAndV, fOrV, fNotV, fIf, fChain, fOp, fUn, fVar, fC, fTup, fLst, fV, fCons, fNil, fCall, fCallL, fLenV, fSl, fPart, fNoPart, fStar, fAug, gS, gT, gN, gC, fSeqI, run_1, run_2, run_3, run_4, ix0, ix1, ix2, ix3, then_nx, then_rt, then_bk, then_ct, turn_nx, turn_ct, turn_bk, turn_rt, res_rt, asB_b, gIx_t, gIx_l, gAdd_i, gSub_i, gLt_i, gLe_i, gGt_i, gGe_i, eq_i, eq_s, ne_i, ne_s, gLen_t, gLen_l, gTup_l, gTup_t, strEq, Option.bind_some, List.getElem?_cons_zero, List.getElem?_cons_succ, List.set_cons_zero, List.set_cons_succ, List.replicate_succ, List.replicate_zero, Nat.reduceSub, Nat.reduceAdd, if_true, if_false, decide_true, decide_false, Bool.not_true, Bool.not_false, Bool.false_eq_true, String.reduceEq, reduceIte, List.length_cons, List.length_nil, Nat.reduceLeDiff, lim, b__fault_itself, Gn.data, fChain3, h1, and_self, and_false, false_and, fltD]
theorem fault_pick {ws : List Str} {L : PyData} (h60 : ws.length ≤ 60) (hw : ∀ w ∈ ws, w.length ≤ 1000) : D_fault fit [(Gn.pick ws).data, L] = some (fltD (faultG (.pick ws) ks)) := by
  have hr := m_rw h60 hw
  unfold D_fault faultG
  show _ = some (fltD (if ((decide ((1 : Int) ≤ ws.length) && decide ((ws.length : Int) ≤ 10)) && (decide (ws.Nodup) && ws.all isWord)) = true then none else some "wrong words"))
  generalize ((decide ((1 : Int) ≤ ws.length) && decide ((ws.length : Int) ≤ 10)) && (decide (ws.Nodup) && ws.all isWord)) = b at hr ⊢
  cases b <;> simp only [fSeq, fIfS, fRet, fAsg, fOwn, fApp, fExt, fBrk, fCnt, fDrop, fFrz, frz, fNext, fFor, fB, fAnd, fOr, fNot, fAndV, fOrV, fNotV, fIf, fChain, fOp, fUn, fVar, fC, fTup, fLst, fV, fCons, fNil, fCall, fCallL, fLenV, fSl, fPart, fNoPart, fStar, fAug, gS, gT, gN, gC, fSeqI, run_1, run_2, run_3, run_4, ix0, ix1, ix2, ix3, then_nx, then_rt, then_bk, then_ct, turn_nx, turn_ct, turn_bk, turn_rt, res_rt, asB_b, gIx_t, gIx_l, gAdd_i, gSub_i, gLt_i, gLe_i, gGt_i, gGe_i, eq_i, eq_s, ne_i, ne_s, gLen_t, gLen_l, gTup_l, gTup_t, strEq, Option.bind_some, List.getElem?_cons_zero, List.getElem?_cons_succ, List.set_cons_zero, List.set_cons_succ, List.replicate_succ, List.replicate_zero, Nat.reduceSub, Nat.reduceAdd, if_true, if_false, decide_true, decide_false, Bool.not_true, Bool.not_false, Bool.false_eq_true, String.reduceEq, reduceIte, List.length_cons, List.length_nil, Nat.reduceLeDiff, lim, b__fault_itself, Gn.data, hr, fltD]
theorem fault_tuple {gs : List Gn} : D_fault fit [(Gn.tuple gs).data, .list (ks.map Kd.data)] = some (fltD (faultG (.tuple gs) ks)) := by
  unfold D_fault faultG
  by_cases h : (4 : Int) < (ks.length : Int) <;> simp only [fSeq, fIfS, fRet, fAsg, fOwn, fApp, fExt, fBrk, fCnt, fDrop, fFrz, frz, fNext, fFor, fB, fAnd, fOr, fNot, fAndV, fOrV, fNotV, fIf, fChain, fOp, fUn, fVar, fC, fTup, fLst, fV, fCons, fNil, fCall, fCallL, fLenV, fSl, fPart, fNoPart, fStar, fAug, gS, gT, gN, gC, fSeqI, run_1, run_2, run_3, run_4, ix0, ix1, ix2, ix3, then_nx, then_rt, then_bk, then_ct, turn_nx, turn_ct, turn_bk, turn_rt, res_rt, asB_b, gIx_t, gIx_l, gAdd_i, gSub_i, gLt_i, gLe_i, gGt_i, gGe_i, eq_i, eq_s, ne_i, ne_s, gLen_t, gLen_l, gTup_l, gTup_t, strEq, Option.bind_some, List.getElem?_cons_zero, List.getElem?_cons_succ, List.set_cons_zero, List.set_cons_succ, List.replicate_succ, List.replicate_zero, Nat.reduceSub, Nat.reduceAdd, if_true, if_false, decide_true, decide_false, Bool.not_true, Bool.not_false, Bool.false_eq_true, String.reduceEq, reduceIte, List.length_cons, List.length_nil, Nat.reduceLeDiff, lim, b__fault_itself, Gn.data, List.length_map, h, fltD]
theorem fault_kept {g : Gn} {c : Cd} {k : Kd} (hf : fit [c.data, k.data] = some (.bool (fitsC c k))) : D_fault fit [(Gn.kept g c).data, .list ([k].map Kd.data)] = some (fltD (faultG (.kept g c) [k])) := by
  unfold D_fault faultG
  show _ = some (fltD (if fitsC c k = true then none else some "does not fit"))
  cases h : fitsC c k <;> rw [h] at hf <;> simp only [fSeq, fIfS, fRet, fAsg, fOwn, fApp, fExt, fBrk, fCnt, fDrop, fFrz, frz, fNext, fFor, fB, fAnd, fOr, fNot, fAndV, fOrV, fNotV, fIf, fChain, fOp, fUn, fVar, fC, fTup, fLst, fV, fCons, fNil, fCall, fCallL, fLenV, fSl, fPart, fNoPart, fStar, fAug, gS, gT, gN, gC, fSeqI, run_1, run_2, run_3, run_4, ix0, ix1, ix2, ix3, then_nx, then_rt, then_bk, then_ct, turn_nx, turn_ct, turn_bk, turn_rt, res_rt, asB_b, gIx_t, gIx_l, gAdd_i, gSub_i, gLt_i, gLe_i, gGt_i, gGe_i, eq_i, eq_s, ne_i, ne_s, gLen_t, gLen_l, gTup_l, gTup_t, strEq, Option.bind_some, List.getElem?_cons_zero, List.getElem?_cons_succ, List.set_cons_zero, List.set_cons_succ, List.replicate_succ, List.replicate_zero, Nat.reduceSub, Nat.reduceAdd, if_true, if_false, decide_true, decide_false, Bool.not_true, Bool.not_false, Bool.false_eq_true, String.reduceEq, reduceIte, List.length_cons, List.length_nil, Nat.reduceLeDiff, lim, b__fault_itself, Gn.data, List.map_cons, List.map_nil, hf, fltD]
theorem fault_turned {g : Gn} {m : Mp} {k : Kd} (hk : OkK 10 k) : D_fault fit [(Gn.turned g m).data, .list ([k].map Kd.data)] = some (fltD (faultG (.turned g m) [k])) := by
  have e := m_behind m k ⟨10, hk, by decide⟩
  unfold D_fault faultG
  show _ = some (fltD (if behind m k = none then some "does not fit" else none))
  cases h : behind m k with
  | none =>
    rw [h] at e
    simp only [fSeq, fIfS, fRet, fAsg, fOwn, fApp, fExt, fBrk, fCnt, fDrop, fFrz, frz, fNext, fFor, fB, fAnd, fOr, fNot, fAndV, fOrV, fNotV, fIf, fChain, fOp, fUn, fVar, fC, fTup, fLst, fV, fCons, fNil, fCall, fCallL, fLenV, fSl, fPart, fNoPart, fStar, fAug, gS, gT, gN, gC, fSeqI, run_1, run_2, run_3, run_4, ix0, ix1, ix2, ix3, then_nx, then_rt, then_bk, then_ct, turn_nx, turn_ct, turn_bk, turn_rt, res_rt, asB_b, gIx_t, gIx_l, gAdd_i, gSub_i, gLt_i, gLe_i, gGt_i, gGe_i, eq_i, eq_s, ne_i, ne_s, gLen_t, gLen_l, gTup_l, gTup_t, strEq, Option.bind_some, List.getElem?_cons_zero, List.getElem?_cons_succ, List.set_cons_zero, List.set_cons_succ, List.replicate_succ, List.replicate_zero, Nat.reduceSub, Nat.reduceAdd, if_true, if_false, decide_true, decide_false, Bool.not_true, Bool.not_false, Bool.false_eq_true, String.reduceEq, reduceIte, List.length_cons, List.length_nil, Nat.reduceLeDiff, lim, b__fault_itself, Gn.data, List.map_cons, List.map_nil, e, gIsN, fltD]
  | some j =>
    rw [h] at e
    simp only [fSeq, fIfS, fRet, fAsg, fOwn, fApp, fExt, fBrk, fCnt, fDrop, fFrz, frz, fNext, fFor, fB, fAnd, fOr, fNot, fAndV, fOrV, fNotV, fIf, fChain, fOp, fUn, fVar, fC, fTup, fLst, fV, fCons, fNil, fCall, fCallL, fLenV, fSl, fPart, fNoPart, fStar, fAug, gS, gT, gN, gC, fSeqI, run_1, run_2, run_3, run_4, ix0, ix1, ix2, ix3, then_nx, then_rt, then_bk, then_ct, turn_nx, turn_ct, turn_bk, turn_rt, res_rt, asB_b, gIx_t, gIx_l, gAdd_i, gSub_i, gLt_i, gLe_i, gGt_i, gGe_i, eq_i, eq_s, ne_i, ne_s, gLen_t, gLen_l, gTup_l, gTup_t, strEq, Option.bind_some, List.getElem?_cons_zero, List.getElem?_cons_succ, List.set_cons_zero, List.set_cons_succ, List.replicate_succ, List.replicate_zero, Nat.reduceSub, Nat.reduceAdd, if_true, if_false, decide_true, decide_false, Bool.not_true, Bool.not_false, Bool.false_eq_true, String.reduceEq, reduceIte, List.length_cons, List.length_nil, Nat.reduceLeDiff, lim, b__fault_itself, Gn.data, List.map_cons, List.map_nil, e, isN_kd, reduceCtorEq, fltD]
theorem anyB_map {α : Type} {f : α → Bool} : ∀ l : List α, Sm.anyB (l.map fun x => .bool (f x)) = some (l.any f)
  | [] => rfl
  | x :: l => by
    show (Sm.anyB (l.map fun x => PyData.bool (f x))).bind _ = _
    rw [anyB_map l]
    rfl
theorem fault_one {gs : List Gn} (hk : ∀ k ∈ ks, OkK 10 k) (hl : ks.length ≤ 60) : D_fault fit [(Gn.one gs).data, .list (ks.map Kd.data)] = some (fltD (faultG (.one gs) ks)) := by
  unfold D_fault faultG
  show _ = some (fltD (if (1 : Int) ≤ (ks.length : Int) ∧ (ks.length : Int) ≤ 4 then (if ∃ k ∈ ks, k ≠ ks.headD .int then some "other kinds" else none) else some "wrong number"))
  by_cases h1 : (1 : Int) ≤ (ks.length : Int)
  · by_cases h4 : (ks.length : Int) ≤ 4
    · obtain ⟨k0, ks', rfl⟩ : ∃ k0 ks', ks = k0 :: ks' := by
        cases ks with
        | nil => exact absurd h1 (by decide)
        | cons a b => exact ⟨a, b, rfl⟩
      have hc : fComp (fSeqI (fVar 1)) (gS 3) (fun _ => some true) (fOp gNe (fVar 3) (fOp gIx (fVar 1) (fC (.int 0)))) [3] [.val (Gn.one gs).data, .val (.list ((k0 :: ks').map Kd.data)), .val (.str "one"), .un] = some ((k0 :: ks').map fun k => .bool (!decide (k = k0))) := by
        refine fComp_map (l := k0 :: ks') (f := Kd.data) (φ := fun k => .bool (!decide (k = k0))) (by simp only [fSeq, fIfS, fRet, fAsg, fOwn, fApp, fExt, fBrk, fCnt, fDrop, fFrz, frz, fNext, fFor, fB, fAnd, fOr, fNot, fAndV, fOrV, fNotV, fIf, fChain, fOp, fUn, fVar, fC, fTup, fLst, fV, fCons, fNil, fCall, fCallL, fLenV, fSl, fPart, fNoPart, fStar, fAug, gS, gT, gN, gC, fSeqI, run_1, run_2, run_3, run_4, ix0, ix1, ix2, ix3, then_nx, then_rt, then_bk, then_ct, turn_nx, turn_ct, turn_bk, turn_rt, res_rt, asB_b, gIx_t, gIx_l, gAdd_i, gSub_i, gLt_i, gLe_i, gGt_i, gGe_i, eq_i, eq_s, ne_i, ne_s, gLen_t, gLen_l, gTup_l, gTup_t, strEq, Option.bind_some, List.getElem?_cons_zero, List.getElem?_cons_succ, List.set_cons_zero, List.set_cons_succ, List.replicate_succ, List.replicate_zero, Nat.reduceSub, Nat.reduceAdd, if_true, if_false, decide_true, decide_false, Bool.not_true, Bool.not_false, Bool.false_eq_true, String.reduceEq, reduceIte, List.length_cons, List.length_nil, Nat.reduceLeDiff, lim]) (by omega) fun k hkm => ?_
        have hn := ne_kds (hk k hkm) (hk k0 List.mem_cons_self)
        simp only [fSeq, fIfS, fRet, fAsg, fOwn, fApp, fExt, fBrk, fCnt, fDrop, fFrz, frz, fNext, fFor, fB, fAnd, fOr, fNot, fAndV, fOrV, fNotV, fIf, fChain, fOp, fUn, fVar, fC, fTup, fLst, fV, fCons, fNil, fCall, fCallL, fLenV, fSl, fPart, fNoPart, fStar, fAug, gS, gT, gN, gC, fSeqI, run_1, run_2, run_3, run_4, ix0, ix1, ix2, ix3, then_nx, then_rt, then_bk, then_ct, turn_nx, turn_ct, turn_bk, turn_rt, res_rt, asB_b, gIx_t, gIx_l, gAdd_i, gSub_i, gLt_i, gLe_i, gGt_i, gGe_i, eq_i, eq_s, ne_i, ne_s, gLen_t, gLen_l, gTup_l, gTup_t, strEq, Option.bind_some, List.getElem?_cons_zero, List.getElem?_cons_succ, List.set_cons_zero, List.set_cons_succ, List.replicate_succ, List.replicate_zero, Nat.reduceSub, Nat.reduceAdd, if_true, if_false, decide_true, decide_false, Bool.not_true, Bool.not_false, Bool.false_eq_true, String.reduceEq, reduceIte, List.length_cons, List.length_nil, Nat.reduceLeDiff, lim, cStep, Sm.wpS, List.map_cons, hn]
      have ha : gAny [.list ((k0 :: ks').map fun k => .bool (!decide (k = k0)))] = some (.bool ((k0 :: ks').any fun k => !decide (k = k0))) := by
        show (Sm.anyB _).bind _ = _
        rw [anyB_map]
        rfl
      have hb : ((k0 :: ks').any fun k => !decide (k = k0)) = decide (∃ k ∈ k0 :: ks', k ≠ k0) := by
        rw [Bool.eq_iff_iff, List.any_eq_true, decide_eq_true_iff]
        constructor
        · rintro ⟨k, h, e⟩
          exact ⟨k, h, by simpa using e⟩
        · rintro ⟨k, h, e⟩
          exact ⟨k, h, by simpa using e⟩
      rw [hb] at ha
      rw [if_pos ⟨h1, h4⟩]
      show _ = some (fltD (if ∃ k ∈ k0 :: ks', k ≠ k0 then some "other kinds" else none))
      generalize (k0 :: ks').map (fun k => PyData.bool (!decide (k = k0))) = L at hc ha
      generalize hKL : (k0 :: ks').map Kd.data = KL at hc ⊢
      have hlen : (KL.length : Int) = ((k0 :: ks').length : Int) := by rw [← hKL, List.length_map]
      generalize (k0 :: ks').length = m at h1 h4 hlen
      simp only [Gn.data] at hc
      by_cases hx : ∃ k ∈ k0 :: ks', k ≠ k0
      · rw [decide_eq_true hx] at ha
        rw [if_pos hx]
        simp only [fSeq, fIfS, fRet, fAsg, fOwn, fApp, fExt, fBrk, fCnt, fDrop, fFrz, frz, fNext, fFor, fB, fAnd, fOr, fNot, fAndV, fOrV, fNotV, fIf, fChain, fOp, fUn, fVar, fC, fTup, fLst, fV, fCons, fNil, fCall, fCallL, fLenV, fSl, fPart, fNoPart, fStar, fAug, gS, gT, gN, gC, fSeqI, run_1, run_2, run_3, run_4, ix0, ix1, ix2, ix3, then_nx, then_rt, then_bk, then_ct, turn_nx, turn_ct, turn_bk, turn_rt, res_rt, asB_b, gIx_t, gIx_l, gAdd_i, gSub_i, gLt_i, gLe_i, gGt_i, gGe_i, eq_i, eq_s, ne_i, ne_s, gLen_t, gLen_l, gTup_l, gTup_t, strEq, Option.bind_some, List.getElem?_cons_zero, List.getElem?_cons_succ, List.set_cons_zero, List.set_cons_succ, List.replicate_succ, List.replicate_zero, Nat.reduceSub, Nat.reduceAdd, if_true, if_false, decide_true, decide_false, Bool.not_true, Bool.not_false, Bool.false_eq_true, String.reduceEq, reduceIte, List.length_cons, List.length_nil, Nat.reduceLeDiff, lim, b__fault_itself, Gn.data, hlen, h1, h4, hc, ha, fltD]
      · rw [decide_eq_false hx] at ha
        rw [if_neg hx]
        simp only [fSeq, fIfS, fRet, fAsg, fOwn, fApp, fExt, fBrk, fCnt, fDrop, fFrz, frz, fNext, fFor, fB, fAnd, fOr, fNot, fAndV, fOrV, fNotV, fIf, fChain, fOp, fUn, fVar, fC, fTup, fLst, fV, fCons, fNil, fCall, fCallL, fLenV, fSl, fPart, fNoPart, fStar, fAug, gS, gT, gN, gC, fSeqI, run_1, run_2, run_3, run_4, ix0, ix1, ix2, ix3, then_nx, then_rt, then_bk, then_ct, turn_nx, turn_ct, turn_bk, turn_rt, res_rt, asB_b, gIx_t, gIx_l, gAdd_i, gSub_i, gLt_i, gLe_i, gGt_i, gGe_i, eq_i, eq_s, ne_i, ne_s, gLen_t, gLen_l, gTup_l, gTup_t, strEq, Option.bind_some, List.getElem?_cons_zero, List.getElem?_cons_succ, List.set_cons_zero, List.set_cons_succ, List.replicate_succ, List.replicate_zero, Nat.reduceSub, Nat.reduceAdd, if_true, if_false, decide_true, decide_false, Bool.not_true, Bool.not_false, Bool.false_eq_true, String.reduceEq, reduceIte, List.length_cons, List.length_nil, Nat.reduceLeDiff, lim, b__fault_itself, Gn.data, hlen, h1, h4, hc, ha, fltD]
    · rw [if_neg fun h => h4 h.2]
      simp only [fSeq, fIfS, fRet, fAsg, fOwn, fApp, fExt, fBrk, fCnt, fDrop, fFrz, frz, fNext, fFor, fB, fAnd, fOr, fNot, fAndV, fOrV, fNotV, fIf, fChain, fOp, fUn, fVar, fC, fTup, fLst, fV, fCons, fNil, fCall, fCallL, fLenV, fSl, fPart, fNoPart, fStar, fAug, gS, gT, gN, gC, fSeqI, run_1, run_2, run_3, run_4, ix0, ix1, ix2, ix3, then_nx, then_rt, then_bk, then_ct, turn_nx, turn_ct, turn_bk, turn_rt, res_rt, asB_b, gIx_t, gIx_l, gAdd_i, gSub_i, gLt_i, gLe_i, gGt_i, gGe_i, eq_i, eq_s, ne_i, ne_s, gLen_t, gLen_l, gTup_l, gTup_t, strEq, Option.bind_some, List.getElem?_cons_zero, List.getElem?_cons_succ, List.set_cons_zero, List.set_cons_succ, List.replicate_succ, List.replicate_zero, Nat.reduceSub, Nat.reduceAdd, if_true, if_false, decide_true, decide_false, Bool.not_true, Bool.not_false, Bool.false_eq_true, String.reduceEq, reduceIte, List.length_cons, List.length_nil, Nat.reduceLeDiff, lim, b__fault_itself, Gn.data, List.length_map, h1, h4, fltD]
  · rw [if_neg fun h => h1 h.1]
    simp only [fSeq, fIfS, fRet, fAsg, fOwn, fApp, fExt, fBrk, fCnt, fDrop, fFrz, frz, fNext, fFor, fB, fAnd, fOr, fNot, fAndV, fOrV, fNotV, fIf, fChain, fOp, fUn, fVar, fC, fTup, fLst, fV, fCons, fNil, fCall, fCallL, fLenV, fSl, fPart, fNoPart, fStar, fAug, gS, gT, gN, gC, fSeqI, run_1, run_2, run_3, run_4, ix0, ix1, ix2, ix3, then_nx, then_rt, then_bk, then_ct, turn_nx, turn_ct, turn_bk, turn_rt, res_rt, asB_b, gIx_t, gIx_l, gAdd_i, gSub_i, gLt_i, gLe_i, gGt_i, gGe_i, eq_i, eq_s, ne_i, ne_s, gLen_t, gLen_l, gTup_l, gTup_t, strEq, Option.bind_some, List.getElem?_cons_zero, List.getElem?_cons_succ, List.set_cons_zero, List.set_cons_succ, List.replicate_succ, List.replicate_zero, Nat.reduceSub, Nat.reduceAdd, if_true, if_false, decide_true, decide_false, Bool.not_true, Bool.not_false, Bool.false_eq_true, String.reduceEq, reduceIte, List.length_cons, List.length_nil, Nat.reduceLeDiff, lim, b__fault_itself, Gn.data, List.length_map, h1, fltD]
theorem fault_repeat {g h : Gn} {k j : Kd} (hk : OkK 10 k) : D_fault fit [(Gn.repeat_ g h).data, .list ([k, j].map Kd.data)] = some (fltD (faultG (.repeat_ g h) [k, j])) := by
  have hn : gNe k.data (.str "int") = some (.bool (!decide (k = .int))) := by
    have := ne_kds (j := .int) hk .int
    rwa [Kd.data] at this
  unfold D_fault faultG
  show _ = some (fltD (if k = .int then none else some "does not fit"))
  by_cases h : k = .int
  · rw [decide_eq_true h] at hn
    rw [if_pos h]
    simp only [fSeq, fIfS, fRet, fAsg, fOwn, fApp, fExt, fBrk, fCnt, fDrop, fFrz, frz, fNext, fFor, fB, fAnd, fOr, fNot, fAndV, fOrV, fNotV, fIf, fChain, fOp, fUn, fVar, fC, fTup, fLst, fV, fCons, fNil, fCall, fCallL, fLenV, fSl, fPart, fNoPart, fStar, fAug, gS, gT, gN, gC, fSeqI, run_1, run_2, run_3, run_4, ix0, ix1, ix2, ix3, then_nx, then_rt, then_bk, then_ct, turn_nx, turn_ct, turn_bk, turn_rt, res_rt, asB_b, gIx_t, gIx_l, gAdd_i, gSub_i, gLt_i, gLe_i, gGt_i, gGe_i, eq_i, eq_s, ne_i, ne_s, gLen_t, gLen_l, gTup_l, gTup_t, strEq, Option.bind_some, List.getElem?_cons_zero, List.getElem?_cons_succ, List.set_cons_zero, List.set_cons_succ, List.replicate_succ, List.replicate_zero, Nat.reduceSub, Nat.reduceAdd, if_true, if_false, decide_true, decide_false, Bool.not_true, Bool.not_false, Bool.false_eq_true, String.reduceEq, reduceIte, List.length_cons, List.length_nil, Nat.reduceLeDiff, lim, b__fault_itself, Gn.data, List.map_cons, List.map_nil, hn, fltD]
  · rw [decide_eq_false h] at hn
    rw [if_neg h]
    simp only [fSeq, fIfS, fRet, fAsg, fOwn, fApp, fExt, fBrk, fCnt, fDrop, fFrz, frz, fNext, fFor, fB, fAnd, fOr, fNot, fAndV, fOrV, fNotV, fIf, fChain, fOp, fUn, fVar, fC, fTup, fLst, fV, fCons, fNil, fCall, fCallL, fLenV, fSl, fPart, fNoPart, fStar, fAug, gS, gT, gN, gC, fSeqI, run_1, run_2, run_3, run_4, ix0, ix1, ix2, ix3, then_nx, then_rt, then_bk, then_ct, turn_nx, turn_ct, turn_bk, turn_rt, res_rt, asB_b, gIx_t, gIx_l, gAdd_i, gSub_i, gLt_i, gLe_i, gGt_i, gGe_i, eq_i, eq_s, ne_i, ne_s, gLen_t, gLen_l, gTup_l, gTup_t, strEq, Option.bind_some, List.getElem?_cons_zero, List.getElem?_cons_succ, List.set_cons_zero, List.set_cons_succ, List.replicate_succ, List.replicate_zero, Nat.reduceSub, Nat.reduceAdd, if_true, if_false, decide_true, decide_false, Bool.not_true, Bool.not_false, Bool.false_eq_true, String.reduceEq, reduceIte, List.length_cons, List.length_nil, Nat.reduceLeDiff, lim, b__fault_itself, Gn.data, List.map_cons, List.map_nil, hn, fltD]
theorem m_fault (hf : FitOk fit) {n : Nat} {g : Gn} (ho : OkGk 10 n g) (hk : ∀ k ∈ ks, OkK 10 k) (hl : ks.length = (partsG g).length) : D_fault fit [g.data, .list (ks.map Kd.data)] = some (fltD (faultG g ks)) := by
  have hp60 := ho.parts_len
  cases g with
  | int a b => exact fault_int
  | pick ws => cases ho with | pick h1 h2 => exact fault_pick h1 fun w hw => (h2 w hw).2
  | tuple gs => exact fault_tuple
  | list g a b => exact fault_list
  | one gs => exact fault_one hk (by omega)
  | kept g c =>
    match ks, hl with
    | [k], _ => cases ho with | kept _ hc => exact fault_kept (hf c k hc (hk k List.mem_cons_self))
  | turned g m =>
    match ks, hl with
    | [k], _ => exact fault_turned (hk k List.mem_cons_self)
  | repeat_ g h =>
    match ks, hl with
    | [k, j], _ => exact fault_repeat (hk k List.mem_cons_self)
theorem m_made {n : Nat} {g : Gn} (ho : OkGk 10 n g) (hk : ∀ k ∈ ks, OkK 10 k) (hl : ks.length = (partsG g).length) (hf : faultG g ks = none) : D_made [g.data, .list (ks.map Kd.data)] = some (madeG g ks).data := by
  unfold D_made
  cases g with
  | int a b => simp only [fSeq, fIfS, fRet, fAsg, fOwn, fApp, fExt, fBrk, fCnt, fDrop, fFrz, frz, fNext, fFor, fB, fAnd, fOr, fNot, fAndV, fOrV, fNotV, fIf, fChain, fOp, fUn, fVar, fC, fTup, fLst, fV, fCons, fNil, fCall, fCallL, fLenV, fSl, fPart, fNoPart, fStar, fAug, gS, gT, gN, gC, fSeqI, run_1, run_2, run_3, run_4, ix0, ix1, ix2, ix3, then_nx, then_rt, then_bk, then_ct, turn_nx, turn_ct, turn_bk, turn_rt, res_rt, asB_b, gIx_t, gIx_l, gAdd_i, gSub_i, gLt_i, gLe_i, gGt_i, gGe_i, eq_i, eq_s, ne_i, ne_s, gLen_t, gLen_l, gTup_l, gTup_t, strEq, Option.bind_some, List.getElem?_cons_zero, List.getElem?_cons_succ, List.set_cons_zero, List.set_cons_succ, List.replicate_succ, List.replicate_zero, Nat.reduceSub, Nat.reduceAdd, if_true, if_false, decide_true, decide_false, Bool.not_true, Bool.not_false, Bool.false_eq_true, String.reduceEq, reduceIte, List.length_cons, List.length_nil, Nat.reduceLeDiff, lim, b__kind_made, Gn.data, Kd.data, madeG]
  | pick ws => simp only [fSeq, fIfS, fRet, fAsg, fOwn, fApp, fExt, fBrk, fCnt, fDrop, fFrz, frz, fNext, fFor, fB, fAnd, fOr, fNot, fAndV, fOrV, fNotV, fIf, fChain, fOp, fUn, fVar, fC, fTup, fLst, fV, fCons, fNil, fCall, fCallL, fLenV, fSl, fPart, fNoPart, fStar, fAug, gS, gT, gN, gC, fSeqI, run_1, run_2, run_3, run_4, ix0, ix1, ix2, ix3, then_nx, then_rt, then_bk, then_ct, turn_nx, turn_ct, turn_bk, turn_rt, res_rt, asB_b, gIx_t, gIx_l, gAdd_i, gSub_i, gLt_i, gLe_i, gGt_i, gGe_i, eq_i, eq_s, ne_i, ne_s, gLen_t, gLen_l, gTup_l, gTup_t, strEq, Option.bind_some, List.getElem?_cons_zero, List.getElem?_cons_succ, List.set_cons_zero, List.set_cons_succ, List.replicate_succ, List.replicate_zero, Nat.reduceSub, Nat.reduceAdd, if_true, if_false, decide_true, decide_false, Bool.not_true, Bool.not_false, Bool.false_eq_true, String.reduceEq, reduceIte, List.length_cons, List.length_nil, Nat.reduceLeDiff, lim, b__kind_made, Gn.data, Kd.data, madeG]
  | tuple gs => simp only [fSeq, fIfS, fRet, fAsg, fOwn, fApp, fExt, fBrk, fCnt, fDrop, fFrz, frz, fNext, fFor, fB, fAnd, fOr, fNot, fAndV, fOrV, fNotV, fIf, fChain, fOp, fUn, fVar, fC, fTup, fLst, fV, fCons, fNil, fCall, fCallL, fLenV, fSl, fPart, fNoPart, fStar, fAug, gS, gT, gN, gC, fSeqI, run_1, run_2, run_3, run_4, ix0, ix1, ix2, ix3, then_nx, then_rt, then_bk, then_ct, turn_nx, turn_ct, turn_bk, turn_rt, res_rt, asB_b, gIx_t, gIx_l, gAdd_i, gSub_i, gLt_i, gLe_i, gGt_i, gGe_i, eq_i, eq_s, ne_i, ne_s, gLen_t, gLen_l, gTup_l, gTup_t, strEq, Option.bind_some, List.getElem?_cons_zero, List.getElem?_cons_succ, List.set_cons_zero, List.set_cons_succ, List.replicate_succ, List.replicate_zero, Nat.reduceSub, Nat.reduceAdd, if_true, if_false, decide_true, decide_false, Bool.not_true, Bool.not_false, Bool.false_eq_true, String.reduceEq, reduceIte, List.length_cons, List.length_nil, Nat.reduceLeDiff, lim, b__kind_made, Gn.data, Kd.data, dataAll_map, madeG]
  | list g a b =>
    match ks, hl with
    | [k], _ => simp only [fSeq, fIfS, fRet, fAsg, fOwn, fApp, fExt, fBrk, fCnt, fDrop, fFrz, frz, fNext, fFor, fB, fAnd, fOr, fNot, fAndV, fOrV, fNotV, fIf, fChain, fOp, fUn, fVar, fC, fTup, fLst, fV, fCons, fNil, fCall, fCallL, fLenV, fSl, fPart, fNoPart, fStar, fAug, gS, gT, gN, gC, fSeqI, run_1, run_2, run_3, run_4, ix0, ix1, ix2, ix3, then_nx, then_rt, then_bk, then_ct, turn_nx, turn_ct, turn_bk, turn_rt, res_rt, asB_b, gIx_t, gIx_l, gAdd_i, gSub_i, gLt_i, gLe_i, gGt_i, gGe_i, eq_i, eq_s, ne_i, ne_s, gLen_t, gLen_l, gTup_l, gTup_t, strEq, Option.bind_some, List.getElem?_cons_zero, List.getElem?_cons_succ, List.set_cons_zero, List.set_cons_succ, List.replicate_succ, List.replicate_zero, Nat.reduceSub, Nat.reduceAdd, if_true, if_false, decide_true, decide_false, Bool.not_true, Bool.not_false, Bool.false_eq_true, String.reduceEq, reduceIte, List.length_cons, List.length_nil, Nat.reduceLeDiff, lim, b__kind_made, Gn.data, Kd.data, List.map_cons, List.map_nil, madeG, List.headD_cons]
  | one gs =>
    cases ks with
    | nil =>
      unfold faultG at hf
      simp at hf
    | cons k ks' => simp only [fSeq, fIfS, fRet, fAsg, fOwn, fApp, fExt, fBrk, fCnt, fDrop, fFrz, frz, fNext, fFor, fB, fAnd, fOr, fNot, fAndV, fOrV, fNotV, fIf, fChain, fOp, fUn, fVar, fC, fTup, fLst, fV, fCons, fNil, fCall, fCallL, fLenV, fSl, fPart, fNoPart, fStar, fAug, gS, gT, gN, gC, fSeqI, run_1, run_2, run_3, run_4, ix0, ix1, ix2, ix3, then_nx, then_rt, then_bk, then_ct, turn_nx, turn_ct, turn_bk, turn_rt, res_rt, asB_b, gIx_t, gIx_l, gAdd_i, gSub_i, gLt_i, gLe_i, gGt_i, gGe_i, eq_i, eq_s, ne_i, ne_s, gLen_t, gLen_l, gTup_l, gTup_t, strEq, Option.bind_some, List.getElem?_cons_zero, List.getElem?_cons_succ, List.set_cons_zero, List.set_cons_succ, List.replicate_succ, List.replicate_zero, Nat.reduceSub, Nat.reduceAdd, if_true, if_false, decide_true, decide_false, Bool.not_true, Bool.not_false, Bool.false_eq_true, String.reduceEq, reduceIte, List.length_cons, List.length_nil, Nat.reduceLeDiff, lim, b__kind_made, Gn.data, List.map_cons, madeG, List.headD_cons]
  | kept g c =>
    match ks, hl with
    | [k], _ => simp only [fSeq, fIfS, fRet, fAsg, fOwn, fApp, fExt, fBrk, fCnt, fDrop, fFrz, frz, fNext, fFor, fB, fAnd, fOr, fNot, fAndV, fOrV, fNotV, fIf, fChain, fOp, fUn, fVar, fC, fTup, fLst, fV, fCons, fNil, fCall, fCallL, fLenV, fSl, fPart, fNoPart, fStar, fAug, gS, gT, gN, gC, fSeqI, run_1, run_2, run_3, run_4, ix0, ix1, ix2, ix3, then_nx, then_rt, then_bk, then_ct, turn_nx, turn_ct, turn_bk, turn_rt, res_rt, asB_b, gIx_t, gIx_l, gAdd_i, gSub_i, gLt_i, gLe_i, gGt_i, gGe_i, eq_i, eq_s, ne_i, ne_s, gLen_t, gLen_l, gTup_l, gTup_t, strEq, Option.bind_some, List.getElem?_cons_zero, List.getElem?_cons_succ, List.set_cons_zero, List.set_cons_succ, List.replicate_succ, List.replicate_zero, Nat.reduceSub, Nat.reduceAdd, if_true, if_false, decide_true, decide_false, Bool.not_true, Bool.not_false, Bool.false_eq_true, String.reduceEq, reduceIte, List.length_cons, List.length_nil, Nat.reduceLeDiff, lim, b__kind_made, Gn.data, List.map_cons, List.map_nil, madeG, List.headD_cons]
  | turned g m =>
    match ks, hl, hf with
    | [k], _, hf =>
      have e := m_behind m k ⟨10, hk k List.mem_cons_self, by decide⟩
      have hf : (if behind m k = none then some ("does not fit" : Str) else none) = none := hf
      cases h : behind m k with
      | none => rw [if_pos h] at hf; cases hf
      | some j =>
        rw [h] at e
        have hm : madeG (.turned g m) [k] = j := by
          show (behind m k).getD .int = j
          rw [h]
          rfl
        rw [hm]
        simp only [fSeq, fIfS, fRet, fAsg, fOwn, fApp, fExt, fBrk, fCnt, fDrop, fFrz, frz, fNext, fFor, fB, fAnd, fOr, fNot, fAndV, fOrV, fNotV, fIf, fChain, fOp, fUn, fVar, fC, fTup, fLst, fV, fCons, fNil, fCall, fCallL, fLenV, fSl, fPart, fNoPart, fStar, fAug, gS, gT, gN, gC, fSeqI, run_1, run_2, run_3, run_4, ix0, ix1, ix2, ix3, then_nx, then_rt, then_bk, then_ct, turn_nx, turn_ct, turn_bk, turn_rt, res_rt, asB_b, gIx_t, gIx_l, gAdd_i, gSub_i, gLt_i, gLe_i, gGt_i, gGe_i, eq_i, eq_s, ne_i, ne_s, gLen_t, gLen_l, gTup_l, gTup_t, strEq, Option.bind_some, List.getElem?_cons_zero, List.getElem?_cons_succ, List.set_cons_zero, List.set_cons_succ, List.replicate_succ, List.replicate_zero, Nat.reduceSub, Nat.reduceAdd, if_true, if_false, decide_true, decide_false, Bool.not_true, Bool.not_false, Bool.false_eq_true, String.reduceEq, reduceIte, List.length_cons, List.length_nil, Nat.reduceLeDiff, lim, b__kind_made, Gn.data, List.map_cons, List.map_nil, e]
  | repeat_ g h =>
    match ks, hl with
    | [k, j], _ => simp only [fSeq, fIfS, fRet, fAsg, fOwn, fApp, fExt, fBrk, fCnt, fDrop, fFrz, frz, fNext, fFor, fB, fAnd, fOr, fNot, fAndV, fOrV, fNotV, fIf, fChain, fOp, fUn, fVar, fC, fTup, fLst, fV, fCons, fNil, fCall, fCallL, fLenV, fSl, fPart, fNoPart, fStar, fAug, gS, gT, gN, gC, fSeqI, run_1, run_2, run_3, run_4, ix0, ix1, ix2, ix3, then_nx, then_rt, then_bk, then_ct, turn_nx, turn_ct, turn_bk, turn_rt, res_rt, asB_b, gIx_t, gIx_l, gAdd_i, gSub_i, gLt_i, gLe_i, gGt_i, gGe_i, eq_i, eq_s, ne_i, ne_s, gLen_t, gLen_l, gTup_l, gTup_t, strEq, Option.bind_some, List.getElem?_cons_zero, List.getElem?_cons_succ, List.set_cons_zero, List.set_cons_succ, List.replicate_succ, List.replicate_zero, Nat.reduceSub, Nat.reduceAdd, if_true, if_false, decide_true, decide_false, Bool.not_true, Bool.not_false, Bool.false_eq_true, String.reduceEq, reduceIte, List.length_cons, List.length_nil, Nat.reduceLeDiff, lim, b__kind_made, Gn.data, Kd.data, List.map_cons, List.map_nil, madeG, List.drop_succ_cons, List.drop_zero, List.headD_cons]
end
end Fb
namespace Fb
open PySem PySem.Spec PyProof.Rows L2 Evl CrT Cr Sm Classical
theorem looks_inl {f : Gn → List Int → Rs} : ∀ {gs : List Gn} {k : Nat} {p : List Int} {ks : List Kd}, looks f gs k p = .inl ks → ks.length = gs.length ∧ ∀ kd ∈ ks, ∃ g ∈ gs, ∃ q, f g q = .inl kd
  | [], k, p, ks, h => by
    unfold looks at h
    cases h
    exact ⟨rfl, fun _ h => nomatch h⟩
  | g :: gs, k, p, ks, h => by
    unfold looks at h
    cases e : f g (p ++ [(k : Int)]) with
    | inr z => rw [e] at h; cases h
    | inl kd =>
      rw [e] at h
      dsimp only at h
      cases e2 : looks f gs (k + 1) p with
      | inr z => rw [e2] at h; cases h
      | inl ks' =>
        rw [e2] at h
        cases h
        obtain ⟨h1, h2⟩ := looks_inl e2
        refine ⟨by rw [List.length_cons, List.length_cons, h1], fun j hj => ?_⟩
        rcases List.mem_cons.mp hj with rfl | hj
        · exact ⟨g, List.mem_cons_self, _, e⟩
        · obtain ⟨g', hg, q, e3⟩ := h2 j hj
          exact ⟨g', List.mem_cons_of_mem _ hg, q, e3⟩
theorem made_ok {n : Nat} {g : Gn} {ks : List Kd} (hk : ∀ k ∈ ks, OkK n k) (hn : 0 < n ∨ partsG g = []) (hl : ks.length = (partsG g).length) (hf : faultG g ks = none) : OkK (n + 1) (madeG g ks) := by
  cases g with
  | int a b => exact .int
  | pick ws => exact .word
  | tuple gs =>
    have hf : (if (4 : Int) < (ks.length : Int) then some ("wrong number" : Str) else none) = none := hf
    refine .tup ?_ hk
    by_cases h : (4 : Int) < (ks.length : Int)
    · rw [if_pos h] at hf; cases hf
    · omega
  | list g a b =>
    match ks, hl, hk with
    | [k], _, hk => exact .lst (hk k List.mem_cons_self)
  | one gs =>
    cases ks with
    | nil =>
      unfold faultG at hf
      simp at hf
    | cons k ks' => exact (hk k List.mem_cons_self).mono (by omega)
  | kept g c =>
    match ks, hl, hk with
    | [k], _, hk => exact (hk k List.mem_cons_self).mono (by omega)
  | turned g m =>
    match ks, hl, hk, hf with
    | [k], _, hk, hf =>
      have hf : (if behind m k = none then some ("does not fit" : Str) else none) = none := hf
      show OkK (n + 1) ((behind m k).getD .int)
      cases h : behind m k with
      | none => rw [if_pos h] at hf; cases hf
      | some j => exact (behind_ok h (hk k List.mem_cons_self)).mono (by omega)
  | repeat_ g h =>
    match ks, hl, hk with
    | [k, j], _, hk => exact .lst (hk j (List.mem_cons_of_mem _ List.mem_cons_self))
theorem look_ok : ∀ (n : Nat) {g : Gn} {p : List Int} {kd : Kd}, OkGk 10 n g → lookN n g p = .inl kd → OkK n kd
  | 0, g, p, kd, ho, _ => absurd ho.pos (by omega)
  | n + 1, g, p, kd, ho, h => by
    unfold lookN at h
    cases e : looks (lookN n) (partsG g) 0 p with
    | inr z => rw [e] at h; cases h
    | inl ks =>
      rw [e] at h
      dsimp only at h
      obtain ⟨h1, h2⟩ := looks_inl e
      have hk : ∀ k ∈ ks, OkK n k := fun k hk => by
        obtain ⟨g', hg, q, e3⟩ := h2 k hk
        exact look_ok n (ho.parts g' hg) e3
      cases hf : faultG g ks with
      | some w => rw [hf] at h; cases h
      | none =>
        rw [hf] at h
        cases h
        refine made_ok hk ?_ h1 hf
        cases hp : partsG g with
        | nil => exact .inr rfl
        | cons g' gs =>
          have := (ho.parts g' (by rw [hp]; exact List.mem_cons_self)).pos
          exact .inl this
def D_katA (fit : Fn) : Nat → FnX
  | 0 => fun _ => none
  | n + 1 => runX 6 2 (bx__kind_all (D_katA fit n) D_parts (D_fault fit) D_made)
theorem kat_step {F : FnX} {G d : PyData} {p : List Int} {k : Nat} (hp : p.length ≤ 1000) : cStepX (gT 2 (gC (gS 4) (gC (gS 5) gN))) (fun _ => some true) (xCall F (fCons (fVar 5) (fCons (fTup (fStar (fVar 1) (fCons (fVar 4) fNil))) fNil))) (wpS [.val G, .val (rowD p), .un, .un, .un, .un] [4, 5]) (.tuple [.int (k : Int), d]) = (F [d, rowD (p ++ [(k : Int)])]).bind fun y => some (some y) := by
  have e : fTup (fStar (fVar 1) (fCons (fVar 4) fNil)) [.val G, .val (rowD p), .un, .un, .val (.int (k : Int)), .val d] = some (rowD (p ++ [(k : Int)])) := by
    show lim _ _ = _
    unfold lim
    rw [if_pos (by rw [List.length_append, List.length_map, List.length_singleton]; omega)]
    unfold rowD
    rw [List.map_append]
    rfl
  have e2 : fCons (fVar 5) (fCons (fTup (fStar (fVar 1) (fCons (fVar 4) fNil))) fNil) [.val G, .val (rowD p), .un, .un, .val (.int (k : Int)), .val d] = some [d, rowD (p ++ [(k : Int)])] := by
    have h5 : fVar 5 [.val G, .val (rowD p), .un, .un, .val (.int (k : Int)), .val d] = some d := rfl
    simp only [fCons, fNil, h5, e, Option.bind_some]
  show ((xCall F _ [.val G, .val (rowD p), .un, .un, .val (.int (k : Int)), .val d]).bind fun y => some (some y)) = _
  unfold xCall
  rw [e2, Option.bind_some]
def outL2 : List Kd ⊕ (Str × List Int) → List PyData ⊕ Err
  | .inl ks => .inl (ks.map Kd.data)
  | .inr (w, p) => .inr ⟨0, .str w, rowD p⟩
theorem kat_list {F : FnX} {G : PyData} {p : List Int} {n : Nat} (hp : p.length ≤ 1000) : ∀ (gs : List Gn) (k : Nat), (∀ g ∈ gs, ∀ j : Nat, j < k + gs.length → F [g.data, rowD (p ++ [(j : Int)])] = some (outK (lookN n g (p ++ [(j : Int)])))) →
    compMX (cStepX (gT 2 (gC (gS 4) (gC (gS 5) gN))) (fun _ => some true) (xCall F (fCons (fVar 5) (fCons (fTup (fStar (fVar 1) (fCons (fVar 4) fNil))) fNil))) (wpS [.val G, .val (rowD p), .un, .un, .un, .un] [4, 5])) (enuD k (gs.map Gn.data)) = some (outL2 (looks (lookN n) gs k p))
  | [], k, _ => rfl
  | g :: gs, k, h => by
    have h0 := h g List.mem_cons_self k (by rw [List.length_cons]; omega)
    have ih := kat_list (G := G) hp gs (k + 1) fun g' hg j hj => h g' (List.mem_cons_of_mem _ hg) j (by rw [List.length_cons]; omega)
    rw [List.map_cons]
    show ((cStepX _ _ _ _ (.tuple [.int (k : Int), g.data])).bind _) = _
    rw [kat_step hp, h0, Option.bind_some, Option.bind_some]
    unfold looks
    cases e : lookN n g (p ++ [(k : Int)]) with
    | inr z => rfl
    | inl kd =>
      show ((compMX _ (enuD (k + 1) (gs.map Gn.data))).bind _) = _
      rw [ih, Option.bind_some]
      cases looks (lookN n) gs (k + 1) p with
      | inr z => rfl
      | inl ks => rfl
theorem enuD_len : ∀ (ds : List PyData) (k : Nat), (enuD k ds).length = ds.length
  | [], _ => rfl
  | d :: ds, k => by
    show (enuD (k + 1) ds).length + 1 = _
    rw [enuD_len ds (k + 1)]
    rfl
theorem x_seqI {f g : FSX} {ρ ρ' : List Sl} (h : f ρ = some (.inl (.nx, ρ'))) : xSeq f g ρ = g ρ' := by
  unfold xSeq
  rw [h]
  rfl
theorem x_seqE {f g : FSX} {ρ : List Sl} {e : Err × List Sl} (h : f ρ = some (.inr e)) : xSeq f g ρ = some (.inr e) := by
  unfold xSeq
  rw [h]
  rfl
theorem fault_len {g : Gn} {ks : List Kd} {w : Str} (h : faultG g ks = some w) : w.length ≤ 1000 := by
  unfold faultG at h
  split at h <;> (split at h <;> first | (cases h; done) | (cases h; decide +kernel) | (split at h <;> first | (cases h; done) | (cases h; decide +kernel)))
theorem small_row : ∀ {p : List Int}, (∀ i ∈ p, i.natAbs < 1000) → smallI (p.map .int) = true
  | [], _ => rfl
  | i :: p, h => by
    show (decide (i.natAbs < 1000) && smallI (p.map .int)) = true
    rw [decide_eq_true (h i List.mem_cons_self), small_row fun j hj => h j (List.mem_cons_of_mem _ hj)]
    rfl
theorem m_katA {fit : Fn} (hf : FitOk fit) : ∀ (n : Nat) {g : Gn} (p : List Int), OkGk 10 n g → n ≤ 10 → p.length + n ≤ 999 → (∀ i ∈ p, i.natAbs < 1000) → D_katA fit n [g.data, rowD p] = some (outK (lookN n g p))
  | 0, g, p, ho, _, _, _ => absurd ho.pos (by omega)
  | n + 1, g, p, ho, hn, hp, hs => by
    have hpl := ho.parts_len
    have hpt := m_parts g
    have hc : xComp (fEnu (fCons (fCall D_parts (fCons (fVar 0) fNil)) fNil)) (gT 2 (gC (gS 4) (gC (gS 5) gN))) (fun _ => some true) (xCall (D_katA fit n) (fCons (fVar 5) (fCons (fTup (fStar (fVar 1) (fCons (fVar 4) fNil))) fNil))) [4, 5] [.val g.data, .val (rowD p), .un, .un, .un, .un] = some (match looks (lookN n) (partsG g) 0 p with
        | .inl ks => .inl (.list (ks.map Kd.data))
        | .inr (w, q) => .inr ⟨0, .str w, rowD q⟩) := by
      have hi : fEnu (fCons (fCall D_parts (fCons (fVar 0) fNil)) fNil) [.val g.data, .val (rowD p), .un, .un, .un, .un] = some (enuD 0 ((partsG g).map Gn.data)) := by
        simp only [fSeq, fIfS, fRet, fAsg, fOwn, fApp, fExt, fBrk, fCnt, fDrop, fFrz, frz, fNext, fFor, fB, fAnd, fOr, fNot, fAndV, fOrV, fNotV, fIf, fChain, fOp, fUn, fVar, fC, fTup, fLst, fV, fCons, fNil, fCall, fCallL, fLenV, fSl, fPart, fNoPart, fStar, fAug, gS, gT, gN, gC, fSeqI, run_1, run_2, run_3, run_4, ix0, ix1, ix2, ix3, then_nx, then_rt, then_bk, then_ct, turn_nx, turn_ct, turn_bk, turn_rt, res_rt, asB_b, gIx_t, gIx_l, gAdd_i, gSub_i, gLt_i, gLe_i, gGt_i, gGe_i, eq_i, eq_s, ne_i, ne_s, gLen_t, gLen_l, gTup_l, gTup_t, strEq, Option.bind_some, List.getElem?_cons_zero, List.getElem?_cons_succ, List.set_cons_zero, List.set_cons_succ, List.replicate_succ, List.replicate_zero, Nat.reduceSub, Nat.reduceAdd, if_true, if_false, decide_true, decide_false, Bool.not_true, Bool.not_false, Bool.false_eq_true, String.reduceEq, reduceIte, List.length_cons, List.length_nil, Nat.reduceLeDiff, lim, fEnu, hpt]
      have hl : (enuD 0 ((partsG g).map Gn.data)).length ≤ 10000000 := by
        rw [enuD_len, List.length_map]
        omega
      have hk := kat_list (F := D_katA fit n) (G := g.data) (p := p) (n := n) (by omega) (partsG g) 0 fun g' hg j hj => m_katA hf n (p ++ [(j : Int)]) (ho.parts g' hg) (by omega) (by rw [List.length_append, List.length_singleton]; omega) fun i hi => by
        rcases List.mem_append.mp hi with hi | hi
        · exact hs i hi
        · rw [List.mem_singleton.mp hi]
          omega
      unfold xComp
      rw [hi, Option.bind_some, if_pos hl, hk, Option.bind_some]
      cases looks (lookN n) (partsG g) 0 p with
      | inl ks => rfl
      | inr z => rfl
    show resX (bx__kind_all (D_katA fit n) D_parts (D_fault fit) D_made [.val g.data, .val (rowD p), .un, .un, .un, .un]) = _
    unfold bx__kind_all lookN
    cases e : looks (lookN n) (partsG g) 0 p with
    | inr z =>
      obtain ⟨w, q⟩ := z
      rw [e] at hc
      rw [x_seqE (e := (⟨0, .str w, rowD q⟩, [.val g.data, .val (rowD p), .un, .un, .un, .un])) (by unfold xAsg; rw [hc]; rfl)]
      rfl
    | inl ks =>
      rw [e] at hc
      obtain ⟨h1, h2⟩ := looks_inl e
      have hk : ∀ k ∈ ks, OkK 10 k := fun k hk => by
        obtain ⟨g', hg, q, e3⟩ := h2 k hk
        exact (look_ok n (ho.parts g' hg) e3).mono (by omega)
      have hfl := m_fault hf ho hk h1
      rw [x_seqI (ρ' := [.val g.data, .val (rowD p), .val (.list (ks.map Kd.data)), .un, .un, .un]) (by unfold xAsg; rw [hc]; rfl), x_seq (ρ' := [.val g.data, .val (rowD p), .val (.list (ks.map Kd.data)), .val (fltD (faultG g ks)), .un, .un]) (by simp only [fSeq, fIfS, fRet, fAsg, fOwn, fApp, fExt, fBrk, fCnt, fDrop, fFrz, frz, fNext, fFor, fB, fAnd, fOr, fNot, fAndV, fOrV, fNotV, fIf, fChain, fOp, fUn, fVar, fC, fTup, fLst, fV, fCons, fNil, fCall, fCallL, fLenV, fSl, fPart, fNoPart, fStar, fAug, gS, gT, gN, gC, fSeqI, run_1, run_2, run_3, run_4, ix0, ix1, ix2, ix3, then_nx, then_rt, then_bk, then_ct, turn_nx, turn_ct, turn_bk, turn_rt, res_rt, asB_b, gIx_t, gIx_l, gAdd_i, gSub_i, gLt_i, gLe_i, gGt_i, gGe_i, eq_i, eq_s, ne_i, ne_s, gLen_t, gLen_l, gTup_l, gTup_t, strEq, Option.bind_some, List.getElem?_cons_zero, List.getElem?_cons_succ, List.set_cons_zero, List.set_cons_succ, List.replicate_succ, List.replicate_zero, Nat.reduceSub, Nat.reduceAdd, if_true, if_false, decide_true, decide_false, Bool.not_true, Bool.not_false, Bool.false_eq_true, String.reduceEq, reduceIte, List.length_cons, List.length_nil, Nat.reduceLeDiff, lim, hfl])]
      dsimp only
      cases hw : faultG g ks with
      | some w =>
        have hok : okP (.str w) (rowD p) = true := by
          show (decide (w.length ≤ 1000) && (decide ((p.map PyData.int).length ≤ 1000) && smallI (p.map .int))) = true
          rw [decide_eq_true (fault_len hw), decide_eq_true (show (p.map PyData.int).length ≤ 1000 by rw [List.length_map]; omega), small_row hs]
          rfl
        have ht : xIf (fB (fOp gNotN (fVar 3) (fC .none))) (xRaise 0 okP (fCons (fVar 3) (fCons (fVar 1) fNil))) (xSt fNext) [.val g.data, .val (rowD p), .val (.list (ks.map Kd.data)), .val (fltD (some w)), .un, .un] = some (.inr (⟨0, .str w, rowD p⟩, [.val g.data, .val (rowD p), .val (.list (ks.map Kd.data)), .val (fltD (some w)), .un, .un])) := by
          show (if okP (.str w) (rowD p) = true then _ else none) = _
          rw [if_pos hok]
          rfl
        rw [x_seqE ht]
        rfl
      | none =>
        have hm := m_made ho hk h1 hw
        have ht : xIf (fB (fOp gNotN (fVar 3) (fC .none))) (xRaise 0 okP (fCons (fVar 3) (fCons (fVar 1) fNil))) (xSt fNext) [.val g.data, .val (rowD p), .val (.list (ks.map Kd.data)), .val (fltD none), .un, .un] = some (.inl (.nx, [.val g.data, .val (rowD p), .val (.list (ks.map Kd.data)), .val (fltD none), .un, .un])) := rfl
        rw [x_seqI ht]
        unfold xSt
        simp only [fSeq, fIfS, fRet, fAsg, fOwn, fApp, fExt, fBrk, fCnt, fDrop, fFrz, frz, fNext, fFor, fB, fAnd, fOr, fNot, fAndV, fOrV, fNotV, fIf, fChain, fOp, fUn, fVar, fC, fTup, fLst, fV, fCons, fNil, fCall, fCallL, fLenV, fSl, fPart, fNoPart, fStar, fAug, gS, gT, gN, gC, fSeqI, run_1, run_2, run_3, run_4, ix0, ix1, ix2, ix3, then_nx, then_rt, then_bk, then_ct, turn_nx, turn_ct, turn_bk, turn_rt, res_rt, asB_b, gIx_t, gIx_l, gAdd_i, gSub_i, gLt_i, gLe_i, gGt_i, gGe_i, eq_i, eq_s, ne_i, ne_s, gLen_t, gLen_l, gTup_l, gTup_t, strEq, Option.bind_some, List.getElem?_cons_zero, List.getElem?_cons_succ, List.set_cons_zero, List.set_cons_succ, List.replicate_succ, List.replicate_zero, Nat.reduceSub, Nat.reduceAdd, if_true, if_false, decide_true, decide_false, Bool.not_true, Bool.not_false, Bool.false_eq_true, String.reduceEq, reduceIte, List.length_cons, List.length_nil, Nat.reduceLeDiff, lim, hm]
        rfl
end Fb
namespace Fb
open PySem PySem.Spec PyProof.Rows L2 Evl CrT Cr Sm
theorem word_sp : ∀ {K : PySem.W.Frag} vs H Q E, spWord vs H Q E → spF K A0 D_word vs H Q E := fun vs H Q E h => by
  obtain ⟨s, rfl, hs, q⟩ := h
  exact ⟨O0, _, _, owl0, .cons (.str s) .nil, m_word hs, fun r H' e hr => by cases hr.bl_inv; exact q H' e⟩
theorem kit_sp {K : PySem.W.Frag} : ∀ vs H Q E, spKit K vs H Q E → spF K A0 D_kit vs H Q E := fun vs H Q E h => by
  obtain ⟨v, k, n, rfl, hv, hk, hn, q⟩ := h
  refine ⟨O0, _, _, owl0, .cons (.of_vd hv) .nil, m_kit k, fun r H' e hr => ?_⟩
  have fl : flatD (.tuple (dataAll k.parts)) = true := by
    rw [flatD, dataAll_map]
    refine flatDs_of fun d hd => ?_
    obtain ⟨j, hj, rfl⟩ := List.mem_map.mp hd
    cases hk with
    | tup _ h2 => exact flat_kd (h2 j hj)
    | _ => cases hj
  have hr := hr.vd fl
  obtain ⟨a, rfl⟩ := hr.ref
  refine q _ H' e (fun ks e => ⟨a, rfl, by subst e; exact hr⟩) fun hn => ⟨a, rfl, ?_⟩
  cases k with
  | tup ks => exact absurd rfl (hn ks)
  | _ => simpa [Kd.parts, dataAll] using hr
theorem kil_sp {K : PySem.W.Frag} : ∀ vs H Q E, spKil K vs H Q E → spF K A0 D_kil vs H Q E := fun vs H Q E h => by
  obtain ⟨v, k, n, rfl, hv, hk, hn, q⟩ := h
  refine ⟨O0, _, _, owl0, .cons (.of_vd hv) .nil, m_kil k, fun r H' e hr => ?_⟩
  cases k with
  | lst j =>
    have hr : Fd K A0 O0 H' r j.data := hr
    have hv := hr.vd (by cases hk with | lst h => exact flat_kd h)
    exact q _ H' e (fun j' e => by cases e; exact ⟨vd_non hv, hv⟩) fun hn => absurd rfl (hn j)
  | _ => exact q _ H' e (fun j' e => by cases e) fun _ => Fd.non_inv hr
end Fb
namespace Fb
open PySem PySem.Spec PyProof.Rows L2 Evl CrT Cr Sm Classical
mutual
theorem eqv_flat : ∀ d e : PyData, flatD d = true → flatD e = true → PyData.eqv d e = decide (d = e)
  | .int i, .int j, _, _ => by
    rw [PyData.eqv, Bool.eq_iff_iff, beq_iff_eq, decide_eq_true_iff]
    exact ⟨fun h => by rw [h], fun h => PyData.int.inj h⟩
  | .str x, .str y, _, _ => by
    rw [PyData.eqv, Bool.eq_iff_iff, beq_iff_eq, decide_eq_true_iff]
    exact ⟨fun h => by rw [h], fun h => PyData.str.inj h⟩
  | .tuple ds, .tuple es, hd, he => by
    rw [flatD] at hd he
    rw [PyData.eqv, eqv_flats ds es hd he]
    exact decide_eq_decide.mpr ⟨fun h => by rw [h], fun h => PyData.tuple.inj h⟩
  | .int _, .str _, _, _ => by simp [PyData.eqv]
  | .int _, .tuple _, _, _ => by simp [PyData.eqv]
  | .str _, .int _, _, _ => by simp [PyData.eqv]
  | .str _, .tuple _, _, _ => by simp [PyData.eqv]
  | .tuple _, .int _, _, _ => by simp [PyData.eqv]
  | .tuple _, .str _, _, _ => by simp [PyData.eqv]
  | .bool _, _, h, _ => by simp [flatD] at h
  | .none, _, h, _ => by simp [flatD] at h
  | .list _, _, h, _ => by simp [flatD] at h
  | .dict _, _, h, _ => by simp [flatD] at h
  | _, .bool _, _, h => by simp [flatD] at h
  | _, .none, _, h => by simp [flatD] at h
  | _, .list _, _, h => by simp [flatD] at h
  | _, .dict _, _, h => by simp [flatD] at h
theorem eqv_flats : ∀ ds es : List PyData, flatDs ds = true → flatDs es = true → PyData.eqvAll ds es = decide (ds = es)
  | [], [], _, _ => by simp [PyData.eqvAll]
  | [], _ :: _, _, _ => by simp [PyData.eqvAll]
  | _ :: _, [], _, _ => by simp [PyData.eqvAll]
  | d :: ds, e :: es, hd, he => by
    rw [flatDs, Bool.and_eq_true] at hd he
    rw [PyData.eqvAll, eqv_flat d e hd.1 he.1, eqv_flats ds es hd.2 he.2, Bool.eq_iff_iff]
    simp
end
theorem in_flatX {xs ds : List PyData} (h1 : flatD (.tuple xs) = true) (h2 : ∀ d ∈ ds, flatD d = true) (s1 : SeqAt.shaped (.tuple xs) = true) (s2 : SeqAt.shaped (.list ds) = true) : gIn (.tuple xs) (.list ds) = some (.bool (decide (PyData.tuple xs ∈ ds))) := by
  have e : (ds.any fun z => PyData.eqv z (.tuple xs)) = decide (PyData.tuple xs ∈ ds) := by
    rw [Bool.eq_iff_iff, List.any_eq_true, decide_eq_true_iff]
    constructor
    · rintro ⟨z, hz, h⟩
      rw [eqv_flat z _ (h2 z hz) h1, decide_eq_true_iff] at h
      rw [← h]
      exact hz
    · intro h
      exact ⟨_, h, by rw [eqv_flat _ _ h1 h1, decide_eq_true_iff]⟩
  show (inD _ _).bind _ = _
  unfold inD
  have f1 : (fl (.tuple xs) && ds.all fl) = false := by simp [fl]
  dsimp only
  rw [f1, s1, s2, e]
  rfl
theorem in_strs {x : Str} (ps : List Str) : gIn (.str x) (.list (ps.map .str)) = some (.bool (decide (x ∈ ps))) := by
  rw [gIn_l (by rw [List.all_eq_true]; intro d hd; obtain ⟨s, _, rfl⟩ := List.mem_map.mp hd; rfl)]
  congr 2
  rw [Bool.eq_iff_iff, List.any_eq_true, decide_eq_true_iff]
  constructor
  · rintro ⟨z, hz, h⟩
    obtain ⟨s, hs, rfl⟩ := List.mem_map.mp hz
    have : s = x := of_decide_eq_true h
    rw [← this]
    exact hs
  · intro h
    exact ⟨.str x, List.mem_map.mpr ⟨x, h, rfl⟩, decide_eq_true rfl⟩
theorem ni_strs {x : Str} (ps : List Str) : gNi (.str x) (.list (ps.map .str)) = some (.bool (!decide (x ∈ ps))) := by
  have h := in_strs (x := x) ps
  have h : (inD (.str x) (.list (ps.map .str))).bind (fun b => some (PyData.bool b)) = _ := h
  show (inD (.str x) (.list (ps.map .str))).bind (fun b => some (PyData.bool (!b))) = _
  cases e : inD (.str x) (.list (ps.map .str)) with
  | none => rw [e] at h; cases h
  | some b =>
    rw [e] at h
    injection h with h
    injection h with h
    rw [h]
    rfl
theorem nit_strs {x : Str} (ps : List Str) : gNi (.str x) (.tuple (ps.map .str)) = some (.bool (!decide (x ∈ ps))) := ni_strs ps
structure Cx where
  nm : Str
  gd : Cd
  gn : Gn
  ef : Str
def Cx.data (c : Cx) : PyData := .tuple [.str c.nm, c.gd.data, c.gn.data, .str c.ef]
def badN : List Str := ["", "Put", "toolongname", "a1"]
def badC : List Cd := [.rising, .is "a", .divides 0, .and_ (.atmost 1) .different]
def badM : List Gn := [.pick ["a", "b"], .int 3 2, .list (.int 0 1) 0 1, .kept (.int 0 2) .rising, .turned (.int 0 1) .length]
def goodE : List Str := ["add", "take", "set"]
noncomputable def isI (g : Gn) : Bool := decide (lookN 10 g [] = .inl .int)
structure CxOk (c : Cx) : Prop where
  n1 : c.nm.length ≤ 1000
  n2 : isWord c.nm = !decide (c.nm ∈ badN)
  n3 : SeqAt.shaped (.str c.nm) = true
  g1 : OkC 10 c.gd
  g2 : fitsC c.gd .int = !decide (c.gd.data ∈ badC.map Cd.data)
  m1 : OkGk 10 10 c.gn
  m2 : isI c.gn = !decide (c.gn.data ∈ badM.map Gn.data)
  e1 : c.ef.length ≤ 1000
  e3 : SeqAt.shaped (.str c.ef) = true
noncomputable def flt (ps : List Str) (c : Cx) : Option Str :=
  if c.nm ∈ badN then some "wrong name" else if c.nm ∈ ps then some "named twice" else if c.gd.data ∈ badC.map Cd.data then some "wrong guard" else if c.gn.data ∈ badM.map Gn.data then some "wrong generator" else if c.ef ∈ goodE then none else some "wrong effect"
noncomputable def D_katM : FnX := D_katA D_fits 10
noncomputable def D_kofM : FnX := runX 1 1 (bx_kind_of D_katM)
noncomputable def D_mki : Fn := runF 1 1 (bx__makes_integers D_kofM)
noncomputable def D_flt : Fn := runF 6 2 (b__fault_in D_word D_fits D_mki)
theorem cd_tup (c : Cd) : ∃ xs, c.data = .tuple xs := by cases c <;> exact ⟨_, by rw [Cd.data]⟩
theorem gn_tup (g : Gn) : ∃ xs, g.data = .tuple xs := by cases g <;> exact ⟨_, by rw [Gn.data]⟩
theorem badC_ok : ∀ c ∈ badC, OkC 10 c := fun c hc => by
  simp only [badC, List.mem_cons, List.not_mem_nil, or_false] at hc
  rcases hc with rfl | rfl | rfl | rfl
  · exact .rising
  · exact .is (by decide +kernel) (by decide +kernel)
  · exact .divides _
  · exact .and_ (.atmost _) .different
theorem badM_ok : ∀ g ∈ badM, OkGk 10 10 g := fun g hg => by
  simp only [badM, List.mem_cons, List.not_mem_nil, or_false] at hg
  rcases hg with rfl | rfl | rfl | rfl | rfl
  · exact .pick (by show 2 ≤ 60; decide) fun w hw => by
      simp only [List.mem_cons, List.not_mem_nil, or_false] at hw
      rcases hw with rfl | rfl <;> exact ⟨by decide +kernel, by decide +kernel⟩
  · exact .int _ _
  · exact .list _ _ (.int _ _)
  · exact .kept (.int _ _) .rising
  · exact .turned _ (.int _ _)
theorem in_badC {c : Cd} (h : OkC 10 c) : gIn c.data (.list (badC.map Cd.data)) = some (.bool (decide (c.data ∈ badC.map Cd.data))) := by
  have hs := (condDk h).shaped (by decide)
  have hf := flat_cd c
  obtain ⟨xs, e⟩ := cd_tup c
  rw [e] at hs hf ⊢
  exact in_flatX hf (fun d hd => by obtain ⟨b, _, rfl⟩ := List.mem_map.mp hd; exact flat_cd b) hs (shaped_list (m := 10) (by decide) fun d hd => by obtain ⟨b, hb, rfl⟩ := List.mem_map.mp hd; exact condDk (badC_ok b hb))
theorem in_badM {g : Gn} (h : OkGk 10 10 g) : gIn g.data (.list (badM.map Gn.data)) = some (.bool (decide (g.data ∈ badM.map Gn.data))) := by
  have hs := h.dk.shaped (by decide)
  have hf := flat_gn h
  obtain ⟨xs, e⟩ := gn_tup g
  rw [e] at hs hf ⊢
  exact in_flatX hf (fun d hd => by obtain ⟨b, hb, rfl⟩ := List.mem_map.mp hd; exact flat_gn (badM_ok b hb)) hs (shaped_list (m := 30) (by decide) fun d hd => by obtain ⟨b, hb, rfl⟩ := List.mem_map.mp hd; exact (badM_ok b hb).dk)
theorem m_mki {g : Gn} (h : OkGk 10 10 g) : D_mki [g.data] = some (.bool (isI g)) := by
  have h1 := m_katA (fit := D_fits) (fun c k hc hk => m_fits hc hk) 10 [] h (by decide) (by decide) (fun i hi => nomatch hi)
  have h1 : D_katM [g.data, .tuple []] = some (outK (lookN 10 g [])) := h1
  have h2 : D_kofM [g.data] = some (outK (lookN 10 g [])) := by
    show resX (bx_kind_of D_katM [.val g.data]) = _
    unfold bx_kind_of xRet xCall
    have hf : (fCons (fVar 0) (fCons (fTup fNil) fNil)) [.val g.data] = some [g.data, .tuple []] := rfl
    rw [hf, Option.bind_some, h1]
    cases e : lookN 10 g [] with
    | inl kd => rfl
    | inr w => obtain ⟨w, p⟩ := w; rfl
  show resF (bx__makes_integers D_kofM [.val g.data]) = _
  unfold bx__makes_integers fTry xRet xOp1 xCall isI
  have hf : (fCons (fVar 0) fNil) [.val g.data] = some [g.data] := rfl
  rw [hf, Option.bind_some, h2]
  cases e : lookN 10 g [] with
  | inl kd =>
    have ok := look_ok 10 h e
    have hq : gEq kd.data (.str "int") = some (.bool (decide ((Sum.inl kd : Rs) = .inl .int))) := by
      have hs := ok.dk.shaped (by decide)
      cases kd with
      | int => simp [Kd.data]; rfl
      | word =>
        rw [show decide ((Sum.inl Kd.word : Rs) = .inl .int) = false from decide_eq_false fun h => by cases h]
        rfl
      | tup ks =>
        rw [Kd.data] at hs ⊢
        show (if SeqAt.shaped _ && SeqAt.shaped (.str "int") then some (PyData.eqv _ _) else none).bind _ = _
        rw [hs, show SeqAt.shaped (.str "int") = true from by decide +kernel]
        simp [PyData.eqv]
      | lst k =>
        rw [Kd.data] at hs ⊢
        show (if SeqAt.shaped _ && SeqAt.shaped (.str "int") then some (PyData.eqv _ _) else none).bind _ = _
        rw [hs, show SeqAt.shaped (.str "int") = true from by decide +kernel]
        simp [PyData.eqv]
    show resF ((((some (Sum.inl kd.data : OutE)).bind _).bind _).bind _) = _
    simp only [Option.bind_some, fC, hq, Option.map_some]
    rfl
  | inr w =>
    obtain ⟨w, p⟩ := w
    rfl
theorem m_flt {c : Cx} (h : CxOk c) (ps : List Str) : D_flt [c.data, .list (ps.map .str)] = some (fltD (flt ps c)) := by
  have h1 := m_word h.n1
  have h2 := in_strs (x := c.nm) ps
  have h3 := m_fits h.g1 (k := .int) (.int (n := 9))
  have h3 : D_fits [c.gd.data, .str "int"] = some (.bool (fitsC c.gd .int)) := h3
  have h4 := m_mki h.m1
  have h5 := nit_strs (x := c.ef) goodE
  have h5 : gNi (.str c.ef) (.tuple [.str "add", .str "take", .str "set"]) = some (.bool (!decide (c.ef ∈ goodE))) := h5
  rw [h.n2] at h1
  rw [h.g2] at h3
  rw [h.m2] at h4
  unfold D_flt flt
  by_cases a1 : c.nm ∈ badN
  · simp only [fSeq, fIfS, fRet, fAsg, fOwn, fApp, fExt, fBrk, fCnt, fDrop, fFrz, frz, fNext, fFor, fB, fAnd, fOr, fNot, fAndV, fOrV, fNotV, fIf, fChain, fOp, fUn, fVar, fC, fTup, fLst, fV, fCons, fNil, fCall, fCallL, fLenV, fSl, fPart, fNoPart, fStar, fAug, gS, gT, gN, gC, fSeqI, run_1, run_2, run_3, run_4, ix0, ix1, ix2, ix3, then_nx, then_rt, then_bk, then_ct, turn_nx, turn_ct, turn_bk, turn_rt, res_rt, asB_b, gIx_t, gIx_l, gAdd_i, gSub_i, gLt_i, gLe_i, gGt_i, gGe_i, eq_i, eq_s, ne_i, ne_s, gLen_t, gLen_l, gTup_l, gTup_t, strEq, Option.bind_some, List.getElem?_cons_zero, List.getElem?_cons_succ, List.set_cons_zero, List.set_cons_succ, List.replicate_succ, List.replicate_zero, Nat.reduceSub, Nat.reduceAdd, if_true, if_false, decide_true, decide_false, Bool.not_true, Bool.not_false, Bool.false_eq_true, String.reduceEq, reduceIte, List.length_cons, List.length_nil, Nat.reduceLeDiff, lim, b__fault_in, Cx.data, h1, decide_eq_true a1, if_pos a1, fltD]
  · by_cases a2 : c.nm ∈ ps
    · simp only [fSeq, fIfS, fRet, fAsg, fOwn, fApp, fExt, fBrk, fCnt, fDrop, fFrz, frz, fNext, fFor, fB, fAnd, fOr, fNot, fAndV, fOrV, fNotV, fIf, fChain, fOp, fUn, fVar, fC, fTup, fLst, fV, fCons, fNil, fCall, fCallL, fLenV, fSl, fPart, fNoPart, fStar, fAug, gS, gT, gN, gC, fSeqI, run_1, run_2, run_3, run_4, ix0, ix1, ix2, ix3, then_nx, then_rt, then_bk, then_ct, turn_nx, turn_ct, turn_bk, turn_rt, res_rt, asB_b, gIx_t, gIx_l, gAdd_i, gSub_i, gLt_i, gLe_i, gGt_i, gGe_i, eq_i, eq_s, ne_i, ne_s, gLen_t, gLen_l, gTup_l, gTup_t, strEq, Option.bind_some, List.getElem?_cons_zero, List.getElem?_cons_succ, List.set_cons_zero, List.set_cons_succ, List.replicate_succ, List.replicate_zero, Nat.reduceSub, Nat.reduceAdd, if_true, if_false, decide_true, decide_false, Bool.not_true, Bool.not_false, Bool.false_eq_true, String.reduceEq, reduceIte, List.length_cons, List.length_nil, Nat.reduceLeDiff, lim, b__fault_in, Cx.data, h1, h2, decide_eq_false a1, decide_eq_true a2, if_neg a1, if_pos a2, fltD]
    · by_cases a3 : c.gd.data ∈ badC.map Cd.data
      · simp only [fSeq, fIfS, fRet, fAsg, fOwn, fApp, fExt, fBrk, fCnt, fDrop, fFrz, frz, fNext, fFor, fB, fAnd, fOr, fNot, fAndV, fOrV, fNotV, fIf, fChain, fOp, fUn, fVar, fC, fTup, fLst, fV, fCons, fNil, fCall, fCallL, fLenV, fSl, fPart, fNoPart, fStar, fAug, gS, gT, gN, gC, fSeqI, run_1, run_2, run_3, run_4, ix0, ix1, ix2, ix3, then_nx, then_rt, then_bk, then_ct, turn_nx, turn_ct, turn_bk, turn_rt, res_rt, asB_b, gIx_t, gIx_l, gAdd_i, gSub_i, gLt_i, gLe_i, gGt_i, gGe_i, eq_i, eq_s, ne_i, ne_s, gLen_t, gLen_l, gTup_l, gTup_t, strEq, Option.bind_some, List.getElem?_cons_zero, List.getElem?_cons_succ, List.set_cons_zero, List.set_cons_succ, List.replicate_succ, List.replicate_zero, Nat.reduceSub, Nat.reduceAdd, if_true, if_false, decide_true, decide_false, Bool.not_true, Bool.not_false, Bool.false_eq_true, String.reduceEq, reduceIte, List.length_cons, List.length_nil, Nat.reduceLeDiff, lim, b__fault_in, Cx.data, h1, h2, h3, decide_eq_false a1, decide_eq_false a2, decide_eq_true a3, if_neg a1, if_neg a2, if_pos a3, fltD]
      · by_cases a4 : c.gn.data ∈ badM.map Gn.data
        · simp only [fSeq, fIfS, fRet, fAsg, fOwn, fApp, fExt, fBrk, fCnt, fDrop, fFrz, frz, fNext, fFor, fB, fAnd, fOr, fNot, fAndV, fOrV, fNotV, fIf, fChain, fOp, fUn, fVar, fC, fTup, fLst, fV, fCons, fNil, fCall, fCallL, fLenV, fSl, fPart, fNoPart, fStar, fAug, gS, gT, gN, gC, fSeqI, run_1, run_2, run_3, run_4, ix0, ix1, ix2, ix3, then_nx, then_rt, then_bk, then_ct, turn_nx, turn_ct, turn_bk, turn_rt, res_rt, asB_b, gIx_t, gIx_l, gAdd_i, gSub_i, gLt_i, gLe_i, gGt_i, gGe_i, eq_i, eq_s, ne_i, ne_s, gLen_t, gLen_l, gTup_l, gTup_t, strEq, Option.bind_some, List.getElem?_cons_zero, List.getElem?_cons_succ, List.set_cons_zero, List.set_cons_succ, List.replicate_succ, List.replicate_zero, Nat.reduceSub, Nat.reduceAdd, if_true, if_false, decide_true, decide_false, Bool.not_true, Bool.not_false, Bool.false_eq_true, String.reduceEq, reduceIte, List.length_cons, List.length_nil, Nat.reduceLeDiff, lim, b__fault_in, Cx.data, h1, h2, h3, h4, decide_eq_false a1, decide_eq_false a2, decide_eq_false a3, decide_eq_true a4, if_neg a1, if_neg a2, if_neg a3, if_pos a4, fltD]
        · by_cases a5 : c.ef ∈ goodE
          · simp only [fSeq, fIfS, fRet, fAsg, fOwn, fApp, fExt, fBrk, fCnt, fDrop, fFrz, frz, fNext, fFor, fB, fAnd, fOr, fNot, fAndV, fOrV, fNotV, fIf, fChain, fOp, fUn, fVar, fC, fTup, fLst, fV, fCons, fNil, fCall, fCallL, fLenV, fSl, fPart, fNoPart, fStar, fAug, gS, gT, gN, gC, fSeqI, run_1, run_2, run_3, run_4, ix0, ix1, ix2, ix3, then_nx, then_rt, then_bk, then_ct, turn_nx, turn_ct, turn_bk, turn_rt, res_rt, asB_b, gIx_t, gIx_l, gAdd_i, gSub_i, gLt_i, gLe_i, gGt_i, gGe_i, eq_i, eq_s, ne_i, ne_s, gLen_t, gLen_l, gTup_l, gTup_t, strEq, Option.bind_some, List.getElem?_cons_zero, List.getElem?_cons_succ, List.set_cons_zero, List.set_cons_succ, List.replicate_succ, List.replicate_zero, Nat.reduceSub, Nat.reduceAdd, if_true, if_false, decide_true, decide_false, Bool.not_true, Bool.not_false, Bool.false_eq_true, String.reduceEq, reduceIte, List.length_cons, List.length_nil, Nat.reduceLeDiff, lim, b__fault_in, Cx.data, h1, h2, h3, h4, h5, decide_eq_false a1, decide_eq_false a2, decide_eq_false a3, decide_eq_false a4, decide_eq_true a5, if_neg a1, if_neg a2, if_neg a3, if_neg a4, if_pos a5, fltD]
          · simp only [fSeq, fIfS, fRet, fAsg, fOwn, fApp, fExt, fBrk, fCnt, fDrop, fFrz, frz, fNext, fFor, fB, fAnd, fOr, fNot, fAndV, fOrV, fNotV, fIf, fChain, fOp, fUn, fVar, fC, fTup, fLst, fV, fCons, fNil, fCall, fCallL, fLenV, fSl, fPart, fNoPart, fStar, fAug, gS, gT, gN, gC, fSeqI, run_1, run_2, run_3, run_4, ix0, ix1, ix2, ix3, then_nx, then_rt, then_bk, then_ct, turn_nx, turn_ct, turn_bk, turn_rt, res_rt, asB_b, gIx_t, gIx_l, gAdd_i, gSub_i, gLt_i, gLe_i, gGt_i, gGe_i, eq_i, eq_s, ne_i, ne_s, gLen_t, gLen_l, gTup_l, gTup_t, strEq, Option.bind_some, List.getElem?_cons_zero, List.getElem?_cons_succ, List.set_cons_zero, List.set_cons_succ, List.replicate_succ, List.replicate_zero, Nat.reduceSub, Nat.reduceAdd, if_true, if_false, decide_true, decide_false, Bool.not_true, Bool.not_false, Bool.false_eq_true, String.reduceEq, reduceIte, List.length_cons, List.length_nil, Nat.reduceLeDiff, lim, b__fault_in, Cx.data, h1, h2, h3, h4, h5, decide_eq_false a1, decide_eq_false a2, decide_eq_false a3, decide_eq_false a4, decide_eq_false a5, if_neg a1, if_neg a2, if_neg a3, if_neg a4, if_neg a5, fltD]
end Fb
set_option maxRecDepth 10000000
namespace Sm
open PySem PySem.Spec PyProof.Rows L2 Evl CrT Cr
section
variable {P : Program} {w : World} {K : PySem.W.Frag} {mg : Str → Option Value} {base : Heap} {f : Addr} {fd : FuncData} {ps : List Str} {sp : Sp} {k : Nat}
structure FnGX (P : Program) (w : World) (K : PySem.W.Frag) (mg : Str → Option Value) (base : Heap) (k : Nat) (f : Addr) (fd : FuncData) (ps : List Str) (sp : Sp) : Prop where
  len : ∀ vs H Q E, sp vs H Q E → vs.length = ps.length
  run : ∀ (A : Around) (o : List Env) (s : Shared) (H : Hp) (ar : Args) (us : List Value) (vs : List V) (Q : VK) (E : XK), A.guards = some [] → Room k A → Env0 P w K mg base A o s H → BindsTo s fd ar (ps.zip us) → Vals vs us → sp vs H Q E →
    codeAny (model P w) A (.call (.ref f) ar) (CR (L2.CX P w) o P w H s Q E) s
theorem FnGX.of (F : FnOk P w K mg base (L2.CX P w) k f fd ps sp) : FnGX P w K mg base k f fd ps sp := ⟨F.len, fun A o s H ar us vs Q E _ r e b v h => F.run A o s H ar us vs Q E r e b v h⟩
theorem FnGX.mono {j : Nat} (F : FnGX P w K mg base j f fd ps sp) (h : j ≤ k) : FnGX P w K mg base k f fd ps sp := ⟨F.len, fun A o s H ar us vs Q E g r => F.run A o s H ar us vs Q E g (r.mono h)⟩
end
theorem FnGX.imp {P : Program} {w : World} {K : PySem.W.Frag} {mg : Str → Option Value} {base : Heap} {f : Addr} {fd : FuncData} {ps : List Str} {sp sq : Sp} {k : Nat} (F : FnGX P w K mg base k f fd ps sp) (h : ∀ vs H Q E, sq vs H Q E → sp vs H Q E) : FnGX P w K mg base k f fd ps sq :=
  ⟨fun vs H Q E q => F.len vs H Q E (h _ _ _ _ q), fun A o s H ar us vs Q E g r e b v q => F.run A o s H ar us vs Q E g r e b v (h _ _ _ _ q)⟩
structure ClGX (P : Program) (w : World) (K : PySem.W.Frag) (mg : Str → Option Value) (base : Heap) (x : Str) (ps : List Str) (k : Nat) (sp : Sp) where
  f : Addr
  fd : FuncData
  ok : FnGX P w K mg base k f fd ps sp
  b : Binds K fd ps []
  kp : PySem.W.keepIn K (.ref f) = true
  m : mg x = some (.ref f)
def ClGX.mono {P : Program} {w : World} {K : PySem.W.Frag} {mg : Str → Option Value} {base : Heap} {x : Str} {ps : List Str} {j k : Nat} {sp : Sp} (c : ClGX P w K mg base x ps j sp) (h : j ≤ k) : ClGX P w K mg base x ps k sp := ⟨c.f, c.fd, c.ok.mono h, c.b, c.kp, c.m⟩
def ClGX.imp {P : Program} {w : World} {K : PySem.W.Frag} {mg : Str → Option Value} {base : Heap} {x : Str} {ps : List Str} {k : Nat} {sp sp' : Sp} (c : ClGX P w K mg base x ps k sp) (h : ∀ vs H Q E, sp' vs H Q E → sp vs H Q E) : ClGX P w K mg base x ps k sp' := ⟨c.f, c.fd, c.ok.imp h, c.b, c.kp, c.m⟩
section
variable {K : PySem.W.Frag} {A : Atm} {T : ET} {W : WX} {te : TE} {fx : FEX}
theorem ErrAt.up {O : Addr → Prop} {H : Hp} {e : Err} {d : Addr} (h : ErrAt K A0 O H T e d) : ErrAt K A O H T e d := by
  obtain ⟨y1, y2, h1, h2, h3⟩ := h
  exact ⟨y1, y2, h1, h2.up, h3.up⟩
end
end Sm
namespace Fb
open PySem PySem.Spec PyProof.Rows L2 Evl CrT Cr Sm
end Fb
namespace Fb
open PySem PySem.Spec PyProof.Rows L2 Evl CrT Cr Sm Classical
theorem x_nx {f g : FSX} {ρ ρ' : List Sl} (h : f ρ = some (.inl (.nx, ρ'))) : xSeq f g ρ = g ρ' := by
  unfold xSeq
  rw [h]
  rfl
theorem x_er {f g : FSX} {ρ : List Sl} {e : Err × List Sl} (h : f ρ = some (.inr e)) : xSeq f g ρ = some (.inr e) := by
  unfold xSeq
  rw [h]
  rfl
end Fb
namespace Fb
open PySem PySem.Spec PyProof.Rows L2 Evl CrT Cr Sm Classical
noncomputable def firstF : List Str → Nat → List Cx → Option (Str × Nat)
  | _, _, [] => none
  | ps, k, c :: cs => match flt ps c with
    | some w => some (w, k)
    | none => firstF (ps ++ [c.nm]) (k + 1) cs
def fD (w : Str) (k : Int) : PyData := .tuple [.str w, .int k]
noncomputable def macD (s : Int) (cs : List Cx) (m : Int) : PyData :=
  if -1000 ≤ s ∧ s ≤ 1000 then (if (1 : Int) ≤ cs.length ∧ (cs.length : Int) ≤ 4 then (if 0 ≤ m ∧ m ≤ 6 then (match firstF [] 0 cs with
    | some (w, k) => fD w (k : Int)
    | none => .tuple [.int s, .tuple (cs.map Cx.data), .int m]) else fD "wrong most" (-1)) else fD "wrong number" (-1)) else fD "wrong first" (-1)
noncomputable def D_mac : FnX := runX 7 3 (bx_machine D_flt)
noncomputable def D_told : Fn := runF 4 3 (bx_l55_told D_mac)
noncomputable def D_due : Fn := runF 9 3 b_l55_due
def dG : FE := (fV (fLst (fCons (fTup (fCons (fC (.str "rising")) fNil)) (fCons (fTup (fCons (fC (.str "is")) (fCons (fC (.str "a")) fNil))) (fCons (fTup (fCons (fC (.str "divides")) (fCons (fC (.int 0)) fNil))) (fCons (fTup (fCons (fC (.str "and")) (fCons (fTup (fCons (fC (.str "atmost")) (fCons (fC (.int 1)) fNil))) (fCons (fTup (fCons (fC (.str "different")) fNil)) fNil)))) fNil))))))
def dM : FE := (fV (fLst (fCons (fTup (fCons (fC (.str "pick")) (fCons (fTup (fCons (fC (.str "a")) (fCons (fC (.str "b")) fNil))) fNil))) (fCons (fTup (fCons (fC (.str "int")) (fCons (fC (.int 3)) (fCons (fC (.int 2)) fNil)))) (fCons (fTup (fCons (fC (.str "list")) (fCons (fTup (fCons (fC (.str "int")) (fCons (fC (.int 0)) (fCons (fC (.int 1)) fNil)))) (fCons (fC (.int 0)) (fCons (fC (.int 1)) fNil))))) (fCons (fTup (fCons (fC (.str "kept")) (fCons (fTup (fCons (fC (.str "int")) (fCons (fC (.int 0)) (fCons (fC (.int 2)) fNil)))) (fCons (fTup (fCons (fC (.str "rising")) fNil)) fNil)))) (fCons (fTup (fCons (fC (.str "turned")) (fCons (fTup (fCons (fC (.str "int")) (fCons (fC (.int 0)) (fCons (fC (.int 1)) fNil)))) (fCons (fTup (fCons (fC (.str "length")) fNil)) fNil)))) fNil)))))))
noncomputable def dueB : FS := (fSeq (fAsg (fOp gIx (fVar 1) (fVar 3)) (gT 4 (gC (gS 4) (gC (gS 5) (gC (gS 6) (gC (gS 7) gN))))))
        (fSeq (fIfS (fB (fOp gIn (fVar 4) (fV (fLst (fCons (fC (.str "")) (fCons (fC (.str "Put")) (fCons (fC (.str "toolongname")) (fCons (fC (.str "a1")) fNil)))))))) (fRet (fTup (fCons (fC (.str "wrong name")) (fCons (fVar 3) fNil)))) fNext)
        (fSeq (fIfS (fB (fOp gIn (fVar 4) (fV (fComp (fSeqI (fSl gSl (fVar 1) fNoPart (fPart (fVar 3)))) (gS 8) (fun _ => some true) (fOp gIx (fVar 8) (fC (.int 0))) [8])))) (fRet (fTup (fCons (fC (.str "named twice")) (fCons (fVar 3) fNil)))) fNext)
        (fSeq (fIfS (fB (fOp gIn (fVar 5) dG)) (fRet (fTup (fCons (fC (.str "wrong guard")) (fCons (fVar 3) fNil)))) fNext)
        (fSeq (fIfS (fB (fOp gIn (fVar 6) dM)) (fRet (fTup (fCons (fC (.str "wrong generator")) (fCons (fVar 3) fNil)))) fNext)
        (fIfS (fB (fOp gNi (fVar 7) (fV (fLst (fCons (fC (.str "add")) (fCons (fC (.str "take")) (fCons (fC (.str "set")) fNil))))))) (fRet (fTup (fCons (fC (.str "wrong effect")) (fCons (fVar 3) fNil)))) fNext))))))
theorem dG_eq (ρ : List Sl) : dG ρ = some (.list (badC.map Cd.data)) := rfl
theorem dM_eq (ρ : List Sl) : dM ρ = some (.list (badM.map Gn.data)) := rfl
theorem ahead {cs : List Cx} {k : Nat} (hl : cs.length ≤ 1000) {i j : Nat} {ρ : List Sl} (hi : ρ[1]? = some (.val (.list (cs.map Cx.data)))) (hj : ρ[i]? = some (.val (.int (k : Int)))) (hv : j < ρ.length) : fComp (fSeqI (fSl gSl (fVar 1) fNoPart (fPart (fVar i)))) (gS j) (fun _ => some true) (fOp gIx (fVar j) (fC (.int 0))) [j] ρ = some (((cs.take k).map Cx.nm).map .str) := by
  have hs : gSl (.list (cs.map Cx.data)) none (some (k : Int)) = some (.list ((cs.take k).map Cx.data)) := by
    show some (PyData.list (Sm.cutD _ none (some ((k : Nat) : Int)))) = _
    rw [cutD_take, List.map_take]
  rw [List.map_map]
  refine fComp_map (f := Cx.data) ?_ (by rw [List.length_take]; omega) fun c _ => ?_
  · simp only [fSeqI, fSl, fVar, fNoPart, fPart, hi, hj, Option.bind_some, hs]
  · have e : ((Sm.wpS ρ [j]).set j (.val c.data))[j]? = some (.val c.data) := by
      rw [List.getElem?_set_self]
      simpa [Sm.wpS] using hv
    have hx : gIx c.data (.int 0) = some (.str c.nm) := rfl
    have hlt : j < (Sm.wpS ρ [j]).length := by simpa [Sm.wpS] using hv
    unfold cStep gS
    simp only [Option.bind_some, fOp, fVar, fC, e, hx, if_true, Function.comp_def]
theorem at_list {cs : List Cx} {k : Nat} {c : Cx} (h : cs[k]? = some c) : gIx (.list (cs.map Cx.data)) (.int (k : Int)) = some c.data := atI_nat (by rw [List.getElem?_map, h]; rfl)
theorem due_turn {cs : List Cx} {k : Nat} {c : Cx} (hc : cs[k]? = some c) (h : CxOk c) (hl : cs.length ≤ 1000) {z0 z2 z4 z5 z6 z7 z8 : Sl} : dueB [z0, .val (.list (cs.map Cx.data)), z2, .val (.int (k : Int)), z4, z5, z6, z7, z8] = some (match flt ((cs.take k).map Cx.nm) c with
    | some w => (.rt (fD w (k : Int)), [z0, .val (.list (cs.map Cx.data)), z2, .val (.int (k : Int)), .val (.str c.nm), .val c.gd.data, .val c.gn.data, .val (.str c.ef), z8])
    | none => (.nx, [z0, .val (.list (cs.map Cx.data)), z2, .val (.int (k : Int)), .val (.str c.nm), .val c.gd.data, .val c.gn.data, .val (.str c.ef), z8])) := by
  have h1 := at_list hc
  have h2 := in_strs (x := c.nm) badN
  have h2 : gIn (.str c.nm) (.list [.str "", .str "Put", .str "toolongname", .str "a1"]) = some (.bool (decide (c.nm ∈ badN))) := h2
  have h3 := in_strs (x := c.nm) ((cs.take k).map Cx.nm)
  have h4 := in_badC h.g1
  have h5 := in_badM h.m1
  have h6 := ni_strs (x := c.ef) goodE
  have h6 : gNi (.str c.ef) (.list [.str "add", .str "take", .str "set"]) = some (.bool (!decide (c.ef ∈ goodE))) := h6
  have ha : ∀ y4 y5 y6 y7 : Sl, fComp (fSeqI (fSl gSl (fVar 1) fNoPart (fPart (fVar 3)))) (gS 8) (fun _ => some true) (fOp gIx (fVar 8) (fC (.int 0))) [8] [z0, .val (.list (cs.map Cx.data)), z2, .val (.int (k : Int)), y4, y5, y6, y7, z8] = some (((cs.take k).map Cx.nm).map .str) := fun y4 y5 y6 y7 => ahead hl rfl rfl (Nat.le_of_ble_eq_true rfl)
  unfold dueB flt
  rw [seq_nx (ρ' := [z0, .val (.list (cs.map Cx.data)), z2, .val (.int (k : Int)), .val (.str c.nm), .val c.gd.data, .val c.gn.data, .val (.str c.ef), z8]) (by
    show ((gIx (.list (cs.map Cx.data)) (.int (k : Int))).bind _) = _
    rw [h1]
    rfl)]
  by_cases a1 : c.nm ∈ badN
  · rw [decide_eq_true a1] at h2
    simp only [fSeq, fIfS, fRet, fAsg, fOwn, fApp, fExt, fBrk, fCnt, fDrop, fFrz, frz, fNext, fFor, fB, fAnd, fOr, fNot, fAndV, fOrV, fNotV, fIf, fChain, fOp, fUn, fVar, fC, fTup, fLst, fV, fCons, fNil, fCall, fCallL, fLenV, fSl, fPart, fNoPart, fStar, fAug, gS, gT, gN, gC, fSeqI, run_1, run_2, run_3, run_4, ix0, ix1, ix2, ix3, then_nx, then_rt, then_bk, then_ct, turn_nx, turn_ct, turn_bk, turn_rt, res_rt, asB_b, gIx_t, gIx_l, gAdd_i, gSub_i, gLt_i, gLe_i, gGt_i, gGe_i, eq_i, eq_s, ne_i, ne_s, gLen_t, gLen_l, gTup_l, gTup_t, strEq, Option.bind_some, List.getElem?_cons_zero, List.getElem?_cons_succ, List.set_cons_zero, List.set_cons_succ, List.replicate_succ, List.replicate_zero, Nat.reduceSub, Nat.reduceAdd, if_true, if_false, decide_true, decide_false, Bool.not_true, Bool.not_false, Bool.false_eq_true, String.reduceEq, reduceIte, List.length_cons, List.length_nil, Nat.reduceLeDiff, lim, h2, if_pos a1, fD]
  · rw [decide_eq_false a1] at h2
    rw [if_neg a1, seq_nx (ρ' := [z0, .val (.list (cs.map Cx.data)), z2, .val (.int (k : Int)), .val (.str c.nm), .val c.gd.data, .val c.gn.data, .val (.str c.ef), z8]) (by simp only [fSeq, fIfS, fRet, fAsg, fOwn, fApp, fExt, fBrk, fCnt, fDrop, fFrz, frz, fNext, fFor, fB, fAnd, fOr, fNot, fAndV, fOrV, fNotV, fIf, fChain, fOp, fUn, fVar, fC, fTup, fLst, fV, fCons, fNil, fCall, fCallL, fLenV, fSl, fPart, fNoPart, fStar, fAug, gS, gT, gN, gC, fSeqI, run_1, run_2, run_3, run_4, ix0, ix1, ix2, ix3, then_nx, then_rt, then_bk, then_ct, turn_nx, turn_ct, turn_bk, turn_rt, res_rt, asB_b, gIx_t, gIx_l, gAdd_i, gSub_i, gLt_i, gLe_i, gGt_i, gGe_i, eq_i, eq_s, ne_i, ne_s, gLen_t, gLen_l, gTup_l, gTup_t, strEq, Option.bind_some, List.getElem?_cons_zero, List.getElem?_cons_succ, List.set_cons_zero, List.set_cons_succ, List.replicate_succ, List.replicate_zero, Nat.reduceSub, Nat.reduceAdd, if_true, if_false, decide_true, decide_false, Bool.not_true, Bool.not_false, Bool.false_eq_true, String.reduceEq, reduceIte, List.length_cons, List.length_nil, Nat.reduceLeDiff, lim, h2])]
    by_cases a2 : c.nm ∈ (cs.take k).map Cx.nm
    · rw [decide_eq_true a2] at h3
      simp only [fSeq, fIfS, fRet, fAsg, fOwn, fApp, fExt, fBrk, fCnt, fDrop, fFrz, frz, fNext, fFor, fB, fAnd, fOr, fNot, fAndV, fOrV, fNotV, fIf, fChain, fOp, fUn, fVar, fC, fTup, fLst, fV, fCons, fNil, fCall, fCallL, fLenV, fSl, fPart, fNoPart, fStar, fAug, gS, gT, gN, gC, fSeqI, run_1, run_2, run_3, run_4, ix0, ix1, ix2, ix3, then_nx, then_rt, then_bk, then_ct, turn_nx, turn_ct, turn_bk, turn_rt, res_rt, asB_b, gIx_t, gIx_l, gAdd_i, gSub_i, gLt_i, gLe_i, gGt_i, gGe_i, eq_i, eq_s, ne_i, ne_s, gLen_t, gLen_l, gTup_l, gTup_t, strEq, Option.bind_some, List.getElem?_cons_zero, List.getElem?_cons_succ, List.set_cons_zero, List.set_cons_succ, List.replicate_succ, List.replicate_zero, Nat.reduceSub, Nat.reduceAdd, if_true, if_false, decide_true, decide_false, Bool.not_true, Bool.not_false, Bool.false_eq_true, String.reduceEq, reduceIte, List.length_cons, List.length_nil, Nat.reduceLeDiff, lim, ha, h3, if_pos a2, fD]
    · rw [decide_eq_false a2] at h3
      rw [if_neg a2, seq_nx (ρ' := [z0, .val (.list (cs.map Cx.data)), z2, .val (.int (k : Int)), .val (.str c.nm), .val c.gd.data, .val c.gn.data, .val (.str c.ef), z8]) (by simp only [fSeq, fIfS, fRet, fAsg, fOwn, fApp, fExt, fBrk, fCnt, fDrop, fFrz, frz, fNext, fFor, fB, fAnd, fOr, fNot, fAndV, fOrV, fNotV, fIf, fChain, fOp, fUn, fVar, fC, fTup, fLst, fV, fCons, fNil, fCall, fCallL, fLenV, fSl, fPart, fNoPart, fStar, fAug, gS, gT, gN, gC, fSeqI, run_1, run_2, run_3, run_4, ix0, ix1, ix2, ix3, then_nx, then_rt, then_bk, then_ct, turn_nx, turn_ct, turn_bk, turn_rt, res_rt, asB_b, gIx_t, gIx_l, gAdd_i, gSub_i, gLt_i, gLe_i, gGt_i, gGe_i, eq_i, eq_s, ne_i, ne_s, gLen_t, gLen_l, gTup_l, gTup_t, strEq, Option.bind_some, List.getElem?_cons_zero, List.getElem?_cons_succ, List.set_cons_zero, List.set_cons_succ, List.replicate_succ, List.replicate_zero, Nat.reduceSub, Nat.reduceAdd, if_true, if_false, decide_true, decide_false, Bool.not_true, Bool.not_false, Bool.false_eq_true, String.reduceEq, reduceIte, List.length_cons, List.length_nil, Nat.reduceLeDiff, lim, ha, h3])]
      by_cases a3 : c.gd.data ∈ badC.map Cd.data
      · rw [decide_eq_true a3] at h4
        simp only [fSeq, fIfS, fRet, fAsg, fOwn, fApp, fExt, fBrk, fCnt, fDrop, fFrz, frz, fNext, fFor, fB, fAnd, fOr, fNot, fAndV, fOrV, fNotV, fIf, fChain, fOp, fUn, fVar, fC, fTup, fLst, fV, fCons, fNil, fCall, fCallL, fLenV, fSl, fPart, fNoPart, fStar, fAug, gS, gT, gN, gC, fSeqI, run_1, run_2, run_3, run_4, ix0, ix1, ix2, ix3, then_nx, then_rt, then_bk, then_ct, turn_nx, turn_ct, turn_bk, turn_rt, res_rt, asB_b, gIx_t, gIx_l, gAdd_i, gSub_i, gLt_i, gLe_i, gGt_i, gGe_i, eq_i, eq_s, ne_i, ne_s, gLen_t, gLen_l, gTup_l, gTup_t, strEq, Option.bind_some, List.getElem?_cons_zero, List.getElem?_cons_succ, List.set_cons_zero, List.set_cons_succ, List.replicate_succ, List.replicate_zero, Nat.reduceSub, Nat.reduceAdd, if_true, if_false, decide_true, decide_false, Bool.not_true, Bool.not_false, Bool.false_eq_true, String.reduceEq, reduceIte, List.length_cons, List.length_nil, Nat.reduceLeDiff, lim, dG_eq, h4, if_pos a3, fD]
      · rw [decide_eq_false a3] at h4
        rw [if_neg a3, seq_nx (ρ' := [z0, .val (.list (cs.map Cx.data)), z2, .val (.int (k : Int)), .val (.str c.nm), .val c.gd.data, .val c.gn.data, .val (.str c.ef), z8]) (by simp only [fSeq, fIfS, fRet, fAsg, fOwn, fApp, fExt, fBrk, fCnt, fDrop, fFrz, frz, fNext, fFor, fB, fAnd, fOr, fNot, fAndV, fOrV, fNotV, fIf, fChain, fOp, fUn, fVar, fC, fTup, fLst, fV, fCons, fNil, fCall, fCallL, fLenV, fSl, fPart, fNoPart, fStar, fAug, gS, gT, gN, gC, fSeqI, run_1, run_2, run_3, run_4, ix0, ix1, ix2, ix3, then_nx, then_rt, then_bk, then_ct, turn_nx, turn_ct, turn_bk, turn_rt, res_rt, asB_b, gIx_t, gIx_l, gAdd_i, gSub_i, gLt_i, gLe_i, gGt_i, gGe_i, eq_i, eq_s, ne_i, ne_s, gLen_t, gLen_l, gTup_l, gTup_t, strEq, Option.bind_some, List.getElem?_cons_zero, List.getElem?_cons_succ, List.set_cons_zero, List.set_cons_succ, List.replicate_succ, List.replicate_zero, Nat.reduceSub, Nat.reduceAdd, if_true, if_false, decide_true, decide_false, Bool.not_true, Bool.not_false, Bool.false_eq_true, String.reduceEq, reduceIte, List.length_cons, List.length_nil, Nat.reduceLeDiff, lim, dG_eq, h4])]
        by_cases a4 : c.gn.data ∈ badM.map Gn.data
        · rw [decide_eq_true a4] at h5
          simp only [fSeq, fIfS, fRet, fAsg, fOwn, fApp, fExt, fBrk, fCnt, fDrop, fFrz, frz, fNext, fFor, fB, fAnd, fOr, fNot, fAndV, fOrV, fNotV, fIf, fChain, fOp, fUn, fVar, fC, fTup, fLst, fV, fCons, fNil, fCall, fCallL, fLenV, fSl, fPart, fNoPart, fStar, fAug, gS, gT, gN, gC, fSeqI, run_1, run_2, run_3, run_4, ix0, ix1, ix2, ix3, then_nx, then_rt, then_bk, then_ct, turn_nx, turn_ct, turn_bk, turn_rt, res_rt, asB_b, gIx_t, gIx_l, gAdd_i, gSub_i, gLt_i, gLe_i, gGt_i, gGe_i, eq_i, eq_s, ne_i, ne_s, gLen_t, gLen_l, gTup_l, gTup_t, strEq, Option.bind_some, List.getElem?_cons_zero, List.getElem?_cons_succ, List.set_cons_zero, List.set_cons_succ, List.replicate_succ, List.replicate_zero, Nat.reduceSub, Nat.reduceAdd, if_true, if_false, decide_true, decide_false, Bool.not_true, Bool.not_false, Bool.false_eq_true, String.reduceEq, reduceIte, List.length_cons, List.length_nil, Nat.reduceLeDiff, lim, dM_eq, h5, if_pos a4, fD]
        · rw [decide_eq_false a4] at h5
          rw [if_neg a4, seq_nx (ρ' := [z0, .val (.list (cs.map Cx.data)), z2, .val (.int (k : Int)), .val (.str c.nm), .val c.gd.data, .val c.gn.data, .val (.str c.ef), z8]) (by simp only [fSeq, fIfS, fRet, fAsg, fOwn, fApp, fExt, fBrk, fCnt, fDrop, fFrz, frz, fNext, fFor, fB, fAnd, fOr, fNot, fAndV, fOrV, fNotV, fIf, fChain, fOp, fUn, fVar, fC, fTup, fLst, fV, fCons, fNil, fCall, fCallL, fLenV, fSl, fPart, fNoPart, fStar, fAug, gS, gT, gN, gC, fSeqI, run_1, run_2, run_3, run_4, ix0, ix1, ix2, ix3, then_nx, then_rt, then_bk, then_ct, turn_nx, turn_ct, turn_bk, turn_rt, res_rt, asB_b, gIx_t, gIx_l, gAdd_i, gSub_i, gLt_i, gLe_i, gGt_i, gGe_i, eq_i, eq_s, ne_i, ne_s, gLen_t, gLen_l, gTup_l, gTup_t, strEq, Option.bind_some, List.getElem?_cons_zero, List.getElem?_cons_succ, List.set_cons_zero, List.set_cons_succ, List.replicate_succ, List.replicate_zero, Nat.reduceSub, Nat.reduceAdd, if_true, if_false, decide_true, decide_false, Bool.not_true, Bool.not_false, Bool.false_eq_true, String.reduceEq, reduceIte, List.length_cons, List.length_nil, Nat.reduceLeDiff, lim, dM_eq, h5])]
          by_cases a5 : c.ef ∈ goodE
          · rw [decide_eq_true a5] at h6
            simp only [fSeq, fIfS, fRet, fAsg, fOwn, fApp, fExt, fBrk, fCnt, fDrop, fFrz, frz, fNext, fFor, fB, fAnd, fOr, fNot, fAndV, fOrV, fNotV, fIf, fChain, fOp, fUn, fVar, fC, fTup, fLst, fV, fCons, fNil, fCall, fCallL, fLenV, fSl, fPart, fNoPart, fStar, fAug, gS, gT, gN, gC, fSeqI, run_1, run_2, run_3, run_4, ix0, ix1, ix2, ix3, then_nx, then_rt, then_bk, then_ct, turn_nx, turn_ct, turn_bk, turn_rt, res_rt, asB_b, gIx_t, gIx_l, gAdd_i, gSub_i, gLt_i, gLe_i, gGt_i, gGe_i, eq_i, eq_s, ne_i, ne_s, gLen_t, gLen_l, gTup_l, gTup_t, strEq, Option.bind_some, List.getElem?_cons_zero, List.getElem?_cons_succ, List.set_cons_zero, List.set_cons_succ, List.replicate_succ, List.replicate_zero, Nat.reduceSub, Nat.reduceAdd, if_true, if_false, decide_true, decide_false, Bool.not_true, Bool.not_false, Bool.false_eq_true, String.reduceEq, reduceIte, List.length_cons, List.length_nil, Nat.reduceLeDiff, lim, h6, if_pos a5]
          · rw [decide_eq_false a5] at h6
            simp only [fSeq, fIfS, fRet, fAsg, fOwn, fApp, fExt, fBrk, fCnt, fDrop, fFrz, frz, fNext, fFor, fB, fAnd, fOr, fNot, fAndV, fOrV, fNotV, fIf, fChain, fOp, fUn, fVar, fC, fTup, fLst, fV, fCons, fNil, fCall, fCallL, fLenV, fSl, fPart, fNoPart, fStar, fAug, gS, gT, gN, gC, fSeqI, run_1, run_2, run_3, run_4, ix0, ix1, ix2, ix3, then_nx, then_rt, then_bk, then_ct, turn_nx, turn_ct, turn_bk, turn_rt, res_rt, asB_b, gIx_t, gIx_l, gAdd_i, gSub_i, gLt_i, gLe_i, gGt_i, gGe_i, eq_i, eq_s, ne_i, ne_s, gLen_t, gLen_l, gTup_l, gTup_t, strEq, Option.bind_some, List.getElem?_cons_zero, List.getElem?_cons_succ, List.set_cons_zero, List.set_cons_succ, List.replicate_succ, List.replicate_zero, Nat.reduceSub, Nat.reduceAdd, if_true, if_false, decide_true, decide_false, Bool.not_true, Bool.not_false, Bool.false_eq_true, String.reduceEq, reduceIte, List.length_cons, List.length_nil, Nat.reduceLeDiff, lim, h6, if_neg a5, fD]
theorem due_loop {cs : List Cx} (hok : ∀ c ∈ cs, CxOk c) (hl : cs.length ≤ 1000) {z0 z2 : Sl} : ∀ (n k : Nat) (z3 z4 z5 z6 z7 z8 : Sl), k + n = cs.length → ∃ ρ', fLoop (gS 3) dueB ((List.range' k n).map fun (i : Nat) => .int (i : Int)) [z0, .val (.list (cs.map Cx.data)), z2, z3, z4, z5, z6, z7, z8] = some (match firstF ((cs.take k).map Cx.nm) k (cs.drop k) with
    | some (w, i) => (.rt (fD w (i : Int)), ρ')
    | none => (.nx, ρ')) ∧ (∃ y3 y4 y5 y6 y7, ρ' = [z0, .val (.list (cs.map Cx.data)), z2, y3, y4, y5, y6, y7, z8])
  | 0, k, z3, z4, z5, z6, z7, z8, h => by
    rw [List.drop_of_length_le (by omega)]
    exact ⟨_, rfl, _, _, _, _, _, rfl⟩
  | n + 1, k, z3, z4, z5, z6, z7, z8, h => by
    have hlt : k < cs.length := by omega
    have hc : cs[k]? = some cs[k] := List.getElem?_eq_getElem hlt
    have ht := due_turn hc (hok _ (List.getElem_mem hlt)) hl (z0 := z0) (z2 := z2) (z4 := z4) (z5 := z5) (z6 := z6) (z7 := z7) (z8 := z8)
    have ht2 : (cs.take (k + 1)).map Cx.nm = (cs.take k).map Cx.nm ++ [cs[k].nm] := by
      rw [List.take_succ, hc, List.map_append]
      rfl
    rw [List.range'_succ, List.map_cons, loop_c, List.drop_eq_getElem_cons hlt, firstF]
    show ∃ ρ', fTurn (dueB [z0, .val (.list (cs.map Cx.data)), z2, .val (.int (k : Int)), z4, z5, z6, z7, z8]) _ = _ ∧ _
    rw [ht]
    cases e : flt ((cs.take k).map Cx.nm) cs[k] with
    | some w => exact ⟨_, rfl, _, _, _, _, _, rfl⟩
    | none =>
      obtain ⟨ρ', h1, h2⟩ := due_loop hok hl n (k + 1) (.val (.int (k : Int))) (.val (.str cs[k].nm)) (.val cs[k].gd.data) (.val cs[k].gn.data) (.val (.str cs[k].ef)) z8 (by omega)
      refine ⟨ρ', ?_, h2⟩
      rw [ht2] at h1
      exact h1
theorem m_due {cs : List Cx} (hok : ∀ c ∈ cs, CxOk c) (hl : cs.length ≤ 1000) (s m : Int) : D_due [.int s, .list (cs.map Cx.data), .int m] = some (macD s cs m) := by
  have e0 : ∀ f : FS, runF 9 3 f [.int s, .list (cs.map Cx.data), .int m] = resF (f [.val (.int s), .val (.list (cs.map Cx.data)), .val (.int m), .un, .un, .un, .un, .un, .un]) := fun _ => rfl
  unfold D_due macD
  rw [e0]
  have hn : gNeg (.int 1000) = some (.int (-1000)) := rfl
  have hn1 : gNeg (.int 1) = some (.int (-1)) := rfl
  have nx : ∀ (f g : FS), f [.val (.int s), .val (.list (cs.map Cx.data)), .val (.int m), .un, .un, .un, .un, .un, .un] = some (.nx, [.val (.int s), .val (.list (cs.map Cx.data)), .val (.int m), .un, .un, .un, .un, .un, .un]) → fSeq f g [.val (.int s), .val (.list (cs.map Cx.data)), .val (.int m), .un, .un, .un, .un, .un, .un] = g [.val (.int s), .val (.list (cs.map Cx.data)), .val (.int m), .un, .un, .un, .un, .un, .un] := fun f g h => seq_nx h
  unfold b_l55_due
  by_cases a1 : s < -1000
  · rw [if_neg (by omega)]
    simp only [fSeq, fIfS, fRet, fAsg, fOwn, fApp, fExt, fBrk, fCnt, fDrop, fFrz, frz, fNext, fFor, fB, fAnd, fOr, fNot, fAndV, fOrV, fNotV, fIf, fChain, fOp, fUn, fVar, fC, fTup, fLst, fV, fCons, fNil, fCall, fCallL, fLenV, fSl, fPart, fNoPart, fStar, fAug, gS, gT, gN, gC, fSeqI, run_1, run_2, run_3, run_4, ix0, ix1, ix2, ix3, then_nx, then_rt, then_bk, then_ct, turn_nx, turn_ct, turn_bk, turn_rt, res_rt, asB_b, gIx_t, gIx_l, gAdd_i, gSub_i, gLt_i, gLe_i, gGt_i, gGe_i, eq_i, eq_s, ne_i, ne_s, gLen_t, gLen_l, gTup_l, gTup_t, strEq, Option.bind_some, List.getElem?_cons_zero, List.getElem?_cons_succ, List.set_cons_zero, List.set_cons_succ, List.replicate_succ, List.replicate_zero, Nat.reduceSub, Nat.reduceAdd, if_true, if_false, decide_true, decide_false, Bool.not_true, Bool.not_false, Bool.false_eq_true, String.reduceEq, reduceIte, List.length_cons, List.length_nil, Nat.reduceLeDiff, lim, hn, hn1, a1, fD]
  · by_cases a2 : 1000 < s
    · rw [if_neg (by omega)]
      simp only [fSeq, fIfS, fRet, fAsg, fOwn, fApp, fExt, fBrk, fCnt, fDrop, fFrz, frz, fNext, fFor, fB, fAnd, fOr, fNot, fAndV, fOrV, fNotV, fIf, fChain, fOp, fUn, fVar, fC, fTup, fLst, fV, fCons, fNil, fCall, fCallL, fLenV, fSl, fPart, fNoPart, fStar, fAug, gS, gT, gN, gC, fSeqI, run_1, run_2, run_3, run_4, ix0, ix1, ix2, ix3, then_nx, then_rt, then_bk, then_ct, turn_nx, turn_ct, turn_bk, turn_rt, res_rt, asB_b, gIx_t, gIx_l, gAdd_i, gSub_i, gLt_i, gLe_i, gGt_i, gGe_i, eq_i, eq_s, ne_i, ne_s, gLen_t, gLen_l, gTup_l, gTup_t, strEq, Option.bind_some, List.getElem?_cons_zero, List.getElem?_cons_succ, List.set_cons_zero, List.set_cons_succ, List.replicate_succ, List.replicate_zero, Nat.reduceSub, Nat.reduceAdd, if_true, if_false, decide_true, decide_false, Bool.not_true, Bool.not_false, Bool.false_eq_true, String.reduceEq, reduceIte, List.length_cons, List.length_nil, Nat.reduceLeDiff, lim, hn, hn1, a1, a2, fD]
    · rw [if_pos (by omega), nx _ _ (by simp only [fSeq, fIfS, fRet, fAsg, fOwn, fApp, fExt, fBrk, fCnt, fDrop, fFrz, frz, fNext, fFor, fB, fAnd, fOr, fNot, fAndV, fOrV, fNotV, fIf, fChain, fOp, fUn, fVar, fC, fTup, fLst, fV, fCons, fNil, fCall, fCallL, fLenV, fSl, fPart, fNoPart, fStar, fAug, gS, gT, gN, gC, fSeqI, run_1, run_2, run_3, run_4, ix0, ix1, ix2, ix3, then_nx, then_rt, then_bk, then_ct, turn_nx, turn_ct, turn_bk, turn_rt, res_rt, asB_b, gIx_t, gIx_l, gAdd_i, gSub_i, gLt_i, gLe_i, gGt_i, gGe_i, eq_i, eq_s, ne_i, ne_s, gLen_t, gLen_l, gTup_l, gTup_t, strEq, Option.bind_some, List.getElem?_cons_zero, List.getElem?_cons_succ, List.set_cons_zero, List.set_cons_succ, List.replicate_succ, List.replicate_zero, Nat.reduceSub, Nat.reduceAdd, if_true, if_false, decide_true, decide_false, Bool.not_true, Bool.not_false, Bool.false_eq_true, String.reduceEq, reduceIte, List.length_cons, List.length_nil, Nat.reduceLeDiff, lim, hn, a1, a2])]
      by_cases b1 : (cs.length : Int) < 1
      · rw [if_neg (by omega)]
        simp only [fSeq, fIfS, fRet, fAsg, fOwn, fApp, fExt, fBrk, fCnt, fDrop, fFrz, frz, fNext, fFor, fB, fAnd, fOr, fNot, fAndV, fOrV, fNotV, fIf, fChain, fOp, fUn, fVar, fC, fTup, fLst, fV, fCons, fNil, fCall, fCallL, fLenV, fSl, fPart, fNoPart, fStar, fAug, gS, gT, gN, gC, fSeqI, run_1, run_2, run_3, run_4, ix0, ix1, ix2, ix3, then_nx, then_rt, then_bk, then_ct, turn_nx, turn_ct, turn_bk, turn_rt, res_rt, asB_b, gIx_t, gIx_l, gAdd_i, gSub_i, gLt_i, gLe_i, gGt_i, gGe_i, eq_i, eq_s, ne_i, ne_s, gLen_t, gLen_l, gTup_l, gTup_t, strEq, Option.bind_some, List.getElem?_cons_zero, List.getElem?_cons_succ, List.set_cons_zero, List.set_cons_succ, List.replicate_succ, List.replicate_zero, Nat.reduceSub, Nat.reduceAdd, if_true, if_false, decide_true, decide_false, Bool.not_true, Bool.not_false, Bool.false_eq_true, String.reduceEq, reduceIte, List.length_cons, List.length_nil, Nat.reduceLeDiff, lim, hn1, List.length_map, b1, fD]
      · by_cases b2 : (4 : Int) < (cs.length : Int)
        · rw [if_neg (by omega)]
          simp only [fSeq, fIfS, fRet, fAsg, fOwn, fApp, fExt, fBrk, fCnt, fDrop, fFrz, frz, fNext, fFor, fB, fAnd, fOr, fNot, fAndV, fOrV, fNotV, fIf, fChain, fOp, fUn, fVar, fC, fTup, fLst, fV, fCons, fNil, fCall, fCallL, fLenV, fSl, fPart, fNoPart, fStar, fAug, gS, gT, gN, gC, fSeqI, run_1, run_2, run_3, run_4, ix0, ix1, ix2, ix3, then_nx, then_rt, then_bk, then_ct, turn_nx, turn_ct, turn_bk, turn_rt, res_rt, asB_b, gIx_t, gIx_l, gAdd_i, gSub_i, gLt_i, gLe_i, gGt_i, gGe_i, eq_i, eq_s, ne_i, ne_s, gLen_t, gLen_l, gTup_l, gTup_t, strEq, Option.bind_some, List.getElem?_cons_zero, List.getElem?_cons_succ, List.set_cons_zero, List.set_cons_succ, List.replicate_succ, List.replicate_zero, Nat.reduceSub, Nat.reduceAdd, if_true, if_false, decide_true, decide_false, Bool.not_true, Bool.not_false, Bool.false_eq_true, String.reduceEq, reduceIte, List.length_cons, List.length_nil, Nat.reduceLeDiff, lim, hn1, List.length_map, b1, b2, fD]
        · rw [if_pos (by omega), nx _ _ (by simp only [fSeq, fIfS, fRet, fAsg, fOwn, fApp, fExt, fBrk, fCnt, fDrop, fFrz, frz, fNext, fFor, fB, fAnd, fOr, fNot, fAndV, fOrV, fNotV, fIf, fChain, fOp, fUn, fVar, fC, fTup, fLst, fV, fCons, fNil, fCall, fCallL, fLenV, fSl, fPart, fNoPart, fStar, fAug, gS, gT, gN, gC, fSeqI, run_1, run_2, run_3, run_4, ix0, ix1, ix2, ix3, then_nx, then_rt, then_bk, then_ct, turn_nx, turn_ct, turn_bk, turn_rt, res_rt, asB_b, gIx_t, gIx_l, gAdd_i, gSub_i, gLt_i, gLe_i, gGt_i, gGe_i, eq_i, eq_s, ne_i, ne_s, gLen_t, gLen_l, gTup_l, gTup_t, strEq, Option.bind_some, List.getElem?_cons_zero, List.getElem?_cons_succ, List.set_cons_zero, List.set_cons_succ, List.replicate_succ, List.replicate_zero, Nat.reduceSub, Nat.reduceAdd, if_true, if_false, decide_true, decide_false, Bool.not_true, Bool.not_false, Bool.false_eq_true, String.reduceEq, reduceIte, List.length_cons, List.length_nil, Nat.reduceLeDiff, lim, List.length_map, b1, b2])]
          by_cases c1 : m < 0
          · rw [if_neg (by omega)]
            simp only [fSeq, fIfS, fRet, fAsg, fOwn, fApp, fExt, fBrk, fCnt, fDrop, fFrz, frz, fNext, fFor, fB, fAnd, fOr, fNot, fAndV, fOrV, fNotV, fIf, fChain, fOp, fUn, fVar, fC, fTup, fLst, fV, fCons, fNil, fCall, fCallL, fLenV, fSl, fPart, fNoPart, fStar, fAug, gS, gT, gN, gC, fSeqI, run_1, run_2, run_3, run_4, ix0, ix1, ix2, ix3, then_nx, then_rt, then_bk, then_ct, turn_nx, turn_ct, turn_bk, turn_rt, res_rt, asB_b, gIx_t, gIx_l, gAdd_i, gSub_i, gLt_i, gLe_i, gGt_i, gGe_i, eq_i, eq_s, ne_i, ne_s, gLen_t, gLen_l, gTup_l, gTup_t, strEq, Option.bind_some, List.getElem?_cons_zero, List.getElem?_cons_succ, List.set_cons_zero, List.set_cons_succ, List.replicate_succ, List.replicate_zero, Nat.reduceSub, Nat.reduceAdd, if_true, if_false, decide_true, decide_false, Bool.not_true, Bool.not_false, Bool.false_eq_true, String.reduceEq, reduceIte, List.length_cons, List.length_nil, Nat.reduceLeDiff, lim, hn1, c1, fD]
          · by_cases c2 : 6 < m
            · rw [if_neg (by omega)]
              simp only [fSeq, fIfS, fRet, fAsg, fOwn, fApp, fExt, fBrk, fCnt, fDrop, fFrz, frz, fNext, fFor, fB, fAnd, fOr, fNot, fAndV, fOrV, fNotV, fIf, fChain, fOp, fUn, fVar, fC, fTup, fLst, fV, fCons, fNil, fCall, fCallL, fLenV, fSl, fPart, fNoPart, fStar, fAug, gS, gT, gN, gC, fSeqI, run_1, run_2, run_3, run_4, ix0, ix1, ix2, ix3, then_nx, then_rt, then_bk, then_ct, turn_nx, turn_ct, turn_bk, turn_rt, res_rt, asB_b, gIx_t, gIx_l, gAdd_i, gSub_i, gLt_i, gLe_i, gGt_i, gGe_i, eq_i, eq_s, ne_i, ne_s, gLen_t, gLen_l, gTup_l, gTup_t, strEq, Option.bind_some, List.getElem?_cons_zero, List.getElem?_cons_succ, List.set_cons_zero, List.set_cons_succ, List.replicate_succ, List.replicate_zero, Nat.reduceSub, Nat.reduceAdd, if_true, if_false, decide_true, decide_false, Bool.not_true, Bool.not_false, Bool.false_eq_true, String.reduceEq, reduceIte, List.length_cons, List.length_nil, Nat.reduceLeDiff, lim, hn1, c1, c2, fD]
            · rw [if_pos (by omega), nx _ _ (by simp only [fSeq, fIfS, fRet, fAsg, fOwn, fApp, fExt, fBrk, fCnt, fDrop, fFrz, frz, fNext, fFor, fB, fAnd, fOr, fNot, fAndV, fOrV, fNotV, fIf, fChain, fOp, fUn, fVar, fC, fTup, fLst, fV, fCons, fNil, fCall, fCallL, fLenV, fSl, fPart, fNoPart, fStar, fAug, gS, gT, gN, gC, fSeqI, run_1, run_2, run_3, run_4, ix0, ix1, ix2, ix3, then_nx, then_rt, then_bk, then_ct, turn_nx, turn_ct, turn_bk, turn_rt, res_rt, asB_b, gIx_t, gIx_l, gAdd_i, gSub_i, gLt_i, gLe_i, gGt_i, gGe_i, eq_i, eq_s, ne_i, ne_s, gLen_t, gLen_l, gTup_l, gTup_t, strEq, Option.bind_some, List.getElem?_cons_zero, List.getElem?_cons_succ, List.set_cons_zero, List.set_cons_succ, List.replicate_succ, List.replicate_zero, Nat.reduceSub, Nat.reduceAdd, if_true, if_false, decide_true, decide_false, Bool.not_true, Bool.not_false, Bool.false_eq_true, String.reduceEq, reduceIte, List.length_cons, List.length_nil, Nat.reduceLeDiff, lim, c1, c2])]
              obtain ⟨ρ', h1, y3, y4, y5, y6, y7, rfl⟩ := due_loop hok hl (z0 := .val (.int s)) (z2 := .val (.int m)) cs.length 0 .un .un .un .un .un .un (by omega)
              rw [List.take_zero, List.drop_zero, List.map_nil] at h1
              have hr : fRng1 (fCons (fLenV 1) fNil) [.val (.int s), .val (.list (cs.map Cx.data)), .val (.int m), .un, .un, .un, .un, .un, .un] = some ((List.range' 0 cs.length).map fun (i : Nat) => .int (i : Int)) := by
                have hz : -10000000 ≤ (cs.length : Int) ∧ (cs.length : Int) ≤ 10000000 := by omega
                rw [← List.range_eq_range', ← rng_map0]
                simp only [fSeq, fIfS, fRet, fAsg, fOwn, fApp, fExt, fBrk, fCnt, fDrop, fFrz, frz, fNext, fFor, fB, fAnd, fOr, fNot, fAndV, fOrV, fNotV, fIf, fChain, fOp, fUn, fVar, fC, fTup, fLst, fV, fCons, fNil, fCall, fCallL, fLenV, fSl, fPart, fNoPart, fStar, fAug, gS, gT, gN, gC, fSeqI, run_1, run_2, run_3, run_4, ix0, ix1, ix2, ix3, then_nx, then_rt, then_bk, then_ct, turn_nx, turn_ct, turn_bk, turn_rt, res_rt, asB_b, gIx_t, gIx_l, gAdd_i, gSub_i, gLt_i, gLe_i, gGt_i, gGe_i, eq_i, eq_s, ne_i, ne_s, gLen_t, gLen_l, gTup_l, gTup_t, strEq, Option.bind_some, List.getElem?_cons_zero, List.getElem?_cons_succ, List.set_cons_zero, List.set_cons_succ, List.replicate_succ, List.replicate_zero, Nat.reduceSub, Nat.reduceAdd, if_true, if_false, decide_true, decide_false, Bool.not_true, Bool.not_false, Bool.false_eq_true, String.reduceEq, reduceIte, List.length_cons, List.length_nil, Nat.reduceLeDiff, lim, fRng1, List.length_map, hz, and_self, Int.toNat_natCast]
              have hf := (for_ds hr).trans h1
              show resF (fThen (fFor (fRng1 (fCons (fLenV 1) fNil)) (gS 3) dueB _) _) = _
              rw [hf]
              cases e : firstF [] 0 cs with
              | some w => obtain ⟨w, i⟩ := w; rfl
              | none => simp only [fSeq, fIfS, fRet, fAsg, fOwn, fApp, fExt, fBrk, fCnt, fDrop, fFrz, frz, fNext, fFor, fB, fAnd, fOr, fNot, fAndV, fOrV, fNotV, fIf, fChain, fOp, fUn, fVar, fC, fTup, fLst, fV, fCons, fNil, fCall, fCallL, fLenV, fSl, fPart, fNoPart, fStar, fAug, gS, gT, gN, gC, fSeqI, run_1, run_2, run_3, run_4, ix0, ix1, ix2, ix3, then_nx, then_rt, then_bk, then_ct, turn_nx, turn_ct, turn_bk, turn_rt, res_rt, asB_b, gIx_t, gIx_l, gAdd_i, gSub_i, gLt_i, gLe_i, gGt_i, gGe_i, eq_i, eq_s, ne_i, ne_s, gLen_t, gLen_l, gTup_l, gTup_t, strEq, Option.bind_some, List.getElem?_cons_zero, List.getElem?_cons_succ, List.set_cons_zero, List.set_cons_succ, List.replicate_succ, List.replicate_zero, Nat.reduceSub, Nat.reduceAdd, if_true, if_false, decide_true, decide_false, Bool.not_true, Bool.not_false, Bool.false_eq_true, String.reduceEq, reduceIte, List.length_cons, List.length_nil, Nat.reduceLeDiff, lim, gTuple]
theorem mac_body {cs : List Cx} {k : Nat} {c : Cx} (hc : cs[k]? = some c) (h : CxOk c) (hl : cs.length ≤ 1000) {z0 z2 z5 z6 : Sl} : xSeq (xSt (fAsg (fCall D_flt (fCons (fVar 4) (fCons (fV (fComp (fSeqI (fSl gSl (fVar 1) fNoPart (fPart (fVar 3)))) (gS 6) (fun _ => some true) (fOp gIx (fVar 6) (fC (.int 0))) [6])) fNil))) (gS 5)))
        (xIf (fB (fOp gNotN (fVar 5) (fC .none))) (xRaise 1 okW (fCons (fVar 5) (fCons (fVar 3) fNil))) (xSt fNext)) [z0, .val (.list (cs.map Cx.data)), z2, .val (.int (k : Int)), .val c.data, z5, z6] = some (match flt ((cs.take k).map Cx.nm) c with
    | some w => .inr (⟨1, .str w, .int (k : Int)⟩, [z0, .val (.list (cs.map Cx.data)), z2, .val (.int (k : Int)), .val c.data, .val (.str w), z6])
    | none => .inl (.nx, [z0, .val (.list (cs.map Cx.data)), z2, .val (.int (k : Int)), .val c.data, .val .none, z6])) := by
  have ha : fComp (fSeqI (fSl gSl (fVar 1) fNoPart (fPart (fVar 3)))) (gS 6) (fun _ => some true) (fOp gIx (fVar 6) (fC (.int 0))) [6] [z0, .val (.list (cs.map Cx.data)), z2, .val (.int (k : Int)), .val c.data, z5, z6] = some (((cs.take k).map Cx.nm).map .str) := ahead hl rfl rfl (Nat.le_of_ble_eq_true rfl)
  have h1 := m_flt h ((cs.take k).map Cx.nm)
  have wl : ∀ w, flt ((cs.take k).map Cx.nm) c = some w → w.length ≤ 1000 := fun w e => by
    unfold flt at e
    split at e
    · cases e; decide +kernel
    · split at e
      · cases e; decide +kernel
      · split at e
        · cases e; decide +kernel
        · split at e
          · cases e; decide +kernel
          · split at e
            · cases e
            · cases e; decide +kernel
  rw [x_nx (ρ' := [z0, .val (.list (cs.map Cx.data)), z2, .val (.int (k : Int)), .val c.data, .val (fltD (flt ((cs.take k).map Cx.nm) c)), z6]) (by
    unfold xSt
    simp only [fSeq, fIfS, fRet, fAsg, fOwn, fApp, fExt, fBrk, fCnt, fDrop, fFrz, frz, fNext, fFor, fB, fAnd, fOr, fNot, fAndV, fOrV, fNotV, fIf, fChain, fOp, fUn, fVar, fC, fTup, fLst, fV, fCons, fNil, fCall, fCallL, fLenV, fSl, fPart, fNoPart, fStar, fAug, gS, gT, gN, gC, fSeqI, run_1, run_2, run_3, run_4, ix0, ix1, ix2, ix3, then_nx, then_rt, then_bk, then_ct, turn_nx, turn_ct, turn_bk, turn_rt, res_rt, asB_b, gIx_t, gIx_l, gAdd_i, gSub_i, gLt_i, gLe_i, gGt_i, gGe_i, eq_i, eq_s, ne_i, ne_s, gLen_t, gLen_l, gTup_l, gTup_t, strEq, Option.bind_some, List.getElem?_cons_zero, List.getElem?_cons_succ, List.set_cons_zero, List.set_cons_succ, List.replicate_succ, List.replicate_zero, Nat.reduceSub, Nat.reduceAdd, if_true, if_false, decide_true, decide_false, Bool.not_true, Bool.not_false, Bool.false_eq_true, String.reduceEq, reduceIte, List.length_cons, List.length_nil, Nat.reduceLeDiff, lim, ha, h1]
    rfl)]
  have hk : k < cs.length := (List.getElem?_eq_some_iff.mp hc).1
  cases e : flt ((cs.take k).map Cx.nm) c with
  | none => rfl
  | some w =>
    have hw := wl w e
    have ok : okW (.str w) (.int (k : Int)) = true := by
      show (decide (w.length ≤ 1000) && decide ((k : Int).natAbs < 1000)) = true
      rw [decide_eq_true hw, decide_eq_true (by omega)]
      rfl
    show (if okW (.str w) (.int (k : Int)) = true then _ else _) = _
    rw [if_pos ok]
    rfl
noncomputable abbrev macB : FSX := xSeq (xSt (fAsg (fCall D_flt (fCons (fVar 4) (fCons (fV (fComp (fSeqI (fSl gSl (fVar 1) fNoPart (fPart (fVar 3)))) (gS 6) (fun _ => some true) (fOp gIx (fVar 6) (fC (.int 0))) [6])) fNil))) (gS 5)))
        (xIf (fB (fOp gNotN (fVar 5) (fC .none))) (xRaise 1 okW (fCons (fVar 5) (fCons (fVar 3) fNil))) (xSt fNext))
theorem mac_loop {cs : List Cx} (hok : ∀ c ∈ cs, CxOk c) (hl : cs.length ≤ 1000) {z0 z2 z6 : Sl} : ∀ (n k : Nat) (z3 z4 z5 : Sl), k + n = cs.length → ∃ ρ', xLoop (gT 2 (gC (gS 3) (gC (gS 4) gN))) macB (enuD k ((cs.drop k).map Cx.data)) [z0, .val (.list (cs.map Cx.data)), z2, z3, z4, z5, z6] = some (match firstF ((cs.take k).map Cx.nm) k (cs.drop k) with
    | some (w, i) => .inr (⟨1, .str w, .int (i : Int)⟩, ρ')
    | none => .inl (.nx, ρ')) ∧ ∃ y3 y4 y5, ρ' = [z0, .val (.list (cs.map Cx.data)), z2, y3, y4, y5, z6]
  | 0, k, z3, z4, z5, h => by
    rw [List.drop_of_length_le (by omega)]
    exact ⟨_, rfl, _, _, _, rfl⟩
  | n + 1, k, z3, z4, z5, h => by
    have hlt : k < cs.length := by omega
    have hc : cs[k]? = some cs[k] := List.getElem?_eq_getElem hlt
    have ht : macB [z0, .val (.list (cs.map Cx.data)), z2, .val (.int (k : Int)), .val cs[k].data, z5, z6] = _ := mac_body hc (hok _ (List.getElem_mem hlt)) hl (z0 := z0) (z2 := z2) (z5 := z5) (z6 := z6)
    have ht2 : (cs.take (k + 1)).map Cx.nm = (cs.take k).map Cx.nm ++ [cs[k].nm] := by
      rw [List.take_succ, hc, List.map_append]
      rfl
    rw [List.drop_eq_getElem_cons hlt, firstF, List.map_cons, enuD]
    have hg : gT 2 (gC (gS 3) (gC (gS 4) gN)) (.tuple [.int (k : Int), cs[k].data]) [z0, .val (.list (cs.map Cx.data)), z2, z3, z4, z5, z6] = some [z0, .val (.list (cs.map Cx.data)), z2, .val (.int (k : Int)), .val cs[k].data, z5, z6] := rfl
    unfold xLoop
    rw [hg, Option.bind_some, ht]
    cases e : flt ((cs.take k).map Cx.nm) cs[k] with
    | some w => exact ⟨_, rfl, _, _, _, rfl⟩
    | none =>
      obtain ⟨ρ', h1, h2⟩ := mac_loop hok hl n (k + 1) (.val (.int (k : Int))) (.val cs[k].data) (.val .none) (by omega)
      refine ⟨ρ', ?_, h2⟩
      rw [ht2] at h1
      exact h1
theorem m_told {cs : List Cx} (hok : ∀ c ∈ cs, CxOk c) (hl : cs.length ≤ 1000) (s m : Int) : D_told [.int s, .list (cs.map Cx.data), .int m] = some (macD s cs m) := by
  have key : D_mac [.int s, .list (cs.map Cx.data), .int m] = some (if -1000 ≤ s ∧ s ≤ 1000 then (if (1 : Int) ≤ cs.length ∧ (cs.length : Int) ≤ 4 then (if 0 ≤ m ∧ m ≤ 6 then (match firstF [] 0 cs with
    | some (w, k) => .inr ⟨1, .str w, .int (k : Int)⟩
    | none => .inl (.tuple [.int s, .tuple (cs.map Cx.data), .int m])) else .inr ⟨1, .str "wrong most", .int (-1)⟩) else .inr ⟨1, .str "wrong number", .int (-1)⟩) else .inr ⟨1, .str "wrong first", .int (-1)⟩) := by
    show resX (bx_machine D_flt [.val (.int s), .val (.list (cs.map Cx.data)), .val (.int m), .un, .un, .un, .un]) = _
    have hn : gNeg (.int 1000) = some (.int (-1000)) := rfl
    have hn1 : gNeg (.int 1) = some (.int (-1)) := rfl
    have ra : ∀ (ρ : List Sl) (w : Str), w.length ≤ 1000 → xRaise 1 okW (fCons (fC (.str w)) (fCons (fUn gNeg (fC (.int 1))) fNil)) ρ = some (.inr (⟨1, .str w, .int (-1)⟩, ρ)) := fun ρ w hw => by
      have hf : (fCons (fC (.str w)) (fCons (fUn gNeg (fC (.int 1))) fNil)) ρ = some [.str w, .int (-1)] := rfl
      unfold xRaise
      rw [hf]
      show (if okW (.str w) (.int (-1)) = true then _ else _) = _
      rw [if_pos (by
        show (decide (w.length ≤ 1000) && decide ((-1 : Int).natAbs < 1000)) = true
        rw [decide_eq_true hw]
        rfl)]
    have yes : ∀ (t : FT) (f g : FSX) (ρ : List Sl), t ρ = some true → xIf t f g ρ = f ρ := fun t f g ρ h => by unfold xIf; rw [h]; rfl
    have no : ∀ (t : FT) (f g : FSX) (ρ : List Sl), t ρ = some false → xIf t f g ρ = g ρ := fun t f g ρ h => by unfold xIf; rw [h]; rfl
    unfold bx_machine
    by_cases a : -1000 ≤ s ∧ s ≤ 1000
    · rw [if_pos a, x_nx (ρ' := [.val (.int s), .val (.list (cs.map Cx.data)), .val (.int m), .un, .un, .un, .un]) ((no _ _ _ _ (by simp only [fSeq, fIfS, fRet, fAsg, fOwn, fApp, fExt, fBrk, fCnt, fDrop, fFrz, frz, fNext, fFor, fB, fAnd, fOr, fNot, fAndV, fOrV, fNotV, fIf, fChain, fOp, fUn, fVar, fC, fTup, fLst, fV, fCons, fNil, fCall, fCallL, fLenV, fSl, fPart, fNoPart, fStar, fAug, gS, gT, gN, gC, fSeqI, run_1, run_2, run_3, run_4, ix0, ix1, ix2, ix3, then_nx, then_rt, then_bk, then_ct, turn_nx, turn_ct, turn_bk, turn_rt, res_rt, asB_b, gIx_t, gIx_l, gAdd_i, gSub_i, gLt_i, gLe_i, gGt_i, gGe_i, eq_i, eq_s, ne_i, ne_s, gLen_t, gLen_l, gTup_l, gTup_t, strEq, Option.bind_some, List.getElem?_cons_zero, List.getElem?_cons_succ, List.set_cons_zero, List.set_cons_succ, List.replicate_succ, List.replicate_zero, Nat.reduceSub, Nat.reduceAdd, if_true, if_false, decide_true, decide_false, Bool.not_true, Bool.not_false, Bool.false_eq_true, String.reduceEq, reduceIte, List.length_cons, List.length_nil, Nat.reduceLeDiff, lim, hn, a.1, a.2])).trans rfl)]
      by_cases b : (1 : Int) ≤ cs.length ∧ (cs.length : Int) ≤ 4
      · rw [if_pos b, x_nx (ρ' := [.val (.int s), .val (.list (cs.map Cx.data)), .val (.int m), .un, .un, .un, .un]) ((no _ _ _ _ (by simp only [fSeq, fIfS, fRet, fAsg, fOwn, fApp, fExt, fBrk, fCnt, fDrop, fFrz, frz, fNext, fFor, fB, fAnd, fOr, fNot, fAndV, fOrV, fNotV, fIf, fChain, fOp, fUn, fVar, fC, fTup, fLst, fV, fCons, fNil, fCall, fCallL, fLenV, fSl, fPart, fNoPart, fStar, fAug, gS, gT, gN, gC, fSeqI, run_1, run_2, run_3, run_4, ix0, ix1, ix2, ix3, then_nx, then_rt, then_bk, then_ct, turn_nx, turn_ct, turn_bk, turn_rt, res_rt, asB_b, gIx_t, gIx_l, gAdd_i, gSub_i, gLt_i, gLe_i, gGt_i, gGe_i, eq_i, eq_s, ne_i, ne_s, gLen_t, gLen_l, gTup_l, gTup_t, strEq, Option.bind_some, List.getElem?_cons_zero, List.getElem?_cons_succ, List.set_cons_zero, List.set_cons_succ, List.replicate_succ, List.replicate_zero, Nat.reduceSub, Nat.reduceAdd, if_true, if_false, decide_true, decide_false, Bool.not_true, Bool.not_false, Bool.false_eq_true, String.reduceEq, reduceIte, List.length_cons, List.length_nil, Nat.reduceLeDiff, lim, List.length_map, b.1, b.2])).trans rfl)]
        by_cases c : 0 ≤ m ∧ m ≤ 6
        · rw [if_pos c, x_nx (ρ' := [.val (.int s), .val (.list (cs.map Cx.data)), .val (.int m), .un, .un, .un, .un]) ((no _ _ _ _ (by simp only [fSeq, fIfS, fRet, fAsg, fOwn, fApp, fExt, fBrk, fCnt, fDrop, fFrz, frz, fNext, fFor, fB, fAnd, fOr, fNot, fAndV, fOrV, fNotV, fIf, fChain, fOp, fUn, fVar, fC, fTup, fLst, fV, fCons, fNil, fCall, fCallL, fLenV, fSl, fPart, fNoPart, fStar, fAug, gS, gT, gN, gC, fSeqI, run_1, run_2, run_3, run_4, ix0, ix1, ix2, ix3, then_nx, then_rt, then_bk, then_ct, turn_nx, turn_ct, turn_bk, turn_rt, res_rt, asB_b, gIx_t, gIx_l, gAdd_i, gSub_i, gLt_i, gLe_i, gGt_i, gGe_i, eq_i, eq_s, ne_i, ne_s, gLen_t, gLen_l, gTup_l, gTup_t, strEq, Option.bind_some, List.getElem?_cons_zero, List.getElem?_cons_succ, List.set_cons_zero, List.set_cons_succ, List.replicate_succ, List.replicate_zero, Nat.reduceSub, Nat.reduceAdd, if_true, if_false, decide_true, decide_false, Bool.not_true, Bool.not_false, Bool.false_eq_true, String.reduceEq, reduceIte, List.length_cons, List.length_nil, Nat.reduceLeDiff, lim, c.1, c.2])).trans rfl)]
          obtain ⟨ρ', h1, y3, y4, y5, rfl⟩ := mac_loop hok hl (z0 := .val (.int s)) (z2 := .val (.int m)) (z6 := .un) cs.length 0 .un .un .un (by omega)
          rw [List.take_zero, List.drop_zero, List.map_nil] at h1
          have he : fEnu (fCons (fVar 1) fNil) [.val (.int s), .val (.list (cs.map Cx.data)), .val (.int m), .un, .un, .un, .un] = some (enuD 0 (cs.map Cx.data)) := rfl
          have hfx : ∀ o, xLoop (gT 2 (gC (gS 3) (gC (gS 4) gN))) macB (enuD 0 (cs.map Cx.data)) [.val (.int s), .val (.list (cs.map Cx.data)), .val (.int m), .un, .un, .un, .un] = o → xFor (fEnu (fCons (fVar 1) fNil)) (gT 2 (gC (gS 3) (gC (gS 4) gN))) macB [.val (.int s), .val (.list (cs.map Cx.data)), .val (.int m), .un, .un, .un, .un] = o := fun o h => by
            unfold xFor
            rw [he, Option.bind_some]
            exact h
          have hf := hfx _ h1
          cases e : firstF [] 0 cs with
          | some w =>
            obtain ⟨w, i⟩ := w
            rw [e] at hf
            rw [x_er hf]
            rfl
          | none =>
            rw [e] at hf
            rw [x_nx hf]
            rfl
        · rw [if_neg c, x_er ((yes _ _ _ _ (by
            by_cases c1 : 0 ≤ m
            · have c2 : ¬ m ≤ 6 := fun h => c ⟨c1, h⟩
              simp only [fSeq, fIfS, fRet, fAsg, fOwn, fApp, fExt, fBrk, fCnt, fDrop, fFrz, frz, fNext, fFor, fB, fAnd, fOr, fNot, fAndV, fOrV, fNotV, fIf, fChain, fOp, fUn, fVar, fC, fTup, fLst, fV, fCons, fNil, fCall, fCallL, fLenV, fSl, fPart, fNoPart, fStar, fAug, gS, gT, gN, gC, fSeqI, run_1, run_2, run_3, run_4, ix0, ix1, ix2, ix3, then_nx, then_rt, then_bk, then_ct, turn_nx, turn_ct, turn_bk, turn_rt, res_rt, asB_b, gIx_t, gIx_l, gAdd_i, gSub_i, gLt_i, gLe_i, gGt_i, gGe_i, eq_i, eq_s, ne_i, ne_s, gLen_t, gLen_l, gTup_l, gTup_t, strEq, Option.bind_some, List.getElem?_cons_zero, List.getElem?_cons_succ, List.set_cons_zero, List.set_cons_succ, List.replicate_succ, List.replicate_zero, Nat.reduceSub, Nat.reduceAdd, if_true, if_false, decide_true, decide_false, Bool.not_true, Bool.not_false, Bool.false_eq_true, String.reduceEq, reduceIte, List.length_cons, List.length_nil, Nat.reduceLeDiff, lim, c1, c2]
            · simp only [fSeq, fIfS, fRet, fAsg, fOwn, fApp, fExt, fBrk, fCnt, fDrop, fFrz, frz, fNext, fFor, fB, fAnd, fOr, fNot, fAndV, fOrV, fNotV, fIf, fChain, fOp, fUn, fVar, fC, fTup, fLst, fV, fCons, fNil, fCall, fCallL, fLenV, fSl, fPart, fNoPart, fStar, fAug, gS, gT, gN, gC, fSeqI, run_1, run_2, run_3, run_4, ix0, ix1, ix2, ix3, then_nx, then_rt, then_bk, then_ct, turn_nx, turn_ct, turn_bk, turn_rt, res_rt, asB_b, gIx_t, gIx_l, gAdd_i, gSub_i, gLt_i, gLe_i, gGt_i, gGe_i, eq_i, eq_s, ne_i, ne_s, gLen_t, gLen_l, gTup_l, gTup_t, strEq, Option.bind_some, List.getElem?_cons_zero, List.getElem?_cons_succ, List.set_cons_zero, List.set_cons_succ, List.replicate_succ, List.replicate_zero, Nat.reduceSub, Nat.reduceAdd, if_true, if_false, decide_true, decide_false, Bool.not_true, Bool.not_false, Bool.false_eq_true, String.reduceEq, reduceIte, List.length_cons, List.length_nil, Nat.reduceLeDiff, lim, c1])).trans (ra _ _ (by decide +kernel)))]
          rfl
      · rw [if_neg b, x_er ((yes _ _ _ _ (by
          by_cases c1 : (1 : Int) ≤ cs.length
          · have c2 : ¬ (cs.length : Int) ≤ 4 := fun h => b ⟨c1, h⟩
            simp only [fSeq, fIfS, fRet, fAsg, fOwn, fApp, fExt, fBrk, fCnt, fDrop, fFrz, frz, fNext, fFor, fB, fAnd, fOr, fNot, fAndV, fOrV, fNotV, fIf, fChain, fOp, fUn, fVar, fC, fTup, fLst, fV, fCons, fNil, fCall, fCallL, fLenV, fSl, fPart, fNoPart, fStar, fAug, gS, gT, gN, gC, fSeqI, run_1, run_2, run_3, run_4, ix0, ix1, ix2, ix3, then_nx, then_rt, then_bk, then_ct, turn_nx, turn_ct, turn_bk, turn_rt, res_rt, asB_b, gIx_t, gIx_l, gAdd_i, gSub_i, gLt_i, gLe_i, gGt_i, gGe_i, eq_i, eq_s, ne_i, ne_s, gLen_t, gLen_l, gTup_l, gTup_t, strEq, Option.bind_some, List.getElem?_cons_zero, List.getElem?_cons_succ, List.set_cons_zero, List.set_cons_succ, List.replicate_succ, List.replicate_zero, Nat.reduceSub, Nat.reduceAdd, if_true, if_false, decide_true, decide_false, Bool.not_true, Bool.not_false, Bool.false_eq_true, String.reduceEq, reduceIte, List.length_cons, List.length_nil, Nat.reduceLeDiff, lim, List.length_map, c1, c2]
          · simp only [fSeq, fIfS, fRet, fAsg, fOwn, fApp, fExt, fBrk, fCnt, fDrop, fFrz, frz, fNext, fFor, fB, fAnd, fOr, fNot, fAndV, fOrV, fNotV, fIf, fChain, fOp, fUn, fVar, fC, fTup, fLst, fV, fCons, fNil, fCall, fCallL, fLenV, fSl, fPart, fNoPart, fStar, fAug, gS, gT, gN, gC, fSeqI, run_1, run_2, run_3, run_4, ix0, ix1, ix2, ix3, then_nx, then_rt, then_bk, then_ct, turn_nx, turn_ct, turn_bk, turn_rt, res_rt, asB_b, gIx_t, gIx_l, gAdd_i, gSub_i, gLt_i, gLe_i, gGt_i, gGe_i, eq_i, eq_s, ne_i, ne_s, gLen_t, gLen_l, gTup_l, gTup_t, strEq, Option.bind_some, List.getElem?_cons_zero, List.getElem?_cons_succ, List.set_cons_zero, List.set_cons_succ, List.replicate_succ, List.replicate_zero, Nat.reduceSub, Nat.reduceAdd, if_true, if_false, decide_true, decide_false, Bool.not_true, Bool.not_false, Bool.false_eq_true, String.reduceEq, reduceIte, List.length_cons, List.length_nil, Nat.reduceLeDiff, lim, List.length_map, c1])).trans (ra _ _ (by decide +kernel)))]
        rfl
    · rw [if_neg a, x_er ((yes _ _ _ _ (by
        by_cases c1 : -1000 ≤ s
        · have c2 : ¬ s ≤ 1000 := fun h => a ⟨c1, h⟩
          simp only [fSeq, fIfS, fRet, fAsg, fOwn, fApp, fExt, fBrk, fCnt, fDrop, fFrz, frz, fNext, fFor, fB, fAnd, fOr, fNot, fAndV, fOrV, fNotV, fIf, fChain, fOp, fUn, fVar, fC, fTup, fLst, fV, fCons, fNil, fCall, fCallL, fLenV, fSl, fPart, fNoPart, fStar, fAug, gS, gT, gN, gC, fSeqI, run_1, run_2, run_3, run_4, ix0, ix1, ix2, ix3, then_nx, then_rt, then_bk, then_ct, turn_nx, turn_ct, turn_bk, turn_rt, res_rt, asB_b, gIx_t, gIx_l, gAdd_i, gSub_i, gLt_i, gLe_i, gGt_i, gGe_i, eq_i, eq_s, ne_i, ne_s, gLen_t, gLen_l, gTup_l, gTup_t, strEq, Option.bind_some, List.getElem?_cons_zero, List.getElem?_cons_succ, List.set_cons_zero, List.set_cons_succ, List.replicate_succ, List.replicate_zero, Nat.reduceSub, Nat.reduceAdd, if_true, if_false, decide_true, decide_false, Bool.not_true, Bool.not_false, Bool.false_eq_true, String.reduceEq, reduceIte, List.length_cons, List.length_nil, Nat.reduceLeDiff, lim, hn, c1, c2]
        · simp only [fSeq, fIfS, fRet, fAsg, fOwn, fApp, fExt, fBrk, fCnt, fDrop, fFrz, frz, fNext, fFor, fB, fAnd, fOr, fNot, fAndV, fOrV, fNotV, fIf, fChain, fOp, fUn, fVar, fC, fTup, fLst, fV, fCons, fNil, fCall, fCallL, fLenV, fSl, fPart, fNoPart, fStar, fAug, gS, gT, gN, gC, fSeqI, run_1, run_2, run_3, run_4, ix0, ix1, ix2, ix3, then_nx, then_rt, then_bk, then_ct, turn_nx, turn_ct, turn_bk, turn_rt, res_rt, asB_b, gIx_t, gIx_l, gAdd_i, gSub_i, gLt_i, gLe_i, gGt_i, gGe_i, eq_i, eq_s, ne_i, ne_s, gLen_t, gLen_l, gTup_l, gTup_t, strEq, Option.bind_some, List.getElem?_cons_zero, List.getElem?_cons_succ, List.set_cons_zero, List.set_cons_succ, List.replicate_succ, List.replicate_zero, Nat.reduceSub, Nat.reduceAdd, if_true, if_false, decide_true, decide_false, Bool.not_true, Bool.not_false, Bool.false_eq_true, String.reduceEq, reduceIte, List.length_cons, List.length_nil, Nat.reduceLeDiff, lim, hn, c1])).trans (ra _ _ (by decide +kernel)))]
      rfl
  show resF (bx_l55_told D_mac [.val (.int s), .val (.list (cs.map Cx.data)), .val (.int m), .un]) = _
  have hf : (fCons (fVar 0) (fCons (fV (fCallL gList (fCons (fVar 1) fNil))) (fCons (fVar 2) fNil))) [.val (.int s), .val (.list (cs.map Cx.data)), .val (.int m), .un] = some [.int s, .list (cs.map Cx.data), .int m] := rfl
  unfold bx_l55_told fTryAs xRet xCall
  rw [hf, Option.bind_some, key]
  unfold macD
  split
  · split
    · split
      · cases e : firstF [] 0 cs with
        | some w => obtain ⟨w, i⟩ := w; rfl
        | none => rfl
      · rfl
    · rfl
  · rfl
end Fb
namespace Fb
open PySem PySem.Spec PyProof.Rows L2 Evl CrT Cr Sm
def b__law_about : FS :=
      (fSeq (fIfS (fB (fOp gEq (fOp gIx (fVar 0) (fC (.int 0))) (fC (.int 0)))) (fRet (fTup (fCons (fC (.str "atmost")) (fCons (fOp gSub (fOp gIx (fVar 0) (fC (.int 1))) (fC (.int 1))) fNil)))) fNext)
      (fSeq (fIfS (fB (fOp gEq (fOp gIx (fVar 0) (fC (.int 0))) (fC (.int 1)))) (fRet (fTup (fCons (fC (.str "divides")) (fCons (fOp gAdd (fC (.int 1)) (fOp gMod (fOp gIx (fVar 0) (fC (.int 1))) (fC (.int 3)))) fNil)))) fNext)
      (fSeq (fIfS (fB (fOp gEq (fOp gIx (fVar 0) (fC (.int 0))) (fC (.int 2)))) (fRet (fTup (fCons (fC (.str "not")) (fCons (fTup (fCons (fC (.str "atmost")) (fCons (fOp gSub (fOp gIx (fVar 0) (fC (.int 1))) (fC (.int 1))) fNil))) fNil)))) fNext)
      (fRet (fTup (fCons (fC (.str "or")) (fCons (fTup (fCons (fC (.str "atmost")) (fCons (fOp gSub (fOp gIx (fVar 0) (fC (.int 1))) (fC (.int 2))) fNil))) (fCons (fTup (fCons (fC (.str "divides")) (fCons (fC (.int 2)) fNil))) fNil))))))))
end Fb
namespace Fb
open PySem PySem.Spec PyProof.Rows L2 Evl CrT Cr Sm
structure Cmd where
  nm : Str
  gd : Cd
  gn : Gn
  ef : Nat
def efS : Nat → Str
  | 0 => "add"
  | 1 => "take"
  | _ => "set"
def Cmd.data (c : Cmd) : PyData := .tuple [.str c.nm, c.gd.data, c.gn.data, .str (efS c.ef)]
inductive ICd : Nat → Cd → Prop
  | atmost {n : Nat} (i : Int) : ICd n (.atmost i)
  | divides {n : Nat} {i : Int} : 0 < i → i ≤ 100 → ICd n (.divides i)
  | not {n : Nat} {c : Cd} : ICd n c → ICd (n + 1) (.not_ c)
  | or {n : Nat} {c d : Cd} : ICd n c → ICd n d → ICd (n + 1) (.or_ c d)
inductive IGn : Gn → Prop
  | int {lo hi : Int} : IGn (.int lo hi)
  | kept {lo hi : Int} {n : Nat} {c : Cd} : n ≤ 3 → ICd n c → IGn (.kept (.int lo hi) c)
end Fb
namespace Fb
open PySem PySem.Spec PyProof.Rows L2 Evl CrT Cr Sm
structure COk (c : Cmd) : Prop where
  hd : ICd 3 c.gd
  fit : fitsC c.gd .int = true
  ok : OkC 10 c.gd
  gn : IGn c.gn
  gk : GenK c.gn .int
  go : OkGk 10 2 c.gn
def csD (cs : List Cmd) : PyData := .tuple (cs.map Cmd.data)
def mcD (s : Int) (cs : List Cmd) (n : Nat) : PyData := .tuple [.int s, csD cs, .int n]
end Fb
namespace Fb
open PySem PySem.Spec PyProof.Rows L2 Evl CrT Cr Sm
def retD (o : Option (Fl × List Sl)) : Option PyData := match o with
  | some (.rt d, _) => some d
  | _ => none
def Turned (f : FS) (ρ : List Sl) (o : (Int → List PyData → Nat → Out) → Out) (M R T : Sl) (st : List PyData) : Prop :=
  (∃ O, retD (f ρ) = some O.data ∧ ∀ rec, o rec = O) ∨ ∃ s' t q z6 z7 z8, f ρ = some (.nx, [M, R, .val (.int s'), .val (.int ((q : Nat) : Int)), .val (.tuple (st ++ [t])), T, z6, z7, z8]) ∧ ∀ rec, o rec = rec s' (st ++ [t]) q
section
variable {cs : List Cmd} {row : List Int} {first : Int} {m : Nat}
theorem Turned.of {f f' : FS} {ρ ρ' : List Sl} {o : (Int → List PyData → Nat → Out) → Out} {M R T : Sl} {st : List PyData} (h : f ρ = f' ρ') (t : Turned f' ρ' o M R T st) : Turned f ρ o M R T st := by
  unfold Turned at t ⊢
  rw [h]
  exact t
end
end Fb
namespace Fb
open PySem PySem.Spec PyProof.Rows L2 Evl CrT Cr Sm
abbrev Tr := Str × Int × Int
def tD (t : Tr) : PyData := .tuple [.str t.1, .int t.2.1, .int t.2.2]
end Fb
namespace Fb
open PySem PySem.Spec PyProof.Rows L2 Evl CrT Cr Sm
noncomputable def D_abt : Fn := runF 1 1 b_l55_about
structure AbOk (c : Cd) : Prop where
  i : ICd 3 c
  f : fitsC c .int = true
  o : OkC 10 c
theorem m_abt {a b : Int} (ha : 0 ≤ a ∧ a < 4) (hb : 0 ≤ b ∧ b < 5) : ∃ c, D_abt [.list [.int a, .int b]] = some c.data ∧ AbOk c := by
  unfold D_abt
  rcases (by omega : a = 0 ∨ a = 1 ∨ a = 2 ∨ a = 3) with rfl | rfl | rfl | rfl
  · refine ⟨.atmost (b - 1), ?_, .atmost _, rfl, .atmost _⟩
    simp only [fSeq, fIfS, fRet, fAsg, fOwn, fApp, fExt, fBrk, fCnt, fDrop, fFrz, frz, fNext, fFor, fB, fAnd, fOr, fNot, fAndV, fOrV, fNotV, fIf, fChain, fOp, fUn, fVar, fC, fTup, fLst, fV, fCons, fNil, fCall, fCallL, fLenV, fSl, fPart, fNoPart, fStar, fAug, gS, gT, gN, gC, fSeqI, run_1, run_2, run_3, run_4, ix0, ix1, ix2, ix3, then_nx, then_rt, then_bk, then_ct, turn_nx, turn_ct, turn_bk, turn_rt, res_rt, asB_b, gIx_t, gIx_l, gAdd_i, gSub_i, gLt_i, gLe_i, gGt_i, gGe_i, eq_i, eq_s, ne_i, ne_s, gLen_t, gLen_l, gTup_l, gTup_t, strEq, Option.bind_some, List.getElem?_cons_zero, List.getElem?_cons_succ, List.set_cons_zero, List.set_cons_succ, List.replicate_succ, List.replicate_zero, Nat.reduceSub, Nat.reduceAdd, if_true, if_false, decide_true, decide_false, Bool.not_true, Bool.not_false, Bool.false_eq_true, String.reduceEq, reduceIte, List.length_cons, List.length_nil, Nat.reduceLeDiff, lim, b_l55_about, Cd.data]
  · have hm : gMod (.int b) (.int 3) = some (.int (b % 3)) := by
      show (if (0 : Int) < 3 then some (PyData.int (b % 3)) else none) = _
      rw [if_pos (by decide)]
    refine ⟨.divides (1 + b % 3), ?_, .divides (by omega) (by omega), ?_, .divides _⟩
    · simp only [fSeq, fIfS, fRet, fAsg, fOwn, fApp, fExt, fBrk, fCnt, fDrop, fFrz, frz, fNext, fFor, fB, fAnd, fOr, fNot, fAndV, fOrV, fNotV, fIf, fChain, fOp, fUn, fVar, fC, fTup, fLst, fV, fCons, fNil, fCall, fCallL, fLenV, fSl, fPart, fNoPart, fStar, fAug, gS, gT, gN, gC, fSeqI, run_1, run_2, run_3, run_4, ix0, ix1, ix2, ix3, then_nx, then_rt, then_bk, then_ct, turn_nx, turn_ct, turn_bk, turn_rt, res_rt, asB_b, gIx_t, gIx_l, gAdd_i, gSub_i, gLt_i, gLe_i, gGt_i, gGe_i, eq_i, eq_s, ne_i, ne_s, gLen_t, gLen_l, gTup_l, gTup_t, strEq, Option.bind_some, List.getElem?_cons_zero, List.getElem?_cons_succ, List.set_cons_zero, List.set_cons_succ, List.replicate_succ, List.replicate_zero, Nat.reduceSub, Nat.reduceAdd, if_true, if_false, decide_true, decide_false, Bool.not_true, Bool.not_false, Bool.false_eq_true, String.reduceEq, reduceIte, List.length_cons, List.length_nil, Nat.reduceLeDiff, lim, b_l55_about, Cd.data, hm, Int.reduceEq, then_nx]
    · rcases (by omega : b % 3 = 0 ∨ b % 3 = 1 ∨ b % 3 = 2) with h | h | h <;> rw [h] <;> decide
  · refine ⟨.not_ (.atmost (b - 1)), ?_, .not (.atmost _), rfl, .not_ (.atmost _)⟩
    simp only [fSeq, fIfS, fRet, fAsg, fOwn, fApp, fExt, fBrk, fCnt, fDrop, fFrz, frz, fNext, fFor, fB, fAnd, fOr, fNot, fAndV, fOrV, fNotV, fIf, fChain, fOp, fUn, fVar, fC, fTup, fLst, fV, fCons, fNil, fCall, fCallL, fLenV, fSl, fPart, fNoPart, fStar, fAug, gS, gT, gN, gC, fSeqI, run_1, run_2, run_3, run_4, ix0, ix1, ix2, ix3, then_nx, then_rt, then_bk, then_ct, turn_nx, turn_ct, turn_bk, turn_rt, res_rt, asB_b, gIx_t, gIx_l, gAdd_i, gSub_i, gLt_i, gLe_i, gGt_i, gGe_i, eq_i, eq_s, ne_i, ne_s, gLen_t, gLen_l, gTup_l, gTup_t, strEq, Option.bind_some, List.getElem?_cons_zero, List.getElem?_cons_succ, List.set_cons_zero, List.set_cons_succ, List.replicate_succ, List.replicate_zero, Nat.reduceSub, Nat.reduceAdd, if_true, if_false, decide_true, decide_false, Bool.not_true, Bool.not_false, Bool.false_eq_true, String.reduceEq, reduceIte, List.length_cons, List.length_nil, Nat.reduceLeDiff, lim, b_l55_about, Cd.data, Int.reduceEq, then_nx]
  · refine ⟨.or_ (.atmost (b - 2)) (.divides 2), ?_, .or (.atmost _) (.divides (by decide) (by decide)), by simp [fitsC, Kd.isInt], .or_ (.atmost _) (.divides _)⟩
    simp only [fSeq, fIfS, fRet, fAsg, fOwn, fApp, fExt, fBrk, fCnt, fDrop, fFrz, frz, fNext, fFor, fB, fAnd, fOr, fNot, fAndV, fOrV, fNotV, fIf, fChain, fOp, fUn, fVar, fC, fTup, fLst, fV, fCons, fNil, fCall, fCallL, fLenV, fSl, fPart, fNoPart, fStar, fAug, gS, gT, gN, gC, fSeqI, run_1, run_2, run_3, run_4, ix0, ix1, ix2, ix3, then_nx, then_rt, then_bk, then_ct, turn_nx, turn_ct, turn_bk, turn_rt, res_rt, asB_b, gIx_t, gIx_l, gAdd_i, gSub_i, gLt_i, gLe_i, gGt_i, gGe_i, eq_i, eq_s, ne_i, ne_s, gLen_t, gLen_l, gTup_l, gTup_t, strEq, Option.bind_some, List.getElem?_cons_zero, List.getElem?_cons_succ, List.set_cons_zero, List.set_cons_succ, List.replicate_succ, List.replicate_zero, Nat.reduceSub, Nat.reduceAdd, if_true, if_false, decide_true, decide_false, Bool.not_true, Bool.not_false, Bool.false_eq_true, String.reduceEq, reduceIte, List.length_cons, List.length_nil, Nat.reduceLeDiff, lim, b_l55_about, Cd.data, Int.reduceEq, then_nx]
structure CmOk (c : Cmd) : Prop where
  k : COk c
  n : SeqAt.shaped (.str c.nm) = true ∧ c.nm.length ≤ 1000 ∧ isWord c.nm = true
def nmS : Nat → Str
  | 0 => "put"
  | 1 => "get"
  | 2 => "reset"
  | _ => "jump"
theorem nm_ok : ∀ j : Nat, SeqAt.shaped (.str (nmS j)) = true ∧ (nmS j).length ≤ 1000 ∧ isWord (nmS j) = true
  | 0 => ⟨by decide +kernel, by decide +kernel, by decide +kernel⟩
  | 1 => ⟨by decide +kernel, by decide +kernel, by decide +kernel⟩
  | 2 => ⟨by decide +kernel, by decide +kernel, by decide +kernel⟩
  | _ + 3 => show SeqAt.shaped (.str "jump") = true ∧ Str.length "jump" ≤ 1000 ∧ isWord "jump" = true from ⟨by decide +kernel, by decide +kernel, by decide +kernel⟩
theorem noas_ints (l : List Int) : noAs [.list (l.map PyData.int)] = true := by
  have : noAs (l.map PyData.int) = true := noAs_of fun d hd => by
    obtain ⟨i, _, rfl⟩ := List.mem_map.mp hd
    rfl
  simp only [noAs, noA, this, Bool.and_self]
theorem cmd_ok {j : Nat} {e0 e1 e2 e3 e4 : Int} (hj : j < 4) (h0 : 0 ≤ e0 ∧ e0 < 4) (h1 : 0 ≤ e1 ∧ e1 < 5) (h2 : 0 ≤ e2 ∧ e2 < 3) (h3 : 0 ≤ e3 ∧ e3 < 3) (h4 : 0 ≤ e4 ∧ e4 < 3) {nb : Nat} {S I Hd z6 z7 : Sl} {done : List PyData} (hl : done.length ≤ 100) {Q : Fl → Nat → List Sl → Prop}
    (hQ : ∀ c : Cmd, CmOk c → ∀ z6 z7, Q .nx nb [S, I, Hd, .own (.l (done ++ [c.data])), .val (.int (j : Int)), .val (.list [.int e0, .int e1, .int e2, .int e3, .int e4]), z6, z7]) :
    (wSeq (wSt (fAsg (fCall0 D_abt (fCons (fSl gSl (fVar 5) fNoPart (fPart (fC (.int 2)))) fNil)) (gS 6)))
        (wSeq (wSt (fIfS (fB (fOp gEq (fOp gIx (fVar 5) (fC (.int 0))) (fC (.int 3)))) (fAsg (fTup (fCons (fC (.str "atmost")) (fCons (fOp gAdd (fC (.int 2)) (fOp gIx (fVar 5) (fC (.int 1)))) fNil))) (gS 6)) fNext))
        (wSeq (wSt (fAsg (fTup (fCons (fC (.str "int")) (fCons (fOp gSub (fOp gIx (fVar 5) (fC (.int 2))) (fC (.int 1))) (fCons (fOp gAdd (fOp gSub (fOp gIx (fVar 5) (fC (.int 2))) (fC (.int 1))) (fOp gIx (fVar 5) (fC (.int 3)))) fNil)))) (gS 7)))
        (wSeq (wSt (fIfS (fB (fOp gEq (fOp gIx (fVar 5) (fC (.int 4))) (fC (.int 0)))) (fAsg (fTup (fCons (fC (.str "kept")) (fCons (fVar 7) (fCons (fCall0 D_abt (fCons (fV (fLst (fCons (fOp gIx (fVar 5) (fC (.int 2))) (fCons (fOp gIx (fVar 5) (fC (.int 3))) fNil)))) fNil)) fNil)))) (gS 7)) fNext))
        (wSt (fApp 3 (fTup (fCons (fOp gIx (fV (fLst (fCons (fC (.str "put")) (fCons (fC (.str "get")) (fCons (fC (.str "reset")) (fCons (fC (.str "jump")) fNil)))))) (fVar 4)) (fCons (fVar 6) (fCons (fVar 7) (fCons (fOp gIx (fV (fLst (fCons (fC (.str "add")) (fCons (fC (.str "take")) (fCons (fC (.str "set")) fNil))))) (fOp gMod (fOp gAdd (fOp gIx (fVar 5) (fC (.int 4))) (fVar 4)) (fC (.int 3)))) fNil)))))))))) ) nb [S, I, Hd, .own (.l done), .val (.int (j : Int)), .val (.list [.int e0, .int e1, .int e2, .int e3, .int e4]), z6, z7] Q := by
  obtain ⟨c1, a1, a2⟩ := m_abt h0 h1
  obtain ⟨c2, b1, b2⟩ := m_abt (a := e2) (b := e3) (by omega) (by omega)
  have n1 : noAs [.list [.int e0, .int e1]] = true := noas_ints [e0, e1]
  have n2 : noAs [.list [.int e2, .int e3]] = true := noas_ints [e2, e3]
  have sl : gSl (.list [.int e0, .int e1, .int e2, .int e3, .int e4]) none (some 2) = some (.list [.int e0, .int e1]) := by
    show some (PyData.list (Sm.cutD _ none (some ((2 : Nat) : Int)))) = _
    rw [cutD_take]
    rfl
  obtain ⟨g1, hg1, hg2⟩ : ∃ c : Cd, (fIfS (fB (fOp gEq (fOp gIx (fVar 5) (fC (.int 0))) (fC (.int 3)))) (fAsg (fTup (fCons (fC (.str "atmost")) (fCons (fOp gAdd (fC (.int 2)) (fOp gIx (fVar 5) (fC (.int 1)))) fNil))) (gS 6)) fNext) [S, I, Hd, .own (.l done), .val (.int (j : Int)), .val (.list [.int e0, .int e1, .int e2, .int e3, .int e4]), .val c1.data, z7] = some (.nx, [S, I, Hd, .own (.l done), .val (.int (j : Int)), .val (.list [.int e0, .int e1, .int e2, .int e3, .int e4]), .val c.data, z7]) ∧ AbOk c := by
    by_cases h : e0 = 3
    · exact ⟨.atmost (2 + e1), by simp only [fSeq, fIfS, fRet, fAsg, fOwn, fApp, fExt, fBrk, fCnt, fDrop, fFrz, frz, fNext, fFor, fB, fAnd, fOr, fNot, fAndV, fOrV, fNotV, fIf, fChain, fOp, fUn, fVar, fC, fTup, fLst, fV, fCons, fNil, fCall, fCallL, fLenV, fSl, fPart, fNoPart, fStar, fAug, gS, gT, gN, gC, fSeqI, run_1, run_2, run_3, run_4, ix0, ix1, ix2, ix3, then_nx, then_rt, then_bk, then_ct, turn_nx, turn_ct, turn_bk, turn_rt, res_rt, asB_b, gIx_t, gIx_l, gAdd_i, gSub_i, gLt_i, gLe_i, gGt_i, gGe_i, eq_i, eq_s, ne_i, ne_s, gLen_t, gLen_l, gTup_l, gTup_t, strEq, Option.bind_some, List.getElem?_cons_zero, List.getElem?_cons_succ, List.set_cons_zero, List.set_cons_succ, List.replicate_succ, List.replicate_zero, Nat.reduceSub, Nat.reduceAdd, if_true, if_false, decide_true, decide_false, Bool.not_true, Bool.not_false, Bool.false_eq_true, String.reduceEq, reduceIte, List.length_cons, List.length_nil, Nat.reduceLeDiff, lim, h, Cd.data, eq_self], .atmost _, rfl, .atmost _⟩
    · exact ⟨c1, by simp only [fSeq, fIfS, fRet, fAsg, fOwn, fApp, fExt, fBrk, fCnt, fDrop, fFrz, frz, fNext, fFor, fB, fAnd, fOr, fNot, fAndV, fOrV, fNotV, fIf, fChain, fOp, fUn, fVar, fC, fTup, fLst, fV, fCons, fNil, fCall, fCallL, fLenV, fSl, fPart, fNoPart, fStar, fAug, gS, gT, gN, gC, fSeqI, run_1, run_2, run_3, run_4, ix0, ix1, ix2, ix3, then_nx, then_rt, then_bk, then_ct, turn_nx, turn_ct, turn_bk, turn_rt, res_rt, asB_b, gIx_t, gIx_l, gAdd_i, gSub_i, gLt_i, gLe_i, gGt_i, gGe_i, eq_i, eq_s, ne_i, ne_s, gLen_t, gLen_l, gTup_l, gTup_t, strEq, Option.bind_some, List.getElem?_cons_zero, List.getElem?_cons_succ, List.set_cons_zero, List.set_cons_succ, List.replicate_succ, List.replicate_zero, Nat.reduceSub, Nat.reduceAdd, if_true, if_false, decide_true, decide_false, Bool.not_true, Bool.not_false, Bool.false_eq_true, String.reduceEq, reduceIte, List.length_cons, List.length_nil, Nat.reduceLeDiff, lim, h], a2⟩
  have gi : GenK (.int (e2 - 1) (e2 - 1 + e3)) .int := .int (by omega) (by omega) (by omega)
  obtain ⟨g2, hg3, hg4, hg5, hg6⟩ : ∃ g : Gn, (fIfS (fB (fOp gEq (fOp gIx (fVar 5) (fC (.int 4))) (fC (.int 0)))) (fAsg (fTup (fCons (fC (.str "kept")) (fCons (fVar 7) (fCons (fCall0 D_abt (fCons (fV (fLst (fCons (fOp gIx (fVar 5) (fC (.int 2))) (fCons (fOp gIx (fVar 5) (fC (.int 3))) fNil)))) fNil)) fNil)))) (gS 7)) fNext) [S, I, Hd, .own (.l done), .val (.int (j : Int)), .val (.list [.int e0, .int e1, .int e2, .int e3, .int e4]), .val g1.data, .val (Gn.int (e2 - 1) (e2 - 1 + e3)).data] = some (.nx, [S, I, Hd, .own (.l done), .val (.int (j : Int)), .val (.list [.int e0, .int e1, .int e2, .int e3, .int e4]), .val g1.data, .val g.data]) ∧ IGn g ∧ GenK g .int ∧ OkGk 10 2 g := by
    have i4 : gIx (.list [.int e0, .int e1, .int e2, .int e3, .int e4]) (.int 4) = some (.int e4) := atI_nat (j := 4) rfl
    by_cases h : e4 = 0
    · refine ⟨.kept (.int (e2 - 1) (e2 - 1 + e3)) c2, ?_, .kept (Nat.le_refl 3) b2.i, .kept gi b2.f, .kept (.int _ _) b2.o⟩
      rw [h] at i4
      simp only [fSeq, fIfS, fRet, fAsg, fOwn, fApp, fExt, fBrk, fCnt, fDrop, fFrz, frz, fNext, fFor, fB, fAnd, fOr, fNot, fAndV, fOrV, fNotV, fIf, fChain, fOp, fUn, fVar, fC, fTup, fLst, fV, fCons, fNil, fCall, fCallL, fLenV, fSl, fPart, fNoPart, fStar, fAug, gS, gT, gN, gC, fSeqI, run_1, run_2, run_3, run_4, ix0, ix1, ix2, ix3, then_nx, then_rt, then_bk, then_ct, turn_nx, turn_ct, turn_bk, turn_rt, res_rt, asB_b, gIx_t, gIx_l, gAdd_i, gSub_i, gLt_i, gLe_i, gGt_i, gGe_i, eq_i, eq_s, ne_i, ne_s, gLen_t, gLen_l, gTup_l, gTup_t, strEq, Option.bind_some, List.getElem?_cons_zero, List.getElem?_cons_succ, List.set_cons_zero, List.set_cons_succ, List.replicate_succ, List.replicate_zero, Nat.reduceSub, Nat.reduceAdd, if_true, if_false, decide_true, decide_false, Bool.not_true, Bool.not_false, Bool.false_eq_true, String.reduceEq, reduceIte, List.length_cons, List.length_nil, Nat.reduceLeDiff, lim, fCall0, n2, b1, h, Gn.data, eq_self, i4]
    · refine ⟨.int (e2 - 1) (e2 - 1 + e3), ?_, .int, gi, .int _ _⟩
      simp only [fSeq, fIfS, fRet, fAsg, fOwn, fApp, fExt, fBrk, fCnt, fDrop, fFrz, frz, fNext, fFor, fB, fAnd, fOr, fNot, fAndV, fOrV, fNotV, fIf, fChain, fOp, fUn, fVar, fC, fTup, fLst, fV, fCons, fNil, fCall, fCallL, fLenV, fSl, fPart, fNoPart, fStar, fAug, gS, gT, gN, gC, fSeqI, run_1, run_2, run_3, run_4, ix0, ix1, ix2, ix3, then_nx, then_rt, then_bk, then_ct, turn_nx, turn_ct, turn_bk, turn_rt, res_rt, asB_b, gIx_t, gIx_l, gAdd_i, gSub_i, gLt_i, gLe_i, gGt_i, gGe_i, eq_i, eq_s, ne_i, ne_s, gLen_t, gLen_l, gTup_l, gTup_t, strEq, Option.bind_some, List.getElem?_cons_zero, List.getElem?_cons_succ, List.set_cons_zero, List.set_cons_succ, List.replicate_succ, List.replicate_zero, Nat.reduceSub, Nat.reduceAdd, if_true, if_false, decide_true, decide_false, Bool.not_true, Bool.not_false, Bool.false_eq_true, String.reduceEq, reduceIte, List.length_cons, List.length_nil, Nat.reduceLeDiff, lim, h, i4]
  have hm : gMod (.int (e4 + (j : Int))) (.int 3) = some (.int ((e4 + (j : Int)) % 3)) := by
    show (if (0 : Int) < 3 then some (PyData.int ((e4 + (j : Int)) % 3)) else none) = _
    rw [if_pos (by decide)]
  obtain ⟨ef, hef⟩ : ∃ ef : Nat, gIx (.list [.str "add", .str "take", .str "set"]) (.int ((e4 + (j : Int)) % 3)) = some (.str (efS ef)) := by
    rcases (by omega : (e4 + (j : Int)) % 3 = 0 ∨ (e4 + (j : Int)) % 3 = 1 ∨ (e4 + (j : Int)) % 3 = 2) with h | h | h <;> rw [h]
    · exact ⟨0, atI_nat (j := 0) rfl⟩
    · exact ⟨1, atI_nat (j := 1) rfl⟩
    · exact ⟨2, atI_nat (j := 2) rfl⟩
  have hnm : gIx (.list [.str "put", .str "get", .str "reset", .str "jump"]) (.int (j : Int)) = some (.str (nmS j)) := by
    rcases (by omega : j = 0 ∨ j = 1 ∨ j = 2 ∨ j = 3) with rfl | rfl | rfl | rfl
    · exact atI_nat (j := 0) rfl
    · exact atI_nat (j := 1) rfl
    · exact atI_nat (j := 2) rfl
    · exact atI_nat (j := 3) rfl
  have i4 : gIx (.list [.int e0, .int e1, .int e2, .int e3, .int e4]) (.int 4) = some (.int e4) := atI_nat (j := 4) rfl
  refine wst_nx (ρ' := [S, I, Hd, .own (.l done), .val (.int (j : Int)), .val (.list [.int e0, .int e1, .int e2, .int e3, .int e4]), .val c1.data, z7]) (by simp only [fSeq, fIfS, fRet, fAsg, fOwn, fApp, fExt, fBrk, fCnt, fDrop, fFrz, frz, fNext, fFor, fB, fAnd, fOr, fNot, fAndV, fOrV, fNotV, fIf, fChain, fOp, fUn, fVar, fC, fTup, fLst, fV, fCons, fNil, fCall, fCallL, fLenV, fSl, fPart, fNoPart, fStar, fAug, gS, gT, gN, gC, fSeqI, run_1, run_2, run_3, run_4, ix0, ix1, ix2, ix3, then_nx, then_rt, then_bk, then_ct, turn_nx, turn_ct, turn_bk, turn_rt, res_rt, asB_b, gIx_t, gIx_l, gAdd_i, gSub_i, gLt_i, gLe_i, gGt_i, gGe_i, eq_i, eq_s, ne_i, ne_s, gLen_t, gLen_l, gTup_l, gTup_t, strEq, Option.bind_some, List.getElem?_cons_zero, List.getElem?_cons_succ, List.set_cons_zero, List.set_cons_succ, List.replicate_succ, List.replicate_zero, Nat.reduceSub, Nat.reduceAdd, if_true, if_false, decide_true, decide_false, Bool.not_true, Bool.not_false, Bool.false_eq_true, String.reduceEq, reduceIte, List.length_cons, List.length_nil, Nat.reduceLeDiff, lim, sl, fCall0, n1, a1]) (wst_nx hg1 (wst_nx (ρ' := [S, I, Hd, .own (.l done), .val (.int (j : Int)), .val (.list [.int e0, .int e1, .int e2, .int e3, .int e4]), .val g1.data, .val (Gn.int (e2 - 1) (e2 - 1 + e3)).data]) (by simp only [fSeq, fIfS, fRet, fAsg, fOwn, fApp, fExt, fBrk, fCnt, fDrop, fFrz, frz, fNext, fFor, fB, fAnd, fOr, fNot, fAndV, fOrV, fNotV, fIf, fChain, fOp, fUn, fVar, fC, fTup, fLst, fV, fCons, fNil, fCall, fCallL, fLenV, fSl, fPart, fNoPart, fStar, fAug, gS, gT, gN, gC, fSeqI, run_1, run_2, run_3, run_4, ix0, ix1, ix2, ix3, then_nx, then_rt, then_bk, then_ct, turn_nx, turn_ct, turn_bk, turn_rt, res_rt, asB_b, gIx_t, gIx_l, gAdd_i, gSub_i, gLt_i, gLe_i, gGt_i, gGe_i, eq_i, eq_s, ne_i, ne_s, gLen_t, gLen_l, gTup_l, gTup_t, strEq, Option.bind_some, List.getElem?_cons_zero, List.getElem?_cons_succ, List.set_cons_zero, List.set_cons_succ, List.replicate_succ, List.replicate_zero, Nat.reduceSub, Nat.reduceAdd, if_true, if_false, decide_true, decide_false, Bool.not_true, Bool.not_false, Bool.false_eq_true, String.reduceEq, reduceIte, List.length_cons, List.length_nil, Nat.reduceLeDiff, lim, Gn.data]) (wst_nx hg3 (wst_end (ρ' := [S, I, Hd, .own (.l (done ++ [(Cmd.mk (nmS j) g1 g2 ef).data])), .val (.int (j : Int)), .val (.list [.int e0, .int e1, .int e2, .int e3, .int e4]), .val g1.data, .val g2.data]) ?_ (hQ _ ⟨⟨hg2.i, hg2.f, hg2.o, hg4, hg5, hg6⟩, nm_ok j⟩ _ _)))))
  have i4' : atI [PyData.int e0, .int e1, .int e2, .int e3, .int e4] 4 = some (.int e4) := i4
  have hnm' : atI [PyData.str "put", .str "get", .str "reset", .str "jump"] (j : Int) = some (.str (nmS j)) := hnm
  have hef' : atI [PyData.str "add", .str "take", .str "set"] ((e4 + (j : Int)) % 3) = some (.str (efS ef)) := hef
  simp only [fSeq, fIfS, fRet, fAsg, fOwn, fApp, fExt, fBrk, fCnt, fDrop, fFrz, frz, fNext, fFor, fB, fAnd, fOr, fNot, fAndV, fOrV, fNotV, fIf, fChain, fOp, fUn, fVar, fC, fTup, fLst, fV, fCons, fNil, fCall, fCallL, fLenV, fSl, fPart, fNoPart, fStar, fAug, gS, gT, gN, gC, fSeqI, run_1, run_2, run_3, run_4, ix0, ix1, ix2, ix3, then_nx, then_rt, then_bk, then_ct, turn_nx, turn_ct, turn_bk, turn_rt, res_rt, asB_b, gIx_t, gIx_l, gAdd_i, gSub_i, gLt_i, gLe_i, gGt_i, gGe_i, eq_i, eq_s, ne_i, ne_s, gLen_t, gLen_l, gTup_l, gTup_t, strEq, Option.bind_some, List.getElem?_cons_zero, List.getElem?_cons_succ, List.set_cons_zero, List.set_cons_succ, List.replicate_succ, List.replicate_zero, Nat.reduceSub, Nat.reduceAdd, if_true, if_false, decide_true, decide_false, Bool.not_true, Bool.not_false, Bool.false_eq_true, String.reduceEq, reduceIte, List.length_cons, List.length_nil, Nat.reduceLeDiff, lim, i4', hm, hnm', hef', Cmd.data]
  rw [if_pos (by omega)]
  rfl
theorem dig {j : Nat} (hj : j < 4) {xs : List Int} (h : DrawOk [4, 5, 3, 3, 3, 4, 5, 3, 3, 3] xs) : ∃ e0 e1 e2 e3 e4 : Int, gSl (.list (xs.map PyData.int)) (some (5 * ((j : Int) / 2))) (some (5 * ((j : Int) / 2) + 5)) = some (.list [.int e0, .int e1, .int e2, .int e3, .int e4]) ∧ (0 ≤ e0 ∧ e0 < 4) ∧ (0 ≤ e1 ∧ e1 < 5) ∧ (0 ≤ e2 ∧ e2 < 3) ∧ (0 ≤ e3 ∧ e3 < 3) ∧ (0 ≤ e4 ∧ e4 < 3) := by
  unfold DrawOk at h
  obtain _ | ⟨h0, _ | ⟨h1, _ | ⟨h2, _ | ⟨h3, _ | ⟨h4, _ | ⟨h5, _ | ⟨h6, _ | ⟨h7, _ | ⟨h8, _ | ⟨h9, _ | _⟩⟩⟩⟩⟩⟩⟩⟩⟩⟩ := h
  match j, hj with
  | 0, _ => exact ⟨_, _, _, _, _, rfl, h0, h1, h2, h3, h4⟩
  | 1, _ => exact ⟨_, _, _, _, _, rfl, h0, h1, h2, h3, h4⟩
  | 2, _ => exact ⟨_, _, _, _, _, rfl, h5, h6, h7, h8, h9⟩
  | 3, _ => exact ⟨_, _, _, _, _, rfl, h5, h6, h7, h8, h9⟩
  | n + 4, h => omega
theorem cmds_loop {k n : Nat} {Hd : Sl} {Q : Fl → Nat → List Sl → Prop} : ∀ (js : List Nat) (cs : List Cmd) (z4 z5 z6 z7 : Sl), (∀ j ∈ js, j < 4) → (∀ c ∈ cs, CmOk c) → cs.length + js.length ≤ 100 → (∀ (cs' : List Cmd) z4 z5 z6 z7, (∀ c ∈ cs', CmOk c) → cs'.length = cs.length + js.length → Q .nx n [.val (.dict []), .val (.int (k : Int)), Hd, .own (.l (cs'.map Cmd.data)), z4, z5, z6, z7]) →
    wLoop (gS 4) (w__law_commands_1 D_abt) (js.map fun (j : Nat) => .int (j : Int)) n [.val (.dict []), .val (.int (k : Int)), Hd, .own (.l (cs.map Cmd.data)), z4, z5, z6, z7] Q
  | [], cs, z4, z5, z6, z7, _, hc, _, q => q cs z4 z5 z6 z7 hc rfl
  | j :: js, cs, z4, z5, z6, z7, hj, hc, hl, q => by
    rw [List.length_cons] at hl
    rw [List.map_cons]
    refine ⟨_, rfl, ?_⟩
    have hm : gMod (.int (j : Int)) (.int 2) = some (.int ((j % 2 : Nat) : Int)) := rfl
    refine ⟨_, rfl, _, rfl, _, rfl, k + 1 + j % 2, [4, 5, 3, 3, 3, 4, 5, 3, 3, 3], rfl, by decide, by decide, fun xs hx => ?_⟩
    obtain ⟨e0, e1, e2, e3, e4, hs, h0, h1, h2, h3, h4⟩ := dig (hj j List.mem_cons_self) hx
    have hd : (fOp gMul (fC (.int 5)) (fOp gDiv (fVar 4) (fC (.int 2)))) [.val (.dict []), .val (.int (k : Int)), Hd, .own (.l (cs.map Cmd.data)), .val (.int (j : Int)), z5, z6, z7] = some (.int (5 * ((j : Int) / 2))) := rfl
    have hd2 : (fOp gAdd (fOp gMul (fC (.int 5)) (fOp gDiv (fVar 4) (fC (.int 2)))) (fC (.int 5))) [.val (.dict []), .val (.int (k : Int)), Hd, .own (.l (cs.map Cmd.data)), .val (.int (j : Int)), z5, z6, z7] = some (.int (5 * ((j : Int) / 2) + 5)) := rfl
    refine ⟨_, hd, _, rfl, _, hd2, _, rfl, _, hs, _, rfl, ?_⟩
    refine cmd_ok (hj j List.mem_cons_self) h0 h1 h2 h3 h4 (by rw [List.length_map]; omega) fun c hcm z6 z7 => ?_
    have e : cs.map Cmd.data ++ [c.data] = (cs ++ [c]).map Cmd.data := by rw [List.map_append]; rfl
    rw [e]
    refine cmds_loop js (cs ++ [c]) _ _ z6 z7 (fun i hi => hj i (List.mem_cons_of_mem _ hi)) (fun d hd => ?_) (by rw [List.length_append, List.length_singleton]; omega) fun cs' y4 y5 y6 y7 h5 h6 => q cs' y4 y5 y6 y7 h5 (by rw [h6, List.length_append, List.length_singleton, List.length_cons]; omega)
    rcases List.mem_append.mp hd with hd | hd
    · exact hc d hd
    · cases List.mem_singleton.mp hd
      exact hcm
theorem flat_gnI {g : Gn} (h : IGn g) : flatD g.data = true := by
  cases h with
  | int => rfl
  | @kept lo hi n c _ _ =>
    have := flat_cd c
    simp only [Gn.data, flatD, flatDs, this, Bool.and_self]
theorem flat_cmd {c : Cmd} (h : CmOk c) : flatD c.data = true := by
  have h1 := flat_cd c.gd
  have h2 := flat_gnI h.k.gn
  simp only [Cmd.data, flatD, flatDs, h1, h2, Bool.and_self]
theorem flat_mc {cs : List Cmd} (h : ∀ c ∈ cs, CmOk c) (s : Int) (n : Nat) : flatD (mcD s cs n) = true := by
  have : flatDs (cs.map Cmd.data) = true := flatDs_of fun d hd => by
    obtain ⟨c, hc, rfl⟩ := List.mem_map.mp hd
    exact flat_cmd (h c hc)
  simp only [mcD, csD, flatD, flatDs, this, Bool.and_self]
noncomputable def W_cmds : WF := runW 8 2 (w__law_commands D_abt)
noncomputable def W_mach : WF := runW 3 2 (w__law_machine W_cmds)
theorem cmds_ok {k : Nat} {Q : PyData → Prop} (q : ∀ cs : List Cmd, (∀ c ∈ cs, CmOk c) → cs.length ≤ 4 → Q (.list (cs.map Cmd.data))) : W_cmds [.dict [], .int (k : Int)] Q := by
  refine ⟨rfl, ?_⟩
  unfold w__law_commands
  refine ⟨_, rfl, _, rfl, _, rfl, k, [4], rfl, by decide, by decide, fun xs hx => ?_⟩
  obtain _ | ⟨h0, _ | _⟩ := hx
  rename_i x
  refine ⟨_, rfl, _, rfl, ?_⟩
  have hr : fRng1 (fCons (fOp gAdd (fC (.int 1)) (fOp gIx (fVar 2) (fC (.int 0)))) fNil) [.val (.dict []), .val (.int (k : Int)), .val (.list [.int x]), .own (.l []), .un, .un, .un, .un] = some (rngD 0 (1 + x).toNat) := by
    simp only [fRng1, fSeq, fIfS, fRet, fAsg, fOwn, fApp, fExt, fBrk, fCnt, fDrop, fFrz, frz, fNext, fFor, fB, fAnd, fOr, fNot, fAndV, fOrV, fNotV, fIf, fChain, fOp, fUn, fVar, fC, fTup, fLst, fV, fCons, fNil, fCall, fCallL, fLenV, fSl, fPart, fNoPart, fStar, fAug, gS, gT, gN, gC, fSeqI, run_1, run_2, run_3, run_4, ix0, ix1, ix2, ix3, then_nx, then_rt, then_bk, then_ct, turn_nx, turn_ct, turn_bk, turn_rt, res_rt, asB_b, gIx_t, gIx_l, gAdd_i, gSub_i, gLt_i, gLe_i, gGt_i, gGe_i, eq_i, eq_s, ne_i, ne_s, gLen_t, gLen_l, gTup_l, gTup_t, strEq, Option.bind_some, List.getElem?_cons_zero, List.getElem?_cons_succ, List.set_cons_zero, List.set_cons_succ, List.replicate_succ, List.replicate_zero, Nat.reduceSub, Nat.reduceAdd, if_true, if_false, decide_true, decide_false, Bool.not_true, Bool.not_false, Bool.false_eq_true, String.reduceEq, reduceIte, List.length_cons, List.length_nil, Nat.reduceLeDiff, lim]
    rw [if_pos (by omega)]
  refine ⟨_, hr, ?_⟩
  rw [rng_map0]
  refine cmds_loop (List.range (1 + x).toNat) [] _ _ _ _ (fun j hj => by rw [List.mem_range] at hj; omega) (fun c hc => nomatch hc) (by rw [List.length_range]; simp; omega) fun cs' z4 z5 z6 z7 h1 h2 => ?_
  rw [List.length_range] at h2
  simp only [List.length_nil, Nat.zero_add] at h2
  refine ⟨_, rfl, ?_, q cs' h1 (by omega)⟩
  rw [noA]
  refine noAs_of fun d hd => ?_
  obtain ⟨c, hc, rfl⟩ := List.mem_map.mp hd
  exact noA_flat _ (flat_cmd (h1 c hc))
theorem mach_ok {k : Nat} {Q : PyData → Prop} (q : ∀ (s : Int) (cs : List Cmd) (n : Nat), (∀ c ∈ cs, CmOk c) → cs.length ≤ 4 → n < 4 → Q (mcD s cs n)) : W_mach [.dict [], .int (k : Int)] Q := by
  refine ⟨rfl, ?_⟩
  unfold w__law_machine
  refine ⟨_, rfl, _, rfl, _, rfl, k, [5, 4], rfl, by decide, by decide, fun xs hx => ?_⟩
  obtain _ | ⟨h0, _ | ⟨h1, _ | _⟩⟩ := hx
  rename_i x y
  obtain ⟨m, rfl⟩ := Int.eq_ofNat_of_zero_le h1.1
  refine ⟨_, rfl, _, rfl, _, rfl, _, rfl, rfl, ?_⟩
  refine cmds_ok (k := k + 1) fun cs h2 h3 => ?_
  refine ⟨.tuple (cs.map Cmd.data), rfl, _, rfl, show 3 ≤ 10000000 by decide, ?_, q (x - 2) cs m h2 h3 (by omega)⟩
  exact noA_flat _ (flat_mc h2 (x - 2) m)
open Classical
structure NmX (n : Str) : Prop where
  l : n.length ≤ 1000
  w : isWord n = !decide (n ∈ badN)
  s : SeqAt.shaped (.str n) = true
structure GdX (c : Cd) : Prop where
  o : OkC 10 c
  f : fitsC c .int = !decide (c.data ∈ badC.map Cd.data)
structure GnX (g : Gn) : Prop where
  o : OkGk 10 10 g
  i : isI g = !decide (g.data ∈ badM.map Gn.data)
structure EfX (e : Str) : Prop where
  l : e.length ≤ 1000
  s : SeqAt.shaped (.str e) = true
theorem cx_ok {n e : Str} {c : Cd} {g : Gn} (h1 : NmX n) (h2 : GdX c) (h3 : GnX g) (h4 : EfX e) : CxOk ⟨n, c, g, e⟩ := ⟨h1.l, h1.w, h1.s, h2.o, h2.f, h3.o, h3.i, h4.l, h4.s⟩
theorem CxOk.nm {c : Cx} (h : CxOk c) : NmX c.nm := ⟨h.n1, h.n2, h.n3⟩
theorem CxOk.gd' {c : Cx} (h : CxOk c) : GdX c.gd := ⟨h.g1, h.g2⟩
theorem CxOk.gn' {c : Cx} (h : CxOk c) : GnX c.gn := ⟨h.m1, h.m2⟩
theorem CxOk.ef' {c : Cx} (h : CxOk c) : EfX c.ef := ⟨h.e1, h.e3⟩
theorem badN_not : ∀ n ∈ badN, isWord n = false ∧ n.length ≤ 1000 ∧ SeqAt.shaped (.str n) = true := fun n hn => by
  simp only [badN, List.mem_cons, List.not_mem_nil, or_false] at hn
  rcases hn with rfl | rfl | rfl | rfl <;> exact ⟨by decide +kernel, by decide +kernel, by decide +kernel⟩
theorem nm_word {n : Str} (h : isWord n = true) (hl : n.length ≤ 1000) (hs : SeqAt.shaped (.str n) = true) : NmX n := ⟨hl, by
  rw [h, decide_eq_false fun hm => by rw [(badN_not n hm).1] at h; cases h]
  rfl, hs⟩
theorem nm_bad {n : Str} (h : n ∈ badN) : NmX n := by
  obtain ⟨h1, h2, h3⟩ := badN_not n h
  exact ⟨h2, by rw [h1, decide_eq_true h]; rfl, h3⟩
theorem badC_not : ∀ c ∈ badC, fitsC c .int = false := fun c hc => by
  simp only [badC, List.mem_cons, List.not_mem_nil, or_false] at hc
  rcases hc with rfl | rfl | rfl | rfl <;> simp [fitsC, Kd.isInt, Kd.isWord]
theorem gd_fit {c : Cd} (h : fitsC c .int = true) (ho : OkC 10 c) : GdX c := ⟨ho, by
  rw [h, decide_eq_false fun hm => by
    obtain ⟨b, hb, e⟩ := List.mem_map.mp hm
    rw [← cd_inj _ _ e, badC_not b hb] at h
    cases h]
  rfl⟩
theorem gd_bad {c : Cd} (h : c ∈ badC) : GdX c := ⟨badC_ok c h, by
  rw [badC_not c h, decide_eq_true (List.mem_map.mpr ⟨c, h, rfl⟩)]
  rfl⟩
theorem look_int {n : Nat} {lo hi : Int} {p : List Int} (h1 : -1000 ≤ lo) (h2 : lo ≤ hi) (h3 : hi ≤ 1000) : lookN (n + 1) (.int lo hi) p = .inl .int := by
  simp only [lookN, partsG, looks, faultG, madeG]
  rw [if_pos ⟨h1, h2, h3⟩]
theorem look_kept {n : Nat} {lo hi : Int} {c : Cd} {p : List Int} (h1 : -1000 ≤ lo) (h2 : lo ≤ hi) (h3 : hi ≤ 1000) (hf : fitsC c .int = true) : lookN (n + 2) (.kept (.int lo hi) c) p = .inl .int := by
  have e : ∀ q, lookN (n + 1) (.int lo hi) q = .inl .int := fun q => look_int h1 h2 h3
  unfold lookN
  simp only [partsG, looks, e, faultG, madeG, List.headD_cons, hf, if_true]
theorem gn_draw {g : Gn} (h1 : IGn g) (h2 : GenK g .int) (h3 : OkGk 10 2 g) : GnX g := by
  refine ⟨h3.mono (by decide) (by decide), ?_⟩
  cases h1 with
  | @int lo hi =>
    cases h2 with
    | int a b c =>
      have e : isI (.int lo hi) = true := decide_eq_true (look_int a b c)
      rw [e, decide_eq_false fun hm => by
        simp only [badM, List.map_cons, List.map_nil, List.mem_cons, List.not_mem_nil, or_false, Gn.data, PyData.tuple.injEq, List.cons.injEq, PyData.str.injEq, PyData.int.injEq] at hm
        rcases hm with hm | hm | hm | hm | hm
        · simp at hm
        · omega
        · simp at hm
        · exact absurd hm.1 (by decide)
        · exact absurd hm.1 (by decide)]
      rfl
  | @kept lo hi n c _ _ =>
    cases h2 with
    | kept hk hf =>
      cases hk with
      | int a b d =>
        have e : isI (.kept (.int lo hi) c) = true := decide_eq_true (look_kept a b d hf)
        rw [e, decide_eq_false fun hm => by
          simp only [badM, List.map_cons, List.map_nil, List.mem_cons, List.not_mem_nil, or_false, Gn.data, PyData.tuple.injEq, List.cons.injEq, PyData.str.injEq, PyData.int.injEq] at hm
          rcases hm with hm | hm | hm | hm | hm
          · simp at hm
          · exact absurd hm.1 (by decide)
          · simp at hm
          · have e := cd_inj _ _ hm.2.2.1
            rw [e] at hf
            exact absurd hf (by simp [fitsC, Kd.isInt])
          · exact absurd hm.1 (by decide)]
        rfl
theorem gn_bad {g : Gn} (h : g ∈ badM) : GnX g := by
  refine ⟨badM_ok g h, ?_⟩
  rw [decide_eq_true (List.mem_map.mpr ⟨g, h, rfl⟩)]
  refine decide_eq_false fun e => ?_
  simp only [badM, List.mem_cons, List.not_mem_nil, or_false] at h
  rcases h with rfl | rfl | rfl | rfl | rfl
  · have : lookN 10 (.pick ["a", "b"]) [] = .inl .word := by
      simp only [lookN, partsG, looks, faultG, madeG]
      rw [if_pos (by decide +kernel)]
    rw [this] at e
    cases e
  · simp only [lookN, partsG, looks, faultG, madeG] at e
    rw [if_neg (by omega)] at e
    cases e
  · have : lookN 10 (.list (.int 0 1) 0 1) [] = .inl (.lst .int) := by
      have e : ∀ q, lookN 9 (.int 0 1) q = .inl .int := fun q => look_int (by decide) (by decide) (by decide)
      unfold lookN
      simp only [partsG, looks, e, faultG, madeG, List.headD_cons]
      rw [if_pos (by decide)]
    rw [this] at e
    cases e
  · have : ∃ w, lookN 10 (.kept (.int 0 2) .rising) [] = .inr w := by
      have e : ∀ q, lookN 9 (.int 0 2) q = .inl .int := fun q => look_int (by decide) (by decide) (by decide)
      unfold lookN
      have hF : faultG (.kept (.int 0 2) .rising) [.int] = some "does not fit" := by
        unfold faultG
        exact if_neg (by simp [fitsC, Kd.isInt])
      simp only [partsG, looks, e, hF]
      exact ⟨_, rfl⟩
    obtain ⟨w, this⟩ := this
    rw [this] at e
    cases e
  · have : ∃ w, lookN 10 (.turned (.int 0 1) .length) [] = .inr w := by
      have e : ∀ q, lookN 9 (.int 0 1) q = .inl .int := fun q => look_int (by decide) (by decide) (by decide)
      unfold lookN
      have hF : faultG (.turned (.int 0 1) .length) [.int] = some "does not fit" := by
        unfold faultG
        exact if_pos rfl
      simp only [partsG, looks, e, hF]
      exact ⟨_, rfl⟩
    obtain ⟨w, this⟩ := this
    rw [this] at e
    cases e
theorem ef_ok (e : Str) (h : e ∈ [("add" : Str), "take", "set", "drop", "", "x"]) : EfX e := by
  simp only [List.mem_cons, List.not_mem_nil, or_false] at h
  rcases h with rfl | rfl | rfl | rfl | rfl | rfl <;> exact ⟨by decide +kernel, by decide +kernel⟩
def toX (c : Cmd) : Cx := ⟨c.nm, c.gd, c.gn, efS c.ef⟩
theorem toX_ok {c : Cmd} (h : CmOk c) : CxOk (toX c) := cx_ok (nm_word h.n.2.2 h.n.2.1 h.n.1) (gd_fit h.k.fit h.k.ok) (gn_draw h.k.gn h.k.gk h.k.go) (ef_ok _ (by
  match c.ef with
  | 0 => simp [efS]
  | 1 => simp [efS]
  | n + 2 => simp [efS]))
theorem toX_data (cs : List Cmd) : cs.map Cmd.data = (cs.map toX).map Cx.data := by rw [List.map_map]; rfl
theorem cx_dk {c : Cx} (h : CxOk c) : Dk 31 c.data := .tup (by show 4 ≤ 60; decide) fun d hd => by
  simp only [List.mem_cons, List.not_mem_nil, or_false] at hd
  rcases hd with rfl | rfl | rfl | rfl
  · exact .str h.n3 h.n1
  · exact (condDk h.g1).mono (by decide)
  · exact h.m1.dk
  · exact .str h.e3 h.e1
theorem cx_flat {c : Cx} (h : CxOk c) : flatD c.data = true := by
  have h1 := flat_cd c.gd
  have h2 := flat_gn h.m1
  simp only [Cx.data, flatD, flatDs, h1, h2, Bool.and_self]
end Fb
namespace K55
open PySem PySem.Spec PyProof.Rows L2 Evl CrT Cr Sm Fb Classical
noncomputable abbrev F1 : WF := W_mach
noncomputable abbrev F2 : Fn := D_told
noncomputable abbrev F3 : Fn := D_due
def fNm : FE := (fV (fLst (fCons (fC (.str "")) (fCons (fC (.str "Put")) (fCons (fC (.str "toolongname")) (fCons (fC (.str "a1")) (fCons (fTmp 3 (fOp gIx (fOp gIx (fVar 3) (fC (.int 0))) (fC (.int 0)))) fNil)))))))
def fGu : FE := (fV (fLst (fCons (fTup (fCons (fC (.str "rising")) fNil)) (fCons (fTup (fCons (fC (.str "is")) (fCons (fC (.str "a")) fNil))) (fCons (fTup (fCons (fC (.str "divides")) (fCons (fC (.int 0)) fNil))) (fCons (fTup (fCons (fC (.str "and")) (fCons (fTup (fCons (fC (.str "atmost")) (fCons (fC (.int 1)) fNil))) (fCons (fTup (fCons (fC (.str "different")) fNil)) fNil)))) (fCons (fTup (fCons (fC (.str "divides")) (fCons (fC (.int 7)) fNil))) fNil)))))))
def fMk : FE := (fV (fLst (fCons (fTup (fCons (fC (.str "pick")) (fCons (fTup (fCons (fC (.str "a")) (fCons (fC (.str "b")) fNil))) fNil))) (fCons (fTup (fCons (fC (.str "int")) (fCons (fC (.int 3)) (fCons (fC (.int 2)) fNil)))) (fCons (fTup (fCons (fC (.str "list")) (fCons (fTup (fCons (fC (.str "int")) (fCons (fC (.int 0)) (fCons (fC (.int 1)) fNil)))) (fCons (fC (.int 0)) (fCons (fC (.int 1)) fNil))))) (fCons (fTup (fCons (fC (.str "kept")) (fCons (fTup (fCons (fC (.str "int")) (fCons (fC (.int 0)) (fCons (fC (.int 2)) fNil)))) (fCons (fTup (fCons (fC (.str "rising")) fNil)) fNil)))) (fCons (fTup (fCons (fC (.str "turned")) (fCons (fTup (fCons (fC (.str "int")) (fCons (fC (.int 0)) (fCons (fC (.int 1)) fNil)))) (fCons (fTup (fCons (fC (.str "length")) fNil)) fNil)))) fNil)))))))
def fV6 : FE := (fOp gIx (fV (fLst (fCons (fTup (fCons (fOp gIx (fVar 12) (fOp gIx (fVar 6) (fC (.int 2)))) (fCons (fVar 9) (fCons (fVar 10) (fCons (fVar 11) fNil))))) (fCons (fTup (fCons (fVar 8) (fCons (fOp gIx (fVar 13) (fOp gIx (fVar 6) (fC (.int 2)))) (fCons (fVar 10) (fCons (fVar 11) fNil))))) (fCons (fTup (fCons (fVar 8) (fCons (fVar 9) (fCons (fOp gIx (fVar 14) (fOp gIx (fVar 6) (fC (.int 2)))) (fCons (fVar 11) fNil))))) (fCons (fTup (fCons (fVar 8) (fCons (fVar 9) (fCons (fVar 10) (fCons (fOp gIx (fV (fLst (fCons (fC (.str "drop")) (fCons (fC (.str "")) (fCons (fC (.str "add")) (fCons (fC (.str "set")) fNil)))))) (fOp gIx (fVar 6) (fC (.int 3)))) fNil))))) (fCons (fTup (fCons (fOp gIx (fVar 12) (fOp gIx (fVar 6) (fC (.int 3)))) (fCons (fOp gIx (fVar 13) (fOp gIx (fVar 6) (fC (.int 2)))) (fCons (fOp gIx (fVar 14) (fOp gIx (fVar 6) (fC (.int 3)))) (fCons (fC (.str "x")) fNil))))) (fCons (fTup (fCons (fVar 8) (fCons (fTup (fCons (fC (.str "not")) (fCons (fTup (fCons (fC (.str "atmost")) (fCons (fOp gIx (fVar 6) (fC (.int 2))) fNil))) fNil))) (fCons (fVar 10) (fCons (fVar 11) fNil))))) fNil)))))))) (fOp gIx (fVar 6) (fC (.int 0))))
def fCm : FE := (fV (fComp (fRng1 (fCons (fOp gIx (fVar 6) (fC (.int 3))) fNil)) (gS 15) (fun _ => some true) (fTup (fCons (fOp gAdd (fC (.str "w")) (fOp gIx (fC (.str "abcd")) (fVar 15))) (fCons (fTup (fCons (fC (.str "atmost")) (fCons (fC (.int 1)) fNil))) (fCons (fTup (fCons (fC (.str "int")) (fCons (fC (.int 0)) (fCons (fC (.int 1)) fNil)))) (fCons (fC (.str "set")) fNil))))) [15]))
def modF : FS := (fIfS (fAnd (fB (fOp gGt (fLenV 3) (fC (.int 0)))) (fB (fOp gLt (fOp gIx (fVar 6) (fC (.int 0))) (fC (.int 6))))) (fSeq (fAsg (fTmp 3 (fOp gIx (fVar 3) (fVar 7))) (gT 4 (gC (gS 8) (gC (gS 9) (gC (gS 10) (gC (gS 11) gN))))))
          (fSeq (fAsg fNm (gS 12))
          (fSeq (fAsg fGu (gS 13))
          (fSeq (fAsg fMk (gS 14))
          (fPutL 3 (fVar 7) fV6))))) (fIfS (fB (fOp gEq (fOp gIx (fVar 6) (fC (.int 0))) (fC (.int 6)))) (fAsg (fOp gIx (fV (fLst (fCons (fUn gNeg (fC (.int 1001))) (fCons (fUn gNeg (fC (.int 1000))) (fCons (fC (.int 1000)) (fCons (fC (.int 1001)) fNil)))))) (fOp gIx (fVar 6) (fC (.int 3)))) (gS 2)) (fIfS (fB (fOp gEq (fOp gIx (fVar 6) (fC (.int 0))) (fC (.int 7)))) (fAsg (fOp gIx (fV (fLst (fCons (fUn gNeg (fC (.int 1))) (fCons (fC (.int 0)) (fCons (fC (.int 6)) (fCons (fC (.int 7)) fNil)))))) (fOp gIx (fVar 6) (fC (.int 3)))) (gS 4)) (fIfS (fB (fOp gEq (fOp gIx (fVar 6) (fC (.int 0))) (fC (.int 8)))) (fOwn 3 (fTmpL 3 (fOpL gAddL (fVar 3) fCm))) (fOwn 3 (fLst fNil))))))
theorem flt_w {ps : List Str} {c : Fb.Cx} {w : Str} (h : flt ps c = some w) : SeqAt.shaped (.str w) = true ∧ w.length ≤ 1000 := by
  unfold flt at h
  repeat' split at h
  all_goals first | (cases h; exact ⟨by decide +kernel, by decide +kernel⟩) | cases h
theorem first_w : ∀ {cs : List Fb.Cx} {ps : List Str} {k : Nat} {w : Str} {i : Nat}, firstF ps k cs = some (w, i) → SeqAt.shaped (.str w) = true ∧ w.length ≤ 1000
  | [], _, _, _, _, h => by cases h
  | c :: cs, ps, k, w, i, h => by
    rw [firstF] at h
    cases e : flt ps c with
    | some w' =>
      rw [e] at h
      cases h
      exact flt_w e
    | none =>
      rw [e] at h
      exact first_w h
theorem fD_dk {w : Str} {k : Int} (h : SeqAt.shaped (.str w) = true ∧ w.length ≤ 1000) : Dk 40 (fD w k) := .tup (by show 2 ≤ 60; decide) fun d hd => by
  simp only [List.mem_cons, List.not_mem_nil, or_false] at hd
  rcases hd with rfl | rfl
  · exact .str h.1 h.2
  · exact .int _
theorem mac_dk {cs : List Fb.Cx} (hok : ∀ c ∈ cs, CxOk c) (s m : Int) : Dk 40 (macD s cs m) := by
  unfold macD
  split
  · split
    · rename_i hb
      split
      · cases e : firstF [] 0 cs with
        | some w => obtain ⟨w, i⟩ := w; exact fD_dk (first_w e)
        | none =>
          refine .tup (by show 3 ≤ 60; decide) fun d hd => ?_
          simp only [List.mem_cons, List.not_mem_nil, or_false] at hd
          rcases hd with rfl | rfl | rfl
          · exact .int _
          · refine Dk.mono (n := 32) (.tup (by rw [List.length_map]; omega) fun d hd => ?_) (by decide)
            obtain ⟨c, hc, rfl⟩ := List.mem_map.mp hd
            exact cx_dk (hok c hc)
          · exact .int _
      · exact fD_dk ⟨by decide +kernel, by decide +kernel⟩
    · exact fD_dk ⟨by decide +kernel, by decide +kernel⟩
  · exact fD_dk ⟨by decide +kernel, by decide +kernel⟩
theorem mac_tup (cs : List Fb.Cx) (s m : Int) : ∃ ds, macD s cs m = .tuple ds := by
  unfold macD
  split
  · split
    · split
      · cases firstF [] 0 cs with
        | some w => obtain ⟨w, i⟩ := w; exact ⟨_, rfl⟩
        | none => exact ⟨_, rfl⟩
      · exact ⟨_, rfl⟩
    · exact ⟨_, rfl⟩
  · exact ⟨_, rfl⟩
theorem mac_ne {cs : List Fb.Cx} (hok : ∀ c ∈ cs, CxOk c) (s m : Int) : gNe (macD s cs m) (macD s cs m) = some (.bool false) := by
  have hs := (mac_dk hok s m).shaped (by decide)
  obtain ⟨ds, e⟩ := mac_tup cs s m
  rw [e] at hs ⊢
  show (if SeqAt.shaped (.tuple ds) && SeqAt.shaped (.tuple ds) then some (PyData.eqv (.tuple ds) (.tuple ds)) else none).bind _ = _
  rw [hs, SeqAt.eqv_refl _ (SeqAt.canLay_of_shaped hs)]
  rfl
theorem noas_cs {cs : List Fb.Cx} (hok : ∀ c ∈ cs, CxOk c) (s m : Int) : noAs [.int s, .list (cs.map Fb.Cx.data), .int m] = true := by
  have : noAs (cs.map Fb.Cx.data) = true := noAs_of fun d hd => by
    obtain ⟨c, hc, rfl⟩ := List.mem_map.mp hd
    exact noA_flat _ (cx_flat (hok c hc))
  simp only [noAs, noA, this, Bool.and_self]
theorem chk {cs : List Fb.Cx} (hok : ∀ c ∈ cs, CxOk c) (hl : cs.length ≤ 1000) {s m : Int} {z0 z1 : Sl} {zs : List Sl} : fIfS (fTmpT 3 (fB (fOp gNe (fCall0 F2 (fCons (fVar 2) (fCons (fVar 3) (fCons (fVar 4) fNil)))) (fCall0 F3 (fCons (fVar 2) (fCons (fVar 3) (fCons (fVar 4) fNil))))))) (fRet (fC (.bool false))) fNext (z0 :: z1 :: .val (.int s) :: .own (.l (cs.map Fb.Cx.data)) :: .val (.int m) :: zs) = some (.nx, z0 :: z1 :: .val (.int s) :: .own (.l (cs.map Fb.Cx.data)) :: .val (.int m) :: zs) := by
  have h1 : F2 [.int s, .list (cs.map Fb.Cx.data), .int m] = _ := m_told hok hl s m
  have h2 : F3 [.int s, .list (cs.map Fb.Cx.data), .int m] = _ := m_due hok hl s m
  have h3 := mac_ne hok s m
  have hn := noas_cs hok s m
  have hz : frz 3 (z0 :: z1 :: .val (.int s) :: .own (.l (cs.map Fb.Cx.data)) :: .val (.int m) :: zs) = z0 :: z1 :: .val (.int s) :: .val (.list (cs.map Fb.Cx.data)) :: .val (.int m) :: zs := rfl
  have ht : fTmpT 3 (fB (fOp gNe (fCall0 F2 (fCons (fVar 2) (fCons (fVar 3) (fCons (fVar 4) fNil)))) (fCall0 F3 (fCons (fVar 2) (fCons (fVar 3) (fCons (fVar 4) fNil)))))) (z0 :: z1 :: .val (.int s) :: .own (.l (cs.map Fb.Cx.data)) :: .val (.int m) :: zs) = some false := by
    unfold fTmpT
    rw [hz]
    simp only [fSeq, fIfS, fRet, fAsg, fOwn, fApp, fExt, fBrk, fCnt, fDrop, fFrz, frz, fNext, fFor, fB, fAnd, fOr, fNot, fAndV, fOrV, fNotV, fIf, fChain, fOp, fUn, fVar, fC, fTup, fLst, fV, fCons, fNil, fCall, fCallL, fLenV, fSl, fPart, fNoPart, fStar, fAug, gS, gT, gN, gC, fSeqI, run_1, run_2, run_3, run_4, ix0, ix1, ix2, ix3, then_nx, then_rt, then_bk, then_ct, turn_nx, turn_ct, turn_bk, turn_rt, res_rt, asB_b, gIx_t, gIx_l, gAdd_i, gSub_i, gLt_i, gLe_i, gGt_i, gGe_i, eq_i, eq_s, ne_i, ne_s, gLen_t, gLen_l, gTup_l, gTup_t, strEq, Option.bind_some, List.getElem?_cons_zero, List.getElem?_cons_succ, List.set_cons_zero, List.set_cons_succ, List.replicate_succ, List.replicate_zero, Nat.reduceSub, Nat.reduceAdd, if_true, if_false, decide_true, decide_false, Bool.not_true, Bool.not_false, Bool.false_eq_true, String.reduceEq, reduceIte, List.length_cons, List.length_nil, Nat.reduceLeDiff, lim, fCall0, hn, h1, h2, h3]
  unfold fIfS
  rw [ht]
  rfl
theorem nm_at {n0 : Str} (h0 : NmX n0) {d : Int} (h : 0 ≤ d ∧ d < 5) : ∃ n, NmX n ∧ gIx (.list [.str "", .str "Put", .str "toolongname", .str "a1", .str n0]) (.int d) = some (.str n) := by
  rcases (by omega : d = 0 ∨ d = 1 ∨ d = 2 ∨ d = 3 ∨ d = 4) with rfl | rfl | rfl | rfl | rfl
  · exact ⟨_, nm_bad (n := "") (by simp [badN]), atI_nat (j := 0) rfl⟩
  · exact ⟨_, nm_bad (n := "Put") (by simp [badN]), atI_nat (j := 1) rfl⟩
  · exact ⟨_, nm_bad (n := "toolongname") (by simp [badN]), atI_nat (j := 2) rfl⟩
  · exact ⟨_, nm_bad (n := "a1") (by simp [badN]), atI_nat (j := 3) rfl⟩
  · exact ⟨_, h0, atI_nat (j := 4) rfl⟩
theorem gu_at {d : Int} (h : 0 ≤ d ∧ d < 5) : ∃ c, GdX c ∧ gIx (.list ((badC ++ [Cd.divides 7]).map Cd.data)) (.int d) = some c.data := by
  rcases (by omega : d = 0 ∨ d = 1 ∨ d = 2 ∨ d = 3 ∨ d = 4) with rfl | rfl | rfl | rfl | rfl
  · exact ⟨_, gd_bad (c := .rising) (by simp [badC]), atI_nat (j := 0) rfl⟩
  · exact ⟨_, gd_bad (c := .is "a") (by simp [badC]), atI_nat (j := 1) rfl⟩
  · exact ⟨_, gd_bad (c := .divides 0) (by simp [badC]), atI_nat (j := 2) rfl⟩
  · exact ⟨_, gd_bad (c := .and_ (.atmost 1) .different) (by simp [badC]), atI_nat (j := 3) rfl⟩
  · exact ⟨_, gd_fit (c := .divides 7) (by decide) (.divides _), atI_nat (j := 4) rfl⟩
theorem mk_at {d : Int} (h : 0 ≤ d ∧ d < 5) : ∃ g, GnX g ∧ gIx (.list (badM.map Gn.data)) (.int d) = some g.data := by
  rcases (by omega : d = 0 ∨ d = 1 ∨ d = 2 ∨ d = 3 ∨ d = 4) with rfl | rfl | rfl | rfl | rfl
  · exact ⟨_, gn_bad (g := .pick ["a", "b"]) (by simp [badM]), atI_nat (j := 0) rfl⟩
  · exact ⟨_, gn_bad (g := .int 3 2) (by simp [badM]), atI_nat (j := 1) rfl⟩
  · exact ⟨_, gn_bad (g := .list (.int 0 1) 0 1) (by simp [badM]), atI_nat (j := 2) rfl⟩
  · exact ⟨_, gn_bad (g := .kept (.int 0 2) .rising) (by simp [badM]), atI_nat (j := 3) rfl⟩
  · exact ⟨_, gn_bad (g := .turned (.int 0 1) .length) (by simp [badM]), atI_nat (j := 4) rfl⟩
theorem ef_at {d : Int} (h : 0 ≤ d ∧ d < 4) : ∃ e, EfX e ∧ gIx (.list [.str "drop", .str "", .str "add", .str "set"]) (.int d) = some (.str e) := by
  rcases (by omega : d = 0 ∨ d = 1 ∨ d = 2 ∨ d = 3) with rfl | rfl | rfl | rfl
  · exact ⟨_, ef_ok "drop" (by simp), atI_nat (j := 0) rfl⟩
  · exact ⟨_, ef_ok "" (by simp), atI_nat (j := 1) rfl⟩
  · exact ⟨_, ef_ok "add" (by simp), atI_nat (j := 2) rfl⟩
  · exact ⟨_, ef_ok "set" (by simp), atI_nat (j := 3) rfl⟩
theorem v6_ok {c : Fb.Cx} (hc : CxOk c) {n0 : Str} (h0 : NmX n0) {d0 d1 d2 d3 : Int} (a0 : 0 ≤ d0 ∧ d0 < 6) (a2 : 0 ≤ d2 ∧ d2 < 5) (a3 : 0 ≤ d3 ∧ d3 < 4) {z0 z1 z2 z3 z4 z5 z7 z15 : Sl} : ∃ x, CxOk x ∧ fV6 [z0, z1, z2, z3, z4, z5, .val (.list [.int d0, .int d1, .int d2, .int d3]), z7, .val (.str c.nm), .val c.gd.data, .val c.gn.data, .val (.str c.ef), .val (.list [.str "", .str "Put", .str "toolongname", .str "a1", .str n0]), .val (.list ((badC ++ [Cd.divides 7]).map Cd.data)), .val (.list (badM.map Gn.data)), z15] = some x.data := by
  obtain ⟨n2, p1, q1⟩ := nm_at h0 a2
  obtain ⟨n3, p2, q2⟩ := nm_at h0 (d := d3) ⟨a3.1, by omega⟩
  obtain ⟨g2, p3, q3⟩ := gu_at a2
  obtain ⟨m2, p4, q4⟩ := mk_at a2
  obtain ⟨m3, p5, q5⟩ := mk_at (d := d3) ⟨a3.1, by omega⟩
  obtain ⟨e3, p6, q6⟩ := ef_at a3
  have i0 : gIx (.list [.int d0, .int d1, .int d2, .int d3]) (.int 0) = some (.int d0) := atI_nat (j := 0) rfl
  have i2 : gIx (.list [.int d0, .int d1, .int d2, .int d3]) (.int 2) = some (.int d2) := atI_nat (j := 2) rfl
  have i3 : gIx (.list [.int d0, .int d1, .int d2, .int d3]) (.int 3) = some (.int d3) := atI_nat (j := 3) rfl
  have hN : GdX (.not_ (.atmost d2)) := gd_fit rfl (.not_ (.atmost _))
  have hx : EfX "x" := ef_ok "x" (by simp)
  have l1 : ∀ (n : Nat) (x : PyData), n ≤ 10 → lim n x = some x := fun n x h => by unfold lim; rw [if_pos (by omega)]
  have l2 : ∀ (n : Nat) (x : List PyData), n ≤ 10 → lim n x = some x := fun n x h => by unfold lim; rw [if_pos (by omega)]
  have ev : fV6 [z0, z1, z2, z3, z4, z5, .val (.list [.int d0, .int d1, .int d2, .int d3]), z7, .val (.str c.nm), .val c.gd.data, .val c.gn.data, .val (.str c.ef), .val (.list [.str "", .str "Put", .str "toolongname", .str "a1", .str n0]), .val (.list ((badC ++ [Cd.divides 7]).map Cd.data)), .val (.list (badM.map Gn.data)), z15] = gIx (.list [(Fb.Cx.mk n2 c.gd c.gn c.ef).data, (Fb.Cx.mk c.nm g2 c.gn c.ef).data, (Fb.Cx.mk c.nm c.gd m2 c.ef).data, (Fb.Cx.mk c.nm c.gd c.gn e3).data, (Fb.Cx.mk n3 g2 m3 "x").data, (Fb.Cx.mk c.nm (.not_ (.atmost d2)) c.gn c.ef).data]) (.int d0) := by
    simp only [fV6, fOp, fV, fLst, fTup, fCons, fNil, fVar, fC, List.getElem?_cons_zero, List.getElem?_cons_succ, Option.bind_some, i0, i2, i3, q1, q2, q3, q4, q5, q6, List.length_cons, List.length_nil, Nat.zero_add, Nat.reduceAdd, l1 1 _ (by decide), l1 2 _ (by decide), l1 4 _ (by decide), l2 4 _ (by decide), l2 6 _ (by decide), Fb.Cx.data, Cd.data]
  rw [ev]
  rcases (by omega : d0 = 0 ∨ d0 = 1 ∨ d0 = 2 ∨ d0 = 3 ∨ d0 = 4 ∨ d0 = 5) with rfl | rfl | rfl | rfl | rfl | rfl
  · exact ⟨_, cx_ok p1 hc.gd' hc.gn' hc.ef', atI_nat (j := 0) rfl⟩
  · exact ⟨_, cx_ok hc.nm p3 hc.gn' hc.ef', atI_nat (j := 1) rfl⟩
  · exact ⟨_, cx_ok hc.nm hc.gd' p4 hc.ef', atI_nat (j := 2) rfl⟩
  · exact ⟨_, cx_ok hc.nm hc.gd' hc.gn' p6, atI_nat (j := 3) rfl⟩
  · exact ⟨_, cx_ok p2 p3 p5 hx, atI_nat (j := 4) rfl⟩
  · exact ⟨_, cx_ok hc.nm hN hc.gn' hc.ef', atI_nat (j := 5) rfl⟩
theorem wa_at (i : Nat) (h : i < 3) : ∃ n : Str, NmX n ∧ (gIx (.str "abcd") (.int (i : Int))).bind (fun b => gAdd (.str "w") b) = some (.str n) := by
  match i, h with
  | 0, _ => exact ⟨"wa", nm_word (by decide +kernel) (by decide +kernel) (by decide +kernel), by rfl⟩
  | 1, _ => exact ⟨"wb", nm_word (by decide +kernel) (by decide +kernel) (by decide +kernel), by rfl⟩
  | 2, _ => exact ⟨"wc", nm_word (by decide +kernel) (by decide +kernel) (by decide +kernel), by rfl⟩
theorem gd_one : GdX (.atmost 1) := gd_fit rfl (.atmost _)
theorem gn_zero : GnX (.int 0 1) := gn_draw .int (.int (by decide) (by decide) (by decide)) (.int _ _)
theorem cm_ok (n : Nat) (hn : n ≤ 3) {ρ : List Sl} (h6 : (fOp gIx (fVar 6) (fC (.int 3))) ρ = some (.int (n : Int))) (hl : ρ.length = 16) : ∃ new : List Fb.Cx, (∀ c ∈ new, CxOk c) ∧ new.length = n ∧ fCm ρ = some (.list (new.map Fb.Cx.data)) := by
  have step : ∀ i : Nat, i < 3 → ∃ c : Fb.Cx, CxOk c ∧ cStep (gS 15) (fun _ => some true) (fTup (fCons (fOp gAdd (fC (.str "w")) (fOp gIx (fC (.str "abcd")) (fVar 15))) (fCons (fTup (fCons (fC (.str "atmost")) (fCons (fC (.int 1)) fNil))) (fCons (fTup (fCons (fC (.str "int")) (fCons (fC (.int 0)) (fCons (fC (.int 1)) fNil)))) (fCons (fC (.str "set")) fNil))))) (Sm.wpS ρ [15]) (.int (i : Int)) = some (some c.data) := fun i hi => by
    obtain ⟨nm, h1, h2⟩ := wa_at i hi
    refine ⟨⟨nm, .atmost 1, .int 0 1, "set"⟩, cx_ok h1 gd_one gn_zero (ef_ok _ (by simp)), ?_⟩
    have hv : fVar 15 ((Sm.wpS ρ [15]).set 15 (.val (.int (i : Int)))) = some (.int (i : Int)) := by
      unfold fVar
      rw [List.getElem?_set_self (by simp [Sm.wpS, hl])]
    have hw : fOp gAdd (fC (.str "w")) (fOp gIx (fC (.str "abcd")) (fVar 15)) ((Sm.wpS ρ [15]).set 15 (.val (.int (i : Int)))) = some (.str nm) := by
      unfold fOp fC
      rw [hv, Option.bind_some, Option.bind_some, Option.bind_some]
      exact h2
    have l1 : ∀ (n : Nat) (x : PyData), n ≤ 10 → lim n x = some x := fun n x h => by unfold lim; rw [if_pos (by omega)]
    unfold cStep gS
    rw [Option.bind_some, Option.bind_some]
    simp only [if_true, fTup, fCons, fNil, hw, fC, Option.bind_some, List.length_cons, List.length_nil, Nat.zero_add, Nat.reduceAdd, l1 2 _ (by decide), l1 3 _ (by decide), l1 4 _ (by decide), Fb.Cx.data, Cd.data, Gn.data]
  have key : ∀ (l : List Nat), (∀ i ∈ l, i < 3) → ∃ new : List Fb.Cx, (∀ c ∈ new, CxOk c) ∧ new.length = l.length ∧ compM (cStep (gS 15) (fun _ => some true) (fTup (fCons (fOp gAdd (fC (.str "w")) (fOp gIx (fC (.str "abcd")) (fVar 15))) (fCons (fTup (fCons (fC (.str "atmost")) (fCons (fC (.int 1)) fNil))) (fCons (fTup (fCons (fC (.str "int")) (fCons (fC (.int 0)) (fCons (fC (.int 1)) fNil)))) (fCons (fC (.str "set")) fNil))))) (Sm.wpS ρ [15])) (l.map fun (i : Nat) => .int (i : Int)) = some (new.map Fb.Cx.data) := by
    intro l
    induction l with
    | nil => exact fun _ => ⟨[], (fun _ h => nomatch h), rfl, rfl⟩
    | cons i l ih =>
      intro h
      obtain ⟨c, h1, h2⟩ := step i (h i List.mem_cons_self)
      obtain ⟨new, h3, h4, h5⟩ := ih fun j hj => h j (List.mem_cons_of_mem _ hj)
      refine ⟨c :: new, fun d hd => ?_, by rw [List.length_cons, List.length_cons, h4], ?_⟩
      · rcases List.mem_cons.mp hd with rfl | hd
        · exact h1
        · exact h3 d hd
      · rw [List.map_cons]
        show ((cStep _ _ _ _ (.int (i : Int))).bind _) = _
        rw [h2, Option.bind_some, h5]
        rfl
  obtain ⟨new, h1, h2, h3⟩ := key (List.range n) fun i hi => by rw [List.mem_range] at hi; omega
  rw [List.length_range] at h2
  refine ⟨new, h1, h2, ?_⟩
  have hz : -10000000 ≤ (n : Int) ∧ (n : Int) ≤ 10000000 := by omega
  have hr : fRng1 (fCons (fOp gIx (fVar 6) (fC (.int 3))) fNil) ρ = some ((List.range n).map fun (i : Nat) => .int (i : Int)) := by
    rw [← rng_map0]
    unfold fRng1 fCons fNil
    rw [h6]
    show (if -10000000 ≤ (n : Int) ∧ (n : Int) ≤ 10000000 then some (rngD 0 (n : Int).toNat) else none) = _
    rw [if_pos hz]
    rfl
  unfold fCm fV fComp
  rw [hr, Option.bind_some, h3, Option.bind_some]
  unfold lim
  rw [if_pos (by rw [List.length_map]; omega)]
  rfl
theorem mod55 {cs : List Fb.Cx} (hok : ∀ c ∈ cs, CxOk c) (hl : cs.length ≤ 50) {d0 d1 d2 d3 : Int} (a0 : 0 ≤ d0 ∧ d0 < 10) (a2 : 0 ≤ d2 ∧ d2 < 5) (a3 : 0 ≤ d3 ∧ d3 < 4) {k : Nat} (hk : 0 < cs.length → k < cs.length) {s m : Int} {z0 z1 z5 z8 z9 z10 z11 z12 z13 z14 z15 : Sl} :
    ∃ (s' m' : Int) (cs' : List Fb.Cx) (y8 y9 y10 y11 y12 y13 y14 : Sl), modF [z0, z1, .val (.int s), .own (.l (cs.map Fb.Cx.data)), .val (.int m), z5, .val (.list [.int d0, .int d1, .int d2, .int d3]), .val (.int (k : Int)), z8, z9, z10, z11, z12, z13, z14, z15] = some (.nx, [z0, z1, .val (.int s'), .own (.l (cs'.map Fb.Cx.data)), .val (.int m'), z5, .val (.list [.int d0, .int d1, .int d2, .int d3]), .val (.int (k : Int)), y8, y9, y10, y11, y12, y13, y14, z15]) ∧ (∀ c ∈ cs', CxOk c) ∧ cs'.length ≤ cs.length + 4 := by
  have i0 : ∀ ρ : List Sl, ρ[6]? = some (.val (.list [.int d0, .int d1, .int d2, .int d3])) → fOp gIx (fVar 6) (fC (.int 0)) ρ = some (.int d0) := fun ρ h => by unfold fOp fVar fC; rw [h]; rfl
  have i3 : ∀ ρ : List Sl, ρ[6]? = some (.val (.list [.int d0, .int d1, .int d2, .int d3])) → fOp gIx (fVar 6) (fC (.int 3)) ρ = some (.int d3) := fun ρ h => by unfold fOp fVar fC; rw [h]; rfl
  have yes : ∀ (t : FT) (f g : FS) (ρ : List Sl), t ρ = some true → fIfS t f g ρ = f ρ := fun t f g ρ h => by unfold fIfS; rw [h]; rfl
  have no : ∀ (t : FT) (f g : FS) (ρ : List Sl), t ρ = some false → fIfS t f g ρ = g ρ := fun t f g ρ h => by unfold fIfS; rw [h]; rfl
  have eqd : ∀ (v : Int) (ρ : List Sl), ρ[6]? = some (.val (.list [.int d0, .int d1, .int d2, .int d3])) → fB (fOp gEq (fOp gIx (fVar 6) (fC (.int 0))) (fC (.int v))) ρ = some (decide (d0 = v)) := fun v ρ h => by
    have := i0 ρ h
    unfold fB
    rw [show fOp gEq (fOp gIx (fVar 6) (fC (.int 0))) (fC (.int v)) ρ = some (.bool (decide (d0 = v))) from by
      show ((fOp gIx (fVar 6) (fC (.int 0)) ρ).bind _) = _
      rw [this]
      rfl]
    rfl
  by_cases hA : 0 < cs.length ∧ d0 < 6
  · have hkl := hk hA.1
    have hc : cs[k]? = some cs[k] := List.getElem?_eq_getElem hkl
    have hcx := hok _ (List.getElem_mem hkl)
    have hc0 : cs[0]? = some (cs[0]'hA.1) := List.getElem?_eq_getElem hA.1
    have hcx0 := hok _ (List.getElem_mem hA.1)
    obtain ⟨x, hx1, hx2⟩ := v6_ok hcx hcx0.nm (d0 := d0) (d1 := d1) (d2 := d2) (d3 := d3) ⟨a0.1, hA.2⟩ a2 a3 (z0 := z0) (z1 := z1) (z2 := .val (.int s)) (z3 := .own (.l (cs.map Fb.Cx.data))) (z4 := .val (.int m)) (z5 := z5) (z7 := .val (.int (k : Int))) (z15 := z15)
    refine ⟨s, m, cs.set k x, .val (.str cs[k].nm), .val cs[k].gd.data, .val cs[k].gn.data, .val (.str cs[k].ef), .val (.list [.str "", .str "Put", .str "toolongname", .str "a1", .str (cs[0]'hA.1).nm]), .val (.list ((badC ++ [Cd.divides 7]).map Cd.data)), .val (.list (badM.map Gn.data)), ?_, fun c h => ?_, by rw [List.length_set]; omega⟩
    · have ht : (fAnd (fB (fOp gGt (fLenV 3) (fC (.int 0)))) (fB (fOp gLt (fOp gIx (fVar 6) (fC (.int 0))) (fC (.int 6))))) [z0, z1, .val (.int s), .own (.l (cs.map Fb.Cx.data)), .val (.int m), z5, .val (.list [.int d0, .int d1, .int d2, .int d3]), .val (.int (k : Int)), z8, z9, z10, z11, z12, z13, z14, z15] = some true := by
        have h1 : (0 : Int) < (cs.length : Int) := by omega
        have h2 := hA.2
        simp only [fSeq, fIfS, fRet, fAsg, fOwn, fApp, fExt, fBrk, fCnt, fDrop, fFrz, frz, fNext, fFor, fB, fAnd, fOr, fNot, fAndV, fOrV, fNotV, fIf, fChain, fOp, fUn, fVar, fC, fTup, fLst, fV, fCons, fNil, fCall, fCallL, fLenV, fSl, fPart, fNoPart, fStar, fAug, gS, gT, gN, gC, fSeqI, run_1, run_2, run_3, run_4, ix0, ix1, ix2, ix3, then_nx, then_rt, then_bk, then_ct, turn_nx, turn_ct, turn_bk, turn_rt, res_rt, asB_b, gIx_t, gIx_l, gAdd_i, gSub_i, gLt_i, gLe_i, gGt_i, gGe_i, eq_i, eq_s, ne_i, ne_s, gLen_t, gLen_l, gTup_l, gTup_t, strEq, Option.bind_some, List.getElem?_cons_zero, List.getElem?_cons_succ, List.set_cons_zero, List.set_cons_succ, List.replicate_succ, List.replicate_zero, Nat.reduceSub, Nat.reduceAdd, if_true, if_false, decide_true, decide_false, Bool.not_true, Bool.not_false, Bool.false_eq_true, String.reduceEq, reduceIte, List.length_cons, List.length_nil, Nat.reduceLeDiff, lim, List.length_map, h1, h2]
      have t1 : fTmp 3 (fOp gIx (fVar 3) (fVar 7)) [z0, z1, .val (.int s), .own (.l (cs.map Fb.Cx.data)), .val (.int m), z5, .val (.list [.int d0, .int d1, .int d2, .int d3]), .val (.int (k : Int)), z8, z9, z10, z11, z12, z13, z14, z15] = some cs[k].data := by
        show ((gIx (.list (cs.map Fb.Cx.data)) (.int (k : Int))).bind _) = _
        rw [at_list hc]
        show (if noL cs[k].data = true then _ else _) = _
        rw [if_pos (noL_flat _ (cx_flat hcx))]
      have t2 : ∀ y8 y9 y10 y11 y12 y13 y14 : Sl, fTmp 3 (fOp gIx (fOp gIx (fVar 3) (fC (.int 0))) (fC (.int 0))) [z0, z1, .val (.int s), .own (.l (cs.map Fb.Cx.data)), .val (.int m), z5, .val (.list [.int d0, .int d1, .int d2, .int d3]), .val (.int (k : Int)), y8, y9, y10, y11, y12, y13, y14, z15] = some (.str (cs[0]'hA.1).nm) := fun _ _ _ _ _ _ _ => by
        have := at_list hc0
        show ((((gIx (.list (cs.map Fb.Cx.data)) (.int ((0 : Nat) : Int))).bind _)).bind _) = _
        rw [this]
        rfl
      unfold modF
      rw [yes _ _ _ _ ht]
      rw [seq_nx (ρ' := [z0, z1, .val (.int s), .own (.l (cs.map Fb.Cx.data)), .val (.int m), z5, .val (.list [.int d0, .int d1, .int d2, .int d3]), .val (.int (k : Int)), .val (.str cs[k].nm), .val cs[k].gd.data, .val cs[k].gn.data, .val (.str cs[k].ef), z12, z13, z14, z15]) (by
        unfold fAsg
        rw [t1]
        rfl)]
      rw [seq_nx (ρ' := [z0, z1, .val (.int s), .own (.l (cs.map Fb.Cx.data)), .val (.int m), z5, .val (.list [.int d0, .int d1, .int d2, .int d3]), .val (.int (k : Int)), .val (.str cs[k].nm), .val cs[k].gd.data, .val cs[k].gn.data, .val (.str cs[k].ef), .val (.list [.str "", .str "Put", .str "toolongname", .str "a1", .str (cs[0]'hA.1).nm]), z13, z14, z15]) (by
        unfold fAsg fNm fV fLst
        simp only [fCons, fNil, fC, t2, Option.bind_some]
        rfl)]
      rw [seq_nx (ρ' := [z0, z1, .val (.int s), .own (.l (cs.map Fb.Cx.data)), .val (.int m), z5, .val (.list [.int d0, .int d1, .int d2, .int d3]), .val (.int (k : Int)), .val (.str cs[k].nm), .val cs[k].gd.data, .val cs[k].gn.data, .val (.str cs[k].ef), .val (.list [.str "", .str "Put", .str "toolongname", .str "a1", .str (cs[0]'hA.1).nm]), .val (.list ((badC ++ [Cd.divides 7]).map Cd.data)), z14, z15]) rfl]
      rw [seq_nx (ρ' := [z0, z1, .val (.int s), .own (.l (cs.map Fb.Cx.data)), .val (.int m), z5, .val (.list [.int d0, .int d1, .int d2, .int d3]), .val (.int (k : Int)), .val (.str cs[k].nm), .val cs[k].gd.data, .val cs[k].gn.data, .val (.str cs[k].ef), .val (.list [.str "", .str "Put", .str "toolongname", .str "a1", .str (cs[0]'hA.1).nm]), .val (.list ((badC ++ [Cd.divides 7]).map Cd.data)), .val (.list (badM.map Gn.data)), z15]) rfl]
      unfold fPutL
      rw [hx2]
      show (if 0 ≤ (k : Int) ∧ ((k : Int).toNat) < (cs.map Fb.Cx.data).length then _ else _) = _
      rw [if_pos ⟨by omega, by rw [List.length_map]; omega⟩]
      have e : (cs.map Fb.Cx.data).set (k : Int).toNat x.data = (cs.set k x).map Fb.Cx.data := by
        rw [List.map_set]
        rfl
      rw [e]
      rfl
    · rcases List.mem_or_eq_of_mem_set h with h | rfl
      · exact hok c h
      · exact hx1
  · have ht : (fAnd (fB (fOp gGt (fLenV 3) (fC (.int 0)))) (fB (fOp gLt (fOp gIx (fVar 6) (fC (.int 0))) (fC (.int 6))))) [z0, z1, .val (.int s), .own (.l (cs.map Fb.Cx.data)), .val (.int m), z5, .val (.list [.int d0, .int d1, .int d2, .int d3]), .val (.int (k : Int)), z8, z9, z10, z11, z12, z13, z14, z15] = some false := by
      by_cases h1 : (0 : Int) < (cs.length : Int)
      · have h2 : ¬ d0 < 6 := fun h => hA ⟨by omega, h⟩
        simp only [fSeq, fIfS, fRet, fAsg, fOwn, fApp, fExt, fBrk, fCnt, fDrop, fFrz, frz, fNext, fFor, fB, fAnd, fOr, fNot, fAndV, fOrV, fNotV, fIf, fChain, fOp, fUn, fVar, fC, fTup, fLst, fV, fCons, fNil, fCall, fCallL, fLenV, fSl, fPart, fNoPart, fStar, fAug, gS, gT, gN, gC, fSeqI, run_1, run_2, run_3, run_4, ix0, ix1, ix2, ix3, then_nx, then_rt, then_bk, then_ct, turn_nx, turn_ct, turn_bk, turn_rt, res_rt, asB_b, gIx_t, gIx_l, gAdd_i, gSub_i, gLt_i, gLe_i, gGt_i, gGe_i, eq_i, eq_s, ne_i, ne_s, gLen_t, gLen_l, gTup_l, gTup_t, strEq, Option.bind_some, List.getElem?_cons_zero, List.getElem?_cons_succ, List.set_cons_zero, List.set_cons_succ, List.replicate_succ, List.replicate_zero, Nat.reduceSub, Nat.reduceAdd, if_true, if_false, decide_true, decide_false, Bool.not_true, Bool.not_false, Bool.false_eq_true, String.reduceEq, reduceIte, List.length_cons, List.length_nil, Nat.reduceLeDiff, lim, List.length_map, h1, h2]
      · simp only [fSeq, fIfS, fRet, fAsg, fOwn, fApp, fExt, fBrk, fCnt, fDrop, fFrz, frz, fNext, fFor, fB, fAnd, fOr, fNot, fAndV, fOrV, fNotV, fIf, fChain, fOp, fUn, fVar, fC, fTup, fLst, fV, fCons, fNil, fCall, fCallL, fLenV, fSl, fPart, fNoPart, fStar, fAug, gS, gT, gN, gC, fSeqI, run_1, run_2, run_3, run_4, ix0, ix1, ix2, ix3, then_nx, then_rt, then_bk, then_ct, turn_nx, turn_ct, turn_bk, turn_rt, res_rt, asB_b, gIx_t, gIx_l, gAdd_i, gSub_i, gLt_i, gLe_i, gGt_i, gGe_i, eq_i, eq_s, ne_i, ne_s, gLen_t, gLen_l, gTup_l, gTup_t, strEq, Option.bind_some, List.getElem?_cons_zero, List.getElem?_cons_succ, List.set_cons_zero, List.set_cons_succ, List.replicate_succ, List.replicate_zero, Nat.reduceSub, Nat.reduceAdd, if_true, if_false, decide_true, decide_false, Bool.not_true, Bool.not_false, Bool.false_eq_true, String.reduceEq, reduceIte, List.length_cons, List.length_nil, Nat.reduceLeDiff, lim, List.length_map, h1]
    unfold modF
    rw [no _ _ _ _ ht]
    by_cases h6 : d0 = 6
    · rw [yes _ _ _ _ (by rw [eqd 6 _ rfl, decide_eq_true h6])]
      obtain ⟨s', hs⟩ : ∃ s' : Int, fOp gIx (fV (fLst (fCons (fUn gNeg (fC (.int 1001))) (fCons (fUn gNeg (fC (.int 1000))) (fCons (fC (.int 1000)) (fCons (fC (.int 1001)) fNil)))))) (fOp gIx (fVar 6) (fC (.int 3))) [z0, z1, .val (.int s), .own (.l (cs.map Fb.Cx.data)), .val (.int m), z5, .val (.list [.int d0, .int d1, .int d2, .int d3]), .val (.int (k : Int)), z8, z9, z10, z11, z12, z13, z14, z15] = some (.int s') := by
        rcases (by omega : d3 = 0 ∨ d3 = 1 ∨ d3 = 2 ∨ d3 = 3) with rfl | rfl | rfl | rfl <;> exact ⟨_, rfl⟩
      exact ⟨s', m, cs, z8, z9, z10, z11, z12, z13, z14, by unfold fAsg; rw [hs]; rfl, hok, by omega⟩
    · rw [no _ _ _ _ (by rw [eqd 6 _ rfl, decide_eq_false h6])]
      by_cases h7 : d0 = 7
      · rw [yes _ _ _ _ (by rw [eqd 7 _ rfl, decide_eq_true h7])]
        obtain ⟨m', hs⟩ : ∃ s' : Int, fOp gIx (fV (fLst (fCons (fUn gNeg (fC (.int 1))) (fCons (fC (.int 0)) (fCons (fC (.int 6)) (fCons (fC (.int 7)) fNil)))))) (fOp gIx (fVar 6) (fC (.int 3))) [z0, z1, .val (.int s), .own (.l (cs.map Fb.Cx.data)), .val (.int m), z5, .val (.list [.int d0, .int d1, .int d2, .int d3]), .val (.int (k : Int)), z8, z9, z10, z11, z12, z13, z14, z15] = some (.int s') := by
          rcases (by omega : d3 = 0 ∨ d3 = 1 ∨ d3 = 2 ∨ d3 = 3) with rfl | rfl | rfl | rfl <;> exact ⟨_, rfl⟩
        exact ⟨s, m', cs, z8, z9, z10, z11, z12, z13, z14, by unfold fAsg; rw [hs]; rfl, hok, by omega⟩
      · rw [no _ _ _ _ (by rw [eqd 7 _ rfl, decide_eq_false h7])]
        by_cases h8 : d0 = 8
        · rw [yes _ _ _ _ (by rw [eqd 8 _ rfl, decide_eq_true h8])]
          obtain ⟨n, rfl⟩ := Int.eq_ofNat_of_zero_le a3.1
          obtain ⟨new, n1, n2, n3⟩ := cm_ok n (by omega) (ρ := [z0, z1, .val (.int s), .val (.list (cs.map Fb.Cx.data)), .val (.int m), z5, .val (.list [.int d0, .int d1, .int d2, .int (n : Int)]), .val (.int (k : Int)), z8, z9, z10, z11, z12, z13, z14, z15]) (i3 _ rfl) rfl
          refine ⟨s, m, cs ++ new, z8, z9, z10, z11, z12, z13, z14, ?_, fun c h => (List.mem_append.mp h).elim (hok c) (n1 c), by rw [List.length_append]; omega⟩
          have ho : fTmpL 3 (fOpL gAddL (fVar 3) fCm) [z0, z1, .val (.int s), .own (.l (cs.map Fb.Cx.data)), .val (.int m), z5, .val (.list [.int d0, .int d1, .int d2, .int (n : Int)]), .val (.int (k : Int)), z8, z9, z10, z11, z12, z13, z14, z15] = some ((cs ++ new).map Fb.Cx.data) := by
            have hz : frz 3 [z0, z1, .val (.int s), .own (.l (cs.map Fb.Cx.data)), .val (.int m), z5, .val (.list [.int d0, .int d1, .int d2, .int (n : Int)]), .val (.int (k : Int)), z8, z9, z10, z11, z12, z13, z14, z15] = [z0, z1, .val (.int s), .val (.list (cs.map Fb.Cx.data)), .val (.int m), z5, .val (.list [.int d0, .int d1, .int d2, .int (n : Int)]), .val (.int (k : Int)), z8, z9, z10, z11, z12, z13, z14, z15] := rfl
            have hg : gAddL (.list (cs.map Fb.Cx.data)) (.list (new.map Fb.Cx.data)) = some ((cs ++ new).map Fb.Cx.data) := by
              show lim _ _ = _
              unfold lim
              rw [if_pos (by rw [List.length_map, List.length_map]; omega), List.map_append]
            have hnl : noLs ((cs ++ new).map Fb.Cx.data) = true := noLs_of fun d hd => by
              obtain ⟨c, hc, rfl⟩ := List.mem_map.mp hd
              exact noL_flat _ (cx_flat ((List.mem_append.mp hc).elim (hok c) (n1 c)))
            unfold fTmpL fOpL
            rw [hz, n3]
            show ((gAddL (.list (cs.map Fb.Cx.data)) (.list (new.map Fb.Cx.data))).bind _) = _
            rw [hg, Option.bind_some, if_pos hnl]
          unfold fOwn
          rw [ho]
          rfl
        · rw [no _ _ _ _ (by rw [eqd 8 _ rfl, decide_eq_false h8])]
          exact ⟨s, m, [], z8, z9, z10, z11, z12, z13, z14, rfl, (fun _ h => nomatch h), Nat.zero_le _⟩
theorem dig4 {xs : List Int} (h : DrawOk [10, 4, 5, 4] xs) : ∃ d0 d1 d2 d3 : Int, xs.map PyData.int = [.int d0, .int d1, .int d2, .int d3] ∧ (0 ≤ d0 ∧ d0 < 10) ∧ (0 ≤ d1 ∧ d1 < 4) ∧ (0 ≤ d2 ∧ d2 < 5) ∧ (0 ≤ d3 ∧ d3 < 4) := by
  obtain _ | ⟨h0, _ | ⟨h1, _ | ⟨h2, _ | ⟨h3, _ | _⟩⟩⟩⟩ := h
  exact ⟨_, _, _, _, rfl, h0, h1, h2, h3⟩
theorem mul6 (w : Nat) : gMul (.int 6) (.int (w : Int)) = some (.int ((6 * w : Nat) : Int)) := by
  show (if ((6 : Int).natAbs < 18446744073709551616 ∨ (w : Int).natAbs < 18446744073709551616) ∨ (6 : Int).natAbs.log2 + (w : Int).natAbs.log2 < 1000000 then some (PyData.int (6 * (w : Int))) else none) = _
  rw [if_pos (Or.inl (Or.inl (by decide)))]
  rfl
theorem turn55 {cs : List Fb.Cx} (hok : ∀ c ∈ cs, CxOk c) (hl : cs.length ≤ 40) {w j n : Nat} {s m : Int} {z6 z7 z8 z9 z10 z11 z12 z13 z14 z15 : Sl} {Q : Fl → Nat → List Sl → Prop}
    (q : ∀ (s' m' : Int) (cs' : List Fb.Cx) (y6 y7 y8 y9 y10 y11 y12 y13 y14 : Sl), (∀ c ∈ cs', CxOk c) → cs'.length ≤ cs.length + 4 → Q .nx n [.val (.dict []), .val (.int (w : Int)), .val (.int s'), .own (.l (cs'.map Fb.Cx.data)), .val (.int m'), .val (.int (j : Int)), y6, y7, y8, y9, y10, y11, y12, y13, y14, z15]) :
    w_law_1 F1 F2 F3 n [.val (.dict []), .val (.int (w : Int)), .val (.int s), .own (.l (cs.map Fb.Cx.data)), .val (.int m), .val (.int (j : Int)), z6, z7, z8, z9, z10, z11, z12, z13, z14, z15] Q := by
  have hm := mul6 w
  unfold w_law_1
  refine ⟨_, rfl, .int ((6 * w + 4 + j : Nat) : Int), by simp only [fSeq, fIfS, fRet, fAsg, fOwn, fApp, fExt, fBrk, fCnt, fDrop, fFrz, frz, fNext, fFor, fB, fAnd, fOr, fNot, fAndV, fOrV, fNotV, fIf, fChain, fOp, fUn, fVar, fC, fTup, fLst, fV, fCons, fNil, fCall, fCallL, fLenV, fSl, fPart, fNoPart, fStar, fAug, gS, gT, gN, gC, fSeqI, run_1, run_2, run_3, run_4, ix0, ix1, ix2, ix3, then_nx, then_rt, then_bk, then_ct, turn_nx, turn_ct, turn_bk, turn_rt, res_rt, asB_b, gIx_t, gIx_l, gAdd_i, gSub_i, gLt_i, gLe_i, gGt_i, gGe_i, eq_i, eq_s, ne_i, ne_s, gLen_t, gLen_l, gTup_l, gTup_t, strEq, Option.bind_some, List.getElem?_cons_zero, List.getElem?_cons_succ, List.set_cons_zero, List.set_cons_succ, List.replicate_succ, List.replicate_zero, Nat.reduceSub, Nat.reduceAdd, if_true, if_false, decide_true, decide_false, Bool.not_true, Bool.not_false, Bool.false_eq_true, String.reduceEq, reduceIte, List.length_cons, List.length_nil, Nat.reduceLeDiff, lim, hm]; rfl, _, rfl, 6 * w + 4 + j, [10, 4, 5, 4], rfl, by decide, by decide, fun xs hx => ⟨_, rfl, ?_⟩⟩
  obtain ⟨d0, d1, d2, d3, e, a0, a1, a2, a3⟩ := dig4 hx
  rw [e]
  obtain ⟨M, hM1, hM2, hM3⟩ : ∃ M : Int, gMax [.int 1, .int (cs.length : Int)] = some (.int M) ∧ 0 < M ∧ (0 < cs.length → M = cs.length) := by
    refine ⟨_, rfl, ?_, fun h => ?_⟩
    · split <;> omega
    · split <;> omega
  obtain ⟨k, hk⟩ : ∃ k : Nat, d1 % M = (k : Int) := ⟨(d1 % M).toNat, (Int.toNat_of_nonneg (Int.emod_nonneg _ (by omega))).symm⟩
  have hkl : 0 < cs.length → k < cs.length := fun h => by
    have h1 := Int.emod_lt_of_pos d1 hM2
    have h2 := hM3 h
    omega
  have hmod : gMod (.int d1) (.int M) = some (.int (k : Int)) := by
    show (if 0 < M then some (PyData.int (d1 % M)) else none) = _
    rw [if_pos hM2, hk]
  have hlen : fLenV 3 [.val (.dict []), .val (.int (w : Int)), .val (.int s), .own (.l (cs.map Fb.Cx.data)), .val (.int m), .val (.int (j : Int)), .val (.list [.int d0, .int d1, .int d2, .int d3]), z7, z8, z9, z10, z11, z12, z13, z14, z15] = some (.int (cs.length : Int)) := by simp only [fSeq, fIfS, fRet, fAsg, fOwn, fApp, fExt, fBrk, fCnt, fDrop, fFrz, frz, fNext, fFor, fB, fAnd, fOr, fNot, fAndV, fOrV, fNotV, fIf, fChain, fOp, fUn, fVar, fC, fTup, fLst, fV, fCons, fNil, fCall, fCallL, fLenV, fSl, fPart, fNoPart, fStar, fAug, gS, gT, gN, gC, fSeqI, run_1, run_2, run_3, run_4, ix0, ix1, ix2, ix3, then_nx, then_rt, then_bk, then_ct, turn_nx, turn_ct, turn_bk, turn_rt, res_rt, asB_b, gIx_t, gIx_l, gAdd_i, gSub_i, gLt_i, gLe_i, gGt_i, gGe_i, eq_i, eq_s, ne_i, ne_s, gLen_t, gLen_l, gTup_l, gTup_t, strEq, Option.bind_some, List.getElem?_cons_zero, List.getElem?_cons_succ, List.set_cons_zero, List.set_cons_succ, List.replicate_succ, List.replicate_zero, Nat.reduceSub, Nat.reduceAdd, if_true, if_false, decide_true, decide_false, Bool.not_true, Bool.not_false, Bool.false_eq_true, String.reduceEq, reduceIte, List.length_cons, List.length_nil, Nat.reduceLeDiff, lim, List.length_map]
  show wSeq _ _ n [.val (.dict []), .val (.int (w : Int)), .val (.int s), .own (.l (cs.map Fb.Cx.data)), .val (.int m), .val (.int (j : Int)), .val (.list [.int d0, .int d1, .int d2, .int d3]), z7, z8, z9, z10, z11, z12, z13, z14, z15] Q
  refine wst_nx (ρ' := [.val (.dict []), .val (.int (w : Int)), .val (.int s), .own (.l (cs.map Fb.Cx.data)), .val (.int m), .val (.int (j : Int)), .val (.list [.int d0, .int d1, .int d2, .int d3]), .val (.int (k : Int)), z8, z9, z10, z11, z12, z13, z14, z15]) ?_ ?_
  · have h1 : (fOp gIx (fVar 6) (fC (.int 1))) [.val (.dict []), .val (.int (w : Int)), .val (.int s), .own (.l (cs.map Fb.Cx.data)), .val (.int m), .val (.int (j : Int)), .val (.list [.int d0, .int d1, .int d2, .int d3]), z7, z8, z9, z10, z11, z12, z13, z14, z15] = some (.int d1) := rfl
    have h2 : (fCall gMax (fCons (fC (.int 1)) (fCons (fLenV 3) fNil))) [.val (.dict []), .val (.int (w : Int)), .val (.int s), .own (.l (cs.map Fb.Cx.data)), .val (.int m), .val (.int (j : Int)), .val (.list [.int d0, .int d1, .int d2, .int d3]), z7, z8, z9, z10, z11, z12, z13, z14, z15] = some (.int M) := by
      unfold fCall fCons fNil fC
      rw [hlen]
      exact hM1
    unfold fAsg
    rw [show fOp gMod (fOp gIx (fVar 6) (fC (.int 1))) (fCall gMax (fCons (fC (.int 1)) (fCons (fLenV 3) fNil))) [.val (.dict []), .val (.int (w : Int)), .val (.int s), .own (.l (cs.map Fb.Cx.data)), .val (.int m), .val (.int (j : Int)), .val (.list [.int d0, .int d1, .int d2, .int d3]), z7, z8, z9, z10, z11, z12, z13, z14, z15] = some (.int (k : Int)) from by
      unfold fOp at h1 ⊢
      rw [h1, h2]
      exact hmod]
    rfl
  obtain ⟨s', m', cs', y8, y9, y10, y11, y12, y13, y14, h1, h2, h3⟩ := mod55 hok (by omega) a0 a2 a3 hkl (d1 := d1) (s := s) (m := m) (z0 := .val (.dict [])) (z1 := .val (.int (w : Int))) (z5 := .val (.int (j : Int))) (z8 := z8) (z9 := z9) (z10 := z10) (z11 := z11) (z12 := z12) (z13 := z13) (z14 := z14) (z15 := z15)
  refine wst_nx h1 ?_
  exact wst_end (chk h2 (by omega)) (q s' m' cs' _ _ y8 y9 y10 y11 y12 y13 y14 h2 h3)
theorem loop55 {w n : Nat} {z15 : Sl} {Q : Fl → Nat → List Sl → Prop} (q : ∀ (s m : Int) (cs : List Fb.Cx) (y5 y6 y7 y8 y9 y10 y11 y12 y13 y14 : Sl), Q .nx n [.val (.dict []), .val (.int (w : Int)), .val (.int s), .own (.l (cs.map Fb.Cx.data)), .val (.int m), y5, y6, y7, y8, y9, y10, y11, y12, y13, y14, z15]) : ∀ (js : List Nat) (cs : List Fb.Cx) (s m : Int) (z5 z6 z7 z8 z9 z10 z11 z12 z13 z14 : Sl), (∀ c ∈ cs, CxOk c) → cs.length + 4 * js.length ≤ 40 →
    wLoop (gS 5) (w_law_1 F1 F2 F3) (js.map fun (j : Nat) => .int (j : Int)) n [.val (.dict []), .val (.int (w : Int)), .val (.int s), .own (.l (cs.map Fb.Cx.data)), .val (.int m), z5, z6, z7, z8, z9, z10, z11, z12, z13, z14, z15] Q
  | [], cs, s, m, z5, z6, z7, z8, z9, z10, z11, z12, z13, z14, _, _ => q s m cs z5 z6 z7 z8 z9 z10 z11 z12 z13 z14
  | j :: js, cs, s, m, z5, z6, z7, z8, z9, z10, z11, z12, z13, z14, hok, hl => by
    rw [List.length_cons] at hl
    exact ⟨_, rfl, turn55 hok (by omega) fun s' m' cs' y6 y7 y8 y9 y10 y11 y12 y13 y14 h1 h2 => loop55 q js cs' s' m' (.val (.int (j : Int))) y6 y7 y8 y9 y10 y11 y12 y13 y14 h1 (by omega)⟩
theorem hw55 : w_law_h F1 F2 F3 (rhoE 16) fun ds => ∀ d ∈ ds, ∃ ρ1, (gS 1) d (rhoE 16) = some ρ1 ∧ w_law F1 F2 F3 0 ρ1 (QL 16) := by
  refine ⟨.int 6, rfl, .int 1, rfl, rfl, fun n hn => ⟨.int 6, rfl, _, rfl, _, rfl, _, rfl, _, rfl, ?_, ?_, fun d hd => ?_⟩⟩
  · split <;> omega
  · split <;> omega
  generalize (if 1 + (n : Int) / 6 < 6 then 1 + (n : Int) / 6 else 6) = m at hd
  rw [rng_map0] at hd
  obtain ⟨i, _, rfl⟩ := List.mem_map.mp hd
  clear hd
  refine ⟨_, rfl, ?_⟩
  have hm := mul6 i
  unfold w_law
  refine ⟨_, rfl, .int ((6 * i : Nat) : Int), hm, rfl, ?_⟩
  refine mach_ok (k := 6 * i) fun s cs mo h1 h2 h3 => ?_
  refine ⟨_, rfl, ?_⟩
  have hok : ∀ c ∈ cs.map toX, CxOk c := fun c hc => by
    obtain ⟨d, hd, rfl⟩ := List.mem_map.mp hc
    exact toX_ok (h1 d hd)
  have hle : (cs.map toX).length ≤ 4 := by rw [List.length_map]; exact h2
  have hd := toX_data cs
  have hnl : noLs ((cs.map toX).map Fb.Cx.data) = true := noLs_of fun d hd => by
    obtain ⟨c, hc, rfl⟩ := List.mem_map.mp hd
    exact noL_flat _ (cx_flat (hok c hc))
  generalize hcx : cs.map toX = cx at hok hle hd hnl
  show wSeq _ _ 0 [.val (.dict []), .val (.int (i : Int)), .val (.int s), .val (.tuple (cs.map Cmd.data)), .val (.int (mo : Int)), .un, .un, .un, .un, .un, .un, .un, .un, .un, .un, .un] (QL 16)
  rw [hd]
  refine wst_nx (ρ' := [.val (.dict []), .val (.int (i : Int)), .val (.int s), .own (.l (cx.map Fb.Cx.data)), .val (.int (mo : Int)), .un, .un, .un, .un, .un, .un, .un, .un, .un, .un, .un]) ?_ ?_
  · have ho : fTmpL 3 (fCallL gList (fCons (fVar 3) fNil)) [.val (.dict []), .val (.int (i : Int)), .val (.int s), .val (.tuple (cx.map Fb.Cx.data)), .val (.int (mo : Int)), .un, .un, .un, .un, .un, .un, .un, .un, .un, .un, .un] = some (cx.map Fb.Cx.data) := by
      unfold fTmpL
      show (if noLs (cx.map Fb.Cx.data) = true then _ else _) = _
      rw [if_pos hnl]
    unfold fOwn
    rw [ho]
    rfl
  refine wst_nx (chk hok (by omega)) ?_
  refine ⟨_, rfl, ?_⟩
  exact loop55 (fun s m cs y5 y6 y7 y8 y9 y10 y11 y12 y13 y14 => ⟨trivial, rfl, rfl⟩) [0, 1] cx s (mo : Int) .un .un .un .un .un .un .un .un .un .un hok (by show cx.length + 8 ≤ 40; omega)
theorem ht55 : w_law_t F1 F2 F3 0 (rhoE 16) QT := ⟨(.rt (.bool true), rhoE 16), rfl, trivial⟩
end K55
namespace K55
open PySem PySem.Spec PyProof.Rows L2 Evl Cr CrT Sm Fb
theorem rec_fits {P : Program} {w : World} {K : PySem.W.Frag} {mg : Str → Option Value} {base : Heap} {f fi fl : Addr} {fd fdi fdl : FuncData} (T : Tx mg) (F : Fun K "fits" "fits" s_fits f fd) (b : Binds K fd ["condition", "kind"] []) (m : mg "fits" = some (.ref f))
    (Fi : Fun K "_fits_item" "_fits_item" s__fits_item fi fdi) (bi : Binds K fdi ["place", "condition", "kinds"] []) (mi : mg "_fits_item" = some (.ref fi)) (Fl : Fun K "_fits_list" "_fits_list" s__fits_list fl fdl) (bl : Binds K fdl ["condition", "listed"] []) (ml : mg "_fits_list" = some (.ref fl))
    (c_is_word : Cl P w K mg base "is_word" ["text"] 1 spWord) (c_kinds_in_tuple : Cl P w K mg base "kinds_in_tuple" ["kind"] 1 (spKit K)) (c_kind_in_list : Cl P w K mg base "kind_in_list" ["kind"] 1 (spKil K)) : ∀ n : Nat, FnOk P w K mg base CX0 (2 * n + 1) f fd ["condition", "kind"] (spFits K n)
  | 0 => no_call spFits_0
  | n + 1 =>
    have G := rec_fits T F b m Fi bi mi Fl bl ml c_is_word c_kinds_in_tuple c_kind_in_list n
    ok_fits T F c_is_word c_kinds_in_tuple c_kind_in_list ⟨f, fd, G, b, F.kp, m⟩ ⟨fi, fdi, ok__fits_item T Fi ⟨f, fd, G, b, F.kp, m⟩, bi, Fi.kp, mi⟩ ⟨fl, fdl, ok__fits_list T Fl ⟨f, fd, G, b, F.kp, m⟩, bl, Fl.kp, ml⟩
section
variable {P : Program} {w : World} {K : PySem.W.Frag} {mg : Str → Option Value} {base : Heap} {A : Atm}
theorem no_fnX {A : Atm} {T : ET} {k : Nat} {f : Addr} {fd : FuncData} {ps : List Str} : FnOk P w K mg base (L2.CX P w) k f fd ps (spX K A T fun _ => none) :=
  have no : ∀ vs H Q E, ¬ spX K A T (fun _ => none) vs H Q E := fun vs H Q E h => by
    obtain ⟨_, _, _, _, _, h, _⟩ := h
    cases h
  ⟨fun vs H Q E h => absurd h (no vs H Q E), fun A outer s H args us vs Q E _ _ _ _ h => absurd h (no vs H Q E)⟩
theorem rec_katA {fit : Fn} {L : Nat} {ET : ET} {f : Addr} {fd : FuncData} (hL : 2 ≤ L) (T : Tx mg) (EG : ErrM P w K mg base "GeneratorError" (ET 0).1 (ET 0).2.1 (ET 0).2.2 (tfP K)) (F : Fun K "_kind_at" "_kind_at" s__kind_at f fd) (b : Binds K fd ["generator", "path"] []) (m : mg "_kind_at" = some (.ref f)) (c_parts_in : Cr.Cl P w K mg base "parts_in" ["generator"] L (spF K A D_parts)) (c__fault_itself : Cr.Cl P w K mg base "_fault_itself" ["generator", "kinds"] L (spF K A (D_fault fit))) (c__kind_made : Cr.Cl P w K mg base "_kind_made" ["generator", "kinds"] L (spF K A D_made)) :
    ∀ n : Nat, FnOk P w K mg base (L2.CX P w) (L + n) f fd ["generator", "path"] (spX K A ET (D_katA fit n))
  | 0 => no_fnX
  | n + 1 => okx__kind_at (L := L + n) (Nat.le_trans hL (Nat.le_add_right _ _)) T EG F ⟨f, fd, rec_katA hL T EG F b m c_parts_in c__fault_itself c__kind_made n, b, F.kp, m⟩ (clMono c_parts_in (Nat.le_add_right _ _)) (clMono c__fault_itself (Nat.le_add_right _ _)) (clMono c__kind_made (Nat.le_add_right _ _))
end
theorem all_mk {l : PySem.W.OpenLaw} {w : World} {K : PySem.W.Frag} {h : Heap} {mg : Str → Option Value} {fa : Addr} (X : K.In h) (G : h.Ns mainGlobals mg) (hfa : mg "law" = some (.ref fa))
    {f1 : Addr} {od1 an1 : Option Addr} {sl1 : Array (Option Value)} {oc1 kV1 dc1 pm1 cd1 ct1 : Value}
    {f2 : Addr} {od2 an2 : Option Addr} {sl2 : Array (Option Value)} {oc2 kV2 dc2 pm2 cd2 ct2 : Value}
    {f3 : Addr} {od3 an3 : Option Addr} {sl3 : Array (Option Value)} {oc3 kV3 dc3 pm3 cd3 ct3 : Value}
    {f4 : Addr} {od4 an4 : Option Addr} {sl4 : Array (Option Value)} {oc4 kV4 dc4 pm4 cd4 ct4 : Value}
    {f5 : Addr} {od5 an5 : Option Addr} {sl5 : Array (Option Value)} {oc5 kV5 dc5 pm5 cd5 ct5 : Value}
    {f6 : Addr} {od6 an6 : Option Addr} {sl6 : Array (Option Value)} {oc6 kV6 dc6 pm6 cd6 ct6 : Value}
    {f7 : Addr} {od7 an7 : Option Addr} {sl7 : Array (Option Value)} {oc7 kV7 dc7 pm7 cd7 ct7 : Value}
    {f8 : Addr} {od8 an8 : Option Addr} {sl8 : Array (Option Value)} {oc8 kV8 dc8 pm8 cd8 ct8 : Value}
    {f9 : Addr} {od9 an9 : Option Addr} {sl9 : Array (Option Value)} {oc9 kV9 dc9 pm9 cd9 ct9 : Value}
    {f10 : Addr} {od10 an10 : Option Addr} {sl10 : Array (Option Value)} {oc10 kV10 dc10 pm10 cd10 ct10 : Value}
    {f11 : Addr} {od11 an11 : Option Addr} {sl11 : Array (Option Value)} {oc11 kV11 dc11 pm11 cd11 ct11 : Value}
    {f12 : Addr} {od12 an12 : Option Addr} {sl12 : Array (Option Value)} {oc12 kV12 dc12 pm12 cd12 ct12 : Value}
    {f13 : Addr} {od13 an13 : Option Addr} {sl13 : Array (Option Value)} {oc13 kV13 dc13 pm13 cd13 ct13 : Value}
    {f14 : Addr} {od14 an14 : Option Addr} {sl14 : Array (Option Value)} {oc14 kV14 dc14 pm14 cd14 ct14 : Value}
    {f15 : Addr} {od15 an15 : Option Addr} {sl15 : Array (Option Value)} {oc15 kV15 dc15 pm15 cd15 ct15 : Value}
    {f16 : Addr} {od16 an16 : Option Addr} {sl16 : Array (Option Value)} {oc16 kV16 dc16 pm16 cd16 ct16 : Value}
    {f17 : Addr} {od17 an17 : Option Addr} {sl17 : Array (Option Value)} {oc17 kV17 dc17 pm17 cd17 ct17 : Value}
    {f18 : Addr} {od18 an18 : Option Addr} {sl18 : Array (Option Value)} {oc18 kV18 dc18 pm18 cd18 ct18 : Value}
    {f19 : Addr} {od19 an19 : Option Addr} {sl19 : Array (Option Value)} {oc19 kV19 dc19 pm19 cd19 ct19 : Value}
    {f20 : Addr} {od20 an20 : Option Addr} {sl20 : Array (Option Value)} {oc20 kV20 dc20 pm20 cd20 ct20 : Value}
    {f21 : Addr} {od21 an21 : Option Addr} {sl21 : Array (Option Value)} {oc21 kV21 dc21 pm21 cd21 ct21 : Value}
    {f22 : Addr} {od22 an22 : Option Addr} {sl22 : Array (Option Value)} {oc22 kV22 dc22 pm22 cd22 ct22 : Value}
    {f23 : Addr} {od23 an23 : Option Addr} {sl23 : Array (Option Value)} {oc23 kV23 dc23 pm23 cd23 ct23 : Value}
    {f24 : Addr} {od24 an24 : Option Addr} {sl24 : Array (Option Value)} {oc24 kV24 dc24 pm24 cd24 ct24 : Value}
    {t_GREAT : Tok}
    {t_WORDS : Tok}
    {t_LETTERS : Tok}
    {t_ITEMS : Tok}
    {t_LONG : Tok}
    {t_DIVISOR : Tok}
    {t_COMMANDS : Tok}
    {x_ChoiceError : Addr}
    {x_GeneratorError i_GeneratorError cda_GeneratorError cc_GeneratorError : Addr} {kv_GeneratorError dc_GeneratorError pm_GeneratorError ct_GeneratorError oc_GeneratorError : Value} {an_GeneratorError od_GeneratorError : Option Addr} {sl_GeneratorError : Array (Option Value)}
    {x_MachineError i_MachineError cda_MachineError cc_MachineError : Addr} {kv_MachineError dc_MachineError pm_MachineError ct_MachineError oc_MachineError : Value} {an_MachineError od_MachineError : Option Addr} {sl_MachineError : Array (Option Value)}
    (a1 : PySem.W.nsIn K mainGlobals "is_word" = some (some (.ref f1))) (l1 : K.lookup f1 = some ⟨oc1, od1, .func (PySem.W.fnOf "is_word" "is_word" (defArgs s_is_word) (defBody s_is_word) (defScope s_is_word) .none kV1 dc1 pm1 an1 cd1 ct1), sl1⟩) (c1 : PySem.W.codeIn K cd1 "is_word" = true) (k1 : PySem.W.keepIn K (.ref f1) = true)
    (a2 : PySem.W.nsIn K mainGlobals "kinds_in_tuple" = some (some (.ref f2))) (l2 : K.lookup f2 = some ⟨oc2, od2, .func (PySem.W.fnOf "kinds_in_tuple" "kinds_in_tuple" (defArgs s_kinds_in_tuple) (defBody s_kinds_in_tuple) (defScope s_kinds_in_tuple) .none kV2 dc2 pm2 an2 cd2 ct2), sl2⟩) (c2 : PySem.W.codeIn K cd2 "kinds_in_tuple" = true) (k2 : PySem.W.keepIn K (.ref f2) = true)
    (a3 : PySem.W.nsIn K mainGlobals "kind_in_list" = some (some (.ref f3))) (l3 : K.lookup f3 = some ⟨oc3, od3, .func (PySem.W.fnOf "kind_in_list" "kind_in_list" (defArgs s_kind_in_list) (defBody s_kind_in_list) (defScope s_kind_in_list) .none kV3 dc3 pm3 an3 cd3 ct3), sl3⟩) (c3 : PySem.W.codeIn K cd3 "kind_in_list" = true) (k3 : PySem.W.keepIn K (.ref f3) = true)
    (a4 : PySem.W.nsIn K mainGlobals "fits" = some (some (.ref f4))) (l4 : K.lookup f4 = some ⟨oc4, od4, .func (PySem.W.fnOf "fits" "fits" (defArgs s_fits) (defBody s_fits) (defScope s_fits) .none kV4 dc4 pm4 an4 cd4 ct4), sl4⟩) (c4 : PySem.W.codeIn K cd4 "fits" = true) (k4 : PySem.W.keepIn K (.ref f4) = true)
    (a5 : PySem.W.nsIn K mainGlobals "_fits_item" = some (some (.ref f5))) (l5 : K.lookup f5 = some ⟨oc5, od5, .func (PySem.W.fnOf "_fits_item" "_fits_item" (defArgs s__fits_item) (defBody s__fits_item) (defScope s__fits_item) .none kV5 dc5 pm5 an5 cd5 ct5), sl5⟩) (c5 : PySem.W.codeIn K cd5 "_fits_item" = true) (k5 : PySem.W.keepIn K (.ref f5) = true)
    (a6 : PySem.W.nsIn K mainGlobals "_fits_list" = some (some (.ref f6))) (l6 : K.lookup f6 = some ⟨oc6, od6, .func (PySem.W.fnOf "_fits_list" "_fits_list" (defArgs s__fits_list) (defBody s__fits_list) (defScope s__fits_list) .none kV6 dc6 pm6 an6 cd6 ct6), sl6⟩) (c6 : PySem.W.codeIn K cd6 "_fits_list" = true) (k6 : PySem.W.keepIn K (.ref f6) = true)
    (a7 : PySem.W.nsIn K mainGlobals "parts_in" = some (some (.ref f7))) (l7 : K.lookup f7 = some ⟨oc7, od7, .func (PySem.W.fnOf "parts_in" "parts_in" (defArgs s_parts_in) (defBody s_parts_in) (defScope s_parts_in) .none kV7 dc7 pm7 an7 cd7 ct7), sl7⟩) (c7 : PySem.W.codeIn K cd7 "parts_in" = true) (k7 : PySem.W.keepIn K (.ref f7) = true)
    (a8 : PySem.W.nsIn K mainGlobals "kind_of" = some (some (.ref f8))) (l8 : K.lookup f8 = some ⟨oc8, od8, .func (PySem.W.fnOf "kind_of" "kind_of" (defArgs s_kind_of) (defBody s_kind_of) (defScope s_kind_of) .none kV8 dc8 pm8 an8 cd8 ct8), sl8⟩) (c8 : PySem.W.codeIn K cd8 "kind_of" = true) (k8 : PySem.W.keepIn K (.ref f8) = true)
    (a9 : PySem.W.nsIn K mainGlobals "_kind_at" = some (some (.ref f9))) (l9 : K.lookup f9 = some ⟨oc9, od9, .func (PySem.W.fnOf "_kind_at" "_kind_at" (defArgs s__kind_at) (defBody s__kind_at) (defScope s__kind_at) .none kV9 dc9 pm9 an9 cd9 ct9), sl9⟩) (c9 : PySem.W.codeIn K cd9 "_kind_at" = true) (k9 : PySem.W.keepIn K (.ref f9) = true)
    (a10 : PySem.W.nsIn K mainGlobals "_fault_itself" = some (some (.ref f10))) (l10 : K.lookup f10 = some ⟨oc10, od10, .func (PySem.W.fnOf "_fault_itself" "_fault_itself" (defArgs s__fault_itself) (defBody s__fault_itself) (defScope s__fault_itself) .none kV10 dc10 pm10 an10 cd10 ct10), sl10⟩) (c10 : PySem.W.codeIn K cd10 "_fault_itself" = true) (k10 : PySem.W.keepIn K (.ref f10) = true)
    (a11 : PySem.W.nsIn K mainGlobals "_are_right_words" = some (some (.ref f11))) (l11 : K.lookup f11 = some ⟨oc11, od11, .func (PySem.W.fnOf "_are_right_words" "_are_right_words" (defArgs s__are_right_words) (defBody s__are_right_words) (defScope s__are_right_words) .none kV11 dc11 pm11 an11 cd11 ct11), sl11⟩) (c11 : PySem.W.codeIn K cd11 "_are_right_words" = true) (k11 : PySem.W.keepIn K (.ref f11) = true)
    (a12 : PySem.W.nsIn K mainGlobals "_kind_made" = some (some (.ref f12))) (l12 : K.lookup f12 = some ⟨oc12, od12, .func (PySem.W.fnOf "_kind_made" "_kind_made" (defArgs s__kind_made) (defBody s__kind_made) (defScope s__kind_made) .none kV12 dc12 pm12 an12 cd12 ct12), sl12⟩) (c12 : PySem.W.codeIn K cd12 "_kind_made" = true) (k12 : PySem.W.keepIn K (.ref f12) = true)
    (a13 : PySem.W.nsIn K mainGlobals "kind_behind" = some (some (.ref f13))) (l13 : K.lookup f13 = some ⟨oc13, od13, .func (PySem.W.fnOf "kind_behind" "kind_behind" (defArgs s_kind_behind) (defBody s_kind_behind) (defScope s_kind_behind) .none kV13 dc13 pm13 an13 cd13 ct13), sl13⟩) (c13 : PySem.W.codeIn K cd13 "kind_behind" = true) (k13 : PySem.W.keepIn K (.ref f13) = true)
    (a14 : PySem.W.nsIn K mainGlobals "machine" = some (some (.ref f14))) (l14 : K.lookup f14 = some ⟨oc14, od14, .func (PySem.W.fnOf "machine" "machine" (defArgs s_machine) (defBody s_machine) (defScope s_machine) .none kV14 dc14 pm14 an14 cd14 ct14), sl14⟩) (c14 : PySem.W.codeIn K cd14 "machine" = true) (k14 : PySem.W.keepIn K (.ref f14) = true)
    (a15 : PySem.W.nsIn K mainGlobals "_fault_in" = some (some (.ref f15))) (l15 : K.lookup f15 = some ⟨oc15, od15, .func (PySem.W.fnOf "_fault_in" "_fault_in" (defArgs s__fault_in) (defBody s__fault_in) (defScope s__fault_in) .none kV15 dc15 pm15 an15 cd15 ct15), sl15⟩) (c15 : PySem.W.codeIn K cd15 "_fault_in" = true) (k15 : PySem.W.keepIn K (.ref f15) = true)
    (a16 : PySem.W.nsIn K mainGlobals "_makes_integers" = some (some (.ref f16))) (l16 : K.lookup f16 = some ⟨oc16, od16, .func (PySem.W.fnOf "_makes_integers" "_makes_integers" (defArgs s__makes_integers) (defBody s__makes_integers) (defScope s__makes_integers) .none kV16 dc16 pm16 an16 cd16 ct16), sl16⟩) (c16 : PySem.W.codeIn K cd16 "_makes_integers" = true) (k16 : PySem.W.keepIn K (.ref f16) = true)
    (a17 : PySem.W.nsIn K mainGlobals "_law_cell" = some (some (.ref f17))) (l17 : K.lookup f17 = some ⟨oc17, od17, .func (PySem.W.fnOf "_law_cell" "_law_cell" (defArgs s__law_cell) (defBody s__law_cell) (defScope s__law_cell) .none kV17 dc17 pm17 an17 cd17 ct17), sl17⟩) (c17 : PySem.W.codeIn K cd17 "_law_cell" = true) (k17 : PySem.W.keepIn K (.ref f17) = true)
    (a18 : PySem.W.nsIn K mainGlobals "_law_draw" = some (some (.ref f18))) (l18 : K.lookup f18 = some ⟨oc18, od18, .func (PySem.W.fnOf "_law_draw" "_law_draw" (defArgs s__law_draw) (defBody s__law_draw) (defScope s__law_draw) .none kV18 dc18 pm18 an18 cd18 ct18), sl18⟩) (c18 : PySem.W.codeIn K cd18 "_law_draw" = true) (k18 : PySem.W.keepIn K (.ref f18) = true)
    (a19 : PySem.W.nsIn K mainGlobals "_law_about" = some (some (.ref f19))) (l19 : K.lookup f19 = some ⟨oc19, od19, .func (PySem.W.fnOf "_law_about" "_law_about" (defArgs s__law_about) (defBody s__law_about) (defScope s__law_about) .none kV19 dc19 pm19 an19 cd19 ct19), sl19⟩) (c19 : PySem.W.codeIn K cd19 "_law_about" = true) (k19 : PySem.W.keepIn K (.ref f19) = true)
    (a20 : PySem.W.nsIn K mainGlobals "_law_commands" = some (some (.ref f20))) (l20 : K.lookup f20 = some ⟨oc20, od20, .func (PySem.W.fnOf "_law_commands" "_law_commands" (defArgs s__law_commands) (defBody s__law_commands) (defScope s__law_commands) .none kV20 dc20 pm20 an20 cd20 ct20), sl20⟩) (c20 : PySem.W.codeIn K cd20 "_law_commands" = true) (k20 : PySem.W.keepIn K (.ref f20) = true)
    (a21 : PySem.W.nsIn K mainGlobals "_law_machine" = some (some (.ref f21))) (l21 : K.lookup f21 = some ⟨oc21, od21, .func (PySem.W.fnOf "_law_machine" "_law_machine" (defArgs s__law_machine) (defBody s__law_machine) (defScope s__law_machine) .none kV21 dc21 pm21 an21 cd21 ct21), sl21⟩) (c21 : PySem.W.codeIn K cd21 "_law_machine" = true) (k21 : PySem.W.keepIn K (.ref f21) = true)
    (a22 : PySem.W.nsIn K mainGlobals "_law_due" = some (some (.ref f22))) (l22 : K.lookup f22 = some ⟨oc22, od22, .func (PySem.W.fnOf "_law_due" "_law_due" (defArgs s__law_due) (defBody s__law_due) (defScope s__law_due) .none kV22 dc22 pm22 an22 cd22 ct22), sl22⟩) (c22 : PySem.W.codeIn K cd22 "_law_due" = true) (k22 : PySem.W.keepIn K (.ref f22) = true)
    (a23 : PySem.W.nsIn K mainGlobals "_law_told" = some (some (.ref f23))) (l23 : K.lookup f23 = some ⟨oc23, od23, .func (PySem.W.fnOf "_law_told" "_law_told" (defArgs s__law_told) (defBody s__law_told) (defScope s__law_told) .none kV23 dc23 pm23 an23 cd23 ct23), sl23⟩) (c23 : PySem.W.codeIn K cd23 "_law_told" = true) (k23 : PySem.W.keepIn K (.ref f23) = true)
    (a24 : PySem.W.nsIn K mainGlobals "law" = some (some (.ref f24))) (l24 : K.lookup f24 = some ⟨oc24, od24, .func (PySem.W.fnOf "law" "law" (defArgs s_law) (defBody s_law) (defScope s_law) .none kV24 dc24 pm24 an24 cd24 ct24), sl24⟩) (c24 : PySem.W.codeIn K cd24 "law" = true) (k24 : PySem.W.keepIn K (.ref f24) = true)
    (z_len : PySem.W.nsIn K mainGlobals "len" = some none)
    (z_all : PySem.W.nsIn K mainGlobals "all" = some none)
    (z_any : PySem.W.nsIn K mainGlobals "any" = some none)
    (z_isinstance : PySem.W.nsIn K mainGlobals "isinstance" = some none)
    (z_tuple : PySem.W.nsIn K mainGlobals "tuple" = some none)
    (z_list : PySem.W.nsIn K mainGlobals "list" = some none)
    (z_int : PySem.W.nsIn K mainGlobals "int" = some none)
    (z_str : PySem.W.nsIn K mainGlobals "str" = some none)
    (z_bool : PySem.W.nsIn K mainGlobals "bool" = some none)
    (z_range : PySem.W.nsIn K mainGlobals "range" = some none)
    (z_zip : PySem.W.nsIn K mainGlobals "zip" = some none)
    (z_enumerate : PySem.W.nsIn K mainGlobals "enumerate" = some none)
    (z_sum : PySem.W.nsIn K mainGlobals "sum" = some none)
    (z_sorted : PySem.W.nsIn K mainGlobals "sorted" = some none)
    (z_min : PySem.W.nsIn K mainGlobals "min" = some none)
    (z_max : PySem.W.nsIn K mainGlobals "max" = some none)
    (z_set : PySem.W.nsIn K mainGlobals "set" = some none)
    (z_repr : PySem.W.nsIn K mainGlobals "repr" = some none)
    (m_GREAT : PySem.W.nsIn K mainGlobals "GREAT" = some (some (.int 1000 t_GREAT)))
    (m_WORDS : PySem.W.nsIn K mainGlobals "WORDS" = some (some (.int 10 t_WORDS)))
    (m_LETTERS : PySem.W.nsIn K mainGlobals "LETTERS" = some (some (.int 8 t_LETTERS)))
    (m_ITEMS : PySem.W.nsIn K mainGlobals "ITEMS" = some (some (.int 4 t_ITEMS)))
    (m_LONG : PySem.W.nsIn K mainGlobals "LONG" = some (some (.int 6 t_LONG)))
    (m_DIVISOR : PySem.W.nsIn K mainGlobals "DIVISOR" = some (some (.int 100 t_DIVISOR)))
    (m_COMMANDS : PySem.W.nsIn K mainGlobals "COMMANDS" = some (some (.int 4 t_COMMANDS)))
    (e_ChoiceError : PySem.W.nsIn K mainGlobals "ChoiceError" = some (some (.ref x_ChoiceError)))
    (e_GeneratorError : PySem.W.nsIn K mainGlobals "GeneratorError" = some (some (.ref x_GeneratorError))) (ei_GeneratorError : PySem.W.findIn K (.ref x_GeneratorError) "__init__" = some (some (.ref i_GeneratorError))) (el_GeneratorError : K.lookup i_GeneratorError = some ⟨oc_GeneratorError, od_GeneratorError, .func (PySem.W.ksFn "__init__" "GeneratorError.__init__" (defArgs s_err_GeneratorError) (defBody s_err_GeneratorError) (defScope s_err_GeneratorError) .none kv_GeneratorError dc_GeneratorError pm_GeneratorError an_GeneratorError (.ref cda_GeneratorError) ct_GeneratorError cc_GeneratorError), sl_GeneratorError⟩) (ec_GeneratorError : PySem.W.codeIn K (.ref cda_GeneratorError) "GeneratorError.__init__" = true) (et_GeneratorError : PySem.W.typeIn K (.ref i_GeneratorError) = some (.type "function")) (en_GeneratorError : PySem.W.findIn K (.ref x_GeneratorError) "what" = some none) (em_GeneratorError : PySem.W.findIn K (.ref x_GeneratorError) "path" = some none) (eo_GeneratorError : OexC K x_GeneratorError) (er_GeneratorError : OexC K x_GeneratorError → ErrC l.prog K x_GeneratorError i_GeneratorError cda_GeneratorError cc_GeneratorError (PySem.W.ksFn "__init__" "GeneratorError.__init__" (defArgs s_err_GeneratorError) (defBody s_err_GeneratorError) (defScope s_err_GeneratorError) .none kv_GeneratorError dc_GeneratorError pm_GeneratorError an_GeneratorError (.ref cda_GeneratorError) ct_GeneratorError cc_GeneratorError)) (ex_GeneratorError : PySem.W.exmOne K (.ref x_GeneratorError) (.ref x_GeneratorError) = some true)
    (e_MachineError : PySem.W.nsIn K mainGlobals "MachineError" = some (some (.ref x_MachineError))) (ei_MachineError : PySem.W.findIn K (.ref x_MachineError) "__init__" = some (some (.ref i_MachineError))) (el_MachineError : K.lookup i_MachineError = some ⟨oc_MachineError, od_MachineError, .func (PySem.W.ksFn "__init__" "MachineError.__init__" (defArgs s_err_MachineError) (defBody s_err_MachineError) (defScope s_err_MachineError) .none kv_MachineError dc_MachineError pm_MachineError an_MachineError (.ref cda_MachineError) ct_MachineError cc_MachineError), sl_MachineError⟩) (ec_MachineError : PySem.W.codeIn K (.ref cda_MachineError) "MachineError.__init__" = true) (et_MachineError : PySem.W.typeIn K (.ref i_MachineError) = some (.type "function")) (en_MachineError : PySem.W.findIn K (.ref x_MachineError) "what" = some none) (em_MachineError : PySem.W.findIn K (.ref x_MachineError) "place" = some none) (eo_MachineError : OexC K x_MachineError) (er_MachineError : OexC K x_MachineError → ErrC l.prog K x_MachineError i_MachineError cda_MachineError cc_MachineError (PySem.W.ksFn "__init__" "MachineError.__init__" (defArgs s_err_MachineError) (defBody s_err_MachineError) (defScope s_err_MachineError) .none kv_MachineError dc_MachineError pm_MachineError an_MachineError (.ref cda_MachineError) ct_MachineError cc_MachineError)) (ex_MachineError : PySem.W.exmOne K (.ref x_MachineError) (.ref x_MachineError) = some true)
    (xa_MachineError : PySem.W.findIn K (.ref x_MachineError) "__getattribute__" = some (some (.builtin "BaseException.__getattribute__"))) (xb_MachineError : PySem.W.findIn K (.ref x_MachineError) "__getattr__" = some none) (xc_MachineError : PySem.W.subIn K (.ref x_MachineError) (.type "BaseException") = some true) (xd_MachineError : PySem.W.hasDictIn K x_MachineError = true)
    (xe_MachineError : PySem.W.exmOne K (.ref x_MachineError) (.ref x_ChoiceError) = some true) (ya_MachineError : PySem.W.findIn K (.ref x_MachineError) "__class__" = some (some (.builtin "object.__class__"))) (yb_MachineError : PySem.W.specialIn K (.builtin "object.__class__") "__get__" = some (some (.builtin "getset_descriptor.__get__"))) (yc_MachineError : PySem.W.takesIn K (.builtin "object.__class__") = some true) (yd_MachineError : PySem.W.mroIn K x_MachineError (.type "object") = some true) (yk_MachineError : PySem.W.kitOne K (.ref x_MachineError) (.ref x_MachineError) = some true)
    (e_super : PySem.W.nsIn K mainGlobals "super" = some none) :
    ∃ fd : FuncData, (∀ (s : Shared) (v : Value), BindsTo s fd ⟨[v], []⟩ [("script", v)]) ∧ ∀ base : Heap, K.In base → base.Ns mainGlobals mg → FnOk l.prog w K mg base CX0 38 fa fd ["script"] (spLaw K) := by
  have F_is_word := fun_mk (st := s_is_word) l1 c1 k1
  have b_is_word := F_is_word.binds (ps := ["text"]) fun _ _ _ _ _ _ us hl => match us, hl with | [_], _ => rfl
  have m_is_word := PySem.W.mg_of X G a1
  have F_kinds_in_tuple := fun_mk (st := s_kinds_in_tuple) l2 c2 k2
  have b_kinds_in_tuple := F_kinds_in_tuple.binds (ps := ["kind"]) fun _ _ _ _ _ _ us hl => match us, hl with | [_], _ => rfl
  have m_kinds_in_tuple := PySem.W.mg_of X G a2
  have F_kind_in_list := fun_mk (st := s_kind_in_list) l3 c3 k3
  have b_kind_in_list := F_kind_in_list.binds (ps := ["kind"]) fun _ _ _ _ _ _ us hl => match us, hl with | [_], _ => rfl
  have m_kind_in_list := PySem.W.mg_of X G a3
  have F_fits := fun_mk (st := s_fits) l4 c4 k4
  have b_fits := F_fits.binds (ps := ["condition", "kind"]) fun _ _ _ _ _ _ us hl => match us, hl with | [_, _], _ => rfl
  have m_fits := PySem.W.mg_of X G a4
  have F__fits_item := fun_mk (st := s__fits_item) l5 c5 k5
  have b__fits_item := F__fits_item.binds (ps := ["place", "condition", "kinds"]) fun _ _ _ _ _ _ us hl => match us, hl with | [_, _, _], _ => rfl
  have m__fits_item := PySem.W.mg_of X G a5
  have F__fits_list := fun_mk (st := s__fits_list) l6 c6 k6
  have b__fits_list := F__fits_list.binds (ps := ["condition", "listed"]) fun _ _ _ _ _ _ us hl => match us, hl with | [_, _], _ => rfl
  have m__fits_list := PySem.W.mg_of X G a6
  have F_parts_in := fun_mk (st := s_parts_in) l7 c7 k7
  have b_parts_in := F_parts_in.binds (ps := ["generator"]) fun _ _ _ _ _ _ us hl => match us, hl with | [_], _ => rfl
  have m_parts_in := PySem.W.mg_of X G a7
  have F_kind_of := fun_mk (st := s_kind_of) l8 c8 k8
  have b_kind_of := F_kind_of.binds (ps := ["generator"]) fun _ _ _ _ _ _ us hl => match us, hl with | [_], _ => rfl
  have m_kind_of := PySem.W.mg_of X G a8
  have F__kind_at := fun_mk (st := s__kind_at) l9 c9 k9
  have b__kind_at := F__kind_at.binds (ps := ["generator", "path"]) fun _ _ _ _ _ _ us hl => match us, hl with | [_, _], _ => rfl
  have m__kind_at := PySem.W.mg_of X G a9
  have F__fault_itself := fun_mk (st := s__fault_itself) l10 c10 k10
  have b__fault_itself := F__fault_itself.binds (ps := ["generator", "kinds"]) fun _ _ _ _ _ _ us hl => match us, hl with | [_, _], _ => rfl
  have m__fault_itself := PySem.W.mg_of X G a10
  have F__are_right_words := fun_mk (st := s__are_right_words) l11 c11 k11
  have b__are_right_words := F__are_right_words.binds (ps := ["words"]) fun _ _ _ _ _ _ us hl => match us, hl with | [_], _ => rfl
  have m__are_right_words := PySem.W.mg_of X G a11
  have F__kind_made := fun_mk (st := s__kind_made) l12 c12 k12
  have b__kind_made := F__kind_made.binds (ps := ["generator", "kinds"]) fun _ _ _ _ _ _ us hl => match us, hl with | [_, _], _ => rfl
  have m__kind_made := PySem.W.mg_of X G a12
  have F_kind_behind := fun_mk (st := s_kind_behind) l13 c13 k13
  have b_kind_behind := F_kind_behind.binds (ps := ["some_map", "kind"]) fun _ _ _ _ _ _ us hl => match us, hl with | [_, _], _ => rfl
  have m_kind_behind := PySem.W.mg_of X G a13
  have F_machine := fun_mk (st := s_machine) l14 c14 k14
  have b_machine := F_machine.binds (ps := ["first", "commands", "most"]) fun _ _ _ _ _ _ us hl => match us, hl with | [_, _, _], _ => rfl
  have m_machine := PySem.W.mg_of X G a14
  have F__fault_in := fun_mk (st := s__fault_in) l15 c15 k15
  have b__fault_in := F__fault_in.binds (ps := ["command", "names"]) fun _ _ _ _ _ _ us hl => match us, hl with | [_, _], _ => rfl
  have m__fault_in := PySem.W.mg_of X G a15
  have F__makes_integers := fun_mk (st := s__makes_integers) l16 c16 k16
  have b__makes_integers := F__makes_integers.binds (ps := ["generator"]) fun _ _ _ _ _ _ us hl => match us, hl with | [_], _ => rfl
  have m__makes_integers := PySem.W.mg_of X G a16
  have F__law_cell := fun_mk (st := s__law_cell) l17 c17 k17
  have b__law_cell := F__law_cell.binds (ps := ["script", "k"]) fun _ _ _ _ _ _ us hl => match us, hl with | [_, _], _ => rfl
  have m__law_cell := PySem.W.mg_of X G a17
  have F__law_draw := fun_mk (st := s__law_draw) l18 c18 k18
  have b__law_draw := F__law_draw.binds (ps := ["script", "k", "sizes"]) fun _ _ _ _ _ _ us hl => match us, hl with | [_, _, _], _ => rfl
  have m__law_draw := PySem.W.mg_of X G a18
  have F__law_about := fun_mk (st := s__law_about) l19 c19 k19
  have b__law_about := F__law_about.binds (ps := ["digits"]) fun _ _ _ _ _ _ us hl => match us, hl with | [_], _ => rfl
  have m__law_about := PySem.W.mg_of X G a19
  have F__law_commands := fun_mk (st := s__law_commands) l20 c20 k20
  have b__law_commands := F__law_commands.binds (ps := ["script", "k"]) fun _ _ _ _ _ _ us hl => match us, hl with | [_, _], _ => rfl
  have m__law_commands := PySem.W.mg_of X G a20
  have F__law_machine := fun_mk (st := s__law_machine) l21 c21 k21
  have b__law_machine := F__law_machine.binds (ps := ["script", "k"]) fun _ _ _ _ _ _ us hl => match us, hl with | [_, _], _ => rfl
  have m__law_machine := PySem.W.mg_of X G a21
  have F__law_due := fun_mk (st := s__law_due) l22 c22 k22
  have b__law_due := F__law_due.binds (ps := ["first", "commands", "most"]) fun _ _ _ _ _ _ us hl => match us, hl with | [_, _, _], _ => rfl
  have m__law_due := PySem.W.mg_of X G a22
  have F__law_told := fun_mk (st := s__law_told) l23 c23 k23
  have b__law_told := F__law_told.binds (ps := ["first", "commands", "most"]) fun _ _ _ _ _ _ us hl => match us, hl with | [_, _, _], _ => rfl
  have m__law_told := PySem.W.mg_of X G a23
  have F_law := fun_mk (st := s_law) l24 c24 k24
  have b_law := F_law.binds (ps := ["script"]) fun _ _ _ _ _ _ us hl => match us, hl with | [_], _ => rfl
  have m_law := PySem.W.mg_of X G a24
  have E_GeneratorError : ∀ base : Heap, ErrM l.prog w K mg base "GeneratorError" x_GeneratorError "what" "path" (tfP K) := fun base => ⟨i_GeneratorError, _, eo_GeneratorError, ei_GeneratorError, et_GeneratorError, init_GeneratorError rfl (er_GeneratorError eo_GeneratorError) el_GeneratorError ec_GeneratorError (PySem.W.mg_none_of X G e_super) en_GeneratorError em_GeneratorError, .all fun us hl => match us, hl with | [_, _, _], _ => rfl, PySem.W.mg_of X G e_GeneratorError, ex_GeneratorError⟩
  have E_MachineError : ∀ base : Heap, ErrM l.prog w K mg base "MachineError" x_MachineError "what" "place" (tfW K) := fun base => ⟨i_MachineError, _, eo_MachineError, ei_MachineError, et_MachineError, init_MachineError rfl (er_MachineError eo_MachineError) el_MachineError ec_MachineError (PySem.W.mg_none_of X G e_super) en_MachineError em_MachineError, .all fun us hl => match us, hl with | [_, _, _], _ => rfl, PySem.W.mg_of X G e_MachineError, ex_MachineError⟩
  have XC_MachineError : L2.ExcC K x_MachineError := ⟨xa_MachineError, xb_MachineError, xc_MachineError, xd_MachineError, ya_MachineError, yb_MachineError, yc_MachineError, yd_MachineError⟩
  have XF_MachineError : ErrF K x_MachineError "what" "place" := ⟨⟨xa_MachineError, xb_MachineError, xc_MachineError, xd_MachineError⟩, en_MachineError, em_MachineError⟩
  cases hfa.symm.trans m_law
  have T : Tx mg := { z_len := PySem.W.mg_none_of X G z_len, z_all := PySem.W.mg_none_of X G z_all, z_any := PySem.W.mg_none_of X G z_any, z_isinstance := PySem.W.mg_none_of X G z_isinstance, z_tuple := PySem.W.mg_none_of X G z_tuple, z_list := PySem.W.mg_none_of X G z_list, z_int := PySem.W.mg_none_of X G z_int, z_str := PySem.W.mg_none_of X G z_str, z_bool := PySem.W.mg_none_of X G z_bool, z_range := PySem.W.mg_none_of X G z_range, z_zip := PySem.W.mg_none_of X G z_zip, z_enumerate := PySem.W.mg_none_of X G z_enumerate, z_sum := PySem.W.mg_none_of X G z_sum, z_sorted := PySem.W.mg_none_of X G z_sorted, z_min := PySem.W.mg_none_of X G z_min, z_max := PySem.W.mg_none_of X G z_max, z_set := PySem.W.mg_none_of X G z_set, z_repr := PySem.W.mg_none_of X G z_repr, m_GREAT := ⟨_, PySem.W.mg_of X G m_GREAT⟩, m_WORDS := ⟨_, PySem.W.mg_of X G m_WORDS⟩, m_LETTERS := ⟨_, PySem.W.mg_of X G m_LETTERS⟩, m_ITEMS := ⟨_, PySem.W.mg_of X G m_ITEMS⟩, m_LONG := ⟨_, PySem.W.mg_of X G m_LONG⟩, m_DIVISOR := ⟨_, PySem.W.mg_of X G m_DIVISOR⟩, m_COMMANDS := ⟨_, PySem.W.mg_of X G m_COMMANDS⟩ }
  refine ⟨PySem.W.fnOf "law" "law" (defArgs s_law) (defBody s_law) (defScope s_law) .none kV24 dc24 pm24 an24 cd24 ct24, fun s v => .of_eq rfl, fun base _ _ => ?_⟩
  let AT : Atm := A0
  have h_ChoiceError : mg "ChoiceError" = some (.ref x_ChoiceError) := PySem.W.mg_of X G e_ChoiceError
  have c_is_word : Cr.Cl l.prog w K mg base "is_word" ["text"] 1 (spF K AT (D_word)) := ⟨_, _, ok_is_word (L := 0) T F_is_word , b_is_word, F_is_word.kp, m_is_word⟩
  have c_kinds_in_tuple : Cr.Cl l.prog w K mg base "kinds_in_tuple" ["kind"] 1 (spF K AT (D_kit)) := ⟨_, _, ok_kinds_in_tuple (L := 0) T F_kinds_in_tuple , b_kinds_in_tuple, F_kinds_in_tuple.kp, m_kinds_in_tuple⟩
  have c_kind_in_list : Cr.Cl l.prog w K mg base "kind_in_list" ["kind"] 1 (spF K AT (D_kil)) := ⟨_, _, ok_kind_in_list (L := 0) T F_kind_in_list , b_kind_in_list, F_kind_in_list.kp, m_kind_in_list⟩
  have c_parts_in : Cr.Cl l.prog w K mg base "parts_in" ["generator"] 1 (spF K AT (D_parts)) := ⟨_, _, ok_parts_in (L := 0) T F_parts_in , b_parts_in, F_parts_in.kp, m_parts_in⟩
  have c__are_right_words : Cr.Cl l.prog w K mg base "_are_right_words" ["words"] 2 (spF K AT (D_rw)) := ⟨_, _, ok__are_right_words (L := 1) T F__are_right_words (clMono c_is_word (by decide)), b__are_right_words, F__are_right_words.kp, m__are_right_words⟩
  have c_kind_behind : Cr.Cl l.prog w K mg base "kind_behind" ["some_map", "kind"] 2 (spF K AT (D_behind)) := ⟨_, _, ok_kind_behind (L := 1) T F_kind_behind (clMono c_kinds_in_tuple (by decide)) (clMono c_kind_in_list (by decide)), b_kind_behind, F_kind_behind.kp, m_kind_behind⟩
  have c_word0 : Cr.Cl l.prog w K mg base "is_word" ["text"] 1 (spF K A0 D_word) := ⟨_, _, ok_is_word T F_is_word, b_is_word, F_is_word.kp, m_is_word⟩
  have c_kit0 : Cr.Cl l.prog w K mg base "kinds_in_tuple" ["kind"] 1 (spF K A0 D_kit) := ⟨_, _, ok_kinds_in_tuple T F_kinds_in_tuple, b_kinds_in_tuple, F_kinds_in_tuple.kp, m_kinds_in_tuple⟩
  have c_kil0 : Cr.Cl l.prog w K mg base "kind_in_list" ["kind"] 1 (spF K A0 D_kil) := ⟨_, _, ok_kind_in_list T F_kind_in_list, b_kind_in_list, F_kind_in_list.kp, m_kind_in_list⟩
  have c_fits0 : Cr.Cl l.prog w K mg base "fits" ["condition", "kind"] 21 (spFits K 10) := ⟨_, _, rec_fits T F_fits b_fits m_fits F__fits_item b__fits_item m__fits_item F__fits_list b__fits_list m__fits_list (clImp c_word0 word_sp) (clImp c_kit0 kit_sp) (clImp c_kil0 kil_sp) 10, b_fits, F_fits.kp, m_fits⟩
  have c_fits : Cr.Cl l.prog w K mg base "fits" ["condition", "kind"] 21 (spF K AT D_fits) := clImp c_fits0 fits_sp
  have c__fault_itself : Cr.Cl l.prog w K mg base "_fault_itself" ["generator", "kinds"] 22 (spF K AT ((D_fault D_fits))) := ⟨_, _, ok__fault_itself (L := 21) T F__fault_itself (clMono c__are_right_words (by decide)) (clMono c_fits (by decide)) (clMono c_kind_behind (by decide)), b__fault_itself, F__fault_itself.kp, m__fault_itself⟩
  have c__kind_made : Cr.Cl l.prog w K mg base "_kind_made" ["generator", "kinds"] 3 (spF K AT (D_made)) := ⟨_, _, ok__kind_made (L := 2) T F__kind_made (clMono c_kind_behind (by decide)), b__kind_made, F__kind_made.kp, m__kind_made⟩
  let EE : ET := fun c => if c = 0 then (x_GeneratorError, "what", "path") else (x_MachineError, "what", "place")
  have EG : ErrM l.prog w K mg base "GeneratorError" (EE 0).1 (EE 0).2.1 (EE 0).2.2 (tfP K) := E_GeneratorError base
  have EM : ErrM l.prog w K mg base "MachineError" (EE 1).1 (EE 1).2.1 (EE 1).2.2 (tfW K) := E_MachineError base
  have cx__kind_at : ClX l.prog w K mg base "_kind_at" ["generator", "path"] 32 (spX K A0 EE (D_katA D_fits 10)) := ⟨_, _, rec_katA (L := 22) (by decide) T EG F__kind_at b__kind_at m__kind_at (clMono c_parts_in (by decide)) (clMono c__fault_itself (by decide)) (clMono c__kind_made (by decide)) 10, b__kind_at, F__kind_at.kp, m__kind_at⟩
  have cx_kind_of : ClX l.prog w K mg base "kind_of" ["generator"] 33 (spX K A0 EE D_kofM) := ⟨_, _, okx_kind_of (L := 32) (by decide) T F_kind_of cx__kind_at, b_kind_of, F_kind_of.kp, m_kind_of⟩
  have c__makes_integers : Cr.Cl l.prog w K mg base "_makes_integers" ["generator"] 34 (spF K A0 D_mki) := ⟨_, _, okx__makes_integers (L := 33) T EG F__makes_integers cx_kind_of, b__makes_integers, F__makes_integers.kp, m__makes_integers⟩
  have c__fault_in : Cr.Cl l.prog w K mg base "_fault_in" ["command", "names"] 35 (spF K A0 D_flt) := ⟨_, _, ok__fault_in (L := 34) T F__fault_in (clMono c_is_word (by decide)) (clMono c_fits (by decide)) c__makes_integers, b__fault_in, F__fault_in.kp, m__fault_in⟩
  have cx_machine : ClX l.prog w K mg base "machine" ["first", "commands", "most"] 36 (spX K A0 EE D_mac) := ⟨_, _, okx_machine (L := 35) (by decide) T EM F_machine c__fault_in, b_machine, F_machine.kp, m_machine⟩
  have c__law_told : Cr.Cl l.prog w K mg base "_law_told" ["first", "commands", "most"] 37 (spF K A0 D_told) := ⟨_, _, okx__law_told (L := 36) T EM XF_MachineError rfl h_ChoiceError xe_MachineError XC_MachineError yk_MachineError F__law_told cx_machine, b__law_told, F__law_told.kp, m__law_told⟩
  have c__law_draw : Cr.Cl l.prog w K mg base "_law_draw" ["script", "k", "sizes"] 2 (spDrawB K) := ⟨_, _, ok__law_draw T F__law_draw ⟨_, _, ok__law_cell T F__law_cell, b__law_cell, F__law_cell.kp, m__law_cell⟩, b__law_draw, F__law_draw.kp, m__law_draw⟩
  have c__law_about : Cr.Cl l.prog w K mg base "_law_about" ["digits"] 1 (spF K A0 (D_abt)) := ⟨_, _, ok__law_about (L := 0) T F__law_about , b__law_about, F__law_about.kp, m__law_about⟩
  have c__law_commands : Cr.Cl l.prog w K mg base "_law_commands" ["script", "k"] 3 (spWF K W_cmds) := ⟨_, _, ok__law_commands (L := 2) T F__law_commands (clMono c__law_draw (by decide)) (clMono c__law_about (by decide)), b__law_commands, F__law_commands.kp, m__law_commands⟩
  have c__law_machine : Cr.Cl l.prog w K mg base "_law_machine" ["script", "k"] 4 (spWF K W_mach) := ⟨_, _, ok__law_machine (L := 3) T F__law_machine (clMono c__law_draw (by decide)) (clMono c__law_commands (by decide)), b__law_machine, F__law_machine.kp, m__law_machine⟩
  have c__law_due : Cr.Cl l.prog w K mg base "_law_due" ["first", "commands", "most"] 1 (spF K A0 (D_due)) := ⟨_, _, ok__law_due (L := 0) T F__law_due , b__law_due, F__law_due.kp, m__law_due⟩
  exact ok_law (L := 37) T F_law (clMono c__law_machine (by decide)) (clMono c__law_told (by decide)) (clMono c__law_due (by decide)) (clMono c__law_draw (by decide)) (hw55) (ht55)
end K55
open PySem PySem.W PyProof.Rows
set_option maxHeartbeats 0 in
theorem PySem.Challenge.cw_choicerows_k55_machines_made_holds : PySem.Challenge.rw_choicerows_k55_machines_made.Holds := by
  w_on; o_law; k_head; (case hw => w_witness2)
  k_fill
  refine L2.walk_of (l := PySem.Challenge.rw_choicerows_k55_machines_made) (n := 63) (k := 38) (x := "script") (CX := fun _ => L2.CX0) (sp := fun w => Cr.spLaw _) rfl (by decide) rfl ⟨rfl, by decide, by decide⟩ (fun w h Y => PySem.W.kIn_of Y) ?F (fun _ _ a ns hl _ hS => ⟨a, ns, rfl, hS, hl, fun _ => rfl⟩) (fun _ _ _ _ _ h => h)
  case F =>
    intro w mg fa h KX G hmg
    refine' K55.all_mk KX G hmg ?a1 ?l1 ?c1 ?k1 ?a2 ?l2 ?c2 ?k2 ?a3 ?l3 ?c3 ?k3 ?a4 ?l4 ?c4 ?k4 ?a5 ?l5 ?c5 ?k5 ?a6 ?l6 ?c6 ?k6 ?a7 ?l7 ?c7 ?k7 ?a8 ?l8 ?c8 ?k8 ?a9 ?l9 ?c9 ?k9 ?a10 ?l10 ?c10 ?k10 ?a11 ?l11 ?c11 ?k11 ?a12 ?l12 ?c12 ?k12 ?a13 ?l13 ?c13 ?k13 ?a14 ?l14 ?c14 ?k14 ?a15 ?l15 ?c15 ?k15 ?a16 ?l16 ?c16 ?k16 ?a17 ?l17 ?c17 ?k17 ?a18 ?l18 ?c18 ?k18 ?a19 ?l19 ?c19 ?k19 ?a20 ?l20 ?c20 ?k20 ?a21 ?l21 ?c21 ?k21 ?a22 ?l22 ?c22 ?k22 ?a23 ?l23 ?c23 ?k23 ?a24 ?l24 ?c24 ?k24 ?z_len ?z_all ?z_any ?z_isinstance ?z_tuple ?z_list ?z_int ?z_str ?z_bool ?z_range ?z_zip ?z_enumerate ?z_sum ?z_sorted ?z_min ?z_max ?z_set ?z_repr ?m_GREAT ?m_WORDS ?m_LETTERS ?m_ITEMS ?m_LONG ?m_DIVISOR ?m_COMMANDS ?e_ChoiceError ?e_GeneratorError ?ei_GeneratorError ?el_GeneratorError ?ec_GeneratorError ?et_GeneratorError ?en_GeneratorError ?em_GeneratorError ?eo_GeneratorError ?er_GeneratorError ?ex_GeneratorError ?e_MachineError ?ei_MachineError ?el_MachineError ?ec_MachineError ?et_MachineError ?en_MachineError ?em_MachineError ?eo_MachineError ?er_MachineError ?ex_MachineError ?xa_MachineError ?xb_MachineError ?xc_MachineError ?xd_MachineError ?xe_MachineError ?ya_MachineError ?yb_MachineError ?yc_MachineError ?yd_MachineError ?yk_MachineError ?e_super
    (case a1 => k_is)
    (case l1 => k_is)
    (case c1 => k_is)
    (case k1 => k_is)
    (case a2 => k_is)
    (case l2 => k_is)
    (case c2 => k_is)
    (case k2 => k_is)
    (case a3 => k_is)
    (case l3 => k_is)
    (case c3 => k_is)
    (case k3 => k_is)
    (case a4 => k_is)
    (case l4 => k_is)
    (case c4 => k_is)
    (case k4 => k_is)
    (case a5 => k_is)
    (case l5 => k_is)
    (case c5 => k_is)
    (case k5 => k_is)
    (case a6 => k_is)
    (case l6 => k_is)
    (case c6 => k_is)
    (case k6 => k_is)
    (case a7 => k_is)
    (case l7 => k_is)
    (case c7 => k_is)
    (case k7 => k_is)
    (case a8 => k_is)
    (case l8 => k_is)
    (case c8 => k_is)
    (case k8 => k_is)
    (case a9 => k_is)
    (case l9 => k_is)
    (case c9 => k_is)
    (case k9 => k_is)
    (case a10 => k_is)
    (case l10 => k_is)
    (case c10 => k_is)
    (case k10 => k_is)
    (case a11 => k_is)
    (case l11 => k_is)
    (case c11 => k_is)
    (case k11 => k_is)
    (case a12 => k_is)
    (case l12 => k_is)
    (case c12 => k_is)
    (case k12 => k_is)
    (case a13 => k_is)
    (case l13 => k_is)
    (case c13 => k_is)
    (case k13 => k_is)
    (case a14 => k_is)
    (case l14 => k_is)
    (case c14 => k_is)
    (case k14 => k_is)
    (case a15 => k_is)
    (case l15 => k_is)
    (case c15 => k_is)
    (case k15 => k_is)
    (case a16 => k_is)
    (case l16 => k_is)
    (case c16 => k_is)
    (case k16 => k_is)
    (case a17 => k_is)
    (case l17 => k_is)
    (case c17 => k_is)
    (case k17 => k_is)
    (case a18 => k_is)
    (case l18 => k_is)
    (case c18 => k_is)
    (case k18 => k_is)
    (case a19 => k_is)
    (case l19 => k_is)
    (case c19 => k_is)
    (case k19 => k_is)
    (case a20 => k_is)
    (case l20 => k_is)
    (case c20 => k_is)
    (case k20 => k_is)
    (case a21 => k_is)
    (case l21 => k_is)
    (case c21 => k_is)
    (case k21 => k_is)
    (case a22 => k_is)
    (case l22 => k_is)
    (case c22 => k_is)
    (case k22 => k_is)
    (case a23 => k_is)
    (case l23 => k_is)
    (case c23 => k_is)
    (case k23 => k_is)
    (case a24 => k_is)
    (case l24 => k_is)
    (case c24 => k_is)
    (case k24 => k_is)
    (case z_len => k_is)
    (case z_all => k_is)
    (case z_any => k_is)
    (case z_isinstance => k_is)
    (case z_tuple => k_is)
    (case z_list => k_is)
    (case z_int => k_is)
    (case z_str => k_is)
    (case z_bool => k_is)
    (case z_range => k_is)
    (case z_zip => k_is)
    (case z_enumerate => k_is)
    (case z_sum => k_is)
    (case z_sorted => k_is)
    (case z_min => k_is)
    (case z_max => k_is)
    (case z_set => k_is)
    (case z_repr => k_is)
    (case m_GREAT => k_is)
    (case m_WORDS => k_is)
    (case m_LETTERS => k_is)
    (case m_ITEMS => k_is)
    (case m_LONG => k_is)
    (case m_DIVISOR => k_is)
    (case m_COMMANDS => k_is)
    (case e_ChoiceError => k_is)
    (case e_GeneratorError => k_is)
    (case ei_GeneratorError => k_is)
    (case el_GeneratorError => k_is)
    (case ec_GeneratorError => k_is)
    (case et_GeneratorError => k_is)
    (case en_GeneratorError => k_is)
    (case em_GeneratorError => k_is)
    (case eo_GeneratorError => (refine' Sm.oex_mk ?o1 ?o2 ?o3 ?o4 ?o5 ?o6; (case o1 => k_is); (case o2 => exact rfl); (case o3 => k_is); (case o4 => k_is); (case o5 => k_is); (case o6 => k_is)))
    (case er_GeneratorError => (refine' Sm.errc_mk ?r1 ?r2 ?r3 ?r4 ?r5 ?r6 ?r7 ?r8 ?r9 ?r10 ?r11 ?r12 ?r13; (case r1 => k_is); (case r2 => exact rfl); (case r3 => exact rfl); (case r4 => k_is); (case r5 => exact rfl); (case r6 => exact rfl); (case r7 => k_is); (case r8 => k_is); (case r9 => k_is); (case r10 => exact rfl); (case r11 => k_is); (case r12 => k_is); (case r13 => exact rfl)))
    (case ex_GeneratorError => exact rfl)
    (case e_MachineError => k_is)
    (case ei_MachineError => k_is)
    (case el_MachineError => k_is)
    (case ec_MachineError => k_is)
    (case et_MachineError => k_is)
    (case en_MachineError => k_is)
    (case em_MachineError => k_is)
    (case eo_MachineError => (refine' Sm.oex_mk ?o1 ?o2 ?o3 ?o4 ?o5 ?o6; (case o1 => k_is); (case o2 => exact rfl); (case o3 => k_is); (case o4 => k_is); (case o5 => k_is); (case o6 => k_is)))
    (case er_MachineError => (refine' Sm.errc_mk ?r1 ?r2 ?r3 ?r4 ?r5 ?r6 ?r7 ?r8 ?r9 ?r10 ?r11 ?r12 ?r13; (case r1 => k_is); (case r2 => exact rfl); (case r3 => exact rfl); (case r4 => k_is); (case r5 => exact rfl); (case r6 => exact rfl); (case r7 => k_is); (case r8 => k_is); (case r9 => k_is); (case r10 => exact rfl); (case r11 => k_is); (case r12 => k_is); (case r13 => exact rfl)))
    (case ex_MachineError => exact rfl)
    (case xa_MachineError => k_is)
    (case xb_MachineError => k_is)
    (case xc_MachineError => k_is)
    (case xd_MachineError => k_is)
    (case xe_MachineError => exact rfl)
    (case ya_MachineError => k_is)
    (case yb_MachineError => k_is)
    (case yc_MachineError => k_is)
    (case yd_MachineError => k_is)
    (case yk_MachineError => exact rfl)
    (case e_super => k_is)
