import PyProof.Rows.All
import Wide.All
import OpenK.AllK
import Wide.FinOn
import HandS.ForMost
import HandS.IsInst
import HandS.Zip
import HandS.Walk
import HandS.Evl
import HandS.TupAny
import KE.GoesMore
import KE.DataMinMax
import PyProof.P3In
import KE.KRevSl
import HandS.Style
import KE.SortData
import KE.KeyNested
import KE.KDictKeyed
import HandS.Wide
import HandS.Text
import HandS.FStr
import HandS.Deep
import HandS.Star
import KE.DataCmp
import KE.KSortedM
import HandS.Strs
import HandS.Iter
import HandS.Conv
import HandS.More
import KE.SortKeyHeap
import HandS.SortKw
import PySem.Challenge.RW_choicerows_k21_orders_of_rows
set_option Elab.async false
set_option linter.all false
set_option maxRecDepth 100000
set_option maxHeartbeats 4000000
set_option autoImplicit false
namespace Cr
open PySem PySem.Spec PyProof.Rows L2 Evl

/-! ### data in the heap: ints, texts, tuples -/
/-- tuples that can be read stay so -/
def Kt (K : PySem.W.Frag) (H H' : Hp) : Prop := ∀ a xs, SqT K H a xs → SqT K H' a xs
section
variable {K : PySem.W.Frag} {H H1 H2 H' : Hp}
theorem Kt.refl : Kt K H H := fun _ _ h => h
theorem Kt.trans (a : Kt K H H1) (b : Kt K H1 H2) : Kt K H H2 := fun p xs h => b p xs (a p xs h)
theorem Kt.same (e : Same H H') : Kt K H H' := fun _ _ h => ex_t e h
theorem same_new {p : Addr} {o : HO} (h : H p = none) : Same H (upd H p o) := Ex.new h
theorem same_mut {p : Addr} {o : HO} (e : Same H H') (h : H p = none) : Same H (upd H' p o) := Ex.mut e h
theorem Kt.new {p : Addr} {o : HO} (h : H p = none) : Kt K H (upd H p o) := Kt.same (same_new h)
/-- a list is changed -/
theorem Kt.lst {l : Addr} {xs : List V} {o : HO} (h : H l = some (.lst xs)) : Kt K H (upd H l o) := fun a ys q => by
  rcases q with (q | ⟨ob, q⟩) | q
  · exact .inl (.inl (by rw [upd_ne (ne_of q h (fun z => nomatch z))]; exact q))
  · exact .inl (.inr ⟨ob, by rw [upd_ne (ne_of q h (fun z => nomatch z))]; exact q⟩)
  · exact .inr q
end

inductive Vd (K : PySem.W.Frag) (H : Hp) : V → PyData → Prop
  | int (i : Int) : Vd K H (.int i) (.int i)
  | str (x : Str) : Vd K H (.str x) (.str x)
  | tup {a : Addr} {xs : List V} {ds : List PyData} : SqT K H a xs → xs.length = ds.length → (∀ (i : Nat) v d, xs[i]? = some v → ds[i]? = some d → Vd K H v d) → Vd K H (.ref a) (.tuple ds)
section
variable {K : PySem.W.Frag} {H H' : Hp}
theorem Vd.keep (k : Kt K H H') {v : V} {d : PyData} (h : Vd K H v d) : Vd K H' v d := by
  induction h with
  | int i => exact .int i
  | str x => exact .str x
  | tup hs hl _ ih => exact .tup (k _ _ hs) hl ih
theorem dpAll_of : ∀ {xs : List V} {ds : List PyData}, xs.length = ds.length → (∀ (i : Nat) v d, xs[i]? = some v → ds[i]? = some d → Dp K H v d) → DpAll K H xs ds
  | [], [], _, _ => .nil
  | [], _ :: _, h, _ => by simp at h
  | _ :: _, [], h, _ => by simp at h
  | x :: xs, d :: ds, h, q => .cons (q 0 x d rfl rfl) (dpAll_of (by simpa using h) fun i v e h1 h2 => q (i + 1) v e (by simpa using h1) (by simpa using h2))
theorem Vd.dp {v : V} {d : PyData} (h : Vd K H v d) : Dp K H v d := by
  induction h with
  | int i => exact .int i
  | str x => exact .str x
  | tup hs hl _ ih => exact .tup hs (dpAll_of hl ih)
theorem Vd.get {a : Addr} {ds : List PyData} (h : Vd K H (.ref a) (.tuple ds)) : ∃ xs, SqT K H a xs ∧ xs.length = ds.length ∧ ∀ (i : Nat) v d, xs[i]? = some v → ds[i]? = some d → Vd K H v d := by
  cases h with
  | tup hs hl q => exact ⟨_, hs, hl, q⟩
theorem Vd.ref {v : V} {ds : List PyData} (h : Vd K H v (.tuple ds)) : ∃ a, v = .ref a := by
  cases h with
  | tup hs hl q => exact ⟨_, rfl⟩
theorem Vd.int_inv {v : V} {i : Int} (h : Vd K H v (.int i)) : v = .int i := by cases h; rfl
theorem Vd.str_inv {v : V} {x : Str} (h : Vd K H v (.str x)) : v = .str x := by cases h; rfl
/-- a tuple of one, of two -/
theorem Vd.t0 {p : Addr} (h : SqT K H p []) : Vd K H (.ref p) (.tuple []) := .tup h rfl fun i v d h1 _ => by simp at h1
theorem Vd.t1 {p : Addr} {x : V} {d : PyData} (h : SqT K H p [x]) (hx : Vd K H x d) : Vd K H (.ref p) (.tuple [d]) := .tup h rfl fun i v e h1 h2 => by
  match i with
  | 0 => cases h1; cases h2; exact hx
  | i + 1 => simp at h1
theorem Vd.t2 {p : Addr} {x y : V} {d e : PyData} (h : SqT K H p [x, y]) (hx : Vd K H x d) (hy : Vd K H y e) : Vd K H (.ref p) (.tuple [d, e]) := .tup h rfl fun i v e h1 h2 => by
  match i with
  | 0 => cases h1; cases h2; exact hx
  | 1 => cases h1; cases h2; exact hy
  | i + 2 => simp at h1
theorem Vd.t3 {p : Addr} {x y z : V} {d e f : PyData} (h : SqT K H p [x, y, z]) (hx : Vd K H x d) (hy : Vd K H y e) (hz : Vd K H z f) : Vd K H (.ref p) (.tuple [d, e, f]) := .tup h rfl fun i v e h1 h2 => by
  match i with
  | 0 => cases h1; cases h2; exact hx
  | 1 => cases h1; cases h2; exact hy
  | 2 => cases h1; cases h2; exact hz
  | i + 3 => simp at h1
theorem Vd.g1 {v : V} {d : PyData} (h : Vd K H v (.tuple [d])) : ∃ a x, v = .ref a ∧ SqT K H a [x] ∧ Vd K H x d := by
  obtain ⟨a, rfl⟩ := h.ref
  obtain ⟨xs, hs, hl, q⟩ := h.get
  match xs, hl with
  | [x], _ => exact ⟨a, x, rfl, hs, q 0 x d rfl rfl⟩
theorem Vd.g2 {v : V} {d e : PyData} (h : Vd K H v (.tuple [d, e])) : ∃ a x y, v = .ref a ∧ SqT K H a [x, y] ∧ Vd K H x d ∧ Vd K H y e := by
  obtain ⟨a, rfl⟩ := h.ref
  obtain ⟨xs, hs, hl, q⟩ := h.get
  match xs, hl with
  | [x, y], _ => exact ⟨a, x, y, rfl, hs, q 0 x d rfl rfl, q 1 y e rfl rfl⟩
theorem Vd.g3 {v : V} {d e f : PyData} (h : Vd K H v (.tuple [d, e, f])) : ∃ a x y z, v = .ref a ∧ SqT K H a [x, y, z] ∧ Vd K H x d ∧ Vd K H y e ∧ Vd K H z f := by
  obtain ⟨a, rfl⟩ := h.ref
  obtain ⟨xs, hs, hl, q⟩ := h.get
  match xs, hl with
  | [x, y, z], _ => exact ⟨a, x, y, z, rfl, hs, q 0 x d rfl rfl, q 1 y e rfl rfl, q 2 z f rfl rfl⟩
/-- the value's type, for isinstance -/
def tyN : PyData → String
  | .int _ => "int"
  | .str _ => "str"
  | _ => "tuple"
theorem Vd.ty {v : V} {d : PyData} (h : Vd K H v d) : TyX K H v (.type (tyN d)) := by
  cases h with
  | int i => exact .base (.int i)
  | str x => exact .base (.str x)
  | tup hs hl q =>
    rcases hs with (hs | ⟨o, hs⟩) | ⟨o, its, n, hk, hc, _⟩
    · exact .base (.tup hs)
    · exact .fTuple hs
    · exact .kTuple hk hc
end
/-! ### how deep and how long -/
inductive Dk : Nat → PyData → Prop
  | int {n : Nat} (i : Int) : Dk n (.int i)
  | str {n : Nat} {x : Str} : SeqAt.shaped (.str x) = true → x.length ≤ 1000 → Dk n (.str x)
  | tup {n : Nat} {ds : List PyData} : ds.length ≤ 60 → (∀ d ∈ ds, Dk n d) → Dk (n + 1) (.tuple ds)
theorem lay_all : ∀ {ds : List PyData}, (∀ d ∈ ds, d.canLay0 = true) → PyData.canLayAll0 ds = true
  | [], _ => rfl
  | d :: ds, h => by
    unfold PyData.canLayAll0
    rw [h d List.mem_cons_self, lay_all fun e he => h e (List.mem_cons_of_mem _ he)]
    rfl
theorem depth_all {n : Nat} : ∀ {ds : List PyData}, (∀ d ∈ ds, d.depth ≤ n) → PyData.depthAll ds ≤ n
  | [], _ => Nat.zero_le _
  | d :: ds, h => by
    unfold PyData.depthAll
    exact Nat.max_le.mpr ⟨h d List.mem_cons_self, depth_all fun e he => h e (List.mem_cons_of_mem _ he)⟩
theorem Dk.lay {n : Nat} {d : PyData} (h : Dk n d) : d.canLay0 = true ∧ d.depth ≤ n := by
  induction h with
  | int i => exact ⟨rfl, Nat.zero_le _⟩
  | str hs _ => exact ⟨SeqAt.canLay_of_shaped hs, Nat.zero_le _⟩
  | tup _ _ ih => exact ⟨lay_all fun d hd => (ih d hd).1, Nat.succ_le_succ (depth_all fun d hd => (ih d hd).2)⟩
theorem Dk.shaped {n : Nat} {d : PyData} (h : Dk n d) (hn : n ≤ 64) : SeqAt.shaped d = true := by
  unfold SeqAt.shaped
  rw [h.lay.1, decide_eq_true (Nat.le_trans h.lay.2 hn)]
  rfl
theorem Dk.mono {n m : Nat} {d : PyData} (h : Dk n d) (hm : n ≤ m) : Dk m d := by
  induction h generalizing m with
  | int i => exact .int i
  | str hs hl => exact .str hs hl
  | tup hl _ ih =>
    obtain ⟨m', rfl⟩ : ∃ m', m = m' + 1 := ⟨m - 1, by omega⟩
    exact .tup hl fun d hd => ih d hd (by omega)
/-! ### words -/
def isWord (s : Str) : Bool := (decide ((1 : Int) ≤ (s.length : Int)) && decide ((s.length : Int) ≤ 8)) && s.cps.toList.all fun c => decide (97 ≤ c) && decide (c ≤ 122)
theorem lt_sign (a b : Nat) : decide ([a] < [b]) = decide (a < b) := by
  rw [Bool.eq_iff_iff, decide_eq_true_iff, decide_eq_true_iff, List.cons_lt_cons_iff]
  constructor
  · rintro (h | ⟨_, h⟩)
    · exact h
    · exact absurd h (List.not_lt_nil _)
  · exact fun h => .inl h
/-! ### kinds -/
inductive Kd where
  | int | word | lst (k : Kd) | tup (ks : List Kd)
mutual
def Kd.data : Kd → PyData
  | .int => .str "int"
  | .word => .str "word"
  | .lst k => .tuple [.str "list", k.data]
  | .tup ks => .tuple [.str "tuple", .tuple (dataAll ks)]
def dataAll : List Kd → List PyData
  | [] => []
  | k :: ks => k.data :: dataAll ks
end
theorem dataAll_map : ∀ ks : List Kd, dataAll ks = ks.map Kd.data
  | [] => by rw [dataAll]; rfl
  | k :: ks => by rw [dataAll, dataAll_map ks]; rfl
mutual
def isk : Kd → PyData → Bool
  | .int, d => match d with | .int _ => true | _ => false
  | .word, d => match d with | .str s => isWord s | _ => false
  | .lst k, d => match d with | .tuple ds => ds.all (isk k) | _ => false
  | .tup ks, d => match d with | .tuple ds => iskAll ks ds | _ => false
def iskAll : List Kd → List PyData → Bool
  | [], ds => match ds with | [] => true | _ => false
  | k :: ks, ds => match ds with | [] => false | d :: ds => isk k d && iskAll ks ds
end
inductive OkK : Nat → Kd → Prop
  | int {n : Nat} : OkK (n + 1) .int
  | word {n : Nat} : OkK (n + 1) .word
  | lst {n : Nat} {k : Kd} : OkK n k → OkK (n + 1) (.lst k)
  | tup {n : Nat} {ks : List Kd} : ks.length ≤ 60 → (∀ k ∈ ks, OkK n k) → OkK (n + 1) (.tup ks)
theorem dk_str {n : Nat} {x : Str} (h : SeqAt.shaped (.str x) = true := by decide +kernel) (hl : x.length ≤ 1000 := by decide +kernel) : Dk n (.str x) := .str h hl
theorem dk_t2 {n : Nat} {a b : PyData} (ha : Dk n a) (hb : Dk n b) : Dk (n + 1) (.tuple [a, b]) := .tup (show 2 ≤ 60 by decide) fun d hd => by
  rcases List.mem_cons.mp hd with rfl | hd
  · exact ha
  · rcases List.mem_cons.mp hd with rfl | hd
    · exact hb
    · cases hd
theorem OkK.dk {n : Nat} {k : Kd} (h : OkK n k) : Dk (2 * n) k.data := by
  induction h with
  | int => rw [Kd.data]; exact dk_str
  | word => rw [Kd.data]; exact dk_str
  | lst _ ih => rw [Kd.data]; exact (dk_t2 dk_str (ih.mono (Nat.le_succ _)))
  | tup hl _ ih =>
    rw [Kd.data, dataAll_map]
    refine dk_t2 dk_str (.tup (by rw [List.length_map]; exact hl) fun d hd => ?_)
    obtain ⟨k, hk, rfl⟩ := List.mem_map.mp hd
    exact ih k hk
theorem OkK.mono {n m : Nat} {k : Kd} (h : OkK n k) (hm : n ≤ m) : OkK m k := by
  induction h generalizing m with
  | int => obtain ⟨m', rfl⟩ : ∃ m', m = m' + 1 := ⟨m - 1, by omega⟩; exact .int
  | word => obtain ⟨m', rfl⟩ : ∃ m', m = m' + 1 := ⟨m - 1, by omega⟩; exact .word
  | lst _ ih => obtain ⟨m', rfl⟩ : ∃ m', m = m' + 1 := ⟨m - 1, by omega⟩; exact .lst (ih (by omega))
  | tup hl _ ih => obtain ⟨m', rfl⟩ : ∃ m', m = m' + 1 := ⟨m - 1, by omega⟩; exact .tup hl fun k hk => ih k hk (by omega)
/-- the callee: where it stands, its promise -/
structure Cl (P : Program) (w : World) (K : PySem.W.Frag) (mg : Str → Option Value) (base : Heap) (x : Str) (ps : List Str) (k : Nat) (sp : Sp) where
  f : Addr
  fd : FuncData
  ok : FnOk P w K mg base CX0 k f fd ps sp
  b : Binds K fd ps []
  kp : PySem.W.keepIn K (.ref f) = true
  m : mg x = some (.ref f)
theorem no_call {P : Program} {w : World} {K : PySem.W.Frag} {mg : Str → Option Value} {base : Heap} {k : Nat} {f : Addr} {fd : FuncData} {ps : List Str} {sp : Sp} (no : ∀ vs H Q E, ¬ sp vs H Q E) : FnOk P w K mg base CX0 k f fd ps sp :=
  ⟨fun vs H Q E h => absurd h (no vs H Q E), fun A outer s H args us vs Q E _ _ _ _ h => absurd h (no vs H Q E)⟩
/-! ### further rules of evaluation -/
section
variable {K : PySem.W.Frag} {σ : L2.St} {H H' : Hp} {ta tb tc te tx : TE} {t u : TT} {x y z v w : V} {r r' : R2}
theorem ev_chain {k k' : Bool} (ha : Ev ta σ H x) (hb : Ev tb σ H y) (hc : Ev tc σ H w) (hr : RV r x y H (.bl k)) (hr' : RV r' y w H (.bl k')) : Ev (tChain r r' ta tb tc) σ H (.bl (k && k')) := fun H1 e Q q =>
  ha H1 e _ fun H2 e2 => hb H2 (e.trans e2) _ fun H3 e3 => hr H3 ((e.trans e2).trans e3) _ fun H4 e4 => ⟨k, rfl, by
    cases k with
    | true => exact hc H4 (((e.trans e2).trans e3).trans e4) _ fun H5 e5 => hr' H5 ((((e.trans e2).trans e3).trans e4).trans e5) Q fun H6 e6 => q H6 ((((e2.trans e3).trans e4).trans e5).trans e6)
    | false => exact q H4 ((e2.trans e3).trans e4)⟩
theorem ev_one {v : V} (h : Ev ta σ H v) : Ev ta σ H v := h
theorem et_yes : EvT tYes σ H true := fun H1 _ _ q => q H1 (Ex.refl H1)
theorem ev_all {bs : List Bool} (h : EvL te σ H (bs.map V.bl)) : Ev (tCB (rAll K) (tCons te tNil)) σ H (.bl (bs.all id)) := fun H1 e Q q =>
  h H1 e _ fun p H2 _ e2 hp => ⟨p, bs, rfl, sq_of hp, q H2 e2⟩
theorem ev_any {bs : List Bool} (h : EvL te σ H (bs.map V.bl)) : Ev (tCB (rAny K) (tCons te tNil)) σ H (.bl (bs.any id)) := fun H1 e Q q =>
  h H1 e _ fun p H2 _ e2 hp => ⟨p, bs, rfl, sq_of hp, q H2 e2⟩
/-- isinstance of data and a built-in class -/
theorem ev_isi {d : PyData} {n : String} {b : Bool} (ha : Ev ta σ H v) (hb : Ev tb σ H (.ty n)) (h : Vd K H v d) (hk : kitB (tyN d) n = some b) : Ev (tCB (rIsi K) (tCons ta (tCons tb tNil))) σ H (.bl b) := fun H1 e Q q =>
  ha H1 e _ fun H2 e2 => hb H2 (e.trans e2) _ fun H3 e3 => ⟨v, .ty n, _, _, b, rfl, .ty n, (h.keep (Kt.same ((e.trans e2).trans e3))).ty, kit_ty hk, q H3 (e2.trans e3)⟩
theorem ev_isiB {c : Bool} {n : String} {b : Bool} (ha : Ev ta σ H (.bl c)) (hb : Ev tb σ H (.ty n)) (hk : kitB "bool" n = some b) : Ev (tCB (rIsi K) (tCons ta (tCons tb tNil))) σ H (.bl b) := fun H1 e Q q =>
  ha H1 e _ fun H2 e2 => hb H2 (e.trans e2) _ fun H3 e3 => ⟨.bl c, .ty n, _, _, b, rfl, .ty n, .base (.bl c), kit_ty hk, q H3 (e2.trans e3)⟩
theorem rv_eqD {d e : PyData} (hx : Vd K H x d) (hy : Vd K H y e) (sd : SeqAt.shaped d = true) (se : SeqAt.shaped e = true) : RV (rEqD K) x y H (.bl (PyData.eqv d e)) := fun H1 e1 _ q =>
  ⟨d, e, (hx.keep (Kt.same e1)).dp, (hy.keep (Kt.same e1)).dp, sd, se, q H1 (Ex.refl H1)⟩
theorem rv_neD {d e : PyData} (hx : Vd K H x d) (hy : Vd K H y e) (sd : SeqAt.shaped d = true) (se : SeqAt.shaped e = true) : RV (rNeD K) x y H (.bl (!PyData.eqv d e)) := fun H1 e1 _ q =>
  ⟨d, e, (hx.keep (Kt.same e1)).dp, (hy.keep (Kt.same e1)).dp, sd, se, q H1 (Ex.refl H1)⟩
theorem rv_leS {i j : Str} : RV (fun x y H Q => ∃ i j, x = .str i ∧ y = .str j ∧ Q (.bl (!decide (j.cps.toList < i.cps.toList))) H) (.str i) (.str j) H (.bl (!decide (j.cps.toList < i.cps.toList))) := fun H1 _ _ q => ⟨i, j, rfl, rfl, q H1 (Ex.refl H1)⟩
theorem rv_notN : RV (fun x y H Q => y = .non ∧ Q (.bl (!decide (x = .non))) H) x .non H (.bl (!decide (x = .non))) := fun H1 _ _ q => ⟨rfl, q H1 (Ex.refl H1)⟩
theorem ev_lenS {s : Str} (hs : s.length ≤ 1000) (ha : Ev ta σ H (.str s)) : Ev (tCB (fun xs H Q => ∃ z, xs = [.str z] ∧ z.length ≤ sizeLine ∧ Q (.int z.length) H) (tCons ta tNil)) σ H (.int s.length) := fun H1 e Q q =>
  ha H1 e _ fun H2 e2 => ⟨s, rfl, Nat.le_of_lt (small1000 hs), q H2 e2⟩
theorem ev_lenT {p : Addr} {xs : List V} (ha : Ev ta σ H (.ref p)) (h : SqT K H p xs) : Ev (tCB (fun xs H Q => ∃ p ys, xs = [.ref p] ∧ (SqL K H p ys ∨ SqT K H p ys) ∧ Q (.int ys.length) H) (tCons ta tNil)) σ H (.int (xs.length : Int)) := fun H1 e Q q =>
  ha H1 e _ fun H2 e2 => ⟨p, xs, rfl, .inr (ex_t (e.trans e2) h), q H2 e2⟩
theorem ev_lenL {p : Addr} {xs : List V} (ha : Ev ta σ H (.ref p)) (h : SqL K H p xs) : Ev (tCB (fun xs H Q => ∃ p ys, xs = [.ref p] ∧ (SqL K H p ys ∨ SqT K H p ys) ∧ Q (.int ys.length) H) (tCons ta tNil)) σ H (.int (xs.length : Int)) := fun H1 e Q q =>
  ha H1 e _ fun H2 e2 => ⟨p, xs, rfl, .inl (ex_l (e.trans e2) h), q H2 e2⟩
/-- an item of a tuple, at a written place -/
theorem ev_ixT {a : Addr} {xs : List V} {j : Nat} (ha : Ev ta σ H (.ref a)) (hb : Ev tb σ H (.int (j : Int))) (h : SqT K H a xs) (hv : xs[j]? = some v) : Ev (tOp (rIxT K) ta tb) σ H v := ev_op ha hb (rv_ixT h (atI_nat hv))
theorem ev_ixL {a : Addr} {xs : List V} {j : Nat} (ha : Ev ta σ H (.ref a)) (hb : Ev tb σ H (.int (j : Int))) (h : SqL K H a xs) (hv : xs[j]? = some v) : Ev (tOp (rIxL K) ta tb) σ H v := ev_op ha hb (rv_ixL h (atI_nat hv))
theorem given_all (n : Nat) (b : Nat → Bool) : given n (fun _ => true) (fun i => .bl (b i)) = ((List.range n).map b).map V.bl := by
  unfold given
  rw [List.filter_eq_self.mpr (fun _ _ => rfl), List.map_map]
  rfl
theorem el_is {xs ys : List V} (h : EvL te σ H xs) (e : xs = ys) : EvL te σ H ys := by
  rw [← e]
  exact h
/-- comprehensions over a tuple, over a text, over two tuples -/
theorem el_lcT {a : Addr} {xs : List V} {tl : TE} {j : Nat} {vs : List Nat} (f : Nat → Bool) (v : Nat → V) (h : Ev tl σ H (.ref a)) (hx : SqT K H a xs) (hz : xs.length ≤ 40000) (hw : ∀ x, wipe ((wipe σ vs).set j (some x)) vs = wipe σ vs)
    (ht : ∀ (i : Nat) (x : V) H1, Ex H H1 → xs[i]? = some x → EvT t ((wipe σ vs).set j (some x)) H1 (f i)) (he : ∀ (i : Nat) (x : V) H1, Ex H H1 → xs[i]? = some x → f i = true → Ev te ((wipe σ vs).set j (some x)) H1 (v i)) :
    EvL (tLc (iTup K tl) (gName j) t te vs) σ H (given xs.length f v) := fun H0 e Q q => h H0 e _ fun H1 e1 => ⟨a, rfl, ⟨xs, ex_t (e.trans e1) hx⟩, fun Dl hD =>
  lc_tup (xs := xs) (Cw H1 f v Dl) ⟨hD, Ex.new hD, upd_same⟩ (fun i H' _ p => ex_t ((e.trans e1).trans p.2.1) hx) (fun i x H' hi p => ⟨hw x, cw_turn p (by have := (List.getElem?_eq_some_iff.mp hi).1; omega) (ht i x H1 (e.trans e1) hi) (fun hf => he i x H1 (e.trans e1) hi hf)⟩)
    (fun H' p => q Dl H' (fresh_back e1 p.1) (e1.trans p.2.1) p.2.2)⟩
theorem el_lcS {s : Str} {tl : TE} {j : Nat} {vs : List Nat} (f : Nat → Bool) (v : Nat → V) (h : Ev tl σ H (.str s)) (hz : s.cps.size ≤ 40000) (hw : ∀ x, wipe ((wipe σ vs).set j (some x)) vs = wipe σ vs)
    (ht : ∀ (i c : Nat) H1, Ex H H1 → s.cps[i]? = some c → EvT t ((wipe σ vs).set j (some (.str ⟨#[c]⟩))) H1 (f i)) (he : ∀ (i c : Nat) H1, Ex H H1 → s.cps[i]? = some c → f i = true → Ev te ((wipe σ vs).set j (some (.str ⟨#[c]⟩))) H1 (v i)) :
    EvL (tLc (iStr tl) (gName j) t te vs) σ H (given s.cps.size f v) := fun H0 e Q q => h H0 e _ fun H1 e1 => ⟨s, rfl, fun Dl hD =>
  lc_it (walk_str (z := s)) (Cw H1 f v Dl) ⟨hD, Ex.new hD, upd_same⟩ (fun _ _ _ _ => True.intro) (fun i x H2 H' hi p y => by
    obtain ⟨rfl, c, hc, rfl⟩ := y
    exact ⟨hw _, cw_turn p (by omega) (ht i c H1 (e.trans e1) hc) (fun hf => he i c H1 (e.trans e1) hc hf)⟩)
    (fun H' p => q Dl H' (fresh_back e1 p.1) (e1.trans p.2.1) p.2.2)⟩
theorem walk_zipT {a b : Addr} {xs ys : List V} {n : Nat} (hn : n = min xs.length ys.length) : Walk (RZ.ItzT K a b) n (fun H => SqT K H a xs ∧ SqT K H b ys) (YPair (fun i => xs[i]?) (fun i => ys[i]?)) := by
  subst hn
  refine ⟨fun i _ hi q => ?_, fun _ q => ⟨xs, ys, q.1, q.2, by omega⟩, fun i H v H' _ q y => ?_⟩
  · have h1 : i < xs.length := by omega
    have h2 : i < ys.length := by omega
    exact ⟨xs, ys, xs[i], ys[i], q.1, q.2, by simp [h1], by simp [h2]⟩
  · obtain ⟨T, x, z, h1, h2, h3, h4, h5⟩ := y
    exact ⟨T, x, z, h1, h2, h3, h4 xs q.1, h5 ys q.2⟩
theorem el_lcZ {a b : Addr} {xs ys : List V} {tl tm : TE} {j1 j2 : Nat} {vs : List Nat} (v : Nat → V) (h : Ev tl σ H (.ref a)) (h2 : Ev tm σ H (.ref b)) (hx : SqT K H a xs) (hy : SqT K H b ys) (hz : min xs.length ys.length ≤ 40000)
    (hw : ∀ x y, wipe (((wipe σ vs).set j1 (some x)).set j2 (some y)) vs = wipe σ vs)
    (he : ∀ (i : Nat) (x y : V) H1, Ex H H1 → xs[i]? = some x → ys[i]? = some y → Ev te (((wipe σ vs).set j1 (some x)).set j2 (some y)) H1 (v i)) :
    EvL (tLc (RZ.iZipA K (tCons tl (tCons tm tNil))) (gTup K 2 (gCons (gName j1) (gCons (gName j2) gNil))) tYes te vs) σ H (given (min xs.length ys.length) (fun _ => true) v) := fun H0 e Q q => h H0 e _ fun H1 e1 => h2 H1 (e.trans e1) _ fun H2 e2 =>
  ⟨a, b, xs, ys, rfl, .inr ⟨ex_t ((e.trans e1).trans e2) hx, ex_t ((e.trans e1).trans e2) hy, fun Dl hD =>
  lc_it (walk_zipT rfl) (Cw H2 (fun _ => true) v Dl) ⟨hD, Ex.new hD, upd_same⟩ (fun _ _ _ p => ⟨ex_t (((e.trans e1).trans e2).trans p.2.1) hx, ex_t (((e.trans e1).trans e2).trans p.2.1) hy⟩) (fun i x H3 H' hi p y => by
    obtain ⟨T, x1, x2, rfl, hT, rfl, f1, f2⟩ := y
    have p' : Cw H2 (fun _ => true) v Dl i (upd H3 T (.tup [x1, x2])) := ⟨p.1, p.2.1.trans (Ex.new hT), by rw [upd_ne (ne_of_none p.2.2 hT)]; exact p.2.2⟩
    exact ⟨T, [x1, x2], rfl, .inl (.inl upd_same), rfl, x1, [x2], rfl, x2, [], rfl, rfl, hw _ _, cw_turn p' (by omega) et_yes (fun _ => he i x1 x2 H2 ((e.trans e1).trans e2) f1 f2)⟩)
    (fun H' p => q Dl H' (fresh_back (e1.trans e2) p.1) ((e1.trans e2).trans p.2.1) p.2.2)⟩⟩
theorem et_andF (h1 : EvT t σ H false) : EvT (tAnd t u) σ H false := fun H1 e Q q => h1 H1 e _ fun H2 e2 => q H2 e2
theorem et_andT {b : Bool} (h1 : EvT t σ H true) (h2 : EvT u σ H b) : EvT (tAnd t u) σ H b := fun H1 e Q q => h1 H1 e _ fun H2 e2 => h2 H2 (e.trans e2) Q fun H3 e3 => q H3 (e2.trans e3)
theorem et_orT (h1 : EvT t σ H true) : EvT (tOr t u) σ H true := fun H1 e Q q => h1 H1 e _ fun H2 e2 => q H2 e2
theorem et_orF {b : Bool} (h1 : EvT t σ H false) (h2 : EvT u σ H b) : EvT (tOr t u) σ H b := fun H1 e Q q => h1 H1 e _ fun H2 e2 => h2 H2 (e.trans e2) Q fun H3 e3 => q H3 (e2.trans e3)
theorem ev_andF (h1 : Ev ta σ H (.bl false)) : Ev (tAndV ta tb) σ H (.bl false) := fun H1 e Q q => h1 H1 e _ fun H2 e2 => ⟨false, rfl, q H2 e2⟩
theorem ev_andT {b : Bool} (h1 : Ev ta σ H (.bl true)) (h2 : Ev tb σ H (.bl b)) : Ev (tAndV ta tb) σ H (.bl b) := fun H1 e Q q => h1 H1 e _ fun H2 e2 => ⟨true, rfl, h2 H2 (e.trans e2) Q fun H3 e3 => q H3 (e2.trans e3)⟩
theorem k_tt : kitB "tuple" "tuple" = some true := by decide +kernel
theorem k_it : kitB "int" "tuple" = some false := by decide +kernel
theorem k_st : kitB "str" "tuple" = some false := by decide +kernel
theorem k_ti : kitB "tuple" "int" = some false := by decide +kernel
theorem k_ii : kitB "int" "int" = some true := by decide +kernel
theorem k_si : kitB "str" "int" = some false := by decide +kernel
theorem k_ts : kitB "tuple" "str" = some false := by decide +kernel
theorem k_is : kitB "int" "str" = some false := by decide +kernel
theorem k_ss : kitB "str" "str" = some true := by decide +kernel
theorem k_ib : kitB "int" "bool" = some false := by decide +kernel
theorem k_bb : kitB "bool" "bool" = some true := by decide +kernel
theorem ev_callC {sp : Sp} {vs : List V} {E : XK} {ta : TA} (h : EvA ta σ H vs) (hs : SpV sp vs H z) : Ev (tCall sp [] E ta) σ H z := ev_call h (by rw [List.append_nil]; exact hs)
end
/-! ### lists of data, empty or not -/
theorem all_items {α : Type} (a0 : α) (p : α → Bool) (ds : List α) : ((List.range ds.length).map fun i => p (ds.getD i a0)).all id = ds.all p := by
  have h : ((List.range ds.length).map fun i => p (ds.getD i a0)) = ds.map p := by
    apply List.ext_getElem
    · simp
    · intro i h1 h2
      simp at h1
      simp [List.getD_eq_getElem?_getD, List.getElem?_eq_getElem h1]
  rw [h, List.all_map]
  rfl
theorem zip_items {α β : Type} (a0 : α) (b0 : β) (p : α → β → Bool) : ∀ (ks : List α) (ds : List β), ks.length = ds.length → ((List.range ds.length).map fun i => p (ks.getD i a0) (ds.getD i b0)).all id = (List.zipWith p ks ds).all id := fun ks ds hl => by
  have h : ((List.range ds.length).map fun i => p (ks.getD i a0) (ds.getD i b0)) = List.zipWith p ks ds := by
    apply List.ext_getElem
    · simp [hl]
    · intro i h1 h2
      simp at h1
      have h3 : i < ks.length := by omega
      simp [List.getD_eq_getElem?_getD, List.getElem?_eq_getElem h1, List.getElem?_eq_getElem h3]
  rw [h]
theorem iskAll_zip : ∀ (ks : List Kd) (ds : List PyData), iskAll ks ds = (decide (ds.length = ks.length) && (List.zipWith isk ks ds).all id)
  | [], [] => by rw [iskAll]; rfl
  | [], _ :: _ => by simp [iskAll]
  | _ :: _, [] => by rw [iskAll]; rfl
  | k :: ks, d :: ds => by
    rw [iskAll, iskAll_zip ks ds]
    have e : decide ((d :: ds).length = (k :: ks).length) = decide (ds.length = ks.length) := decide_eq_decide.mpr (by simp)
    rw [e]
    show (isk k d && (decide (ds.length = ks.length) && (List.zipWith isk ks ds).all id)) = (decide (ds.length = ks.length) && (isk k d && (List.zipWith isk ks ds).all id))
    cases isk k d <;> cases decide (ds.length = ks.length) <;> rfl
theorem iskAll_at (ks : List Kd) (ds : List PyData) : (decide (V.int (ds.length : Int) = V.int (ks.length : Int)) && (decide (ds.length = ks.length) && ((List.range ds.length).map fun i => isk (ks.getD i .int) (ds.getD i .none)).all id)) = iskAll ks ds := by
  rw [iskAll_zip]
  by_cases h : ds.length = ks.length
  · rw [zip_items .int .none isk ks ds h.symm, decide_eq_true h, h, decide_eq_true rfl]
    rfl
  · rw [decide_eq_false h, decide_eq_false (fun e => h (by injection e with e; exact Int.ofNat.inj e))]
    rfl
theorem mem_given {n : Nat} {f : Nat → Bool} {v : Nat → V} {x : V} (h : x ∈ given n f v) : ∃ i, i < n ∧ f i = true ∧ x = v i := by
  unfold given at h
  obtain ⟨i, hi, rfl⟩ := List.mem_map.mp h
  obtain ⟨h1, h2⟩ := List.mem_filter.mp hi
  exact ⟨i, List.mem_range.mp h1, h2, rfl⟩
theorem given_empty (n : Nat) (f : Nat → Bool) (v : Nat → V) : (given n f v).isEmpty = ((List.range n).map fun i => !f i).all id := by
  unfold given
  rw [Bool.eq_iff_iff, List.isEmpty_iff, List.map_eq_nil_iff, List.filter_eq_nil_iff, List.all_map, List.all_eq_true]
  constructor
  · intro h i hi
    have := h i hi
    simpa using this
  · intro h i hi
    have := h i hi
    simpa using this
section
variable {K : PySem.W.Frag} {σ : L2.St} {H H' : Hp} {ta tb tc te tx : TE}
theorem dpAll_some {m : Nat} : ∀ {xs : List V}, (∀ x ∈ xs, ∃ d, Vd K H x d ∧ Dk m d) → ∃ ds, DpAll K H xs ds ∧ ds.isEmpty = xs.isEmpty ∧ ∀ d ∈ ds, Dk m d
  | [], _ => ⟨[], .nil, rfl, fun _ h => nomatch h⟩
  | x :: xs, h => by
    obtain ⟨d, h1, h2⟩ := h x List.mem_cons_self
    obtain ⟨ds, h3, h4, h5⟩ := dpAll_some fun y hy => h y (List.mem_cons_of_mem _ hy)
    refine ⟨d :: ds, .cons h1.dp h3, rfl, fun e he => ?_⟩
    rcases List.mem_cons.mp he with rfl | he
    · exact h2
    · exact h5 e he
theorem shaped_list {m : Nat} {ds : List PyData} (hm : m ≤ 60) (h : ∀ d ∈ ds, Dk m d) : SeqAt.shaped (.list ds) = true := by
  unfold SeqAt.shaped
  have h1 : (PyData.list ds).canLay0 = true := lay_all fun d hd => (h d hd).lay.1
  have h2 : (PyData.list ds).depth ≤ 64 := Nat.le_trans (Nat.succ_le_succ (depth_all fun d hd => (h d hd).lay.2)) (by omega)
  rw [h1, decide_eq_true h2]
  rfl
/-- [..] == [] -/
theorem ev_nil {m : Nat} {xs : List V} (hm : m ≤ 60) (ha : EvL ta σ H xs) (hx : ∀ x ∈ xs, ∀ H1, Ex H H1 → ∃ d, Vd K H1 x d ∧ Dk m d) : Ev (tOp (rEqD K) ta (tLst tNil)) σ H (.bl xs.isEmpty) :=
  ev_opLL ha (el_lst ea_nil (by decide)) fun p q H1 hp hq e => fun H2 e2 Q k => by
    obtain ⟨ds, h3, h4, h5⟩ := dpAll_some (K := K) (H := H2) fun x hx' => hx x hx' H2 (e.trans e2)
    refine ⟨.list ds, .list [], .lst (sq_of (e2 _ _ hp)) h3, .lst (sq_of (e2 _ _ hq)) .nil, shaped_list hm h5, by decide +kernel, ?_⟩
    have e3 : PyData.eqv (.list ds) (.list []) = xs.isEmpty := by
      rw [← h4]
      cases ds with
      | nil => rfl
      | cons d ds => rfl
    rw [e3]
    exact k H2 (Ex.refl H2)
theorem et_val {b : Bool} (h : Ev te σ H (.bl b)) : EvT (tB te) σ H b := et_B h
end
theorem Dk.item {n : Nat} {ds : List PyData} (h : Dk (n + 1) (.tuple ds)) : ds.length ≤ 60 ∧ ∀ d ∈ ds, Dk n d := by
  cases h with
  | tup h1 h2 => exact ⟨h1, h2⟩
theorem getD_at {α : Type} {ds : List α} {i : Nat} {a0 : α} (h : i < ds.length) : ds[i]? = some (ds.getD i a0) := by
  rw [List.getD_eq_getElem?_getD, List.getElem?_eq_getElem h]
  rfl
theorem OkK.shaped {n : Nat} {k : Kd} (h : OkK n k) (hn : n ≤ 20) : SeqAt.shaped k.data = true := h.dk.shaped (by omega)
theorem shaped_int : SeqAt.shaped (.str "int") = true := by decide +kernel
theorem shaped_word : SeqAt.shaped (.str "word") = true := by decide +kernel
end Cr
namespace Cr
open PySem PySem.Spec PyProof.Rows L2 Evl
section
variable {P : Program} {w : World} {K : PySem.W.Frag} {mg : Str → Option Value} {base : Heap}
def spWord : Sp := fun vs H Q _ => ∃ s : Str, vs = [.str s] ∧ s.length ≤ 1000 ∧ ∀ H', Same H H' → Q (.bl (isWord s)) H'
theorem sign_ok (c : Nat) : (!decide ((⟨#[c]⟩ : Str).cps.toList < ("a" : Str).cps.toList) && !decide (("z" : Str).cps.toList < (⟨#[c]⟩ : Str).cps.toList)) = (decide (97 ≤ c) && decide (c ≤ 122)) := by
  rw [show ("a" : Str).cps.toList = [97] by decide +kernel, show ("z" : Str).cps.toList = [122] by decide +kernel, show (⟨#[c]⟩ : Str).cps.toList = [c] from rfl, lt_sign, lt_sign, ← decide_not, ← decide_not]
  congr 1
  · exact decide_eq_decide.mpr (by omega)
  · exact decide_eq_decide.mpr (by omega)
theorem all_signs (z : Str) (p : Nat → Bool) : ((List.range z.cps.size).map fun i => p (z.cps.toList.getD i 0)).all id = z.cps.toList.all p := by
  have h : ∀ l : List Nat, ((List.range l.length).map fun i => p (l.getD i 0)) = l.map p := fun l => by
    apply List.ext_getElem
    · simp
    · intro i h1 h2
      simp at h1
      simp [List.getD_eq_getElem?_getD, List.getElem?_eq_getElem h1]
  rw [← Array.length_toList, h, List.all_map]
  rfl
def spKit (K : PySem.W.Frag) : Sp := fun vs H Q _ => ∃ (v : V) (k : Kd) (n : Nat), vs = [v] ∧ Vd K H v k.data ∧ OkK n k ∧ n ≤ 20 ∧
  ∀ r H', Same H H' → (∀ ks, k = .tup ks → ∃ a, r = .ref a ∧ Vd K H' (.ref a) (.tuple (dataAll ks))) → ((∀ ks, k ≠ .tup ks) → ∃ a, r = .ref a ∧ Vd K H' (.ref a) (.tuple [])) → Q r H'
def spKil (K : PySem.W.Frag) : Sp := fun vs H Q _ => ∃ (v : V) (k : Kd) (n : Nat), vs = [v] ∧ Vd K H v k.data ∧ OkK n k ∧ n ≤ 20 ∧
  ∀ r H', Same H H' → (∀ j, k = .lst j → r ≠ .non ∧ Vd K H' r j.data) → ((∀ j, k ≠ .lst j) → r = .non) → Q r H'
theorem vd_non {H : Hp} {v : V} {d : PyData} (h : Vd K H v d) : v ≠ .non := by cases h <;> exact fun e => nomatch e
end
section
variable {P : Program} {w : World} {K : PySem.W.Frag} {mg : Str → Option Value} {base : Heap}
def spIs (K : PySem.W.Frag) (n : Nat) : Sp := fun vs H Q _ => ∃ (v u : V) (d : PyData) (k : Kd), vs = [v, u] ∧ Vd K H v d ∧ Dk 20 d ∧ Vd K H u k.data ∧ OkK n k ∧ n ≤ 20 ∧ ∀ H', Same H H' → Q (.bl (isk k d)) H'
theorem spIs_0 (vs : List V) (H : Hp) (Q : VK) (E : XK) : ¬ spIs K 0 vs H Q E := fun h => by
  obtain ⟨_, _, _, _, _, _, _, _, h, _⟩ := h
  cases h
theorem is_call {n : Nat} {H : Hp} {v u : V} {d : PyData} {k : Kd} (hv : Vd K H v d) (hd : Dk 20 d) (hu : Vd K H u k.data) (hk : OkK n k) (hn : n ≤ 20) : SpV (spIs K n) [v, u] H (.bl (isk k d)) := fun H1 e Q q E =>
  ⟨v, u, d, k, rfl, hv.keep (Kt.same e), hd, hu.keep (Kt.same e), hk, hn, fun H' e' => q H' e'⟩
end
section
variable {P : Program} {w : World} {K : PySem.W.Frag} {mg : Str → Option Value} {base : Heap}
def spLWord : Sp := fun vs H Q _ => ∃ s : Str, vs = [.str s] ∧ s.length ≤ 1000 ∧ SeqAt.shaped (.str s) = true ∧ ∀ H', Same H H' → Q (.bl (isWord s)) H'
theorem abc_list : ("abcdefghijklmnopqrstuvwxyz" : Str).cps.toList = List.range' 97 26 := by decide +kernel
theorem abc_sign (c : Nat) : (!(!decide (c ∈ ("abcdefghijklmnopqrstuvwxyz" : Str).cps.toList))) = (decide (97 ≤ c) && decide (c ≤ 122)) := by
  rw [abc_list, Bool.not_not, Bool.eq_iff_iff, Bool.and_eq_true, decide_eq_true_iff, decide_eq_true_iff, decide_eq_true_iff, List.mem_range'_1]
  omega
theorem sign_shaped {s : Str} {i c : Nat} (h : SeqAt.shaped (.str s) = true) (hc : s.cps[i]? = some c) : SeqAt.shaped (.str ⟨#[c]⟩) = true := by
  have h1 : PyData.strOk s = true := SeqAt.canLay_of_shaped h
  obtain ⟨hi, rfl⟩ := Array.getElem?_eq_some_iff.mp hc
  have h2 : s.cps.all (· < 0x110000) = true := h1
  have h3 := (Array.all_eq_true.mp h2) i hi
  unfold SeqAt.shaped
  have h4 : (PyData.str ⟨#[s.cps[i]]⟩).canLay0 = true := by
    show PyData.strOk ⟨#[s.cps[i]]⟩ = true
    show (#[s.cps[i]]).all (· < 0x110000) = true
    simpa using h3
  rw [h4]
  rfl
theorem one_items {n : Nat} {f : Nat → Bool} {H : Hp} : ∀ x ∈ given n f (fun _ => V.int 1), ∀ H1, Ex H H1 → ∃ d, Vd K H1 x d ∧ Dk 0 d := fun x hx H1 _ => by
  obtain ⟨i, _, _, rfl⟩ := mem_given hx
  exact ⟨_, .int 1, .int 1⟩
end
section
variable {P : Program} {w : World} {K : PySem.W.Frag} {mg : Str → Option Value} {base : Heap}
def spCell (K : PySem.W.Frag) : Sp := fun vs H Q _ => ∃ (a : Addr) (ns : List Int) (k : Nat), vs = [.ref a, .int (k : Int)] ∧ SqL K H a (ns.map V.int) ∧ ∀ c H', Same H H' → Q (.int c) H'
def spDraw (K : PySem.W.Frag) : Sp := fun vs H Q _ => ∃ (a b : Addr) (ns ms : List Int) (k : Nat), vs = [.ref a, .int (k : Int), .ref b] ∧ SqL K H a (ns.map V.int) ∧ SqL K H b (ms.map V.int) ∧ ms.length ≤ 1000 ∧ (∀ m ∈ ms, 0 < m ∧ m < 1073741824) ∧
  ∀ p (xs : List Int) H', Same H H' → H p = none → H' p = some (.lst (xs.map V.int)) → xs.length = ms.length → Q (.ref p) H'
theorem map_int {ms : List Int} {i : Nat} {x : V} (h : (ms.map V.int)[i]? = some x) : ∃ m, ms[i]? = some m ∧ x = .int m := by
  rw [List.getElem?_map] at h
  cases e : ms[i]? with
  | none =>
    rw [e] at h
    cases h
  | some m =>
    rw [e] at h
    cases h
    exact ⟨m, rfl, rfl⟩
def Bx (H : Hp) (b d : Addr) : Prop := ∃ (ns : List Int) (i : Nat), H b = some (.lst [.ref d, .int (i : Int)]) ∧ H d = some (.lst (ns.map V.int)) ∧ d ≠ b
def Mv (b d : Addr) (H H' : Hp) : Prop := (∀ a o, a ≠ b → H a = some o → H' a = some o) ∧ Bx H' b d
section
variable {H H1 H2 H' : Hp} {b d p : Addr} {o : HO}
theorem Bx.same (h : Bx H b d) (e : Same H H') : Bx H' b d := by
  obtain ⟨ns, i, h1, h2, h3⟩ := h
  exact ⟨ns, i, e _ _ h1, e _ _ h2, h3⟩
theorem Mv.refl (h : Bx H b d) : Mv b d H H := ⟨fun _ _ _ h => h, h⟩
theorem Mv.trans (m : Mv b d H H1) (n : Mv b d H1 H2) : Mv b d H H2 := ⟨fun a o ne h => n.1 a o ne (m.1 a o ne h), n.2⟩
theorem Mv.same (h : Bx H b d) (e : Same H H') : Mv b d H H' := ⟨fun a o _ h => e a o h, h.same e⟩
theorem Mv.ext (m : Mv b d H H1) (e : Same H1 H2) : Mv b d H H2 := m.trans (.same m.2 e)
theorem Mv.new (m : Mv b d H H1) (h : H1 p = none) : Mv b d H (upd H1 p o) := m.ext (same_new h)
theorem Bx.neb (h : Bx H b d) (hp : H p = none) : p ≠ b ∧ p ≠ d := by
  obtain ⟨ns, i, h1, h2, h3⟩ := h
  exact ⟨fun e => (by rw [e, h1] at hp; cases hp), fun e => (by rw [e, h2] at hp; cases hp)⟩
/-- an object that H does not know changes -/
theorem Mv.mut (m : Mv b d H H1) (hb : Bx H b d) (hp : H p = none) : Mv b d H (upd H1 p o) := by
  obtain ⟨n1, n2⟩ := hb.neb hp
  obtain ⟨ns, i, h1, h2, h3⟩ := m.2
  exact ⟨fun a u ne h => by rw [upd_ne (ne_of_none h hp)]; exact m.1 a u ne h, ns, i, by rw [upd_ne n1.symm]; exact h1, by rw [upd_ne n2.symm]; exact h2, h3⟩
theorem Mv.kt (m : Mv b d H H1) (hb : Bx H b d) : Kt K H H1 := fun a ys q => by
  obtain ⟨ns, i, h1, h2, h3⟩ := hb
  rcases q with (q | ⟨ob, q⟩) | q
  · exact .inl (.inl (m.1 _ _ (ne_of q h1 (fun z => nomatch z)) q))
  · exact .inl (.inr ⟨ob, m.1 _ _ (ne_of q h1 (fun z => nomatch z)) q⟩)
  · exact .inr q
/-- a list that is not the box -/
theorem Mv.sql {a : Addr} {xs : List V} (m : Mv b d H H1) (ne : a ≠ b) (h : SqL K H a xs) : SqL K H1 a xs := by
  rcases h with (h | ⟨ob, h⟩) | h
  · exact .inl (.inl (m.1 _ _ ne h))
  · exact .inl (.inr ⟨ob, m.1 _ _ ne h⟩)
  · exact .inr h
end
def spBox (K : PySem.W.Frag) : Sp := fun vs H Q _ => ∃ (a : Addr) (ns : List Int) (k : Nat), vs = [.ref a, .int (k : Int)] ∧ SqL K H a (ns.map V.int) ∧
  ∀ b d H', Same H H' → H b = none → Bx H' b d → Q (.ref b) H'
theorem rep97 : (List.replicate (Int.toNat 20) [V.int 97]).flatten = (List.replicate 20 (97 : Int)).map V.int := by decide
theorem m97 : ∀ m ∈ List.replicate 20 (97 : Int), 0 < m ∧ m < 1073741824 := fun m h => by
  obtain ⟨_, rfl⟩ := List.mem_replicate.mp h
  decide
def spTake : Sp := fun vs H Q _ => ∃ (b d : Addr) (m : Int), vs = [.ref b, .int m] ∧ Bx H b d ∧ 0 < m ∧ ∀ r H', 0 ≤ r → r < m → Mv b d H H' → Q (.int r) H'
end
def Vds (K : PySem.W.Frag) (H : Hp) (vs : List V) (ds : List PyData) : Prop := vs.length = ds.length ∧ ∀ (i : Nat) v d, vs[i]? = some v → ds[i]? = some d → Vd K H v d
section
variable {K : PySem.W.Frag} {H H' : Hp}
theorem Vds.nil : Vds K H [] [] := ⟨rfl, fun i v d h _ => by simp at h⟩
theorem Vds.keep {vs : List V} {ds : List PyData} (k : Kt K H H') (h : Vds K H vs ds) : Vds K H' vs ds := ⟨h.1, fun i v d h1 h2 => (h.2 i v d h1 h2).keep k⟩
theorem Vds.snoc {vs : List V} {ds : List PyData} {v : V} {d : PyData} (h : Vds K H vs ds) (hv : Vd K H v d) : Vds K H (vs ++ [v]) (ds ++ [d]) := by
  refine ⟨by rw [List.length_append, List.length_append, h.1]; rfl, fun i x e h1 h2 => ?_⟩
  have hl := h.1
  by_cases hi : i < vs.length
  · rw [List.getElem?_append_left hi] at h1
    rw [List.getElem?_append_left (by omega)] at h2
    exact h.2 i x e h1 h2
  · rw [List.getElem?_append_right (by omega)] at h1
    rw [List.getElem?_append_right (by omega), ← hl] at h2
    obtain ⟨z, hz⟩ : ∃ z, i - vs.length = z := ⟨_, rfl⟩
    rw [hz] at h1 h2
    match z with
    | 0 =>
      cases h1
      cases h2
      exact hv
    | z + 1 => simp at h1
theorem Vds.cons {vs : List V} {ds : List PyData} {v : V} {d : PyData} (hv : Vd K H v d) (h : Vds K H vs ds) : Vds K H (v :: vs) (d :: ds) := by
  refine ⟨by rw [List.length_cons, List.length_cons, h.1], fun i x e h1 h2 => ?_⟩
  match i with
  | 0 =>
    cases h1
    cases h2
    exact hv
  | i + 1 => exact h.2 i x e (by simpa using h1) (by simpa using h2)
theorem Vds.app {vs ws : List V} {ds es : List PyData} (h : Vds K H vs ds) (g : Vds K H ws es) : Vds K H (vs ++ ws) (ds ++ es) := by
  refine ⟨by rw [List.length_append, List.length_append, h.1, g.1], fun i x e h1 h2 => ?_⟩
  have hl := h.1
  by_cases hi : i < vs.length
  · rw [List.getElem?_append_left hi] at h1
    rw [List.getElem?_append_left (by omega)] at h2
    exact h.2 i x e h1 h2
  · rw [List.getElem?_append_right (by omega)] at h1
    rw [List.getElem?_append_right (by omega), ← hl] at h2
    exact g.2 _ x e h1 h2
theorem Vds.tup {vs : List V} {ds : List PyData} {a : Addr} (h : Vds K H vs ds) (ha : SqT K H a vs) : Vd K H (.ref a) (.tuple ds) := .tup ha h.1 h.2
end
section
variable {P : Program} {w : World} {K : PySem.W.Frag} {mg : Str → Option Value} {base : Heap}
def spLKind (K : PySem.W.Frag) (N : Nat) : Sp := fun vs H Q _ => ∃ (b d : Addr) (n : Nat), vs = [.ref b, .int (n : Int)] ∧ Bx H b d ∧ n < N ∧ ∀ v kd H', Mv b d H H' → Vd K H' v (Kd.data kd) → OkK (n + 1) kd → Q v H'
def spLVal (K : PySem.W.Frag) (N : Nat) : Sp := fun vs H Q _ => ∃ (b d : Addr) (u : V) (kd : Kd), vs = [.ref b, u] ∧ Bx H b d ∧ Vd K H u kd.data ∧ OkK N kd ∧ N ≤ 10 ∧ ∀ v e H', Mv b d H H' → Vd K H' v e → Dk N e → isk kd e = true → Q v H'
theorem iskAll_of : ∀ {ks : List Kd} {ds : List PyData}, ks.length = ds.length → (∀ (i : Nat) k d, ks[i]? = some k → ds[i]? = some d → isk k d = true) → iskAll ks ds = true
  | [], [], _, _ => by rw [iskAll]
  | [], _ :: _, h, _ => by simp at h
  | _ :: _, [], h, _ => by simp at h
  | k :: ks, d :: ds, h, q => by
    rw [iskAll, q 0 k d rfl rfl, iskAll_of (by simpa using h) fun i j e h1 h2 => q (i + 1) j e (by simpa using h1) (by simpa using h2)]
    rfl
theorem spLVal_0 (vs : List V) (H : Hp) (Q : VK) (E : XK) : ¬ spLVal K 0 vs H Q E := fun h => by
  obtain ⟨_, _, _, _, _, _, _, h, _⟩ := h
  cases h
end
end Cr
namespace Cr
open PySem PySem.Spec PyProof.Rows L2 Evl
/-! ### conditions -/
inductive Cd where
  | atmost (n : Int) | divides (n : Int) | is (s : Str) | item (i : Int) (c : Cd) | every (c : Cd) | some_ (c : Cd) | size (c : Cd) | sum (c : Cd) | rising | different | not_ (c : Cd) | and_ (c d : Cd) | or_ (c d : Cd)
def Cd.data : Cd → PyData
  | .atmost n => .tuple [.str "atmost", .int n]
  | .divides n => .tuple [.str "divides", .int n]
  | .is s => .tuple [.str "is", .str s]
  | .item i c => .tuple [.str "item", .int i, c.data]
  | .every c => .tuple [.str "every", c.data]
  | .some_ c => .tuple [.str "some", c.data]
  | .size c => .tuple [.str "size", c.data]
  | .sum c => .tuple [.str "sum", c.data]
  | .rising => .tuple [.str "rising"]
  | .different => .tuple [.str "different"]
  | .not_ c => .tuple [.str "not", c.data]
  | .and_ c d => .tuple [.str "and", c.data, d.data]
  | .or_ c d => .tuple [.str "or", c.data, d.data]
inductive OkC : Nat → Cd → Prop
  | atmost {n : Nat} (i : Int) : OkC (n + 1) (.atmost i)
  | divides {n : Nat} (i : Int) : OkC (n + 1) (.divides i)
  | is {n : Nat} {s : Str} : SeqAt.shaped (.str s) = true → s.length ≤ 1000 → OkC (n + 1) (.is s)
  | item {n : Nat} (i : Int) {c : Cd} : OkC n c → OkC (n + 1) (.item i c)
  | every {n : Nat} {c : Cd} : OkC n c → OkC (n + 1) (.every c)
  | some_ {n : Nat} {c : Cd} : OkC n c → OkC (n + 1) (.some_ c)
  | size {n : Nat} {c : Cd} : OkC n c → OkC (n + 1) (.size c)
  | sum {n : Nat} {c : Cd} : OkC n c → OkC (n + 1) (.sum c)
  | rising {n : Nat} : OkC (n + 1) .rising
  | different {n : Nat} : OkC (n + 1) .different
  | not_ {n : Nat} {c : Cd} : OkC n c → OkC (n + 1) (.not_ c)
  | and_ {n : Nat} {c d : Cd} : OkC n c → OkC n d → OkC (n + 1) (.and_ c d)
  | or_ {n : Nat} {c d : Cd} : OkC n c → OkC n d → OkC (n + 1) (.or_ c d)
theorem OkC.mono {n m : Nat} {c : Cd} (h : OkC n c) (hm : n ≤ m) : OkC m c := by
  induction h generalizing m with
  | _ => obtain ⟨m', rfl⟩ : ∃ m', m = m' + 1 := ⟨m - 1, by omega⟩; first | exact .atmost _ | exact .divides _ | exact .rising | exact .different | (constructor <;> first | assumption | (rename_i ih; exact ih (by omega)) | (rename_i ih _; exact ih (by omega)))
/-! ### which condition fits which kind -/
def Kd.isInt : Kd → Bool
  | .int => true
  | _ => false
def Kd.isWord : Kd → Bool
  | .word => true
  | _ => false
def Kd.isFlat : Kd → Bool
  | .int => true
  | .word => true
  | _ => false
def Kd.parts : Kd → List Kd
  | .tup ks => ks
  | _ => []
def fitsC : Cd → Kd → Bool
  | .atmost _, k => k.isInt
  | .divides n, k => k.isInt && (decide (1 ≤ n) && decide (n ≤ 100))
  | .is s, k => k.isWord && Cr.isWord s
  | .item i c, k => (decide (0 ≤ i) && decide (i < (k.parts.length : Int))) && fitsC c (k.parts.getD i.toNat .int)
  | .every c, k => match k with | .lst j => fitsC c j | _ => false
  | .some_ c, k => match k with | .lst j => fitsC c j | _ => false
  | .size c, k => match k with | .lst _ => fitsC c .int | _ => false
  | .sum c, k => match k with | .lst j => j.isInt && fitsC c .int | _ => false
  | .rising, k => match k with | .lst j => j.isInt | _ => false
  | .different, k => match k with | .lst _ => true | _ => false
  | .not_ c, k => fitsC c k
  | .and_ c d, k => fitsC c k && fitsC d k
  | .or_ c d, k => fitsC c k && fitsC d k
def Cd.onList : Cd → Bool
  | .every _ | .some_ _ | .size _ | .sum _ | .rising | .different => true
  | _ => false
theorem eqv_int (k : Kd) : PyData.eqv k.data (.str "int") = k.isInt := by
  cases k with
  | int => rw [Kd.data]; decide +kernel
  | word => rw [Kd.data]; decide +kernel
  | lst j => rw [Kd.data]; rfl
  | tup ks => rw [Kd.data]; rfl
theorem eqv_word (k : Kd) : PyData.eqv k.data (.str "word") = k.isWord := by
  cases k with
  | int => rw [Kd.data]; decide +kernel
  | word => rw [Kd.data]; decide +kernel
  | lst j => rw [Kd.data]; rfl
  | tup ks => rw [Kd.data]; rfl
section
variable {K : PySem.W.Frag} {σ : L2.St} {H0 H H' : Hp} {ta tb tc te tx tl : TE} {t u : TT} {x y z v w : V} {r r' : R2} {tu tz tw : TS} {D : Ends}
/-- kind == 'int', kind == 'word' -/
theorem ev_isInt {k : Kd} {n : Nat} (h : Ev ta σ H v) (hv : Vd K H v k.data) (hk : OkK n k) (hn : n ≤ 20) : Ev (tOp (rEqD K) ta (tC (.str "int"))) σ H (.bl k.isInt) := ev_is (ev_op h ev_c (rv_eqD hv (.str "int") (OkK.shaped hk hn) shaped_int)) (by rw [eqv_int])
theorem ev_isWord {k : Kd} {n : Nat} (h : Ev ta σ H v) (hv : Vd K H v k.data) (hk : OkK n k) (hn : n ≤ 20) : Ev (tOp (rEqD K) ta (tC (.str "word"))) σ H (.bl k.isWord) := ev_is (ev_op h ev_c (rv_eqD hv (.str "word") (OkK.shaped hk hn) shaped_word)) (by rw [eqv_word])
/-- if name == 'x': not so; so -/
theorem skipS {i : Nat} {x y : Str} (e0 : Same H0 H) (h : σ[i]? = some (some (.str x))) (ne : decide (V.str x = V.str y) = false) (k : ∀ H1, Same H0 H1 → tz D σ H1) : tSeq (tIfS (tTest (tOp rEq (tVar i) (tC (.str y)))) tu tNext) tz D σ H :=
  q_when (b := false) (et_is (et_test (ev_op (ev_var h) ev_c (rv_eq rfl))) ne) (fun h => Bool.noConfusion h) fun _ H1 e1 => k H1 (e0.trans e1)
theorem takeS {i : Nat} {x y : Str} (e0 : Same H0 H) (h : σ[i]? = some (some (.str x))) (eq : decide (V.str x = V.str y) = true) (k : ∀ H1, Same H0 H1 → tu { D with nx := tz D } σ H1) : tSeq (tIfS (tTest (tOp rEq (tVar i) (tC (.str y)))) tu tNext) tz D σ H :=
  q_when (b := true) (et_is (et_test (ev_op (ev_var h) ev_c (rv_eq rfl))) eq) (fun _ H1 e1 => k H1 (e0.trans e1)) (fun h => Bool.noConfusion h)
/-- if name in ('x', ..): not so; so -/
theorem skipT {i : Nat} {x : Str} {ys : List V} {ta : TA} (e0 : Same H0 H) (h : σ[i]? = some (some (.str x))) (hy : EvA ta σ H ys) (hl : ys.length ≤ 100000) (fl : ys.all flatV = true) (ne : inV (.str x) ys = false) (k : ∀ H1, Same H0 H1 → tz D σ H1) : tSeq (tIfS (tTest (tOp (rIn K false) (tVar i) (tTup ta))) tu tNext) tz D σ H :=
  q_when (b := false) (et_is (et_test (ev_inU (ev_var h) (eu_tup hy hl) rfl fl)) ne) (fun h => Bool.noConfusion h) fun _ H1 e1 => k H1 (e0.trans e1)
theorem takeT {i : Nat} {x : Str} {ys : List V} {ta : TA} (e0 : Same H0 H) (h : σ[i]? = some (some (.str x))) (hy : EvA ta σ H ys) (hl : ys.length ≤ 100000) (fl : ys.all flatV = true) (eq : inV (.str x) ys = true) (k : ∀ H1, Same H0 H1 → tu { D with nx := tz D } σ H1) : tSeq (tIfS (tTest (tOp (rIn K false) (tVar i) (tTup ta))) tu tNext) tz D σ H :=
  q_when (b := true) (et_is (et_test (ev_inU (ev_var h) (eu_tup hy hl) rfl fl)) eq) (fun _ H1 e1 => k H1 (e0.trans e1)) (fun h => Bool.noConfusion h)
theorem skipL {i : Nat} {x : Str} {ys : List V} {ta : TA} (e0 : Same H0 H) (h : σ[i]? = some (some (.str x))) (hy : EvA ta σ H ys) (hl : ys.length ≤ 100000) (fl : ys.all flatV = true) (ne : inV (.str x) ys = false) (k : ∀ H1, Same H0 H1 → tz D σ H1) : tSeq (tIfS (tTest (tOp (rIn K false) (tVar i) (tLst ta))) tu tNext) tz D σ H :=
  q_when (b := false) (et_is (et_test (ev_opL (ev_var h) (el_lst hy hl) fun p H1 hp e => rv_isL (sq_of hp) rfl fl)) ne) (fun h => Bool.noConfusion h) fun _ H1 e1 => k H1 (e0.trans e1)
theorem takeL {i : Nat} {x : Str} {ys : List V} {ta : TA} (e0 : Same H0 H) (h : σ[i]? = some (some (.str x))) (hy : EvA ta σ H ys) (hl : ys.length ≤ 100000) (fl : ys.all flatV = true) (eq : inV (.str x) ys = true) (k : ∀ H1, Same H0 H1 → tu { D with nx := tz D } σ H1) : tSeq (tIfS (tTest (tOp (rIn K false) (tVar i) (tLst ta))) tu tNext) tz D σ H :=
  q_when (b := true) (et_is (et_test (ev_opL (ev_var h) (el_lst hy hl) fun p H1 hp e => rv_isL (sq_of hp) rfl fl)) eq) (fun _ H1 e1 => k H1 (e0.trans e1)) (fun h => Bool.noConfusion h)
/-- t[1:], a new tuple; a comprehension over a new tuple -/
theorem eu_sl1 {a : Addr} {x : V} {xs : List V} (h : Ev te σ H (.ref a)) (hs : SqT K H a (x :: xs)) : EvU (tSl (rSlT K) te (tPart (tC (.int 1))) tNoPart) σ H xs := fun H1 e Q q => h H1 e _ fun H2 e2 => by
  refine ⟨1, rfl, a, x :: xs, rfl, ex_t (e.trans e2) hs, fun hw => ?_, fun p hp => ?_⟩
  · have h1 := hw.1
    rw [show HT.sIx (x :: xs).length 0 (some 1) = min 1 (x :: xs).length from HT.sIx_nat _ 0 1, List.length_cons] at h1
    omega
  · have hc : cutV (x :: xs) (some 1) none = xs := by
      unfold cutV
      rw [show HT.sIx (x :: xs).length 0 (some 1) = min 1 (x :: xs).length from HT.sIx_nat _ 0 1, HT.sIx_none, List.length_cons, show min 1 (xs.length + 1) = 1 by omega]
      show (List.take (xs.length + 1 - 1) xs) = xs
      rw [Nat.add_sub_cancel]
      exact List.take_length
    rw [hc]
    exact q p _ (fresh_back e2 hp) (e2.trans (Ex.new hp)) upd_same
theorem el_lcNT {xs : List V} {j : Nat} {vs : List Nat} (f : Nat → Bool) (v : Nat → V) (h : EvU tl σ H xs) (hz : xs.length ≤ 40000) (hw : ∀ x, wipe ((wipe σ vs).set j (some x)) vs = wipe σ vs)
    (ht : ∀ (i : Nat) (x : V) H1, Ex H H1 → xs[i]? = some x → EvT t ((wipe σ vs).set j (some x)) H1 (f i)) (he : ∀ (i : Nat) (x : V) H1, Ex H H1 → xs[i]? = some x → f i = true → Ev te ((wipe σ vs).set j (some x)) H1 (v i)) :
    EvL (tLc (iTup K tl) (gName j) t te vs) σ H (given xs.length f v) := fun H0 e Q q => h H0 e _ fun a H1 ha e1 hx => ⟨a, rfl, ⟨xs, st_of hx⟩, fun Dl hD =>
  lc_tup (xs := xs) (Cw H1 f v Dl) ⟨hD, Ex.new hD, upd_same⟩ (fun i H' _ p => st_of (p.2.1 a _ hx)) (fun i x H' hi p => ⟨hw x, cw_turn p (by have := (List.getElem?_eq_some_iff.mp hi).1; omega) (ht i x H1 (e.trans e1) hi) (fun hf => he i x H1 (e.trans e1) hi hf)⟩)
    (fun H' p => q Dl H' (fresh_back e1 p.1) (e1.trans p.2.1) p.2.2)⟩
end
def spFits (K : PySem.W.Frag) (n : Nat) : Sp := fun vs H Q _ => ∃ (v u : V) (c : Cd) (k : Kd), vs = [v, u] ∧ Vd K H v c.data ∧ OkC n c ∧ Vd K H u k.data ∧ OkK 10 k ∧ ∀ H', Same H H' → Q (.bl (fitsC c k)) H'
def spFitsItem (K : PySem.W.Frag) (n : Nat) : Sp := fun vs H Q _ => ∃ (i : Int) (v u : V) (c : Cd) (ks : List Kd), vs = [.int i, v, u] ∧ Vd K H v c.data ∧ OkC n c ∧ Vd K H u (.tuple (dataAll ks)) ∧ (∀ k ∈ ks, OkK 10 k) ∧
  ∀ H', Same H H' → Q (.bl ((decide (0 ≤ i) && decide (i < (ks.length : Int))) && fitsC c (ks.getD i.toNat .int))) H'
def spFitsList (K : PySem.W.Frag) (n : Nat) : Sp := fun vs H Q _ => ∃ (v u : V) (c : Cd) (j : Kd), vs = [v, u] ∧ Vd K H v c.data ∧ OkC (n + 1) c ∧ c.onList = true ∧ Vd K H u j.data ∧ OkK 10 j ∧ ∀ H', Same H H' → Q (.bl (fitsC c (.lst j))) H'
section
variable {K : PySem.W.Frag} {H : Hp}
theorem spFits_0 (vs : List V) (H : Hp) (Q : VK) (E : XK) : ¬ spFits K 0 vs H Q E := fun h => by
  obtain ⟨_, _, _, _, _, _, h, _⟩ := h
  cases h
theorem fits_call {n : Nat} {v u : V} {c : Cd} {k : Kd} (hv : Vd K H v c.data) (hc : OkC n c) (hu : Vd K H u k.data) (hk : OkK 10 k) : SpV (spFits K n) [v, u] H (.bl (fitsC c k)) := fun H1 e Q q E =>
  ⟨v, u, c, k, rfl, hv.keep (Kt.same e), hc, hu.keep (Kt.same e), hk, fun H' e' => q H' e'⟩
/-- the condition's tuple: its name and the rest -/
theorem Cd.name {v : V} {c : Cd} (h : Vd K H v c.data) : ∃ a x xs, v = .ref a ∧ SqT K H a (x :: xs) := by
  cases c <;> (rw [Cd.data] at h; first | (obtain ⟨a, x, rfl, hs, _⟩ := h.g1; exact ⟨a, x, _, rfl, hs⟩) | (obtain ⟨a, x, y, rfl, hs, _⟩ := h.g2; exact ⟨a, x, _, rfl, hs⟩) | (obtain ⟨a, x, y, z, rfl, hs, _⟩ := h.g3; exact ⟨a, x, _, rfl, hs⟩))
theorem int_data : Vd K H (.str "int") Kd.int.data := by rw [Kd.data]; exact .str _
end
/-! ### kinds without empty tuples; what the law's draws of kinds and conditions promise -/
inductive NeT : Kd → Prop
  | int : NeT .int
  | word : NeT .word
  | lst {k : Kd} : NeT k → NeT (.lst k)
  | tup {ks : List Kd} : 0 < ks.length → ks.length ≤ 4 → (∀ k ∈ ks, NeT k) → NeT (.tup ks)
inductive NeK : Kd → Prop
  | int : NeK .int
  | word : NeK .word
  | lst {k : Kd} : NeK k → NeK (.lst k)
  | tup {ks : List Kd} : 0 < ks.length → ks.length ≤ 2 → (∀ k ∈ ks, NeK k) → (∀ k ∈ ks, k.isFlat = true) → NeK (.tup ks)
theorem NeK.t {k : Kd} (h : NeK k) : NeT k := by
  induction h with
  | int => exact .int
  | word => exact .word
  | lst _ ih => exact .lst ih
  | tup h1 h2 _ _ ih => exact .tup h1 (by omega) ih
def spLKind2 (K : PySem.W.Frag) (N : Nat) : Sp := fun vs H Q _ => ∃ (b d : Addr) (n : Nat), vs = [.ref b, .int (n : Int)] ∧ Bx H b d ∧ n < N ∧ ∀ v kd H', Mv b d H H' → Vd K H' v (Kd.data kd) → OkK (n + 1) kd → NeK kd → Q v H'
def spLLimit (K : PySem.W.Frag) (N : Nat) : Sp := fun vs H Q _ => ∃ (b d : Addr) (u : V) (kd : Kd) (n m : Nat), vs = [.ref b, u, .int (n : Int)] ∧ Bx H b d ∧ Vd K H u kd.data ∧ OkK m kd ∧ NeT kd ∧ n + m ≤ N ∧ N ≤ 15 ∧ ∀ v c H', Mv b d H H' → Vd K H' v (Cd.data c) → OkC N c → Q v H'
theorem OkK.pos {n : Nat} {k : Kd} (h : OkK n k) : 0 < n := by cases h <;> omega
theorem flat_of {k : Kd} (h : OkK 1 k) (hn : NeK k) : k.isFlat = true := by
  cases k with
  | int => rfl
  | word => rfl
  | lst j => cases h with | lst h => exact absurd h.pos (by omega)
  | tup ks =>
    cases h with
    | tup _ h =>
      cases hn with
      | tup h0 _ _ _ =>
        match ks, h0 with
        | k :: ks, _ => exact absurd (h k List.mem_cons_self).pos (by omega)
theorem spLLimit_0 {K : PySem.W.Frag} (vs : List V) (H : Hp) (Q : VK) (E : XK) : ¬ spLLimit K 0 vs H Q E := fun h => by
  obtain ⟨_, _, _, _, n, m, _, _, _, hk, _, hn, _⟩ := h
  have := hk.pos
  omega
theorem item_none {m : Int} {c : Cd} {k : Kd} (h : k.parts = []) : fitsC (.item m c) k = false := by
  show ((decide (0 ≤ m) && decide (m < (k.parts.length : Int))) && fitsC c (k.parts.getD m.toNat .int)) = false
  rw [h]
  by_cases h0 : 0 ≤ m
  · rw [decide_eq_false (show ¬ m < (([] : List Kd).length : Int) from fun h => by simp at h; omega), Bool.and_false]
    rfl
  · rw [decide_eq_false h0]
    rfl
/-! ### what evaluates to data -/
def EvD (K : PySem.W.Frag) (te : TE) (σ : L2.St) (H : Hp) (d : PyData) : Prop := ∀ H1, Ex H H1 → ∀ Q : VK, (∀ v H2, Ex H1 H2 → Vd K H2 v d → Q v H2) → te σ H1 Q
def EvDs (K : PySem.W.Frag) (ta : TA) (σ : L2.St) (H : Hp) (ds : List PyData) : Prop := ∀ H1, Ex H H1 → ∀ Q : List V → Hp → Prop, (∀ vs H2, Ex H1 H2 → Vds K H2 vs ds → Q vs H2) → ta σ H1 Q
section
variable {K : PySem.W.Frag} {σ : L2.St} {H H' : Hp} {te : TE} {ta : TA} {tz : TS} {D : Ends}
theorem evd_int {i : Int} : EvD K (tC (.int i)) σ H (.int i) := fun H1 _ _ q => q _ H1 (Ex.refl H1) (.int i)
theorem evd_str {x : Str} : EvD K (tC (.str x)) σ H (.str x) := fun H1 _ _ q => q _ H1 (Ex.refl H1) (.str x)
theorem evd_neg {i : Int} : EvD K (tUn (rU fun i => .int (-i)) (tC (.int i))) σ H (.int (-i)) := fun H1 _ _ q => ⟨i, rfl, q _ H1 (Ex.refl H1) (.int _)⟩
theorem evd_var {i : Nat} {v : V} {d : PyData} (h : σ[i]? = some (some v)) (hv : Vd K H v d) : EvD K (tVar i) σ H d := fun H1 e _ q => ⟨v, h, q v H1 (Ex.refl H1) (hv.keep (Kt.same e))⟩
theorem evds_nil : EvDs K tNil σ H [] := fun H1 _ _ q => q [] H1 (Ex.refl H1) .nil
theorem evds_cons {d : PyData} {ds : List PyData} (h : EvD K te σ H d) (hr : EvDs K ta σ H ds) : EvDs K (tCons te ta) σ H (d :: ds) := fun H1 e Q q =>
  h H1 e _ fun v H2 e2 hv => hr H2 (e.trans e2) _ fun vs H3 e3 hvs => q (v :: vs) H3 (e2.trans e3) (.cons (hv.keep (Kt.same e3)) hvs)
theorem evd_tup {ds : List PyData} (h : EvDs K ta σ H ds) (hl : ds.length ≤ 1000) : EvD K (tTup ta) σ H (.tuple ds) := fun H1 e Q q =>
  h H1 e _ fun vs H2 e2 hvs => ⟨Nat.le_of_lt (small1000 (by rw [hvs.1]; exact hl)), fun p hp => q (.ref p) _ (e2.trans (Ex.new hp)) ((hvs.keep (Kt.new hp)).tup (.of upd_same))⟩
theorem q_asgDs {i : Nat} {ds : List PyData} (h : EvDs K ta σ H ds) (hl : ds.length ≤ 1000) (k : ∀ p vs H1, H p = none → Ex H H1 → H1 p = some (.lst vs) → Vds K H1 vs ds → tz D (σ.set i (some (.ref p))) H1) : tSeq (tAsg (tLst ta) (gName i)) tz D σ H :=
  h H (Ex.refl H) _ fun vs H2 e2 hvs => ⟨Nat.le_of_lt (small1000 (by rw [hvs.1]; exact hl)), fun p hp => k p vs _ (fresh_back e2 hp) (e2.trans (Ex.new hp)) upd_same (hvs.keep (Kt.new hp))⟩
theorem evds_is {ds es : List PyData} (h : EvDs K ta σ H ds) (e : ds = es) : EvDs K ta σ H es := by
  rw [← e]
  exact h
end
/-- the script stays, whatever a new box lives through -/
theorem script_stays {K : PySem.W.Frag} {H H1 H2 : Hp} {a b d : Addr} {xs : List V} (h : SqL K H a xs) (hb : H b = none) (e : Same H H1) (m : Mv b d H1 H2) : SqL K H2 a xs := by
  rcases h with (h | ⟨o, h⟩) | h
  · exact .inl (.inl (m.1 _ _ (ne_of_none h hb) (e _ _ h)))
  · exact .inl (.inr ⟨o, m.1 _ _ (ne_of_none h hb) (e _ _ h)⟩)
  · exact .inr h
def spLaw (K : PySem.W.Frag) : Sp := fun vs H Q _ => ∃ (a : Addr) (ns : List Int), vs = [.ref a] ∧ SqL K H a (ns.map V.int) ∧ ns.length ≤ 63 ∧ ∀ H', Q (.bl true) H'
end Cr
/-! tuples where the layer has lists: in, sum, sorted, enumerate -/
namespace CrT
open PySem PySem.Spec PyProof.Rows L2
/-! ### in and not in, data of any depth -/
def rInTup (K : PySem.W.Frag) (no : Bool) : R2 := fun x y H Q => ∃ d ds, Dp K H x d ∧ Dp K H y (.tuple ds) ∧ SeqAt.shaped d = true ∧ SeqAt.shaped (.tuple ds) = true ∧ Q (.bl (if no then !ds.any fun z => PyData.eqv z d else ds.any fun z => PyData.eqv z d)) H
theorem tup_room {A : Around} {d : PyData} {ds : List PyData} (hu : A.units + 65 < cLine) (sd : SeqAt.shaped d = true) : A.units + 1 + min (PyData.depthAll ds) d.depth < cLine := by
  have h := SeqAt.depth_of_shaped sd
  have := Nat.min_le_right (PyData.depthAll ds) d.depth
  omega
section
variable {X : Cx}
theorem op_inTup (hu : X.A.units + 65 < cLine) : OpR X (compareOp .In) (rInTup X.K false) := fun pins s σ H x y v u Q I rx ry h => by
  obtain ⟨d, ds, hd, he, sd, se, q⟩ := h
  obtain ⟨as, ra⟩ := Dp.reads I d x v hd rx
  obtain ⟨bs, rb⟩ := Dp.reads I (.tuple ds) y u he ry
  exact SeqAt.in_tuple_reads rb ra (show PyData.canLayAll0 ds = true from SeqAt.canLay_of_shaped se) (SeqAt.canLay_of_shaped sd) (tup_room hu sd) ⟨.bl _, H, I, rfl, q⟩
theorem op_notInTup (hu : X.A.units + 65 < cLine) : OpR X (compareOp .NotIn) (rInTup X.K true) := fun pins s σ H x y v u Q I rx ry h => by
  obtain ⟨d, ds, hd, he, sd, se, q⟩ := h
  obtain ⟨as, ra⟩ := Dp.reads I d x v hd rx
  obtain ⟨bs, rb⟩ := Dp.reads I (.tuple ds) y u he ry
  exact SeqAt.notIn_tuple_reads rb ra (show PyData.canLayAll0 ds = true from SeqAt.canLay_of_shaped se) (SeqAt.canLay_of_shaped sd) (tup_room hu sd) ⟨.bl _, H, I, rfl, q⟩
end
/-! ### sum of a tuple of ints -/
section
variable {prog : Program} {w : World} {A : Around} {E : Value → Shared → Prop} {s : Shared} {l : Addr} {its : List Value} {ns : List Int} {Q : Value → Shared → Prop}
theorem ints_at {i : Nat} {v : Value} (hi : IntsAre its ns) (h : its.toArray[i]? = some v) : ∃ t, v = .int (ns.getD i 0) t := by
  have h' : its[i]? = some v := by simpa using h
  clear h
  induction hi generalizing i with
  | nil => simp at h'
  | cons n k _ ih =>
    cases i with
    | zero =>
      cases h'
      exact ⟨_, rfl⟩
    | succ i => exact ih (by simpa using h')
theorem preSum_list (ns : List Int) : preSum (fun i => ns.getD i 0) ns.length = ns.sum := by
  have h : ∀ i, i ≤ ns.length → preSum (fun i => ns.getD i 0) i = (ns.take i).sum := fun i => by
    induction i with
    | zero => intro _; rfl
    | succ i ih =>
      intro hi
      have e : ns[i]? = some (ns.getD i 0) := by
        rw [List.getD_eq_getElem?_getD, List.getElem?_eq_getElem (by omega)]
        rfl
      rw [sum_take e, ← ih (by omega)]
      rfl
  rw [h _ (Nat.le_refl _), List.take_length]
theorem sum_tup (hh : A.handled = none) (hl : s.heap.IsTuple l its.toArray) (hi : IntsAre its ns)
    (h : ∀ h' tk t', (∀ b o, s.heap.get? b = some o → h'.get? b = some o) → Q (.int ns.sum t') { s with heap := h', toks := tk }) : wpAny (model prog w) A (call (.builtin "sum") [.ref l]) Q E s := by
  have hlt : l < s.heap.objs.size := by
    obtain ⟨_, e, _⟩ := hl
    exact Heap.lt_size e
  refine call_sum_walkG (wpAny_pyIter_tuple hl ?_)
  refine ⟨_, _, _, _, _, _, fun i => ns.getD i 0, rfl, Walks.tuple (A := A.in1) hh _ l (Nat.ne_of_lt hlt) its.toArray, ⟨⟨_, Heap.get?_push_size _ rfl, rfl, rfl⟩, hl.push _⟩, fun b hb => ?_, fun i v hv => ints_at hi hv, fun h' tk t' hk => ?_⟩
  · show b < (s.heap.push _).objs.size
    rw [Heap.size_push]
    simp only [List.mem_cons, List.not_mem_nil, or_false] at hb
    rcases hb with rfl | rfl
    · exact Nat.lt_succ_self _
    · exact Nat.lt_succ_of_lt hlt
  · have hn : its.toArray.size = ns.length := by rw [List.size_toArray, hi.length]
    rw [hn, preSum_list]
    refine h h' tk t' fun b o e => hk b o (fun hm => ?_) (Heap.get?_push_of_some _ e)
    cases List.mem_singleton.mp hm
    exact absurd (Heap.lt_size e) (Nat.lt_irrefl _)
/-! ### sorted of a tuple of ints -/
theorem collect_tup {R : List Value → Shared → Prop} (hl : s.heap.IsTuple l its.toArray) (h : R its { s with heap := (s.heap.push (seqObj "list" #[] 0)).update s.heap.objs.size (Obj.mapSeq (· ++ its.toArray)) }) (hz : its.length ≤ sizeLine) :
    wpAny (model prog w) A (collect (.ref l)) R E s := by
  obtain ⟨ob, hob, hcl, n, hdt⟩ := id hl
  unfold collect
  refine wpAny_bind (wpAny_runValue (codeAny_builtin entry_proto_collect' (by
    show wpAny _ _ (do again (.builtin "list.__iadd__" ⟨[← newList [], .ref l], []⟩)) _ _ s
    refine wpAny_bind (wpAny_newList (wpAny_pure ⟨Code.quiet_builtin _ (by decide +kernel), codeAny_builtin entry_list_iadd' ?_⟩))
    have hob' : (s.heap.push (seqObj "list" #[] 0)).get? l = some ob := Heap.get?_push_of_some _ hob
    show wpAny _ _ (Builtin.List.listExtendWith (.ref s.heap.objs.size) (.ref l) (.ref s.heap.objs.size)) _ _ { s with heap := s.heap.push (seqObj "list" #[] 0) }
    unfold Builtin.List.listExtendWith
    refine wpAny_bind (wpAny_typeOf (T := "tuple") ⟨ob, hob', hcl⟩ ?_)
    have two : (Value.type "tuple" == Value.type "tuple") = true := by rfl
    rw [if_pos (by rw [two]; simp)]
    refine wpAny_bind (listItems_at hob' hdt (listItems_at (xs := #[]) (n := 0) (Heap.get?_push_size _ rfl) rfl ?_ |> wpAny_bind))
    rw [if_neg (by simp)]
    refine wpAny_bind (listUpdate_at (xs := #[]) (n := 0) (Heap.get?_push_size _ rfl) rfl (wpAny_pure ?_) (Nat.zero_le _) (by
      show (#[] ++ its.toArray).size ≤ sizeLine + 1
      rw [Array.size_append, List.size_toArray]
      show 0 + its.length ≤ _
      omega))
    show wpAny (model prog w) A (do
        let o ← load s.heap.objs.size
        match o.data with
        | .seq xs _ => pure xs.toList
        | _ => unsupported "internal:collect") R E { s with heap := (s.heap.push (seqObj "list" #[] 0)).update s.heap.objs.size (Obj.mapSeq (· ++ its.toArray)) }
    refine wpAny_bind (wpAny_load (get?_update_seq (Heap.get?_push_size _ rfl) _) ?_)
    have same : ((#[] : Array Value) ++ its.toArray).toList = its := by simp
    show wpAny _ _ (pure ((#[] : Array Value) ++ its.toArray).toList) R E _
    rw [same]
    exact wpAny_pure h)))
theorem sorted_tup (hl : s.heap.IsTuple l its.toArray) (hi : IntsAre its ns) (h64 : its.length < 64)
    (h : ∀ (out : Array Value) (ms : List Int), IntsAre out.toList ms → ms.Perm ns → ms.Pairwise (· ≤ ·) → Q (.ref (s.heap.objs.size + 1)) { s with heap := sortedAll s.heap its out }) : wpAny (model prog w) A (call (.builtin "sorted") [.ref l]) Q E s := by
  refine Calls.call_function_entry kind_sorted plain_sorted entry_sorted (args_sorted1 _) (by
    unfold Builtin.«sorted»
    refine wpAny_bind (m := checkCount "sorted" 1 1 _) (wpAny_pure (wpAny_bind (collect_tup hl (wpAny_bind (wpAny_newList ?_)) (small64 h64))))
    have len1 : ((s.heap.push (seqObj "list" #[] 0)).update s.heap.objs.size (Obj.mapSeq (· ++ its.toArray))).objs.size = s.heap.objs.size + 1 := by rw [Heap.size_update, size_push']
    have atL : (((s.heap.push (seqObj "list" #[] 0)).update s.heap.objs.size (Obj.mapSeq (· ++ its.toArray))).push (seqObj "list" its.toArray 0)).get? (s.heap.objs.size + 1) = some (seqObj "list" its.toArray 0) := by
      rw [← len1]
      exact Heap.get?_push_size _ rfl
    show wpAny _ _ _ _ _ { s with heap := ((s.heap.push (seqObj "list" #[] 0)).update s.heap.objs.size (Obj.mapSeq (· ++ its.toArray))).push (seqObj "list" its.toArray 0) }
    rw [len1]
    exact wpAny_bind (wpAny_holding (wpAny_call_entry slot_list_sort ⟨_, atL, rfl⟩ entry_list_sort (list_sort_tree atL hi h64 fun out ms b1 b2 b3 => ⟨_, rfl, wpAny_pure ⟨_, rfl, h out ms b1 b2 b3⟩⟩) (args_list_sort _))))
end
section
variable {X : Cx}
def rSumT (K : PySem.W.Frag) : List V → Hp → VK → Prop := fun vs H Q => ∃ (a : Addr) (ns : List Int), vs = [V.ref a] ∧ SqT K H a (ns.map V.int) ∧ Q (.int ns.sum) H
theorem cr_sumT (hc : X.calm = true) : CallR X (.builtin "sum") (rSumT X.K) := fun pins s σ H vs us Q I r h => by
  obtain ⟨a, ns, rfl, hs, q⟩ := h
  obtain ⟨its, rv, hl, _⟩ := I.tuple hs
  rw [Vals.ref1 r]
  exact sum_tup (I.ok.hd hc) hl rv.ints fun h' tk t' hk => ⟨.int _, H, I.kept hk, ⟨_, rfl⟩, q⟩
def rSortedTup (K : PySem.W.Frag) : List V → Hp → VK → Prop := fun vs H Q => ∃ (a : Addr) (ns : List Int), vs = [V.ref a] ∧ SqT K H a (ns.map V.int) ∧ ns.length < 64 ∧
  ∀ (ms : List Int) (p : Addr), ms.Perm ns → ms.Pairwise (· ≤ ·) → H p = none → Q (.ref p) (upd H p (.lst (ms.map V.int)))
theorem cr_sortedTup : CallR X (.builtin "sorted") (rSortedTup X.K) := fun pins s σ H vs us Q I r h => by
  obtain ⟨a, ns, rfl, hs, h64, q⟩ := h
  obtain ⟨its, rv, hl, _⟩ := I.tuple hs
  rw [Vals.ref1 r]
  have hi := rv.ints
  have hn : its.length < 64 := by rw [hi.length]; exact h64
  refine sorted_tup hl hi hn fun out ms a1 a2 a3 => ?_
  obtain ⟨ep, at_⟩ := PyProof.Rows.sortedAll_at s.heap its out
  have hz : (ms.map V.int).length ≤ sizeLine := by rw [List.length_map, a2.length_eq]; exact small64 h64
  refine ⟨.ref _, upd H (s.heap.objs.size + 1) (.lst (ms.map V.int)), ?_, rfl, q ms _ a2 a3 (I.hok.fresh (Nat.le_succ _))⟩
  exact I.laid (t' := s.toks) (fun _ _ => PyProof.Rows.sortedAll_old) (Nat.le_succ _) ⟨hz, out.toList, ep, vals_of_ints a1, at_⟩
end
/-! ### enumerate of a tuple -/
theorem enum_newT (t : Addr) (items : Array Value) : Meets (Builtin.«enumerate.__new__» ⟨[.type "enumerate", .ref t], []⟩) (fun _ R s => s.heap.IsTuple t items ∧
    R (.ok (.ret (.ref (s.heap.push { cls := .type "tuple_iterator", data := .fields #[.ref t, .int 0 0] }).objs.size)))
      { s with heap := (s.heap.push { cls := .type "tuple_iterator", data := .fields #[.ref t, .int 0 0] }).push { cls := .type "enumerate", data := .fields #[.none, .bool false, .ref s.heap.objs.size, rawInt 0, .none, .none] } }) :=
  .of_wp fun prog w A R s hr => by
    obtain ⟨hp, g, d, tk, os⟩ := s
    obtain ⟨ht, hr⟩ := hr
    have hsub := sub_enumerate
    have it1 : ∀ {A' : Around} {E : Value → Shared → Prop} {Q : Value → Shared → Prop}, Q (.ref hp.objs.size) ⟨hp.push { cls := .type "tuple_iterator", data := .fields #[.ref t, .int 0 0] }, g, d, tk, os⟩ → wpAny (model prog w) A' (pyIter (.ref t)) Q E ⟨hp, g, d, tk, os⟩ :=
      fun q => wpAny_pyIter_tuple (s := ⟨hp, g, d, tk, os⟩) ht q
    wp_walk using it1
    refine wpAny_stack_any fun st => wpAny_pure (by
      split
      · rename_i c _ _ _ _ _
        cases (c == Value.type "enumerate") <;> (wp_walk using it1; exact ⟨_, rfl, hr⟩)
      · wp_walk using it1
        exact ⟨_, rfl, hr⟩)
section
variable {prog : Program} {w : World} {A : Around} {E : Value → Shared → Prop} {s : Shared}
theorem enum_tup {t : Addr} {items : Array Value} {Q : Value → Shared → Prop} (ht : s.heap.IsTuple t items)
    (h : ∀ h', IsEnum h' (s.heap.objs.size + 1) s.heap.objs.size 0 .none → h'.IsTupleIter s.heap.objs.size t 0 → (∀ b o, s.heap.get? b = some o → h'.get? b = some o) → Q (.ref (s.heap.objs.size + 1)) { s with heap := h' }) :
    wpAny (model prog w) A (call (.type "enumerate") [.ref t]) Q E s := by
  have len1 : (s.heap.push { cls := .type "tuple_iterator", data := .fields #[.ref t, .int 0 0] }).objs.size = s.heap.objs.size + 1 := Heap.size_push ..
  refine callType_new F.called_enumerate (by decide) (F.typeCall_enumerate_1 _) (F.newCall_enumerate_1 _) (fun obj => F.args_object_init_2 obj _) F.entry_enumerate_new (enum_newT t items) ⟨ht, ?_⟩
  show _ ∧ _
  rw [len1]
  have en : IsEnum ((s.heap.push { cls := .type "tuple_iterator", data := .fields #[.ref t, .int 0 0] }).push { cls := .type "enumerate", data := .fields #[.none, .bool false, .ref s.heap.objs.size, rawInt 0, .none, .none] }) (s.heap.objs.size + 1) s.heap.objs.size 0 .none := by
    have h0 := Heap.get?_push_size (s.heap.push { cls := .type "tuple_iterator", data := .fields #[.ref t, .int 0 0] }) (o := { cls := .type "enumerate", data := .fields #[.none, .bool false, .ref s.heap.objs.size, rawInt 0, .none, .none] }) rfl
    rw [len1] at h0
    exact h0
  exact ⟨⟨_, en, rfl⟩, h _ en ⟨_, Heap.get?_push_of_some _ (Heap.get?_push_size _ rfl), rfl, rfl⟩ fun b o x => Heap.get?_push_of_some _ (Heap.get?_push_of_some _ x)⟩
end
def IteT (K : PySem.W.Frag) (a : Addr) : It :=
  ⟨fun i H => ∃ (xs : List V) (x : V), SqT K H a xs ∧ xs[i]? = some x, fun i H v H' => ∃ T x, v = .ref T ∧ H T = none ∧ H' = upd H T (.tup [.int (i : Nat), x]) ∧ ∀ xs, SqT K H a xs → xs[i]? = some x, fun i H => ∃ xs : List V, SqT K H a xs ∧ xs.length ≤ i⟩
theorem turn_enumT {P : Program} {w : World} {K : PySem.W.Frag} {elts : List Expr} {kk : Nat} {tpos : Pos} {a e it : Addr} (hei : e ≠ it) (hai : a ≠ it) (hae : a ≠ e) :
    Turn P w K (.Tuple elts kk tpos) (IteT K a) [e, it] e (fun i h => (∃ old, IsEnum h e it ((i : Nat) : Int) old) ∧ h.IsTupleIter it a i) where
  mem := by simp
  obj := fun i h st b hb => by
    obtain ⟨⟨old, he⟩, ⟨o, ho, _, hd⟩⟩ := st
    simp only [List.mem_cons, List.not_mem_nil, or_false] at hb
    rcases hb with rfl | rfl
    · exact ⟨_, he, fun v q => nomatch q⟩
    · exact ⟨o, ho, fun v q => by rw [hd] at q; cases q⟩
  keep := fun i h h' st k => let ⟨⟨old, he⟩, hi⟩ := st; ⟨⟨old, k e (by simp) _ he⟩, hi.at fun o q => k it (by simp) o q⟩
  item := by
    intro X hP hw hK hc i pins s σ H E I hf st hg
    subst hP hw hK
    obtain ⟨⟨old, he⟩, hit⟩ := st
    obtain ⟨xs, x, hq, hx⟩ := hg
    obtain ⟨its, rv, p, hz⟩ := I.tuple hq
    obtain ⟨u, hu, ru⟩ := rv.get hx
    have le : e < s.heap.objs.size := Heap.lt_size he
    have li : it < s.heap.objs.size := by obtain ⟨_, q, _⟩ := hit; exact Heap.lt_size q
    have lt_ : i < its.toArray.size := by
      have := (List.getElem?_eq_some_iff.mp hu).1
      rw [List.size_toArray]
      exact this
    refine wpAny_pyNext_enum_itemD (Draws.tuple (A := X.A.in1) (show X.A.in1.handled = none from I.ok.hd hc) it a hai its.toArray) he ⟨hit, p⟩ lt_ hei (by simp only [List.mem_cons, List.not_mem_nil, or_false]; rintro (h | h); exact hei h; exact hae h.symm) fun u' h' tk hP ho st' hT hsz hk => ?_
    have hu' : u' = u := by
      have q : its[i]? = some u' := by simpa using hP
      rw [hu] at q
      exact (Option.some.inj q).symm
    subst hu'
    refine ⟨_, rfl, wpAny_letOwnedTupleGo_enum (s := { s with heap := h', toks := tk + 1 }) ho fun h'' he' sb => ?_⟩
    have hT2 : h''.get? s.heap.objs.size = some { cls := .type "tuple", data := .seq #[.int i tk, u'] } := (sb.2 _ (Nat.ne_of_gt le)).trans hT
    have fresh : ObjOk X.prog X.w (upd H s.heap.objs.size (.tup [.int (i : Nat), x])) h'' s.heap.objs.size (.tup [.int (i : Nat), x]) :=
      ⟨by show 2 ≤ sizeLine; decide, [.int i tk, u'], .cons ⟨_, rfl⟩ (.cons ru .nil), ⟨_, hT2, rfl, _, rfl⟩⟩
    have I1 : Inv X pins σ (upd H s.heap.objs.size (.tup [.int (i : Nat), x])) { s with heap := h'', toks := tk + 1 } :=
      I.turnedNew (ch := [e, it]) (fun b ob hb q => (sb.2 b (fun z => hb (by simp [z]))).trans (hk b ob (fun z => hb (by simp [z])) (fun z => hb (by simp [z])) q)) hf (Nat.le_refl _) fresh
    have e1 : ((i + 1 : Nat) : Int) = (i : Int) + 1 := by omega
    refine ⟨.ref s.heap.objs.size, _, I1, rfl, ⟨_, x, rfl, I.hok.fresh (Nat.le_refl _), rfl, fun ys hy => by rw [I.tuple_inj hy hq]; exact hx⟩, ⟨⟨u', by rw [e1]; exact he'⟩, st'.1.at fun o q => (sb.2 it (Ne.symm hei)).trans q⟩, fun b hb => ?_⟩
    have lb : b < s.heap.objs.size := by
      simp only [List.mem_cons, List.not_mem_nil, or_false] at hb
      rcases hb with rfl | rfl
      · exact le
      · exact li
    rw [upd_ne (Nat.ne_of_lt lb)]
    exact (hf b hb).1
  done := by
    intro X hP hw hK hc i pins s σ H E I hf st hg
    subst hP hw hK
    obtain ⟨⟨old, he⟩, hit⟩ := st
    obtain ⟨xs, hq, hx⟩ := hg
    obtain ⟨its, rv, p, hz⟩ := I.tuple hq
    obtain ⟨f0, f1, f2, f3, f4, f5⟩ := hf it (by simp)
    have hl := rv.length
    have hT : s.TypeIs (.ref e) "enumerate" := ⟨_, he, rfl⟩
    have no : its.toArray[i]? = none := by simp; omega
    unfold pyNext
    refine wpAny_bind (wpAny_attempt (wpAny_callSpecial?_slot (name := Str.ofString "__next__") hT F.slot_enumerate_next (wpAny_call_entry F.slot_enumerate_next hT F.entry_enumerate_next ?_ (F.args_enumerate_next_1 _))))
    show wpAny _ _ (field (.ref e) 2 >>= _) _ _ _
    refine wpAny_bind (wpAny_field he rfl (x := .ref it) rfl (wpAny_bind (wpAny_nextOf_tuple_end (I.ok.hd hc) hit p no fun h' x hb hs => ?_)))
    obtain ⟨o, ho, hcl⟩ := hs
    exact wpAny_bind (wpAny_isInstance (T := "StopIteration") (b := true) ⟨o, ho, hcl⟩ isSubtype_stop (wpAny_pure ⟨rfl, I.turned (t' := s.toks) (fun b o hb' q => hb b o hb' q) f0 f1 f3 f4 f5⟩))
  self := fun A i s Q E st h => let ⟨⟨_, he⟩, _⟩ := st; wpAny_pyIter_enum he h
def iEnumT (K : PySem.W.Frag) (ta : TA) : TI := fun σ H R => ta σ H fun vs H1 => ∃ a xs, vs = [.ref a] ∧ SqT K H1 a xs ∧ R (IteT K a) H1
theorem pi_enumT {X : Cx} {e : Expr} {ta : TA} {p pos tpos : Pos} {elts : List Expr} {kk : Nat} (hg : Gl X "enumerate") (hm : X.mg "enumerate" = none) (ha : PA X [e] ta) (hs : starEach [e] X.env = [(false, eval e X.env)] := by rfl) :
    PI X (.Tuple elts kk tpos) (.Call (.Name "enumerate" p) [e] [] pos) (iEnumT X.K ta) := ⟨fun pins s σ H R I h => by
  refine Call_ (ld_blt I hg hm boot_enumerate (PyProof.Rows.callWith_type1 (thn (ha.run pos pins s σ H _ I h) fun us s1 ⟨vs, H1, I1, r1, q1⟩ => ?_) hs rfl))
  obtain ⟨a, xs, rfl, hq, q⟩ := q1
  cases r1 with
  | cons r rr =>
    cases rr
    cases r
    obtain ⟨its, rv, tp, hz⟩ := I1.tuple hq
    have la : a < s1.heap.objs.size := by
      obtain ⟨_, e, _⟩ := id tp
      exact Heap.lt_size e
    refine enum_tup (show s1.heap.IsTuple a its.toArray from tp) fun h' he hit hk => wpAny_pyIter_enum he ?_
    refine ⟨s1.heap.objs.size + 1, [s1.heap.objs.size + 1, s1.heap.objs.size], _, _, H1, rfl, I1.kept (t' := s1.toks) hk, turn_enumT (Nat.succ_ne_self _) (Nat.ne_of_lt la) (Nat.ne_of_lt (Nat.lt_succ_of_lt la)), ⟨⟨.none, he⟩, hit⟩, fun b hb => ?_, q⟩
    have hle : s1.heap.objs.size ≤ b := by
      simp only [List.mem_cons, List.not_mem_nil, or_false] at hb
      rcases hb with rfl | rfl
      · exact Nat.le_add_right _ _
      · exact Nat.le_refl _
    exact I1.fpOk hle (I1.hok.fresh hle)⟩
theorem walk_enumT {K : PySem.W.Frag} {a : Addr} {xs : List V} : Walk (IteT K a) xs.length (fun H => SqT K H a xs) (YPair (fun i => some (.int (i : Nat))) (fun i => xs[i]?)) :=
  ⟨fun i _ hi q => ⟨xs, xs[i], q, by simp [hi]⟩, fun _ q => ⟨xs, q, Nat.le_refl _⟩, fun i H v H' _ q y => by
    obtain ⟨T, x, h1, h2, h3, h4⟩ := y
    exact ⟨T, .int (i : Nat), x, h1, h2, h3, rfl, h4 xs q⟩⟩
end CrT
namespace CrT
open PySem PySem.Spec PyProof.Rows L2
section
variable {prog : Program} {w : World} {A : Around} {E : Value → Shared → Prop} {s : Shared}
theorem adjust_rev (n : Nat) : Builtin.Slice.sliceAdjust none none (-1) (n : Int) = ((n : Int) - 1, -1) := by
  unfold Builtin.Slice.sliceAdjust
  rfl
theorem places_rev (n : Nat) : Builtin.Slice.slicePlaces ((n : Int) - 1) (-1) (-1) = n := by
  unfold Builtin.Slice.slicePlaces
  have h1 : ¬ ((-1 : Int) > 0) := by omega
  have h2 : (- (-1) : Int) = 1 := rfl
  simp only [h1, if_false, h2, Int.ediv_one]
  split <;> omega
theorem pick_rev (xs : Array Value) : ((List.range xs.size).filterMap fun (m : Nat) => xs[(((xs.size : Int) - 1) + (m : Int) * (-1)).toNat]?).toArray = xs.toList.reverse.toArray := by
  have e : (List.range xs.size).filterMap (fun (m : Nat) => xs[(((xs.size : Int) - 1) + (m : Int) * (-1)).toNat]?) = ((List.range xs.size).map fun k => xs.size - 1 - k).filterMap (xs[·]?) := by
    rw [show (fun (m : Nat) => xs[(((xs.size : Int) - 1) + (m : Int) * (-1)).toNat]?) = id ∘ (fun (m : Nat) => xs[(((xs.size : Int) - 1) + (m : Int) * (-1)).toNat]?) from rfl, ← List.filterMap_map]
    have e3 : (List.range xs.size).map (fun (m : Nat) => xs[(((xs.size : Int) - 1) + (m : Int) * (-1)).toNat]?) = (List.range xs.size).map (fun k => xs[xs.size - 1 - k]?) := List.map_congr_left fun m hm => by
      have := List.mem_range.mp hm
      have e2 : (((xs.size : Int) - 1) + (m : Int) * (-1)).toNat = xs.size - 1 - m := by omega
      rw [e2]
    rw [e3, List.filterMap_map, List.filterMap_map]
    rfl
  rw [e, PySem.W.krv_range, List.filterMap_reverse, PySem.W.krv_all]
theorem sliceApplied_rev {sl : Addr} {vl vu vs : Value} {n : Nat} {Q : Int × Int × Nat → Shared → Prop} (hs : s.heap.IsSliceOf sl vl vu vs) (pl : IsPart vl none) (pu : IsPart vu none) (ps : IsPart vs (some (-1)))
    (h : Q ((n : Int) - 1, -1, n) s) : wpAny (model prog w) A (Builtin.Slice.sliceApplied (.ref sl) (pure (n : Int))) Q E s := by
  obtain ⟨os, hos, hcs, hds⟩ := id hs
  unfold Builtin.Slice.sliceApplied Builtin.Slice.sliceFields
  refine wpAny_bind (wpAny_bind (wpAny_field hos hds (x := vl) rfl (wpAny_bind (wpAny_field hos hds (x := vu) rfl (wpAny_bind (wpAny_field hos hds (x := vs) rfl (wpAny_pure ?_)))))))
  refine wpAny_bind (HT.slicePart_ ps ?_)
  show wpAny _ _ (if ((-1 : Int) == 0) = true then _ else _) _ _ s
  rw [if_neg (by decide)]
  refine wpAny_bind (HT.slicePart_ pl (wpAny_bind (HT.slicePart_ pu (wpAny_bind (wpAny_pure ?_)))))
  show wpAny _ _ (match Builtin.Slice.sliceAdjust none none (-1) (n : Int) with | (lo, hi) => pure (lo, (-1 : Int), Builtin.Slice.slicePlaces lo hi (-1))) _ _ s
  rw [adjust_rev n]
  show wpAny _ _ (pure ((n : Int) - 1, (-1 : Int), Builtin.Slice.slicePlaces ((n : Int) - 1) (-1) (-1))) _ _ s
  rw [places_rev]
  exact wpAny_pure h
theorem getItem_tuple_rev {t sl : Addr} {items : Array Value} {vl vu vs : Value} {Q : Value → Shared → Prop} (ht : IsTup s.heap t items) (hs : s.heap.IsSliceOf sl vl vu vs) (pl : IsPart vl none) (pu : IsPart vu none) (ps : IsPart vs (some (-1)))
    (h : Q (.ref s.heap.objs.size) { s with heap := s.heap.push { cls := .type "tuple", data := .seq items.toList.reverse.toArray } })
    (hsz : items.size ≤ sizeLine) : wpAny (model prog w) A (getItem (.ref t) (.ref sl)) Q E s := by
  have htake : sizeOk (.seq items.toList.reverse.toArray) := by
    show items.toList.reverse.toArray.size ≤ sizeLine
    rw [List.size_toArray, List.length_reverse, Array.length_toList]
    omega
  obtain ⟨os, hos, hcs, hds⟩ := id hs
  have hTs : s.TypeIs (.ref sl) "slice" := ⟨os, hos, hcs⟩
  unfold getItem
  try with_reducible refine wpAny_holding ?_
  first | refine wpAny_bind (wpAny_pure ?_) | skip
  refine wpAny_bind (wpAny_sequenceKey ht.typeIs (by decide) ?_)
  refine wpAny_bind (wpAny_callSpecial?_slot (name := Str.ofString "__getitem__") ht.typeIs PyProof.Rows.slot_tuple_getitem
    (wpAny_call_entry PyProof.Rows.slot_tuple_getitem ht.typeIs entry_tuple_getitem ?_ (args_tuple_getitem _ _)))
  show wpAny _ _ (Builtin.Tuple.tupleItemsOf (.ref t) >>= _) _ _ s
  refine wpAny_bind (tupleItemsOf_ ht ?_)
  refine wpAny_bind (wpAny_typeOf hTs ?_)
  rw [if_pos (by decide)]
  refine wpAny_bind (sliceApplied_rev hs pl pu ps ?_)
  have hno : ¬ ((((items.size : Int) - 1) == 0 && (-1 : Int) == 1 && items.size == items.size) = true) := by
    intro q
    rw [Bool.and_eq_true, Bool.and_eq_true] at q
    exact absurd q.1.2 (by decide)
  show wpAny _ _ (if (((items.size : Int) - 1) == 0 && (-1 : Int) == 1 && items.size == items.size) = true then _ else _) _ _ s
  rw [if_neg hno, pick_rev]
  first
    | exact wpAny_bind (m := Builtin.Tuple.tupleExact _) (wpAny_newObj_type (wpAny_pure ⟨_, rfl, wpAny_pure h⟩) htake)
    | exact wpAny_bind (m := Builtin.Tuple.tupleExact _) (wpAny_newObj_type (wpAny_bind (wpAny_pure (wpAny_pure ⟨_, rfl, wpAny_pure h⟩))) htake)
    | exact wpAny_bind (wpAny_bind (m := Builtin.Tuple.tupleExact _) (wpAny_newObj_type (wpAny_pure (wpAny_pure ⟨_, rfl, wpAny_pure h⟩)) htake))
    | exact wpAny_bind (wpAny_bind (m := Builtin.Tuple.tupleExact _) (wpAny_newObj_type (wpAny_pure ⟨_, rfl, wpAny_pure h⟩) htake))
end
section
variable {X : Cx}
/-- t[::-1] -/
def tRevT (K : PySem.W.Frag) (te : TE) : TE := fun σ H Q => te σ H fun x H1 => ∃ a xs, x = .ref a ∧ SqT K H1 a xs ∧ ∀ p, H1 p = none → Q (.ref p) (upd H1 p (.tup xs.reverse))
theorem pe_revT {e : Expr} {te : TE} {k : Nat} {p1 p2 p3 pos : Pos} (he : PE X e te) : PE X (.Subscript e (.Slice none none (some (.UnaryOp .USub (.Constant (.int 1) k p1) p2)) p3) pos) (tRevT X.K te) := by
  refine ⟨fun pins s σ H Q I h => ?_⟩
  refine Subscript_ (thn (he.run pins s σ H _ I h) fun v s1 ⟨x, H1, I1, r1, q1⟩ => ?_)
  obtain ⟨a, xs, ex, hx, q⟩ := q1
  subst ex
  cases r1
  have hst : PO X (some (.UnaryOp .USub (.Constant (.int 1) k p1) p2)) (tPart (tUn (rU fun i => .int (-i)) (tC (.int 1)))) := po_some (pe_un un_neg pe_int)
  refine wpAny_Slice (thn (po_none.run pins s1 σ H1 (fun o H2 => o = none ∧ H2 = H1) I1 ⟨rfl, rfl⟩) fun vl s2 ⟨l, H2, I2, pl, el, e2⟩ => ?_)
  subst el e2
  refine thn (po_none.run pins s2 σ H2 (fun o H3 => o = none ∧ H3 = H2) I2 ⟨rfl, rfl⟩) fun vu s3 ⟨u, H3, I3, pu, eu, e3⟩ => ?_
  subst eu e3
  refine thn (hst.run pins s3 σ H3 (fun o H4 => o = some (-1) ∧ H4 = H3) I3 ⟨1, rfl, -1, rfl, rfl, rfl⟩) fun vs s4 ⟨o, H4, I4, ps, eo, e4⟩ => ?_
  subst eo e4
  have I5 : Inv X pins σ H4 { s4 with heap := s4.heap.push { cls := .type "slice", data := .fields #[vl, vu, vs] } } := I4.kept (t' := s4.toks) fun b ob q => Heap.get?_push_of_some _ q
  obtain ⟨its, r, ht, hz⟩ := I5.tuple hx
  have hlen := r.length
  show wpAny (model X.prog X.w) X.A (subscriptTail e (.Slice none none (some (.UnaryOp .USub (.Constant (.int 1) k p1) p2)) p3) (.ref a) (.ref s4.heap.objs.size)) (EP X pins σ Q) X.xe { s4 with heap := s4.heap.push { cls := .type "slice", data := .fields #[vl, vu, vs] } }
  refine tail_any (ops := [.ref a, .ref s4.heap.objs.size]) ht.typeIs PyProof.Rows.slot_tuple_getitem.lookup ?_ (by with_unfolding_all rfl)
  refine getItem_tuple_rev ht (Heap.IsSliceOf.new _ vl vu vs) pl pu ps ?_ (by rw [List.size_toArray]; omega)
  refine ⟨.ref _, _, I5.laid (t' := s4.toks) (o := .tup xs.reverse) (fun b ob q => Heap.get?_push_of_some _ q) (Nat.le_refl _) ?_, rfl, q _ (I5.hok.fresh (Nat.le_refl _))⟩
  exact ⟨by rw [List.length_reverse]; exact hz, _, r.reverse, IsTup.new _ _⟩
end
end CrT
/-! sorted of a list or a tuple of data -/
namespace CrT
open PySem PySem.Spec PyProof.Rows L2 PySem.W
section
variable {prog : Program} {w : World} {A : Around} {E : Value → Shared → Prop} {s : Shared} {β : Type} {vs : List Value} {bs : List β} {enc : β → PyData} {R : Value → β → Prop}
theorem sorted_of_sortT {l : Addr} {Q : Value → Shared → Prop} (hl : s.heap.IsTuple l vs.toArray) (hL : vs.length ≤ sizeLine)
    (body : ∀ E' : Value → Shared → Prop, wpAny (model prog w) A.in1.in1 (Builtin.«list.sort» ⟨[.ref (s.heap.objs.size + 1)], []⟩) (fun f s' => f = .done (.ret .none) ∧ Q (.ref (s.heap.objs.size + 1)) s') E' { s with heap := copyHeap s.heap vs }) :
    wpAny (model prog w) A (call (.builtin "sorted") [.ref l]) Q E s := by
  refine Calls.call_function_entry kind_sorted plain_sorted entry_sorted (args_sorted1 _) ?_
  unfold Builtin.«sorted»
  refine wpAny_bind (m := checkCount "sorted" 1 1 _) (wpAny_pure ?_)
  refine wpAny_bind (collect_tup hl ?_ hL)
  refine wpAny_bind (wpAny_newList ?_ hL)
  have hsz : ((s.heap.push (seqObj "list" #[] 0)).update s.heap.objs.size (Obj.mapSeq (· ++ vs.toArray))).objs.size = s.heap.objs.size + 1 := by
    rw [Heap.size_update, size_push']
  show wpAny _ _ _ _ _ { s with heap := copyHeap s.heap vs }
  rw [hsz]
  refine wpAny_bind (wpAny_holding (wpAny_call_entry slot_list_sort ⟨_, copyHeap_at s.heap vs, rfl⟩ entry_list_sort ?body (args_list_sort _)))
  case body =>
    show wpAny (model prog w) A.in1.in1 (Builtin.«list.sort» ⟨[.ref (s.heap.objs.size + 1)], []⟩) _ _ _
    refine wpAny_mono (body _) (fun f s' hf => ?_) fun _ _ e => e
    obtain ⟨rfl, hq⟩ := hf
    exact ⟨_, rfl, wpAny_pure ⟨_, rfl, hq⟩⟩
theorem sorted_dataT {l : Addr} {Q : Value → Shared → Prop} (hl : s.heap.IsTuple l vs.toArray) (e : EachIs R vs bs) (er : EachIs (fun v b => ∃ as, Reads s.heap v (enc b) as) vs bs) (hal : AllAlike (bs.map enc)) (hk : Sortable (bs.map enc)) (hL : bs.length ≤ sizeLine)
    (hu : ∀ b, b ∈ bs → A.units + 2 + (enc b).depth < cLine) (h : ∀ out, out.length = bs.length → EachIs R out (bs.mergeSort (dataLe false enc)) → Q (.ref (s.heap.objs.size + 1)) { s with heap := sortedAll s.heap vs (List.toArray out) }) :
    wpAny (model prog w) A (call (.builtin "sorted") [.ref l]) Q E s := by
  have er' : EachIs (fun v b => ∃ as, Reads (sortingHeap (copyHeap s.heap vs) (s.heap.objs.size + 1) vs) v (enc b) as) vs bs := er.mono fun _ _ ⟨as, r⟩ => ⟨as, PyProof.Rows.Reads.keeps (fun _ _ => sorting_copy_old) r⟩
  have hL' : vs.length ≤ sizeLine := by rw [e.length]; exact hL
  have S := SortsAt.data (prog := prog) (w := w) (A := A.in1.in1) (s := { s with heap := sortingHeap (copyHeap s.heap vs) (s.heap.objs.size + 1) vs }) (each_map (R := fun v d => ∃ as, Reads (sortingHeap (copyHeap s.heap vs) (s.heap.objs.size + 1) vs) v d as) enc er') hal hk (bound_map hu)
  exact sorted_of_sortT hl hL' fun _ => list_sort_vals (s := { s with heap := copyHeap s.heap vs }) (copyHeap_at s.heap vs) S hL' ⟨rfl, h _ (by rw [sortVals_length false rfl]; exact e.length) (sortVals_data false e er' hal)⟩
end
section
variable {K : PySem.W.Frag} {H : Hp}
theorem dpAll_len : ∀ {xs : List V} {ds : List PyData}, DpAll K H xs ds → xs.length = ds.length
  | [], [], _ => rfl
  | _ :: _, _ :: _, h => by
    cases h with
    | cons _ h => rw [List.length_cons, List.length_cons, dpAll_len h]
theorem each_vals : ∀ {xs : List V} {its : List Value} {ds : List PyData}, Vals xs its → xs.length = ds.length → EachIs (fun v (b : V × PyData) => RelV b.1 v) its (xs.zip ds)
  | [], _, [], h, _ => by cases h; exact .nil
  | _ :: _, _, [], _, hl => by simp at hl
  | [], _, _ :: _, _, hl => by simp at hl
  | x :: xs, _, d :: ds, h, hl => by
    cases h with
    | cons h1 h2 => exact .cons h1 (each_vals h2 (by simpa using hl))
theorem each_reads {h : Heap} : ∀ {xs : List V} {its : List Value} {ds : List PyData} {as : List Addr}, ReadsAll h its ds as → xs.length = ds.length → EachIs (fun v (b : V × PyData) => ∃ as, Reads h v b.2 as) its (xs.zip ds)
  | [], _, [], _, h, _ => by cases h; exact .nil
  | _ :: _, _, [], _, _, hl => by simp at hl
  | [], _, _ :: _, _, _, hl => by simp at hl
  | x :: xs, _, d :: ds, _, h, hl => by
    cases h with
    | cons h1 h2 => exact .cons ⟨_, h1⟩ (each_reads h2 (by simpa using hl))
theorem vals_each : ∀ {out : List Value} {zs : List (V × PyData)}, EachIs (fun v (b : V × PyData) => RelV b.1 v) out zs → Vals (zs.map Prod.fst) out
  | _, [], h => by cases h; exact .nil
  | _, z :: zs, h => by
    cases h with
    | cons h1 h2 => exact .cons h1 (vals_each h2)
theorem zip_snd {xs : List V} {ds : List PyData} (h : xs.length = ds.length) : (xs.zip ds).map Prod.snd = ds := List.map_snd_zip (by omega)
end
section
variable {X : Cx}
/-- the pairs of item and datum, in the order of the data -/
def sortZ (xs : List V) (ds : List PyData) : List (V × PyData) := (xs.zip ds).mergeSort (dataLe false Prod.snd)
def rSortedD (K : PySem.W.Frag) : List V → Hp → VK → Prop := fun vs H Q => ∃ (a : Addr) (xs : List V) (ds : List PyData), vs = [V.ref a] ∧ (SqL K H a xs ∨ SqT K H a xs) ∧ DpAll K H xs ds ∧ AllAlike ds ∧ Sortable ds ∧ (∀ d ∈ ds, d.depth ≤ 60) ∧
  ∀ p, H p = none → Q (.ref p) (upd H p (.lst ((sortZ xs ds).map Prod.fst)))
theorem cr_sortedD (hu : X.A.units + 65 < cLine) : CallR X (.builtin "sorted") (rSortedD X.K) := fun pins s σ H vs us Q I r h => by
  obtain ⟨a, xs, ds, rfl, hs, hd, hal, hk, hdp, q⟩ := h
  rw [Vals.ref1 r]
  have hl := dpAll_len hd
  have key : ∀ its : List Value, Vals xs its → xs.length ≤ sizeLine →
      EachIs (fun v (b : V × PyData) => RelV b.1 v) its (xs.zip ds) ∧ EachIs (fun v (b : V × PyData) => ∃ as, Reads s.heap v b.2 as) its (xs.zip ds) ∧ AllAlike ((xs.zip ds).map Prod.snd) ∧ Sortable ((xs.zip ds).map Prod.snd) ∧ (xs.zip ds).length ≤ sizeLine ∧ (∀ b, b ∈ xs.zip ds → X.A.units + 2 + (Prod.snd b).depth < cLine) ∧
      ∀ out : List Value, out.length = (xs.zip ds).length → EachIs (fun v (b : V × PyData) => RelV b.1 v) out ((xs.zip ds).mergeSort (dataLe false Prod.snd)) → EP X pins σ Q (.ref (s.heap.objs.size + 1)) { s with heap := sortedAll s.heap its (List.toArray out) } := fun its rv hz => by
    obtain ⟨as, rr⟩ := Dp.readsAll I ds xs its hd rv
    refine ⟨each_vals rv hl, each_reads rr hl, ?_, ?_, ?_, fun b hb => ?_, fun out ho he => ?_⟩
    · rw [zip_snd hl]; exact hal
    · rw [zip_snd hl]; exact hk
    · rw [List.length_zip]; omega
    · have := hdp b.2 (List.of_mem_zip hb).2
      show X.A.units + 2 + b.2.depth < cLine
      omega
    · obtain ⟨ep, at_⟩ := PyProof.Rows.sortedAll_at s.heap its (List.toArray out)
      have hz' : ((sortZ xs ds).map Prod.fst).length ≤ sizeLine := by
        unfold sortZ
        rw [List.length_map, (List.mergeSort_perm _ _).length_eq, List.length_zip]
        omega
      refine ⟨.ref _, upd H (s.heap.objs.size + 1) (.lst ((sortZ xs ds).map Prod.fst)), ?_, rfl, q _ (I.hok.fresh (Nat.le_succ _))⟩
      exact I.laid (t' := s.toks) (fun _ _ => PyProof.Rows.sortedAll_old) (Nat.le_succ _) ⟨hz', out, ep, vals_each he, at_⟩
  rcases hs with hs | hs
  · obtain ⟨its, rv, ht, hz⟩ := I.list hs
    obtain ⟨k1, k2, k3, k4, k5, k6, k7⟩ := key its rv hz
    exact sorted_data ht.isList k1 k2 k3 k4 k5 k6 k7
  · obtain ⟨its, rv, ht, hz⟩ := I.tuple hs
    obtain ⟨k1, k2, k3, k4, k5, k6, k7⟩ := key its rv hz
    exact sorted_dataT ht k1 k2 k3 k4 k5 k6 k7
end
end CrT
set_option maxRecDepth 10000000
/-! A reading and a function of data that it follows: slots hold data; lists of the def's own may grow. -/
namespace Sm
open PySem PySem.Spec PyProof.Rows L2 Evl
abbrev Atm := Addr → List (PyData × PyData) → Prop
/-- a value and its datum; no list of it is owned -/
inductive Fd (K : PySem.W.Frag) (A : Atm) (O : Addr → Prop) (H : Hp) : V → PyData → Prop
  | non : Fd K A O H .non .none
  | bl (b : Bool) : Fd K A O H (.bl b) (.bool b)
  | int (i : Int) : Fd K A O H (.int i) (.int i)
  | str (x : Str) : Fd K A O H (.str x) (.str x)
  | tup {a : Addr} {xs : List V} {ds : List PyData} : SqT K H a xs → xs.length = ds.length → (∀ (i : Nat) v d, xs[i]? = some v → ds[i]? = some d → Fd K A O H v d) → Fd K A O H (.ref a) (.tuple ds)
  | lst {a : Addr} {xs : List V} {ds : List PyData} : H a = some (.lst xs) → ¬ O a → xs.length = ds.length → (∀ (i : Nat) v d, xs[i]? = some v → ds[i]? = some d → Fd K A O H v d) → Fd K A O H (.ref a) (.list ds)
  | fn {f : Addr} {kvs : List (PyData × PyData)} : A f kvs → Fd K A O H (.ref f) (.dict kvs)
def Fds (K : PySem.W.Frag) (A : Atm) (O : Addr → Prop) (H : Hp) (xs : List V) (ds : List PyData) : Prop := xs.length = ds.length ∧ ∀ (i : Nat) v d, xs[i]? = some v → ds[i]? = some d → Fd K A O H v d
/-- what is not owned stays, and is not owned later -/
def Evo (O : Addr → Prop) (H : Hp) (O' : Addr → Prop) (H' : Hp) : Prop := ∀ a o, H a = some o → ¬ O a → H' a = some o ∧ ¬ O' a
/-- what may be owned: lists and dicts -/
def Mu : HO → Prop
  | .lst _ => True
  | .dK _ => True
  | .dT _ => True
  | .ext _ => True
  | .frz _ (.dK _) => True
  | .frz _ (.ext _) => True
  | _ => False
def Owl (O : Addr → Prop) (H : Hp) : Prop := ∀ a, O a → ∃ u, H a = some u ∧ Mu u
def Osn (O : Addr → Prop) (p : Addr) : Addr → Prop := fun a => a = p ∨ O a
section
variable {K : PySem.W.Frag} {A : Atm} {O O' O1 O2 : Addr → Prop} {H H' H1 H2 : Hp}
theorem Evo.refl : Evo O H O H := fun _ _ h n => ⟨h, n⟩
theorem Evo.trans (e : Evo O H O1 H1) (f : Evo O1 H1 O2 H2) : Evo O H O2 H2 := fun a o h n => f a o (e a o h n).1 (e a o h n).2
theorem Evo.same (e : Same H H') : Evo O H O H' := fun a o h n => ⟨e a o h, n⟩
theorem Owl.same (l : Owl O H) (e : Same H H') : Owl O H' := fun a h => by
  obtain ⟨xs, hx, hm⟩ := l a h
  exact ⟨xs, e _ _ hx, hm⟩
theorem Owl.none (l : Owl O H) {p : Addr} (h : H p = none) : ¬ O p := fun ho => by
  obtain ⟨xs, hx, _⟩ := l p ho
  rw [h] at hx
  cases hx
theorem sqT_evo (l : Owl O H) (e : Evo O H O' H') {a : Addr} {xs : List V} (h : SqT K H a xs) : SqT K H' a xs := by
  rcases h with (h | ⟨o, h⟩) | h
  · refine .inl (.inl (e a _ h fun ho => ?_).1)
    obtain ⟨ys, hy, hm⟩ := l a ho
    rw [h] at hy
    cases hy
    exact hm
  · refine .inl (.inr ⟨o, (e a _ h fun ho => ?_).1⟩)
    obtain ⟨ys, hy, hm⟩ := l a ho
    rw [h] at hy
    cases hy
    exact hm
  · exact .inr h
theorem Fd.evo (l : Owl O H) (e : Evo O H O' H') {v : V} {d : PyData} (h : Fd K A O H v d) : Fd K A O' H' v d := by
  induction h with
  | non => exact .non
  | bl b => exact .bl b
  | int i => exact .int i
  | str x => exact .str x
  | tup hs hl _ ih => exact .tup (sqT_evo l e hs) hl ih
  | lst hs ho hl _ ih => exact .lst (e _ _ hs ho).1 (e _ _ hs ho).2 hl ih
  | fn h => exact .fn h
theorem Fd.same (e : Same H H') {v : V} {d : PyData} (h : Fd K A O H v d) : Fd K A O H' v d := by
  induction h with
  | non => exact .non
  | bl b => exact .bl b
  | int i => exact .int i
  | str x => exact .str x
  | tup hs hl _ ih => exact .tup (ex_t e hs) hl ih
  | lst hs ho hl _ ih => exact .lst (e _ _ hs) ho hl ih
  | fn h => exact .fn h
/-- less is owned -/
theorem Fd.less (s : ∀ a, O' a → O a) {v : V} {d : PyData} (h : Fd K A O H v d) : Fd K A O' H v d := by
  induction h with
  | non => exact .non
  | bl b => exact .bl b
  | int i => exact .int i
  | str x => exact .str x
  | tup hs hl _ ih => exact .tup hs hl ih
  | lst hs ho hl _ ih => exact .lst hs (fun h => ho (s _ h)) hl ih
  | fn h => exact .fn h
/-- a new address is owned -/
theorem Fd.more {p : Addr} (hp : H p = none) {v : V} {d : PyData} (h : Fd K A O H v d) : Fd K A (Osn O p) H v d := by
  induction h with
  | non => exact .non
  | bl b => exact .bl b
  | int i => exact .int i
  | str x => exact .str x
  | tup hs hl _ ih => exact .tup hs hl ih
  | @lst a xs ds hs ho hl _ ih =>
    refine .lst hs (fun h => ?_) hl ih
    rcases h with h | h
    · rw [h, hp] at hs
      cases hs
    · exact ho h
  | fn h => exact .fn h
theorem Fds.evo (l : Owl O H) (e : Evo O H O' H') {vs : List V} {ds : List PyData} (h : Fds K A O H vs ds) : Fds K A O' H' vs ds := ⟨h.1, fun i v d a b => (h.2 i v d a b).evo l e⟩
theorem Fds.same (e : Same H H') {vs : List V} {ds : List PyData} (h : Fds K A O H vs ds) : Fds K A O H' vs ds := ⟨h.1, fun i v d a b => (h.2 i v d a b).same e⟩
theorem Fds.less (s : ∀ a, O' a → O a) {vs : List V} {ds : List PyData} (h : Fds K A O H vs ds) : Fds K A O' H vs ds := ⟨h.1, fun i v d a b => (h.2 i v d a b).less s⟩
theorem Fds.more {p : Addr} (hp : H p = none) {vs : List V} {ds : List PyData} (h : Fds K A O H vs ds) : Fds K A (Osn O p) H vs ds := ⟨h.1, fun i v d a b => (h.2 i v d a b).more hp⟩
theorem Fds.nil : Fds K A O H [] [] := ⟨rfl, fun i v d h _ => by simp at h⟩
theorem Fds.cons {vs : List V} {ds : List PyData} {v : V} {d : PyData} (hv : Fd K A O H v d) (h : Fds K A O H vs ds) : Fds K A O H (v :: vs) (d :: ds) := by
  refine ⟨by rw [List.length_cons, List.length_cons, h.1], fun i x e h1 h2 => ?_⟩
  match i with
  | 0 =>
    cases h1
    cases h2
    exact hv
  | i + 1 => exact h.2 i x e (by simpa using h1) (by simpa using h2)
theorem Fds.app {vs ws : List V} {ds es : List PyData} (h : Fds K A O H vs ds) (g : Fds K A O H ws es) : Fds K A O H (vs ++ ws) (ds ++ es) := by
  refine ⟨by rw [List.length_append, List.length_append, h.1, g.1], fun i x e h1 h2 => ?_⟩
  have hl := h.1
  by_cases hi : i < vs.length
  · rw [List.getElem?_append_left hi] at h1
    rw [List.getElem?_append_left (by omega)] at h2
    exact h.2 i x e h1 h2
  · rw [List.getElem?_append_right (by omega)] at h1
    rw [List.getElem?_append_right (by omega), ← hl] at h2
    exact g.2 _ x e h1 h2
theorem Fds.snoc {vs : List V} {ds : List PyData} {v : V} {d : PyData} (h : Fds K A O H vs ds) (hv : Fd K A O H v d) : Fds K A O H (vs ++ [v]) (ds ++ [d]) := h.app (.cons hv .nil)
theorem Fds.head {vs : List V} {d : PyData} {ds : List PyData} (h : Fds K A O H vs (d :: ds)) : ∃ v ws, vs = v :: ws ∧ Fd K A O H v d ∧ Fds K A O H ws ds := by
  match vs, h with
  | [], h => exact absurd h.1 (by simp)
  | v :: ws, h => exact ⟨v, ws, rfl, h.2 0 v d rfl rfl, by simpa using h.1, fun i x e h1 h2 => h.2 (i + 1) x e (by simpa using h1) (by simpa using h2)⟩
theorem Fds.nil_inv {vs : List V} (h : Fds K A O H vs []) : vs = [] := List.length_eq_zero_iff.mp h.1
theorem Fds.get {vs : List V} {ds : List PyData} (h : Fds K A O H vs ds) {i : Nat} {d : PyData} (hd : ds[i]? = some d) : ∃ v, vs[i]? = some v ∧ Fd K A O H v d := by
  have hi := (List.getElem?_eq_some_iff.mp hd).1
  have hi' : i < vs.length := by rw [h.1]; exact hi
  exact ⟨vs[i], List.getElem?_eq_getElem hi', h.2 i _ d (List.getElem?_eq_getElem hi') hd⟩
theorem Fds.get' {vs : List V} {ds : List PyData} (h : Fds K A O H vs ds) {i : Nat} {v : V} (hv : vs[i]? = some v) : ∃ d, ds[i]? = some d ∧ Fd K A O H v d := by
  have hi := (List.getElem?_eq_some_iff.mp hv).1
  have hi' : i < ds.length := by rw [← h.1]; exact hi
  exact ⟨ds[i], List.getElem?_eq_getElem hi', h.2 i v _ hv (List.getElem?_eq_getElem hi')⟩
theorem Fds.drop {vs : List V} {ds : List PyData} (n : Nat) (h : Fds K A O H vs ds) : Fds K A O H (vs.drop n) (ds.drop n) := ⟨by rw [List.length_drop, List.length_drop, h.1], fun i v d h1 h2 => h.2 (n + i) v d (by rw [← List.getElem?_drop]; exact h1) (by rw [← List.getElem?_drop]; exact h2)⟩
theorem Fds.take {vs : List V} {ds : List PyData} (n : Nat) (h : Fds K A O H vs ds) : Fds K A O H (vs.take n) (ds.take n) := ⟨by rw [List.length_take, List.length_take, h.1], fun i v d h1 h2 => by
  rw [List.getElem?_take] at h1 h2
  split at h1
  · rename_i hi
    rw [if_pos hi] at h2
    exact h.2 i v d h1 h2
  · cases h1⟩
theorem Fds.reverse {xs : List V} {ds : List PyData} (h : Fds K A O H xs ds) : Fds K A O H xs.reverse ds.reverse := by
  refine ⟨by rw [List.length_reverse, List.length_reverse, h.1], fun i v d h1 h2 => ?_⟩
  have hl := h.1
  by_cases hi : i < xs.length
  · rw [List.getElem?_reverse hi] at h1
    rw [List.getElem?_reverse (by omega), ← hl] at h2
    exact h.2 _ v d h1 h2
  · rw [List.getElem?_eq_none (by rw [List.length_reverse]; omega)] at h1
    cases h1
theorem Fds.tup {vs : List V} {ds : List PyData} {a : Addr} (h : Fds K A O H vs ds) (ha : SqT K H a vs) : Fd K A O H (.ref a) (.tuple ds) := .tup ha h.1 h.2
theorem Fds.lst {vs : List V} {ds : List PyData} {a : Addr} (h : Fds K A O H vs ds) (ha : H a = some (.lst vs)) (ho : ¬ O a) : Fd K A O H (.ref a) (.list ds) := .lst ha ho h.1 h.2
theorem Fd.tup_inv {v : V} {ds : List PyData} (h : Fd K A O H v (.tuple ds)) : ∃ a xs, v = .ref a ∧ SqT K H a xs ∧ Fds K A O H xs ds := by
  cases h with
  | tup hs hl q => exact ⟨_, _, rfl, hs, hl, q⟩
theorem Fd.lst_inv {v : V} {ds : List PyData} (h : Fd K A O H v (.list ds)) : ∃ a xs, v = .ref a ∧ H a = some (.lst xs) ∧ ¬ O a ∧ Fds K A O H xs ds := by
  cases h with
  | lst hs ho hl q => exact ⟨_, _, rfl, hs, ho, hl, q⟩
theorem Fd.int_inv {v : V} {i : Int} (h : Fd K A O H v (.int i)) : v = .int i := by cases h; rfl
theorem Fd.str_inv {v : V} {x : Str} (h : Fd K A O H v (.str x)) : v = .str x := by cases h; rfl
theorem Fd.bl_inv {v : V} {x : Bool} (h : Fd K A O H v (.bool x)) : v = .bl x := by cases h; rfl
theorem Fd.non_inv {v : V} (h : Fd K A O H v .none) : v = .non := by cases h; rfl
theorem dp_all : ∀ {vs : List V} {ds : List PyData}, vs.length = ds.length → (∀ (i : Nat) v d, vs[i]? = some v → ds[i]? = some d → Dp K H v d) → DpAll K H vs ds
  | [], [], _, _ => .nil
  | [], _ :: _, h, _ => by simp at h
  | _ :: _, [], h, _ => by simp at h
  | x :: xs, d :: ds, h, q => .cons (q 0 x d rfl rfl) (dp_all (by simpa using h) fun i v e h1 h2 => q (i + 1) v e (by simpa using h1) (by simpa using h2))
theorem lay_of_all : ∀ {ds : List PyData}, PyData.canLayAll0 ds = true → ∀ d ∈ ds, d.canLay0 = true
  | [], _, _, h => by cases h
  | d :: ds, h, e, he => by
    unfold PyData.canLayAll0 at h
    obtain ⟨h1, h2⟩ := Bool.and_eq_true_iff.mp h
    rcases List.mem_cons.mp he with rfl | he
    · exact h1
    · exact lay_of_all h2 e he
theorem Fd.dp {v : V} {d : PyData} (h : Fd K A O H v d) (hc : d.canLay0 = true) : Dp K H v d := by
  induction h with
  | non => exact .non
  | bl b => exact .bl b
  | int i => exact .int i
  | str x => exact .str x
  | tup hs hl _ ih => exact .tup hs (dp_all hl fun i v d h1 h2 => ih i v d h1 h2 (lay_of_all (by simpa [PyData.canLay0] using hc) d (List.mem_of_getElem? h2)))
  | lst hs _ hl _ ih => exact .lst (sq_of hs) (dp_all hl fun i v d h1 h2 => ih i v d h1 h2 (lay_of_all (by simpa [PyData.canLay0] using hc) d (List.mem_of_getElem? h2)))
  | fn h => simp [PyData.canLay0] at hc
theorem Fd.dps {v : V} {d : PyData} (h : Fd K A O H v d) (hc : SeqAt.shaped d = true) : Dp K H v d := h.dp (SeqAt.canLay_of_shaped hc)
/-- data without lists, bools and None -/
theorem Fd.of_vd {v : V} {d : PyData} (h : Cr.Vd K H v d) : Fd K A O H v d := by
  induction h with
  | int i => exact .int i
  | str x => exact .str x
  | tup hs hl _ ih => exact .tup hs hl ih
theorem Fds.of_vds {vs : List V} {ds : List PyData} (h : Cr.Vds K H vs ds) : Fds K A O H vs ds := ⟨h.1, fun i v d a b => .of_vd (h.2 i v d a b)⟩
mutual
def flatD : PyData → Bool
  | .int _ => true
  | .str _ => true
  | .tuple ds => flatDs ds
  | _ => false
def flatDs : List PyData → Bool
  | [] => true
  | d :: ds => flatD d && flatDs ds
end
theorem flatDs_mem : ∀ {ds : List PyData}, flatDs ds = true → ∀ d ∈ ds, flatD d = true
  | [], _, _, h => by cases h
  | d :: ds, h, e, he => by
    unfold flatDs at h
    obtain ⟨h1, h2⟩ := Bool.and_eq_true_iff.mp h
    rcases List.mem_cons.mp he with rfl | he
    · exact h1
    · exact flatDs_mem h2 e he
theorem flatDs_of : ∀ {ds : List PyData}, (∀ d ∈ ds, flatD d = true) → flatDs ds = true
  | [], _ => by unfold flatDs; rfl
  | d :: ds, h => by
    unfold flatDs
    rw [h d List.mem_cons_self, flatDs_of fun e he => h e (List.mem_cons_of_mem _ he)]
    rfl
theorem Fd.vd {v : V} {d : PyData} (h : Fd K A O H v d) (hc : flatD d = true) : Cr.Vd K H v d := by
  induction h with
  | non => simp [flatD] at hc
  | bl b => simp [flatD] at hc
  | int i => exact .int i
  | str x => exact .str x
  | tup hs hl _ ih => exact .tup hs hl fun i v d h1 h2 => ih i v d h1 h2 (flatDs_mem (by simpa [flatD] using hc) d (List.mem_of_getElem? h2))
  | lst => simp [flatD] at hc
  | fn h => simp [flatD] at hc
end
/-! ### slots -/
/-! ### keys -/
mutual
def keyN : PyData → Option NestedKey
  | .int i => some (.num i)
  | .str x => some (.text x)
  | .tuple ds => (keyNs ds).map .tup
  | _ => none
def keyNs : List PyData → Option (List NestedKey)
  | [] => some []
  | d :: ds => (keyN d).bind fun k => (keyNs ds).bind fun ks => some (k :: ks)
end
mutual
theorem keyN_data : ∀ (d : PyData) (k : NestedKey), keyN d = some k → k.data = d
  | .int i, k, h => by rw [keyN] at h; cases h; rfl
  | .str i, k, h => by rw [keyN] at h; cases h; rfl
  | .tuple ds, k, h => by
    rw [keyN] at h
    obtain ⟨ks, h1, rfl⟩ := Option.map_eq_some_iff.mp h
    rw [NestedKey.data, keyNs_data ds ks h1]
  | .list _, k, h => by simp [keyN] at h
  | .bool _, k, h => by simp [keyN] at h
  | .none, k, h => by simp [keyN] at h
  | .dict _, k, h => by simp [keyN] at h
theorem keyNs_data : ∀ (ds : List PyData) (ks : List NestedKey), keyNs ds = some ks → NestedKey.datas ks = ds
  | [], ks, h => by rw [keyNs] at h; cases h; rfl
  | d :: ds, ks, h => by
    rw [keyNs] at h
    obtain ⟨k, h1, h2⟩ := Option.bind_eq_some_iff.mp h
    obtain ⟨ks', h3, h4⟩ := Option.bind_eq_some_iff.mp h2
    cases h4
    rw [NestedKey.datas, keyN_data d k h1, keyNs_data ds ks' h3]
end
mutual
theorem key_inj : ∀ (a b : NestedKey), a.data = b.data → a = b
  | .none, .none, _ => rfl
  | .num a, .num b, h => by rw [NestedKey.data, NestedKey.data] at h; cases h; rfl
  | .text a, .text b, h => by rw [NestedKey.data, NestedKey.data] at h; cases h; rfl
  | .tup a, .tup b, h => by
    rw [NestedKey.data, NestedKey.data] at h
    injection h with h
    rw [keys_inj a b h]
  | .none, .num _, h => by simp [NestedKey.data] at h
  | .none, .text _, h => by simp [NestedKey.data] at h
  | .none, .tup _, h => by simp [NestedKey.data] at h
  | .num _, .none, h => by simp [NestedKey.data] at h
  | .num _, .text _, h => by simp [NestedKey.data] at h
  | .num _, .tup _, h => by simp [NestedKey.data] at h
  | .text _, .none, h => by simp [NestedKey.data] at h
  | .text _, .num _, h => by simp [NestedKey.data] at h
  | .text _, .tup _, h => by simp [NestedKey.data] at h
  | .tup _, .none, h => by simp [NestedKey.data] at h
  | .tup _, .num _, h => by simp [NestedKey.data] at h
  | .tup _, .text _, h => by simp [NestedKey.data] at h
theorem keys_inj : ∀ (a b : List NestedKey), NestedKey.datas a = NestedKey.datas b → a = b
  | [], [], _ => rfl
  | [], _ :: _, h => by simp [NestedKey.datas] at h
  | _ :: _, [], h => by simp [NestedKey.datas] at h
  | a :: as, b :: bs, h => by
    rw [NestedKey.datas, NestedKey.datas] at h
    injection h with h1 h2
    rw [key_inj a b h1, keys_inj as bs h2]
end
theorem keyNs_get : ∀ {ds : List PyData} {ks : List NestedKey}, keyNs ds = some ks → ks.length = ds.length ∧ ∀ (i : Nat) d k, ds[i]? = some d → ks[i]? = some k → keyN d = some k
  | [], ks, h => by rw [keyNs] at h; cases h; exact ⟨rfl, fun i d k h => by simp at h⟩
  | d :: ds, ks, h => by
    rw [keyNs] at h
    obtain ⟨k, h1, h2⟩ := Option.bind_eq_some_iff.mp h
    obtain ⟨ks', h3, h4⟩ := Option.bind_eq_some_iff.mp h2
    cases h4
    obtain ⟨l, q⟩ := keyNs_get h3
    refine ⟨by rw [List.length_cons, List.length_cons, l], fun i e j e1 e2 => ?_⟩
    match i with
    | 0 => cases e1; cases e2; exact h1
    | i + 1 => exact q i e j (by simpa using e1) (by simpa using e2)
/-- an object of the def's own: a list, a dict (with the hash of its keys) -/
inductive OC where
  | l (ds : List PyData) | d (hw : NestedKey → Int) (lk : Bool) (kvs : List (PyData × PyData))
/-- a dict whose keys are tuples, nested ones, too: by its entries -/
def DxO (hw : NestedKey → Int) (a : Addr) (ks : List (NestedKey × Addr × V)) : HO := .ext fun h => ks.length ≤ sizeLine ∧ (a == sysModules) = false ∧ ∃ xs : List (NestedKey × Addr × Value),
  Paired (fun (p : NestedKey × Addr × V) (q : NestedKey × Addr × Value) => p.1 = q.1 ∧ p.2.1 = q.2.1 ∧ RelV p.2.2 q.2.2) ks xs ∧
  ∃ o es ep, h.get? a = some o ∧ o.ExactDict ∧ o.data = .dict es ep ∧ es.toList = xs.map (fun x => ⟨hw x.1, .ref x.2.1, x.2.2⟩) ∧ (xs.map (·.1)).Nodup
/-- a dict's keys and values -/
inductive DicO (hw : NestedKey → Int) (a : Addr) : HO → List V → List V → List PyData → Prop
  | k (ks : List (Key × V)) (ds : List PyData) : DicO hw a (.dK ks) (ks.map fun q => kV q.1) (ks.map (·.2)) ds
  | t (ks : List (NestedKey × Addr × V)) : ks ≠ [] → (∀ q ∈ ks, q.1.depth ≤ 8 ∧ keyN q.1.data = some q.1) → DicO hw a (DxO hw a ks) (ks.map fun q => .ref q.2.1) (ks.map (·.2.2)) (ks.map fun q => q.1.data)
/-- .. locked while it is walked, or not -/
def Lk (lk : Bool) (u u0 : HO) : Prop := (lk = false ∧ u = u0) ∨ (lk = true ∧ ∃ o, u = .frz o u0)
def DicL (hw : NestedKey → Int) (a : Addr) (lk : Bool) (u : HO) (ks vs : List V) (ds : List PyData) : Prop := ∃ u0, Lk lk u u0 ∧ DicO hw a u0 ks vs ds
def OwnO (K : PySem.W.Frag) (A : Atm) (O : Addr → Prop) (H : Hp) (p : Addr) (u : HO) : OC → Prop
  | .l ds => ∃ xs, u = .lst xs ∧ Fds K A O H xs ds
  | .d hw lk kvs => ∃ ks vs, DicL hw p lk u ks vs (kvs.map (·.1)) ∧ Fds K A O H ks (kvs.map (·.1)) ∧ Fds K A O H vs (kvs.map (·.2))
section
variable {K : PySem.W.Frag} {A : Atm} {O O' : Addr → Prop} {H H' : Hp} {p : Addr} {u : HO} {c : OC}
theorem OwnO.evo (l : Owl O H) (e : Evo O H O' H') (h : OwnO K A O H p u c) : OwnO K A O' H' p u c := by
  cases c with
  | l ds => obtain ⟨xs, h1, h2⟩ := h; exact ⟨xs, h1, h2.evo l e⟩
  | d hw lk kvs => obtain ⟨ks, xs, h1, h2, h3⟩ := h; exact ⟨ks, xs, h1, h2.evo l e, h3.evo l e⟩
theorem OwnO.same (h : OwnO K A O H p u c) (e : Same H H') : OwnO K A O H' p u c := by
  cases c with
  | l ds => obtain ⟨xs, h1, h2⟩ := h; exact ⟨xs, h1, h2.same e⟩
  | d hw lk kvs => obtain ⟨ks, xs, h1, h2, h3⟩ := h; exact ⟨ks, xs, h1, h2.same e, h3.same e⟩
theorem OwnO.less (h : OwnO K A O H p u c) (s : ∀ a, O' a → O a) : OwnO K A O' H p u c := by
  cases c with
  | l ds => obtain ⟨xs, h1, h2⟩ := h; exact ⟨xs, h1, h2.less s⟩
  | d hw lk kvs => obtain ⟨ks, xs, h1, h2, h3⟩ := h; exact ⟨ks, xs, h1, h2.less s, h3.less s⟩
theorem OwnO.more (h : OwnO K A O H p u c) {q : Addr} (hp : H q = none) : OwnO K A (Osn O q) H p u c := by
  cases c with
  | l ds => obtain ⟨xs, h1, h2⟩ := h; exact ⟨xs, h1, h2.more hp⟩
  | d hw lk kvs => obtain ⟨ks, xs, h1, h2, h3⟩ := h; exact ⟨ks, xs, h1, h2.more hp, h3.more hp⟩
theorem OwnO.mu (h : OwnO K A O H p u c) : Mu u := by
  cases c with
  | l ds => obtain ⟨xs, rfl, _⟩ := h; trivial
  | d hw lk kvs =>
    obtain ⟨ks, xs, h1, _⟩ := h
    generalize kvs.map (·.1) = z at h1
    obtain ⟨u0, h0, h1⟩ := h1
    rcases h0 with ⟨_, rfl⟩ | ⟨_, o, rfl⟩ <;> cases h1 <;> trivial
end
inductive Sl where
  | un | val (d : PyData) | own (c : OC)
structure Rl (K : PySem.W.Frag) (A : Atm) (H0 : Hp) (O0 O : Addr → Prop) (σ : L2.St) (H : Hp) (ρ : List Sl) : Prop where
  len : σ.length = ρ.length
  val : ∀ (i : Nat) (d : PyData), ρ[i]? = some (Sl.val d) → ∃ v, σ[i]? = some (some v) ∧ Fd K A O H v d
  own : ∀ (i : Nat) (ds : OC), ρ[i]? = some (Sl.own ds) → ∃ p u, σ[i]? = some (some (V.ref p)) ∧ O p ∧ H0 p = none ∧ H p = some u ∧ OwnO K A O H p u ds
  inj : ∀ (i j : Nat) (ds es : OC) (p : Addr), ρ[i]? = some (Sl.own ds) → ρ[j]? = some (Sl.own es) → σ[i]? = some (some (V.ref p)) → σ[j]? = some (some (V.ref p)) → i = j
  owl : Owl O H
  frm : Same H0 H
  sub : ∀ a, O0 a → O a
  old : Owl O0 H0
section
variable {K : PySem.W.Frag} {A : Atm} {H0 : Hp} {O0 O O' : Addr → Prop} {σ σ' : L2.St} {H H' : Hp} {ρ ρ' : List Sl}
theorem Rl.same (r : Rl K A H0 O0 O σ H ρ) (e : Same H H') : Rl K A H0 O0 O σ H' ρ where
  len := r.len
  val := fun i d h => by
    obtain ⟨v, h1, h2⟩ := r.val i d h
    exact ⟨v, h1, h2.same e⟩
  own := fun i ds h => by
    obtain ⟨p, xs, h1, h2, h3, h4, h5⟩ := r.own i ds h
    exact ⟨p, xs, h1, h2, h3, e _ _ h4, h5.same e⟩
  inj := r.inj
  owl := r.owl.same e
  frm := r.frm.trans e
  sub := r.sub
  old := r.old
theorem Rl.old0 (r : Rl K A H0 O0 O σ H ρ) {p : Addr} (h : H0 p = none) : ¬ O0 p := r.old.none h
/-- a slot gets a value -/
theorem Rl.set (r : Rl K A H0 O0 O σ H ρ) (i : Nat) {v : V} {d : PyData} (h : Fd K A O H v d) : Rl K A H0 O0 O (σ.set i (some v)) H (ρ.set i (.val d)) where
  len := by rw [List.length_set, List.length_set, r.len]
  val := fun j e hj => by
    rw [List.getElem?_set] at hj ⊢
    by_cases hi : i = j
    · subst hi
      rw [if_pos rfl] at hj ⊢
      split at hj
      · rename_i hl
        cases hj
        rw [if_pos (by rw [r.len]; exact hl)]
        exact ⟨v, rfl, h⟩
      · cases hj
    · rw [if_neg hi] at hj ⊢
      exact r.val j e hj
  own := fun j es hj => by
    rw [List.getElem?_set] at hj ⊢
    by_cases hi : i = j
    · subst hi
      rw [if_pos rfl] at hj
      split at hj <;> cases hj
    · rw [if_neg hi] at hj ⊢
      exact r.own j es hj
  inj := fun j k ds es p hj hk sj sk => by
    have hij : i ≠ j := fun e => by
      subst e
      rw [List.getElem?_set, if_pos rfl] at hj
      split at hj <;> cases hj
    have hik : i ≠ k := fun e => by
      subst e
      rw [List.getElem?_set, if_pos rfl] at hk
      split at hk <;> cases hk
    rw [List.getElem?_set_ne hij] at hj sj
    rw [List.getElem?_set_ne hik] at hk sk
    exact r.inj j k ds es p hj hk sj sk
  owl := r.owl
  frm := r.frm
  sub := r.sub
  old := r.old
/-- a slot gets a list of its own -/
theorem Rl.setOwnC (r : Rl K A H0 O0 O σ H ρ) (i : Nat) {p : Addr} {xs : HO} {ds : OC} (hp : H p = none) (e : Same H H') (hx : H' p = some xs) (h : OwnO K A (Osn O p) H' p xs ds) :
    Rl K A H0 O0 (Osn O p) (σ.set i (some (.ref p))) H' (ρ.set i (.own ds)) where
  len := by rw [List.length_set, List.length_set, r.len]
  val := fun j e' hj => by
    rw [List.getElem?_set] at hj ⊢
    by_cases hi : i = j
    · subst hi
      rw [if_pos rfl] at hj
      split at hj <;> cases hj
    · rw [if_neg hi] at hj ⊢
      obtain ⟨v, h1, h2⟩ := r.val j e' hj
      exact ⟨v, h1, (h2.more hp).same e⟩
  own := fun j es hj => by
    rw [List.getElem?_set] at hj ⊢
    by_cases hi : i = j
    · subst hi
      rw [if_pos rfl] at hj ⊢
      split at hj
      · rename_i hl
        cases hj
        rw [if_pos (by rw [r.len]; exact hl)]
        exact ⟨p, xs, rfl, .inl rfl, r.frm.free hp, hx, h⟩
      · cases hj
    · rw [if_neg hi] at hj ⊢
      obtain ⟨q, ys, h1, h2, h3, h4, h5⟩ := r.own j es hj
      exact ⟨q, ys, h1, .inr h2, h3, e _ _ h4, (h5.more hp).same e⟩
  inj := fun j k es fs q hj hk sj sk => by
    have key : ∀ (j : Nat) (es : OC), (ρ.set i (Sl.own ds))[j]? = some (Sl.own es) → (σ.set i (some (V.ref p)))[j]? = some (some (V.ref q)) → (j = i ∧ q = p) ∨ (j ≠ i ∧ ρ[j]? = some (Sl.own es) ∧ σ[j]? = some (some (V.ref q)) ∧ q ≠ p) := fun j es hj sj => by
      by_cases hi : i = j
      · subst hi
        rw [List.getElem?_set, if_pos rfl] at sj
        split at sj
        · cases sj
          exact .inl ⟨rfl, rfl⟩
        · cases sj
      · rw [List.getElem?_set_ne hi] at hj sj
        refine .inr ⟨fun h => hi h.symm, hj, sj, fun h => ?_⟩
        obtain ⟨q', ys, h1, h2, h3, h4, h5⟩ := r.own j es hj
        rw [sj] at h1
        cases h1
        rw [h, hp] at h4
        cases h4
    rcases key j es hj sj with ⟨a1, a2⟩ | ⟨a1, a2, a3, a4⟩ <;> rcases key k fs hk sk with ⟨b1, b2⟩ | ⟨b1, b2, b3, b4⟩
    · rw [a1, b1]
    · exact absurd a2 b4
    · exact absurd b2 a4
    · exact r.inj j k es fs q a2 b2 a3 b3
  owl := fun a h => by
    rcases h with rfl | h'
    · exact ⟨xs, hx, h.mu⟩
    · exact r.owl.same e a h'
  frm := r.frm.trans e
  sub := fun a h => .inr (r.sub a h)
  old := r.old
theorem Rl.setOwn (r : Rl K A H0 O0 O σ H ρ) (i : Nat) {p : Addr} {xs : List V} {ds : List PyData} (hp : H p = none) (e : Same H H') (hx : H' p = some (.lst xs)) (h : Fds K A (Osn O p) H' xs ds) :
    Rl K A H0 O0 (Osn O p) (σ.set i (some (.ref p))) H' (ρ.set i (.own (.l ds))) := r.setOwnC i hp e hx ⟨xs, rfl, h⟩
/-- an own object changes -/
theorem Rl.growC (r : Rl K A H0 O0 O σ H ρ) {i : Nat} {p : Addr} {ds es : OC} {ys : HO} (hi : ρ[i]? = some (.own ds)) (hs : σ[i]? = some (some (V.ref p))) (h : OwnO K A O H p ys es) :
    Rl K A H0 O0 O σ (upd H p ys) (ρ.set i (.own es)) ∧ Evo O H O (upd H p ys) := by
  obtain ⟨p', xs', s1, s2, s3, s4, s5⟩ := r.own i ds hi
  rw [hs] at s1
  cases s1
  have ev : Evo O H O (upd H p ys) := fun a o ha hn => ⟨by
    rw [upd_ne (fun e => by subst e; exact hn s2)]
    exact ha, hn⟩
  refine ⟨⟨by rw [List.length_set, r.len], fun j d hj => ?_, fun j fs hj => ?_, fun j k fs gs q hj hk sj sk => ?_, fun a ha => ?_, fun a o ha => ?_, r.sub, r.old⟩, ev⟩
  · rw [List.getElem?_set] at hj
    by_cases hij : i = j
    · subst hij
      rw [if_pos rfl] at hj
      split at hj <;> cases hj
    · rw [if_neg hij] at hj
      obtain ⟨v, h1, h2⟩ := r.val j d hj
      exact ⟨v, h1, h2.evo r.owl ev⟩
  · rw [List.getElem?_set] at hj
    by_cases hij : i = j
    · subst hij
      rw [if_pos rfl] at hj
      split at hj
      · cases hj
        exact ⟨p, ys, hs, s2, s3, upd_same, h.evo r.owl ev⟩
      · cases hj
    · rw [if_neg hij] at hj
      obtain ⟨q, zs, h1, h2, h3, h4, h5⟩ := r.own j fs hj
      have hqp : q ≠ p := fun e => by
        subst e
        exact hij (r.inj i j ds fs q hi hj hs h1)
      exact ⟨q, zs, h1, h2, h3, by rw [upd_ne hqp]; exact h4, h5.evo r.owl ev⟩
  · have key : ∀ (j : Nat) (fs : OC), (ρ.set i (Sl.own es))[j]? = some (Sl.own fs) → ∃ gs, ρ[j]? = some (Sl.own gs) := fun j fs hj => by
      by_cases hij : i = j
      · subst hij
        exact ⟨ds, hi⟩
      · rw [List.getElem?_set_ne hij] at hj
        exact ⟨fs, hj⟩
    obtain ⟨f1, h1⟩ := key j fs hj
    obtain ⟨g1, h2⟩ := key k gs hk
    exact r.inj j k f1 g1 q h1 h2 sj sk
  · by_cases hap : a = p
    · subst hap
      exact ⟨ys, upd_same, h.mu⟩
    · rw [upd_ne hap]
      exact r.owl a ha
  · have hap : a ≠ p := fun e => by
      subst e
      rw [s3] at ha
      cases ha
    rw [upd_ne hap]
    exact r.frm a o ha
theorem Rl.grow (r : Rl K A H0 O0 O σ H ρ) {i : Nat} {p : Addr} {ds es : List PyData} {xs ys : List V} (hi : ρ[i]? = some (.own (.l ds))) (hs : σ[i]? = some (some (V.ref p))) (hx : H p = some (.lst xs)) (h : Fds K A O H ys es) :
    Rl K A H0 O0 O σ (upd H p (.lst ys)) (ρ.set i (.own (.l es))) ∧ Evo O H O (upd H p (.lst ys)) := r.growC hi hs ⟨ys, rfl, h⟩
/-- an own list is given away -/
def frz (i : Nat) (ρ : List Sl) : List Sl := match ρ[i]? with
  | some (.own (.l ds)) => ρ.set i (.val (.list ds))
  | _ => ρ
theorem Rl.frz (r : Rl K A H0 O0 O σ H ρ) (i : Nat) : ∃ O', Rl K A H0 O0 O' σ H (frz i ρ) ∧ Evo O H O' H ∧ ∀ a, O' a → O a := by
  unfold Sm.frz
  split
  · rename_i ds hi
    obtain ⟨p, _, s1, s2, s3, s4, xs, rfl, s5⟩ := r.own i _ hi
    have hl : i < σ.length := (List.getElem?_eq_some_iff.mp s1).1
    refine ⟨fun a => O a ∧ a ≠ p, ⟨by rw [List.length_set, r.len], fun j d hj => ?_, fun j fs hj => ?_, fun j k fs gs q hj hk sj sk => ?_, fun a ha => r.owl a ha.1, r.frm, fun a ha => ⟨r.sub a ha, fun e => r.old0 s3 (e ▸ ha)⟩, r.old⟩, fun a o ha hn => ⟨ha, fun h => hn h.1⟩, fun a h => h.1⟩
    · rw [List.getElem?_set] at hj
      by_cases hij : i = j
      · subst hij
        rw [if_pos rfl] at hj
        split at hj
        · cases hj
          exact ⟨_, s1, (s5.less fun a h => h.1).lst s4 fun h => h.2 rfl⟩
        · cases hj
      · rw [if_neg hij] at hj
        obtain ⟨v, h1, h2⟩ := r.val j d hj
        exact ⟨v, h1, h2.less fun a h => h.1⟩
    · rw [List.getElem?_set] at hj
      by_cases hij : i = j
      · subst hij
        rw [if_pos rfl] at hj
        split at hj <;> cases hj
      · rw [if_neg hij] at hj
        obtain ⟨q, zs, h1, h2, h3, h4, h5⟩ := r.own j fs hj
        have hqp : q ≠ p := fun e => by
          subst e
          exact hij (r.inj i j _ fs q hi hj s1 h1)
        exact ⟨q, zs, h1, ⟨h2, hqp⟩, h3, h4, h5.less fun a h => h.1⟩
    · have key : ∀ (j : Nat) (fs : OC), (ρ.set i (Sl.val (.list ds)))[j]? = some (Sl.own fs) → ρ[j]? = some (Sl.own fs) := fun j fs hj => by
        by_cases hij : i = j
        · subst hij
          rw [List.getElem?_set, if_pos rfl] at hj
          split at hj <;> cases hj
        · rw [List.getElem?_set_ne hij] at hj
          exact hj
      exact r.inj j k fs gs q (key j fs hj) (key k gs hk) sj sk
  · exact ⟨O, r, .refl, fun _ h => h⟩
/-- one more address is owned -/
theorem Rl.osn (r : Rl K A H0 O0 O σ H ρ) {p : Addr} {xs : List V} (hp : H p = none) (e : Same H H') (hx : H' p = some (.lst xs)) : Rl K A H0 O0 (Osn O p) σ H' ρ where
  len := r.len
  val := fun i d h => by
    obtain ⟨v, h1, h2⟩ := r.val i d h
    exact ⟨v, h1, (h2.more hp).same e⟩
  own := fun i ds h => by
    obtain ⟨q, xs, h1, h2, h3, h4, h5⟩ := r.own i ds h
    exact ⟨q, xs, h1, .inr h2, h3, e _ _ h4, (h5.more hp).same e⟩
  inj := r.inj
  owl := fun a h => by
    rcases h with rfl | h
    · exact ⟨_, hx, trivial⟩
    · exact r.owl.same e a h
  frm := r.frm.trans e
  sub := fun a h => .inr (r.sub a h)
  old := r.old
end
end Sm
set_option maxRecDepth 10000000
namespace Sm
open PySem PySem.Spec PyProof.Rows L2 Evl
abbrev FE := List Sl → Option PyData
abbrev FT := List Sl → Option Bool
abbrev FA := List Sl → Option (List PyData)
abbrev FO := List Sl → Option (Option Int)
abbrev F1 := PyData → Option PyData
abbrev F2 := PyData → PyData → Option PyData
abbrev Fn := List PyData → Option PyData
section
variable (K : PySem.W.Frag) (A : Atm)
def SE (t : TE) (f : FE) : Prop := ∀ {H0 : Hp} {O0 O : Addr → Prop} {σ : L2.St} {H : Hp} {ρ : List Sl}, Rl K A H0 O0 O σ H ρ → ∀ d, f ρ = some d → ∀ Q : VK, (∀ v H', Same H H' → Fd K A O H' v d → Q v H') → t σ H Q
def ST (t : TT) (f : FT) : Prop := ∀ {H0 : Hp} {O0 O : Addr → Prop} {σ : L2.St} {H : Hp} {ρ : List Sl}, Rl K A H0 O0 O σ H ρ → ∀ b, f ρ = some b → ∀ Q : Bool → Hp → Prop, (∀ H', Same H H' → Q b H') → t σ H Q
def SA (t : TA) (f : FA) : Prop := ∀ {H0 : Hp} {O0 O : Addr → Prop} {σ : L2.St} {H : Hp} {ρ : List Sl}, Rl K A H0 O0 O σ H ρ → ∀ ds, f ρ = some ds → ∀ Q : List V → Hp → Prop, (∀ vs H', Same H H' → Fds K A O H' vs ds → Q vs H') → t σ H Q
def SL (t : TE) (f : FA) : Prop := ∀ {H0 : Hp} {O0 O : Addr → Prop} {σ : L2.St} {H : Hp} {ρ : List Sl}, Rl K A H0 O0 O σ H ρ → ∀ ds, f ρ = some ds → ∀ Q : VK, (∀ p xs H', H p = none → Same H H' → H' p = some (.lst xs) → Fds K A (Osn O p) H' xs ds → Q (.ref p) H') → t σ H Q
def SO (t : TO) (f : FO) : Prop := ∀ {H0 : Hp} {O0 O : Addr → Prop} {σ : L2.St} {H : Hp} {ρ : List Sl}, Rl K A H0 O0 O σ H ρ → ∀ o, f ρ = some o → ∀ Q : Option Int → Hp → Prop, (∀ H', Same H H' → Q o H') → t σ H Q
def RD (r : R2) (g : F2) : Prop := ∀ {O : Addr → Prop} {H : Hp} {x y : V} {a b : PyData}, Owl O H → Fd K A O H x a → Fd K A O H y b → ∀ c, g a b = some c → ∀ Q : VK, (∀ v H', Same H H' → Fd K A O H' v c → Q v H') → r x y H Q
def RDL (r : R2) (g : PyData → PyData → Option (List PyData)) : Prop := ∀ {O : Addr → Prop} {H : Hp} {x y : V} {a b : PyData}, Owl O H → Fd K A O H x a → Fd K A O H y b → ∀ ds, g a b = some ds → ∀ Q : VK, (∀ p xs H', H p = none → Same H H' → H' p = some (.lst xs) → Fds K A (Osn O p) H' xs ds → Q (.ref p) H') → r x y H Q
def RU1 (r : V → Hp → VK → Prop) (g : F1) : Prop := ∀ {O : Addr → Prop} {H : Hp} {x : V} {a : PyData}, Owl O H → Fd K A O H x a → ∀ c, g a = some c → ∀ Q : VK, (∀ v H', Same H H' → Fd K A O H' v c → Q v H') → r x H Q
def RDs (r : List V → Hp → VK → Prop) (g : Fn) : Prop := ∀ {O : Addr → Prop} {H : Hp} {xs : List V} {ds : List PyData}, Owl O H → Fds K A O H xs ds → ∀ c, g ds = some c → ∀ Q : VK, (∀ v H', Same H H' → Fd K A O H' v c → Q v H') → r xs H Q
def RDsL (r : List V → Hp → VK → Prop) (g : List PyData → Option (List PyData)) : Prop := ∀ {O : Addr → Prop} {H : Hp} {xs : List V} {ds : List PyData}, Owl O H → Fds K A O H xs ds → ∀ es, g ds = some es → ∀ Q : VK, (∀ p ys H', H p = none → Same H H' → H' p = some (.lst ys) → Fds K A (Osn O p) H' ys es → Q (.ref p) H') → r xs H Q
end
def fVar (i : Nat) : FE := fun ρ => match ρ[i]? with
  | some (.val d) => some d
  | _ => none
def fC (d : PyData) : FE := fun _ => some d
def fOp (g : F2) (fa fb : FE) : FE := fun ρ => (fa ρ).bind fun a => (fb ρ).bind fun b => g a b
def fOpL (g : PyData → PyData → Option (List PyData)) (fa fb : FE) : FA := fun ρ => (fa ρ).bind fun a => (fb ρ).bind fun b => g a b
def fUn (g : F1) (fa : FE) : FE := fun ρ => (fa ρ).bind g
def fNil : FA := fun _ => some []
def fCons (fe : FE) (fr : FA) : FA := fun ρ => (fe ρ).bind fun a => (fr ρ).bind fun r => some (a :: r)
def asB : PyData → Option Bool
  | .bool b => some b
  | _ => none
def fB (fe : FE) : FT := fun ρ => (fe ρ).bind asB
def fAnd (a b : FT) : FT := fun ρ => (a ρ).bind fun x => if x then b ρ else some false
def fOr (a b : FT) : FT := fun ρ => (a ρ).bind fun x => if x then some true else b ρ
def fNot (a : FT) : FT := fun ρ => (a ρ).bind fun x => some (!x)
def fAndV (a b : FE) : FE := fun ρ => (a ρ).bind fun x => (asB x).bind fun x => if x then b ρ else some (.bool false)
def fOrV (a b : FE) : FE := fun ρ => (a ρ).bind fun x => (asB x).bind fun x => if x then some (.bool true) else b ρ
def fNotV (a : FE) : FE := fun ρ => (a ρ).bind fun x => (asB x).bind fun x => some (.bool (!x))
def fIf (t : FT) (a b : FE) : FE := fun ρ => (t ρ).bind fun x => if x then a ρ else b ρ
def fChain (g g' : F2) (a b c : FE) : FE := fun ρ => (a ρ).bind fun x => (b ρ).bind fun y => (g x y).bind fun z => (asB z).bind fun z => if z then (c ρ).bind fun w => g' y w else some (.bool false)
def lim {α : Type} (n : Nat) (x : α) : Option α := if n ≤ 10000000 then some x else none
def fTup (fs : FA) : FE := fun ρ => (fs ρ).bind fun ds => lim ds.length (.tuple ds)
def fLst (fs : FA) : FA := fun ρ => (fs ρ).bind fun ds => lim ds.length ds
def fNoPart : FO := fun _ => some none
def fPart (fe : FE) : FO := fun ρ => (fe ρ).bind fun d => match d with
  | .int i => some (some i)
  | _ => none
def fSl (g : PyData → Option Int → Option Int → Option PyData) (fe : FE) (fl fh : FO) : FE := fun ρ => (fe ρ).bind fun d => (fl ρ).bind fun l => (fh ρ).bind fun h => g d l h
def fCall (fn : Fn) (fa : FA) : FE := fun ρ => (fa ρ).bind fn
def fCallL (fn : List PyData → Option (List PyData)) (fa : FA) : FA := fun ρ => (fa ρ).bind fn
theorem lim_some {α : Type} {n : Nat} {x y : α} (h : lim n x = some y) : n ≤ 10000000 ∧ x = y := by
  unfold lim at h
  split at h
  · rename_i hn
    exact ⟨hn, Option.some.inj h⟩
  · cases h
section
variable {K : PySem.W.Frag} {A : Atm} {ta tb tc te : TE} {fa fb fc fe : FE} {tt tu : TT} {ft fu : FT} {tas : TA} {fas : FA} {r r' : R2} {g g' : F2}
theorem bind_some' {α β : Type} {o : Option α} {f : α → Option β} {y : β} (h : o.bind f = some y) : ∃ x, o = some x ∧ f x = some y := Option.bind_eq_some_iff.mp h
theorem se_var (i : Nat) : SE K A (tVar i) (fVar i) := fun r d h Q q => by
  unfold fVar at h
  split at h
  · rename_i e hi
    cases h
    obtain ⟨v, h1, h2⟩ := r.val i d hi
    exact ⟨v, h1, q v _ (.refl _) h2⟩
  · cases h
theorem se_c {v : V} {d : PyData} (h : ∀ O H, Fd K A O H v d) : SE K A (tC v) (fC d) := fun r e he Q q => by
  cases he
  exact q v _ (.refl _) (h _ _)
theorem se_int {i : Int} : SE K A (tC (.int i)) (fC (.int i)) := se_c fun _ _ => .int i
theorem se_str {x : Str} : SE K A (tC (.str x)) (fC (.str x)) := se_c fun _ _ => .str x
theorem se_bl {b : Bool} : SE K A (tC (.bl b)) (fC (.bool b)) := se_c fun _ _ => .bl b
theorem se_non : SE K A (tC .non) (fC .none) := se_c fun _ _ => .non
theorem se_op (ha : SE K A ta fa) (hb : SE K A tb fb) (hr : RD K A r g) : SE K A (tOp r ta tb) (fOp g fa fb) := fun R d h Q q => by
  obtain ⟨a, h1, h⟩ := bind_some' h
  obtain ⟨b, h2, h⟩ := bind_some' h
  refine ha R a h1 _ fun x H1 e1 hx => hb (R.same e1) b h2 _ fun y H2 e2 hy => ?_
  exact hr (R.owl.same (e1.trans e2)) (hx.same e2) hy d h Q fun v H3 e3 hv => q v H3 ((e1.trans e2).trans e3) hv
theorem sl_op {r : R2} {g : PyData → PyData → Option (List PyData)} (ha : SE K A ta fa) (hb : SE K A tb fb) (hr : RDL K A r g) : SL K A (tOp r ta tb) (fOpL g fa fb) := fun R d h Q q => by
  obtain ⟨a, h1, h⟩ := bind_some' h
  obtain ⟨b, h2, h⟩ := bind_some' h
  refine ha R a h1 _ fun x H1 e1 hx => hb (R.same e1) b h2 _ fun y H2 e2 hy => ?_
  exact hr (R.owl.same (e1.trans e2)) (hx.same e2) hy d h Q fun p xs H3 hp e3 hq hv => q p xs H3 ((e1.trans e2).free hp) ((e1.trans e2).trans e3) hq hv
theorem se_un {r : V → Hp → VK → Prop} {g : F1} (ha : SE K A ta fa) (hr : RU1 K A r g) : SE K A (tUn r ta) (fUn g fa) := fun R d h Q q => by
  obtain ⟨a, h1, h⟩ := bind_some' h
  exact ha R a h1 _ fun x H1 e1 hx => hr (R.owl.same e1) hx d h Q fun v H2 e2 hv => q v H2 (e1.trans e2) hv
theorem sa_nil : SA K A tNil fNil := fun R ds h Q q => by
  cases h
  exact q [] _ (.refl _) .nil
theorem sa_cons (ha : SE K A ta fa) (hr : SA K A tas fas) : SA K A (tCons ta tas) (fCons fa fas) := fun R d h Q q => by
  obtain ⟨a, h1, h⟩ := bind_some' h
  obtain ⟨ds, h2, h⟩ := bind_some' h
  cases h
  exact ha R a h1 _ fun x H1 e1 hx => hr (R.same e1) ds h2 _ fun vs H2 e2 hvs => q _ H2 (e1.trans e2) (.cons (hx.same e2) hvs)
theorem st_B (h : SE K A te fe) : ST K A (tB te) (fB fe) := fun R b hb Q q => by
  obtain ⟨d, h1, h2⟩ := bind_some' hb
  cases d <;> try cases h2
  exact h R _ h1 _ fun v H1 e1 hv => ⟨b, hv.bl_inv, q H1 e1⟩
theorem st_test (h : SE K A te fe) : ST K A (tTest te) (fB fe) := fun R b hb Q q => by
  obtain ⟨d, h1, h2⟩ := bind_some' hb
  cases d <;> try cases h2
  exact h R _ h1 _ fun v H1 e1 hv => ⟨b, hv.bl_inv, q H1 e1⟩
theorem st_and (h : ST K A tt ft) (h' : ST K A tu fu) : ST K A (tAnd tt tu) (fAnd ft fu) := fun R b hb Q q => by
  obtain ⟨x, h1, h2⟩ := bind_some' hb
  refine h R x h1 _ fun H1 e1 => ?_
  cases x with
  | true => exact iteT (h' (R.same e1) b h2 Q fun H2 e2 => q H2 (e1.trans e2))
  | false =>
    cases h2
    exact iteF (q H1 e1)
theorem st_or (h : ST K A tt ft) (h' : ST K A tu fu) : ST K A (tOr tt tu) (fOr ft fu) := fun R b hb Q q => by
  obtain ⟨x, h1, h2⟩ := bind_some' hb
  refine h R x h1 _ fun H1 e1 => ?_
  cases x with
  | false => exact iteF (h' (R.same e1) b h2 Q fun H2 e2 => q H2 (e1.trans e2))
  | true =>
    cases h2
    exact iteT (q H1 e1)
theorem st_not (h : ST K A tt ft) : ST K A (tNot tt) (fNot ft) := fun R b hb Q q => by
  obtain ⟨x, h1, h2⟩ := bind_some' hb
  cases h2
  exact h R x h1 _ fun H1 e1 => q H1 e1
theorem st_yes : ST K A tYes (fun _ => some true) := fun R b hb Q q => by
  cases hb
  exact q _ (.refl _)
theorem asB_some {d : PyData} {b : Bool} (h : asB d = some b) : d = .bool b := by
  cases d <;> first | (cases h; rfl) | cases h
theorem se_and (ha : SE K A ta fa) (hb : SE K A tb fb) : SE K A (tAndV ta tb) (fAndV fa fb) := fun R d h Q q => by
  obtain ⟨x, h1, h⟩ := bind_some' h
  obtain ⟨c, h2, h⟩ := bind_some' h
  cases asB_some h2
  refine ha R _ h1 _ fun v H1 e1 hv => ⟨c, hv.bl_inv, ?_⟩
  cases c with
  | true => exact iteT (hb (R.same e1) d h Q fun v H2 e2 hv => q v H2 (e1.trans e2) hv)
  | false =>
    cases h
    exact iteF (q _ H1 e1 (.bl _))
theorem se_or (ha : SE K A ta fa) (hb : SE K A tb fb) : SE K A (tOrV ta tb) (fOrV fa fb) := fun R d h Q q => by
  obtain ⟨x, h1, h⟩ := bind_some' h
  obtain ⟨c, h2, h⟩ := bind_some' h
  cases asB_some h2
  refine ha R _ h1 _ fun v H1 e1 hv => ⟨c, hv.bl_inv, ?_⟩
  cases c with
  | false => exact iteF (hb (R.same e1) d h Q fun v H2 e2 hv => q v H2 (e1.trans e2) hv)
  | true =>
    cases h
    exact iteT (q _ H1 e1 (.bl _))
theorem se_one (h : SE K A te fe) : SE K A te fe := h
theorem se_not (ha : SE K A ta fa) : SE K A (tNotV ta) (fNotV fa) := fun R d h Q q => by
  obtain ⟨x, h1, h⟩ := bind_some' h
  obtain ⟨c, h2, h⟩ := bind_some' h
  cases asB_some h2
  cases h
  exact ha R _ h1 _ fun v H1 e1 hv => ⟨c, hv.bl_inv, q _ H1 e1 (.bl _)⟩
theorem se_if (ht : ST K A tt ft) (ha : SE K A ta fa) (hb : SE K A tb fb) : SE K A (tIf tt ta tb) (fIf ft fa fb) := fun R d h Q q => by
  obtain ⟨x, h1, h⟩ := bind_some' h
  refine ht R x h1 _ fun H1 e1 => ?_
  cases x with
  | true => exact iteT (ha (R.same e1) d h Q fun v H2 e2 hv => q v H2 (e1.trans e2) hv)
  | false => exact iteF (hb (R.same e1) d h Q fun v H2 e2 hv => q v H2 (e1.trans e2) hv)
theorem se_chain (ha : SE K A ta fa) (hb : SE K A tb fb) (hc : SE K A tc fc) (hr : RD K A r g) (hr' : RD K A r' g') : SE K A (tChain r r' ta tb tc) (fChain g g' fa fb fc) := fun R d h Q q => by
  obtain ⟨x, h1, h⟩ := bind_some' h
  obtain ⟨y, h2, h⟩ := bind_some' h
  obtain ⟨z, h3, h⟩ := bind_some' h
  obtain ⟨c, h4, h⟩ := bind_some' h
  cases asB_some h4
  refine ha R x h1 _ fun vx H1 e1 hx => hb (R.same e1) y h2 _ fun vy H2 e2 hy => hr (R.owl.same (e1.trans e2)) (hx.same e2) hy _ h3 _ fun vz H3 e3 hz => ⟨c, hz.bl_inv, ?_⟩
  have e13 := (e1.trans e2).trans e3
  cases c with
  | true =>
    refine iteT ?_
    have h : ((fc _).bind fun w => g' y w) = some d := h
    obtain ⟨w, h5, h⟩ := bind_some' h
    exact hc (R.same e13) w h5 _ fun vw H4 e4 hw => hr' (R.owl.same (e13.trans e4)) (hy.same (e3.trans e4)) hw d h Q fun v H5 e5 hv => q v H5 ((e13.trans e4).trans e5) hv
  | false =>
    cases h
    exact iteF (q _ H3 e13 (.bl _))
theorem sz100 {n : Nat} (h : n ≤ 10000000) : n ≤ sizeLine := Nat.le_trans h (by decide)
theorem se_tup (h : SA K A tas fas) : SE K A (tTup tas) (fTup fas) := fun R d hd Q q => by
  obtain ⟨ds, h1, h2⟩ := bind_some' hd
  obtain ⟨h3, rfl⟩ := lim_some h2
  exact h R ds h1 _ fun vs H1 e1 hvs => ⟨sz100 (by rw [hvs.1]; exact h3), fun p hp => q _ _ (e1.trans (Cr.same_new hp)) ((hvs.same (Cr.same_new hp)).tup (.of upd_same))⟩
theorem sl_lst (h : SA K A tas fas) : SL K A (tLst tas) (fLst fas) := fun R d hd Q q => by
  obtain ⟨ds, h1, h2⟩ := bind_some' hd
  obtain ⟨h3, rfl⟩ := lim_some h2
  exact h R ds h1 _ fun vs H1 e1 hvs => ⟨sz100 (by rw [hvs.1]; exact h3), fun p hp => q p vs _ (e1.free hp) (e1.trans (Cr.same_new hp)) upd_same ((hvs.more hp).same (Cr.same_new hp))⟩
/-- a new list as a value -/
def fV (f : FA) : FE := fun ρ => (f ρ).bind fun ds => some (.list ds)
theorem se_l (h : SL K A te fas) : SE K A te (fV fas) := fun R d hd Q q => by
  obtain ⟨ds, h1, h2⟩ := bind_some' hd
  cases h2
  exact h R ds h1 _ fun p xs H1 hp e1 hx hxs => q _ H1 e1 ((hxs.less fun a h => .inr h).lst hx (R.owl.none hp))
theorem so_none : SO K A tNoPart fNoPart := fun R o h Q q => by
  cases h
  exact q _ (.refl _)
theorem so_some (h : SE K A te fe) : SO K A (tPart te) (fPart fe) := fun R o ho Q q => by
  obtain ⟨d, h1, h2⟩ := bind_some' ho
  cases d <;> try cases h2
  exact h R _ h1 _ fun v H1 e1 hv => ⟨_, hv.int_inv, q H1 e1⟩
def RS (K : PySem.W.Frag) (A : Atm) (r : V → Option Int → Option Int → Hp → VK → Prop) (g : PyData → Option Int → Option Int → Option PyData) : Prop := ∀ {O : Addr → Prop} {H : Hp} {x : V} {a : PyData}, Owl O H → Fd K A O H x a → ∀ lo hi c, g a lo hi = some c → ∀ Q : VK, (∀ v H', Same H H' → Fd K A O H' v c → Q v H') → r x lo hi H Q
theorem se_sl {r : V → Option Int → Option Int → Hp → VK → Prop} {g : PyData → Option Int → Option Int → Option PyData} {tl th : TO} {fl fh : FO} (h : SE K A te fe) (hl : SO K A tl fl) (hh : SO K A th fh) (hr : RS K A r g) : SE K A (tSl r te tl th) (fSl g fe fl fh) := fun R d hd Q q => by
  obtain ⟨a, h1, hd⟩ := bind_some' hd
  obtain ⟨l, h2, hd⟩ := bind_some' hd
  obtain ⟨u, h3, hd⟩ := bind_some' hd
  exact h R a h1 _ fun x H1 e1 hx => hl (R.same e1) l h2 _ fun H2 e2 => hh (R.same (e1.trans e2)) u h3 _ fun H3 e3 =>
    hr (R.owl.same ((e1.trans e2).trans e3)) (hx.same (e2.trans e3)) l u d hd Q fun v H4 e4 hv => q v H4 (((e1.trans e2).trans e3).trans e4) hv
/-- a built-in's call -/
theorem se_cb {r : List V → Hp → VK → Prop} {gn : Fn} (h : SA K A tas fas) (hr : RDs K A r gn) : SE K A (tCB r tas) (fCall gn fas) := fun R d hd Q q => by
  obtain ⟨ds, h1, h2⟩ := bind_some' hd
  exact h R ds h1 _ fun vs H1 e1 hvs => hr (R.owl.same e1) hvs d h2 Q fun v H2 e2 hv => q v H2 (e1.trans e2) hv
theorem sl_cb {r : List V → Hp → VK → Prop} {gn : List PyData → Option (List PyData)} (h : SA K A tas fas) (hr : RDsL K A r gn) : SL K A (tCB r tas) (fCallL gn fas) := fun R d hd Q q => by
  obtain ⟨ds, h1, h2⟩ := bind_some' hd
  exact h R ds h1 _ fun vs H1 e1 hvs => hr (R.owl.same e1) hvs d h2 Q fun p xs H2 hp e2 hx hv => q p xs H2 (e1.free hp) (e1.trans e2) hx hv
/-- the promise of a def that follows a function of data -/
def spF (K : PySem.W.Frag) (A : Atm) (fn : Fn) : Sp := fun vs H Q _ => ∃ (O : Addr → Prop) (ds : List PyData) (r : PyData), Owl O H ∧ Fds K A O H vs ds ∧ fn ds = some r ∧ ∀ v H', Same H H' → Fd K A O H' v r → Q v H'
theorem se_call {E : XK} {fn : Fn} (h : SA K A tas fas) : SE K A (tCall (spF K A fn) [] E tas) (fCall fn fas) := fun {H0 O0 O σ H ρ} R d hd Q q => by
  obtain ⟨ds, h1, h2⟩ := bind_some' hd
  exact h R ds h1 _ fun vs H1 e1 hvs => ⟨O, ds, d, R.owl.same e1, by rw [List.append_nil]; exact hvs, h2, fun v H2 e2 hv => q v H2 (e1.trans e2) hv⟩
end
end Sm
set_option maxRecDepth 10000000
namespace Sm
open PySem PySem.Spec PyProof.Rows L2 Evl
/-! ### statements -/
inductive Fl where
  | nx | bk | ct | rt (d : PyData)
abbrev FS := List Sl → Option (Fl × List Sl)
def Post (K : PySem.W.Frag) (A : Atm) (H0 : Hp) (O0 O : Addr → Prop) (H : Hp) (D : Ends) (o : Fl × List Sl) : Prop := match o.1 with
  | .nx => ∀ σ' H' O', Rl K A H0 O0 O' σ' H' o.2 → Evo O H O' H' → D.nx σ' H'
  | .bk => ∀ σ' H' O', Rl K A H0 O0 O' σ' H' o.2 → Evo O H O' H' → D.bk σ' H'
  | .ct => ∀ σ' H' O', Rl K A H0 O0 O' σ' H' o.2 → Evo O H O' H' → D.ct σ' H'
  | .rt d => ∀ v H', Same H0 H' → Fd K A O0 H' v d → D.rt v H'
def SS (K : PySem.W.Frag) (A : Atm) (t : TS) (f : FS) : Prop := ∀ {H0 : Hp} {O0 O : Addr → Prop} {σ : L2.St} {H : Hp} {ρ : List Sl}, Rl K A H0 O0 O σ H ρ → ∀ o, f ρ = some o → ∀ D : Ends, Post K A H0 O0 O H D o → t D σ H
def SG (K : PySem.W.Frag) (A : Atm) (g : TG) (f : PyData → List Sl → Option (List Sl)) (ws : List Nat) : Prop := ∀ {H0 : Hp} {O0 O : Addr → Prop} {σ : L2.St} {H : Hp} {ρ : List Sl} {v : V} {d : PyData}, Rl K A H0 O0 O σ H ρ → Fd K A O H v d → ∀ ρ', f d ρ = some ρ' → ∀ Q : L2.St → Hp → Prop, (∀ σ', Rl K A H0 O0 O σ' H ρ' → σ'.length = σ.length → (∀ i, i ∉ ws → σ'[i]? = σ[i]?) → (∀ (i : Nat) (es : OC), ρ'[i]? = some (Sl.own es) → ρ[i]? = some (Sl.own es) ∧ i ∉ ws) → Q σ' H) → g v σ H Q
def SGs (K : PySem.W.Frag) (A : Atm) (g : TGs) (f : List PyData → List Sl → Option (List Sl)) (ws : List Nat) : Prop := ∀ {H0 : Hp} {O0 O : Addr → Prop} {σ : L2.St} {H : Hp} {ρ : List Sl} {vs : List V} {ds : List PyData}, Rl K A H0 O0 O σ H ρ → Fds K A O H vs ds → ∀ ρ', f ds ρ = some ρ' → ∀ Q : L2.St → Hp → Prop, (∀ σ', Rl K A H0 O0 O σ' H ρ' → σ'.length = σ.length → (∀ i, i ∉ ws → σ'[i]? = σ[i]?) → (∀ (i : Nat) (es : OC), ρ'[i]? = some (Sl.own es) → ρ[i]? = some (Sl.own es) ∧ i ∉ ws) → Q σ' H) → g vs σ H Q
def gS (i : Nat) : PyData → List Sl → Option (List Sl) := fun d ρ => some (ρ.set i (.val d))
def gT (n : Nat) (f : List PyData → List Sl → Option (List Sl)) : PyData → List Sl → Option (List Sl) := fun d ρ => match d with
  | .tuple ds => if ds.length = n then f ds ρ else none
  | _ => none
def gN : List PyData → List Sl → Option (List Sl) := fun ds ρ => match ds with
  | [] => some ρ
  | _ => none
def gC (f : PyData → List Sl → Option (List Sl)) (g : List PyData → List Sl → Option (List Sl)) : List PyData → List Sl → Option (List Sl) := fun ds ρ => match ds with
  | d :: ds => (f d ρ).bind fun ρ1 => g ds ρ1
  | [] => none
def fNext : FS := fun ρ => some (.nx, ρ)
def fThen (o : Option (Fl × List Sl)) (g : FS) : Option (Fl × List Sl) := match o with
  | some (.nx, ρ') => g ρ'
  | o => o
def fSeq (f g : FS) : FS := fun ρ => fThen (f ρ) g
def fRet (fe : FE) : FS := fun ρ => (fe ρ).bind fun d => some (.rt d, ρ)
def fIfS (t : FT) (f g : FS) : FS := fun ρ => (t ρ).bind fun b => if b then f ρ else g ρ
def fAsg (fe : FE) (g : PyData → List Sl → Option (List Sl)) : FS := fun ρ => (fe ρ).bind fun d => (g d ρ).bind fun ρ' => some (.nx, ρ')
def fOwn (i : Nat) (fa : FA) : FS := fun ρ => (fa ρ).bind fun ds => some (.nx, ρ.set i (.own (.l ds)))
def fApp (i : Nat) (fe : FE) : FS := fun ρ => match ρ[i]? with
  | some (.own (.l ds)) => (fe ρ).bind fun d => (lim (ds.length + 1) (ds ++ [d])).bind fun es => some (.nx, ρ.set i (.own (.l es)))
  | _ => none
def fExt (i : Nat) (fe : FE) : FS := fun ρ => match ρ[i]? with
  | some (.own (.l ds)) => (fe ρ).bind fun d => match d with
    | .list zs => (lim (ds.length + zs.length) (ds ++ zs)).bind fun es => some (.nx, ρ.set i (.own (.l es)))
    | _ => none
  | _ => none
def fBrk : FS := fun ρ => some (.bk, ρ)
def fCnt : FS := fun ρ => some (.ct, ρ)
def fDrop (fe : FE) : FS := fun ρ => (fe ρ).bind fun _ => some (.nx, ρ)
def fFrz (i : Nat) (f : FS) : FS := fun ρ => f (frz i ρ)
/-- one turn and the rest -/
def fTurn (o : Option (Fl × List Sl)) (g : List Sl → Option (Fl × List Sl)) : Option (Fl × List Sl) := match o with
  | some (.nx, ρ) => g ρ
  | some (.ct, ρ) => g ρ
  | some (.bk, ρ) => some (.nx, ρ)
  | some (.rt d, ρ) => some (.rt d, ρ)
  | none => none
def fLoop (g : PyData → List Sl → Option (List Sl)) (b : FS) : List PyData → List Sl → Option (Fl × List Sl)
  | [], ρ => some (.nx, ρ)
  | d :: ds, ρ => (g d ρ).bind fun ρ1 => fTurn (b ρ1) (fLoop g b ds)
def fFor (fi : FA) (g : PyData → List Sl → Option (List Sl)) (b : FS) : FS := fun ρ => (fi ρ).bind fun ds => fLoop g b ds ρ
def fWhile (t : FT) (b : FS) : Nat → List Sl → Option (Fl × List Sl)
  | 0, _ => none
  | n + 1, ρ => (t ρ).bind fun x => if x then fTurn (b ρ) (fWhile t b n) else some (.nx, ρ)
section
variable {K : PySem.W.Frag} {A : Atm} {H0 : Hp} {O0 O O' : Addr → Prop} {H H' : Hp} {te : TE} {fe : FE} {tt : TT} {ft : FT} {fas : FA} {t u : TS} {f g : FS} {D D' : Ends} {o : Fl × List Sl}
theorem Post.evo (e : Evo O H O' H') (p : Post K A H0 O0 O H D o) : Post K A H0 O0 O' H' D o := by
  obtain ⟨fl, ρ⟩ := o
  cases fl with
  | nx => exact fun σ' H'' O'' r ev => p σ' H'' O'' r (e.trans ev)
  | bk => exact fun σ' H'' O'' r ev => p σ' H'' O'' r (e.trans ev)
  | ct => exact fun σ' H'' O'' r ev => p σ' H'' O'' r (e.trans ev)
  | rt d => exact p
theorem ss_next : SS K A tNext fNext := fun r o h D p => by
  cases h
  exact p _ _ _ r .refl
theorem ss_seq (h1 : SS K A t f) (h2 : SS K A u g) : SS K A (tSeq t u) (fSeq f g) := fun {H0 O0 O σ H ρ} r o h D p => by
  have h : fThen (f ρ) g = some o := h
  cases e : f ρ with
  | none => rw [e] at h; cases h
  | some o1 =>
    rw [e] at h
    obtain ⟨fl, ρ1⟩ := o1
    cases fl with
    | nx => exact h1 r _ e _ fun σ' H' O' r' ev => h2 r' o h D (p.evo ev)
    | bk => cases h; exact h1 r _ e _ p
    | ct => cases h; exact h1 r _ e _ p
    | rt d => cases h; exact h1 r _ e _ p
theorem ss_ret (h : SE K A te fe) : SS K A (tRet te) (fRet fe) := fun r o ho D p => by
  obtain ⟨d, h1, h2⟩ := bind_some' ho
  cases h2
  exact h r d h1 _ fun v H' e hv => p v H' (r.frm.trans e) (hv.less r.sub)
theorem ss_if (ht : ST K A tt ft) (h1 : SS K A t f) (h2 : SS K A u g) : SS K A (tIfS tt t u) (fIfS ft f g) := fun {H0 O0 O σ H ρ} r o ho D p => by
  obtain ⟨b, hb, h⟩ := bind_some' ho
  refine ht r b hb _ fun H1 e1 => ?_
  cases b with
  | true => exact iteT (h1 (r.same e1) o (by simpa using h) D (p.evo (.same e1)))
  | false => exact iteF (h2 (r.same e1) o (by simpa using h) D (p.evo (.same e1)))
theorem ss_asg {tg : TG} {gg : PyData → List Sl → Option (List Sl)} {ws : List Nat} (h : SE K A te fe) (hg : SG K A tg gg ws) : SS K A (tAsg te tg) (fAsg fe gg) := fun r o ho D p => by
  obtain ⟨d, h1, h2⟩ := bind_some' ho
  obtain ⟨ρ', h3, h4⟩ := bind_some' h2
  cases h4
  exact h r d h1 _ fun v H1 e1 hv => hg (r.same e1) hv ρ' h3 _ fun σ' r' _ _ _ => p σ' H1 _ r' (.same e1)
theorem ss_own {i : Nat} (h : SL K A te fas) : SS K A (tAsg te (gName i)) (fOwn i fas) := fun {H0 O0 O σ H ρ} r o ho D p => by
  obtain ⟨ds, h1, h2⟩ := bind_some' ho
  cases h2
  refine h r ds h1 _ fun q xs H1 hq e1 hx hxs => ?_
  have p' : ∀ σ' H' O', Rl K A H0 O0 O' σ' H' (ρ.set i (.own (.l ds))) → Evo O H O' H' → D.nx σ' H' := p
  refine p' (σ.set i (some (.ref q))) H1 (Osn O q) (r.setOwn i hq e1 hx hxs) fun a o ha hn => ⟨e1 _ _ ha, fun h => ?_⟩
  rcases h with h | h
  · rw [h, hq] at ha
    cases ha
  · exact hn h
theorem ss_app {i : Nat} (h : SE K A te fe) : SS K A (tDrop (tBM K "list" rAppend (tVar i) (tCons te tNil))) (fApp i fe) := fun {H0 O0 O σ H ρ} r o ho D p => by
  have ho : (match ρ[i]? with
    | some (.own (.l ds)) => (fe ρ).bind fun d => (lim (ds.length + 1) (ds ++ [d])).bind fun es => some (.nx, ρ.set i (.own (.l es)))
    | _ => none) = some o := ho
  split at ho
  · rename_i ds hi
    obtain ⟨d, h1, h2⟩ := bind_some' ho
    obtain ⟨es, h3, h4⟩ := bind_some' h2
    cases h4
    obtain ⟨h5, rfl⟩ := lim_some h3
    obtain ⟨q, _, s1, s2, s3, s4, xs, rfl, s5⟩ := r.own i _ hi
    refine ⟨_, s1, .inl ⟨rfl, xs, sq_of s4⟩, h r d h1 _ fun v H1 e1 hv => ?_⟩
    have hx : H1 q = some (.lst xs) := e1 _ _ s4
    refine ⟨q, xs, v, rfl, rfl, hx, Nat.lt_of_lt_of_le (Nat.lt_succ_self _) (sz100 (by rw [s5.1]; exact h5)), ?_⟩
    obtain ⟨r', ev⟩ := (r.same e1).grow hi s1 hx ((s5.same e1).snoc hv)
    exact p σ _ O r' ((Evo.same e1).trans ev)
  · cases ho
theorem ss_ext {i : Nat} (h : SE K A te fe) : SS K A (tDrop (tBM K "list" rExtend (tVar i) (tCons te tNil))) (fExt i fe) := fun {H0 O0 O σ H ρ} r o ho D p => by
  have ho : (match ρ[i]? with
    | some (.own (.l ds)) => (fe ρ).bind fun d => match d with
      | .list zs => (lim (ds.length + zs.length) (ds ++ zs)).bind fun es => some (.nx, ρ.set i (.own (.l es)))
      | _ => none
    | _ => none) = some o := ho
  split at ho
  · rename_i ds hi
    obtain ⟨d, h1, h2⟩ := bind_some' ho
    cases d <;> try cases h2
    rename_i zs
    obtain ⟨es, h3, h4⟩ := bind_some' h2
    cases h4
    obtain ⟨h5, rfl⟩ := lim_some h3
    obtain ⟨q, _, s1, s2, s3, s4, xs, rfl, s5⟩ := r.own i _ hi
    refine ⟨_, s1, .inl ⟨rfl, xs, sq_of s4⟩, h r _ h1 _ fun v H1 e1 hv => ?_⟩
    obtain ⟨b, ys, rfl, hb, hnb, hys⟩ := hv.lst_inv
    have hx : H1 q = some (.lst xs) := e1 _ _ s4
    refine ⟨q, b, xs, ys, rfl, rfl, hx, hb, sz100 (by rw [s5.1, hys.1]; exact h5), ?_⟩
    obtain ⟨r', ev⟩ := (r.same e1).grow hi s1 hx ((s5.same e1).app hys)
    exact p σ _ O r' ((Evo.same e1).trans ev)
  · cases ho
theorem ss_brk : SS K A tBreak fBrk := fun r o h D p => by
  cases h
  exact p _ _ _ r .refl
theorem ss_cnt : SS K A tCont fCnt := fun r o h D p => by
  cases h
  exact p _ _ _ r .refl
theorem ss_drop (h : SE K A te fe) : SS K A (tDrop te) (fDrop fe) := fun r o ho D p => by
  obtain ⟨d, h1, h2⟩ := bind_some' ho
  cases h2
  exact h r d h1 _ fun v H1 e1 _ => p _ H1 _ (r.same e1) (.same e1)
theorem ss_never : SS K A tNever (fun _ => none) := fun r o h => nomatch h
theorem ss_frz (i : Nat) (h : SS K A t f) : SS K A t (fFrz i f) := fun r o ho D p => by
  obtain ⟨O', r', ev, _⟩ := r.frz i
  exact h r' o ho D (p.evo ev)
theorem sg_name (i : Nat) : SG K A (gName i) (gS i) [i] := fun {H0 O0 O σ H ρ v d} r hv ρ' h Q q => by
  cases h
  refine q (σ.set i (some v)) (r.set i hv) (List.length_set ..) (fun j hj => ?_) fun j es hj => ?_
  · rw [List.getElem?_set_ne]
    intro e
    exact hj (by simp [e])
  · have hij : i ≠ j := fun e => by
      subst e
      rw [List.getElem?_set, if_pos rfl] at hj
      split at hj <;> cases hj
    rw [List.getElem?_set_ne hij] at hj
    exact ⟨hj, by simpa using fun e => hij e.symm⟩
theorem sgs_nil : SGs K A gNil gN [] := fun {H0 O0 O σ H ρ vs ds} r hv ρ' h Q q => by
  unfold gN at h
  split at h
  · cases h
    exact ⟨hv.nil_inv, q σ r rfl (fun _ _ => rfl) fun _ _ h => ⟨h, by simp⟩⟩
  · cases h
theorem sgs_cons {g1 : TG} {f1 : PyData → List Sl → Option (List Sl)} {gs : TGs} {fs : List PyData → List Sl → Option (List Sl)} {w1 ws : List Nat} (h1 : SG K A g1 f1 w1) (h2 : SGs K A gs fs ws) : SGs K A (gCons g1 gs) (gC f1 fs) (w1 ++ ws) := fun {H0 O0 O σ H ρ vs ds} r hv ρ' h Q q => by
  unfold gC at h
  split at h
  · rename_i d ds
    obtain ⟨ρ1, h3, h4⟩ := bind_some' h
    obtain ⟨v, ws', rfl, hv1, hvs⟩ := hv.head
    exact ⟨v, ws', rfl, h1 r hv1 ρ1 h3 _ fun σ1 r1 l1 k1 o1 => h2 r1 hvs ρ' h4 _ fun σ2 r2 l2 k2 o2 => q σ2 r2 (l2.trans l1) (fun i hi => (k2 i fun h => hi (List.mem_append.mpr (.inr h))).trans (k1 i fun h => hi (List.mem_append.mpr (.inl h)))) fun i es h => by
      obtain ⟨a1, a2⟩ := o2 i es h
      obtain ⟨b1, b2⟩ := o1 i es a1
      exact ⟨b1, fun h => (List.mem_append.mp h).elim b2 a2⟩⟩
  · cases h
theorem sg_tup {gs : TGs} {fs : List PyData → List Sl → Option (List Sl)} {ws : List Nat} (n : Nat) (h : SGs K A gs fs ws) : SG K A (gTup K n gs) (gT n fs) ws := fun {H0 O0 O σ H ρ v d} r hv ρ' hρ Q q => by
  unfold gT at hρ
  split at hρ
  · rename_i ds
    split at hρ
    · rename_i hl
      obtain ⟨a, xs, rfl, hs, hxs⟩ := hv.tup_inv
      exact ⟨a, xs, rfl, hs, by rw [hxs.1, hl], h r hxs ρ' hρ Q q⟩
    · cases hρ
  · cases hρ
/-! ### what is walked -/
def Wk (K : PySem.W.Frag) (A : Atm) (O : Addr → Prop) (H : Hp) (J : It) (ds : List PyData) : Prop := ∃ (G : Hp → Prop) (Y : Nat → Hp → V → Hp → Prop), Walk J ds.length G Y ∧ ∀ O' H', Owl O' H' → Evo O H O' H' → G H' ∧ ∀ i x H2, i < ds.length → Y i H' x H2 → Same H' H2 ∧ ∃ d, ds[i]? = some d ∧ Fd K A O' H2 x d
def SI (K : PySem.W.Frag) (A : Atm) (wi : TI) (f : FA) : Prop := ∀ {H0 : Hp} {O0 O : Addr → Prop} {σ : L2.St} {H : Hp} {ρ : List Sl}, Rl K A H0 O0 O σ H ρ → ∀ ds, f ρ = some ds → ∀ R : It → Hp → Prop, (∀ J H', Same H H' → Wk K A O H' J ds → R J H') → wi σ H R
theorem ss_for {wi : TI} {fi : FA} {tg : TG} {gg : PyData → List Sl → Option (List Sl)} {ws : List Nat} {tb : TS} {fb : FS} (hi : SI K A wi fi) (hg : SG K A tg gg ws) (hb : SS K A tb fb) : SS K A (tFor wi tg tb) (fFor fi gg fb) := fun {H0 O0 O σ H ρ} r o ho D p => by
  obtain ⟨ds, h1, h2⟩ := bind_some' ho
  refine hi r ds h1 _ fun J H1 e1 wk => ?_
  obtain ⟨G, Y, w, hw⟩ := wk
  refine for_it w (D := D) (fun i σ' H' => ∃ O' ρ', Rl K A H0 O0 O' σ' H' ρ' ∧ Evo O H1 O' H' ∧ fLoop gg fb (ds.drop i) ρ' = some o) ⟨O, ρ, r.same e1, .refl, h2⟩ (fun i σ' H' _ hP => ?_) (fun i x σ' H' H2 hi hP hy => ?_) (fun σ' H' hP => ?_)
  · obtain ⟨O', ρ', r', ev, _⟩ := hP
    exact (hw O' H' r'.owl ev).1
  · obtain ⟨O', ρ', r', ev, hl⟩ := hP
    obtain ⟨e2, d, hd, hx⟩ := (hw O' H' r'.owl ev).2 i x H2 hi hy
    have hdr : ds.drop i = d :: ds.drop (i + 1) := by
      obtain ⟨hlt, rfl⟩ := List.getElem?_eq_some_iff.mp hd
      exact List.drop_eq_getElem_cons hlt
    rw [hdr] at hl
    obtain ⟨ρ1, h3, h4⟩ := bind_some' hl
    refine hg (r'.same e2) hx ρ1 h3 _ fun σ2 r2 _ _ _ => ?_
    cases e : fb ρ1 with
    | none => rw [e] at h4; cases h4
    | some o1 =>
      rw [e] at h4
      obtain ⟨fl, ρ2⟩ := o1
      have ev2 : Evo O H1 O' H2 := ev.trans (.same e2)
      cases fl with
      | nx => exact hb r2 _ e _ fun σ3 H3 O3 r3 ev3 => ⟨O3, ρ2, r3, ev2.trans ev3, h4⟩
      | ct => exact hb r2 _ e _ fun σ3 H3 O3 r3 ev3 => ⟨O3, ρ2, r3, ev2.trans ev3, h4⟩
      | bk =>
        cases h4
        exact hb r2 _ e _ fun σ3 H3 O3 r3 ev3 => p σ3 H3 O3 r3 ((Evo.same e1).trans (ev2.trans ev3))
      | rt d' =>
        cases h4
        exact hb r2 _ e _ p
  · obtain ⟨O', ρ', r', ev, hl⟩ := hP
    rw [List.drop_length] at hl
    cases hl
    exact p σ' H' O' r' ((Evo.same e1).trans ev)
theorem ss_while {tb : TS} {fb : FS} (n : Nat) (ht : ST K A tt ft) (hb : SS K A tb fb) : SS K A (tWhile tt tb) (fun ρ => fWhile ft fb n ρ) := fun {H0 O0 O σ H ρ} r o ho D p => by
  refine ⟨fun m σ' H' => ∃ O' ρ', Rl K A H0 O0 O' σ' H' ρ' ∧ Evo O H O' H' ∧ fWhile ft fb m ρ' = some o, ⟨n, O, ρ, r, .refl, ho⟩, fun m σ' H' hP => ?_⟩
  obtain ⟨O', ρ', r', ev, hl⟩ := hP
  cases m with
  | zero => cases hl
  | succ m =>
    have hl : ((ft ρ').bind fun x => if x then fTurn (fb ρ') (fWhile ft fb m) else some (.nx, ρ')) = some o := hl
    obtain ⟨b, hb1, h4⟩ := bind_some' hl
    refine ht r' b hb1 _ fun H1 e1 => ?_
    cases b with
    | false =>
      cases h4
      exact iteF (p σ' H1 O' (r'.same e1) (ev.trans (.same e1)))
    | true =>
      refine iteT ?_
      have h4 : fTurn (fb ρ') (fWhile ft fb m) = some o := h4
      refine ⟨fun σ2 H2 => ∃ O2 ρ2, Rl K A H0 O0 O2 σ2 H2 ρ2 ∧ Evo O H O2 H2 ∧ fWhile ft fb m ρ2 = some o, fun σ2 H2 hN => ⟨m, Nat.lt_succ_self _, hN⟩, ?_⟩
      cases e : fb ρ' with
      | none => rw [e] at h4; cases h4
      | some o1 =>
        rw [e] at h4
        obtain ⟨fl, ρ2⟩ := o1
        have ev2 : Evo O H O' H1 := ev.trans (.same e1)
        cases fl with
        | nx => exact hb (r'.same e1) _ e _ fun σ3 H3 O3 r3 ev3 => ⟨O3, ρ2, r3, ev2.trans ev3, h4⟩
        | ct => exact hb (r'.same e1) _ e _ fun σ3 H3 O3 r3 ev3 => ⟨O3, ρ2, r3, ev2.trans ev3, h4⟩
        | bk =>
          cases h4
          exact hb (r'.same e1) _ e _ fun σ3 H3 O3 r3 ev3 => p σ3 H3 O3 r3 (ev2.trans ev3)
        | rt d' =>
          cases h4
          exact hb (r'.same e1) _ e _ p
end
/-! ### comprehensions -/
def wpS (ρ : List Sl) : List Nat → List Sl
  | [] => ρ
  | v :: vs => (wpS ρ vs).set v .un
def compM (step : PyData → Option (Option PyData)) : List PyData → Option (List PyData)
  | [] => some []
  | d :: ds => (step d).bind fun o => (compM step ds).bind fun r => some (match o with
    | some y => y :: r
    | none => r)
def cStep (g : PyData → List Sl → Option (List Sl)) (t : FT) (e : FE) (ρ : List Sl) : PyData → Option (Option PyData) := fun d => (g d ρ).bind fun ρ1 => (t ρ1).bind fun b => if b then (e ρ1).bind fun y => some (some y) else some none
def fComp (fi : FA) (g : PyData → List Sl → Option (List Sl)) (t : FT) (e : FE) (vs : List Nat) : FA := fun ρ => (fi ρ).bind fun ds => (compM (cStep g t e (wpS ρ vs)) ds).bind fun r => lim r.length r
theorem wipe_ext {σ σ' : L2.St} : ∀ {vs : List Nat}, σ'.length = σ.length → (∀ i, i ∉ vs → σ'[i]? = σ[i]?) → wipe σ' vs = wipe σ vs
  | [], _, h => List.ext_getElem? fun i => h i (by simp)
  | v :: vs, hl, h => by
    have key : ∀ (τ : L2.St) (us : List Nat) (i : Nat), (wipe τ us)[i]? = if i ∈ us then (if i < τ.length then some none else none) else τ[i]? := by
      intro τ us i
      induction us with
      | nil => simp [wipe]
      | cons u us ih =>
        unfold wipe
        rw [List.getElem?_set, wipe_length]
        by_cases hu : u = i
        · subst hu
          simp
        · rw [if_neg hu, ih]
          have : (i ∈ u :: us) ↔ i ∈ us := by
            rw [List.mem_cons]
            exact ⟨fun h => h.resolve_left fun e => hu e.symm, .inr⟩
          simp only [this]
    refine List.ext_getElem? fun i => ?_
    rw [key, key, hl]
    split
    · rfl
    · rename_i hi
      exact h i hi
theorem wipe_wipe (σ : L2.St) (vs : List Nat) : wipe (wipe σ vs) vs = wipe σ vs := wipe_ext (wipe_length σ vs) fun i hi => by
  have key : ∀ (us : List Nat), i ∉ us → (wipe σ us)[i]? = σ[i]? := by
    intro us
    induction us with
    | nil => intro _; rfl
    | cons u us ih =>
      intro hi
      unfold wipe
      rw [List.getElem?_set_ne (fun e => hi (by simp [e])), ih fun h => hi (List.mem_cons_of_mem _ h)]
  exact key vs hi
section
variable {K : PySem.W.Frag} {A : Atm} {H0 : Hp} {O0 O O' : Addr → Prop} {σ : L2.St} {ρ : List Sl} {H H' : Hp} {te : TE} {fe : FE} {tt : TT} {ft : FT}
theorem Rl.un (r : Rl K A H0 O0 O σ H ρ) (i : Nat) : Rl K A H0 O0 O (σ.set i none) H (ρ.set i .un) where
  len := by rw [List.length_set, List.length_set, r.len]
  val := fun j e hj => by
    rw [List.getElem?_set] at hj ⊢
    by_cases hi : i = j
    · subst hi
      rw [if_pos rfl] at hj
      split at hj <;> cases hj
    · rw [if_neg hi] at hj ⊢
      exact r.val j e hj
  own := fun j es hj => by
    rw [List.getElem?_set] at hj ⊢
    by_cases hi : i = j
    · subst hi
      rw [if_pos rfl] at hj
      split at hj <;> cases hj
    · rw [if_neg hi] at hj ⊢
      exact r.own j es hj
  inj := fun j k ds es p hj hk sj sk => by
    have hij : i ≠ j := fun e => by
      subst e
      rw [List.getElem?_set, if_pos rfl] at hj
      split at hj <;> cases hj
    have hik : i ≠ k := fun e => by
      subst e
      rw [List.getElem?_set, if_pos rfl] at hk
      split at hk <;> cases hk
    rw [List.getElem?_set_ne hij] at hj sj
    rw [List.getElem?_set_ne hik] at hk sk
    exact r.inj j k ds es p hj hk sj sk
  owl := r.owl
  frm := r.frm
  sub := r.sub
  old := r.old
theorem wpS_own {i : Nat} {es : OC} : ∀ {vs : List Nat}, (wpS ρ vs)[i]? = some (Sl.own es) → ρ[i]? = some (Sl.own es)
  | [], h => h
  | v :: vs, h => by
    have h : ((wpS ρ vs).set v Sl.un)[i]? = some (Sl.own es) := h
    have hvi : v ≠ i := fun e => by
      subst e
      rw [List.getElem?_set, if_pos rfl] at h
      split at h <;> cases h
    rw [List.getElem?_set_ne hvi] at h
    exact wpS_own h
theorem Rl.wipe (r : Rl K A H0 O0 O σ H ρ) : ∀ vs, Rl K A H0 O0 O (L2.wipe σ vs) H (wpS ρ vs)
  | [] => r
  | v :: vs => (r.wipe vs).un v
theorem compM_le {step : PyData → Option (Option PyData)} : ∀ {ds rs : List PyData}, compM step ds = some rs → rs.length ≤ ds.length
  | [], rs, h => by cases h; exact Nat.le_refl _
  | d :: ds, rs, h => by
    obtain ⟨o, h1, h2⟩ := bind_some' h
    obtain ⟨r, h3, h4⟩ := bind_some' h2
    have := compM_le h3
    cases o with
    | none =>
      have h4 : some r = some rs := h4
      cases h4
      rw [List.length_cons]
      omega
    | some y =>
      have h4 : some (y :: r) = some rs := h4
      cases h4
      rw [List.length_cons, List.length_cons]
      omega
theorem sl_lc {wi : TI} {fi : FA} {tg : TG} {gg : PyData → List Sl → Option (List Sl)} {ws vs : List Nat} (hi : SI K A wi fi) (hg : SG K A tg gg ws) (hsub : ∀ i ∈ ws, i ∈ vs) (ht : ST K A tt ft) (he : SE K A te fe) : SL K A (tLc wi tg tt te vs) (fComp fi gg ft fe vs) := fun {H0 O0 O σ H ρ} r rs hr Q q => by
  obtain ⟨ds, h1, h2⟩ := bind_some' hr
  obtain ⟨rs', h3, h4⟩ := bind_some' h2
  obtain ⟨h5, rfl⟩ := lim_some h4
  refine hi r ds h1 _ fun J H1 e1 wk Dl hD => ?_
  obtain ⟨G, Y, w, hw⟩ := wk
  have r1 := (r.same e1).wipe vs
  refine lc_it w (D := Dl) (fun i H' => ∃ acc done rest, Same H1 H' ∧ H' Dl = some (.lst acc) ∧ Fds K A (Osn O Dl) H' acc done ∧ compM (cStep gg ft fe (wpS ρ vs)) (ds.drop i) = some rest ∧ rs' = done ++ rest) ⟨[], [], rs', Cr.same_new hD, upd_same, .nil, h3, rfl⟩ (fun i H' _ hP => ?_) (fun i x H' H2 hi' hP hy => ?_) (fun H' hP => ?_)
  · obtain ⟨acc, done, rest, e, _⟩ := hP
    exact (hw O H' (r1.owl.same e) (.same e)).1
  · obtain ⟨acc, done, rest, e, hDl, hacc, hc, hrs⟩ := hP
    have r2 := r1.osn hD e hDl
    have ev : Evo O H1 (Osn O Dl) H' := fun a o ha hn => ⟨e _ _ ha, fun h => by
      rcases h with h | h
      · rw [h, hD] at ha
        cases ha
      · exact hn h⟩
    obtain ⟨e2, d, hd, hx⟩ := (hw (Osn O Dl) H' r2.owl ev).2 i x H2 hi' hy
    have hdr : ds.drop i = d :: ds.drop (i + 1) := by
      obtain ⟨hlt, rfl⟩ := List.getElem?_eq_some_iff.mp hd
      exact List.drop_eq_getElem_cons hlt
    rw [hdr] at hc
    obtain ⟨o, hs1, hs2⟩ := bind_some' hc
    obtain ⟨rr, hs3, hs4⟩ := bind_some' hs2
    obtain ⟨ρ1, hs5, hs6⟩ := bind_some' hs1
    obtain ⟨b, hs7, hs8⟩ := bind_some' hs6
    refine hg (r2.same e2) hx ρ1 hs5 _ fun σ2 r3 l3 k3 _ => ⟨?_, ht r3 b hs7 _ fun H3 e3 => ?_⟩
    · rw [wipe_ext (σ := L2.wipe σ vs) (by rw [l3]) (fun i hi => k3 i fun h => hi (hsub i h)), wipe_wipe]
    · cases b with
      | true =>
        obtain ⟨y, hy1, hy2⟩ := bind_some' (show ((fe ρ1).bind fun y => some (some y)) = some o from hs8)
        cases hy2
        cases hs4
        refine iteT (he (r3.same e3) y hy1 _ fun v H4 e4 hv => ?_)
        have e24 := (e2.trans e3).trans e4
        have hD4 : H4 Dl = some (.lst acc) := e24 _ _ hDl
        have hacc4 := hacc.same e24
        have ho4 : Owl (Osn O Dl) H4 := r2.owl.same e24
        have ev4 : Evo (Osn O Dl) H4 (Osn O Dl) (upd H4 Dl (.lst (acc ++ [v]))) := fun a o ha hn => ⟨by
          rw [upd_ne (fun e => hn (.inl e))]
          exact ha, hn⟩
        refine ⟨acc, hD4, ?_, acc ++ [v], done ++ [y], rr, ?_, upd_same, (hacc4.snoc hv).evo ho4 ev4, hs3, by rw [hrs]; simp⟩
        · have h6 : acc.length = done.length := hacc.1
          have h7 : (done ++ y :: rr).length ≤ 10000000 := by rw [← hrs]; exact h5
          rw [List.length_append, List.length_cons] at h7
          exact Nat.lt_of_lt_of_le (show acc.length < 10000000 by omega) (by decide)
        · exact Cr.same_mut (e.trans e24) hD
      | false =>
        cases hs8
        cases hs4
        exact iteF ⟨acc, done, rr, e.trans (e2.trans e3), (e2.trans e3) _ _ hDl, hacc.same (e2.trans e3), hs3, hrs⟩
  · obtain ⟨acc, done, rest, e, hDl, hacc, hc, hrs⟩ := hP
    rw [List.drop_length] at hc
    cases hc
    rw [List.append_nil] at hrs
    subst hrs
    exact q Dl acc H' (e1.free hD) (e1.trans e) hDl hacc
end
/-! ### a def's body -/
def runF (n k : Nat) (f : FS) : Fn := fun ds => if ds.length = k then match f (ds.map Sl.val ++ List.replicate (n - k) Sl.un) with
    | some (.rt d, _) => some d
    | some (.nx, _) => some .none
    | _ => none
  else none
theorem start_rl {K : PySem.W.Frag} {A : Atm} {N : List Str} {k : Nat} {O : Addr → Prop} {vs : List V} {ds : List PyData} {H : Hp} (ho : Owl O H) (hds : Fds K A O H vs ds) (hk : ds.length = k) : Rl K A H O O (L2.start N vs) H (ds.map Sl.val ++ List.replicate (N.length - k) Sl.un) := by
  have hl : vs.length = ds.length := hds.1
  have key : ∀ i, (ds.map Sl.val ++ List.replicate (N.length - k) Sl.un)[i]? = if i < ds.length then ds[i]?.map Sl.val else if i - ds.length < N.length - k then some .un else none := fun i => by
    by_cases hi : i < ds.length
    · rw [if_pos hi, List.getElem?_append_left (by rw [List.length_map]; exact hi), List.getElem?_map]
    · rw [if_neg hi, List.getElem?_append_right (by rw [List.length_map]; omega), List.length_map, List.getElem?_replicate]
  refine ⟨?_, fun i d hi => ?_, fun i es hi => ?_, fun i j es fs p hi => ?_, ho, .refl _, fun _ h => h, ho⟩
  · unfold L2.start
    rw [List.length_append, List.length_map, List.length_replicate, List.length_append, List.length_map, List.length_replicate, hl, hk]
  · rw [key] at hi
    split at hi
    · rename_i hlt
      obtain ⟨d', hd, e⟩ := Option.map_eq_some_iff.mp hi
      cases e
      obtain ⟨v, h1, h2⟩ := hds.get hd
      refine ⟨v, ?_, h2⟩
      unfold L2.start
      rw [List.getElem?_append_left (by rw [List.length_map, hl]; exact hlt), List.getElem?_map, h1]
      rfl
    · split at hi <;> cases hi
  · rw [key] at hi
    split at hi
    · obtain ⟨d', hd, e⟩ := Option.map_eq_some_iff.mp hi
      cases e
    · split at hi <;> cases hi
  · rw [key] at hi
    split at hi
    · obtain ⟨d', hd, e⟩ := Option.map_eq_some_iff.mp hi
      cases e
    · split at hi <;> cases hi
theorem body_ok {K : PySem.W.Frag} {A : Atm} {N : List Str} {k : Nat} {t : TS} {f : FS} (h : SS K A t f) {vs : List V} {H : Hp} {Q : VK} {E : XK} (hs : spF K A (runF N.length k f) vs H Q E) : t { nx := fun _ H' => Q .non H', rt := Q } (L2.start N vs) H := by
  obtain ⟨O, ds, r, ho, hds, hr, q⟩ := hs
  unfold runF at hr
  split at hr
  · rename_i hk
    have R : Rl K A H O O (L2.start N vs) H (ds.map Sl.val ++ List.replicate (N.length - k) Sl.un) := start_rl ho hds hk
    split at hr
    · rename_i d _ e
      cases hr
      exact h R _ e _ fun v H' s hv => q v H' s hv
    · rename_i _ e
      cases hr
      exact h R _ e _ fun σ' H' O' r' _ => q .non H' r'.frm .non
    · cases hr
  · cases hr
theorem body_len {K : PySem.W.Frag} {A : Atm} {n k : Nat} {f : FS} {vs : List V} {H : Hp} {Q : VK} {E : XK} (hs : spF K A (runF n k f) vs H Q E) : vs.length = k := by
  obtain ⟨O, ds, r, ho, hds, hr, q⟩ := hs
  unfold runF at hr
  split at hr
  · rename_i hk
    rw [hds.1, hk]
  · cases hr
end Sm
set_option maxRecDepth 10000000
/-! operators, built-ins and walks, each with its function of data -/
namespace Sm
open PySem PySem.Spec PyProof.Rows L2 Evl CrT Cr
/-! ### rules joined -/
section
variable {X : Cx}
theorem opr_or {f : Value → Value → Sem Value} {r r' : R2} (h : OpR X f r) (h' : OpR X f r') : OpR X f (fun x y H Q => r x y H Q ∨ r' x y H Q) := fun pins s σ H x y v u Q I rx ry q => by
  rcases q with q | q
  · exact h pins s σ H x y v u Q I rx ry q
  · exact h' pins s σ H x y v u Q I rx ry q
theorem cr_or {f : Value} {r r' : List V → Hp → VK → Prop} (h : CallR X f r) (h' : CallR X f r') : CallR X f (fun xs H Q => r xs H Q ∨ r' xs H Q) := fun pins s σ H xs us Q I rx q => by
  rcases q with q | q
  · exact h pins s σ H xs us Q I rx q
  · exact h' pins s σ H xs us Q I rx q
theorem pi_or {tg e : Expr} {w w' : TI} (h : PI X tg e w) (h' : PI X tg e w') : PI X tg e (fun σ H R => w σ H R ∨ w' σ H R) := ⟨fun pins s σ H R I q => by
  rcases q with q | q
  · exact h.run pins s σ H R I q
  · exact h'.run pins s σ H R I q⟩
def rStrCat : R2 := fun x y H Q => ∃ i j, x = .str i ∧ y = .str j ∧ i.length + j.length ≤ sizeLine ∧ Q (.str (i ++ j)) H
def rAddX (K : PySem.W.Frag) : R2 := fun x y H Q => rI0 (fun i j => .int (i + j)) x y H Q ∨ rCatA K x y H Q ∨ rCat x y H Q ∨ rStrCat x y H Q
theorem op_addX : OpR X (binaryOp .Add) (rAddX X.K) := opr_or op_add (opr_or op_catA (opr_or op_cat op_add_str))
def rMulX : R2 := fun x y H Q => rI CMul (fun i j => .int (i * j)) x y H Q ∨ rI CMulW (fun i j => .int (i * j)) x y H Q ∨ rRep x y H Q
theorem op_mulX : OpR X (binaryOp .Mult) rMulX := opr_or op_mul (opr_or op_mulW op_rep)
def rEqX (K : PySem.W.Frag) : R2 := fun x y H Q => rEq x y H Q ∨ rEqD K x y H Q
def rNeX (K : PySem.W.Frag) : R2 := fun x y H Q => rNe x y H Q ∨ rNeD K x y H Q
theorem op_eqX (hu : X.A.units + 64 < cLine) : OpR X (compareOp .Eq) (rEqX X.K) := opr_or op_eq (op_eqD hu)
theorem op_neX (hu : X.A.units + 64 < cLine) : OpR X (compareOp .NotEq) (rNeX X.K) := opr_or op_ne (op_neD hu)
def rLeS : R2 := fun x y H Q => ∃ i j, x = .str i ∧ y = .str j ∧ Q (.bl (!decide (j.cps.toList < i.cps.toList))) H
def rLeX : R2 := fun x y H Q => rI0 (fun i j => .bl (decide (i ≤ j))) x y H Q ∨ rLeS x y H Q
theorem op_leX : OpR X (compareOp .LtE) rLeX := opr_or op_le op_le_str
def rInX (K : PySem.W.Frag) : R2 := fun x y H Q => rIn K false x y H Q ∨ rInTup K false x y H Q ∨ rInD K x y H Q
def rNiX (K : PySem.W.Frag) : R2 := fun x y H Q => rIn K true x y H Q ∨ rInTup K true x y H Q ∨ rNotInD K x y H Q
theorem op_inX (hu : X.A.units + 65 < cLine) : OpR X (compareOp .In) (rInX X.K) := opr_or op_in_seq (opr_or (op_inTup hu) (op_inD hu))
theorem op_niX (hu : X.A.units + 65 < cLine) : OpR X (compareOp .NotIn) (rNiX X.K) := opr_or op_notIn_seq (opr_or (op_notInTup hu) (op_notInD hu))
def rSlX (K : PySem.W.Frag) : V → Option Int → Option Int → Hp → VK → Prop := fun x lo hi H Q => rSlA K x lo hi H Q ∨ rSlL K x lo hi H Q ∨ rSlS x lo hi H Q
theorem sl_X : SlR X (rSlX X.K) := sl_tupA.or (sl_list.or sl_str)
def rAllX (K : PySem.W.Frag) := rAll K
def rLenX (K : PySem.W.Frag) : List V → Hp → VK → Prop := fun xs H Q => ∃ x n, xs = [x] ∧ LenV K x H n ∧ Q (.int (n : Int)) H
theorem cr_lenX : CallR X (.builtin "len") (rLenX X.K) := call_len
def rSumX (K : PySem.W.Frag) : List V → Hp → VK → Prop := fun xs H Q => rSum K xs H Q ∨ rSumT K xs H Q
theorem cr_sumX (hc : X.calm = true) : CallR X (.builtin "sum") (rSumX X.K) := cr_or (cr_sum hc) (cr_sumT hc)
def rTupO (K : PySem.W.Frag) : List V → Hp → VK → Prop := fun xs H Q => ∃ p ys, xs = [.ref p] ∧ ((SqL K H p ys ∧ ∀ l, H l = none → Q (.ref l) (upd H l (.tup ys))) ∨ (SqT K H p ys ∧ Q (.ref p) H))
theorem cr_tupO : CallR X (.type "tuple") (rTupO X.K) := call_tuple_of
def rLstO (K : PySem.W.Frag) : List V → Hp → VK → Prop := fun xs H Q => ∃ p ys, xs = [.ref p] ∧ (SqL K H p ys ∨ SqT K H p ys) ∧ ∀ l, H l = none → Q (.ref l) (upd H l (.lst ys))
theorem cr_lstO : CallR X (.type "list") (rLstO X.K) := call_list_of
def iSeq (K : PySem.W.Frag) (te : TE) : TI := fun σ H R => iList K te σ H R ∨ iTup K te σ H R ∨ iStr te σ H R
theorem pi_seq {tg e : Expr} {te : TE} (he : PE X e te) : PI X tg e (iSeq X.K te) := pi_or (pi_list he) (pi_or (pi_tup he) (pi_str he))
def iEnu (K : PySem.W.Frag) (ta : TA) : TI := fun σ H R => iEnum K ta σ H R ∨ iEnumT K ta σ H R
end
/-! ### their functions of data -/
def gAdd : F2
  | .int i, .int j => some (.int (i + j))
  | .tuple xs, .tuple ys => (lim (xs.length + ys.length) (.tuple (xs ++ ys)))
  | .list xs, .list ys => (lim (xs.length + ys.length) (.list (xs ++ ys)))
  | .str x, .str y => (lim (x.length + y.length) (.str (x ++ y)))
  | _, _ => none
def gSub : F2
  | .int i, .int j => some (.int (i - j))
  | _, _ => none
def gMul : F2
  | .int i, .int j => if (i.natAbs < 18446744073709551616 ∨ j.natAbs < 18446744073709551616) ∨ i.natAbs.log2 + j.natAbs.log2 < 1000000 then some (.int (i * j)) else none
  | .list xs, .int k => if k.toNat ≤ 10000000 ∧ -10000000 ≤ k then lim (xs.length * k.toNat) (.list (List.replicate k.toNat xs).flatten) else none
  | _, _ => none
def gMod : F2
  | .int i, .int j => if 0 < j then some (.int (i % j)) else none
  | _, _ => none
def gDiv : F2
  | .int i, .int j => if 0 < j ∧ j.natAbs.log2 < 9000 then some (.int (i / j)) else none
  | _, _ => none
def gNeg : F1
  | .int i => some (.int (-i))
  | _ => none
def eqD (a b : PyData) : Option Bool := match a, b with
  | .int i, .int j => some (decide (i = j))
  | .str x, .str y => some (decide (x = y))
  | .int _, .str _ => some false
  | .str _, .int _ => some false
  | a, b => if SeqAt.shaped a && SeqAt.shaped b then some (PyData.eqv a b) else none
def gEq : F2 := fun a b => (eqD a b).bind fun x => some (.bool x)
def gNe : F2 := fun a b => (eqD a b).bind fun x => some (.bool (!x))
def gLt : F2
  | .int i, .int j => some (.bool (decide (i < j)))
  | _, _ => none
def gLe : F2
  | .int i, .int j => some (.bool (decide (i ≤ j)))
  | .str x, .str y => some (.bool (!decide (y.cps.toList < x.cps.toList)))
  | _, _ => none
def gGt : F2
  | .int i, .int j => some (.bool (decide (j < i)))
  | _, _ => none
def gGe : F2
  | .int i, .int j => some (.bool (decide (j ≤ i)))
  | _, _ => none
def gIsN : F2
  | a, .none => some (.bool (match a with | .none => true | _ => false))
  | _, _ => none
def gNotN : F2
  | a, .none => some (.bool (match a with | .none => false | _ => true))
  | _, _ => none
def fl : PyData → Bool
  | .int _ => true
  | .str _ => true
  | _ => false
def eqF : PyData → PyData → Bool
  | .int a, .int b => decide (a = b)
  | .str a, .str b => decide (a = b)
  | _, _ => false
def inD (a b : PyData) : Option Bool := match b with
  | .tuple ds => if fl a && ds.all fl then some (ds.any fun z => eqF z a) else if SeqAt.shaped a && SeqAt.shaped (.tuple ds) then some (ds.any fun z => PyData.eqv z a) else none
  | .list ds => if fl a && ds.all fl then some (ds.any fun z => eqF z a) else if SeqAt.shaped a && SeqAt.shaped (.list ds) then some (ds.any fun z => PyData.eqv z a) else none
  | _ => none
def gIn : F2 := fun a b => (inD a b).bind fun x => some (.bool x)
def gNi : F2 := fun a b => (inD a b).bind fun x => some (.bool (!x))
def gIx : F2
  | .tuple ds, .int i => atI ds i
  | .list ds, .int i => atI ds i
  | .str z, .int i => (lim z.length z).bind fun z => (atI z.cps.toList i).bind fun c => some (.str ⟨#[c]⟩)
  | _, _ => none
def cutD {α : Type} (xs : List α) (lo hi : Option Int) : List α := (xs.drop (HT.sIx xs.length 0 lo)).take (HT.sIx xs.length xs.length hi - HT.sIx xs.length 0 lo)
def gSl (d : PyData) (lo hi : Option Int) : Option PyData := match d with
  | .tuple ds => some (.tuple (cutD ds lo hi))
  | .list ds => some (.list (cutD ds lo hi))
  | .str z => (lim z.length z).bind fun z => some (.str (cutS z lo hi))
  | _ => none
def gRev : F1
  | .tuple ds => some (.tuple ds.reverse)
  | _ => none
def gLen : Fn
  | [.tuple ds] => some (.int ds.length)
  | [.list ds] => some (.int ds.length)
  | [.str z] => lim z.length (.int z.length)
  | _ => none
def allB : List PyData → Option Bool
  | [] => some true
  | .bool b :: ds => (allB ds).bind fun r => some (b && r)
  | _ => none
def anyB : List PyData → Option Bool
  | [] => some false
  | .bool b :: ds => (anyB ds).bind fun r => some (b || r)
  | _ => none
def sumI : List PyData → Option Int
  | [] => some 0
  | .int i :: ds => (sumI ds).bind fun r => some (i + r)
  | _ => none
def gAll : Fn
  | [.list ds] => (allB ds).bind fun b => some (.bool b)
  | _ => none
def gAny : Fn
  | [.list ds] => (anyB ds).bind fun b => some (.bool b)
  | _ => none
def gSum : Fn
  | [.list ds] => (sumI ds).bind fun i => some (.int i)
  | [.tuple ds] => (sumI ds).bind fun i => some (.int i)
  | _ => none
def gTuple : Fn
  | [.list ds] => some (.tuple ds)
  | [.tuple ds] => some (.tuple ds)
  | _ => none
def gList : List PyData → Option (List PyData)
  | [.list ds] => some ds
  | [.tuple ds] => some ds
  | _ => none
def gMax : Fn
  | [.int i, .int j] => some (.int (if j > i then j else i))
  | _ => none
def gMin : Fn
  | [.int i, .int j] => some (.int (if j < i then j else i))
  | _ => none
def tyO : PyData → Option String
  | .int _ => some "int"
  | .str _ => some "str"
  | .tuple _ => some "tuple"
  | .bool _ => some "bool"
  | _ => none
def gIsi (n : String) : Fn
  | [d] => (tyO d).bind fun t => (kitB t n).bind fun b => some (.bool b)
  | _ => none
section
variable {K : PySem.W.Frag} {A : Atm}
theorem rd_add : RD K A (rAddX K) gAdd := fun {O H x y a b} ho hx hy c hc Q q => by
  cases a <;> cases b <;> try cases hc
  · cases hx.int_inv; cases hy.int_inv
    exact .inl ⟨_, _, rfl, rfl, q _ _ (.refl _) (.int _)⟩
  · cases hx.str_inv; cases hy.str_inv
    obtain ⟨h1, rfl⟩ := lim_some hc
    exact .inr (.inr (.inr ⟨_, _, rfl, rfl, sz100 h1, q _ _ (.refl _) (.str _)⟩))
  · obtain ⟨h1, rfl⟩ := lim_some hc
    obtain ⟨p, xs, rfl, hp, hnp, hxs⟩ := hx.lst_inv
    obtain ⟨p2, ys, rfl, hp2, hnp2, hys⟩ := hy.lst_inv
    exact .inr (.inr (.inl ⟨p, p2, xs, ys, rfl, rfl, hp, hp2, sz100 (by rw [hxs.1, hys.1]; exact h1), fun l hl => q _ _ (Cr.same_new hl) (((hxs.app hys).same (Cr.same_new hl)).lst upd_same (ho.none hl))⟩))
  · obtain ⟨h1, rfl⟩ := lim_some hc
    obtain ⟨p, xs, rfl, hp, hxs⟩ := hx.tup_inv
    obtain ⟨p2, ys, rfl, hp2, hys⟩ := hy.tup_inv
    refine .inr (.inl ⟨p, p2, xs, ys, rfl, rfl, hp, hp2, sz100 (by rw [hxs.1, hys.1]; exact h1), fun e => ?_, fun _ e => ?_, fun _ _ l hl => ?_⟩)
    · subst e
      exact q _ _ (.refl _) ((by simpa using hxs.app hys : Fds K A O H ys _).tup hp2)
    · subst e
      exact q _ _ (.refl _) ((by simpa using hxs.app hys : Fds K A O H xs _).tup hp)
    · exact q _ _ (Cr.same_new hl) (((hxs.app hys).same (Cr.same_new hl)).tup (.of upd_same))
theorem rd_sub : RD K A (rI0 fun i j => .int (i - j)) gSub := fun {O H x y a b} ho hx hy c hc Q q => by
  cases a <;> cases b <;> cases hc
  cases hx.int_inv; cases hy.int_inv
  exact ⟨_, _, rfl, rfl, q _ _ (.refl _) (.int _)⟩
theorem rd_mul : RD K A rMulX gMul := fun {O H x y a b} ho hx hy c hc Q q => by
  cases a <;> cases b <;> try cases hc
  · rename_i i j
    have hc : (if (i.natAbs < 18446744073709551616 ∨ j.natAbs < 18446744073709551616) ∨ i.natAbs.log2 + j.natAbs.log2 < 1000000 then some (PyData.int (i * j)) else none) = some c := hc
    split at hc
    · rename_i hw
      cases hc
      cases hx.int_inv; cases hy.int_inv
      rcases hw with (hw | hw) | hw
      · exact .inl ⟨_, _, rfl, rfl, .inl ⟨by omega, by omega⟩, q _ _ (.refl _) (.int _)⟩
      · exact .inl ⟨_, _, rfl, rfl, .inr ⟨by omega, by omega⟩, q _ _ (.refl _) (.int _)⟩
      · exact .inr (.inl ⟨_, _, rfl, rfl, hw, q _ _ (.refl _) (.int _)⟩)
    · cases hc
  · rename_i xs k
    have hc : (if k.toNat ≤ 10000000 ∧ -10000000 ≤ k then lim (xs.length * k.toNat) (PyData.list (List.replicate k.toNat xs).flatten) else none) = some c := hc
    split at hc
    · rename_i hk
      obtain ⟨h1, rfl⟩ := lim_some hc
      obtain ⟨p, ys, rfl, hp, hnp, hys⟩ := hx.lst_inv
      cases hy.int_inv
      have hr : ∀ (n : Nat) H', Same H H' → Fds K A O H' (List.replicate n ys).flatten (List.replicate n xs).flatten := fun n H' s => by
        induction n with
        | zero => exact .nil
        | succ n ih =>
          rw [List.replicate_succ, List.replicate_succ, List.flatten_cons, List.flatten_cons]
          exact (hys.same s).app ih
      refine .inr (.inr ⟨p, k, ys, rfl, rfl, hp, by omega, by omega, sz100 (by rw [hys.1]; exact h1), fun l hl => q _ _ (Cr.same_new hl) ((hr _ _ (Cr.same_new hl)).lst upd_same (ho.none hl))⟩)
    · cases hc
theorem rd_mod : RD K A (rI (fun _ j => 0 < j) fun i j => .int (i % j)) gMod := fun {O H x y a b} ho hx hy c hc Q q => by
  cases a <;> cases b <;> try cases hc
  rename_i i j
  have hc : (if 0 < j then some (PyData.int (i % j)) else none) = some c := hc
  split at hc
  · cases hc
    cases hx.int_inv; cases hy.int_inv
    exact ⟨_, _, rfl, rfl, by assumption, q _ _ (.refl _) (.int _)⟩
  · cases hc
theorem rd_div : RD K A (rI CDivW fun i j => .int (i / j)) gDiv := fun {O H x y a b} ho hx hy c hc Q q => by
  cases a <;> cases b <;> try cases hc
  rename_i i j
  have hc : (if 0 < j ∧ j.natAbs.log2 < 9000 then some (PyData.int (i / j)) else none) = some c := hc
  split at hc
  · rename_i hw
    cases hc
    cases hx.int_inv; cases hy.int_inv
    exact ⟨_, _, rfl, rfl, hw, q _ _ (.refl _) (.int _)⟩
  · cases hc
theorem ru_neg1 : RU1 K A (rU fun i => .int (-i)) gNeg := fun {O H x a} ho hx c hc Q q => by
  cases a <;> cases hc
  cases hx.int_inv
  exact ⟨_, rfl, q _ _ (.refl _) (.int _)⟩
theorem eqD_cases {O : Addr → Prop} {H : Hp} {x y : V} {a b : PyData} {r : Bool} (hx : Fd K A O H x a) (hy : Fd K A O H y b) (h : eqD a b = some r) : (scal x y = true ∧ r = decide (x = y)) ∨ (Dp K H x a ∧ Dp K H y b ∧ SeqAt.shaped a = true ∧ SeqAt.shaped b = true ∧ r = PyData.eqv a b) := by
  unfold eqD at h
  split at h
  · cases h; cases hx.int_inv; cases hy.int_inv
    exact .inl ⟨rfl, decide_eq_decide.mpr ⟨fun e => by rw [e], fun e => V.int.inj e⟩⟩
  · cases h; cases hx.str_inv; cases hy.str_inv
    exact .inl ⟨rfl, decide_eq_decide.mpr ⟨fun e => by rw [e], fun e => V.str.inj e⟩⟩
  · cases h; cases hx.int_inv; cases hy.str_inv
    exact .inl ⟨rfl, (decide_eq_false fun e => nomatch e).symm⟩
  · cases h; cases hx.str_inv; cases hy.int_inv
    exact .inl ⟨rfl, (decide_eq_false fun e => nomatch e).symm⟩
  · split at h
    · rename_i hs
      cases h
      obtain ⟨s1, s2⟩ := Bool.and_eq_true_iff.mp hs
      exact .inr ⟨hx.dps s1, hy.dps s2, s1, s2, rfl⟩
    · cases h
theorem rd_eq : RD K A (rEqX K) gEq := fun {O H x y a b} ho hx hy c hc Q q => by
  obtain ⟨r, h1, h2⟩ := bind_some' hc
  cases h2
  rcases eqD_cases hx hy h1 with ⟨s, rfl⟩ | ⟨d1, d2, s1, s2, rfl⟩
  · exact .inl ⟨s, q _ _ (.refl _) (.bl _)⟩
  · exact .inr ⟨a, b, d1, d2, s1, s2, q _ _ (.refl _) (.bl _)⟩
theorem rd_ne : RD K A (rNeX K) gNe := fun {O H x y a b} ho hx hy c hc Q q => by
  obtain ⟨r, h1, h2⟩ := bind_some' hc
  cases h2
  rcases eqD_cases hx hy h1 with ⟨s, rfl⟩ | ⟨d1, d2, s1, s2, rfl⟩
  · exact .inl ⟨s, q _ _ (.refl _) (.bl _)⟩
  · exact .inr ⟨a, b, d1, d2, s1, s2, q _ _ (.refl _) (.bl _)⟩
theorem rd_lt : RD K A (rI0 fun i j => .bl (decide (i < j))) gLt := fun {O H x y a b} ho hx hy c hc Q q => by
  cases a <;> cases b <;> cases hc
  cases hx.int_inv; cases hy.int_inv
  exact ⟨_, _, rfl, rfl, q _ _ (.refl _) (.bl _)⟩
theorem rd_le : RD K A rLeX gLe := fun {O H x y a b} ho hx hy c hc Q q => by
  cases a <;> cases b <;> cases hc
  · cases hx.int_inv; cases hy.int_inv
    exact .inl ⟨_, _, rfl, rfl, q _ _ (.refl _) (.bl _)⟩
  · cases hx.str_inv; cases hy.str_inv
    exact .inr ⟨_, _, rfl, rfl, q _ _ (.refl _) (.bl _)⟩
theorem rd_gt : RD K A (rI0 fun i j => .bl (decide (j < i))) gGt := fun {O H x y a b} ho hx hy c hc Q q => by
  cases a <;> cases b <;> cases hc
  cases hx.int_inv; cases hy.int_inv
  exact ⟨_, _, rfl, rfl, q _ _ (.refl _) (.bl _)⟩
theorem rd_ge : RD K A (rI0 fun i j => .bl (decide (j ≤ i))) gGe := fun {O H x y a b} ho hx hy c hc Q q => by
  cases a <;> cases b <;> cases hc
  cases hx.int_inv; cases hy.int_inv
  exact ⟨_, _, rfl, rfl, q _ _ (.refl _) (.bl _)⟩
theorem rd_isN : RD K A (fun x y H Q => y = .non ∧ Q (.bl (decide (x = .non))) H) gIsN := fun {O H x y a b} ho hx hy c hc Q q => by
  cases b <;> try (cases a <;> cases hc; done)
  refine ⟨hy.non_inv, ?_⟩
  cases hx <;> (have hc := Option.some.inj hc; subst hc; exact q _ _ (.refl _) (.bl _))
theorem rd_notN : RD K A (fun x y H Q => y = .non ∧ Q (.bl (!decide (x = .non))) H) gNotN := fun {O H x y a b} ho hx hy c hc Q q => by
  cases b <;> try (cases a <;> cases hc; done)
  refine ⟨hy.non_inv, ?_⟩
  cases hx <;> (have hc := Option.some.inj hc; subst hc; exact q _ _ (.refl _) (.bl _))
theorem fl_v {O : Addr → Prop} {H : Hp} {x : V} {a : PyData} (h : Fd K A O H x a) (hf : fl a = true) : flatV x = true := by
  cases h <;> first | rfl | cases hf
theorem eqF_v {O : Addr → Prop} {H : Hp} {x y : V} {a b : PyData} (hx : Fd K A O H x a) (hy : Fd K A O H y b) (ha : fl a = true) (hb : fl b = true) : eqV x y = eqF a b := by
  cases hx <;> cases ha <;> cases hy <;> cases hb <;> first | rfl | (simp only [eqV, eqF]; rw [Bool.eq_iff_iff]; simp)
theorem fl_all {O : Addr → Prop} {H : Hp} : ∀ {ds : List PyData} {xs : List V}, Fds K A O H xs ds → ds.all fl = true → xs.all flatV = true
  | [], xs, h, _ => by rw [h.nil_inv]; rfl
  | d :: ds, xs, h, hf => by
    obtain ⟨v, ws, rfl, h1, h2⟩ := h.head
    obtain ⟨f1, f2⟩ := Bool.and_eq_true_iff.mp hf
    show (flatV v && ws.all flatV) = true
    rw [fl_v h1 f1, fl_all h2 f2]
    rfl
theorem in_v {O : Addr → Prop} {H : Hp} {x : V} {a : PyData} (hx : Fd K A O H x a) (hf : fl a = true) : ∀ {ds : List PyData} {xs : List V}, Fds K A O H xs ds → ds.all fl = true → inV x xs = ds.any fun z => eqF z a
  | [], xs, h, _ => by rw [h.nil_inv]; rfl
  | d :: ds, xs, h, hd => by
    obtain ⟨v, ws, rfl, h1, h2⟩ := h.head
    obtain ⟨f1, f2⟩ := Bool.and_eq_true_iff.mp hd
    show (eqV v x || inV x ws) = (eqF d a || ds.any fun z => eqF z a)
    rw [eqF_v h1 hx f1 hf, in_v hx hf h2 f2]
theorem inD_cases {O : Addr → Prop} {H : Hp} {x y : V} {a b : PyData} {r : Bool} (hx : Fd K A O H x a) (hy : Fd K A O H y b) (h : inD a b = some r) :
    (∃ p xs, y = .ref p ∧ (SqL K H p xs ∨ SqT K H p xs) ∧ flatV x = true ∧ xs.all flatV = true ∧ r = inV x xs) ∨ (∃ ds, b = .tuple ds ∧ Dp K H x a ∧ Dp K H y (.tuple ds) ∧ SeqAt.shaped a = true ∧ SeqAt.shaped (.tuple ds) = true ∧ r = ds.any fun z => PyData.eqv z a) ∨
    (∃ ds, b = .list ds ∧ Dp K H x a ∧ Dp K H y (.list ds) ∧ SeqAt.shaped a = true ∧ SeqAt.shaped (.list ds) = true ∧ r = ds.any fun z => PyData.eqv z a) := by
  unfold inD at h
  split at h
  · rename_i ds
    obtain ⟨p, xs, rfl, hp, hxs⟩ := hy.tup_inv
    split at h
    · rename_i hf
      obtain ⟨f1, f2⟩ := Bool.and_eq_true_iff.mp hf
      cases h
      exact .inl ⟨p, xs, rfl, .inr hp, fl_v hx f1, fl_all hxs f2, (in_v hx f1 hxs f2).symm⟩
    · split at h
      · rename_i hs
        obtain ⟨s1, s2⟩ := Bool.and_eq_true_iff.mp hs
        cases h
        exact .inr (.inl ⟨ds, rfl, hx.dps s1, hy.dps s2, s1, s2, rfl⟩)
      · cases h
  · rename_i ds
    obtain ⟨p, xs, rfl, hp, hnp, hxs⟩ := hy.lst_inv
    split at h
    · rename_i hf
      obtain ⟨f1, f2⟩ := Bool.and_eq_true_iff.mp hf
      cases h
      exact .inl ⟨p, xs, rfl, .inl (sq_of hp), fl_v hx f1, fl_all hxs f2, (in_v hx f1 hxs f2).symm⟩
    · split at h
      · rename_i hs
        obtain ⟨s1, s2⟩ := Bool.and_eq_true_iff.mp hs
        cases h
        exact .inr (.inr ⟨ds, rfl, hx.dps s1, hy.dps s2, s1, s2, rfl⟩)
      · cases h
  · cases h
theorem rd_in : RD K A (rInX K) gIn := fun {O H x y a b} ho hx hy c hc Q q => by
  obtain ⟨r, h1, h2⟩ := bind_some' hc
  cases h2
  rcases inD_cases hx hy h1 with ⟨p, xs, rfl, hs, f1, f2, rfl⟩ | ⟨ds, rfl, d1, d2, s1, s2, rfl⟩ | ⟨ds, rfl, d1, d2, s1, s2, rfl⟩
  · exact .inl ⟨p, xs, rfl, hs, f1, f2, q _ _ (.refl _) (.bl _)⟩
  · exact .inr (.inl ⟨a, ds, d1, d2, s1, s2, q _ _ (.refl _) (.bl _)⟩)
  · exact .inr (.inr ⟨a, ds, d1, d2, s1, s2, q _ _ (.refl _) (.bl _)⟩)
theorem rd_ni : RD K A (rNiX K) gNi := fun {O H x y a b} ho hx hy c hc Q q => by
  obtain ⟨r, h1, h2⟩ := bind_some' hc
  cases h2
  rcases inD_cases hx hy h1 with ⟨p, xs, rfl, hs, f1, f2, rfl⟩ | ⟨ds, rfl, d1, d2, s1, s2, rfl⟩ | ⟨ds, rfl, d1, d2, s1, s2, rfl⟩
  · exact .inl ⟨p, xs, rfl, hs, f1, f2, q _ _ (.refl _) (.bl _)⟩
  · exact .inr (.inl ⟨a, ds, d1, d2, s1, s2, q _ _ (.refl _) (.bl _)⟩)
  · exact .inr (.inr ⟨a, ds, d1, d2, s1, s2, q _ _ (.refl _) (.bl _)⟩)
theorem atI_get {O : Addr → Prop} {H : Hp} {xs : List V} {ds : List PyData} {i : Int} {c : PyData} (h : Fds K A O H xs ds) (hc : atI ds i = some c) : ∃ v, atI xs i = some v ∧ Fd K A O H v c := by
  unfold atI at hc ⊢
  rw [h.1]
  obtain ⟨j, h1, h2⟩ := Option.bind_eq_some_iff.mp hc
  obtain ⟨v, h3, h4⟩ := h.get h2
  exact ⟨v, by rw [h1]; exact h3, h4⟩
theorem rd_ix : RD K A (rIx K) gIx := fun {O H x y a b} ho hx hy c hc Q q => by
  cases a <;> cases b <;> try cases hc
  · rename_i z i
    cases hx.str_inv; cases hy.int_inv
    obtain ⟨z', h1, h2⟩ := bind_some' (show ((lim z.length z).bind fun z => (atI z.cps.toList i).bind fun c => some (PyData.str ⟨#[c]⟩)) = some c from hc)
    obtain ⟨h3, rfl⟩ := lim_some h1
    obtain ⟨cc, h4, h5⟩ := bind_some' h2
    cases h5
    exact .inr (.inr ⟨z, i, cc, rfl, rfl, sz100 h3, h4, q _ _ (.refl _) (.str _)⟩)
  · cases hy.int_inv
    obtain ⟨p, xs, rfl, hp, hnp, hxs⟩ := hx.lst_inv
    obtain ⟨v, h1, h2⟩ := atI_get hxs hc
    exact .inl ⟨p, xs, _, v, rfl, rfl, sq_of hp, h1, q _ _ (.refl _) h2⟩
  · cases hy.int_inv
    obtain ⟨p, xs, rfl, hp, hxs⟩ := hx.tup_inv
    obtain ⟨v, h1, h2⟩ := atI_get hxs hc
    exact .inr (.inl ⟨p, xs, _, v, rfl, rfl, hp, h1, q _ _ (.refl _) h2⟩)
theorem fds_cut {O : Addr → Prop} {H : Hp} {xs : List V} {ds : List PyData} (h : Fds K A O H xs ds) (lo hi : Option Int) : Fds K A O H (cutV xs lo hi) (cutD ds lo hi) := by
  unfold cutV cutD
  rw [h.1]
  exact (h.drop _).take _
theorem rs_sl : RS K A (rSlX K) gSl := fun {O H x a} ho hx lo hi c hc Q q => by
  cases a <;> try cases hc
  · rename_i z
    cases hx.str_inv
    obtain ⟨z', h1, h2⟩ := bind_some' (show ((lim z.length z).bind fun z => some (PyData.str (cutS z lo hi))) = some c from hc)
    obtain ⟨h3, rfl⟩ := lim_some h1
    cases h2
    exact .inr (.inr ⟨z, rfl, sz100 h3, q _ _ (.refl _) (.str _)⟩)
  · obtain ⟨p, xs, rfl, hp, hnp, hxs⟩ := hx.lst_inv
    exact .inr (.inl ⟨p, xs, rfl, sq_of hp, fun l hl => q _ _ (Cr.same_new hl) (((fds_cut hxs lo hi).same (Cr.same_new hl)).lst upd_same (ho.none hl))⟩)
  · obtain ⟨p, xs, rfl, hp, hxs⟩ := hx.tup_inv
    refine .inl ⟨p, xs, rfl, hp, fun hw => ?_, fun hw l hl => q _ _ (Cr.same_new hl) (((fds_cut hxs lo hi).same (Cr.same_new hl)).tup (.of upd_same))⟩
    have e : cutV xs lo hi = xs := by
      unfold cutV
      rw [hw.1, hw.2]
      show List.take (xs.length - 0) xs = xs
      exact List.take_of_length_le (by omega)
    have := fds_cut hxs lo hi
    rw [e] at this
    exact q _ _ (.refl _) (this.tup hp)
theorem se_rev {te : TE} {fe : FE} (h : SE K A te fe) : SE K A (tRevT K te) (fUn gRev fe) := fun R d hd Q q => by
  obtain ⟨a, h1, h2⟩ := bind_some' hd
  cases a <;> cases h2
  refine h R _ h1 _ fun v H1 e1 hv => ?_
  obtain ⟨p, xs, rfl, hp, hxs⟩ := hv.tup_inv
  exact ⟨p, xs, rfl, hp, fun l hl => q _ _ (e1.trans (Cr.same_new hl)) ((hxs.reverse.same (Cr.same_new hl)).tup (.of upd_same))⟩
theorem one_inv {O : Addr → Prop} {H : Hp} {xs : List V} {d : PyData} (h : Fds K A O H xs [d]) : ∃ v, xs = [v] ∧ Fd K A O H v d := by
  obtain ⟨v, ws, rfl, h1, h2⟩ := h.head
  rw [h2.nil_inv]
  exact ⟨v, rfl, h1⟩
theorem rc_len : RDs K A (rLenX K) gLen := fun {O H xs ds} ho hx c hc Q q => by
  unfold gLen at hc
  split at hc
  · cases hc
    obtain ⟨v, rfl, hv⟩ := one_inv hx
    obtain ⟨p, ys, rfl, hp, hys⟩ := hv.tup_inv
    exact ⟨_, _, rfl, .inr ⟨ys, hp, hys.1.symm⟩, q _ _ (.refl _) (.int _)⟩
  · cases hc
    obtain ⟨v, rfl, hv⟩ := one_inv hx
    obtain ⟨p, ys, rfl, hp, hnp, hys⟩ := hv.lst_inv
    exact ⟨_, _, rfl, .inl ⟨ys, sq_of hp, hys.1.symm⟩, q _ _ (.refl _) (.int _)⟩
  · obtain ⟨h1, rfl⟩ := lim_some hc
    obtain ⟨v, rfl, hv⟩ := one_inv hx
    cases hv.str_inv
    exact ⟨_, _, rfl, ⟨sz100 h1, rfl⟩, q _ _ (.refl _) (.int _)⟩
  · cases hc
theorem allB_v {O : Addr → Prop} {H : Hp} : ∀ {ds : List PyData} {xs : List V} {b : Bool}, Fds K A O H xs ds → allB ds = some b → ∃ bs : List Bool, xs = bs.map V.bl ∧ bs.all id = b
  | [], xs, b, h, hb => by cases hb; exact ⟨[], by rw [h.nil_inv]; rfl, rfl⟩
  | d :: ds, xs, b, h, hb => by
    cases d <;> try cases hb
    obtain ⟨r, h1, h2⟩ := bind_some' hb
    cases h2
    obtain ⟨v, ws, rfl, h3, h4⟩ := h.head
    obtain ⟨bs, rfl, h5⟩ := allB_v h4 h1
    cases h3.bl_inv
    exact ⟨_ :: bs, rfl, by rw [List.all_cons, h5]; rfl⟩
theorem anyB_v {O : Addr → Prop} {H : Hp} : ∀ {ds : List PyData} {xs : List V} {b : Bool}, Fds K A O H xs ds → anyB ds = some b → ∃ bs : List Bool, xs = bs.map V.bl ∧ bs.any id = b
  | [], xs, b, h, hb => by cases hb; exact ⟨[], by rw [h.nil_inv]; rfl, rfl⟩
  | d :: ds, xs, b, h, hb => by
    cases d <;> try cases hb
    obtain ⟨r, h1, h2⟩ := bind_some' hb
    cases h2
    obtain ⟨v, ws, rfl, h3, h4⟩ := h.head
    obtain ⟨bs, rfl, h5⟩ := anyB_v h4 h1
    cases h3.bl_inv
    exact ⟨_ :: bs, rfl, by rw [List.any_cons, h5]; rfl⟩
theorem sumI_v {O : Addr → Prop} {H : Hp} : ∀ {ds : List PyData} {xs : List V} {b : Int}, Fds K A O H xs ds → sumI ds = some b → ∃ bs : List Int, xs = bs.map V.int ∧ bs.sum = b
  | [], xs, b, h, hb => by cases hb; exact ⟨[], by rw [h.nil_inv]; rfl, rfl⟩
  | d :: ds, xs, b, h, hb => by
    cases d <;> try cases hb
    obtain ⟨r, h1, h2⟩ := bind_some' hb
    cases h2
    obtain ⟨v, ws, rfl, h3, h4⟩ := h.head
    obtain ⟨bs, rfl, h5⟩ := sumI_v h4 h1
    cases h3.int_inv
    exact ⟨_ :: bs, rfl, by rw [List.sum_cons, h5]⟩
theorem rc_all : RDs K A (rAll K) gAll := fun {O H xs ds} ho hx c hc Q q => by
  unfold gAll at hc
  split at hc
  · obtain ⟨b, h1, h2⟩ := bind_some' hc
    cases h2
    obtain ⟨v, rfl, hv⟩ := one_inv hx
    obtain ⟨p, ys, rfl, hp, hnp, hys⟩ := hv.lst_inv
    obtain ⟨bs, rfl, rfl⟩ := allB_v hys h1
    exact ⟨p, bs, rfl, sq_of hp, q _ _ (.refl _) (.bl _)⟩
  · cases hc
theorem rc_any : RDs K A (rAny K) gAny := fun {O H xs ds} ho hx c hc Q q => by
  unfold gAny at hc
  split at hc
  · obtain ⟨b, h1, h2⟩ := bind_some' hc
    cases h2
    obtain ⟨v, rfl, hv⟩ := one_inv hx
    obtain ⟨p, ys, rfl, hp, hnp, hys⟩ := hv.lst_inv
    obtain ⟨bs, rfl, rfl⟩ := anyB_v hys h1
    exact ⟨p, bs, rfl, sq_of hp, q _ _ (.refl _) (.bl _)⟩
  · cases hc
theorem rc_sum : RDs K A (rSumX K) gSum := fun {O H xs ds} ho hx c hc Q q => by
  unfold gSum at hc
  split at hc
  · obtain ⟨b, h1, h2⟩ := bind_some' hc
    cases h2
    obtain ⟨v, rfl, hv⟩ := one_inv hx
    obtain ⟨p, ys, rfl, hp, hnp, hys⟩ := hv.lst_inv
    obtain ⟨bs, rfl, rfl⟩ := sumI_v hys h1
    exact .inl ⟨p, bs, rfl, sq_of hp, q _ _ (.refl _) (.int _)⟩
  · obtain ⟨b, h1, h2⟩ := bind_some' hc
    cases h2
    obtain ⟨v, rfl, hv⟩ := one_inv hx
    obtain ⟨p, ys, rfl, hp, hys⟩ := hv.tup_inv
    obtain ⟨bs, rfl, rfl⟩ := sumI_v hys h1
    exact .inr ⟨p, bs, rfl, hp, q _ _ (.refl _) (.int _)⟩
  · cases hc
theorem rc_tuple : RDs K A (rTupO K) gTuple := fun {O H xs ds} ho hx c hc Q q => by
  unfold gTuple at hc
  split at hc
  · cases hc
    obtain ⟨v, rfl, hv⟩ := one_inv hx
    obtain ⟨p, ys, rfl, hp, hnp, hys⟩ := hv.lst_inv
    exact ⟨p, ys, rfl, .inl ⟨sq_of hp, fun l hl => q _ _ (Cr.same_new hl) ((hys.same (Cr.same_new hl)).tup (.of upd_same))⟩⟩
  · cases hc
    obtain ⟨v, rfl, hv⟩ := one_inv hx
    obtain ⟨p, ys, rfl, hp, hys⟩ := hv.tup_inv
    exact ⟨p, ys, rfl, .inr ⟨hp, q _ _ (.refl _) (hys.tup hp)⟩⟩
  · cases hc
theorem rc_list : RDsL K A (rLstO K) gList := fun {O H xs ds} ho hx es hc Q q => by
  unfold gList at hc
  split at hc
  · cases hc
    obtain ⟨v, rfl, hv⟩ := one_inv hx
    obtain ⟨p, ys, rfl, hp, hnp, hys⟩ := hv.lst_inv
    exact ⟨p, ys, rfl, .inl (sq_of hp), fun l hl => q l ys _ hl (Cr.same_new hl) upd_same ((hys.more hl).same (Cr.same_new hl))⟩
  · cases hc
    obtain ⟨v, rfl, hv⟩ := one_inv hx
    obtain ⟨p, ys, rfl, hp, hys⟩ := hv.tup_inv
    exact ⟨p, ys, rfl, .inr hp, fun l hl => q l ys _ hl (Cr.same_new hl) upd_same ((hys.more hl).same (Cr.same_new hl))⟩
  · cases hc
theorem rc_max : RDs K A rMax2 gMax := fun {O H xs ds} ho hx c hc Q q => by
  unfold gMax at hc
  split at hc
  · cases hc
    obtain ⟨v, ws, rfl, h1, h2⟩ := hx.head
    obtain ⟨u, rfl, h3⟩ := one_inv h2
    cases h1.int_inv; cases h3.int_inv
    exact ⟨_, _, rfl, q _ _ (.refl _) (.int _)⟩
  · cases hc
/-- len of a slot, own or not -/
def fLenV (i : Nat) : FE := fun ρ => match ρ[i]? with
  | some (.val d) => gLen [d]
  | some (.own (.l ds)) => some (.int ds.length)
  | some (.own (.d _ _ _)) => none
  | _ => none
theorem se_lenV (i : Nat) : SE K A (tCB (rLenX K) (tCons (tVar i) tNil)) (fLenV i) := fun {H0 O0 O σ H ρ} R d hd Q q => by
  unfold fLenV at hd
  split at hd
  · rename_i d' hi
    obtain ⟨v, h1, h2⟩ := R.val i d' hi
    exact ⟨v, h1, rc_len R.owl (.cons h2 .nil) d hd Q q⟩
  · rename_i ds hi
    cases hd
    obtain ⟨p, _, s1, s2, s3, s4, xs, rfl, s5⟩ := R.own i _ hi
    exact ⟨_, s1, _, _, rfl, .inl ⟨xs, sq_of s4, s5.1.symm⟩, q _ _ (.refl _) (.int _)⟩
  · cases hd
  · cases hd
/-- isinstance of data and a built-in class -/
theorem se_isi {te : TE} {fe : FE} {n : String} (h : SE K A te fe) : SE K A (tCB (rIsi K) (tCons te (tCons (tC (.ty n)) tNil))) (fCall (gIsi n) (fCons fe fNil)) := fun {H0 O0 O σ H ρ} R d hd Q q => by
  obtain ⟨ds, h1, h2⟩ := bind_some' hd
  obtain ⟨a, h3, h4⟩ := bind_some' h1
  cases h4
  obtain ⟨t, h5, h6⟩ := bind_some' (show ((tyO a).bind fun t => (kitB t n).bind fun b => some (PyData.bool b)) = some d from h2)
  obtain ⟨c, h7, h8⟩ := bind_some' h6
  cases h8
  refine h R a h3 _ fun v H1 e1 hv => ?_
  have ht : TyX K H1 v (.type t) := by
    cases hv with
    | int i => cases h5; exact .base (.int i)
    | str i => cases h5; exact .base (.str i)
    | bl i => cases h5; exact .base (.bl i)
    | tup hs _ _ =>
      cases h5
      rcases hs with (hs | ⟨o, hs⟩) | ⟨o, its, n, hk, hc, _⟩
      · exact .base (.tup hs)
      · exact .fTuple hs
      · exact .kTuple hk hc
    | non => cases h5
    | lst => cases h5
    | fn => cases h5
  exact ⟨v, .ty n, _, _, c, rfl, .ty n, ht, kit_ty h7, q _ _ e1 (.bl _)⟩
end
/-! ### walks -/
def fSeqI (fe : FE) : FA := fun ρ => (fe ρ).bind fun d => match d with
  | .list ds => some ds
  | .tuple ds => some ds
  | .str z => some (z.cps.toList.map fun c => .str ⟨#[c]⟩)
  | _ => none
def rngD (lo : Int) (n : Nat) : List PyData := (List.range n).map fun (i : Nat) => PyData.int (lo + (i : Int))
def fRng1 (fa : FA) : FA := fun ρ => (fa ρ).bind fun ds => match ds with
  | [.int n] => if -10000000 ≤ n ∧ n ≤ 10000000 then some (rngD 0 n.toNat) else none
  | _ => none
def fRng2 (fa : FA) : FA := fun ρ => (fa ρ).bind fun ds => match ds with
  | [.int a, .int b] => if (-10000000 ≤ a ∧ a ≤ 10000000) ∧ (-10000000 ≤ b ∧ b ≤ 10000000) then some (rngD a (b - a).toNat) else none
  | _ => none
def enuD : Nat → List PyData → List PyData
  | _, [] => []
  | i, d :: ds => .tuple [.int i, d] :: enuD (i + 1) ds
def fEnu (fa : FA) : FA := fun ρ => (fa ρ).bind fun ds => match ds with
  | [.list ds] => some (enuD 0 ds)
  | [.tuple ds] => some (enuD 0 ds)
  | _ => none
def zipD : List PyData → List PyData → List PyData
  | d :: ds, e :: es => .tuple [d, e] :: zipD ds es
  | _, _ => []
def fZip (fa : FA) : FA := fun ρ => (fa ρ).bind fun ds => match ds with
  | [.list ds, .list es] => some (zipD ds es)
  | [.tuple ds, .tuple es] => some (zipD ds es)
  | _ => none
section
variable {K : PySem.W.Frag} {A : Atm} {te : TE} {fe : FE} {ta : TA} {fa : FA}
theorem wk_list {O : Addr → Prop} {H : Hp} {p : Addr} {xs : List V} {ds : List PyData} (hp : H p = some (.lst xs)) (hn : ¬ O p) (h : Fds K A O H xs ds) (ho : Owl O H) : Wk K A O H (Itl K p) ds := by
  refine ⟨_, _, h.1 ▸ walk_list (xs := xs), fun O' H' ho' ev => ⟨sq_of (ev _ _ hp hn).1, fun i x H2 hi hy => ?_⟩⟩
  obtain ⟨rfl, hx⟩ := hy
  obtain ⟨d, hd, hv⟩ := h.get' hx
  exact ⟨.refl _, d, hd, hv.evo ho ev⟩
theorem wk_tup {O : Addr → Prop} {H : Hp} {p : Addr} {xs : List V} {ds : List PyData} (hp : SqT K H p xs) (h : Fds K A O H xs ds) (ho : Owl O H) : Wk K A O H (Itt K p) ds := by
  refine ⟨_, _, h.1 ▸ walk_tup (xs := xs), fun O' H' ho' ev => ⟨sqT_evo ho ev hp, fun i x H2 hi hy => ?_⟩⟩
  obtain ⟨rfl, hx⟩ := hy
  obtain ⟨d, hd, hv⟩ := h.get' hx
  exact ⟨.refl _, d, hd, hv.evo ho ev⟩
theorem si_seq (h : SE K A te fe) : SI K A (iSeq K te) (fSeqI fe) := fun R ds hds Rr q => by
  obtain ⟨d, h1, h2⟩ := bind_some' hds
  cases d <;> try cases h2
  · refine .inr (.inr (h R _ h1 _ fun v H1 e1 hv => ⟨_, hv.str_inv, q _ _ e1 ?_⟩))
    rename_i z
    refine ⟨_, _, by rw [List.length_map, Array.length_toList]; exact walk_str (z := z), fun O' H' ho' ev => ⟨trivial, fun i x H2 hi hy => ?_⟩⟩
    obtain ⟨rfl, c, hc, rfl⟩ := hy
    exact ⟨.refl _, .str ⟨#[c]⟩, by rw [List.getElem?_map, Array.getElem?_toList, hc]; rfl, .str _⟩
  · refine .inl (h R _ h1 _ fun v H1 e1 hv => ?_)
    obtain ⟨p, xs, rfl, hp, hnp, hxs⟩ := hv.lst_inv
    exact ⟨p, rfl, ⟨xs, sq_of hp⟩, q _ _ e1 (wk_list hp hnp hxs (R.owl.same e1))⟩
  · refine .inr (.inl (h R _ h1 _ fun v H1 e1 hv => ?_))
    obtain ⟨p, xs, rfl, hp, hxs⟩ := hv.tup_inv
    exact ⟨p, rfl, ⟨xs, hp⟩, q _ _ e1 (wk_tup hp hxs (R.owl.same e1))⟩
theorem wk_rng {O : Addr → Prop} {H : Hp} (lo : Int) (n : Nat) : Wk K A O H (Itr lo n) (rngD lo n) := by
  refine ⟨_, _, by unfold rngD; rw [List.length_map, List.length_range]; exact walk_range (lo := lo) (n := n), fun O' H' ho' ev => ⟨trivial, fun i x H2 hi hy => ?_⟩⟩
  obtain ⟨rfl, rfl⟩ := hy
  unfold rngD at hi ⊢
  rw [List.length_map, List.length_range] at hi
  exact ⟨.refl _, .int (lo + i), by rw [List.getElem?_map, List.getElem?_range hi]; rfl, .int _⟩
theorem si_rng1 (h : SA K A ta fa) : SI K A (iRng1 ta) (fRng1 fa) := fun R ds hds Rr q => by
  obtain ⟨es, h1, h2⟩ := bind_some' hds
  split at h2
  · rename_i n
    split at h2
    · cases h2
      refine h R _ h1 _ fun vs H1 e1 hvs => ?_
      obtain ⟨v, rfl, hv⟩ := one_inv hvs
      cases hv.int_inv
      exact ⟨n, rfl, by omega, by omega, q _ _ e1 (wk_rng 0 n.toNat)⟩
    · cases h2
  · cases h2
theorem si_rng2 (h : SA K A ta fa) : SI K A (iRng2 ta) (fRng2 fa) := fun R ds hds Rr q => by
  obtain ⟨es, h1, h2⟩ := bind_some' hds
  split at h2
  · rename_i a b
    split at h2
    · cases h2
      refine h R _ h1 _ fun vs H1 e1 hvs => ?_
      obtain ⟨v, ws, rfl, hv, hws⟩ := hvs.head
      obtain ⟨u, rfl, hu⟩ := one_inv hws
      cases hv.int_inv; cases hu.int_inv
      exact ⟨a, b, rfl, ⟨by omega, by omega, by omega, by omega⟩, q _ _ e1 (wk_rng a (b - a).toNat)⟩
    · cases h2
  · cases h2
theorem enu_get : ∀ (k : Nat) (ds : List PyData) (i : Nat) (d : PyData), ds[i]? = some d → (enuD k ds)[i]? = some (.tuple [.int ((k + i : Nat) : Int), d])
  | _, [], i, d, h => by simp at h
  | k, e :: ds, 0, d, h => by cases h; rfl
  | k, e :: ds, i + 1, d, h => by
    show (enuD (k + 1) ds)[i]? = _
    rw [enu_get (k + 1) ds i d (by simpa using h), show k + 1 + i = k + (i + 1) by omega]
theorem enu_len : ∀ (k : Nat) (ds : List PyData), (enuD k ds).length = ds.length
  | _, [] => rfl
  | k, d :: ds => by show (enuD (k + 1) ds).length + 1 = _; rw [enu_len]; rfl
theorem zip_get : ∀ (ds es : List PyData) (i : Nat) (d e : PyData), ds[i]? = some d → es[i]? = some e → (zipD ds es)[i]? = some (.tuple [d, e])
  | [], _, i, d, e, h, _ => by simp at h
  | _ :: _, [], i, d, e, _, h => by simp at h
  | a :: ds, b :: es, 0, d, e, h, h' => by cases h; cases h'; rfl
  | a :: ds, b :: es, i + 1, d, e, h, h' => by
    show (zipD ds es)[i]? = _
    exact zip_get ds es i d e (by simpa using h) (by simpa using h')
theorem zip_len : ∀ (ds es : List PyData), (zipD ds es).length = min ds.length es.length
  | [], es => by simp [zipD]
  | _ :: _, [] => by simp [zipD]
  | a :: ds, b :: es => by show (zipD ds es).length + 1 = _; rw [zip_len]; simp
theorem si_enu (h : SA K A ta fa) : SI K A (iEnu K ta) (fEnu fa) := fun {H0 O0 O σ H ρ} R ds hds Rr q => by
  obtain ⟨es, h1, h2⟩ := bind_some' hds
  split at h2
  · rename_i ds'
    cases h2
    refine .inl (h R _ h1 _ fun vs H1 e1 hvs => ?_)
    obtain ⟨v, rfl, hv⟩ := one_inv hvs
    obtain ⟨p, xs, rfl, hp, hnp, hxs⟩ := hv.lst_inv
    refine ⟨p, xs, rfl, sq_of hp, q _ _ e1 ⟨_, _, by rw [enu_len, ← hxs.1]; exact walk_enum (xs := xs), fun O' H' ho' ev => ⟨sq_of (ev _ _ hp hnp).1, fun i x H2 hi hy => ?_⟩⟩⟩
    obtain ⟨T, a, b, rfl, hT, rfl, f1, f2⟩ := hy
    cases f1
    obtain ⟨d, hd, hb⟩ := hxs.get' f2
    refine ⟨Cr.same_new hT, _, by rw [enu_get 0 ds' i d hd, Nat.zero_add], ?_⟩
    exact (Fds.cons (.int _) (.cons ((hb.evo (R.owl.same e1) ev).same (Cr.same_new hT)) .nil)).tup (.of upd_same)
  · rename_i ds'
    cases h2
    refine .inr (h R _ h1 _ fun vs H1 e1 hvs => ?_)
    obtain ⟨v, rfl, hv⟩ := one_inv hvs
    obtain ⟨p, xs, rfl, hp, hxs⟩ := hv.tup_inv
    refine ⟨p, xs, rfl, hp, q _ _ e1 ⟨_, _, by rw [enu_len, ← hxs.1]; exact walk_enumT (xs := xs), fun O' H' ho' ev => ⟨sqT_evo (R.owl.same e1) ev hp, fun i x H2 hi hy => ?_⟩⟩⟩
    obtain ⟨T, a, b, rfl, hT, rfl, f1, f2⟩ := hy
    cases f1
    obtain ⟨d, hd, hb⟩ := hxs.get' f2
    refine ⟨Cr.same_new hT, _, by rw [enu_get 0 ds' i d hd, Nat.zero_add], ?_⟩
    exact (Fds.cons (.int _) (.cons ((hb.evo (R.owl.same e1) ev).same (Cr.same_new hT)) .nil)).tup (.of upd_same)
  · cases h2
theorem si_zip (h : SA K A ta fa) : SI K A (RZ.iZipA K ta) (fZip fa) := fun {H0 O0 O σ H ρ} R ds hds Rr q => by
  obtain ⟨es, h1, h2⟩ := bind_some' hds
  split at h2
  · rename_i ds1 ds2
    cases h2
    refine h R _ h1 _ fun vs H1 e1 hvs => ?_
    obtain ⟨v, ws, rfl, hv, hws⟩ := hvs.head
    obtain ⟨u, rfl, hu⟩ := one_inv hws
    obtain ⟨p, xs, rfl, hp, hnp, hxs⟩ := hv.lst_inv
    obtain ⟨p2, ys, rfl, hp2, hnp2, hys⟩ := hu.lst_inv
    refine ⟨p, p2, xs, ys, rfl, .inl ⟨sq_of hp, sq_of hp2, q _ _ e1 ⟨_, _, walk_zip (xs := xs) (ys := ys) (by rw [zip_len, hxs.1, hys.1]), fun O' H' ho' ev => ⟨⟨sq_of (ev _ _ hp hnp).1, sq_of (ev _ _ hp2 hnp2).1⟩, fun i x H2 hi hy => ?_⟩⟩⟩⟩
    obtain ⟨T, a, b, rfl, hT, rfl, f1, f2⟩ := hy
    obtain ⟨d, hd, ha⟩ := hxs.get' f1
    obtain ⟨e, he, hb⟩ := hys.get' f2
    refine ⟨Cr.same_new hT, _, zip_get ds1 ds2 i d e hd he, ?_⟩
    exact (Fds.cons ((ha.evo (R.owl.same e1) ev).same (Cr.same_new hT)) (.cons ((hb.evo (R.owl.same e1) ev).same (Cr.same_new hT)) .nil)).tup (.of upd_same)
  · rename_i ds1 ds2
    cases h2
    refine h R _ h1 _ fun vs H1 e1 hvs => ?_
    obtain ⟨v, ws, rfl, hv, hws⟩ := hvs.head
    obtain ⟨u, rfl, hu⟩ := one_inv hws
    obtain ⟨p, xs, rfl, hp, hxs⟩ := hv.tup_inv
    obtain ⟨p2, ys, rfl, hp2, hys⟩ := hu.tup_inv
    refine ⟨p, p2, xs, ys, rfl, .inr ⟨hp, hp2, q _ _ e1 ⟨_, _, Cr.walk_zipT (xs := xs) (ys := ys) (by rw [zip_len, hxs.1, hys.1]), fun O' H' ho' ev => ⟨⟨sqT_evo (R.owl.same e1) ev hp, sqT_evo (R.owl.same e1) ev hp2⟩, fun i x H2 hi hy => ?_⟩⟩⟩⟩
    obtain ⟨T, a, b, rfl, hT, rfl, f1, f2⟩ := hy
    obtain ⟨d, hd, ha⟩ := hxs.get' f1
    obtain ⟨e, he, hb⟩ := hys.get' f2
    refine ⟨Cr.same_new hT, _, zip_get ds1 ds2 i d e hd he, ?_⟩
    exact (Fds.cons ((ha.evo (R.owl.same e1) ev).same (Cr.same_new hT)) (.cons ((hb.evo (R.owl.same e1) ev).same (Cr.same_new hT)) .nil)).tup (.of upd_same)
  · cases h2
end
end Sm
set_option maxRecDepth 10000000
/-! stars, in-place sums, comprehensions with two clauses, sorted -/
namespace Sm
open PySem PySem.Spec PyProof.Rows L2 Evl CrT Cr
def fStar (fe : FE) (fr : FA) : FA := fun ρ => (fe ρ).bind fun a => match a with
  | .tuple ds => (fr ρ).bind fun r => some (ds ++ r)
  | .list ds => (fr ρ).bind fun r => some (ds ++ r)
  | _ => none
def fAug (i : Nat) (fe : FE) : FS := fun ρ => match ρ[i]? with
  | some (.val (.int a)) => (fe ρ).bind fun d => match d with
    | .int b => some (.nx, ρ.set i (.val (.int (a + b))))
    | _ => none
  | _ => none
section
variable {K : PySem.W.Frag} {A : Atm} {te : TE} {fe : FE} {tas : TA} {fas : FA}
theorem sa_star (ha : SE K A te fe) (hr : SA K A tas fas) : SA K A (StX.tStar K te tas) (fStar fe fas) := fun R ds h Q q => by
  obtain ⟨a, h1, h⟩ := bind_some' h
  cases a <;> try cases h
  · obtain ⟨r, h2, h3⟩ := bind_some' h
    cases h3
    refine ha R _ h1 _ fun v H1 e1 hv => ?_
    obtain ⟨p, xs, rfl, hp, hnp, hxs⟩ := hv.lst_inv
    exact ⟨p, xs, rfl, .inr (sq_of hp), hr (R.same e1) r h2 _ fun vs H2 e2 hvs => q _ H2 (e1.trans e2) ((hxs.same e2).app hvs)⟩
  · obtain ⟨r, h2, h3⟩ := bind_some' h
    cases h3
    refine ha R _ h1 _ fun v H1 e1 hv => ?_
    obtain ⟨p, xs, rfl, hp, hxs⟩ := hv.tup_inv
    exact ⟨p, xs, rfl, .inl hp, hr (R.same e1) r h2 _ fun vs H2 e2 hvs => q _ H2 (e1.trans e2) ((hxs.same e2).app hvs)⟩
theorem ss_aug {i : Nat} (h : SE K A te fe) : SS K A (tAug i te (ipI fun i j => i + j)) (fAug i fe) := fun {H0 O0 O σ H ρ} r o ho D p => by
  unfold fAug at ho
  split at ho
  · rename_i a hi
    obtain ⟨d, h1, h2⟩ := bind_some' ho
    cases d <;> try cases h2
    rename_i b
    obtain ⟨v, s1, s2⟩ := r.val i _ hi
    cases s2.int_inv
    refine ⟨_, s1, h r _ h1 _ fun u H1 e1 hu => ?_⟩
    exact ⟨a, b, rfl, hu.int_inv, p _ H1 O ((r.same e1).set i (.int _)) (.same e1)⟩
  · cases ho
/-! ### two clauses -/
def cStep2 (g : PyData → List Sl → Option (List Sl)) (t : FT) (fi : FA) (g1 : PyData → List Sl → Option (List Sl)) (t1 : FT) (e : FE) (vs1 : List Nat) (ρ : List Sl) : PyData → Option (List PyData) := fun d => (g d ρ).bind fun ρ1 => (t ρ1).bind fun b => if b then (fi ρ1).bind fun ds => compM (cStep g1 t1 e (wpS ρ1 vs1)) ds else some []
def catM (step : PyData → Option (List PyData)) : List PyData → Option (List PyData)
  | [] => some []
  | d :: ds => (step d).bind fun xs => (catM step ds).bind fun r => some (xs ++ r)
def fComp2 (fi : FA) (g : PyData → List Sl → Option (List Sl)) (t : FT) (fi1 : FA) (g1 : PyData → List Sl → Option (List Sl)) (t1 : FT) (e : FE) (vs vs1 : List Nat) : FA := fun ρ => (fi ρ).bind fun ds => (catM (cStep2 g t fi1 g1 t1 e vs1 (wpS ρ vs)) ds).bind fun r => lim r.length r
theorem sl_lc2 {wi wi1 : TI} {fi fi1 : FA} {tg tg1 : TG} {gg gg1 : PyData → List Sl → Option (List Sl)} {ws ws1 vs vs1 : List Nat} {tt tt1 : TT} {ft ft1 : FT} (hi : SI K A wi fi) (hg : SG K A tg gg ws) (hsub : ∀ i ∈ ws, i ∈ vs) (ht : ST K A tt ft) (hi1 : SI K A wi1 fi1) (hg1 : SG K A tg1 gg1 ws1) (hsub1 : ∀ i ∈ ws1, i ∈ vs1) (hvv : ∀ i ∈ vs1, i ∈ vs) (ht1 : ST K A tt1 ft1) (he : SE K A te fe) : SL K A (tLc2 wi tg tt wi1 tg1 tt1 te vs vs1) (fComp2 fi gg ft fi1 gg1 ft1 fe vs vs1) := fun {H0 O0 O σ H ρ} r rs hr Q q => by
  obtain ⟨ds, h1, h2⟩ := bind_some' hr
  obtain ⟨rs', h3, h4⟩ := bind_some' h2
  obtain ⟨h5, rfl⟩ := lim_some h4
  refine hi r ds h1 _ fun J H1 e1 wk Dl hD => ?_
  obtain ⟨G, Y, w, hw⟩ := wk
  have r1 := (r.same e1).wipe vs
  -- what holds between the turns: done is made, rest is to come
  let Pv : Nat → Hp → Prop := fun i H' => ∃ acc done rst, Same H1 H' ∧ H' Dl = some (.lst acc) ∧ Fds K A (Osn O Dl) H' acc done ∧ catM (cStep2 gg ft fi1 gg1 ft1 fe vs1 (wpS ρ vs)) (ds.drop i) = some rst ∧ rs' = done ++ rst
  have hP0 : Pv 0 (upd H1 Dl (.lst [])) := ⟨[], [], rs', same_new hD, upd_same, .nil, h3, rfl⟩
  refine ⟨fun i m H => m = ds.length - i ∧ i ≤ ds.length ∧ Pv i H, ⟨ds.length, by simp, Nat.zero_le _, hP0⟩, ?_⟩
  rintro i m H' ⟨rfl, hile, hP⟩
  obtain ⟨acc, done, rst, e, hDl, hacc, hc, hrs⟩ := hP
  have r2 := r1.osn hD e hDl
  have ev : Evo O H1 (Osn O Dl) H' := fun a o ha hn => ⟨e _ _ ha, fun h => by
    rcases h with h | h
    · rw [h, hD] at ha
      cases ha
    · exact hn h⟩
  by_cases hlt : i < ds.length
  · refine .inr ⟨w.goes i H' hlt (hw _ H' r2.owl ev).1, Pv (i + 1), fun H'' p => ⟨ds.length - (i + 1), by omega, rfl, hlt, p⟩, fun x H2 hy => ?_⟩
    obtain ⟨e2, d, hd, hx⟩ := (hw (Osn O Dl) H' r2.owl ev).2 i x H2 hlt (w.yields i H' x H2 hlt (hw _ H' r2.owl ev).1 hy)
    have hdr : ds.drop i = d :: ds.drop (i + 1) := by
      obtain ⟨hlt, rfl⟩ := List.getElem?_eq_some_iff.mp hd
      exact List.drop_eq_getElem_cons hlt
    rw [hdr] at hc
    obtain ⟨ys, hs1, hs2⟩ := bind_some' hc
    obtain ⟨rr, hs3, hs4⟩ := bind_some' hs2
    cases hs4
    obtain ⟨ρ1, hs5, hs6⟩ := bind_some' hs1
    obtain ⟨b, hs7, hs8⟩ := bind_some' hs6
    refine hg (r2.same e2) hx ρ1 hs5 _ fun σ2 r3 l3 k3 o3 => ⟨?_, ht r3 b hs7 _ fun H3 e3 => ?_⟩
    · rw [wipe_ext (σ := L2.wipe σ vs) (by rw [l3]) (fun i hi => k3 i fun h => hi (hsub i h)), wipe_wipe]
    · cases b with
      | false =>
        cases hs8
        exact iteF ⟨acc, done, rr, e.trans (e2.trans e3), (e2.trans e3) _ _ hDl, hacc.same (e2.trans e3), hs3, by rw [hrs]; simp⟩
      | true =>
        have hs8 : ((fi1 ρ1).bind fun ds => compM (cStep gg1 ft1 fe (wpS ρ1 vs1)) ds) = some ys := hs8
        obtain ⟨es, hs9, hs10⟩ := bind_some' hs8
        refine iteT (hi1 (r3.same e3) es hs9 _ fun J1 H4 e4 wk1 => ?_)
        obtain ⟨G1, Y1, w1, hw1⟩ := wk1
        have r4 := (r3.same (e3.trans e4)).wipe vs1
        have e24 := (e2.trans e3).trans e4
        have hD4 : H4 Dl = some (.lst acc) := e24 _ _ hDl
        -- within: the list grows from acc
        let Pw : Nat → Hp → Prop := fun j H5 => ∃ acc' mid rst', (∀ a o, a ≠ Dl → H4 a = some o → H5 a = some o) ∧ H5 Dl = some (.lst acc') ∧ Fds K A (Osn O Dl) H5 acc' (done ++ mid) ∧ compM (cStep gg1 ft1 fe (wpS ρ1 vs1)) (es.drop j) = some rst' ∧ ys = mid ++ rst'
        refine ⟨fun j k H5 => k = es.length - j ∧ j ≤ es.length ∧ Pw j H5, ⟨es.length, by simp, Nat.zero_le _, acc, [], ys, fun _ _ _ h => h, hD4, by rw [List.append_nil]; exact hacc.same e24, hs10, rfl⟩, ?_⟩
        rintro j k H5 ⟨rfl, hjle, hQ⟩
        obtain ⟨acc', mid, rst', f5, hD5, hacc5, hc5, hys⟩ := hQ
        have ev5 : Evo (Osn O Dl) H4 (Osn O Dl) H5 := fun a o ha hn => ⟨f5 a o (fun h => hn (.inl h)) ha, hn⟩
        have s15 : Same H1 H5 := fun a o ha => f5 a o (fun h => by rw [h, hD] at ha; cases ha) (e24 _ _ (e _ _ ha))
        have ho5 : Owl (Osn O Dl) H5 := fun a h => by
          rcases h with rfl | h
          · exact ⟨_, hD5, trivial⟩
          · obtain ⟨zs, hz, hm⟩ := r1.owl a h
            exact ⟨zs, s15 _ _ hz, hm⟩
        have r5 : Rl K A H0 O0 (Osn O Dl) (L2.wipe σ2 vs1) H5 (wpS ρ1 vs1) := ⟨r4.len, fun i d h => by
            obtain ⟨v, a1, a2⟩ := r4.val i d h
            exact ⟨v, a1, a2.evo r4.owl ev5⟩, fun i es h => by
            obtain ⟨p, xs, a1, a2, a3, a4, a5⟩ := r4.own i es h
            obtain ⟨g1, g2⟩ := o3 i es (wpS_own h)
            obtain ⟨p', xs', b1, b2, b3, b4, b5⟩ := r1.own i es g1
            have hs2 := (wipe_some a1).1
            rw [k3 i g2, b1] at hs2
            cases hs2
            have hpD : p ≠ Dl := fun hp => by
              rw [hp, hD] at b4
              cases b4
            exact ⟨p, xs, a1, a2, a3, f5 _ _ hpD a4, a5.evo r4.owl ev5⟩, r4.inj, ho5, r1.frm.trans s15, r4.sub, r4.old⟩
        have ev5' : Evo O H1 (Osn O Dl) H5 := fun a o ha hn => ⟨s15 _ _ ha, fun h => by
          rcases h with h | h
          · rw [h, hD] at ha
            cases ha
          · exact hn h⟩
        by_cases hlt1 : j < es.length
        · refine .inr ⟨w1.goes j H5 hlt1 (hw1 _ H5 ho5 ev5).1, Pw (j + 1), fun H'' p => ⟨es.length - (j + 1), by omega, rfl, hlt1, p⟩, fun x1 H6 hy1 => ?_⟩
          obtain ⟨e6, d1, hd1, hx1⟩ := (hw1 (Osn O Dl) H5 ho5 ev5).2 j x1 H6 hlt1 (w1.yields j H5 x1 H6 hlt1 (hw1 _ H5 ho5 ev5).1 hy1)
          have hdr1 : es.drop j = d1 :: es.drop (j + 1) := by
            obtain ⟨hlt, rfl⟩ := List.getElem?_eq_some_iff.mp hd1
            exact List.drop_eq_getElem_cons hlt
          rw [hdr1] at hc5
          obtain ⟨o', hs1', hs2'⟩ := bind_some' hc5
          obtain ⟨rr', hs3', hs4'⟩ := bind_some' hs2'
          obtain ⟨ρ2, hs5', hs6'⟩ := bind_some' hs1'
          obtain ⟨b', hs7', hs8'⟩ := bind_some' hs6'
          refine hg1 (r5.same e6) hx1 ρ2 hs5' _ fun σ3 r6 l6 k6 _ => ⟨?_, ht1 r6 b' hs7' _ fun H7 e7 => ?_⟩
          · rw [wipe_ext (σ := L2.wipe σ2 vs1) (by rw [l6]) (fun i hi => k6 i fun h => hi (hsub1 i h)), wipe_wipe]
          · have keep : ∀ H8, Same H5 H8 → ∀ a o, a ≠ Dl → H4 a = some o → H8 a = some o := fun H8 s a o ha h => s _ _ (f5 a o ha h)
            cases b' with
            | true =>
              obtain ⟨y, hy1', hy2'⟩ := bind_some' (show ((fe ρ2).bind fun y => some (some y)) = some o' from hs8')
              cases hy2'
              cases hs4'
              refine iteT (he (r6.same e7) y hy1' _ fun v H8 e8 hv => ?_)
              have e58 := (e6.trans e7).trans e8
              have hD8 : H8 Dl = some (.lst acc') := e58 _ _ hD5
              have hacc8 := hacc5.same e58
              have ho8 : Owl (Osn O Dl) H8 := ho5.same e58
              have ev8 : Evo (Osn O Dl) H8 (Osn O Dl) (upd H8 Dl (.lst (acc' ++ [v]))) := fun a o ha hn => ⟨by
                rw [upd_ne (fun e => hn (.inl e))]
                exact ha, hn⟩
              refine ⟨acc', hD8, ?_, acc' ++ [v], mid ++ [y], rr', fun a o ha h => by rw [upd_ne ha]; exact keep H8 e58 a o ha h, upd_same, ?_, hs3', by rw [hys]; simp⟩
              · have h6 : acc'.length = (done ++ mid).length := hacc5.1
                have h7 : (done ++ (mid ++ y :: rr') ++ rr).length ≤ 10000000 := by rw [← hys, List.append_assoc, ← hrs]; exact h5
                simp only [List.length_append, List.length_cons] at h6 h7
                exact Nat.lt_of_lt_of_le (show acc'.length < 10000000 by omega) (by decide)
              · rw [← List.append_assoc]
                exact (hacc8.snoc hv).evo ho8 ev8
            | false =>
              cases hs8'
              cases hs4'
              exact iteF ⟨acc', mid, rr', fun a o ha h => keep H7 (e6.trans e7) a o ha h, (e6.trans e7) _ _ hD5, hacc5.same (e6.trans e7), hs3', hys⟩
        · have ej : j = es.length := by omega
          subst ej
          rw [List.drop_length] at hc5
          cases hc5
          rw [List.append_nil] at hys
          subst hys
          exact .inl ⟨w1.stops H5 (hw1 _ H5 ho5 ev5).1, acc', done ++ ys, rr, s15, hD5, hacc5, hs3, by rw [hrs]; simp⟩
  · have ei : i = ds.length := by omega
    subst ei
    rw [List.drop_length] at hc
    cases hc
    rw [List.append_nil] at hrs
    subst hrs
    exact .inl ⟨w.stops H' (hw _ H' r2.owl ev).1, q Dl acc H' (e1.free hD) (e1.trans e) hDl hacc⟩
end
end Sm
set_option maxRecDepth 10000000
/-! reckoning with the functions of data -/
namespace Sm
open PySem PySem.Spec PyProof.Rows L2 Evl CrT Cr
theorem charNat {c d : Char} (h : c.toNat = d.toNat) : c = d := by
  apply Char.ext
  exact UInt32.toNat_inj.mp h
theorem strEq (a b : String) : (Str.ofString a = Str.ofString b) = (a = b) := by
  apply propext
  constructor
  · intro h
    rw [Str.ofString_eq_toList, Str.ofString_eq_toList] at h
    injection h with h
    injection h with h
    have h2 : ∀ {l m : List Char}, l.map Char.toNat = m.map Char.toNat → l = m := by
      intro l
      induction l with
      | nil => intro m h; cases m <;> simp at h ⊢
      | cons x l ih =>
        intro m h
        cases m with
        | nil => simp at h
        | cons y m =>
          simp only [List.map_cons, List.cons.injEq] at h
          rw [charNat h.1, ih h.2]
    exact String.toList_inj.mp (h2 h)
  · intro h
    rw [h]
def resF (o : Option (Fl × List Sl)) : Option PyData := match o with
  | some (.rt d, _) => some d
  | some (.nx, _) => some .none
  | _ => none
theorem run_1 {n : Nat} {f : FS} {a : PyData} : runF n 1 f [a] = resF (f (.val a :: List.replicate (n - 1) .un)) := rfl
theorem run_2 {n : Nat} {f : FS} {a b : PyData} : runF n 2 f [a, b] = resF (f (.val a :: .val b :: List.replicate (n - 2) .un)) := rfl
theorem run_3 {n : Nat} {f : FS} {a b c : PyData} : runF n 3 f [a, b, c] = resF (f (.val a :: .val b :: .val c :: List.replicate (n - 3) .un)) := rfl
theorem run_4 {n : Nat} {f : FS} {a b c d : PyData} : runF n 4 f [a, b, c, d] = resF (f (.val a :: .val b :: .val c :: .val d :: List.replicate (n - 4) .un)) := rfl
theorem ix0 {a : PyData} {as : List PyData} : atI (a :: as) 0 = some a := atI_nat (j := 0) rfl
theorem ix1 {a b : PyData} {as : List PyData} : atI (a :: b :: as) 1 = some b := atI_nat (j := 1) rfl
theorem ix2 {a b c : PyData} {as : List PyData} : atI (a :: b :: c :: as) 2 = some c := atI_nat (j := 2) rfl
theorem ix3 {a b c d : PyData} {as : List PyData} : atI (a :: b :: c :: d :: as) 3 = some d := atI_nat (j := 3) rfl
theorem lim_ok {α : Type} {n : Nat} {x : α} (h : n ≤ 10000000) : lim n x = some x := if_pos h
theorem then_nx {ρ : List Sl} {g : FS} : fThen (some (.nx, ρ)) g = g ρ := rfl
theorem then_rt {d : PyData} {ρ : List Sl} {g : FS} : fThen (some (.rt d, ρ)) g = some (.rt d, ρ) := rfl
theorem then_bk {ρ : List Sl} {g : FS} : fThen (some (.bk, ρ)) g = some (.bk, ρ) := rfl
theorem then_ct {ρ : List Sl} {g : FS} : fThen (some (.ct, ρ)) g = some (.ct, ρ) := rfl
theorem turn_nx {ρ : List Sl} {g : List Sl → Option (Fl × List Sl)} : fTurn (some (.nx, ρ)) g = g ρ := rfl
theorem turn_ct {ρ : List Sl} {g : List Sl → Option (Fl × List Sl)} : fTurn (some (.ct, ρ)) g = g ρ := rfl
theorem turn_bk {ρ : List Sl} {g : List Sl → Option (Fl × List Sl)} : fTurn (some (.bk, ρ)) g = some (.nx, ρ) := rfl
theorem turn_rt {d : PyData} {ρ : List Sl} {g : List Sl → Option (Fl × List Sl)} : fTurn (some (.rt d, ρ)) g = some (.rt d, ρ) := rfl
theorem res_rt {d : PyData} {ρ : List Sl} : resF (some (.rt d, ρ)) = some d := rfl
theorem asB_b {b : Bool} : asB (.bool b) = some b := rfl
theorem while_s {t : FT} {b : FS} {n : Nat} {ρ : List Sl} : fWhile t b (n + 1) ρ = (t ρ).bind fun x => if x then fTurn (b ρ) (fWhile t b n) else some (.nx, ρ) := rfl
theorem loop_n {g : PyData → List Sl → Option (List Sl)} {b : FS} {ρ : List Sl} : fLoop g b [] ρ = some (.nx, ρ) := rfl
theorem loop_c {g : PyData → List Sl → Option (List Sl)} {b : FS} {d : PyData} {ds : List PyData} {ρ : List Sl} : fLoop g b (d :: ds) ρ = (g d ρ).bind fun ρ1 => fTurn (b ρ1) (fLoop g b ds) := rfl
theorem gIx_t {ds : List PyData} {i : Int} : gIx (.tuple ds) (.int i) = atI ds i := rfl
theorem gIx_l {ds : List PyData} {i : Int} : gIx (.list ds) (.int i) = atI ds i := rfl
theorem gAdd_i {i j : Int} : gAdd (.int i) (.int j) = some (.int (i + j)) := rfl
theorem gSub_i {i j : Int} : gSub (.int i) (.int j) = some (.int (i - j)) := rfl
theorem gAdd_t {xs ys : List PyData} : gAdd (.tuple xs) (.tuple ys) = lim (xs.length + ys.length) (.tuple (xs ++ ys)) := rfl
theorem gAdd_l {xs ys : List PyData} : gAdd (.list xs) (.list ys) = lim (xs.length + ys.length) (.list (xs ++ ys)) := rfl
theorem gLt_i {i j : Int} : gLt (.int i) (.int j) = some (.bool (decide (i < j))) := rfl
theorem gLe_i {i j : Int} : gLe (.int i) (.int j) = some (.bool (decide (i ≤ j))) := rfl
theorem gGt_i {i j : Int} : gGt (.int i) (.int j) = some (.bool (decide (j < i))) := rfl
theorem gGe_i {i j : Int} : gGe (.int i) (.int j) = some (.bool (decide (j ≤ i))) := rfl
theorem eq_i {i j : Int} : gEq (.int i) (.int j) = some (.bool (decide (i = j))) := rfl
theorem eq_s {x y : Str} : gEq (.str x) (.str y) = some (.bool (decide (x = y))) := rfl
theorem ne_i {i j : Int} : gNe (.int i) (.int j) = some (.bool (!decide (i = j))) := rfl
theorem ne_s {x y : Str} : gNe (.str x) (.str y) = some (.bool (!decide (x = y))) := rfl
theorem gLen_t {ds : List PyData} : gLen [.tuple ds] = some (.int ds.length) := rfl
theorem gLen_l {ds : List PyData} : gLen [.list ds] = some (.int ds.length) := rfl
theorem gTup_l {ds : List PyData} : gTuple [.list ds] = some (.tuple ds) := rfl
theorem gTup_t {ds : List PyData} : gTuple [.tuple ds] = some (.tuple ds) := rfl
theorem gIn_t {x : Str} {ds : List PyData} (h : ds.all fl = true) : gIn (.str x) (.tuple ds) = some (.bool (ds.any fun z => eqF z (.str x))) := by
  show (inD _ _).bind _ = _
  unfold inD
  simp only [fl, h, Bool.and_self, if_true, Option.bind_some]
theorem gIn_l {x : Str} {ds : List PyData} (h : ds.all fl = true) : gIn (.str x) (.list ds) = some (.bool (ds.any fun z => eqF z (.str x))) := by
  show (inD _ _).bind _ = _
  unfold inD
  simp only [fl, h, Bool.and_self, if_true, Option.bind_some]
theorem gNi_l {x : Str} {ds : List PyData} (h : ds.all fl = true) : gNi (.str x) (.list ds) = some (.bool (!ds.any fun z => eqF z (.str x))) := by
  show (inD _ _).bind _ = _
  unfold inD
  simp only [fl, h, Bool.and_self, if_true, Option.bind_some]
end Sm
namespace Cr
open PySem PySem.Spec PyProof.Rows L2 Evl CrT
/-! ### which condition holds of which value -/
def numD : PyData → Int
  | .int i => i
  | _ => 0
def rise : List Int → Bool
  | a :: b :: r => decide (a ≤ b) && rise (b :: r)
  | _ => true
def diff : List PyData → Bool
  | [] => true
  | d :: ds => (!ds.any fun z => PyData.eqv z d) && diff ds
def holdsC : Cd → PyData → Bool
  | .atmost n, d => match d with | .int i => decide (i ≤ n) | _ => false
  | .divides n, d => match d with | .int i => decide (V.int (i % n) = V.int 0) | _ => false
  | .is s, d => match d with | .str x => decide (V.str x = V.str s) | _ => false
  | .item i c, d => match d with | .tuple ds => holdsC c (ds.getD i.toNat .none) | _ => false
  | .every c, d => match d with | .tuple ds => ds.all (holdsC c) | _ => false
  | .some_ c, d => match d with | .tuple ds => ds.any (holdsC c) | _ => false
  | .size c, d => match d with | .tuple ds => holdsC c (.int (ds.length : Int)) | _ => false
  | .sum c, d => match d with | .tuple ds => holdsC c (.int (ds.map numD).sum) | _ => false
  | .rising, d => match d with | .tuple ds => rise (ds.map numD) | _ => false
  | .different, d => match d with | .tuple ds => diff ds | _ => false
  | .not_ c, d => !holdsC c d
  | .and_ c e, d => holdsC c d && holdsC e d
  | .or_ c e, d => holdsC c d || holdsC e d
/-! ### what fitting and being of the kind say -/
theorem isInt_of {k : Kd} (h : k.isInt = true) : k = .int := by cases k <;> first | rfl | cases h
theorem isWord_of {k : Kd} (h : k.isWord = true) : k = .word := by cases k <;> first | rfl | cases h
theorem isk_int {d : PyData} (h : isk .int d = true) : ∃ i, d = .int i := by
  cases d <;> first | exact ⟨_, rfl⟩ | simp [isk] at h
theorem isk_word {d : PyData} (h : isk .word d = true) : ∃ s, d = .str s := by
  cases d <;> first | exact ⟨_, rfl⟩ | simp [isk] at h
theorem isk_lst {j : Kd} {d : PyData} (h : isk (.lst j) d = true) : ∃ ds, d = .tuple ds ∧ ∀ e ∈ ds, isk j e = true := by
  cases d <;> first | exact ⟨_, rfl, fun e he => List.all_eq_true.mp (by rw [isk] at h; exact h) e he⟩ | simp [isk] at h
theorem isk_tup {ks : List Kd} {d : PyData} (h : isk (.tup ks) d = true) : ∃ ds, d = .tuple ds ∧ iskAll ks ds = true := by
  cases d <;> first | exact ⟨_, rfl, by rw [isk] at h; exact h⟩ | simp [isk] at h
theorem iskAll_get : ∀ {ks : List Kd} {ds : List PyData}, iskAll ks ds = true → ks.length = ds.length ∧ ∀ (i : Nat), i < ks.length → isk (ks.getD i .int) (ds.getD i .none) = true
  | [], [], _ => ⟨rfl, fun i h => by simp at h⟩
  | [], _ :: _, h => by simp [iskAll] at h
  | _ :: _, [], h => by simp [iskAll] at h
  | k :: ks, d :: ds, h => by
    rw [iskAll] at h
    obtain ⟨h1, h2⟩ := Bool.and_eq_true_iff.mp h
    obtain ⟨hl, hi⟩ := iskAll_get h2
    refine ⟨by rw [List.length_cons, List.length_cons, hl], fun i hi' => ?_⟩
    cases i with
    | zero => exact h1
    | succ i => exact hi i (by simpa using hi')
theorem fits_item {m : Int} {c : Cd} {k : Kd} (h : fitsC (.item m c) k = true) : ∃ (j : Nat) (ks : List Kd), m = (j : Int) ∧ k = .tup ks ∧ j < ks.length ∧ fitsC c (ks.getD j .int) = true := by
  have h' : ((decide (0 ≤ m) && decide (m < (k.parts.length : Int))) && fitsC c (k.parts.getD m.toNat .int)) = true := h
  obtain ⟨h1, h2⟩ := Bool.and_eq_true_iff.mp h'
  obtain ⟨h3, h4⟩ := Bool.and_eq_true_iff.mp h1
  have h3 := of_decide_eq_true h3
  have h4 := of_decide_eq_true h4
  obtain ⟨j, rfl⟩ := Int.eq_ofNat_of_zero_le h3
  cases k with
  | tup ks => exact ⟨j, ks, rfl, rfl, Int.ofNat_lt.mp h4, h2⟩
  | _ => exact absurd h4 (by simp only [Kd.parts, List.length_nil]; omega)
theorem fits_list {f : Kd → Bool} {k : Kd} (h : (match k with | .lst j => f j | _ => false) = true) : ∃ j, k = .lst j ∧ f j = true := by
  cases k with
  | lst j => exact ⟨j, rfl, h⟩
  | _ => cases h
theorem ints_of {ds : List PyData} (h : ∀ e ∈ ds, isk .int e = true) : ds = (ds.map numD).map PyData.int := by
  rw [List.map_map]
  refine (List.map_id ds).symm.trans (List.map_congr_left fun e he => ?_)
  obtain ⟨i, rfl⟩ := isk_int (h e he)
  rfl
section
variable {K : PySem.W.Frag} {σ : L2.St} {H H' : Hp} {ta tb tl tm te : TE} {t : TT} {v x y z : V}
theorem vd_ints {a : Addr} {ns : List Int} (h : Vd K H (.ref a) (.tuple (ns.map PyData.int))) : SqT K H a (ns.map V.int) := by
  obtain ⟨xs, hs, hl, hi⟩ := h.get
  have e : xs = ns.map V.int := by
    rw [List.length_map] at hl
    apply List.ext_getElem
    · rw [List.length_map, hl]
    · intro i h1 h2
      have h3 : i < ns.length := by omega
      have q := (hi i _ _ (List.getElem?_eq_getElem h1) (by rw [List.getElem?_map, List.getElem?_eq_getElem h3]; rfl)).int_inv
      rw [q]
      simp
  rw [← e]
  exact hs
/-- a tuple, new or not -/
def EvS (K : PySem.W.Frag) (te : TE) (σ : L2.St) (H : Hp) (ys : List V) : Prop := ∀ H1, Ex H H1 → ∀ Q : VK, (∀ p H2, Ex H1 H2 → SqT K H2 p ys → Q (.ref p) H2) → te σ H1 Q
theorem evs_from1 {a : Addr} {xs : List V} (h : Ev te σ H (.ref a)) (hs : SqT K H a xs) : EvS K (tSl (rSlA K) te (tPart (tC (.int 1))) tNoPart) σ H (xs.drop 1) := fun H1 e Q q => h H1 e _ fun H2 e2 => by
  have h2 := ex_t (e.trans e2) hs
  have s1 : HT.sIx xs.length 0 (some 1) = min 1 xs.length := HT.sIx_nat _ 0 1
  refine ⟨1, rfl, a, xs, rfl, h2, fun hw => ?_, fun hw p hp => ?_⟩
  · have h1 := hw.1
    rw [s1] at h1
    have : xs = [] := by
      cases xs with
      | nil => rfl
      | cons _ _ => rw [List.length_cons] at h1; omega
    subst this
    exact q a H2 e2 h2
  · have hc : cutV xs (some 1) none = xs.drop 1 := by
      unfold cutV
      rw [s1, HT.sIx_none]
      cases xs with
      | nil => rfl
      | cons x r =>
        rw [show min 1 (x :: r).length = 1 by rw [List.length_cons]; omega]
        show (List.take ((x :: r).length - 1) r) = r
        rw [List.length_cons, Nat.add_sub_cancel]
        exact List.take_length
    rw [hc]
    exact q p _ (e2.trans (Ex.new hp)) (.of upd_same)
/-- t[i + 1:], t[:j] within the tuple -/
theorem evs_after {a : Addr} {xs : List V} {i : Nat} (h : Ev te σ H (.ref a)) (hi : Ev ta σ H (.int ((i : Int) + 1))) (hs : SqT K H a xs) (hl : i < xs.length) : EvS K (tSl (rSlA K) te (tPart ta) tNoPart) σ H (xs.drop (i + 1)) := fun H1 e Q q => h H1 e _ fun H2 e2 => hi H2 (e.trans e2) _ fun H3 e3 => by
  have h2 := ex_t ((e.trans e2).trans e3) hs
  have s1 : HT.sIx xs.length 0 (some ((i : Int) + 1)) = i + 1 := by
    rw [show ((i : Int) + 1) = ((i + 1 : Nat) : Int) by omega, HT.sIx_nat]
    omega
  refine ⟨_, rfl, a, xs, rfl, h2, fun hw => ?_, fun hw p hp => ?_⟩
  · have h1 := hw.1
    rw [s1] at h1
    omega
  · have hc : cutV xs (some ((i : Int) + 1)) none = xs.drop (i + 1) := by
      unfold cutV
      rw [s1, HT.sIx_none]
      exact List.take_of_length_le (by rw [List.length_drop]; exact Nat.le_refl _)
    rw [hc]
    exact q p _ ((e2.trans e3).trans (Ex.new hp)) (.of upd_same)
theorem evs_ahead {a : Addr} {xs : List V} {j : Nat} (h : Ev te σ H (.ref a)) (hi : Ev ta σ H (.int (j : Int))) (hs : SqT K H a xs) (hl : j < xs.length) : EvS K (tSl (rSlA K) te tNoPart (tPart ta)) σ H (xs.take j) := fun H1 e Q q => h H1 e _ fun H2 e2 => hi H2 (e.trans e2) _ fun H3 e3 => by
  have h2 := ex_t ((e.trans e2).trans e3) hs
  have s1 : HT.sIx xs.length xs.length (some (j : Int)) = j := by
    rw [HT.sIx_nat]
    omega
  refine ⟨_, rfl, a, xs, rfl, h2, fun hw => ?_, fun hw p hp => ?_⟩
  · have h1 := hw.2
    rw [s1] at h1
    omega
  · have hc : cutV xs none (some (j : Int)) = xs.take j := by
      unfold cutV
      rw [s1, HT.sIx_none]
      rfl
    rw [hc]
    exact q p _ ((e2.trans e3).trans (Ex.new hp)) (.of upd_same)
/-- x in such a tuple -/
theorem ev_inS {no : Bool} {d : PyData} {ds : List PyData} {ys : List V} (ha : Ev ta σ H x) (hb : EvS K tb σ H ys) (hx : Vd K H x d) (hy : ∀ H1, Ex H H1 → Vds K H1 ys ds) (sd : SeqAt.shaped d = true) (se : SeqAt.shaped (.tuple ds) = true) :
    Ev (tOp (rInTup K no) ta tb) σ H (.bl (if no then !ds.any fun z => PyData.eqv z d else ds.any fun z => PyData.eqv z d)) := fun H1 e Q q =>
  ha H1 e _ fun H2 e2 => hb H2 (e.trans e2) _ fun p H3 e3 hp => ⟨d, ds, (hx.keep (Kt.same ((e.trans e2).trans e3))).dp, ((hy H3 ((e.trans e2).trans e3)).tup hp).dp, sd, se, q H3 (e2.trans e3)⟩
/-- all pairs of two tuples, the second one such -/
theorem el_lcZS {a : Addr} {xs ys : List V} {j1 j2 : Nat} {vs : List Nat} (v : Nat → V) (h : Ev tl σ H (.ref a)) (h2 : EvS K tm σ H ys) (hx : SqT K H a xs) (hz : min xs.length ys.length ≤ 40000)
    (hw : ∀ x y, wipe (((wipe σ vs).set j1 (some x)).set j2 (some y)) vs = wipe σ vs)
    (he : ∀ (i : Nat) (x y : V) H1, Ex H H1 → xs[i]? = some x → ys[i]? = some y → Ev te (((wipe σ vs).set j1 (some x)).set j2 (some y)) H1 (v i)) :
    EvL (tLc (RZ.iZipA K (tCons tl (tCons tm tNil))) (gTup K 2 (gCons (gName j1) (gCons (gName j2) gNil))) tYes te vs) σ H (given (min xs.length ys.length) (fun _ => true) v) := fun H0 e Q q => h H0 e _ fun H1 e1 => h2 H1 (e.trans e1) _ fun b H2 e2 hy =>
  ⟨a, b, xs, ys, rfl, .inr ⟨ex_t ((e.trans e1).trans e2) hx, hy, fun Dl hD =>
  lc_it (walk_zipT rfl) (Cw H2 (fun _ => true) v Dl) ⟨hD, Ex.new hD, upd_same⟩ (fun _ _ _ p => ⟨ex_t (((e.trans e1).trans e2).trans p.2.1) hx, ex_t p.2.1 hy⟩) (fun i x H3 H' hi p y => by
    obtain ⟨T, x1, x2, rfl, hT, rfl, f1, f2⟩ := y
    have p' : Cw H2 (fun _ => true) v Dl i (upd H3 T (.tup [x1, x2])) := ⟨p.1, p.2.1.trans (Ex.new hT), by rw [upd_ne (ne_of_none p.2.2 hT)]; exact p.2.2⟩
    exact ⟨T, [x1, x2], rfl, .inl (.inl upd_same), rfl, x1, [x2], rfl, x2, [], rfl, rfl, hw _ _, cw_turn p' (by omega) et_yes (fun _ => he i x1 x2 H2 ((e.trans e1).trans e2) f1 f2)⟩)
    (fun H' p => q Dl H' (fresh_back (e1.trans e2) p.1) ((e1.trans e2).trans p.2.1) p.2.2)⟩⟩
/-- .. over enumerate of a tuple -/
theorem el_lcE {a : Addr} {xs : List V} {j1 j2 : Nat} {vs : List Nat} (v : Nat → V) (h : Ev tl σ H (.ref a)) (hx : SqT K H a xs) (hz : xs.length ≤ 40000)
    (hw : ∀ x y, wipe (((wipe σ vs).set j1 (some x)).set j2 (some y)) vs = wipe σ vs)
    (he : ∀ (i : Nat) (x : V) H1, Ex H H1 → xs[i]? = some x → Ev te (((wipe σ vs).set j1 (some (.int (i : Int)))).set j2 (some x)) H1 (v i)) :
    EvL (tLc (iEnumT K (tCons tl tNil)) (gTup K 2 (gCons (gName j1) (gCons (gName j2) gNil))) tYes te vs) σ H (given xs.length (fun _ => true) v) := fun H0 e Q q => h H0 e _ fun H1 e1 =>
  ⟨a, xs, rfl, ex_t (e.trans e1) hx, fun Dl hD =>
  lc_it walk_enumT (Cw H1 (fun _ => true) v Dl) ⟨hD, Ex.new hD, upd_same⟩ (fun _ _ _ p => ex_t ((e.trans e1).trans p.2.1) hx) (fun i x H3 H' hi p y => by
    obtain ⟨T, x1, x2, rfl, hT, rfl, f1, f2⟩ := y
    cases f1
    have p' : Cw H1 (fun _ => true) v Dl i (upd H3 T (.tup [.int (i : Int), x2])) := ⟨p.1, p.2.1.trans (Ex.new hT), by rw [upd_ne (ne_of_none p.2.2 hT)]; exact p.2.2⟩
    exact ⟨T, [.int (i : Int), x2], rfl, .inl (.inl upd_same), rfl, _, [x2], rfl, x2, [], rfl, rfl, hw _ _, cw_turn p' (by omega) et_yes (fun _ => he i x2 H1 (e.trans e1) f2)⟩)
    (fun H' p => q Dl H' (fresh_back e1 p.1) (e1.trans p.2.1) p.2.2)⟩
theorem ev_sumT {a : Addr} {ns : List Int} (ha : Ev ta σ H (.ref a)) (h : SqT K H a (ns.map V.int)) : Ev (tCB (rSumT K) (tCons ta tNil)) σ H (.int ns.sum) := fun H1 e Q q =>
  ha H1 e _ fun H2 e2 => ⟨a, ns, rfl, ex_t (e.trans e2) h, q H2 e2⟩
end
theorem Room.u65 {k : Nat} {A : Around} (r : Room k A) : A.units + 65 < cLine := by
  have := r.un
  omega
/-! ### rising, different -/
theorem rise_pairs : ∀ ns : List Int, ((List.range (ns.length - 1)).map fun i => decide (ns.getD i 0 ≤ ns.getD (i + 1) 0)).all id = rise ns
  | [] => rfl
  | [_] => rfl
  | a :: b :: r => by
    have ih := rise_pairs (b :: r)
    show ((List.range (r.length + 1)).map fun i => decide ((a :: b :: r).getD i 0 ≤ (a :: b :: r).getD (i + 1) 0)).all id = (decide (a ≤ b) && rise (b :: r))
    rw [List.range_succ_eq_map, List.map_cons, List.map_map, List.all_cons, ← ih]
    rfl
theorem rise_sorted : ∀ {ns : List Int}, rise ns = true → ns.Pairwise (· ≤ ·)
  | [], _ => .nil
  | [_], _ => List.pairwise_singleton _ _
  | a :: b :: r, h => by
    obtain ⟨h1, h2⟩ := Bool.and_eq_true_iff.mp (show (decide (a ≤ b) && rise (b :: r)) = true from h)
    have h1 := of_decide_eq_true h1
    have ih := rise_sorted h2
    refine .cons (fun x hx => ?_) ih
    rcases List.mem_cons.mp hx with rfl | hx
    · exact h1
    · exact Int.le_trans h1 ((List.pairwise_cons.mp ih).1 x hx)
theorem sorted_rise : ∀ {ns : List Int}, ns.Pairwise (· ≤ ·) → rise ns = true
  | [], _ => rfl
  | [_], _ => rfl
  | a :: b :: r, h => by
    obtain ⟨h1, h2⟩ := List.pairwise_cons.mp h
    show (decide (a ≤ b) && rise (b :: r)) = true
    rw [decide_eq_true (h1 b List.mem_cons_self), sorted_rise h2]
    rfl
theorem rise_eq {ns ms : List Int} (hp : ms.Perm ns) (hs : ms.Pairwise (· ≤ ·)) : decide (ns = ms) = rise ns := by
  rw [Bool.eq_iff_iff, decide_eq_true_iff]
  constructor
  · intro e
    rw [e]
    exact sorted_rise hs
  · intro h
    exact PySem.W.ksm_same hp.symm (rise_sorted h) hs
theorem eqv_ints : ∀ ns ms : List Int, PyData.eqvAll (ns.map PyData.int) (ms.map PyData.int) = decide (ns = ms)
  | [], [] => rfl
  | [], _ :: _ => rfl
  | _ :: _, [] => rfl
  | a :: ns, b :: ms => by
    show ((a == b) && PyData.eqvAll (ns.map PyData.int) (ms.map PyData.int)) = _
    rw [eqv_ints ns ms, Bool.eq_iff_iff]
    simp
theorem diff_after : ∀ ds : List PyData, ((List.range ds.length).map fun i => !(ds.drop (i + 1)).any fun z => PyData.eqv z (ds.getD i .none)).all id = diff ds
  | [] => rfl
  | d :: ds => by
    rw [List.length_cons, List.range_succ_eq_map, List.map_cons, List.map_map, List.all_cons]
    show ((!ds.any fun z => PyData.eqv z d) && _) = ((!ds.any fun z => PyData.eqv z d) && diff ds)
    rw [← diff_after ds]
    rfl
theorem diff_iff : ∀ ds : List PyData, diff ds = true ↔ ds.Pairwise fun x y => PyData.eqv x y = false
  | [] => ⟨fun _ => .nil, fun _ => rfl⟩
  | d :: ds => by
    rw [List.pairwise_cons, ← diff_iff ds]
    show ((!ds.any fun z => PyData.eqv z d) && diff ds) = true ↔ _
    rw [Bool.and_eq_true, Bool.not_eq_true', List.any_eq_false]
    constructor
    · rintro ⟨h1, h2⟩
      exact ⟨fun z hz => by rw [PySem.W.eqv_comm]; simpa using h1 z hz, h2⟩
    · rintro ⟨h1, h2⟩
      exact ⟨fun z hz => by rw [PySem.W.eqv_comm, h1 z hz]; decide, h2⟩
theorem diff_ahead (ds : List PyData) : ((List.range ds.length).map fun j => !(ds.take j).any fun z => PyData.eqv z (ds.getD j .none)).all id = diff ds := by
  rw [Bool.eq_iff_iff, diff_iff, List.all_map, List.all_eq_true, List.pairwise_iff_getElem]
  constructor
  · intro h i j hi hj hij
    have q := h j (List.mem_range.mpr hj)
    have q' : (!(ds.take j).any fun z => PyData.eqv z (ds.getD j .none)) = true := q
    rw [Bool.not_eq_true', List.any_eq_false] at q'
    have m : ds[i] ∈ ds.take j := List.mem_iff_getElem.mpr ⟨i, by rw [List.length_take]; omega, by rw [List.getElem_take]⟩
    have r := q' _ m
    rw [List.getD_eq_getElem?_getD, List.getElem?_eq_getElem hj] at r
    simpa using r
  · intro h j hj
    have hj := List.mem_range.mp hj
    show (!(ds.take j).any fun z => PyData.eqv z (ds.getD j .none)) = true
    rw [Bool.not_eq_true', List.any_eq_false]
    intro z hz
    obtain ⟨i, hi, rfl⟩ := List.mem_iff_getElem.mp hz
    rw [List.length_take] at hi
    rw [List.getD_eq_getElem?_getD, List.getElem?_eq_getElem hj, List.getElem_take]
    have q := h i j (by omega) hj (by omega)
    show ¬ PyData.eqv ds[i] ds[j] = true
    rw [q]
    decide
/-! ### the promises -/
def spHolds (K : PySem.W.Frag) (n : Nat) : Sp := fun vs H Q _ => ∃ (v u : V) (c : Cd) (k : Kd) (d : PyData), vs = [v, u] ∧ Vd K H v c.data ∧ OkC n c ∧ Vd K H u d ∧ Dk 20 d ∧ fitsC c k = true ∧ isk k d = true ∧ ∀ H', Same H H' → Q (.bl (holdsC c d)) H'
def spDiff (K : PySem.W.Frag) : Sp := fun vs H Q _ => ∃ (u : V) (ds : List PyData), vs = [u] ∧ Vd K H u (.tuple ds) ∧ Dk 20 (.tuple ds) ∧ ∀ H', Same H H' → Q (.bl (diff ds)) H'
theorem spHolds_0 {K : PySem.W.Frag} (vs : List V) (H : Hp) (Q : VK) (E : XK) : ¬ spHolds K 0 vs H Q E := fun h => by
  obtain ⟨_, _, _, _, _, _, _, h, _⟩ := h
  cases h
theorem holds_call {K : PySem.W.Frag} {H : Hp} {n : Nat} {v u : V} {c : Cd} {k : Kd} {d : PyData} (hv : Vd K H v c.data) (hc : OkC n c) (hu : Vd K H u d) (hd : Dk 20 d) (hf : fitsC c k = true) (hi : isk k d = true) : SpV (spHolds K n) [v, u] H (.bl (holdsC c d)) := fun H1 e Q q E =>
  ⟨v, u, c, k, d, rfl, hv.keep (Kt.same e), hc, hu.keep (Kt.same e), hd, hf, hi, fun H' e' => q H' e'⟩
theorem Vd.vds {K : PySem.W.Frag} {H : Hp} {a : Addr} {ds : List PyData} (h : Vd K H (.ref a) (.tuple ds)) : ∃ xs, SqT K H a xs ∧ Vds K H xs ds := by
  obtain ⟨xs, hs, hl, hi⟩ := h.get
  exact ⟨xs, hs, hl, hi⟩
theorem Vds.drop {K : PySem.W.Frag} {H : Hp} {xs : List V} {ds : List PyData} (h : Vds K H xs ds) (n : Nat) : Vds K H (xs.drop n) (ds.drop n) :=
  ⟨by rw [List.length_drop, List.length_drop, h.1], fun i v d h1 h2 => h.2 (n + i) v d (by rw [List.getElem?_drop] at h1; exact h1) (by rw [List.getElem?_drop] at h2; exact h2)⟩
theorem Vds.take {K : PySem.W.Frag} {H : Hp} {xs : List V} {ds : List PyData} (h : Vds K H xs ds) (n : Nat) : Vds K H (xs.take n) (ds.take n) :=
  ⟨by rw [List.length_take, List.length_take, h.1], fun i v d h1 h2 => by
    rw [List.getElem?_take] at h1 h2
    by_cases hi : i < n
    · rw [if_pos hi] at h1 h2
      exact h.2 i v d h1 h2
    · rw [if_neg hi] at h1
      cases h1⟩
theorem Dk.sub {n : Nat} {ds es : List PyData} (h : Dk n (.tuple ds)) (hl : es.length ≤ ds.length) (hs : ∀ e ∈ es, e ∈ ds) : Dk n (.tuple es) := by
  cases h with
  | tup h1 h2 => exact .tup (Nat.le_trans hl h1) fun e he => h2 e (hs e he)
theorem any_items {α : Type} (a0 : α) (p : α → Bool) (ds : List α) : ((List.range ds.length).map fun i => p (ds.getD i a0)).any id = ds.any p := by
  have h : ((List.range ds.length).map fun i => p (ds.getD i a0)) = ds.map p := by
    apply List.ext_getElem
    · simp
    · intro i h1 h2
      simp at h1
      simp [List.getD_eq_getElem?_getD, List.getElem?_eq_getElem h1]
  rw [h, List.any_map]
  rfl
theorem flat_bls (bs : List Bool) : (bs.map V.bl).all flatV = true := by
  rw [List.all_map, List.all_eq_true]
  exact fun _ _ => rfl
theorem in_false (bs : List Bool) : (!inV (.bl false) (bs.map V.bl)) = bs.all id := by
  unfold inV
  rw [List.any_map]
  induction bs with
  | nil => rfl
  | cons b bs ih =>
    rw [List.any_cons, List.all_cons, Bool.not_or, ih]
    cases b <;> rfl
theorem in_true (bs : List Bool) : inV (.bl true) (bs.map V.bl) = bs.any id := by
  unfold inV
  rw [List.any_map]
  induction bs with
  | nil => rfl
  | cons b bs ih =>
    rw [List.any_cons, List.any_cons, ih]
    cases b <;> rfl
theorem dp_ints {K : PySem.W.Frag} {H : Hp} : ∀ ns : List Int, DpAll K H (ns.map V.int) (ns.map PyData.int)
  | [] => .nil
  | n :: ns => .cons (.int n) (dp_ints ns)
theorem at_int {ns : List Int} {i : Nat} {x : V} (h : (ns.map V.int)[i]? = some x) : x = .int (ns.getD i 0) := by
  obtain ⟨m, hm, rfl⟩ := map_int h
  rw [List.getD_eq_getElem?_getD, hm]
  rfl
end Cr
namespace Cr
open PySem PySem.Spec PyProof.Rows L2 Evl CrT
/-! ### maps -/
inductive Mp where
  | plus (n : Int) | times (n : Int) | item (k : Int) | length | sum | sorted | reversed
def Mp.data : Mp → PyData
  | .plus n => .tuple [.str "plus", .int n]
  | .times n => .tuple [.str "times", .int n]
  | .item k => .tuple [.str "item", .int k]
  | .length => .tuple [.str "length"]
  | .sum => .tuple [.str "sum"]
  | .sorted => .tuple [.str "sorted"]
  | .reversed => .tuple [.str "reversed"]
def behind : Mp → Kd → Option Kd
  | .plus n, k => if k.isInt && (decide (-1000 ≤ n) && decide (n ≤ 1000)) then some .int else none
  | .times n, k => if k.isInt && (decide (-1000 ≤ n) && decide (n ≤ 1000)) then some .int else none
  | .item i, k => if decide (0 ≤ i) && decide (i < (k.parts.length : Int)) then some (k.parts.getD i.toNat .int) else none
  | .length, k => match k with | .lst _ => some .int | _ => none
  | .sum, k => match k with | .lst j => if j.isInt then some .int else none | _ => none
  | .sorted, k => match k with | .lst j => if j.isFlat then some (.lst j) else none | _ => none
  | .reversed, k => match k with | .lst j => some (.lst j) | _ => none
/-! ### generators -/
inductive Gn where
  | int (lo hi : Int) | pick (ws : List Str) | tuple (gs : List Gn) | list (g : Gn) (least most : Int) | one (gs : List Gn) | kept (g : Gn) (c : Cd) | turned (g : Gn) (m : Mp) | repeat_ (g h : Gn)
mutual
def Gn.data : Gn → PyData
  | .int lo hi => .tuple [.str "int", .int lo, .int hi]
  | .pick ws => .tuple [.str "pick", .tuple (ws.map PyData.str)]
  | .tuple gs => .tuple [.str "tuple", .tuple (gnAll gs)]
  | .list g least most => .tuple [.str "list", g.data, .int least, .int most]
  | .one gs => .tuple [.str "one", .tuple (gnAll gs)]
  | .kept g c => .tuple [.str "kept", g.data, c.data]
  | .turned g m => .tuple [.str "turned", g.data, m.data]
  | .repeat_ g h => .tuple [.str "repeat", g.data, h.data]
def gnAll : List Gn → List PyData
  | [] => []
  | g :: gs => g.data :: gnAll gs
end
theorem gnAll_map : ∀ gs : List Gn, gnAll gs = gs.map Gn.data
  | [] => by rw [gnAll]; rfl
  | g :: gs => by rw [gnAll, gnAll_map gs]; rfl
/-- depth and lengths alone -/
inductive OkG : Nat → Gn → Prop
  | int {n : Nat} (lo hi : Int) : OkG (n + 1) (.int lo hi)
  | pick {n : Nat} {ws : List Str} : ws.length ≤ 60 → (∀ w ∈ ws, SeqAt.shaped (.str w) = true ∧ w.length ≤ 1000) → OkG (n + 1) (.pick ws)
  | tuple {n : Nat} {gs : List Gn} : gs.length ≤ 60 → (∀ g ∈ gs, OkG n g) → OkG (n + 1) (.tuple gs)
  | list {n : Nat} {g : Gn} (a b : Int) : OkG n g → OkG (n + 1) (.list g a b)
  | one {n : Nat} {gs : List Gn} : gs.length ≤ 60 → (∀ g ∈ gs, OkG n g) → OkG (n + 1) (.one gs)
  | kept {n : Nat} {g : Gn} {c : Cd} : OkG n g → OkC 10 c → OkG (n + 1) (.kept g c)
  | turned {n : Nat} {g : Gn} (m : Mp) : OkG n g → OkG (n + 1) (.turned g m)
  | repeat_ {n : Nat} {g h : Gn} : OkG n g → OkG n h → OkG (n + 1) (.repeat_ g h)
theorem OkG.mono {n m : Nat} {g : Gn} (h : OkG n g) (hm : n ≤ m) : OkG m g := by
  induction h generalizing m with
  | int => obtain ⟨m', rfl⟩ : ∃ m', m = m' + 1 := ⟨m - 1, by omega⟩; exact .int _ _
  | pick h1 h2 => obtain ⟨m', rfl⟩ : ∃ m', m = m' + 1 := ⟨m - 1, by omega⟩; exact .pick h1 h2
  | tuple h1 _ ih => obtain ⟨m', rfl⟩ : ∃ m', m = m' + 1 := ⟨m - 1, by omega⟩; exact .tuple h1 fun g hg => ih g hg (by omega)
  | list a b _ ih => obtain ⟨m', rfl⟩ : ∃ m', m = m' + 1 := ⟨m - 1, by omega⟩; exact .list a b (ih (by omega))
  | one h1 _ ih => obtain ⟨m', rfl⟩ : ∃ m', m = m' + 1 := ⟨m - 1, by omega⟩; exact .one h1 fun g hg => ih g hg (by omega)
  | kept _ hc ih => obtain ⟨m', rfl⟩ : ∃ m', m = m' + 1 := ⟨m - 1, by omega⟩; exact .kept (ih (by omega)) hc
  | turned q _ ih => obtain ⟨m', rfl⟩ : ∃ m', m = m' + 1 := ⟨m - 1, by omega⟩; exact .turned q (ih (by omega))
  | repeat_ _ _ ih1 ih2 => obtain ⟨m', rfl⟩ : ∃ m', m = m' + 1 := ⟨m - 1, by omega⟩; exact .repeat_ (ih1 (by omega)) (ih2 (by omega))
/-- a generator without faults, and its kind -/
inductive GenK : Gn → Kd → Prop
  | int {lo hi : Int} : -1000 ≤ lo → lo ≤ hi → hi ≤ 1000 → GenK (.int lo hi) .int
  | pick {ws : List Str} : 0 < ws.length → ws.length ≤ 10 → ws.Nodup → (∀ w ∈ ws, isWord w = true) → GenK (.pick ws) .word
  | tuple {gs : List Gn} {ks : List Kd} : gs.length ≤ 4 → gs.length = ks.length → (∀ (i : Nat) g k, gs[i]? = some g → ks[i]? = some k → GenK g k) → GenK (.tuple gs) (.tup ks)
  | list {g : Gn} {k : Kd} {a b : Int} : GenK g k → 0 ≤ a → a ≤ b → b ≤ 6 → GenK (.list g a b) (.lst k)
  | one {gs : List Gn} {k : Kd} : 0 < gs.length → gs.length ≤ 4 → (∀ g ∈ gs, GenK g k) → GenK (.one gs) k
  | kept {g : Gn} {k : Kd} {c : Cd} : GenK g k → fitsC c k = true → GenK (.kept g c) k
  | turned {g : Gn} {k k' : Kd} {m : Mp} : GenK g k → behind m k = some k' → GenK (.turned g m) k'
  | repeat_ {g h : Gn} {k : Kd} : GenK g .int → GenK h k → GenK (.repeat_ g h) (.lst k)
/-! ### how many rows, at most -/
def powSum (c : Nat) : Nat → Nat → Nat
  | _, 0 => 0
  | a, n + 1 => c ^ a + powSum c (a + 1) n
mutual
def cntG : Gn → Nat
  | .int lo hi => (hi - lo + 1).toNat
  | .pick ws => ws.length
  | .tuple gs => cntMul gs
  | .list g a b => powSum (cntG g) a.toNat (b.toNat + 1 - a.toNat)
  | .one gs => cntAdd gs
  | .kept g _ => cntG g
  | .turned g _ => cntG g
  | .repeat_ g h => match g with
    | .int lo hi => powSum (cntG h) lo.toNat (hi.toNat + 1 - lo.toNat)
    | g => cntG g * (1 + cntG h) ^ 6
def cntMul : List Gn → Nat
  | [] => 1
  | g :: gs => cntG g * cntMul gs
def cntAdd : List Gn → Nat
  | [] => 0
  | g :: gs => cntG g + cntAdd gs
end
def baseK : Kd → Nat
  | .int => 4
  | .word => 4
  | .tup _ => 16
  | .lst j => 1 + baseK j + baseK j ^ 2
theorem cntAdd_le {m : Nat} : ∀ gs : List Gn, (∀ g ∈ gs, cntG g ≤ m) → cntAdd gs ≤ gs.length * m
  | [], _ => by rw [cntAdd]; exact Nat.zero_le _
  | g :: gs, h => by
    rw [cntAdd, List.length_cons, Nat.add_mul]
    have h1 := h g List.mem_cons_self
    have h2 := cntAdd_le gs fun g' h' => h g' (List.mem_cons_of_mem _ h')
    omega
theorem cntMul_le {m : Nat} : ∀ gs : List Gn, (∀ g ∈ gs, cntG g ≤ m) → cntMul gs ≤ m ^ gs.length
  | [], _ => by rw [cntMul]; exact Nat.le_refl _
  | g :: gs, h => by
    rw [cntMul, List.length_cons, Nat.pow_succ, Nat.mul_comm]
    exact Nat.mul_le_mul (cntMul_le gs fun g' h' => h g' (List.mem_cons_of_mem _ h')) (h g List.mem_cons_self)
theorem pow_up {n : Nat} (h : 0 < n) (b : Nat) : 2 ^ (n - 1) * b ≤ 2 ^ n * b := Nat.mul_le_mul_right _ (Nat.pow_le_pow_right (by decide) (by omega))
theorem one_le {n b : Nat} (h : 0 < n) {gs : List Gn} (h2 : gs.length ≤ 2) (hg : ∀ g ∈ gs, cntG g ≤ 2 ^ (n - 1) * b) : cntG (.one gs) ≤ 2 ^ n * b := by
  rw [cntG]
  refine Nat.le_trans (cntAdd_le gs hg) (Nat.le_trans (Nat.mul_le_mul_right _ h2) ?_)
  have e : (n - 1).succ = n := by omega
  rw [← Nat.mul_assoc, ← Nat.pow_succ', e]
  exact Nat.le_refl _
theorem four_le (n : Nat) {k : Nat} (h : k ≤ 4) : k ≤ 2 ^ n * 4 := Nat.le_trans h (Nat.le_mul_of_pos_left _ (Nat.pow_pos (by decide)))
theorem tup_le (n : Nat) {gs : List Gn} {ks : List Kd} (h2 : gs.length ≤ 2) (hg : ∀ g ∈ gs, cntG g ≤ 4) : cntG (.tuple gs) ≤ 2 ^ n * baseK (.tup ks) := by
  rw [cntG, baseK]
  refine Nat.le_trans (cntMul_le gs hg) (Nat.le_trans (Nat.pow_le_pow_right (by decide) h2) ?_)
  exact Nat.le_mul_of_pos_left _ (Nat.pow_pos (by decide))
theorem pow_le_two {c m : Nat} (h : m = 0 ∨ m = 1 ∨ m = 2) : c ^ m ≤ 1 + c + c ^ 2 := by
  rcases h with rfl | rfl | rfl
  · rw [Nat.pow_zero]; omega
  · rw [Nat.pow_one]; omega
  · omega
theorem powSum_le {c a n : Nat} (h : a + n ≤ 3) : powSum c a n ≤ 1 + c + c ^ 2 := by
  have z : ∀ a, powSum c a 0 = 0 := fun _ => by rw [powSum]
  have s : ∀ a n, powSum c a (n + 1) = c ^ a + powSum c (a + 1) n := fun _ _ => by rw [powSum]
  rcases (by omega : n = 0 ∨ n = 1 ∨ (n = 2 ∧ a = 0) ∨ (n = 2 ∧ a = 1) ∨ (n = 3 ∧ a = 0)) with rfl | rfl | ⟨rfl, rfl⟩ | ⟨rfl, rfl⟩ | ⟨rfl, rfl⟩
  · rw [z]; omega
  · rw [s, z]; have := pow_le_two (c := c) (m := a) (by omega); omega
  · rw [s, s, z]; simp only [Nat.zero_add, Nat.reduceAdd, Nat.pow_zero, Nat.pow_one]; omega
  · rw [s, s, z]; simp only [Nat.zero_add, Nat.reduceAdd, Nat.pow_zero, Nat.pow_one]; omega
  · rw [s, s, s, z]; simp only [Nat.zero_add, Nat.reduceAdd, Nat.pow_zero, Nat.pow_one]; omega
theorem two_up {n b c : Nat} (hn : n ≤ 2) (hc : c ≤ 2 ^ (n - 1) * b) : 1 + c + c ^ 2 ≤ 2 ^ n * (1 + b + b ^ 2) := by
  have h1 : c ^ 2 ≤ (2 ^ (n - 1) * b) ^ 2 := Nat.pow_le_pow_left hc 2
  rcases (by omega : n = 0 ∨ n = 1 ∨ n = 2) with rfl | rfl | rfl
  · simp at hc h1 ⊢; omega
  · simp at hc h1 ⊢; omega
  · simp [Nat.mul_pow] at hc h1 ⊢; omega
theorem base_up (n : Nat) {b c : Nat} (hc : c ≤ b) : 1 + c + c ^ 2 ≤ 2 ^ n * (1 + b + b ^ 2) := by
  have h1 : c ^ 2 ≤ b ^ 2 := Nat.pow_le_pow_left hc 2
  exact Nat.le_trans (show 1 + c + c ^ 2 ≤ 1 + b + b ^ 2 by omega) (Nat.le_mul_of_pos_left _ (Nat.pow_pos (by decide)))
theorem flat_base {k : Kd} (h : k.isFlat = true) : baseK k = 4 := by
  cases k <;> simp [Kd.isFlat] at h
  · rw [baseK]
  · rw [baseK]
/-- no part has more rows than M -/
inductive CapG (M : Nat) : Gn → Prop
  | int {lo hi : Int} : cntG (.int lo hi) ≤ M → CapG M (.int lo hi)
  | pick {ws : List Str} : cntG (.pick ws) ≤ M → CapG M (.pick ws)
  | tuple {gs : List Gn} : (∀ g ∈ gs, CapG M g) → cntG (.tuple gs) ≤ M → CapG M (.tuple gs)
  | list {g : Gn} {a b : Int} : CapG M g → cntG (.list g a b) ≤ M → CapG M (.list g a b)
  | one {gs : List Gn} : (∀ g ∈ gs, CapG M g) → cntG (.one gs) ≤ M → CapG M (.one gs)
  | kept {g : Gn} {c : Cd} : CapG M g → cntG (.kept g c) ≤ M → CapG M (.kept g c)
  | turned {g : Gn} {m : Mp} : CapG M g → cntG (.turned g m) ≤ M → CapG M (.turned g m)
  | repeat_ {g h : Gn} : CapG M g → CapG M h → cntG (.repeat_ g h) ≤ M → CapG M (.repeat_ g h)
theorem CapG.cnt {M : Nat} {g : Gn} (h : CapG M g) : cntG g ≤ M := by cases h <;> assumption
theorem CapG.mono {M M' : Nat} {g : Gn} (h : CapG M g) (hm : M ≤ M') : CapG M' g := by
  induction h with
  | int h => exact .int (Nat.le_trans h hm)
  | pick h => exact .pick (Nat.le_trans h hm)
  | tuple _ h ih => exact .tuple ih (Nat.le_trans h hm)
  | list _ h ih => exact .list ih (Nat.le_trans h hm)
  | one _ h ih => exact .one ih (Nat.le_trans h hm)
  | kept _ h ih => exact .kept ih (Nat.le_trans h hm)
  | turned _ h ih => exact .turned ih (Nat.le_trans h hm)
  | repeat_ _ _ h ih1 ih2 => exact .repeat_ ih1 ih2 (Nat.le_trans h hm)
theorem base_four : ∀ k : Kd, 4 ≤ baseK k
  | .int => by rw [baseK]; exact Nat.le_refl _
  | .word => by rw [baseK]; exact Nat.le_refl _
  | .tup _ => by rw [baseK]; decide
  | .lst j => by rw [baseK]; have := base_four j; omega
theorem base_lst (n : Nat) (j : Kd) : 2 ^ (n - 1) * baseK j ≤ 2 ^ n * baseK (.lst j) := by
  rw [baseK]
  refine Nat.mul_le_mul (Nat.pow_le_pow_right (by decide) (by omega)) ?_
  omega
theorem base_le {k : Kd} (hk : OkK 3 k) (hn : NeK k) : baseK k ≤ 463 := by
  have flat : ∀ {k : Kd}, k.isFlat = true → baseK k = 4 := fun h => flat_base h
  cases hn with
  | int => rw [baseK]; decide
  | word => rw [baseK]; decide
  | tup => rw [baseK]; decide
  | @lst j hj =>
    cases hk with
    | lst hk =>
      have h2 : baseK j ≤ 21 := by
        cases hj with
        | int => rw [baseK]; decide
        | word => rw [baseK]; decide
        | tup => rw [baseK]; decide
        | @lst i hi =>
          cases hk with
          | lst hk =>
            rw [baseK, flat (flat_of hk hi)]
            decide
      rw [baseK]
      have : baseK j ^ 2 ≤ 21 ^ 2 := Nat.pow_le_pow_left h2 2
      omega
/-! ### what the law's draws promise -/
def spLLimit2 (K : PySem.W.Frag) (N : Nat) : Sp := fun vs H Q _ => ∃ (b d : Addr) (u : V) (kd : Kd) (n m : Nat), vs = [.ref b, u, .int (n : Int)] ∧ Bx H b d ∧ Vd K H u kd.data ∧ OkK m kd ∧ NeK kd ∧ n + m ≤ N ∧ N ≤ 15 ∧ ∀ v c H', Mv b d H H' → Vd K H' v (Cd.data c) → OkC N c → fitsC c kd = true → Q v H'
theorem spLLimit2_0 {K : PySem.W.Frag} (vs : List V) (H : Hp) (Q : VK) (E : XK) : ¬ spLLimit2 K 0 vs H Q E := fun h => by
  obtain ⟨_, _, _, _, n, m, _, _, _, hk, _, hn, _⟩ := h
  have := hk.pos
  omega
def spLGen (K : PySem.W.Frag) (N : Nat) : Sp := fun vs H Q _ => ∃ (b d : Addr) (u : V) (kd : Kd) (n m : Nat), vs = [.ref b, u, .int (n : Int)] ∧ Bx H b d ∧ Vd K H u kd.data ∧ OkK m kd ∧ NeK kd ∧ n + m ≤ N ∧ n ≤ 2 ∧ m ≤ 4 ∧ ∀ v g H', Mv b d H H' → Vd K H' v (Gn.data g) → OkG (N + 1) g → GenK g kd → CapG (2 ^ n * baseK kd) g → Q v H'
theorem item_fits {j : Nat} {ks : List Kd} {c : Cd} (hj : j < ks.length) (h : fitsC c (ks.getD j .int) = true) : fitsC (.item (j : Int) c) (.tup ks) = true := by
  show ((decide ((0 : Int) ≤ (j : Int)) && decide ((j : Int) < (ks.length : Int))) && fitsC c (ks.getD (j : Int).toNat .int)) = true
  rw [decide_eq_true (show (0 : Int) ≤ (j : Int) by omega), decide_eq_true (show (j : Int) < (ks.length : Int) by omega), Int.toNat_natCast, h]
  rfl
theorem lst_int {k : Kd} (h : PyData.eqv (Kd.lst k).data (Kd.lst Kd.int).data = true) : k.isInt = true := by
  rw [Kd.data, Kd.data] at h
  have h' : (PyData.eqv (.str "list") (.str "list") && (PyData.eqv k.data Kd.int.data && true)) = true := h
  rw [Bool.and_true] at h'
  have h2 := (Bool.and_eq_true_iff.mp h').2
  rw [Kd.data, eqv_int] at h2
  exact h2
theorem len1 {a : V} : [a].length ≤ sizeLine := by show 1 ≤ sizeLine; decide
theorem len2 {a b : V} : [a, b].length ≤ sizeLine := by show 2 ≤ sizeLine; decide
theorem len3 {a b c : V} : [a, b, c].length ≤ sizeLine := by show 3 ≤ sizeLine; decide
theorem len4 {a b c d : V} : [a, b, c, d].length ≤ sizeLine := by show 4 ≤ sizeLine; decide
theorem flat_in (k : Kd) : ([.str "int", .str "word"] : List PyData).any (fun z => PyData.eqv z k.data) = k.isFlat := by
  have h1 : PyData.eqv (.str "int") k.data = k.isInt := by rw [PySem.W.eqv_comm, eqv_int]
  have h2 : PyData.eqv (.str "word") k.data = k.isWord := by rw [PySem.W.eqv_comm, eqv_word]
  show (PyData.eqv (.str "int") k.data || (PyData.eqv (.str "word") k.data || false)) = _
  rw [h1, h2]
  cases k <;> rfl
theorem shaped_flat : SeqAt.shaped (.list [.str "int", .str "word"]) = true := by decide +kernel
/-- a generator with its kind and the box, drawn -/
def spLSome (K : PySem.W.Frag) : Sp := fun vs H Q _ => ∃ (a : Addr) (ns : List Int) (k : Nat), vs = [.ref a, .int (k : Int)] ∧ SqL K H a (ns.map V.int) ∧
  ∀ p v u b d g kd H', Same H H' → H b = none → Bx H' b d → H' p = some (.tup [v, u, .ref b]) → Vd K H' v (Gn.data g) → Vd K H' u (Kd.data kd) → OkG 6 g → GenK g kd → OkK 3 kd → NeK kd → CapG (2 ^ 2 * baseK kd) g → Q (.ref p) H'
theorem same_of_mv {H H1 H' : Hp} {b d : Addr} (e : Same H H1) (hb : H b = none) (m : Mv b d H1 H') : Same H H' := fun a o h => m.1 a o (ne_of_none h hb) (e a o h)
/-- the kind of a generator without faults -/
def spKindOk (K : PySem.W.Frag) (N : Nat) : Sp := fun vs H Q _ => ∃ (v : V) (g : Gn) (kd : Kd), vs = [v] ∧ Vd K H v g.data ∧ OkG N g ∧ GenK g kd ∧ ∀ u H', Same H H' → Vd K H' u kd.data → Q u H'
end Cr
namespace Cr
open PySem PySem.Spec PyProof.Rows L2 Evl CrT
/-! ### what maps make of values -/
def intOf : PyData → Int
  | .int i => i
  | _ => 0
def sortD (ds : List PyData) : List PyData := ds.mergeSort (PySem.W.dataLe false id)
def turnD : Mp → PyData → PyData
  | .plus n, .int i => .int (i + n)
  | .times n, .int i => .int (i * n)
  | .item k, .tuple ds => ds.getD k.toNat .none
  | .length, .tuple ds => .int (ds.length : Int)
  | .sum, .tuple ds => .int (ds.map intOf).sum
  | .sorted, .tuple ds => .tuple (sortD ds)
  | .reversed, .tuple ds => .tuple ds.reverse
  | _, d => d
theorem sortD_perm (ds : List PyData) : (sortD ds).Perm ds := List.mergeSort_perm _ _
theorem sortD_length (ds : List PyData) : (sortD ds).length = ds.length := (sortD_perm ds).length_eq
theorem sortZ_snd {xs : List V} {ds : List PyData} (h : xs.length = ds.length) : (sortZ xs ds).map Prod.snd = sortD ds := by
  unfold sortZ sortD
  rw [PySem.W.sort_maps (r := PySem.W.dataLe false Prod.snd) (s := PySem.W.dataLe false id) Prod.snd (fun _ _ _ _ => rfl), zip_snd h]
section
variable {K : PySem.W.Frag} {H H' : Hp}
theorem Vds.zip {xs : List V} {ds : List PyData} (h : Vds K H xs ds) {z : V × PyData} (hz : z ∈ xs.zip ds) : Vd K H z.1 z.2 := by
  obtain ⟨i, hi⟩ := List.mem_iff_getElem?.mp hz
  rw [List.getElem?_zip_eq_some] at hi
  exact h.2 i z.1 z.2 hi.1 hi.2
theorem Vds.sorted {xs : List V} {ds : List PyData} (h : Vds K H xs ds) : Vds K H ((sortZ xs ds).map Prod.fst) (sortD ds) := by
  rw [← sortZ_snd h.1]
  refine ⟨by rw [List.length_map, List.length_map], fun i v d h1 h2 => ?_⟩
  rw [List.getElem?_map] at h1 h2
  cases e : (sortZ xs ds)[i]? with
  | none => rw [e] at h1; cases h1
  | some z =>
    rw [e] at h1 h2
    cases h1
    cases h2
    exact h.zip ((List.mergeSort_perm _ _).mem_iff.mp (List.mem_of_getElem? e))
theorem Vds.reverse {xs : List V} {ds : List PyData} (h : Vds K H xs ds) : Vds K H xs.reverse ds.reverse := by
  refine ⟨by rw [List.length_reverse, List.length_reverse, h.1], fun i v d h1 h2 => ?_⟩
  have hl := h.1
  by_cases hi : i < xs.length
  · rw [List.getElem?_reverse hi] at h1
    rw [List.getElem?_reverse (by omega), ← hl] at h2
    exact h.2 _ v d h1 h2
  · rw [List.getElem?_eq_none (by rw [List.length_reverse]; omega)] at h1
    cases h1
theorem Vds.dp {xs : List V} {ds : List PyData} (h : Vds K H xs ds) : DpAll K H xs ds := dpAll_of h.1 fun i v d h1 h2 => (h.2 i v d h1 h2).dp
theorem Vd.all {a : Addr} {ds : List PyData} (h : Vd K H (.ref a) (.tuple ds)) : ∃ xs, SqT K H a xs ∧ Vds K H xs ds := by
  obtain ⟨xs, h1, h2, h3⟩ := h.get
  exact ⟨xs, h1, h2, h3⟩
/-- lists of ints -/
theorem Vds.ints : ∀ {xs : List V} {ds : List PyData}, Vds K H xs ds → (∀ d ∈ ds, isk .int d = true) → xs = (ds.map intOf).map V.int
  | [], [], _, _ => rfl
  | [], _ :: _, h, _ => by have := h.1; simp at this
  | _ :: _, [], h, _ => by have := h.1; simp at this
  | x :: xs, d :: ds, h, q => by
    have h0 := h.2 0 x d rfl rfl
    have hd := q d List.mem_cons_self
    have t := Vds.ints (xs := xs) (ds := ds) ⟨by have := h.1; simpa using this, fun i v e h1 h2 => h.2 (i + 1) v e (by simpa using h1) (by simpa using h2)⟩ fun e he => q e (List.mem_cons_of_mem _ he)
    rw [t]
    cases d with
    | int i => cases h0.int_inv; rfl
    | _ => simp [isk] at hd
end
/-! ### values of one kind are alike -/
theorem alike_all_of {p : PyData → Bool} (f : ∀ d e, p d = true → p e = true → PySem.W.alike d e = true) : ∀ ds es : List PyData, ds.all p = true → es.all p = true → PySem.W.alikeAll ds es = true
  | [], _, _, _ => by simp [PySem.W.alikeAll]
  | _ :: _, [], _, _ => by simp [PySem.W.alikeAll]
  | d :: ds, e :: es, h, g => by
    rw [List.all_cons, Bool.and_eq_true] at h g
    rw [PySem.W.alikeAll, f d e h.1 g.1, alike_all_of f ds es h.2 g.2]
    rfl
mutual
theorem isk_alike : ∀ (k : Kd) (d e : PyData), isk k d = true → isk k e = true → PySem.W.alike d e = true
  | .int, d, e, h, g => by
    cases d <;> simp [isk] at h
    cases e <;> simp [isk] at g
    rfl
  | .word, d, e, h, g => by
    cases d <;> simp [isk] at h
    cases e <;> simp [isk] at g
    rfl
  | .lst k, d, e, h, g => by
    cases d <;> simp only [isk, Bool.false_eq_true] at h
    cases e <;> simp only [isk, Bool.false_eq_true] at g
    rw [PySem.W.alike]
    exact alike_all_of (isk_alike k) _ _ h g
  | .tup ks, d, e, h, g => by
    cases d <;> simp only [isk, Bool.false_eq_true] at h
    cases e <;> simp only [isk, Bool.false_eq_true] at g
    rw [PySem.W.alike]
    exact iskAll_alike ks _ _ h g
theorem iskAll_alike : ∀ (ks : List Kd) (ds es : List PyData), iskAll ks ds = true → iskAll ks es = true → PySem.W.alikeAll ds es = true
  | [], [], _, _, _ => by simp [PySem.W.alikeAll]
  | [], _ :: _, _, h, _ => by simp [iskAll] at h
  | _ :: _, [], _, _, _ => by simp [PySem.W.alikeAll]
  | _ :: _, _ :: _, [], _, _ => by simp [PySem.W.alikeAll]
  | k :: ks, d :: ds, e :: es, h, g => by
    rw [iskAll, Bool.and_eq_true] at h g
    rw [PySem.W.alikeAll, isk_alike k d e h.1 g.1, iskAll_alike ks ds es h.2 g.2]
    rfl
end
theorem all_of_perm {p : PyData → Bool} {ds es : List PyData} (h : ds.Perm es) (g : es.all p = true) : ds.all p = true := by
  rw [List.all_eq_true] at g ⊢
  exact fun d hd => g d (h.mem_iff.mp hd)
theorem behind_lst {m : Mp} {k k' : Kd} (h : behind m k = some k') (hm : m = .length ∨ m = .sum ∨ m = .sorted ∨ m = .reversed) : ∃ j, k = .lst j := by
  cases k with
  | lst j => exact ⟨j, rfl⟩
  | _ => rcases hm with rfl | rfl | rfl | rfl <;> simp [behind] at h
theorem behind_item {i : Int} {k k' : Kd} (h : behind (.item i) k = some k') : ∃ ks, k = .tup ks ∧ 0 ≤ i ∧ i.toNat < ks.length ∧ k' = ks.getD i.toNat .int := by
  have h' : (if decide (0 ≤ i) && decide (i < (k.parts.length : Int)) then some (k.parts.getD i.toNat .int) else none) = some k' := h
  by_cases c : (decide (0 ≤ i) && decide (i < (k.parts.length : Int))) = true
  · rw [if_pos c] at h'
    have c' := Bool.and_eq_true_iff.mp c
    have c1 := of_decide_eq_true c'.1
    have c2 := of_decide_eq_true c'.2
    cases h'
    cases k with
    | tup ks =>
      refine ⟨ks, rfl, c1, ?_, rfl⟩
      have : i < (ks.length : Int) := c2
      omega
    | _ => exact absurd c2 (by simp [Kd.parts]; omega)
  · rw [if_neg c] at h'
    cases h'
theorem behind_item0 {i : Int} {k : Kd} (h : k.parts = []) : behind (.item i) k = none := by
  show (if decide (0 ≤ i) && decide (i < (k.parts.length : Int)) then some (k.parts.getD i.toNat .int) else none) = none
  rw [h, if_neg]
  intro c
  have h1 := of_decide_eq_true (Bool.and_eq_true_iff.mp c).1
  have h2 := of_decide_eq_true (Bool.and_eq_true_iff.mp c).2
  simp at h2
  omega
theorem behind_num {n : Int} {k k' : Kd} {m : Mp} (hm : m = .plus n ∨ m = .times n) (h : behind m k = some k') : k = .int ∧ -1000 ≤ n ∧ n ≤ 1000 ∧ k' = .int := by
  have h' : (if k.isInt && (decide (-1000 ≤ n) && decide (n ≤ 1000)) then some Kd.int else none) = some k' := by
    rcases hm with rfl | rfl <;> exact h
  by_cases c : (k.isInt && (decide (-1000 ≤ n) && decide (n ≤ 1000))) = true
  · rw [if_pos c] at h'
    have c' := Bool.and_eq_true_iff.mp c
    have c2 := Bool.and_eq_true_iff.mp c'.2
    cases h'
    cases k with
    | int => exact ⟨rfl, of_decide_eq_true c2.1, of_decide_eq_true c2.2, rfl⟩
    | _ => exact absurd c'.1 (by simp [Kd.isInt])
  · rw [if_neg c] at h'
    cases h'
theorem turn_isk {m : Mp} {k k' : Kd} {d : PyData} (h : behind m k = some k') (hd : isk k d = true) : isk k' (turnD m d) = true := by
  cases m with
  | plus n =>
    obtain ⟨rfl, _, _, rfl⟩ := behind_num (.inl rfl) h
    cases d <;> simp [isk] at hd
    rfl
  | times n =>
    obtain ⟨rfl, _, _, rfl⟩ := behind_num (.inr rfl) h
    cases d <;> simp [isk] at hd
    rfl
  | item i =>
    obtain ⟨ks, rfl, _, hi, rfl⟩ := behind_item h
    cases d <;> simp only [isk, Bool.false_eq_true] at hd
    exact (iskAll_get hd).2 _ hi
  | length =>
    obtain ⟨j, rfl⟩ := behind_lst h (.inl rfl)
    cases d <;> simp only [isk, Bool.false_eq_true] at hd
    have h' : some Kd.int = some k' := h
    cases h'
    rfl
  | sum =>
    obtain ⟨j, rfl⟩ := behind_lst h (.inr (.inl rfl))
    cases d <;> simp only [isk, Bool.false_eq_true] at hd
    have h' : (if j.isInt then some Kd.int else none) = some k' := h
    split at h'
    · cases h'; rfl
    · cases h'
  | sorted =>
    obtain ⟨j, rfl⟩ := behind_lst h (.inr (.inr (.inl rfl)))
    cases d <;> simp only [isk, Bool.false_eq_true] at hd
    have h' : (if j.isFlat then some (Kd.lst j) else none) = some k' := h
    split at h'
    · cases h'
      rw [turnD]
      simp only [isk]
      exact all_of_perm (sortD_perm _) hd
    · cases h'
  | reversed =>
    obtain ⟨j, rfl⟩ := behind_lst h (.inr (.inr (.inr rfl)))
    cases d <;> simp only [isk, Bool.false_eq_true] at hd
    have h' : some (Kd.lst j) = some k' := h
    cases h'
    rw [turnD]
    simp only [isk]
    exact all_of_perm (List.reverse_perm _) hd
theorem turn_dk {m : Mp} {k k' : Kd} {d : PyData} {n : Nat} (h : behind m k = some k') (hd : isk k d = true) (hk : Dk n d) : Dk n (turnD m d) := by
  cases m with
  | plus i =>
    obtain ⟨rfl, _⟩ := behind_num (.inl rfl) h
    cases d <;> simp [isk] at hd
    exact .int _
  | times i =>
    obtain ⟨rfl, _⟩ := behind_num (.inr rfl) h
    cases d <;> simp [isk] at hd
    exact .int _
  | item i =>
    obtain ⟨ks, rfl, _, hi, rfl⟩ := behind_item h
    cases d <;> simp only [isk, Bool.false_eq_true] at hd
    have hl := (iskAll_get hd).1 ▸ hi
    cases hk with
    | tup h1 h2 =>
      exact (h2 _ (List.mem_of_getElem? (getD_at (a0 := PyData.none) hl))).mono (Nat.le_succ _)
  | length =>
    obtain ⟨j, rfl⟩ := behind_lst h (.inl rfl)
    cases d <;> simp only [isk, Bool.false_eq_true] at hd
    exact .int _
  | sum =>
    obtain ⟨j, rfl⟩ := behind_lst h (.inr (.inl rfl))
    cases d <;> simp only [isk, Bool.false_eq_true] at hd
    exact .int _
  | sorted =>
    obtain ⟨j, rfl⟩ := behind_lst h (.inr (.inr (.inl rfl)))
    cases d <;> simp only [isk, Bool.false_eq_true] at hd
    cases hk with
    | tup h1 h2 => exact .tup (by rw [sortD_length]; exact h1) fun e he => h2 e ((sortD_perm _).mem_iff.mp he)
  | reversed =>
    obtain ⟨j, rfl⟩ := behind_lst h (.inr (.inr (.inr rfl)))
    cases d <;> simp only [isk, Bool.false_eq_true] at hd
    cases hk with
    | tup h1 h2 => exact .tup (by rw [List.length_reverse]; exact h1) fun e he => h2 e (List.mem_reverse.mp he)
theorem flat_not {j : Kd} {d : PyData} (hj : j.isFlat = true) (hd : isk j d = true) : d ≠ .none ∧ ∀ xs, d ≠ .tuple xs := by
  cases j <;> simp [Kd.isFlat] at hj
  · cases d <;> simp [isk] at hd
    exact ⟨fun e => (nomatch e), fun _ e => (nomatch e)⟩
  · cases d <;> simp [isk] at hd
    exact ⟨fun e => (nomatch e), fun _ e => (nomatch e)⟩
theorem flat_depth {j : Kd} {d : PyData} (hj : j.isFlat = true) (hd : isk j d = true) : d.depth = 0 := by
  cases j <;> simp [Kd.isFlat] at hj
  · cases d <;> simp [isk] at hd
    rfl
  · cases d <;> simp [isk] at hd
    rfl
/-! ### promises -/
def spBehind (K : PySem.W.Frag) : Sp := fun vs H Q _ => ∃ (v u : V) (m : Mp) (k : Kd), vs = [v, u] ∧ Vd K H v m.data ∧ Vd K H u k.data ∧ OkK 10 k ∧
  ∀ r H', Same H H' → (∀ k', behind m k = some k' → Vd K H' r k'.data) → (behind m k = none → r = .non) → Q r H'
def spTurn (K : PySem.W.Frag) : Sp := fun vs H Q _ => ∃ (v u : V) (m : Mp) (d : PyData) (k k' : Kd), vs = [v, u] ∧ Vd K H v m.data ∧ Vd K H u d ∧ isk k d = true ∧ behind m k = some k' ∧ Dk 20 d ∧
  ∀ r H', Same H H' → Vd K H' r (turnD m d) → Q r H'
section
variable {K : PySem.W.Frag} {σ : L2.St} {H0 H H' : Hp} {te : TE} {tu tz : TS} {D : Ends}
/-- if e == 'x': not so; so -/
theorem skipE {x y : Str} (e0 : Same H0 H) (h : Ev te σ H (.str x)) (ne : decide (V.str x = V.str y) = false) (k : ∀ H1, Same H0 H1 → tz D σ H1) : tSeq (tIfS (tTest (tOp rEq te (tC (.str y)))) tu tNext) tz D σ H :=
  q_when (b := false) (et_is (et_test (ev_op h ev_c (rv_eq rfl))) ne) (fun h => Bool.noConfusion h) fun _ H1 e1 => k H1 (e0.trans e1)
theorem takeE {x y : Str} (e0 : Same H0 H) (h : Ev te σ H (.str x)) (eq : decide (V.str x = V.str y) = true) (k : ∀ H1, Same H0 H1 → tu { D with nx := tz D } σ H1) : tSeq (tIfS (tTest (tOp rEq te (tC (.str y)))) tu tNext) tz D σ H :=
  q_when (b := true) (et_is (et_test (ev_op h ev_c (rv_eq rfl))) eq) (fun _ H1 e1 => k H1 (e0.trans e1)) (fun h => Bool.noConfusion h)
theorem skipEL {x : Str} {ys : List V} {ta : TA} (e0 : Same H0 H) (h : Ev te σ H (.str x)) (hy : EvA ta σ H ys) (hl : ys.length ≤ 100000) (fl : ys.all flatV = true) (ne : inV (.str x) ys = false) (k : ∀ H1, Same H0 H1 → tz D σ H1) : tSeq (tIfS (tTest (tOp (rIn K false) te (tLst ta))) tu tNext) tz D σ H :=
  q_when (b := false) (et_is (et_test (ev_opL h (el_lst hy hl) fun p H1 hp e => rv_isL (sq_of hp) rfl fl)) ne) (fun h => Bool.noConfusion h) fun _ H1 e1 => k H1 (e0.trans e1)
theorem takeEL {x : Str} {ys : List V} {ta : TA} (e0 : Same H0 H) (h : Ev te σ H (.str x)) (hy : EvA ta σ H ys) (hl : ys.length ≤ 100000) (fl : ys.all flatV = true) (eq : inV (.str x) ys = true) (k : ∀ H1, Same H0 H1 → tu { D with nx := tz D } σ H1) : tSeq (tIfS (tTest (tOp (rIn K false) te (tLst ta))) tu tNext) tz D σ H :=
  q_when (b := true) (et_is (et_test (ev_opL h (el_lst hy hl) fun p H1 hp e => rv_isL (sq_of hp) rfl fl)) eq) (fun _ H1 e1 => k H1 (e0.trans e1)) (fun h => Bool.noConfusion h)
/-- the map's tuple: its name, what it holds -/
theorem Mp.name {v : V} {m : Mp} (h : Vd K H v m.data) : ∃ a x xs, v = .ref a ∧ SqT K H a (x :: xs) ∧ xs.length ≤ 1 := by
  cases m <;> (rw [Mp.data] at h; first | (obtain ⟨a, x, rfl, hs, _⟩ := h.g1; exact ⟨a, x, _, rfl, hs, by simp⟩) | (obtain ⟨a, x, y, rfl, hs, _⟩ := h.g2; exact ⟨a, x, _, rfl, hs, by simp⟩))
end
end Cr
set_option maxRecDepth 10000000
/-! sorted; defs whose promise was shown otherwise -/
namespace Sm
open PySem PySem.Spec PyProof.Rows L2 Evl CrT Cr
def SortOk (ds : List PyData) : Prop := (PySem.W.AllAlike ds ∧ PySem.W.Sortable ds ∧ ∀ d ∈ ds, d.depth ≤ 60) ∧ ds.all (fun d => d.canLay0) = true
open Classical in
noncomputable def gSorted : List PyData → Option (List PyData)
  | [.list ds] => if SortOk ds then some (sortD ds) else none
  | [.tuple ds] => if SortOk ds then some (sortD ds) else none
  | _ => none
theorem gSorted_t {ds : List PyData} (h : SortOk ds) : gSorted [.tuple ds] = some (sortD ds) := if_pos h
theorem gSorted_l {ds : List PyData} (h : SortOk ds) : gSorted [.list ds] = some (sortD ds) := if_pos h
section
variable {K : PySem.W.Frag} {A : Atm} {O : Addr → Prop} {H : Hp}
theorem fds_sorted {xs : List V} {ds : List PyData} (h : Fds K A O H xs ds) : Fds K A O H ((sortZ xs ds).map Prod.fst) (sortD ds) := by
  rw [← sortZ_snd h.1]
  refine ⟨by rw [List.length_map, List.length_map], fun i v d h1 h2 => ?_⟩
  rw [List.getElem?_map] at h1 h2
  cases e : (sortZ xs ds)[i]? with
  | none => rw [e] at h1; cases h1
  | some z =>
    rw [e] at h1 h2
    cases h1
    cases h2
    have hz : z ∈ xs.zip ds := (List.mergeSort_perm _ _).mem_iff.mp (List.mem_of_getElem? e)
    obtain ⟨j, hj⟩ := List.mem_iff_getElem?.mp hz
    rw [List.getElem?_zip_eq_some] at hj
    exact h.2 j z.1 z.2 hj.1 hj.2
theorem fds_dp {xs : List V} {ds : List PyData} (h : Fds K A O H xs ds) (hc : ds.all (fun d => d.canLay0) = true) : DpAll K H xs ds := dp_all h.1 fun i v d h1 h2 => (h.2 i v d h1 h2).dp (List.all_eq_true.mp hc d (List.mem_of_getElem? h2))
theorem rc_sorted : RDsL K A (rSortedD K) gSorted := fun {O H xs ds} ho hx es hc Q q => by
  unfold gSorted at hc
  split at hc
  · split at hc
    · rename_i hs
      cases hc
      obtain ⟨v, rfl, hv⟩ := one_inv hx
      obtain ⟨p, ys, rfl, hp, hnp, hys⟩ := hv.lst_inv
      exact ⟨p, ys, _, rfl, .inl (sq_of hp), fds_dp hys hs.2, hs.1.1, hs.1.2.1, hs.1.2.2, fun l hl => q l _ _ hl (same_new hl) upd_same (((fds_sorted hys).more hl).same (same_new hl))⟩
    · cases hc
  · split at hc
    · rename_i hs
      cases hc
      obtain ⟨v, rfl, hv⟩ := one_inv hx
      obtain ⟨p, ys, rfl, hp, hys⟩ := hv.tup_inv
      exact ⟨p, ys, _, rfl, .inr hp, fds_dp hys hs.2, hs.1.1, hs.1.2.1, hs.1.2.2, fun l hl => q l _ _ hl (same_new hl) upd_same (((fds_sorted hys).more hl).same (same_new hl))⟩
    · cases hc
  · cases hc
end
/-! ### relations as functions -/
open Classical in
noncomputable def fnOf (R : List PyData → PyData → Prop) : Fn := fun ds => if h : ∃ r, R ds r then some h.choose else none
theorem fnOf_eq {R : List PyData → PyData → Prop} {ds : List PyData} {r : PyData} (hu : ∀ r', R ds r' → r' = r) (h : R ds r) : fnOf R ds = some r := by
  unfold fnOf
  have hx : ∃ r, R ds r := ⟨r, h⟩
  rw [dif_pos hx]
  exact congrArg some (hu _ hx.choose_spec)
theorem fnOf_inv {R : List PyData → PyData → Prop} {ds : List PyData} {r : PyData} (h : fnOf R ds = some r) : R ds r := by
  unfold fnOf at h
  split at h
  · rename_i hx
    cases h
    exact hx.choose_spec
  · cases h
end Sm
/-! displays whose items may move the box -/
namespace Cr
open PySem PySem.Spec PyProof.Rows L2 Evl CrT
def EvB (K : PySem.W.Frag) (b d : Addr) (te : TE) (σ : L2.St) (H : Hp) (P : PyData → Prop) : Prop := ∀ H1, Mv b d H H1 → ∀ Q : VK, (∀ v e H2, Mv b d H1 H2 → Vd K H2 v e → P e → Q v H2) → te σ H1 Q
def EvBs (K : PySem.W.Frag) (b d : Addr) (ta : TA) (σ : L2.St) (H : Hp) (R : List PyData → Prop) : Prop := ∀ H1, Mv b d H H1 → ∀ Q : List V → Hp → Prop, (∀ vs es H2, Mv b d H1 H2 → Vds K H2 vs es → R es → Q vs H2) → ta σ H1 Q
section
variable {K : PySem.W.Frag} {σ : L2.St} {H H' : Hp} {te : TE} {ta : TA} {tu tz : TS} {D : Ends} {b d : Addr} {P P' : PyData → Prop} {R R' : List PyData → Prop}
theorem EvB.mono (h : EvB K b d te σ H P) (hp : ∀ e, P e → P' e) : EvB K b d te σ H P' := fun H1 m Q q => h H1 m Q fun v e H2 m2 hv he => q v e H2 m2 hv (hp e he)
theorem EvBs.mono (h : EvBs K b d ta σ H R) (hp : ∀ e, R e → R' e) : EvBs K b d ta σ H R' := fun H1 m Q q => h H1 m Q fun v e H2 m2 hv he => q v e H2 m2 hv (hp e he)
theorem evb_c {x : PyData} {v : V} (hv : ∀ H1, Vd K H1 v x) : EvB K b d (tC v) σ H (· = x) := fun H1 m Q q => q v x H1 (.refl m.2) (hv H1) rfl
theorem evb_int {i : Int} : EvB K b d (tC (.int i)) σ H (· = .int i) := evb_c fun _ => .int i
theorem evb_str {x : Str} : EvB K b d (tC (.str x)) σ H (· = .str x) := evb_c fun _ => .str x
theorem evb_neg {i : Int} : EvB K b d (tUn (rU fun i => .int (-i)) (tC (.int i))) σ H (· = .int (-i)) := fun H1 m Q q => ⟨i, rfl, q _ _ H1 (.refl m.2) (.int _) rfl⟩
theorem evb_var {i : Nat} {v : V} {e : PyData} (h : σ[i]? = some (some v)) (hb : Bx H b d) (hv : Vd K H v e) : EvB K b d (tVar i) σ H (· = e) := fun H1 m Q q => ⟨v, h, q v e H1 (.refl m.2) (hv.keep (m.kt hb)) rfl⟩
theorem evb_take {i : Nat} {n : Int} {E : XK} (h : σ[i]? = some (some (.ref b))) (hn : 0 < n) : EvB K b d (tCall spTake [] E (tCons (tVar i) (tCons (tC (.int n)) tNil))) σ H (fun e => ∃ r, e = .int r ∧ 0 ≤ r ∧ r < n) := fun H1 m Q q =>
  ⟨.ref b, h, b, d, n, rfl, m.2, hn, fun r H2 h0 h1 m2 => q _ _ H2 m2 (.int r) ⟨r, rfl, h0, h1⟩⟩
theorem evb_kind {i n N : Nat} {E : XK} (h : σ[i]? = some (some (.ref b))) (hn : n < N) : EvB K b d (tCall (spLKind2 K N) [] E (tCons (tVar i) (tCons (tC (.int (n : Int))) tNil))) σ H (fun e => ∃ kd, e = Kd.data kd ∧ OkK (n + 1) kd ∧ NeK kd) := fun H1 m Q q =>
  ⟨.ref b, h, b, d, n, rfl, m.2, hn, fun v kd H2 m2 hv hk hne => q v _ H2 m2 hv ⟨kd, rfl, hk, hne⟩⟩
theorem evb_limit {i j n N m0 : Nat} {E : XK} {u : V} {kd : Kd} (h : σ[i]? = some (some (.ref b))) (hj : σ[j]? = some (some u)) (hb : Bx H b d) (hu : Vd K H u kd.data) (hk : OkK m0 kd) (hne : NeK kd) (hn : n + m0 ≤ N) (hN : N ≤ 15) :
    EvB K b d (tCall (spLLimit2 K N) [] E (tCons (tVar i) (tCons (tVar j) (tCons (tC (.int (n : Int))) tNil)))) σ H (fun e => ∃ c, e = Cd.data c ∧ OkC N c ∧ fitsC c kd = true) := fun H1 m Q q =>
  ⟨.ref b, h, u, hj, b, d, u, kd, n, m0, rfl, m.2, hu.keep (m.kt hb), hk, hne, hn, hN, fun v c H2 m2 hv hc hf => q v _ H2 m2 hv ⟨c, rfl, hc, hf⟩⟩
theorem evb_nil : EvBs K b d tNil σ H (· = []) := fun H1 m Q q => q [] [] H1 (.refl m.2) .nil rfl
theorem evb_cons (hb : Bx H b d) (h : EvB K b d te σ H P) (hr : EvBs K b d ta σ H R) : EvBs K b d (tCons te ta) σ H (fun es => ∃ e es', es = e :: es' ∧ P e ∧ R es') := fun H1 m Q q =>
  h H1 m _ fun v e H2 m2 hv he => hr H2 (m.trans m2) _ fun vs es H3 m3 hvs hes => q (v :: vs) (e :: es) H3 (m2.trans m3) (.cons (hv.keep (m3.kt m2.2)) hvs) ⟨e, es, rfl, he, hes⟩
theorem evb_tup (h : EvBs K b d ta σ H R) (hl : ∀ es, R es → es.length ≤ 1000) : EvB K b d (tTup ta) σ H (fun e => ∃ es, e = .tuple es ∧ R es) := fun H1 m Q q =>
  h H1 m _ fun vs es H2 m2 hvs hes => ⟨Nat.le_of_lt (small1000 (by rw [hvs.1]; exact hl es hes)), fun p hp => q (.ref p) _ _ (m2.new hp) ((hvs.keep (Kt.new hp)).tup (.of upd_same)) ⟨es, rfl, hes⟩⟩
/-- texts ahead, then what moves -/
theorem evb_t1 {x : Str} : EvB K b d (tTup (tCons (tC (.str x)) tNil)) σ H (· = .tuple [.str x]) := fun H1 m Q q =>
  ⟨by show 1 ≤ sizeLine; decide, fun p hp => q (.ref p) _ _ ((Mv.refl m.2).new hp) (.t1 (.of upd_same) (.str x)) rfl⟩
theorem evb_t2 {x : Str} (h : EvB K b d te σ H P) : EvB K b d (tTup (tCons (tC (.str x)) (tCons te tNil))) σ H (fun e => ∃ z, e = .tuple [.str x, z] ∧ P z) := fun H1 m Q q =>
  h H1 m _ fun v e H2 m2 hv he => ⟨by show 2 ≤ sizeLine; decide, fun p hp => q (.ref p) _ _ (m2.new hp) (.t2 (.of upd_same) (.str x) (hv.keep (Kt.new hp))) ⟨e, rfl, he⟩⟩
theorem evb_t3 {x : Str} {tf : TE} (h : EvB K b d te σ H P) (h2 : EvB K b d tf σ H P') : EvB K b d (tTup (tCons (tC (.str x)) (tCons te (tCons tf tNil)))) σ H (fun e => ∃ z y, e = .tuple [.str x, z, y] ∧ P z ∧ P' y) := fun H1 m Q q =>
  h H1 m _ fun v e H2 m2 hv he => h2 H2 (m.trans m2) _ fun v3 e3 H3 m3 hv3 he3 => ⟨by show 3 ≤ sizeLine; decide, fun p hp => q (.ref p) _ _ ((m2.trans m3).new hp) (.t3 (.of upd_same) (.str x) ((hv.keep (m3.kt m2.2)).keep (Kt.new hp)) (hv3.keep (Kt.new hp))) ⟨e, e3, rfl, he, he3⟩⟩
/-- a value at hand -/
def tK (v : V) : TE := fun _ H Q => Q v H
theorem ev_k {v : V} : Ev (tK v) σ H v := fun H1 _ _ q => q H1 (Ex.refl H1)
theorem g_name {i : Nat} {v : V} {σ : L2.St} {H : Hp} {Q : L2.St → Hp → Prop} (h : Q (σ.set i (some v)) H) : gName i v σ H Q := h
theorem Mv.none {H1 : Hp} {p : Addr} (m : Mv b d H H1) (hp : H1 p = none) : H p = none := by
  cases e : H p with
  | none => rfl
  | some o =>
    have := m.1 p o (m.2.neb hp).1 e
    rw [hp] at this
    cases this
/-- all items of one sort -/
theorem evb_all0 : EvBs K b d tNil σ H (fun es => (∀ e ∈ es, P e) ∧ es.length = 0) := fun H1 m Q q => q [] [] H1 (.refl m.2) .nil ⟨fun _ h => (nomatch h), rfl⟩
theorem evb_all {n : Nat} (h : EvB K b d te σ H P') (hp : ∀ e, P' e → P e) (hr : EvBs K b d ta σ H (fun es => (∀ e ∈ es, P e) ∧ es.length = n)) : EvBs K b d (tCons te ta) σ H (fun es => (∀ e ∈ es, P e) ∧ es.length = n + 1) := fun H1 m Q q =>
  h H1 m _ fun v e H2 m2 hv he => hr H2 (m.trans m2) _ fun vs es H3 m3 hvs hes => q (v :: vs) (e :: es) H3 (m2.trans m3) (.cons (hv.keep (m3.kt m2.2)) hvs) ⟨fun x hx => by
    rcases List.mem_cons.mp hx with rfl | hx
    · exact hp _ he
    · exact hes.1 x hx, by rw [List.length_cons, hes.2]⟩
theorem q_asgB {i : Nat} (hb : Bx H b d) (h : EvBs K b d ta σ H R) (hl : ∀ es, R es → es.length ≤ 1000) (k : ∀ p vs es H1, H p = none → Mv b d H H1 → H1 p = some (.lst vs) → Vds K H1 vs es → R es → tz D (σ.set i (some (.ref p))) H1) : tSeq (tAsg (tLst ta) (gName i)) tz D σ H :=
  h H (.refl hb) _ fun vs es H2 m2 hvs hes => ⟨Nat.le_of_lt (small1000 (by rw [hvs.1]; exact hl es hes)), fun p hp => k p vs es _ (m2.none hp) (m2.new hp) upd_same (hvs.keep (Kt.new hp)) hes⟩
theorem q_catB {i j : Nat} {p0 : Addr} {xs0 : List V} {es0 : List PyData} (hb : Bx H b d) (hj : σ[j]? = some (some (.ref p0))) (h0 : H p0 = some (.lst xs0)) (hn : p0 ≠ b) (hv0 : Vds K H xs0 es0) (hl0 : es0.length ≤ 1000) (h : EvBs K b d ta σ H R) (hl : ∀ es, R es → es.length ≤ 1000)
    (k : ∀ p vs es H1, H p = none → Mv b d H H1 → H1 p = some (.lst (xs0 ++ vs)) → Vds K H1 (xs0 ++ vs) (es0 ++ es) → R es → tz D (σ.set i (some (.ref p))) H1) : tSeq (tAsg (tOp rCat (tVar j) (tLst ta)) (gName i)) tz D σ H :=
  ⟨.ref p0, hj, h H (.refl hb) _ fun vs es H2 m2 hvs hes => ⟨Nat.le_of_lt (small1000 (by rw [hvs.1]; exact hl es hes)), fun p hp => by
    have m3 := m2.new (o := .lst vs) hp
    have h3 : upd H2 p (.lst vs) p0 = some (.lst xs0) := m3.1 _ _ hn h0
    have l1 := hl es hes
    have l2 := hv0.1
    have l3 := hvs.1
    refine ⟨p0, p, xs0, vs, rfl, rfl, h3, upd_same, ?_, fun p2 hp2 => ?_⟩
    · exact Nat.le_trans (show xs0.length + vs.length ≤ 2000 by omega) (by decide)
    · exact k p2 vs es _ (m3.none hp2) (m3.new hp2) upd_same (((hv0.keep (m3.kt hb)).app (hvs.keep (Kt.new hp))).keep (Kt.new hp2)) hes⟩⟩
theorem s_forB {g : TG} (hb : Bx H b d) (h : EvBs K b d ta σ H R) (hl : ∀ es, R es → es.length ≤ 1000)
    (k : ∀ p vs es H1, H p = none → Mv b d H H1 → H1 p = some (.lst vs) → Vds K H1 vs es → R es → ∃ Pv : Nat → L2.St → Hp → Prop, Pv 0 σ H1 ∧ (∀ i σ' H', i ≤ vs.length → Pv i σ' H' → SqL K H' p vs) ∧
      (∀ i x σ' H', vs[i]? = some x → Pv i σ' H' → g x σ' H' fun σ2 H2 => tu { D with nx := Pv (i + 1), ct := Pv (i + 1), bk := D.nx } σ2 H2) ∧ (∀ σ' H', Pv vs.length σ' H' → D.nx σ' H')) : tFor (iList K (tLst ta)) g tu D σ H :=
  h H (.refl hb) _ fun vs es H2 m2 hvs hes => ⟨Nat.le_of_lt (small1000 (by rw [hvs.1]; exact hl es hes)), fun p hp => by
    obtain ⟨Pv, k1, k2, k3, k4⟩ := k p vs es _ (m2.none hp) (m2.new hp) upd_same (hvs.keep (Kt.new hp)) hes
    exact ⟨p, rfl, ⟨vs, sq_of upd_same⟩, for_list Pv k1 k2 k3 k4⟩⟩
end
/-! ### a kind or None -/
def dataO : Option Kd → PyData
  | none => .none
  | some k => k.data
theorem dpO {K : PySem.W.Frag} {H : Hp} {o : Option Kd} {r : V} (h1 : ∀ k', o = some k' → Vd K H r k'.data) (h2 : o = none → r = .non) : Dp K H r (dataO o) := by
  cases o with
  | none => rw [h2 rfl]; exact .non
  | some k => exact (h1 k rfl).dp
theorem behind_ok {m : Mp} {k k' : Kd} {n : Nat} (h : behind m k = some k') (hk : OkK n k) : OkK n k' := by
  have hp := hk.pos
  have hi : OkK n .int := by
    obtain ⟨n', rfl⟩ : ∃ n', n = n' + 1 := ⟨n - 1, by omega⟩
    exact .int
  cases m with
  | plus i => obtain ⟨_, _, _, rfl⟩ := behind_num (.inl rfl) h; exact hi
  | times i => obtain ⟨_, _, _, rfl⟩ := behind_num (.inr rfl) h; exact hi
  | item i =>
    obtain ⟨ks, rfl, _, hik, rfl⟩ := behind_item h
    cases hk with
    | tup h1 h2 => exact (h2 _ (List.mem_of_getElem? (getD_at (a0 := Kd.int) hik))).mono (by omega)
  | length =>
    obtain ⟨j, rfl⟩ := behind_lst h (.inl rfl)
    have h' : some Kd.int = some k' := h
    cases h'
    exact hi
  | sum =>
    obtain ⟨j, rfl⟩ := behind_lst h (.inr (.inl rfl))
    have h' : (if j.isInt then some Kd.int else none) = some k' := h
    split at h'
    · cases h'; exact hi
    · cases h'
  | sorted =>
    obtain ⟨j, rfl⟩ := behind_lst h (.inr (.inr (.inl rfl)))
    have h' : (if j.isFlat then some (Kd.lst j) else none) = some k' := h
    split at h'
    · cases h'; exact hk
    · cases h'
  | reversed =>
    obtain ⟨j, rfl⟩ := behind_lst h (.inr (.inr (.inr rfl)))
    have h' : some (Kd.lst j) = some k' := h
    cases h'
    exact hk
theorem shapedO {m : Mp} {k : Kd} {n : Nat} (hk : OkK n k) (hn : n ≤ 20) : SeqAt.shaped (dataO (behind m k)) = true := by
  cases e : behind m k with
  | none => decide +kernel
  | some k' => exact OkK.shaped (behind_ok e hk) hn
theorem ne_self {d : PyData} (h : SeqAt.shaped d = true) : (!PyData.eqv d d) = false := by
  rw [SeqAt.eqv_refl _ (SeqAt.canLay_of_shaped h)]
  rfl
end Cr
namespace Cr
open PySem PySem.Spec PyProof.Rows L2 Evl CrT
/-! ### parts, plain and merged generators -/
def partsG : Gn → List Gn
  | .int _ _ => []
  | .pick _ => []
  | .tuple gs => gs
  | .list g _ _ => [g]
  | .one gs => gs
  | .kept g _ => [g]
  | .turned g _ => [g]
  | .repeat_ g h => [g, h]
mutual
def plainG : Gn → Bool
  | .int _ _ => true
  | .pick _ => true
  | .tuple gs => plainAll gs
  | .list g _ _ => plainG g
  | .one gs => plainAll gs
  | .kept _ _ => false
  | .turned g _ => plainG g
  | .repeat_ _ _ => false
def plainAll : List Gn → Bool
  | [] => true
  | g :: gs => plainG g && plainAll gs
end
theorem plainAll_all : ∀ gs : List Gn, plainAll gs = gs.all plainG
  | [] => by rw [plainAll]; rfl
  | g :: gs => by rw [plainAll, plainAll_all gs]; rfl
def joinK : Gn → Cd → Gn
  | .kept g c', c => .kept g (.and_ c' c)
  | g, c => .kept g c
def joinT : Gn → Mp → Gn
  | .int a b, .plus n => if decide (-1000 ≤ a + n) && decide (b + n ≤ 1000) then .int (a + n) (b + n) else .turned (.int a b) (.plus n)
  | g, m => .turned g m
mutual
def mergeG : Gn → Gn
  | .int a b => .int a b
  | .pick ws => .pick ws
  | .tuple gs => .tuple (mergeAll gs)
  | .list g a b => .list (mergeG g) a b
  | .one gs => .one (mergeAll gs)
  | .kept g c => joinK (mergeG g) c
  | .turned g m => joinT (mergeG g) m
  | .repeat_ g h => .repeat_ (mergeG g) (mergeG h)
def mergeAll : List Gn → List Gn
  | [] => []
  | g :: gs => mergeG g :: mergeAll gs
end
theorem mergeAll_map : ∀ gs : List Gn, mergeAll gs = gs.map mergeG
  | [] => by rw [mergeAll]; rfl
  | g :: gs => by rw [mergeAll, mergeAll_map gs]; rfl
/-- as OkG, the depth of conditions told -/
inductive OkGk : Nat → Nat → Gn → Prop
  | int {k n : Nat} (lo hi : Int) : OkGk k (n + 1) (.int lo hi)
  | pick {k n : Nat} {ws : List Str} : ws.length ≤ 60 → (∀ w ∈ ws, SeqAt.shaped (.str w) = true ∧ w.length ≤ 1000) → OkGk k (n + 1) (.pick ws)
  | tuple {k n : Nat} {gs : List Gn} : gs.length ≤ 60 → (∀ g ∈ gs, OkGk k n g) → OkGk k (n + 1) (.tuple gs)
  | list {k n : Nat} {g : Gn} (a b : Int) : OkGk k n g → OkGk k (n + 1) (.list g a b)
  | one {k n : Nat} {gs : List Gn} : gs.length ≤ 60 → (∀ g ∈ gs, OkGk k n g) → OkGk k (n + 1) (.one gs)
  | kept {k n : Nat} {g : Gn} {c : Cd} : OkGk k n g → OkC k c → OkGk k (n + 1) (.kept g c)
  | turned {k n : Nat} {g : Gn} (m : Mp) : OkGk k n g → OkGk k (n + 1) (.turned g m)
  | repeat_ {k n : Nat} {g h : Gn} : OkGk k n g → OkGk k n h → OkGk k (n + 1) (.repeat_ g h)
theorem OkG.k {n : Nat} {g : Gn} (h : OkG n g) : OkGk 10 n g := by
  induction h with
  | int => exact .int _ _
  | pick h1 h2 => exact .pick h1 h2
  | tuple h1 _ ih => exact .tuple h1 ih
  | list a b _ ih => exact .list a b ih
  | one h1 _ ih => exact .one h1 ih
  | kept _ hc ih => exact .kept ih hc
  | turned m _ ih => exact .turned m ih
  | repeat_ _ _ ih1 ih2 => exact .repeat_ ih1 ih2
theorem OkGk.mono {k k' n m : Nat} {g : Gn} (h : OkGk k n g) (hk : k ≤ k') (hm : n ≤ m) : OkGk k' m g := by
  induction h generalizing m with
  | int => obtain ⟨m', rfl⟩ : ∃ m', m = m' + 1 := ⟨m - 1, by omega⟩; exact .int _ _
  | pick h1 h2 => obtain ⟨m', rfl⟩ : ∃ m', m = m' + 1 := ⟨m - 1, by omega⟩; exact .pick h1 h2
  | tuple h1 _ ih => obtain ⟨m', rfl⟩ : ∃ m', m = m' + 1 := ⟨m - 1, by omega⟩; exact .tuple h1 fun g hg => ih g hg (by omega)
  | list a b _ ih => obtain ⟨m', rfl⟩ : ∃ m', m = m' + 1 := ⟨m - 1, by omega⟩; exact .list a b (ih (by omega))
  | one h1 _ ih => obtain ⟨m', rfl⟩ : ∃ m', m = m' + 1 := ⟨m - 1, by omega⟩; exact .one h1 fun g hg => ih g hg (by omega)
  | kept _ hc ih => obtain ⟨m', rfl⟩ : ∃ m', m = m' + 1 := ⟨m - 1, by omega⟩; exact .kept (ih (by omega)) (hc.mono hk)
  | turned q _ ih => obtain ⟨m', rfl⟩ : ∃ m', m = m' + 1 := ⟨m - 1, by omega⟩; exact .turned q (ih (by omega))
  | repeat_ _ _ ih1 ih2 => obtain ⟨m', rfl⟩ : ∃ m', m = m' + 1 := ⟨m - 1, by omega⟩; exact .repeat_ (ih1 (by omega)) (ih2 (by omega))
theorem joinK_ok {k n : Nat} {g : Gn} {c : Cd} (hg : OkGk k n g) (hc : OkC k c) : OkGk (k + 1) (n + 1) (joinK g c) := by
  cases g with
  | kept g c' =>
    cases hg with
    | kept h1 h2 => exact .kept (h1.mono (by omega) (by omega)) (.and_ h2 hc)
  | _ => exact .kept (hg.mono (by omega) (by omega)) (hc.mono (by omega))
theorem joinT_ok {k n : Nat} {g : Gn} {m : Mp} (hg : OkGk k n g) : OkGk k (n + 1) (joinT g m) := by
  cases g with
  | int a b =>
    cases m with
    | plus i =>
      show OkGk k (n + 1) (if decide (-1000 ≤ a + i) && decide (b + i ≤ 1000) then .int (a + i) (b + i) else .turned (.int a b) (.plus i))
      split
      · exact .int _ _
      · exact .turned _ hg
    | _ => exact .turned _ hg
  | _ => exact .turned _ hg
theorem merge_ok {k n : Nat} {g : Gn} (h : OkGk k n g) : OkGk (k + n) n (mergeG g) := by
  induction h with
  | int => rw [mergeG]; exact .int _ _
  | pick h1 h2 => rw [mergeG]; exact .pick h1 h2
  | tuple h1 _ ih =>
    rw [mergeG, mergeAll_map]
    refine .tuple (by rw [List.length_map]; exact h1) fun g hg => ?_
    obtain ⟨g', hg', rfl⟩ := List.mem_map.mp hg
    exact (ih g' hg').mono (by omega) (Nat.le_refl _)
  | list a b _ ih => rw [mergeG]; exact .list a b (ih.mono (by omega) (Nat.le_refl _))
  | one h1 _ ih =>
    rw [mergeG, mergeAll_map]
    refine .one (by rw [List.length_map]; exact h1) fun g hg => ?_
    obtain ⟨g', hg', rfl⟩ := List.mem_map.mp hg
    exact (ih g' hg').mono (by omega) (Nat.le_refl _)
  | kept _ hc ih => rw [mergeG]; exact joinK_ok ih (hc.mono (Nat.le_add_right _ _))
  | turned m _ ih => rw [mergeG]; exact joinT_ok (ih.mono (by omega) (Nat.le_refl _))
  | repeat_ _ _ ih1 ih2 => rw [mergeG]; exact .repeat_ (ih1.mono (by omega) (Nat.le_refl _)) (ih2.mono (by omega) (Nat.le_refl _))
theorem dk_two {n : Nat} {x : Str} {a : PyData} (hx : SeqAt.shaped (.str x) = true := by decide +kernel) (hl : x.length ≤ 1000 := by decide +kernel) (ha : Dk n a) : Dk (n + 1) (.tuple [.str x, a]) := dk_t2 (.str hx hl) ha
theorem dk_list {n : Nat} {ds : List PyData} (hl : ds.length ≤ 60) (h : ∀ (i : Nat) d, ds[i]? = some d → Dk n d) : Dk (n + 1) (.tuple ds) := .tup hl fun d hd => by
  obtain ⟨i, hi⟩ := List.mem_iff_getElem?.mp hd
  exact h i d hi
theorem dk_t3 {n : Nat} {a b c : PyData} (ha : Dk n a) (hb : Dk n b) (hc : Dk n c) : Dk (n + 1) (.tuple [a, b, c]) := .tup (show 3 ≤ 60 by decide) fun d hd => by
  rcases List.mem_cons.mp hd with rfl | hd
  · exact ha
  · rcases List.mem_cons.mp hd with rfl | hd
    · exact hb
    · cases List.mem_singleton.mp hd
      exact hc
theorem dk_t4 {n : Nat} {a b c e : PyData} (ha : Dk n a) (hb : Dk n b) (hc : Dk n c) (he : Dk n e) : Dk (n + 1) (.tuple [a, b, c, e]) := .tup (show 4 ≤ 60 by decide) fun d hd => by
  rcases List.mem_cons.mp hd with rfl | hd
  · exact ha
  · rcases List.mem_cons.mp hd with rfl | hd
    · exact hb
    · rcases List.mem_cons.mp hd with rfl | hd
      · exact hc
      · cases List.mem_singleton.mp hd
        exact he
theorem dk_t1 {n : Nat} {a : PyData} (ha : Dk n a) : Dk (n + 1) (.tuple [a]) := .tup (show 1 ≤ 60 by decide) fun d hd => by
  cases List.mem_singleton.mp hd
  exact ha
theorem condDk {n : Nat} {c : Cd} (h : OkC n c) : Dk n c.data := by
  induction h with
  | atmost i => rw [Cd.data]; exact dk_t2 dk_str (.int _)
  | divides i => rw [Cd.data]; exact dk_t2 dk_str (.int _)
  | is h1 h2 => rw [Cd.data]; exact dk_t2 dk_str (.str h1 h2)
  | item i _ ih => rw [Cd.data]; exact dk_t3 dk_str (.int _) ih
  | every _ ih => rw [Cd.data]; exact dk_t2 dk_str ih
  | some_ _ ih => rw [Cd.data]; exact dk_t2 dk_str ih
  | size _ ih => rw [Cd.data]; exact dk_t2 dk_str ih
  | sum _ ih => rw [Cd.data]; exact dk_t2 dk_str ih
  | rising => rw [Cd.data]; exact dk_t1 dk_str
  | different => rw [Cd.data]; exact dk_t1 dk_str
  | not_ _ ih => rw [Cd.data]; exact dk_t2 dk_str ih
  | and_ _ _ ih1 ih2 => rw [Cd.data]; exact dk_t3 dk_str ih1 ih2
  | or_ _ _ ih1 ih2 => rw [Cd.data]; exact dk_t3 dk_str ih1 ih2
theorem mapDk (m : Mp) : Dk 1 m.data := by
  cases m <;> rw [Mp.data] <;> first | exact dk_t1 dk_str | exact dk_t2 dk_str (.int _)
theorem OkGk.dk {k n : Nat} {g : Gn} (h : OkGk k n g) : Dk (2 * n + k) g.data := by
  induction h with
  | int => rw [Gn.data]; exact (dk_t3 (n := 0) dk_str (.int _) (.int _)).mono (by omega)
  | pick h1 h2 =>
    rw [Gn.data]
    refine (dk_t2 (n := 1) dk_str (.tup (by rw [List.length_map]; exact h1) fun d hd => ?_)).mono (by omega)
    obtain ⟨w, hw, rfl⟩ := List.mem_map.mp hd
    exact .str (h2 w hw).1 (h2 w hw).2
  | @tuple n gs h1 _ ih =>
    rw [Gn.data, gnAll_map]
    refine (dk_t2 (n := 2 * n + k + 1) dk_str (.tup (by rw [List.length_map]; exact h1) fun d hd => ?_)).mono (by omega)
    obtain ⟨w, hw, rfl⟩ := List.mem_map.mp hd
    exact ih w hw
  | @list n g a b _ ih => rw [Gn.data]; exact (dk_t4 (n := 2 * n + k) dk_str ih (.int _) (.int _)).mono (by omega)
  | @one n gs h1 _ ih =>
    rw [Gn.data, gnAll_map]
    refine (dk_t2 (n := 2 * n + k + 1) dk_str (.tup (by rw [List.length_map]; exact h1) fun d hd => ?_)).mono (by omega)
    obtain ⟨w, hw, rfl⟩ := List.mem_map.mp hd
    exact ih w hw
  | @kept n g c _ hc ih => rw [Gn.data]; exact (dk_t3 (n := 2 * n + k) dk_str ih ((condDk hc).mono (by omega))).mono (by omega)
  | @turned n g m _ ih => rw [Gn.data]; exact (dk_t3 (n := 2 * n + k + 1) dk_str (ih.mono (by omega)) ((mapDk m).mono (by omega))).mono (by omega)
  | @repeat_ n g h _ _ ih1 ih2 => rw [Gn.data]; exact (dk_t3 (n := 2 * n + k) dk_str ih1 ih2).mono (by omega)
theorem OkGk.parts {k n : Nat} {g : Gn} (h : OkGk k (n + 1) g) : ∀ p ∈ partsG g, OkGk k n p := by
  intro p hp
  cases h with
  | int => cases hp
  | pick => cases hp
  | tuple _ h => exact h p hp
  | list _ _ h => cases List.mem_singleton.mp hp; exact h
  | one _ h => exact h p hp
  | kept h _ => cases List.mem_singleton.mp hp; exact h
  | turned _ h => cases List.mem_singleton.mp hp; exact h
  | repeat_ h1 h2 =>
    rcases List.mem_cons.mp hp with rfl | hp
    · exact h1
    · cases List.mem_singleton.mp hp
      exact h2
theorem OkGk.parts_len {k n : Nat} {g : Gn} (h : OkGk k n g) : (partsG g).length ≤ 60 := by
  cases h with
  | int => exact Nat.zero_le _
  | pick => exact Nat.zero_le _
  | tuple h _ => exact h
  | list => show 1 ≤ 60; decide
  | one h _ => exact h
  | kept => show 1 ≤ 60; decide
  | turned => show 1 ≤ 60; decide
  | repeat_ => show 2 ≤ 60; decide
def nameG : Gn → Str
  | .int _ _ => "int"
  | .pick _ => "pick"
  | .tuple _ => "tuple"
  | .list _ _ _ => "list"
  | .one _ => "one"
  | .kept _ _ => "kept"
  | .turned _ _ => "turned"
  | .repeat_ _ _ => "repeat"
theorem Gn.name {K : PySem.W.Frag} {H : Hp} {v : V} {g : Gn} (h : Vd K H v g.data) : ∃ a x xs, v = .ref a ∧ SqT K H a (x :: xs) ∧ x = .str (nameG g) := by
  cases g with
  | list g lo hi =>
    rw [Gn.data] at h
    obtain ⟨a, rfl⟩ := h.ref
    obtain ⟨xs, hs, hl, hat⟩ := h.get
    match xs, hl with
    | [x0, x1, x2, x3], _ => exact ⟨a, x0, _, rfl, hs, (hat 0 x0 _ rfl rfl).str_inv⟩
  | _ => rw [Gn.data] at h; first | (obtain ⟨a, x, y, rfl, hs, hx, _⟩ := h.g2; exact ⟨a, x, _, rfl, hs, hx.str_inv⟩) | (obtain ⟨a, x, y, z, rfl, hs, hx, _⟩ := h.g3; exact ⟨a, x, _, rfl, hs, hx.str_inv⟩)
theorem plain_eq (g : Gn) : plainG g = (!inV (.str (nameG g)) [.str "kept", .str "repeat"] && (partsG g).all plainG) := by
  cases g <;> simp only [plainG, partsG, nameG, plainAll_all, List.all_nil, List.all_cons, Bool.and_true]
  all_goals first | rfl | (rw [show inV (V.str _) [V.str "kept", V.str "repeat"] = false from by decide +kernel]; rfl) | (rw [show inV (V.str _) [V.str "kept", V.str "repeat"] = true from by decide +kernel]; rfl)
/-! ### promises -/
def spParts (K : PySem.W.Frag) : Sp := fun vs H Q _ => ∃ (v : V) (g : Gn) (k n : Nat), vs = [v] ∧ Vd K H v g.data ∧ OkGk k n g ∧
  ∀ p xs H', Same H H' → H p = none → H' p = some (.lst xs) → Vds K H' xs ((partsG g).map Gn.data) → Q (.ref p) H'
def spPlain (K : PySem.W.Frag) (n : Nat) : Sp := fun vs H Q _ => ∃ (v : V) (g : Gn) (k : Nat), vs = [v] ∧ Vd K H v g.data ∧ OkGk k n g ∧ 2 * n + k ≤ 60 ∧ ∀ H', Same H H' → Q (.bl (plainG g)) H'
def spMerged (K : PySem.W.Frag) (n : Nat) : Sp := fun vs H Q _ => ∃ (v : V) (g : Gn) (k : Nat), vs = [v] ∧ Vd K H v g.data ∧ OkGk k n g ∧ ∀ r H', Same H H' → Vd K H' r (mergeG g).data → Q r H'
theorem OkGk.pos {k n : Nat} {g : Gn} (h : OkGk k n g) : 0 < n := by cases h <;> omega
theorem spPlain_0 {K : PySem.W.Frag} (vs : List V) (H : Hp) (Q : VK) (E : XK) : ¬ spPlain K 0 vs H Q E := fun h => by
  obtain ⟨_, _, _, _, _, h, _⟩ := h
  exact absurd h.pos (by omega)
theorem spMerged_0 {K : PySem.W.Frag} (vs : List V) (H : Hp) (Q : VK) (E : XK) : ¬ spMerged K 0 vs H Q E := fun h => by
  obtain ⟨_, _, _, _, _, h, _⟩ := h
  exact absurd h.pos (by omega)
theorem plain_call {K : PySem.W.Frag} {H : Hp} {n k : Nat} {v : V} {g : Gn} (hv : Vd K H v g.data) (hg : OkGk k n g) (hn : 2 * n + k ≤ 60) : SpV (spPlain K n) [v] H (.bl (plainG g)) := fun H1 e Q q E =>
  ⟨v, g, k, rfl, hv.keep (Kt.same e), hg, hn, fun H' e' => q H' e'⟩
theorem plain_parts (g : Gn) : plainG g = (match g with | .kept _ _ => false | .repeat_ _ _ => false | g => (partsG g).all plainG) := by
  cases g <;> simp [plainG, partsG, plainAll_all]
theorem cut2 (x y : V) (rest : List V) : cutV (x :: y :: rest) (some 2) none = rest := by
  have h : HT.sIx (x :: y :: rest).length 0 (some 2) = 2 := by
    rw [show HT.sIx (x :: y :: rest).length 0 (some 2) = min 2 (x :: y :: rest).length from HT.sIx_nat _ 0 2, List.length_cons, List.length_cons]
    omega
  unfold cutV
  rw [h, HT.sIx_none]
  show List.take ((rest.length + 1 + 1) - 2) rest = rest
  exact List.take_of_length_le (by omega)
/-- (word, inner) + gen[2:] -/
theorem cat_rest {K : PySem.W.Frag} {σ : L2.St} {H : Hp} {a : Addr} {x y w r : V} {rest : List V} (hs : SqT K H a (x :: y :: rest)) (hne : rest ≠ []) (hl : rest.length ≤ 10) (h0 : σ[0]? = some (some (.ref a))) (h1 : σ[1]? = some (some w)) (h2 : σ[2]? = some (some r)) :
    EvU (tOp (rCatA K) (tTup (tCons (tVar 1) (tCons (tVar 2) tNil))) (tSl (rSlA K) (tVar 0) (tPart (tC (.int 2))) tNoPart)) σ H (w :: r :: rest) := fun H1 e Q q => by
  refine ⟨w, h1, r, h2, len2, fun p1 hp1 => ⟨.ref a, h0, 2, rfl, a, x :: y :: rest, rfl, ex_t (e.trans (same_new hp1)) hs, fun hw => ?_, fun _ p2 hp2 => ?_⟩⟩
  · have h := hw.1
    rw [show HT.sIx (x :: y :: rest).length 0 (some 2) = min 2 (x :: y :: rest).length from HT.sIx_nat _ 0 2, List.length_cons, List.length_cons] at h
    omega
  · rw [cut2] at *
    have s2 := same_new (o := .tup rest) hp2
    refine ⟨p1, p2, [w, r], rest, rfl, rfl, ex_t s2 (.of upd_same), .of upd_same, Nat.le_of_lt (small1000 (by show 2 + rest.length ≤ 1000; omega)), fun h => (nomatch h), fun _ h => absurd h hne, fun _ _ p3 hp3 => ?_⟩
    have s3 := (same_new (o := .tup [w, r]) hp1).trans s2
    exact q p3 _ (fresh_back s3 hp3) (s3.trans (same_new hp3)) upd_same
theorem kept_or (G : Gn) : (∃ g c, G = .kept g c) ∨ (nameG G ≠ "kept" ∧ ∀ c, joinK G c = .kept G c) := by
  cases G with
  | kept g c => exact .inl ⟨g, c, rfl⟩
  | _ => exact .inr ⟨by simp only [nameG]; decide +kernel, fun _ => rfl⟩
theorem int_or (G : Gn) : (∃ a b, G = .int a b) ∨ (nameG G ≠ "int" ∧ ∀ m, joinT G m = .turned G m) := by
  cases G with
  | int a b => exact .inl ⟨a, b, rfl⟩
  | _ => exact .inr ⟨by simp only [nameG]; decide +kernel, fun _ => rfl⟩
def nameM : Mp → Str
  | .plus _ => "plus"
  | .times _ => "times"
  | .item _ => "item"
  | .length => "length"
  | .sum => "sum"
  | .sorted => "sorted"
  | .reversed => "reversed"
theorem Mp.nameOf {K : PySem.W.Frag} {H : Hp} {v : V} {m : Mp} (h : Vd K H v m.data) : ∃ a x xs, v = .ref a ∧ SqT K H a (x :: xs) ∧ x = .str (nameM m) ∧ ∀ n, m = .plus n → xs = [.int n] := by
  cases m with
  | plus n =>
    rw [Mp.data] at h
    obtain ⟨a, x, y, rfl, hs, hx, hy⟩ := h.g2
    exact ⟨a, x, _, rfl, hs, hx.str_inv, fun k e => by cases e; rw [hy.int_inv]⟩
  | _ => rw [Mp.data] at h; first | (obtain ⟨a, x, y, rfl, hs, hx, _⟩ := h.g2; exact ⟨a, x, _, rfl, hs, hx.str_inv, fun _ e => nomatch e⟩) | (obtain ⟨a, x, rfl, hs, hx⟩ := h.g1; exact ⟨a, x, _, rfl, hs, hx.str_inv, fun _ e => nomatch e⟩)
theorem plus_or (m : Mp) : (∃ n, m = .plus n) ∨ (nameM m ≠ "plus" ∧ ∀ G, joinT G m = .turned G m) := by
  cases m with
  | plus n => exact .inl ⟨n, rfl⟩
  | _ => exact .inr ⟨by simp only [nameM]; decide +kernel, fun G => by cases G <;> rfl⟩
theorem str_ne {x y : Str} (h : x ≠ y) : decide (V.str x = V.str y) = false := decide_eq_false fun e => h (V.str.inj e)
end Cr
set_option maxRecDepth 10000000
/-! flat data; promises changed into one another -/
namespace Sm
open PySem PySem.Spec PyProof.Rows L2 Evl CrT Cr
abbrev A0 : Atm := fun _ _ => False
abbrev O0 : Addr → Prop := fun _ => False
theorem owl0 {H : Hp} : Owl O0 H := fun _ h => h.elim
theorem flat_kd {n : Nat} {k : Kd} (h : OkK n k) : flatD k.data = true := by
  induction h with
  | int => rw [Kd.data]; rfl
  | word => rw [Kd.data]; rfl
  | lst _ ih => rw [Kd.data]; simp [flatD, flatDs, ih]
  | tup _ _ ih =>
    rw [Kd.data, dataAll_map]
    have : flatDs (List.map Kd.data _) = true := flatDs_of fun d hd => by
      obtain ⟨k, hk, rfl⟩ := List.mem_map.mp hd
      exact ih k hk
    simp [flatD, flatDs, this]
mutual
theorem flat_isk : ∀ (k : Kd) (d : PyData), isk k d = true → flatD d = true
  | .int, d, h => by
    obtain ⟨i, rfl⟩ := isk_int h
    rfl
  | .word, d, h => by
    obtain ⟨i, rfl⟩ := isk_word h
    rfl
  | .lst k, d, h => by
    obtain ⟨ds, rfl, hd⟩ := isk_lst h
    rw [flatD]
    exact flatDs_of fun d hd' => flat_isk k d (hd d hd')
  | .tup ks, d, h => by
    obtain ⟨ds, rfl, hd⟩ := isk_tup h
    rw [flatD]
    exact flat_iskAll ks ds hd
theorem flat_iskAll : ∀ (ks : List Kd) (ds : List PyData), iskAll ks ds = true → flatDs ds = true
  | [], [], _ => by rw [flatDs]
  | [], _ :: _, h => by simp [iskAll] at h
  | _ :: _, [], h => by simp [iskAll] at h
  | k :: ks, d :: ds, h => by
    rw [iskAll] at h
    obtain ⟨h1, h2⟩ := Bool.and_eq_true_iff.mp h
    rw [flatDs, flat_isk k d h1, flat_iskAll ks ds h2]
    rfl
end
theorem flat_cd (c : Cd) : flatD c.data = true := by
  induction c <;> rw [Cd.data] <;> simp_all [flatD, flatDs]
theorem flat_mp (m : Mp) : flatD m.data = true := by
  cases m <;> rw [Mp.data] <;> simp [flatD, flatDs]
theorem flat_gn {k n : Nat} {g : Gn} (h : OkGk k n g) : flatD g.data = true := by
  induction h with
  | int => rw [Gn.data]; rfl
  | pick => 
    rw [Gn.data]
    have : ∀ ws : List Str, flatDs (ws.map PyData.str) = true := fun ws => flatDs_of fun d hd => by
      obtain ⟨w, _, rfl⟩ := List.mem_map.mp hd
      rfl
    simp [flatD, flatDs, this]
  | @tuple n gs _ _ ih =>
    rw [Gn.data, gnAll_map]
    have : flatDs (gs.map Gn.data) = true := flatDs_of fun d hd => by
      obtain ⟨g, hg, rfl⟩ := List.mem_map.mp hd
      exact ih g hg
    simp [flatD, flatDs, this]
  | list a b _ ih => rw [Gn.data]; simp [flatD, flatDs, ih]
  | @one n gs _ _ ih =>
    rw [Gn.data, gnAll_map]
    have : flatDs (gs.map Gn.data) = true := flatDs_of fun d hd => by
      obtain ⟨g, hg, rfl⟩ := List.mem_map.mp hd
      exact ih g hg
    simp [flatD, flatDs, this]
  | @kept n g c _ _ ih => rw [Gn.data]; simp [flatD, flatDs, ih, flat_cd c]
  | @turned n g m _ ih => rw [Gn.data]; simp [flatD, flatDs, ih, flat_mp m]
  | repeat_ _ _ ih1 ih2 => rw [Gn.data]; simp [flatD, flatDs, ih1, ih2]
def clMono {P : Program} {w : World} {K : PySem.W.Frag} {mg : Str → Option Value} {base : Heap} {x : Str} {ps : List Str} {k l : Nat} {sp : Sp} (c : Cl P w K mg base x ps k sp) (h : k ≤ l) : Cl P w K mg base x ps l sp := ⟨c.f, c.fd, c.ok.mono h, c.b, c.kp, c.m⟩
def clImp {P : Program} {w : World} {K : PySem.W.Frag} {mg : Str → Option Value} {base : Heap} {x : Str} {ps : List Str} {k : Nat} {sp sp' : Sp} (c : Cl P w K mg base x ps k sp) (h : ∀ vs H Q E, sp' vs H Q E → sp vs H Q E) : Cl P w K mg base x ps k sp' := ⟨c.f, c.fd, c.ok.imp h, c.b, c.kp, c.m⟩
end Sm
/-! len(set(t)), t a tuple of texts of any length up to 1000 -/
namespace CrU
open PySem PySem.Spec PyProof.Rows
/-- how many different ones the first i are -/
def metN (ws : List Str) : Nat → Nat
  | 0 => 0
  | i + 1 => if (ws.take i).any (· == ws.getD i Str.empty) then metN ws i else metN ws i + 1
theorem metN_le (ws : List Str) : ∀ i, metN ws i ≤ i
  | 0 => Nat.le_refl _
  | i + 1 => by
    have := metN_le ws i
    unfold metN
    split <;> omega
theorem metN_full {ws : List Str} : ∀ i, i ≤ ws.length → (metN ws i = i ↔ (ws.take i).Nodup)
  | 0, _ => by simp [metN]
  | i + 1, h => by
    have ih := metN_full (ws := ws) i (by omega)
    have hl := metN_le ws i
    have e : ws.take (i + 1) = ws.take i ++ [ws.getD i Str.empty] := by
      rw [List.take_add_one, List.getElem?_eq_getElem (by omega), List.getD_eq_getElem?_getD, List.getElem?_eq_getElem (by omega)]
      rfl
    have hm : (ws.take i).any (· == ws.getD i Str.empty) = true ↔ ws.getD i Str.empty ∈ ws.take i := by
      rw [List.any_eq_true]
      exact ⟨fun ⟨y, hy, ey⟩ => by rw [← eq_of_beq ey]; exact hy, fun hy => ⟨_, hy, beq_self_eq_true _⟩⟩
    rw [e, List.nodup_append]
    unfold metN
    split
    · rename_i hc
      have hc := hm.mp hc
      exact ⟨fun h => absurd h (by omega), fun h => absurd rfl (h.2.2 _ hc _ (List.mem_singleton.mpr rfl))⟩
    · rename_i hc
      have hc : ws.getD i Str.empty ∉ ws.take i := fun hh => hc (hm.mpr hh)
      constructor
      · intro h
        exact ⟨ih.mp (by omega), List.nodup_cons.mpr ⟨by simp, List.nodup_nil⟩, fun a ha b hb e => hc (by rw [← List.mem_singleton.mp hb, ← e]; exact ha)⟩
      · intro h
        rw [ih.mpr h.1]
abbrev Wds (ws : List Str) (i : Nat) : Str → Bool := fun z => (ws.take i).any (· == z)
abbrev Bare (led : Bool) : Obj := { cls := .type "set", dict := none, data := .set #[] 0 (.fresh 0 0 led) }
section
variable {P : Program} {w : World} {A : Around} {R : Result → Shared → Prop} {J : Addr} {fp wr : List Addr} {G : Array GenState → Array GenState → Prop} {n : Nat} {Pv : Nat → Value → Prop} {St : Nat → Shared → Prop}
abbrev St1 (P : Program) (w : World) (h : Heap) (S : Addr) (ws : List Str) (i : Nat) : Prop := h.SetOf (PySem.strKind P w) S (Wds ws i) (metN ws i)
theorem st1_move {h h' : Heap} {S : Addr} {ws : List Str} {i : Nat} (x : St1 P w h S ws i) (k : ∀ o, h.get? S = some o → h'.get? S = some o) : St1 P w h' S ws i := by
  obtain ⟨o, es, ep, t, ho, r⟩ := x
  exact ⟨o, es, ep, t, k _ ho, r⟩
theorem grow (W : WalksS P w A.in1 J fp wr G n Pv St) (S : Addr) (hS : S ∉ fp) (ws : List Str) (hn : ws.length = n) (hb : n + 1 < scanBound) (hv : ∀ i v, Pv i v → ∃ t, v = .str (ws.getD i Str.empty) t) :
    ∀ (m i : Nat) (s : Shared), n - i = m → i ≤ n → St i s → St1 P w s.heap S ws i → (∀ s', Moved (S :: wr) G s s' → St1 P w s'.heap S ws n → R (.ok (.ret .none)) s') → codeAny (model P w) A (.builtin "set.update.loop" ⟨[.ref S, .ref J], []⟩) R s := by
  have hw : S ∉ wr := fun h => hS (W.sub _ h)
  have hmem : ∀ b ∈ wr, b ∈ S :: wr := fun b h => List.mem_cons_of_mem _ h
  intro m
  induction m with
  | zero =>
    intro i s hm hi st x fin
    obtain rfl : i = n := by omega
    refine codeAny_builtin PyProof.Rows.F.entry_set_update_loop ?_; rw [Around.under_plainId PyProof.Rows.F.plain_set_update_loop _]
    show wpAny _ A.in1 (pyNext (.ref J) >>= _) _ _ s
    exact wpAny_bind (W.done s _ _ st fun s' hm => (show wpAny _ A.in1 (ret Value.none) _ _ s' from wpAny_pure (fin s' (hm.mono hmem) (st1_move x fun o e => hm.heap S o hw e))))
  | succ m ih =>
    intro i s hm hi st x fin
    have hlt : i < n := by omega
    refine codeAny_builtin PyProof.Rows.F.entry_set_update_loop ?_; rw [Around.under_plainId PyProof.Rows.F.plain_set_update_loop _]
    show wpAny _ A.in1 (pyNext (.ref J) >>= _) _ _ s
    refine wpAny_bind (W.item i s _ _ hlt st fun v s' hp st' hmv => ?_)
    obtain ⟨t, rfl⟩ := hv i v hp
    have x' : St1 P w s'.heap S ws i := st1_move x fun o e => hmv.heap S o hw e
    show wpAny _ A.in1 (holding [Value.str (ws.getD i Str.empty) t] (setAdd S (.str (ws.getD i Str.empty) t)) >>= _) _ _ s'
    refine wpAny_bind (wpAny_holding ?_); unfold setAdd; refine wpAny_holding ?_
    refine wpAny_bind ((PySem.strKind P w).pyHash (k := ws.getD i Str.empty) (strKind_is _ _ _ _) ?_)
    refine wpAny_setAddHashed_of (knd := PySem.strKind P w) (s := { s' with toks := s'.toks + 1 }) (strKind_is _ _ _ _) rfl x' (by have := metN_le ws i; omega) fun h' sb x2 => ?_
    have x3 : St1 P w h' S ws (i + 1) := by
      refine SetOf_congr x2 (fun z => ?_) rfl
      show ((ws.take i).any (· == z) || decide (z = ws.getD i Str.empty)) = (ws.take (i + 1)).any (· == z)
      rw [List.take_add_one, List.getElem?_eq_getElem (show i < ws.length by omega), List.any_append, List.getD_eq_getElem?_getD, List.getElem?_eq_getElem (show i < ws.length by omega)]
      congr 1
      show decide (z = ws[i]) = ((ws[i] == z) || false)
      rw [Bool.or_false, Bool.eq_iff_iff, decide_eq_true_iff, beq_iff_eq]
      exact eq_comm
    refine wpAny_pure ⟨plainId_quiet PyProof.Rows.F.plain_set_update_loop _, ih (i + 1) _ (by omega) hlt (W.frame _ s' _ _ st' (Nat.le_succ _) fun b hb o e => ?_) x3 fun s2 hm2 x4 => ?_⟩
    · rw [sb.2 b fun h : b = S => hS (h ▸ hb)]; exact e
    · refine fin s2 (Moved.trans W.gtrans ((hmv.mono hmem).then_heap (Nat.le_succ _) fun b o hb e => ?_) hm2) x4
      rw [sb.2 b fun h : b = S => hb (h ▸ List.mem_cons_self)]; exact e
end
section
variable {P : Program} {w : World} {A : Around} {E : Value → Shared → Prop} {s : Shared}
set_option maxHeartbeats 3200000 in
theorem set_words {l : Addr} {its : Array Value} {ws : List Str} {Q : Value → Shared → Prop} (hc : A.handled = none) (hl : s.heap.IsTuple l its) (hi : PyProof.Rows.StrsAre its.toList ws) (hz : ws.length ≤ 1000)
    (fin : ∀ (h' : Heap) (tk : Nat), St1 P w h' s.heap.objs.size ws ws.length → (∀ b o, b < s.heap.objs.size → s.heap.get? b = some o → h'.get? b = some o) → Q (.ref s.heap.objs.size) { s with heap := h', toks := tk }) :
    wpAny (model P w) A (call (.type "set") [.ref l]) Q E s := by
  have F1 := PySem.F.called_set
  obtain ⟨c, tl, hmro⟩ := F1.mro
  have a1 := F1.made; have a2 := F1.sub
  refine wpAny_call (codeAny_of_tree ?_); show wpAny _ _ (callAny (.type "set") _) _ _ _
  refine wpAny_pure ⟨Code.quiet_builtin _ (by decide +kernel), codeAny_builtin PySem.F.entry_type_call ?_⟩; rw [Around.under_plain (weight_type_call_type "set" [.ref l] []) rfl]
  have a3 := F1.notType; have a4 := F1.canCreate; have a5 := PySem.F.typeCall_set_1 (.ref l)
  repeat (any_goals (first | assumption | wp_step))
  refine codeAny_mono (code_set_new_1 (.ref l) (E := E) (Q₁ := fun u t => ∃ led : Bool, u = .ref s.heap.objs.size ∧ t = { s with heap := s.heap.push (Bare led) }) fun led => ⟨led, rfl, rfl⟩) fun r t hr => ?_
  cases r with
  | error e => exact hr
  | ok f =>
    cases f with
    | ret u =>
      obtain ⟨led, rfl, rfl⟩ := hr
      have hS : (s.heap.push (Bare led)).get? s.heap.objs.size = some (Bare led) := Heap.get?_push_size _ rfl
      have hT : Shared.TypeIs { s with heap := s.heap.push (Bare led) } (.ref s.heap.objs.size) "set" := ⟨_, hS, rfl⟩
      have b1 := F1.init.lookup; have b2 := F1.init.bind (.ref s.heap.objs.size)
      repeat (any_goals (first | assumption | wp_step))
      refine codeAny_mono (codeAny_call_builtin (R := wants (fun r t => r = .none ∧ ∃ h' tk, t = { s with heap := h', toks := tk } ∧ St1 P w h' s.heap.objs.size ws ws.length ∧ (∀ b o, b < s.heap.objs.size → s.heap.get? b = some o → h'.get? b = some o)) E) F1.init.plain PySem.F.entry_set_init (check_set_init_1 hT ?_)) fun r2 t2 hr2 => ?_
      · obtain ⟨⟨oc, od, oda, osl⟩, ho, e1, nl, e2⟩ := hl
        simp only at e1 e2; subst e1; subst e2
        have ho' : (s.heap.push (Bare led)).get? l = some { cls := .type "tuple", dict := od, data := .seq its nl, slots := osl } := Heap.get?_push_of_some _ ho
        have c1 := PySem.F.sub_tuple_set; have c2 := PySem.F.sub_tuple_frozenset; have c3 : (Value.type "tuple" == Value.type "dict") = false := by decide
        have hl1 : (s.heap.push (Bare led)).IsTuple l its := ⟨_, ho', rfl, nl, rfl⟩
        unfold Builtin.«set.__init__» noKeywords Builtin.Frozenset.updateFrom; generalize hPI : pyIter = PI
        wp_walk
        subst hPI
        refine wpAny_pyIter_tuple hl1 (wpAny_bind (wpAny_runValue ?_))
        have lS : l < s.heap.objs.size := Heap.lt_size ho
        have hh : A.in1.in1.in1.handled = none := by simp [hc]
        have z1 : (s.heap.push (Bare led)).objs.size = s.heap.objs.size + 1 := Heap.size_push ..
        have d1 : l ≠ (s.heap.push (Bare led)).objs.size := by rw [z1]; exact Nat.ne_of_lt (Nat.lt_succ_of_lt lS)
        have d2 : s.heap.objs.size ∉ [(s.heap.push (Bare led)).objs.size, l] := by
          rw [z1]; intro h; rcases List.mem_cons.mp h with h | h
          · exact absurd h (Nat.ne_of_lt (Nat.lt_succ_self _))
          · exact absurd (List.mem_singleton.mp h) (Nat.ne_of_gt lS)
        have hsz : ws.length = its.size := by rw [← StrsAre.len_eq hi, Array.length_toList]
        refine grow ((Walks.tuple hh _ l d1 its).toS) s.heap.objs.size d2 ws hsz (by unfold scanBound; omega) (fun i v hv => SS.strs_at hi i v (by rw [Array.getElem?_toList]; exact hv)) (its.size - 0) 0 _ (by omega) (Nat.zero_le _) ⟨⟨_, Heap.get?_push_size _ rfl, rfl, rfl⟩, (hl1.push _)⟩ ?h0 ?hR
        case h0 =>
          have hg : ((s.heap.push (Bare led)).push { cls := .type "tuple_iterator", data := .fields #[.ref l, .int 0 0] }).get? s.heap.objs.size = some (Bare led) := Heap.get?_push_of_some _ hS
          exact PyProof.Rows.SetOf_congr ((PyProof.Rows.setObjOf_fresh (knd := PySem.strKind P w) led).setOf hg (by unfold scanBound; omega)) (fun z => by simp [Wds]) rfl
        case hR =>
          rintro ⟨h', g', d', tk', os'⟩ hm x
          obtain rfl : g' = s.gens := hm.gens
          obtain rfl : d' = s.drawn := hm.drawn
          obtain rfl : os' = s.os := hm.os
          show wpAny _ _ _ _ _ _
          refine wpAny_pure (show wpAny _ _ (ret Value.none) _ _ _ from ?_)
          rw [← hsz] at x
          refine wpAny_pure ⟨rfl, h', tk', rfl, x, fun b o hb e => hm.heap b o ?_ (Heap.get?_push_of_some _ (Heap.get?_push_of_some _ e))⟩
          intro h
          rcases List.mem_cons.mp h with h | h
          · exact absurd h (Nat.ne_of_lt hb)
          · have h := List.mem_singleton.mp h; rw [z1] at h; exact absurd h (Nat.ne_of_lt (Nat.lt_succ_of_lt hb))
      · cases r2 with
        | error e => exact hr2
        | ok f2 =>
          cases f2 with
          | ret u2 =>
            obtain ⟨rfl, h', tk, rfl, x, k⟩ := hr2
            repeat (any_goals (first | assumption | wp_step))
            exact fin _ _ x k
          | _ => exact hr2.elim
    | _ => exact hr.elim
end
section
open L2
def tLenW (K : PySem.W.Frag) (ta : TE) : TE := fun σ H Q => ta σ H fun x H1 => ∃ (l : Addr) (ws : List Str), x = .ref l ∧ SqT K H1 l (ws.map V.str) ∧ ws.length ≤ 1000 ∧ Q (.int (metN ws ws.length : Nat)) H1
theorem pe_lenW {X : Cx} {a : Expr} {ta : TE} {p p2 q pos : Pos} (hc : X.calm = true) (g1 : Gl X "len") (m1 : X.mg "len" = none) (g2 : Gl X "set") (m2 : X.mg "set" = none) (ha : PE X a ta) (na : starEach [a] X.env = (false, eval a X.env) :: starEach [] X.env := by rfl) :
    PE X (.Call (.Name "len" p) [.Call (.Name "set" p2) [a] [] q] [] pos) (tLenW X.K ta) := ⟨fun pins s σ H Q I h => by
  refine Call_ (ld_blt I g1 m1 boot_len (PyProof.Rows.callWith_builtin1 (PyProof.Rows.args_cons ?_ rfl) rfl rfl))
  refine Call_ (ld_blt I g2 m2 boot_set (PyProof.Rows.callWith_type1 (PyProof.Rows.args_cons (thn (ha.run pins s σ H _ I h) fun v s1 ⟨x, H1, I1, r1, l, ws, ex, hq, hz, q1⟩ => PyProof.Rows.args_nil ?_) na) na rfl))
  subst ex
  cases r1
  obtain ⟨its, rv, pl, hz'⟩ := I1.tuple hq
  have hl : its.length = ws.length := by rw [← rv.length, List.length_map]
  refine set_words (I1.ok.hd hc) pl (by simpa using strsAre_of rv) hz fun h' tk x k => PyProof.Rows.args_nil ?_
  obtain ⟨o, es, ep, t, ho, hex, hd, _, _, _, hf, hn⟩ := x
  have hm := metN_le ws ws.length
  have I2 : Inv X pins σ H1 { s1 with heap := h', toks := tk } := I1.kept fun b o e => k b o (Heap.lt_size e) e
  exact call_len_set ho hex hd hf (by rw [hn]; omega) ⟨.int (metN ws ws.length : Nat), H1, I2.tok _, ⟨_, by rw [hn]⟩, q1⟩⟩
end
end CrU
/-! tests of three links; len(set(t)) -/
namespace Sm
open PySem PySem.Spec PyProof.Rows L2 Evl CrT Cr CrU
def tChain3 (r r' r2 : R2) (ta tb tc td : TE) : TT := fun σ H Q => ta σ H fun x H1 => tb σ H1 fun y H2 => r x y H2 fun z H3 => ∃ k, z = .bl k ∧
  (if k = true then tc σ H3 fun u H4 => r' y u H4 fun z' H5 => ∃ k', z' = .bl k' ∧ (if k' = true then td σ H5 fun v H6 => r2 u v H6 fun z2 H7 => ∃ k2, z2 = .bl k2 ∧ Q k2 H7 else Q false H5) else Q false H3)
theorem pt_chain3 {X : Cx} {a b c d : Expr} {ta tb tc td : TE} {pos : Pos} {op op' op2 : CmpOp} {r r' r2 : R2} (ho : OpR X (compareOp op) r) (ho' : OpR X (compareOp op') r') (ho2 : OpR X (compareOp op2) r2) (ha : PE X a ta) (hb : PE X b tb) (hc : PE X c tc) (hd : PE X d td)
    (hm : lastMarks [op, op', op2] [b, c, d] = false := by with_unfolding_all rfl) : PT X (.Compare a [op, op', op2] [b, c, d] pos) (tChain3 r r' r2 ta tb tc td) := ⟨fun pins s σ H Q I h => by
  refine isTrue_chain (thn (ha.run pins s σ H _ I h) fun v s1 ⟨x, H1, I1, q1r, q1⟩ => test_link (thn (hb.run pins s1 σ H1 _ I1 q1) fun u s2 ⟨y, H2, I2, q2r, q2⟩ => thn (ho pins s2 σ H2 x y v u _ I2 q1r q2r q2) fun cv s3 ⟨z, H3, I3, q3r, k, e, q3⟩ => ?_)) hm
  subst e; cases q3r
  refine wpAny_truthy_bool ?_
  cases k with
  | false => exact ite_ff ⟨H3, I3, q3⟩
  | true =>
    refine ite_tt (test_link (thn (hc.run pins s3 σ H3 _ I3 q3) fun w s4 ⟨z4, H4, I4, q4r, q4⟩ => thn (ho' pins s4 σ H4 y z4 u w _ I4 q2r q4r q4) fun cv2 s5 ⟨z5, H5, I5, q5r, k2, e2, q5⟩ => ?_))
    subst e2; cases q5r
    refine wpAny_truthy_bool ?_
    cases k2 with
    | false => exact ite_ff ⟨H5, I5, q5⟩
    | true =>
      refine ite_tt (test_last (thn (hd.run pins s5 σ H5 _ I5 q5) fun w' s6 ⟨z6, H6, I6, q6r, q6⟩ => thn (ho2 pins s6 σ H6 z4 z6 w w' _ I6 q4r q6r q6) fun cv3 s7 ⟨z7, H7, I7, q7r, k3, e3, q7⟩ => ?_))
      subst e3; cases q7r
      exact wpAny_truthy_bool ⟨H7, I7, q7⟩⟩
def fChain3 (g g' g2 : F2) (a b c d : FE) : FT := fun ρ => (a ρ).bind fun x => (b ρ).bind fun y => (g x y).bind fun z => (asB z).bind fun z => if z then (c ρ).bind fun u => (g' y u).bind fun z => (asB z).bind fun z => if z then (d ρ).bind fun v => (g2 u v).bind asB else some false else some false
theorem st_chain3 {K : PySem.W.Frag} {A : Atm} {ta tb tc td : TE} {fa fb fc fd : FE} {r r' r2 : R2} {g g' g2 : F2} (ha : SE K A ta fa) (hb : SE K A tb fb) (hc : SE K A tc fc) (hd : SE K A td fd) (hr : RD K A r g) (hr' : RD K A r' g') (hr2 : RD K A r2 g2) : ST K A (tChain3 r r' r2 ta tb tc td) (fChain3 g g' g2 fa fb fc fd) := fun R d h Q q => by
  obtain ⟨x, h1, h⟩ := bind_some' h
  obtain ⟨y, h2, h⟩ := bind_some' h
  obtain ⟨z, h3, h⟩ := bind_some' h
  obtain ⟨c, h4, h⟩ := bind_some' h
  cases asB_some h4
  refine ha R x h1 _ fun vx H1 e1 hx => hb (R.same e1) y h2 _ fun vy H2 e2 hy => hr (R.owl.same (e1.trans e2)) (hx.same e2) hy _ h3 _ fun vz H3 e3 hz => ⟨c, hz.bl_inv, ?_⟩
  have e13 := (e1.trans e2).trans e3
  cases c with
  | false =>
    have h : some false = some d := h
    cases h
    exact iteF (q H3 e13)
  | true =>
    refine iteT ?_
    have h : ((fc _).bind fun u => (g' y u).bind fun z => (asB z).bind fun z => if z = true then (fd _).bind fun v => (g2 u v).bind asB else some false) = some d := h
    obtain ⟨u, h5, h⟩ := bind_some' h
    obtain ⟨z', h6, h⟩ := bind_some' h
    obtain ⟨c2, h7, h⟩ := bind_some' h
    cases asB_some h7
    refine hc (R.same e13) u h5 _ fun vu H4 e4 hu => hr' (R.owl.same (e13.trans e4)) (hy.same (e3.trans e4)) hu _ h6 _ fun vz' H5 e5 hz' => ⟨c2, hz'.bl_inv, ?_⟩
    have e15 := (e13.trans e4).trans e5
    cases c2 with
    | false =>
      have h : some false = some d := h
      cases h
      exact iteF (q H5 e15)
    | true =>
      refine iteT ?_
      have h : ((fd _).bind fun v => (g2 u v).bind asB) = some d := h
      obtain ⟨v, h8, h⟩ := bind_some' h
      obtain ⟨z2, h9, h10⟩ := bind_some' h
      cases asB_some h10
      exact hd (R.same e15) v h8 _ fun vv H6 e6 hv => hr2 (R.owl.same (e15.trans e6)) (hu.same (e5.trans e6)) hv _ h9 _ fun vz2 H7 e7 hz2 => ⟨d, hz2.bl_inv, q H7 ((e15.trans e6).trans e7)⟩
def strsOf : List PyData → Option (List Str)
  | [] => some []
  | .str s :: ds => (strsOf ds).bind fun r => some (s :: r)
  | _ => none
theorem strsOf_map : ∀ ws : List Str, strsOf (ws.map .str) = some ws
  | [] => rfl
  | w :: ws => by
    show (strsOf (ws.map .str)).bind _ = _
    rw [strsOf_map ws]
    rfl
def gLenW : F1
  | .tuple ds => (strsOf ds).bind fun ws => if ws.length ≤ 1000 then some (.int (metN ws ws.length : Nat)) else none
  | _ => none
theorem strsOf_v {K : PySem.W.Frag} {A : Atm} {O : Addr → Prop} {H : Hp} : ∀ {ds : List PyData} {xs : List V} {ws : List Str}, Fds K A O H xs ds → strsOf ds = some ws → xs = ws.map V.str
  | [], xs, ws, h, hw => by cases hw; rw [h.nil_inv]; rfl
  | d :: ds, xs, ws, h, hw => by
    cases d <;> try cases hw
    obtain ⟨r, h1, h2⟩ := bind_some' hw
    cases h2
    obtain ⟨v, vs, rfl, h3, h4⟩ := h.head
    rw [strsOf_v h4 h1, h3.str_inv]
    rfl
theorem se_lenW {K : PySem.W.Frag} {A : Atm} {te : TE} {fe : FE} (h : SE K A te fe) : SE K A (tLenW K te) (fUn gLenW fe) := fun R d hd Q q => by
  obtain ⟨a, h1, h2⟩ := bind_some' hd
  cases a <;> try cases h2
  obtain ⟨ws, h3, h4⟩ := bind_some' h2
  split at h4
  · rename_i hz
    cases h4
    refine h R _ h1 _ fun v H1 e1 hv => ?_
    obtain ⟨p, xs, rfl, hp, hxs⟩ := hv.tup_inv
    rw [strsOf_v hxs h3] at hp
    exact ⟨p, ws, rfl, hp, hz, q _ _ e1 (.int _)⟩
  · cases h4
theorem pa_starK {X : Cx} (K : PySem.W.Frag) {e : Expr} {es : List Expr} {p : Pos} {te : TE} {t : TA} (he : PE X e te) (hr : PA X es t) (hK : X.K = K := by rfl) (hs : starEach (.Starred e p :: es) X.env = (true, eval e X.env) :: starEach es X.env := by rfl) : PA X (.Starred e p :: es) (StX.tStar K te t) := by
  subst hK
  exact StX.pa_star he hr hs
end Sm
set_option maxRecDepth 10000000
/-! readings that take from boxes: what follows for every draw -/
namespace Sm
open PySem PySem.Spec PyProof.Rows L2 Evl CrT Cr
/-! ### data without functions and boxes -/
mutual
def noA : PyData → Bool
  | .tuple ds => noAs ds
  | .list ds => noAs ds
  | .int _ => true
  | .str _ => true
  | .bool _ => true
  | .none => true
  | _ => false
def noAs : List PyData → Bool
  | [] => true
  | d :: ds => noA d && noAs ds
end
theorem noAs_mem : ∀ {ds : List PyData}, noAs ds = true → ∀ d ∈ ds, noA d = true
  | [], _, _, h => by cases h
  | d :: ds, h, e, he => by
    unfold noAs at h
    obtain ⟨h1, h2⟩ := Bool.and_eq_true_iff.mp h
    rcases List.mem_cons.mp he with rfl | he
    · exact h1
    · exact noAs_mem h2 e he
theorem noAs_of : ∀ {ds : List PyData}, (∀ d ∈ ds, noA d = true) → noAs ds = true
  | [], _ => by unfold noAs; rfl
  | d :: ds, h => by
    unfold noAs
    rw [h d List.mem_cons_self, noAs_of fun e he => h e (List.mem_cons_of_mem _ he)]
    rfl
mutual
theorem noA_flat : ∀ d : PyData, flatD d = true → noA d = true
  | .int _, _ => by rw [noA]
  | .str _, _ => by rw [noA]
  | .tuple ds, h => by
    rw [noA]
    rw [flatD] at h
    exact noA_flats ds h
  | .list _, h => by simp [flatD] at h
  | .bool _, h => by simp [flatD] at h
  | .none, h => by simp [flatD] at h
  | .dict _, h => by simp [flatD] at h
theorem noA_flats : ∀ ds : List PyData, flatDs ds = true → noAs ds = true
  | [], _ => by unfold noAs; rfl
  | d :: ds, h => by
    unfold flatDs at h
    obtain ⟨h1, h2⟩ := Bool.and_eq_true_iff.mp h
    unfold noAs
    rw [noA_flat d h1, noA_flats ds h2]
    rfl
end
section
variable {K : PySem.W.Frag} {A A' : Atm} {O O' : Addr → Prop} {H H' : Hp}
theorem Fd.amo (m : ∀ f kvs, A f kvs → A' f kvs) {v : V} {d : PyData} (h : Fd K A O H v d) : Fd K A' O H v d := by
  induction h with
  | non => exact .non
  | bl b => exact .bl b
  | int i => exact .int i
  | str x => exact .str x
  | tup hs hl _ ih => exact .tup hs hl ih
  | lst hs ho hl _ ih => exact .lst hs ho hl ih
  | fn h => exact .fn (m _ _ h)
theorem Fd.up {v : V} {d : PyData} (h : Fd K A0 O H v d) : Fd K A O H v d := h.amo fun _ _ h => h.elim
theorem Fd.noa {v : V} {d : PyData} (h : Fd K A O H v d) (hn : noA d = true) : Fd K A0 O H v d := by
  induction h with
  | non => exact .non
  | bl b => exact .bl b
  | int i => exact .int i
  | str x => exact .str x
  | tup hs hl _ ih => exact .tup hs hl fun i v d h1 h2 => ih i v d h1 h2 (noAs_mem (by simpa [noA] using hn) d (List.mem_of_getElem? h2))
  | lst hs ho hl _ ih => exact .lst hs ho hl fun i v d h1 h2 => ih i v d h1 h2 (noAs_mem (by simpa [noA] using hn) d (List.mem_of_getElem? h2))
  | fn h => simp [noA] at hn
theorem Fds.noa {vs : List V} {ds : List PyData} (h : Fds K A O H vs ds) (hn : noAs ds = true) : Fds K A0 O H vs ds := ⟨h.1, fun i v d a b => (h.2 i v d a b).noa (noAs_mem hn d (List.mem_of_getElem? b))⟩
end
/-- a call of a def that knows no boxes -/
def fCall0 (fn : Fn) (fa : FA) : FE := fun ρ => (fa ρ).bind fun ds => if noAs ds then fn ds else none
section
variable {K : PySem.W.Frag} {A : Atm}
theorem se_call0 {E : XK} {fn : Fn} {tas : TA} {fas : FA} (h : SA K A tas fas) : SE K A (tCall (spF K A0 fn) [] E tas) (fCall0 fn fas) := fun {H0 O0 O σ H ρ} R d hd Q q => by
  obtain ⟨ds, h1, h2⟩ := bind_some' hd
  split at h2
  · rename_i hn
    exact h R ds h1 _ fun vs H1 e1 hvs => ⟨O, ds, d, R.owl.same e1, by rw [List.append_nil]; exact hvs.noa hn, h2, fun v H2 e2 hv => q v H2 (e1.trans e2) hv.up⟩
  · cases h2
end
/-! ### boxes -/
def tagB (k : Nat) : List (PyData × PyData) := [(.int k, .int 0)]
def Abx (a : Addr) (bs : List Addr) : Atm := fun f kvs => (kvs = [] ∧ f = a) ∨ ∃ k : Nat, kvs = tagB k ∧ bs[k]? = some f
def ownS (σ : L2.St) (ρ : List Sl) (q : Addr) : Prop := ∃ (j : Nat) (es : OC), ρ[j]? = some (Sl.own es) ∧ σ[j]? = some (some (V.ref q))
structure RW (K : PySem.W.Frag) (a : Addr) (ns : List Int) (bs : List Addr) (H0 : Hp) (O0 O : Addr → Prop) (σ : L2.St) (H : Hp) (ρ : List Sl) : Prop where
  r : Rl K (Abx a bs) H0 O0 O σ H ρ
  scr : SqL K H0 a (ns.map V.int)
  len63 : ns.length ≤ 63
  box : ∀ b ∈ bs, O b ∧ H0 b = none ∧ ¬ ownS σ ρ b ∧ ∃ d, Bx H b d ∧ ¬ ownS σ ρ d
def WM (bs : List Addr) (H H' : Hp) : Prop := (∀ c o, c ∉ bs → H c = some o → H' c = some o) ∧ ∀ b d, b ∈ bs → Bx H b d → Bx H' b d
section
variable {K : PySem.W.Frag} {a : Addr} {ns : List Int} {bs : List Addr} {H0 : Hp} {O0 O O' : Addr → Prop} {σ σ' : L2.St} {H H1 H' : Hp} {ρ ρ' : List Sl}
theorem WM.same (e : Same H H') : WM bs H H' := ⟨fun c o _ h => e c o h, fun b d _ h => h.same e⟩
theorem WM.refl : WM bs H H := .same (.refl _)
theorem WM.trans (m : WM bs H H1) (n : WM bs H1 H') : WM bs H H' := ⟨fun c o hc h => n.1 c o hc (m.1 c o hc h), fun b d hb h => n.2 b d hb (m.2 b d hb h)⟩
theorem bx_uni {b d d' : Addr} (h : Bx H b d) (h' : Bx H b d') : d = d' := by
  obtain ⟨ns, i, h1, h2, h3⟩ := h
  obtain ⟨ms, j, g1, g2, g3⟩ := h'
  rw [h1] at g1
  injection g1 with g1
  injection g1 with g1
  injection g1 with g1 _
  injection g1
theorem bx_apart {b d b' d' : Addr} (h : Bx H b d) (h' : Bx H b' d') : d' ≠ b := fun e => by
  subst e
  obtain ⟨ns, i, h1, h2, h3⟩ := h
  obtain ⟨ms, j, g1, g2, g3⟩ := h'
  rw [h1] at g2
  injection g2 with g2
  injection g2 with g2
  match ms with
  | [] => cases g2
  | m :: ms => injection g2 with g2 _; cases g2
theorem WM.mv {b d : Addr} (hb : Bx H b d) (m : Mv b d H H') (hbm : b ∈ bs) : WM bs H H' := ⟨fun c o hc h => m.1 c o (fun e => hc (e ▸ hbm)) h, fun b' d' hb' h' => by
  by_cases e : b' = b
  · subst e
    rw [bx_uni h' hb]
    exact m.2
  · obtain ⟨ms, j, g1, g2, g3⟩ := h'
    exact ⟨ms, j, m.1 _ _ e g1, m.1 _ _ (bx_apart hb ⟨ms, j, g1, g2, g3⟩) g2, g3⟩⟩
theorem RW.evo (w : RW K a ns bs H0 O0 O σ H ρ) (m : WM bs H H') : Evo O H O H' := fun c o h n => ⟨m.1 c o (fun hc => n (w.box c hc).1) h, n⟩
theorem RW.wm (w : RW K a ns bs H0 O0 O σ H ρ) (m : WM bs H H') : RW K a ns bs H0 O0 O σ H' ρ where
  r := {
    len := w.r.len
    val := fun i d h => by
      obtain ⟨v, h1, h2⟩ := w.r.val i d h
      exact ⟨v, h1, h2.evo w.r.owl (w.evo m)⟩
    own := fun i ds h => by
      obtain ⟨p, xs, h1, h2, h3, h4, h5⟩ := w.r.own i ds h
      exact ⟨p, xs, h1, h2, h3, m.1 _ _ (fun hp => (w.box p hp).2.2.1 ⟨i, ds, h, h1⟩) h4, h5.evo w.r.owl (w.evo m)⟩
    inj := w.r.inj
    owl := fun c hc => by
      by_cases hb : c ∈ bs
      · obtain ⟨_, _, _, d, h, _⟩ := w.box c hb
        obtain ⟨ms, j, g1, _⟩ := m.2 c d hb h
        exact ⟨_, g1, trivial⟩
      · obtain ⟨xs, hx, hm⟩ := w.r.owl c hc
        exact ⟨xs, m.1 c _ hb hx, hm⟩
    frm := fun c o h => m.1 c o (fun hc => by rw [(w.box c hc).2.1] at h; cases h) (w.r.frm c o h)
    sub := w.r.sub
    old := w.r.old }
  scr := w.scr
  len63 := w.len63
  box := fun b hb => by
    obtain ⟨h1, h2, h3, d, h4, h5⟩ := w.box b hb
    exact ⟨h1, h2, h3, d, m.2 b d hb h4, h5⟩
theorem RW.scrH (w : RW K a ns bs H0 O0 O σ H ρ) : SqL K H a (ns.map V.int) := w.r.frm.seq w.scr
open Classical in
/-- the heap that pure statements leave alone: all but the lists of one's own -/
noncomputable def keepH (σ : L2.St) (ρ : List Sl) (H : Hp) : Hp := fun c => if ownS σ ρ c then none else H c
theorem keep_some {c : Addr} {o : HO} (h : keepH σ ρ H c = some o) : H c = some o := by
  unfold keepH at h
  split at h
  · cases h
  · exact h
theorem keep_of {c : Addr} (h : ¬ ownS σ ρ c) : keepH σ ρ H c = H c := if_neg h
theorem RW.lift (w : RW K a ns bs H0 O0 O σ H ρ) : Rl K (Abx a bs) (keepH σ ρ H) (fun c => O0 c ∨ c ∈ bs) O σ H ρ where
  len := w.r.len
  val := w.r.val
  own := fun i ds h => by
    obtain ⟨p, xs, h1, h2, h3, h4, h5⟩ := w.r.own i ds h
    exact ⟨p, xs, h1, h2, if_pos ⟨i, ds, h, h1⟩, h4, h5⟩
  inj := w.r.inj
  owl := w.r.owl
  frm := fun c o h => keep_some h
  sub := fun c h => by
    rcases h with h | h
    · exact w.r.sub c h
    · exact (w.box c h).1
  old := fun c h => by
    rcases h with h | h
    · obtain ⟨xs, hx, hm⟩ := w.r.old c h
      refine ⟨xs, ?_, hm⟩
      rw [keep_of fun ⟨j, es, h1, h2⟩ => by
        obtain ⟨p, ys, g1, g2, g3, _⟩ := w.r.own j es h1
        rw [h2] at g1
        cases g1
        rw [hx] at g3
        cases g3]
      exact w.r.frm c _ hx
    · obtain ⟨_, _, h3, d, ⟨ms, j, g1, _⟩, _⟩ := w.box c h
      exact ⟨_, (keep_of h3).trans g1, trivial⟩
theorem RW.back (w : RW K a ns bs H0 O0 O σ H ρ) (r : Rl K (Abx a bs) (keepH σ ρ H) (fun c => O0 c ∨ c ∈ bs) O' σ' H' ρ') : RW K a ns bs H0 O0 O' σ' H' ρ' := by
  have out : ∀ c, H c ≠ none → ¬ ownS σ ρ c → ¬ ownS σ' ρ' c := fun c h1 h2 ⟨j, es, g1, g2⟩ => by
    obtain ⟨p, xs, k1, k2, k3, _⟩ := r.own j es g1
    rw [g2] at k1
    cases k1
    rw [keep_of h2] at k3
    exact h1 k3
  refine ⟨⟨r.len, r.val, fun i ds h => ?_, r.inj, r.owl, fun c o h => ?_, fun c h => r.sub c (.inl h), w.r.old⟩, w.scr, w.len63, fun b hb => ?_⟩
  · obtain ⟨p, xs, h1, h2, h3, h4, h5⟩ := r.own i ds h
    refine ⟨p, xs, h1, h2, ?_, h4, h5⟩
    by_cases ho : ownS σ ρ p
    · obtain ⟨j, es, g1, g2⟩ := ho
      obtain ⟨q, ys, k1, k2, k3, _⟩ := w.r.own j es g1
      rw [g2] at k1
      cases k1
      exact k3
    · rw [keep_of ho] at h3
      exact w.r.frm.free h3
  · refine r.frm c o ?_
    rw [keep_of fun ⟨j, es, h1, h2⟩ => by
      obtain ⟨p, ys, g1, g2, g3, _⟩ := w.r.own j es h1
      rw [h2] at g1
      cases g1
      rw [h] at g3
      cases g3]
    exact w.r.frm c o h
  · obtain ⟨h1, h2, h3, d, h4, h5⟩ := w.box b hb
    obtain ⟨ms, j, g1, g2, g3⟩ := h4
    refine ⟨r.sub b (.inr hb), h2, out b (by rw [g1]; exact fun h => nomatch h) h3, d, ⟨ms, j, r.frm _ _ ((keep_of h3).trans g1), r.frm _ _ ((keep_of h5).trans g2), g3⟩, out d (by rw [g2]; exact fun h => nomatch h) h5⟩
theorem RW.frm' (w : RW K a ns bs H0 O0 O σ H ρ) (e : Same (keepH σ ρ H) H') : Same H0 H' := fun c o h => by
  refine e c o ?_
  rw [keep_of fun ⟨j, es, h1, h2⟩ => by
    obtain ⟨p, ys, g1, g2, g3, _⟩ := w.r.own j es h1
    rw [h2] at g1
    cases g1
    rw [h] at g3
    cases g3]
  exact w.r.frm c o h
theorem abx_more {b : Addr} : ∀ f kvs, Abx a bs f kvs → Abx a (bs ++ [b]) f kvs := fun f kvs h => by
  rcases h with h | ⟨k, h1, h2⟩
  · exact .inl h
  · exact .inr ⟨k, h1, by rw [List.getElem?_append_left (List.getElem?_eq_some_iff.mp h2).1]; exact h2⟩
def noOwn : List Sl → Bool
  | [] => true
  | .own _ :: _ => false
  | _ :: l => noOwn l
theorem noOwn_no : ∀ {ρ : List Sl}, noOwn ρ = true → ∀ (j : Nat) (es : OC), ρ[j]? ≠ some (Sl.own es)
  | [], _, j, es => by simp
  | .un :: l, h, 0, es => by simp
  | .val _ :: l, h, 0, es => by simp
  | .un :: l, h, j + 1, es => by simpa using noOwn_no (ρ := l) h j es
  | .val _ :: l, h, j + 1, es => by simpa using noOwn_no (ρ := l) h j es
  | .own _ :: l, h, _, _ => by cases h
/-- a new box -/
theorem RW.more (w : RW K a ns bs H0 O0 O σ H ρ) (hn : noOwn ρ = true) {b d : Addr} (e : Same H H') (hb : H b = none) (hB : Bx H' b d) : RW K a ns (bs ++ [b]) H0 O0 (Osn O b) σ H' ρ := by
  have no : ∀ c, ¬ ownS σ ρ c := fun c ⟨j, es, h, _⟩ => noOwn_no hn j es h
  refine ⟨⟨w.r.len, fun i d' h => ?_, fun i ds h => (noOwn_no hn i ds h).elim, w.r.inj, fun c h => ?_, w.r.frm.trans e, fun c h => .inr (w.r.sub c h), w.r.old⟩, w.scr, w.len63, fun c hc => ?_⟩
  · obtain ⟨v, h1, h2⟩ := w.r.val i d' h
    exact ⟨v, h1, ((h2.more hb).same e).amo abx_more⟩
  · rcases h with rfl | h
    · obtain ⟨ms, j, g1, _⟩ := hB
      exact ⟨_, g1, trivial⟩
    · obtain ⟨xs, hx, hm⟩ := w.r.owl c h
      exact ⟨xs, e _ _ hx, hm⟩
  · rcases List.mem_append.mp hc with hc | hc
    · obtain ⟨h1, h2, h3, d', h4, h5⟩ := w.box c hc
      exact ⟨.inr h1, h2, h3, d', h4.same e, h5⟩
    · cases List.mem_singleton.mp hc
      exact ⟨.inl rfl, w.r.frm.free hb, no _, d, hB, no _⟩
theorem evo_more {b : Addr} (e : Same H H') (hb : H b = none) : Evo O H (Osn O b) H' := fun c o h n => ⟨e c o h, fun h' => by
  rcases h' with rfl | h'
  · rw [h] at hb; cases hb
  · exact n h'⟩
end
/-! ### expressions -/
abbrev WE := List Sl → (PyData → Prop) → Prop
abbrev WA := List Sl → (List PyData → Prop) → Prop
def SW (K : PySem.W.Frag) (t : TE) (w : WE) : Prop := ∀ {a : Addr} {ns : List Int} {bs : List Addr} {H0 : Hp} {O0 O : Addr → Prop} {σ : L2.St} {H : Hp} {ρ : List Sl}, RW K a ns bs H0 O0 O σ H ρ → ∀ Q, w ρ Q → ∀ Q' : VK, (∀ v d H', WM bs H H' → Fd K (Abx a bs) O H' v d → Q d → Q' v H') → t σ H Q'
def SWs (K : PySem.W.Frag) (t : TA) (w : WA) : Prop := ∀ {a : Addr} {ns : List Int} {bs : List Addr} {H0 : Hp} {O0 O : Addr → Prop} {σ : L2.St} {H : Hp} {ρ : List Sl}, RW K a ns bs H0 O0 O σ H ρ → ∀ Q, w ρ Q → ∀ Q' : List V → Hp → Prop, (∀ vs ds H', WM bs H H' → Fds K (Abx a bs) O H' vs ds → Q ds → Q' vs H') → t σ H Q'
def wOf (fe : FE) : WE := fun ρ Q => ∃ d, fe ρ = some d ∧ Q d
def wsOf (fa : FA) : WA := fun ρ Q => ∃ ds, fa ρ = some ds ∧ Q ds
def wsNil : WA := fun _ Q => Q []
def wsCons (we : WE) (wr : WA) : WA := fun ρ Q => we ρ fun d => wr ρ fun ds => Q (d :: ds)
def wOp (g : F2) (wa wb : WE) : WE := fun ρ Q => wa ρ fun x => wb ρ fun y => ∃ c, g x y = some c ∧ Q c
def wTup (wa : WA) : WE := fun ρ Q => wa ρ fun ds => ds.length ≤ 10000000 ∧ Q (.tuple ds)
def wLst (wa : WA) : WE := fun ρ Q => wa ρ fun ds => ds.length ≤ 10000000 ∧ Q (.list ds)
def wCall (fn : Fn) (wa : WA) : WE := fun ρ Q => wa ρ fun ds => ∃ d, fn ds = some d ∧ Q d
def wCall0 (fn : Fn) (wa : WA) : WE := fun ρ Q => wa ρ fun ds => noAs ds = true ∧ ∃ d, fn ds = some d ∧ Q d
def wTake (wa : WA) : WE := fun ρ Q => wa ρ fun ds => ∃ (k : Nat) (m : Int), ds = [.dict (tagB k), .int m] ∧ 0 < m ∧ ∀ r : Int, 0 ≤ r → r < m → Q (.int r)
section
variable {K : PySem.W.Frag} {ta tb te : TE} {wa wb we : WE} {tas : TA} {was : WA}
theorem sw_of {fe : FE} (h : ∀ A, SE K A te fe) : SW K te (wOf fe) := fun {a ns bs H0 O0 O σ H ρ} w Q hQ Q' q => by
  obtain ⟨d, h1, h2⟩ := hQ
  exact h (Abx a bs) w.r d h1 Q' fun v H' e hv => q v d H' (.same e) hv h2
theorem sws_of {fa : FA} (h : ∀ A, SA K A tas fa) : SWs K tas (wsOf fa) := fun {a ns bs H0 O0 O σ H ρ} w Q hQ Q' q => by
  obtain ⟨ds, h1, h2⟩ := hQ
  exact h (Abx a bs) w.r ds h1 Q' fun vs H' e hv => q vs ds H' (.same e) hv h2
theorem sws_nil : SWs K tNil wsNil := fun w Q hQ Q' q => q [] [] _ .refl .nil hQ
theorem sws_cons (h1 : SW K ta wa) (h2 : SWs K tas was) : SWs K (tCons ta tas) (wsCons wa was) := fun {a ns bs H0 O0 O σ H ρ} w Q hQ Q' q => by
  refine h1 w _ hQ _ fun x d H1 m1 hx hQ1 => ?_
  have w1 := w.wm m1
  refine h2 w1 _ hQ1 _ fun vs ds H2 m2 hvs hQ2 => ?_
  exact q _ _ H2 (m1.trans m2) (.cons (hx.evo w1.r.owl (w1.evo m2)) hvs) hQ2
theorem sw_op {r : R2} {g : F2} (h1 : SW K ta wa) (h2 : SW K tb wb) (hr : ∀ A, RD K A r g) : SW K (tOp r ta tb) (wOp g wa wb) := fun {a ns bs H0 O0 O σ H ρ} w Q hQ Q' q => by
  refine h1 w _ hQ _ fun x d H1 m1 hx hQ1 => ?_
  have w1 := w.wm m1
  refine h2 w1 _ hQ1 _ fun y e H2 m2 hy hQ2 => ?_
  obtain ⟨c, hc, hQ3⟩ := hQ2
  have w2 := w1.wm m2
  exact hr (Abx a bs) w2.r.owl (hx.evo w1.r.owl (w1.evo m2)) hy c hc _ fun v H3 e3 hv => q v c H3 ((m1.trans m2).trans (.same e3)) hv hQ3
theorem sw_tup (h : SWs K tas was) : SW K (tTup tas) (wTup was) := fun {a ns bs H0 O0 O σ H ρ} w Q hQ Q' q => by
  refine h w _ hQ _ fun vs ds H1 m1 hvs hQ1 => ?_
  obtain ⟨hl, hQ2⟩ := hQ1
  exact ⟨sz100 (by rw [hvs.1]; exact hl), fun p hp => q _ _ _ (m1.trans (.same (Cr.same_new hp))) ((hvs.same (Cr.same_new hp)).tup (.of upd_same)) hQ2⟩
theorem sw_lst (h : SWs K tas was) : SW K (tLst tas) (wLst was) := fun {a ns bs H0 O0 O σ H ρ} w Q hQ Q' q => by
  refine h w _ hQ _ fun vs ds H1 m1 hvs hQ1 => ?_
  obtain ⟨hl, hQ2⟩ := hQ1
  exact ⟨sz100 (by rw [hvs.1]; exact hl), fun p hp => q _ _ _ (m1.trans (.same (Cr.same_new hp))) ((hvs.same (Cr.same_new hp)).lst upd_same ((w.wm m1).r.owl.none hp)) hQ2⟩
theorem sw_cb {r : List V → Hp → VK → Prop} {gn : Fn} (h : SWs K tas was) (hr : ∀ A, RDs K A r gn) : SW K (tCB r tas) (wCall gn was) := fun {a ns bs H0 O0 O σ H ρ} w Q hQ Q' q => by
  refine h w _ hQ _ fun vs ds H1 m1 hvs hQ1 => ?_
  obtain ⟨d, h1, hQ2⟩ := hQ1
  exact hr (Abx a bs) (w.wm m1).r.owl hvs d h1 _ fun v H2 e2 hv => q v d H2 (m1.trans (.same e2)) hv hQ2
theorem sw_call0 {E : XK} {fn : Fn} (h : SWs K tas was) : SW K (tCall (spF K A0 fn) [] E tas) (wCall0 fn was) := fun {a ns bs H0 O0 O σ H ρ} w Q hQ Q' q => by
  refine h w _ hQ _ fun vs ds H1 m1 hvs hQ1 => ?_
  obtain ⟨hn, d, h1, hQ2⟩ := hQ1
  exact ⟨O, ds, d, (w.wm m1).r.owl, by rw [List.append_nil]; exact hvs.noa hn, h1, fun v H2 e2 hv => q v d H2 (m1.trans (.same e2)) hv.up hQ2⟩
theorem abx_box {a : Addr} {bs : List Addr} {f : Addr} {k : Nat} (h : Abx a bs f (tagB k)) : bs[k]? = some f := by
  rcases h with ⟨h, _⟩ | ⟨j, h1, h2⟩
  · cases h
  · unfold tagB at h1
    injection h1 with h1 _
    injection h1 with h1 _
    injection h1 with h1
    rw [Int.ofNat_inj.mp h1]
    exact h2
theorem sw_take {E : XK} (h : SWs K tas was) : SW K (tCall spTake [] E tas) (wTake was) := fun {a ns bs H0 O0 O σ H ρ} w Q hQ Q' q => by
  refine h w _ hQ _ fun vs ds H1 m1 hvs hQ1 => ?_
  obtain ⟨k, m, rfl, hm, hQ2⟩ := hQ1
  obtain ⟨v, ws, rfl, h1, h2⟩ := hvs.head
  obtain ⟨u, rfl, h3⟩ := one_inv h2
  cases h3.int_inv
  cases h1 with
  | fn hA =>
    have hbm := List.mem_of_getElem? (abx_box hA)
    obtain ⟨_, _, _, d, hB, _⟩ := (w.wm m1).box _ hbm
    exact ⟨_, d, m, rfl, hB, hm, fun r H2 h0 hr hv => q _ _ H2 (m1.trans (.mv hB hv hbm)) (.int r) (hQ2 r h0 hr)⟩
/-! ### comprehensions -/
def wList (g : PyData → List Sl → Option (List Sl)) (we : WE) (ρ : List Sl) : List PyData → (List PyData → Prop) → Prop
  | [], Q => Q []
  | d :: ds, Q => ∃ ρ1, g d ρ = some ρ1 ∧ we ρ1 fun y => wList g we ρ ds fun r => Q (y :: r)
def SIW (K : PySem.W.Frag) (wi : TI) (w : WA) : Prop := ∀ {a : Addr} {ns : List Int} {bs : List Addr} {H0 : Hp} {O0 O : Addr → Prop} {σ : L2.St} {H : Hp} {ρ : List Sl}, RW K a ns bs H0 O0 O σ H ρ → ∀ Q, w ρ Q → ∀ R : It → Hp → Prop, (∀ J ds H', WM bs H H' → Wk K (Abx a bs) O H' J ds → Q ds → R J H') → wi σ H R
theorem siw_of {wi : TI} {fi : FA} (h : ∀ A, SI K A wi fi) : SIW K wi (wsOf fi) := fun {a ns bs H0 O0 O σ H ρ} w Q hQ R q => by
  obtain ⟨ds, h1, h2⟩ := hQ
  exact h (Abx a bs) w.r ds h1 R fun J H1 e1 wk => q J ds H1 (.same e1) wk h2
def wRng1 (wa : WA) : WA := fun ρ Q => wa ρ fun ds => ∃ n : Int, ds = [.int n] ∧ -10000000 ≤ n ∧ n ≤ 10000000 ∧ Q (rngD 0 n.toNat)
theorem siw_rng1 (h : SWs K tas was) : SIW K (iRng1 tas) (wRng1 was) := fun {a ns bs H0 O0 O σ H ρ} w Q hQ R q => by
  refine h w _ hQ _ fun vs ds H1 m1 hvs hQ1 => ?_
  obtain ⟨n, rfl, h1, h2, hQ2⟩ := hQ1
  obtain ⟨v, rfl, hv⟩ := one_inv hvs
  cases hv.int_inv
  exact ⟨n, rfl, by omega, by omega, q _ _ _ m1 (wk_rng 0 n.toNat) hQ2⟩
theorem wList_mono {g : PyData → List Sl → Option (List Sl)} {we : WE} {ρ : List Sl} (hm : ∀ ρ Q Q', (∀ d, Q d → Q' d) → we ρ Q → we ρ Q') : ∀ ds Q Q', (∀ r, Q r → Q' r) → wList g we ρ ds Q → wList g we ρ ds Q'
  | [], Q, Q', h, hq => h _ hq
  | d :: ds, Q, Q', h, ⟨ρ1, h1, h2⟩ => ⟨ρ1, h1, hm _ _ _ (fun y hy => wList_mono hm ds _ _ (fun r hr => h _ hr) hy) h2⟩
def wComp (wi : WA) (g : PyData → List Sl → Option (List Sl)) (we : WE) (vs : List Nat) : WE := fun ρ Q => wi ρ fun ds => ds.length ≤ 10000000 ∧ wList g we (wpS ρ vs) ds fun r => Q (.list r)
end
section
variable {K : PySem.W.Frag} {a : Addr} {ns : List Int} {bs : List Addr} {H0 : Hp} {O0 O O' : Addr → Prop} {σ σ' : L2.St} {H H1 H' : Hp} {ρ ρ' : List Sl}
theorem own_wipe {q : Addr} : ∀ {vs : List Nat}, ownS (L2.wipe σ vs) (wpS ρ vs) q → ownS σ ρ q
  | [], h => h
  | v :: vs, ⟨j, es, h1, h2⟩ => by
    refine own_wipe (vs := vs) ?_
    have h1 : ((wpS ρ vs).set v Sl.un)[j]? = some (Sl.own es) := h1
    have h2 : ((L2.wipe σ vs).set v none)[j]? = some (some (V.ref q)) := h2
    have hv : v ≠ j := fun e => by
      subst e
      rw [List.getElem?_set, if_pos rfl] at h1
      split at h1 <;> cases h1
    rw [List.getElem?_set_ne hv] at h1 h2
    exact ⟨j, es, h1, h2⟩
theorem RW.wipe (w : RW K a ns bs H0 O0 O σ H ρ) (vs : List Nat) : RW K a ns bs H0 O0 O (L2.wipe σ vs) H (wpS ρ vs) where
  r := w.r.wipe vs
  scr := w.scr
  len63 := w.len63
  box := fun b hb => by
    obtain ⟨h1, h2, h3, d, h4, h5⟩ := w.box b hb
    exact ⟨h1, h2, fun h => h3 (own_wipe h), d, h4, fun h => h5 (own_wipe h)⟩
theorem RW.osn (w : RW K a ns bs H0 O0 O σ H ρ) {p : Addr} {xs : List V} (hp : H p = none) (e : Same H H') (hx : H' p = some (.lst xs)) : RW K a ns bs H0 O0 (Osn O p) σ H' ρ where
  r := w.r.osn hp e hx
  scr := w.scr
  len63 := w.len63
  box := fun b hb => by
    obtain ⟨h1, h2, h3, d, h4, h5⟩ := w.box b hb
    exact ⟨.inr h1, h2, h3, d, h4.same e, h5⟩
theorem RW.osw (w : RW K a ns bs H0 O0 O σ H ρ) {p : Addr} {xs : List V} (hp : H p = none) (m : WM bs H H') (hx : H' p = some (.lst xs)) : RW K a ns bs H0 O0 (Osn O p) σ H' ρ := by
  have hb : ∀ b ∈ bs, b ≠ p := fun b hb e => by
    obtain ⟨_, _, _, d, ⟨ms, j, g1, _⟩, _⟩ := w.box b hb
    rw [e, hp] at g1
    cases g1
  refine (w.osn (H' := upd H p (.lst xs)) hp (Cr.same_new hp) upd_same).wm ⟨fun c o hc h => ?_, fun b d hbm h => ?_⟩
  · by_cases e : c = p
    · subst e
      rw [upd_same] at h
      cases h
      exact hx
    · rw [upd_ne e] at h
      exact m.1 c o hc h
  · obtain ⟨_, _, _, d1, hB1, _⟩ := w.box b hbm
    have hd : d = d1 := bx_uni h (hB1.same (Cr.same_new hp))
    subst hd
    exact m.2 b d hbm hB1
theorem sw_lc {wi : TI} {ww : WA} {tg : TG} {gg : PyData → List Sl → Option (List Sl)} {ws vs : List Nat} {te : TE} {we : WE} (hi : SIW K wi ww) (hg : ∀ A, SG K A tg gg ws) (hsub : ∀ i ∈ ws, i ∈ vs) (he : SW K te we) : SW K (tLc wi tg tYes te vs) (wComp ww gg we vs) := fun {a ns bs H0 O0 O σ H ρ} w Q hQ Q' q => by
  refine hi w _ hQ _ fun J ds H1 m1 wk hQ1 => ?_
  obtain ⟨hlen, hQ1⟩ := hQ1
  obtain ⟨G, Y, wl, hw⟩ := wk
  have w0 := w.wm m1
  have w1 := w0.wipe vs
  intro Dl hD
  have hbD : Dl ∉ bs := fun hb => by
    obtain ⟨_, _, _, d, ⟨ms, j, g1, _⟩, _⟩ := w1.box Dl hb
    rw [hD] at g1
    cases g1
  have evo : ∀ {H'}, WM bs H1 H' → Evo O H1 (Osn O Dl) H' := fun m c o hc hn => ⟨(w1.evo m c o hc hn).1, fun h => by
    rcases h with h | h
    · rw [h, hD] at hc
      cases hc
    · exact hn h⟩
  refine lc_it wl (D := Dl) (fun i H' => ∃ acc done, WM bs H1 H' ∧ H' Dl = some (.lst acc) ∧ Fds K (Abx a bs) (Osn O Dl) H' acc done ∧ done.length = i ∧ wList gg we (wpS ρ vs) (ds.drop i) fun r => Q (.list (done ++ r))) ⟨[], [], .same (Cr.same_new hD), upd_same, .nil, rfl, hQ1⟩ (fun i H' _ hP => ?_) (fun i x H' H2 hi' hP hy => ?_) (fun H' hP => ?_)
  · obtain ⟨acc, done, m, hDl, _⟩ := hP
    exact (hw (Osn O Dl) H' (w1.osw hD m hDl).r.owl (evo m)).1
  · obtain ⟨acc, done, m, hDl, hacc, hdl, hc⟩ := hP
    have w2 := w1.osw hD m hDl
    obtain ⟨e2, d, hd, hx⟩ := (hw (Osn O Dl) H' w2.r.owl (evo m)).2 i x H2 hi' hy
    have hdr : ds.drop i = d :: ds.drop (i + 1) := by
      obtain ⟨hlt, rfl⟩ := List.getElem?_eq_some_iff.mp hd
      exact List.drop_eq_getElem_cons hlt
    have hlt := (List.getElem?_eq_some_iff.mp hd).1
    rw [hdr] at hc
    obtain ⟨ρ1, h3, h4⟩ := hc
    have w3 := w2.wm (.same e2)
    refine hg (Abx a bs) w3.lift hx ρ1 h3 _ fun σ2 r3 l3 k3 _ => ⟨?_, ?_⟩
    · rw [wipe_ext (σ := L2.wipe σ vs) (by rw [l3]) (fun i hi => k3 i fun h => hi (hsub i h)), wipe_wipe]
    · dsimp only [tYes]
      rw [if_pos rfl]
      refine he (w3.back r3) _ h4 _ fun v y H4 m4 hv hQ2 => ?_
      have m24 : WM bs H' H4 := (WM.same e2).trans m4
      have hD4 : H4 Dl = some (.lst acc) := m24.1 _ _ hbD hDl
      have hacc4 : Fds K (Abx a bs) (Osn O Dl) H4 acc done := hacc.evo w2.r.owl (w2.evo m24)
      have ev4 : Evo (Osn O Dl) H4 (Osn O Dl) (upd H4 Dl (.lst (acc ++ [v]))) := fun c o ha hn => ⟨by
        rw [upd_ne (fun e => hn (.inl e))]
        exact ha, hn⟩
      have w4 := w2.wm m24
      refine ⟨acc, hD4, ?_, acc ++ [v], done ++ [y], ?_, upd_same, (hacc4.snoc hv).evo w4.r.owl ev4, by rw [List.length_append, hdl]; rfl, ?_⟩
      · have h6 : acc.length = done.length := hacc.1
        exact Nat.lt_of_lt_of_le (show acc.length < 10000000 by omega) (by decide)
      · have m14 := m.trans m24
        refine ⟨fun c o hc h => ?_, fun b d hb h => ?_⟩
        · have hne : c ≠ Dl := fun e => by
            subst e
            rw [hD] at h
            cases h
          rw [upd_ne hne]
          exact m14.1 c o hc h
        · obtain ⟨ms, j, g1, g2, g3⟩ := h
          have n1 : b ≠ Dl := fun e => hbD (e ▸ hb)
          have n2 : d ≠ Dl := fun e => by
            subst e
            rw [hD] at g2
            cases g2
          obtain ⟨ms', j', k1, k2, k3⟩ := m14.2 b d hb ⟨ms, j, g1, g2, g3⟩
          exact ⟨ms', j', by rw [upd_ne n1]; exact k1, by rw [upd_ne n2]; exact k2, k3⟩
      · simpa using hQ2
  · obtain ⟨acc, done, m, hDl, hacc, hdl, hc⟩ := hP
    rw [List.drop_length] at hc
    have hc : Q (.list (done ++ [])) := hc
    rw [List.append_nil] at hc
    exact q _ _ H' (m1.trans m) ((hacc.less fun a h => .inr h).lst hDl (w0.r.owl.none hD)) hc
end
/-! ### statements -/
abbrev WS := Nat → List Sl → (Fl → Nat → List Sl → Prop) → Prop
def Ext (bs bs' : List Addr) : Prop := ∃ t, bs' = bs ++ t
theorem Ext.refl {bs : List Addr} : Ext bs bs := ⟨[], (List.append_nil _).symm⟩
theorem Ext.trans {bs bs1 bs2 : List Addr} (h : Ext bs bs1) (g : Ext bs1 bs2) : Ext bs bs2 := by
  obtain ⟨t, rfl⟩ := h
  obtain ⟨u, rfl⟩ := g
  exact ⟨t ++ u, List.append_assoc _ _ _⟩
def PostW (K : PySem.W.Frag) (a : Addr) (ns : List Int) (bs : List Addr) (H0 : Hp) (O0 O : Addr → Prop) (H : Hp) (D : Ends) (fl : Fl) (n : Nat) (ρ' : List Sl) : Prop := match fl with
  | .nx => ∀ bs' σ' H' O', Ext bs bs' → bs'.length = n → RW K a ns bs' H0 O0 O' σ' H' ρ' → Evo O H O' H' → D.nx σ' H'
  | .bk => ∀ bs' σ' H' O', Ext bs bs' → bs'.length = n → RW K a ns bs' H0 O0 O' σ' H' ρ' → Evo O H O' H' → D.bk σ' H'
  | .ct => ∀ bs' σ' H' O', Ext bs bs' → bs'.length = n → RW K a ns bs' H0 O0 O' σ' H' ρ' → Evo O H O' H' → D.ct σ' H'
  | .rt d => ∀ bs' v H', Ext bs bs' → Same H0 H' → Fd K (Abx a bs') O0 H' v d → D.rt v H'
def SSw (K : PySem.W.Frag) (t : TS) (w : WS) : Prop := ∀ {a : Addr} {ns : List Int} {bs : List Addr} {H0 : Hp} {O0 O : Addr → Prop} {σ : L2.St} {H : Hp} {ρ : List Sl}, RW K a ns bs H0 O0 O σ H ρ → ∀ Q, w bs.length ρ Q → ∀ D : Ends, (∀ fl n ρ', Q fl n ρ' → PostW K a ns bs H0 O0 O H D fl n ρ') → t D σ H
def wSt (f : FS) : WS := fun n ρ Q => ∃ o, f ρ = some o ∧ Q o.1 n o.2
def wSeq (w1 w2 : WS) : WS := fun n ρ Q => w1 n ρ fun fl n' ρ' => match fl with
  | .nx => w2 n' ρ' Q
  | fl => Q fl n' ρ'
def wIf (t : FT) (w1 w2 : WS) : WS := fun n ρ Q => ∃ b, t ρ = some b ∧ if b then w1 n ρ Q else w2 n ρ Q
def wAsg (we : WE) (g : PyData → List Sl → Option (List Sl)) : WS := fun n ρ Q => we ρ fun d => ∃ ρ1, g d ρ = some ρ1 ∧ Q .nx n ρ1
def wLoop (g : PyData → List Sl → Option (List Sl)) (wb : WS) : List PyData → WS
  | [], n, ρ, Q => Q .nx n ρ
  | d :: ds, n, ρ, Q => ∃ ρ1, g d ρ = some ρ1 ∧ wb n ρ1 fun fl n2 ρ2 => match fl with
    | .nx => wLoop g wb ds n2 ρ2 Q
    | .ct => wLoop g wb ds n2 ρ2 Q
    | .bk => Q .nx n2 ρ2
    | .rt d => Q (.rt d) n2 ρ2
def wFor (wi : WA) (g : PyData → List Sl → Option (List Sl)) (wb : WS) : WS := fun n ρ Q => wi ρ fun ds => wLoop g wb ds n ρ Q
section
variable {K : PySem.W.Frag} {a : Addr} {ns : List Int} {bs bs' : List Addr} {H0 : Hp} {O0 O O' : Addr → Prop} {H H' : Hp} {D : Ends} {t u : TS} {w1 w2 : WS}
theorem PostW.evo {fl : Fl} {n : Nat} {ρ' : List Sl} (x : Ext bs bs') (e : Evo O H O' H') (p : PostW K a ns bs H0 O0 O H D fl n ρ') : PostW K a ns bs' H0 O0 O' H' D fl n ρ' := by
  cases fl with
  | nx => exact fun b2 σ2 H2 O2 x2 l2 r2 e2 => p b2 σ2 H2 O2 (x.trans x2) l2 r2 (e.trans e2)
  | bk => exact fun b2 σ2 H2 O2 x2 l2 r2 e2 => p b2 σ2 H2 O2 (x.trans x2) l2 r2 (e.trans e2)
  | ct => exact fun b2 σ2 H2 O2 x2 l2 r2 e2 => p b2 σ2 H2 O2 (x.trans x2) l2 r2 (e.trans e2)
  | rt d => exact fun b2 v H2 x2 s2 hv => p b2 v H2 (x.trans x2) s2 hv
theorem ssw_of {f : FS} (h : ∀ A, SS K A t f) : SSw K t (wSt f) := fun {a ns bs H0 O0 O σ H ρ} w Q hQ D p => by
  obtain ⟨⟨fl, ρ'⟩, h1, h2⟩ := hQ
  have hp := p fl bs.length ρ' h2
  refine h (Abx a bs) w.lift (fl, ρ') h1 D ?_
  cases fl with
  | nx => exact fun σ' H' O' r e => hp bs σ' H' O' .refl rfl (w.back r) e
  | bk => exact fun σ' H' O' r e => hp bs σ' H' O' .refl rfl (w.back r) e
  | ct => exact fun σ' H' O' r e => hp bs σ' H' O' .refl rfl (w.back r) e
  | rt d => exact fun v H' s hv => hp bs v H' .refl (w.frm' s) (hv.less fun c hc => .inl hc)
theorem ssw_seq (h1 : SSw K t w1) (h2 : SSw K u w2) : SSw K (tSeq t u) (wSeq w1 w2) := fun {a ns bs H0 O0 O σ H ρ} w Q hQ D p => by
  refine h1 w _ hQ _ fun fl n ρ' hq => ?_
  cases fl with
  | nx => exact fun bs' σ' H' O' x l r e => h2 r Q (by rw [l]; exact hq) D fun fl2 n2 ρ2 hq2 => (p fl2 n2 ρ2 hq2).evo x e
  | bk => exact p .bk n ρ' hq
  | ct => exact p .ct n ρ' hq
  | rt d => exact p (.rt d) n ρ' hq
theorem ssw_if {tt : TT} {ft : FT} (ht : ∀ A, ST K A tt ft) (h1 : SSw K t w1) (h2 : SSw K u w2) : SSw K (tIfS tt t u) (wIf ft w1 w2) := fun {a ns bs H0 O0 O σ H ρ} w Q hQ D p => by
  obtain ⟨b, hb, hQ⟩ := hQ
  refine ht (Abx a bs) w.r b hb _ fun H1 e1 => ?_
  have w1' := w.wm (.same e1)
  cases b with
  | true => exact iteT (h1 w1' Q hQ D fun fl n ρ' hq => (p fl n ρ' hq).evo .refl (.same e1))
  | false => exact iteF (h2 w1' Q (by simpa using hQ) D fun fl n ρ' hq => (p fl n ρ' hq).evo .refl (.same e1))
theorem ssw_asg {te : TE} {we : WE} {tg : TG} {gg : PyData → List Sl → Option (List Sl)} {ws : List Nat} (he : SW K te we) (hg : ∀ A, SG K A tg gg ws) : SSw K (tAsg te tg) (wAsg we gg) := fun {a ns bs H0 O0 O σ H ρ} w Q hQ D p => by
  refine he w _ hQ _ fun v d H1 m1 hv hQ1 => ?_
  obtain ⟨ρ1, h1, h2⟩ := hQ1
  have w1 := w.wm m1
  exact hg (Abx a bs) w1.lift hv ρ1 h1 _ fun σ' r _ _ _ => p .nx _ ρ1 h2 bs σ' H1 O .refl rfl (w1.back r) (w.evo m1)
theorem ssw_for {wi : TI} {ww : WA} {tg : TG} {gg : PyData → List Sl → Option (List Sl)} {ws : List Nat} (hi : SIW K wi ww) (hg : ∀ A, SG K A tg gg ws) (hb : SSw K t w1) : SSw K (tFor wi tg t) (wFor ww gg w1) := fun {a ns bs H0 O0 O σ H ρ} w Q hQ D p => by
  refine hi w _ hQ _ fun J ds H1 m1 wk hQ1 => ?_
  obtain ⟨G, Y, wl, hw⟩ := wk
  refine for_it wl (D := D) (fun i σ' H' => ∃ bs' O' ρ', Ext bs bs' ∧ RW K a ns bs' H0 O0 O' σ' H' ρ' ∧ Evo O H1 O' H' ∧ wLoop gg w1 (ds.drop i) bs'.length ρ' Q) ⟨bs, O, ρ, .refl, w.wm m1, .refl, hQ1⟩ (fun i σ' H' _ hP => ?_) (fun i x σ' H' H2 hi hP hy => ?_) (fun σ' H' hP => ?_)
  · obtain ⟨bs', O', ρ', _, r', ev, _⟩ := hP
    exact (hw O' H' r'.r.owl ev).1
  · obtain ⟨bs', O', ρ', x', r', ev, hl⟩ := hP
    obtain ⟨e2, d, hd, hx⟩ := (hw O' H' r'.r.owl ev).2 i x H2 hi hy
    have hdr : ds.drop i = d :: ds.drop (i + 1) := by
      obtain ⟨hlt, rfl⟩ := List.getElem?_eq_some_iff.mp hd
      exact List.drop_eq_getElem_cons hlt
    rw [hdr] at hl
    obtain ⟨ρ1, h3, h4⟩ := hl
    have r2 := r'.wm (.same e2)
    have hx' : Fd K (Abx a bs') O' H2 x d := hx.amo fun f kvs h => by
      obtain ⟨t, rfl⟩ := x'
      rcases h with h | ⟨k, h1, h2⟩
      · exact .inl h
      · exact .inr ⟨k, h1, by rw [List.getElem?_append_left (List.getElem?_eq_some_iff.mp h2).1]; exact h2⟩
    refine hg (Abx a bs') r2.lift hx' ρ1 h3 _ fun σ2 r3 _ _ _ => ?_
    have ev2 : Evo O H1 O' H2 := ev.trans (.same e2)
    refine hb (r2.back r3) _ h4 _ fun fl n2 ρ2 hq => ?_
    cases fl with
    | nx => exact fun b3 σ3 H3 O3 x3 l3 r3 ev3 => ⟨b3, O3, ρ2, x'.trans x3, r3, ev2.trans ev3, by rw [l3]; exact hq⟩
    | ct => exact fun b3 σ3 H3 O3 x3 l3 r3 ev3 => ⟨b3, O3, ρ2, x'.trans x3, r3, ev2.trans ev3, by rw [l3]; exact hq⟩
    | bk => exact fun b3 σ3 H3 O3 x3 l3 r3 ev3 => p .nx n2 ρ2 hq b3 σ3 H3 O3 (x'.trans x3) l3 r3 ((w.evo m1).trans (ev2.trans ev3))
    | rt d' => exact fun b3 v H3 x3 s3 hv => p (.rt d') n2 ρ2 hq b3 v H3 (x'.trans x3) s3 hv
  · obtain ⟨bs', O', ρ', x', r', ev, hl⟩ := hP
    rw [List.drop_length] at hl
    exact p .nx _ ρ' hl bs' σ' H' O' x' rfl r' ((w.evo m1).trans ev)
/-! ### new boxes -/
def wBox (wa : WA) (i : Nat) : WS := fun n ρ Q => noOwn ρ = true ∧ wa ρ fun ds => ∃ k : Nat, ds = [.dict [], .int (k : Int)] ∧ Q .nx (n + 1) (ρ.set i (.val (.dict (tagB n))))
theorem abx_scr {f : Addr} (h : Abx a bs f []) : f = a := by
  rcases h with ⟨_, h⟩ | ⟨j, h1, _⟩
  · exact h
  · cases h1
theorem ssw_box {E : XK} {tas : TA} {was : WA} {i : Nat} (h : SWs K tas was) : SSw K (tAsg (tCall (spBox K) [] E tas) (gName i)) (wBox was i) := fun {a ns bs H0 O0 O σ H ρ} w Q hQ D p => by
  obtain ⟨hn, hQ⟩ := hQ
  refine h w _ hQ _ fun vs ds H1 m1 hvs hQ1 => ?_
  obtain ⟨k, rfl, hQ2⟩ := hQ1
  obtain ⟨v, ws, rfl, h1, h2⟩ := hvs.head
  obtain ⟨u, rfl, h3⟩ := one_inv h2
  cases h3.int_inv
  cases h1 with
  | @fn f kvs hA =>
    cases abx_scr hA
    have w1 := w.wm m1
    refine ⟨_, ns, k, rfl, w1.scrH, fun b d H2 e2 hb hB => ?_⟩
    have w2 := w1.more hn e2 hb hB
    have hv : Fd K (Abx a (bs ++ [b])) (Osn O b) H2 (.ref b) (.dict (tagB bs.length)) := .fn (.inr ⟨bs.length, rfl, by simp⟩)
    exact sg_name (K := K) (A := Abx a (bs ++ [b])) i w2.lift hv _ rfl _ fun σ' r _ _ _ => p .nx _ _ hQ2 _ σ' H2 (Osn O b) ⟨[b], rfl⟩ (by simp) (w2.back r) ((w.evo m1).trans (evo_more e2 hb))
/-- a generator with its kind and its box -/
def wSome (wa : WA) (i j k : Nat) : WS := fun n ρ Q => noOwn ρ = true ∧ wa ρ fun ds => ∃ m : Nat, ds = [.dict [], .int (m : Int)] ∧ ∀ g kd, OkG 6 g → GenK g kd → OkK 3 kd → NeK kd → CapG (2 ^ 2 * baseK kd) g →
  Q .nx (n + 1) (((ρ.set i (.val g.data)).set j (.val kd.data)).set k (.val (.dict (tagB n))))
theorem ssw_some {E : XK} {tas : TA} {was : WA} {i j k : Nat} (h : SWs K tas was) : SSw K (tAsg (tCall (spLSome K) [] E tas) (gTup K 3 (gCons (gName i) (gCons (gName j) (gCons (gName k) gNil))))) (wSome was i j k) := fun {a ns bs H0 O0 O σ H ρ} w Q hQ D p => by
  obtain ⟨hn, hQ⟩ := hQ
  refine h w _ hQ _ fun vs ds H1 m1 hvs hQ1 => ?_
  obtain ⟨m, rfl, hQ2⟩ := hQ1
  obtain ⟨v, ws, rfl, h1, h2⟩ := hvs.head
  obtain ⟨u, rfl, h3⟩ := one_inv h2
  cases h3.int_inv
  cases h1 with
  | @fn f kvs hA =>
    cases abx_scr hA
    have w1 := w.wm m1
    refine ⟨_, ns, m, rfl, w1.scrH, fun q v u b d g kd H2 e2 hb hB hq hv hu hg hgk hk hne hcap => ?_⟩
    have w2 := w1.more hn e2 hb hB
    have hbx : Fd K (Abx a (bs ++ [b])) (Osn O b) H2 (.ref b) (.dict (tagB bs.length)) := .fn (.inr ⟨bs.length, rfl, by simp⟩)
    have ht : Fd K (Abx a (bs ++ [b])) (Osn O b) H2 (.ref q) (.tuple [g.data, kd.data, .dict (tagB bs.length)]) := (Fds.cons (.of_vd hv) (.cons (.of_vd hu) (.cons hbx .nil))).tup (.inl (.inl hq))
    exact sg_tup (K := K) (A := Abx a (bs ++ [b])) 3 (sgs_cons (sg_name i) (sgs_cons (sg_name j) (sgs_cons (sg_name k) sgs_nil))) w2.lift ht _ rfl _ fun σ' r _ _ _ => p .nx _ _ (hQ2 g kd hg hgk hk hne hcap) _ σ' H2 (Osn O b) ⟨[b], rfl⟩ (by simp) (w2.back r) ((w.evo m1).trans (evo_more e2 hb))
end
end Sm
set_option maxRecDepth 10000000
/-! a law's turns -/
namespace Sm
open PySem PySem.Spec PyProof.Rows L2 Evl CrT Cr
abbrev WO := List Sl → (Option Int → Prop) → Prop
def SOW (K : PySem.W.Frag) (t : TO) (w : WO) : Prop := ∀ {a : Addr} {ns : List Int} {bs : List Addr} {H0 : Hp} {O0 O : Addr → Prop} {σ : L2.St} {H : Hp} {ρ : List Sl}, RW K a ns bs H0 O0 O σ H ρ → ∀ Q, w ρ Q → ∀ Q' : Option Int → Hp → Prop, (∀ o H', WM bs H H' → Q o → Q' o H') → t σ H Q'
def wNoPart : WO := fun _ Q => Q none
def wPart (we : WE) : WO := fun ρ Q => we ρ fun d => ∃ i, d = .int i ∧ Q (some i)
def wSl (g : PyData → Option Int → Option Int → Option PyData) (we : WE) (wl wh : WO) : WE := fun ρ Q => we ρ fun d => wl ρ fun l => wh ρ fun u => ∃ c, g d l u = some c ∧ Q c
theorem sow_none {K : PySem.W.Frag} : SOW K tNoPart wNoPart := fun w Q hQ Q' q => q none _ .refl hQ
theorem sow_some {K : PySem.W.Frag} {te : TE} {we : WE} (h : SW K te we) : SOW K (tPart te) (wPart we) := fun w Q hQ Q' q => by
  refine h w _ hQ _ fun v d H1 m1 hv hQ1 => ?_
  obtain ⟨i, rfl, hQ2⟩ := hQ1
  exact ⟨_, hv.int_inv, q _ H1 m1 hQ2⟩
theorem sw_sl {K : PySem.W.Frag} {te : TE} {we : WE} {tl th : TO} {wl wh : WO} {r : V → Option Int → Option Int → Hp → VK → Prop} {g : PyData → Option Int → Option Int → Option PyData} (h : SW K te we) (hl : SOW K tl wl) (hh : SOW K th wh) (hr : ∀ A, RS K A r g) : SW K (tSl r te tl th) (wSl g we wl wh) := fun {a ns bs H0 O0 O σ H ρ} w Q hQ Q' q => by
  refine h w _ hQ _ fun x d H1 m1 hx hQ1 => ?_
  have w1 := w.wm m1
  refine hl w1 _ hQ1 _ fun l H2 m2 hQ2 => ?_
  have w2 := w1.wm m2
  refine hh w2 _ hQ2 _ fun u H3 m3 hQ3 => ?_
  have w3 := w2.wm m3
  obtain ⟨c, hc, hQ4⟩ := hQ3
  exact hr (Abx a bs) w3.r.owl ((hx.evo w1.r.owl (w1.evo m2)).evo w2.r.owl (w2.evo m3)) l u c hc _ fun v H4 e4 hv => q v c H4 (((m1.trans m2).trans m3).trans (.same e4)) hv hQ4
def LInv (K : PySem.W.Frag) (a : Addr) (ns : List Int) (N : Nat) (σ : L2.St) (H : Hp) : Prop := σ.length = N ∧ σ[0]? = some (some (V.ref a)) ∧ SqL K H a (ns.map V.int) ∧ ns.length ≤ 63
def QL (N : Nat) : Fl → Nat → List Sl → Prop := fun fl _ ρ' => (match fl with
  | .nx => True
  | .ct => True
  | _ => False) ∧ ρ'.length = N ∧ ρ'[0]? = some (.val (.dict []))
def rho0 (N : Nat) (i : Int) : List Sl := .val (.dict []) :: .val (.int i) :: List.replicate (N - 2) .un
section
variable {K : PySem.W.Frag} {a : Addr} {ns : List Int} {N : Nat} {σ : L2.St} {H : Hp}
theorem rw_start (inv : LInv K a ns N σ H) (hN : 2 ≤ N) (i : Int) : RW K a ns [] H O0 O0 (σ.set 1 (some (.int i))) H (rho0 N i) := by
  obtain ⟨h1, h2, h3, h63⟩ := inv
  refine ⟨⟨by unfold rho0; rw [List.length_set, h1, List.length_cons, List.length_cons, List.length_replicate]; omega, fun j d hj => ?_, fun j ds hj => ?_, fun j k ds es p hj => ?_, owl0, .refl _, fun _ h => h, owl0⟩, h3, h63, fun b hb => nomatch hb⟩
  · match j with
    | 0 =>
      cases hj
      exact ⟨_, by rw [List.getElem?_set_ne (by decide)]; exact h2, .fn (.inl ⟨rfl, rfl⟩)⟩
    | 1 =>
      cases hj
      exact ⟨.int i, by rw [List.getElem?_set, if_pos rfl, if_pos (by omega)], .int i⟩
    | j + 2 =>
      have hj : (List.replicate (N - 2) Sl.un)[j]? = some (Sl.val d) := hj
      rw [List.getElem?_replicate] at hj
      split at hj <;> cases hj
  all_goals
    match j with
    | 0 => cases hj
    | 1 => cases hj
    | j + 2 =>
      have hj : (List.replicate (N - 2) Sl.un)[j]? = some (Sl.own ds) := hj
      rw [List.getElem?_replicate] at hj
      split at hj <;> cases hj
theorem law_step {tb : TS} {wb : WS} {D : Ends} {i : Int} (hb : SSw K tb wb) (inv : LInv K a ns N σ H) (hN : 2 ≤ N) (hw : wb 0 (rho0 N i) (QL N)) (hnx : ∀ σ' H', LInv K a ns N σ' H' → D.nx σ' H') (hct : ∀ σ' H', LInv K a ns N σ' H' → D.ct σ' H') : gName 1 (.int i) σ H fun σ2 H2 => tb D σ2 H2 := by
  have w := rw_start inv hN i
  have fin : ∀ {bs' σ' H' O' ρ'}, RW K a ns bs' H O0 O' σ' H' ρ' → ρ'.length = N → ρ'[0]? = some (Sl.val (.dict [])) → LInv K a ns N σ' H' := fun r l h => by
    obtain ⟨v, h1, h2⟩ := r.r.val 0 _ h
    cases h2 with
    | fn hA =>
      cases abx_scr hA
      exact ⟨by rw [r.r.len, l], h1, r.scrH, r.len63⟩
  refine hb w (QL N) hw D fun fl n ρ' hq => ?_
  obtain ⟨hfl, hl, h0⟩ := hq
  cases fl with
  | nx => exact fun bs' σ' H' O' _ _ r _ => hnx σ' H' (fin r hl h0)
  | ct => exact fun bs' σ' H' O' _ _ r _ => hct σ' H' (fin r hl h0)
  | bk => exact hfl.elim
  | rt d => exact hfl.elim
/-! ### a law's body whole -/
def rhoE (N : Nat) : List Sl := .val (.dict []) :: List.replicate (N - 1) .un
def QT : Fl → Nat → List Sl → Prop := fun fl _ _ => match fl with
  | .rt (.bool true) => True
  | _ => False
theorem rw_startE (inv : LInv K a ns N σ H) (hN : 1 ≤ N) : RW K a ns [] H O0 O0 σ H (rhoE N) := by
  obtain ⟨h1, h2, h3, h63⟩ := inv
  refine ⟨⟨by unfold rhoE; rw [h1, List.length_cons, List.length_replicate]; omega, fun j d hj => ?_, fun j ds hj => ?_, fun j k ds es p hj => ?_, owl0, .refl _, fun _ h => h, owl0⟩, h3, h63, fun b hb => nomatch hb⟩
  · match j with
    | 0 =>
      cases hj
      exact ⟨_, h2, .fn (.inl ⟨rfl, rfl⟩)⟩
    | j + 1 =>
      have hj : (List.replicate (N - 1) Sl.un)[j]? = some (Sl.val d) := hj
      rw [List.getElem?_replicate] at hj
      split at hj <;> cases hj
  all_goals
    match j with
    | 0 => cases hj
    | j + 1 =>
      have hj : (List.replicate (N - 1) Sl.un)[j]? = some (Sl.own ds) := hj
      rw [List.getElem?_replicate] at hj
      split at hj <;> cases hj
theorem rw_fin {bs' : List Addr} {σ' : L2.St} {H0 H' : Hp} {O' : Addr → Prop} {ρ' : List Sl} (r : RW K a ns bs' H0 O0 O' σ' H' ρ') (l : ρ'.length = N) (h : ρ'[0]? = some (Sl.val (.dict []))) : LInv K a ns N σ' H' := by
  obtain ⟨v, h1, h2⟩ := r.r.val 0 _ h
  cases h2 with
  | fn hA =>
    cases abx_scr hA
    exact ⟨by rw [r.r.len, l], h1, r.scrH, r.len63⟩
theorem law_for {wi : TI} {ww : WA} {tg : TG} {gg : PyData → List Sl → Option (List Sl)} {ws : List Nat} {tb : TS} {wb : WS} {D : Ends} (hN : 1 ≤ N) (hi : SIW K wi ww) (hg : ∀ A, SG K A tg gg ws) (hb : SSw K tb wb) (inv : LInv K a ns N σ H)
    (hww : ww (rhoE N) fun ds => ∀ d ∈ ds, ∃ ρ1, gg d (rhoE N) = some ρ1 ∧ wb 0 ρ1 (QL N)) (hnx : ∀ σ' H', LInv K a ns N σ' H' → D.nx σ' H') : tFor wi tg tb D σ H := by
  refine hi (rw_startE inv hN) _ hww _ fun J ds H1 m1 wk hQ1 => ?_
  obtain ⟨G, Y, wl, hw⟩ := wk
  have s1 : Same H H1 := fun c o h => m1.1 c o (fun hc => nomatch hc) h
  refine for_it wl (D := D) (fun i σ' H' => LInv K a ns N σ' H' ∧ Same H1 H') ⟨?_, .refl _⟩ (fun i σ' H' _ hP => ?_) (fun i x σ' H' H2 hi' hP hy => ?_) (fun σ' H' hP => hnx σ' H' hP.1)
  · exact ⟨inv.1, inv.2.1, s1.seq inv.2.2.1, inv.2.2.2⟩
  · exact (hw O0 H' owl0 (.same hP.2)).1
  · obtain ⟨hL, hS⟩ := hP
    obtain ⟨e2, d, hd, hx⟩ := (hw O0 H' owl0 (.same hS)).2 i x H2 hi' hy
    obtain ⟨ρ1, h3, h4⟩ := hQ1 d (List.mem_of_getElem? hd)
    have hL2 : LInv K a ns N σ' H2 := ⟨hL.1, hL.2.1, e2.seq hL.2.2.1, hL.2.2.2⟩
    have w2 := rw_startE hL2 hN
    refine hg (Abx a []) w2.lift hx ρ1 h3 _ fun σ2 r3 _ _ _ => ?_
    refine hb (w2.back r3) (QL N) h4 _ fun fl n ρ' hq => ?_
    obtain ⟨hfl, hl, h0⟩ := hq
    have key : ∀ bs' σ' H' O', RW K a ns bs' H2 O0 O' σ' H' ρ' → Evo O0 H2 O' H' → LInv K a ns N σ' H' ∧ Same H1 H' := fun bs' σ' H' O' r ev => ⟨rw_fin r hl h0, (hS.trans e2).trans fun c o h => (ev c o h (fun z => z)).1⟩
    cases fl with
    | nx => exact fun bs' σ' H' O' _ _ r ev => key bs' σ' H' O' r ev
    | ct => exact fun bs' σ' H' O' _ _ r ev => key bs' σ' H' O' r ev
    | bk => exact hfl.elim
    | rt d => exact hfl.elim
theorem law_tail {tb : TS} {wb : WS} {D : Ends} (hN : 1 ≤ N) (hb : SSw K tb wb) (inv : LInv K a ns N σ H) (hw : wb 0 (rhoE N) QT) (hrt : ∀ H', D.rt (.bl true) H') : tb D σ H := by
  refine hb (rw_startE inv hN) QT hw D fun fl n ρ' hq => ?_
  unfold QT at hq
  split at hq
  · exact fun bs' v H' _ _ hv => by
      rw [hv.bl_inv]
      exact hrt H'
  · exact hq.elim
theorem law_body {wi : TI} {ww : WA} {tg : TG} {gg : PyData → List Sl → Option (List Sl)} {ws : List Nat} {tb tt : TS} {wb wt : WS} {D : Ends} (hN : 1 ≤ N) (hi : SIW K wi ww) (hg : ∀ A, SG K A tg gg ws) (hb : SSw K tb wb) (ht : SSw K tt wt) (inv : LInv K a ns N σ H)
    (hww : ww (rhoE N) fun ds => ∀ d ∈ ds, ∃ ρ1, gg d (rhoE N) = some ρ1 ∧ wb 0 ρ1 (QL N)) (hwt : wt 0 (rhoE N) QT) (hrt : ∀ H', D.rt (.bl true) H') : tSeq (tFor wi tg tb) tt D σ H := by
  unfold tSeq
  exact law_for hN hi hg hb inv hww fun σ' H' inv' => show tt D σ' H' from law_tail hN ht inv' hwt hrt
/-- len(script) -/
def wLenS : WE := fun ρ Q => ρ[0]? = some (.val (.dict [])) ∧ ∀ n : Nat, n ≤ 63 → Q (.int n)
theorem sw_lenS {K : PySem.W.Frag} : SW K (tCB (rLenX K) (tCons (tVar 0) tNil)) wLenS := fun {a ns bs H0 O0 O σ H ρ} w Q hQ Q' q => by
  obtain ⟨v, h1, h2⟩ := w.r.val 0 _ hQ.1
  cases h2 with
  | fn hA =>
    cases abx_scr hA
    exact ⟨_, h1, _, ns.length, rfl, .inl ⟨_, w.scrH, by rw [List.length_map]⟩, q _ (.int ns.length) _ .refl (.int _) (hQ.2 ns.length w.len63)⟩
end
end Sm
set_option maxRecDepth 10000000
/-! dicts of one's own: the machine's side -/
namespace Sm
open PySem PySem.Spec PyProof.Rows L2 Evl CrT Cr
inductive NkV (K : PySem.W.Frag) (H : Hp) : NestedKey → V → Prop
  | num (i : Int) : NkV K H (.num i) (.int i)
  | text (x : Str) : NkV K H (.text x) (.str x)
  | tup {a : Addr} {xs : List V} {ks : List NestedKey} : SqT K H a xs → xs.length = ks.length → (∀ (i : Nat) v k, xs[i]? = some v → ks[i]? = some k → NkV K H k v) → NkV K H (.tup ks) (.ref a)
theorem nested_all {h : Heap} : ∀ {ks : List NestedKey} {xs : List V} {us : List Value}, Vals xs us → xs.length = ks.length → (∀ (i : Nat) v k, xs[i]? = some v → ks[i]? = some k → ∀ u, RelV v u → NestedIs h k u) → NestedAll h ks us
  | [], [], _, .nil, _, _ => .nil
  | k :: ks, x :: xs, _, .cons r t, hl, q => .cons (q 0 x k rfl rfl _ r) (nested_all t (by simpa using hl) fun i v k' h1 h2 => q (i + 1) v k' (by simpa using h1) (by simpa using h2))
  | [], _ :: _, _, _, hl, _ => by simp at hl
  | _ :: _, [], _, _, hl, _ => by simp at hl
section
variable {X : Cx} {pins : List (Addr × Obj)} {σ : L2.St} {H : Hp} {s : Shared}
theorem NkV.is (I : Inv X pins σ H s) {k : NestedKey} {v : V} (h : NkV X.K H k v) : ∀ u, RelV v u → NestedIs s.heap k u := by
  induction h with
  | num i => intro u r; obtain ⟨t, rfl⟩ := (show ∃ t, u = Value.int i t from r); exact .int _ _
  | text x => intro u r; obtain ⟨t, rfl⟩ := (show ∃ t, u = Value.str x t from r); exact .text _ _
  | tup hs hl _ ih =>
    intro u r
    cases (show u = _ from r)
    obtain ⟨its, rv, ⟨o, h1, h2, n, h3⟩, _⟩ := I.tuple hs
    exact .tup h1 h2 h3 (by simpa using nested_all rv hl fun i v k a b u r => ih i v k a b u r)
end
theorem Fd.nk {K : PySem.W.Frag} {A : Atm} {O : Addr → Prop} {H : Hp} {v : V} {d : PyData} (h : Fd K A O H v d) : ∀ k, keyN d = some k → NkV K H k v := by
  induction h with
  | non => intro k hk; simp [keyN] at hk
  | bl b => intro k hk; simp [keyN] at hk
  | int i => intro k hk; rw [keyN] at hk; cases hk; exact .num i
  | str x => intro k hk; rw [keyN] at hk; cases hk; exact .text x
  | @tup a xs ds hs hl _ ih =>
    intro k hk
    rw [keyN] at hk
    obtain ⟨ks, h1, rfl⟩ := Option.map_eq_some_iff.mp hk
    obtain ⟨l, q⟩ := keyNs_get h1
    refine .tup hs (by rw [hl, l]) fun i v k a b => ?_
    have hi := (List.getElem?_eq_some_iff.mp b).1
    obtain ⟨d, hd⟩ : ∃ d, ds[i]? = some d := ⟨ds[i]'(by rw [l] at hi; exact hi), List.getElem?_eq_getElem _⟩
    exact ih i v d a hd k (q i d k hd b)
  | lst => intro k hk; simp [keyN] at hk
  | fn => intro k hk; simp [keyN] at hk
/-- the dict at a, by entries with tuples as keys; an empty one is of both sorts -/
def DX (H : Hp) (a : Addr) (hw : NestedKey → Int) (ks : List (NestedKey × Addr × V)) : Prop := Rd H a (DxO hw a ks) ∨ (ks = [] ∧ Rd H a (.dK []))
/-- .. that is not locked -/
def DXu (H : Hp) (a : Addr) (hw : NestedKey → Int) (ks : List (NestedKey × Addr × V)) : Prop := H a = some (DxO hw a ks) ∨ (ks = [] ∧ H a = some (.dK []))
theorem DXu.dx {H : Hp} {a : Addr} {hw : NestedKey → Int} {ks : List (NestedKey × Addr × V)} (h : DXu H a hw ks) : DX H a hw ks := by
  rcases h with h | ⟨h1, h⟩
  · exact .inl (.inl h)
  · exact .inr ⟨h1, .inl h⟩
def valN (ks : List (NestedKey × Addr × V)) (k : NestedKey) : Option V := (ks.find? fun q => decide (q.1 = k)).map (·.2.2)
def putN (ks : List (NestedKey × Addr × V)) (k : NestedKey) (b : Addr) (v : V) : List (NestedKey × Addr × V) :=
  if (valN ks k).isSome then ks.map (fun q => if q.1 = k then (q.1, q.2.1, v) else q) else ks ++ [(k, b, v)]
abbrev KN : List (NestedKey × Addr × V) → List (NestedKey × Addr × Value) → Prop := Paired fun p q => p.1 = q.1 ∧ p.2.1 = q.2.1 ∧ RelV p.2.2 q.2.2
theorem KN.val {ks : List (NestedKey × Addr × V)} {xs : List (NestedKey × Addr × Value)} (r : KN ks xs) (k : NestedKey) : RelO (valN ks k) ((atKey xs k).map (·.2)) := by
  induction r with
  | nil => exact True.intro
  | @cons p q ps qs h t ih =>
    obtain ⟨h1, _, h2⟩ := h
    by_cases e : p.1 = k
    · have e' : q.1 = k := h1.symm.trans e
      have b : atKey (q :: qs) k = some q.2 := by simp [atKey, List.find?_cons, e']
      have c : valN (p :: ps) k = some p.2.2 := by simp [valN, List.find?_cons, e]
      rw [b, c]; exact h2
    · have e' : ¬ q.1 = k := fun z => e (h1.trans z)
      have b : atKey (q :: qs) k = atKey qs k := by simp [atKey, List.find?_cons, e']
      have c : valN (p :: ps) k = valN ps k := by simp [valN, List.find?_cons, e]
      rw [b, c]; exact ih
theorem KN.repl {ks : List (NestedKey × Addr × V)} {xs : List (NestedKey × Addr × Value)} (r : KN ks xs) (k : NestedKey) {y : V} {u : Value} (ry : RelV y u) :
    KN (ks.map fun q => if q.1 = k then (q.1, q.2.1, y) else q) (xs.map (putAt k u)) := by
  induction r with
  | nil => exact .nil
  | @cons p q ps qs h t ih =>
    rw [List.map_cons, List.map_cons]
    refine .cons ?_ ih
    obtain ⟨h1, h2, h3⟩ := h
    unfold putAt
    by_cases e : p.1 = k
    · rw [if_pos e, if_pos (h1.symm.trans e)]; exact ⟨h1, h2, ry⟩
    · rw [if_neg e, if_neg (fun z => e (h1.trans z))]; exact ⟨h1, h2, h3⟩
theorem KN.put {ks : List (NestedKey × Addr × V)} {xs : List (NestedKey × Addr × Value)} (r : KN ks xs) (k : NestedKey) (b : Addr) {y : V} {u : Value} (ry : RelV y u) : KN (putN ks k b y) (storedH xs k b u) := by
  have e : (valN ks k).isSome = (atKey xs k).isSome := by
    rw [(r.val k).isSome_eq, Option.isSome_map]
  unfold putN storedH
  rw [e]
  by_cases q : (atKey xs k).isSome = true
  · rw [if_pos q, if_pos q]; exact r.repl k ry
  · rw [if_neg q, if_neg q]; exact Paired.snoc r ⟨rfl, rfl, ry⟩
theorem KN.mem {ks : List (NestedKey × Addr × V)} {xs : List (NestedKey × Addr × Value)} {φ : NestedKey → Addr → Prop} (r : KN ks xs) (h : ∀ q ∈ ks, φ q.1 q.2.1) : ∀ x ∈ xs, φ x.1 x.2.1 := by
  induction r with
  | nil => intro x hx; exact nomatch hx
  | @cons p q ps qs h' t ih =>
    intro x hx
    obtain ⟨h1, h2, _⟩ := h'
    rcases List.mem_cons.mp hx with rfl | hx
    · rw [← h1, ← h2]; exact h p List.mem_cons_self
    · exact ih (fun q hq => h q (List.mem_cons_of_mem _ hq)) x hx
theorem putN_len (ks : List (NestedKey × Addr × V)) (k : NestedKey) (b : Addr) (v : V) : (putN ks k b v).length ≤ ks.length + 1 := by
  unfold putN
  split
  · rw [List.length_map]; omega
  · rw [List.length_append]; exact Nat.le_refl _
def KOk (K : PySem.W.Frag) (H : Hp) (ks : List (NestedKey × Addr × V)) : Prop := ∀ q ∈ ks, q.1.depth ≤ 8 ∧ NkV K H q.1 (.ref q.2.1)
section
variable {X : Cx} {pins : List (Addr × Obj)} {σ : L2.St} {H : Hp} {s : Shared} {a b : Addr} {ks : List (NestedKey × Addr × V)} {k : NestedKey} {v d : V} {u r : Value} {A : Around} {E : Value → Shared → Prop}
theorem dx_of (I : Inv X pins σ H s) (e : DX H a (NestedKey.hash X.w) ks) (hk : KOk X.K H ks) : ks.length ≤ sizeLine ∧ (a == sysModules) = false ∧ ∃ xs, KN ks xs ∧ s.heap.DictOfH (nestedKind X.prog X.w) a xs := by
  rcases e with e | ⟨rfl, e⟩
  · obtain ⟨⟨z, hs, xs, pr, o, es, ep, h1, h2, h3, h4, h5⟩, _⟩ := (show ObjOk X.prog X.w H s.heap a (DxO (NestedKey.hash X.w) a ks) from rd_of I.hok e)
    exact ⟨z, hs, xs, pr, o, es, ep, h1, h2, h3, h4, KN.mem (φ := fun k b => (nestedKind X.prog X.w).is s.heap k b) pr fun q hq => ⟨(hk q hq).2.is I _ rfl, (hk q hq).1⟩, h5⟩
  · obtain ⟨z, hs, vs, rel, o, es, ep, h1, h2, h3, h4, h5, h6⟩ := dk_rd I.hok e
    cases rel
    refine ⟨Nat.zero_le _, hs, [], .nil, o, es, ep, h1, h2, h3, ?_, by simp, by simp⟩
    have : es.toList = [] := by
      generalize es.toList = l at h5
      cases h5
      rfl
    rw [this]
    rfl
theorem dx_in {Q : Value → Shared → Prop} (hu : A.in1.units + 8 < cLine) (I : Inv X pins σ H s) (g : DX H a (NestedKey.hash X.w) ks) (hk : KOk X.K H ks) (kb : NkV X.K H k (.ref b)) (k8 : k.depth ≤ 8) (h : ∀ s', Inv X pins σ H s' → Q (.bool (valN ks k).isSome) s') :
    wpAny (model X.prog X.w) A (compareOp .In (.ref b) (.ref a)) Q E s := by
  obtain ⟨z, hd, xs, rel, dd⟩ := dx_of I g hk
  refine wpAny_in_heap (knd := nestedKind X.prog X.w) hu ⟨kb.is I _ rfl, k8⟩ hd dd ?_
  have q := (rel.val k).isSome_eq
  rw [Option.isSome_map] at q
  rw [← q]
  exact h _ (I.tok _)
theorem dx_notIn {Q : Value → Shared → Prop} (hu : A.in1.units + 8 < cLine) (I : Inv X pins σ H s) (g : DX H a (NestedKey.hash X.w) ks) (hk : KOk X.K H ks) (kb : NkV X.K H k (.ref b)) (k8 : k.depth ≤ 8) (h : ∀ s', Inv X pins σ H s' → Q (.bool (!(valN ks k).isSome)) s') :
    wpAny (model X.prog X.w) A (compareOp .NotIn (.ref b) (.ref a)) Q E s := by
  obtain ⟨z, hd, xs, rel, dd⟩ := dx_of I g hk
  refine wpAny_notIn_heap (knd := nestedKind X.prog X.w) hu ⟨kb.is I _ rfl, k8⟩ hd dd ?_
  have q := (rel.val k).isSome_eq
  rw [Option.isSome_map] at q
  rw [← q]
  exact h _ (I.tok _)
theorem dx_get {Q : Value → Shared → Prop} (hu : A.in1.units + 8 < cLine) (I : Inv X pins σ H s) (g : DX H a (NestedKey.hash X.w) ks) (hk : KOk X.K H ks) (kb : NkV X.K H k (.ref b)) (k8 : k.depth ≤ 8) (l : valN ks k = some v) (h : ∀ w' s', Inv X pins σ H s' → RelV v w' → Q w' s') :
    wpAny (model X.prog X.w) A (getItem (.ref a) (.ref b)) Q E s := by
  obtain ⟨z, hd, xs, rel, dd⟩ := dx_of I g hk
  obtain ⟨w', hw, rw'⟩ := RelO.some_of (v := v) (o := (atKey xs k).map (·.2)) (by rw [← l]; exact rel.val k)
  obtain ⟨p, hp, hp2⟩ := Option.map_eq_some_iff.mp hw
  refine wpAny_getItem_heap (knd := nestedKind X.prog X.w) hu ⟨kb.is I _ rfl, k8⟩ dd hp ?_
  rw [hp2]
  exact h w' _ (I.tok _) rw'
theorem dx_get1 {Q : Value → Shared → Prop} (hu : A.in1.units + 8 < cLine) (I : Inv X pins σ H s) (g : DX H a (NestedKey.hash X.w) ks) (hk : KOk X.K H ks) (kb : NkV X.K H k (.ref b)) (k8 : k.depth ≤ 8) (h : ∀ w' s', Inv X pins σ H s' → RelV ((valN ks k).getD .non) w' → Q w' s') :
    wpAny (model X.prog X.w) A (call (.builtin "dict.get") [.ref a, .ref b]) Q E s := by
  obtain ⟨z, hd, xs, rel, dd⟩ := dx_of I g hk
  refine call_meetsIn PySem.F.slot_dict_get dd.typeIs PySem.F.entry_dict_get (PySem.F.args_dict_get_2 _ _) (meetsH_dict_get (nestedKind X.prog X.w) a b hd) ⟨hu, k, xs, ⟨kb.is I _ rfl, k8⟩, dd, h _ _ (I.tok _) ?_⟩
  exact (rel.val k).getD rfl
theorem dx_get2 {Q : Value → Shared → Prop} (hu : A.in1.units + 8 < cLine) (I : Inv X pins σ H s) (g : DX H a (NestedKey.hash X.w) ks) (hk : KOk X.K H ks) (kb : NkV X.K H k (.ref b)) (k8 : k.depth ≤ 8) (rd : RelV d r) (h : ∀ w' s', Inv X pins σ H s' → RelV ((valN ks k).getD d) w' → Q w' s') :
    wpAny (model X.prog X.w) A (call (.builtin "dict.get") [.ref a, .ref b, r]) Q E s := by
  obtain ⟨z, hd, xs, rel, dd⟩ := dx_of I g hk
  refine call_meetsIn PySem.F.slot_dict_get dd.typeIs PySem.F.entry_dict_get (PySem.F.args_dict_get_3 _ _ _) (meetsH_dict_get_default (nestedKind X.prog X.w) a b hd r) ⟨hu, k, xs, ⟨kb.is I _ rfl, k8⟩, dd, h _ _ (I.tok _) ?_⟩
  exact (rel.val k).getD rd
theorem DXu.mut (g : DXu H a (NestedKey.hash X.w) ks) : Mut (H a) := by
  rcases g with e | ⟨_, e⟩
  · rw [e]; trivial
  · rw [e]; trivial
theorem dx_put {Q : Unit → Shared → Prop} (hu : A.in1.units + 8 < cLine) (I : Inv X pins σ H s) (g : DXu H a (NestedKey.hash X.w) ks) (hk : KOk X.K H ks) (kb : NkV X.K H k (.ref b)) (k8 : k.depth ≤ 8) (l : ks.length < sizeLine) (rv : RelV v r)
    (h : ∀ s', Inv X pins σ (upd H a (DxO (NestedKey.hash X.w) a (putN ks k b v))) s' → Q () s') : wpAny (model X.prog X.w) A (setItem (.ref a) (.ref b) r) Q E s := by
  obtain ⟨z, hd, xs, rel, dd⟩ := dx_of I g.dx hk
  have hz : xs.length ≤ sizeLine := by rw [← Paired.length rel]; exact z
  have hl : (putN ks k b v).length ≤ sizeLine := by have := putN_len ks k b v; omega
  refine wpAny_setItem_heap (hsz := hz) (knd := nestedKind X.prog X.w) hu ⟨kb.is I _ rfl, k8⟩ dd fun h' dd' hs => h _ ?_
  obtain ⟨q, es, ep, hq, h2, h3, h4, _, h5⟩ := dd'
  refine d_write I g.mut hs ⟨q, hq⟩ ⟨⟨hl, hd, _, rel.put k b rv, q, es, ep, hq, h2, h3, h4, h5⟩, ⟨q, hq⟩, ?_⟩
  rintro h1 h2 ⟨a1, a2, ys, a3, o, es', ep', a4, a5⟩ hk2
  exact ⟨a1, a2, ys, a3, o, es', ep', hk2 o a4, a5⟩
end
end Sm
set_option maxRecDepth 10000000
/-! dicts of one's own: rules for both sorts of keys -/
namespace Sm
open PySem PySem.Spec PyProof.Rows L2 Evl CrT Cr
def DGW (w : World) (K : PySem.W.Frag) (H : Hp) (a : Addr) (y : V) (r : Option V) : Prop := DGet H a y r ∨ ∃ ks k b, DX H a (NestedKey.hash w) ks ∧ KOk K H ks ∧ y = .ref b ∧ NkV K H k (.ref b) ∧ k.depth ≤ 8 ∧ r = valN ks k
def DPW (w : World) (K : PySem.W.Frag) (H : Hp) (a : Addr) (y v : V) (H' : Hp) : Prop := DPut H a y v H' ∨ ∃ ks k b, DXu H a (NestedKey.hash w) ks ∧ KOk K H ks ∧ y = .ref b ∧ NkV K H k (.ref b) ∧ k.depth ≤ 8 ∧ ks.length < sizeLine ∧ H' = upd H a (DxO (NestedKey.hash w) a (putN ks k b v))
section
variable {X : Cx} {pins : List (Addr × Obj)} {σ : L2.St} {H : Hp} {s : Shared} {a : Addr} {y v : V} {r : Option V}
theorem dgw_is (I : Inv X pins σ H s) (g : DGW X.w X.K H a y r) : s.TypeIs (.ref a) "dict" ∧ (∀ b, Value.ref a = .ref b → ∃ ob, s.heap.get? b = some ob ∧ ob.dict = none) := by
  rcases g with g | ⟨ks, k, b, g, hk, _⟩
  · exact ⟨dict_typeIs I g, dict_noDict I g⟩
  · obtain ⟨_, hd, xs, _, dd⟩ := dx_of I g hk
    refine ⟨dd.typeIs, fun b q => ?_⟩
    cases q
    obtain ⟨ob, _, _, h1, h2, _⟩ := dd
    exact ⟨ob, h1, h2.2.1⟩
end
def rInW (w : World) (K : PySem.W.Frag) : R2 := fun x y H Q => ∃ a o, y = .ref a ∧ DGW w K H a x o ∧ Q (.bl o.isSome) H
def rNiW (w : World) (K : PySem.W.Frag) : R2 := fun x y H Q => ∃ a o, y = .ref a ∧ DGW w K H a x o ∧ Q (.bl (!o.isSome)) H
def tDGetW (w : World) (K : PySem.W.Frag) (td ty : TE) : TE := fun σ H Q => td σ H fun x H1 => ty σ H1 fun y H2 => ∃ a v, x = .ref a ∧ DGW w K H2 a y (some v) ∧ Q v H2
def IsDW (w : World) (K : PySem.W.Frag) (H : Hp) (a : Addr) : Prop := ∃ y r, DGW w K H a y r
def tDGet1W (w : World) (K : PySem.W.Frag) (td ty : TE) : TE := fun σ H Q => td σ H fun x H1 => ∃ a, x = .ref a ∧ IsDW w K H1 a ∧ ty σ H1 fun y H2 => ∃ o, DGW w K H2 a y o ∧ Q (o.getD .non) H2
def tDGet2W (w : World) (K : PySem.W.Frag) (td ty tx : TE) : TE := fun σ H Q => td σ H fun x H1 => ∃ a, x = .ref a ∧ IsDW w K H1 a ∧ ty σ H1 fun y H2 => tx σ H2 fun z H3 => ∃ o, DGW w K H3 a y o ∧ Q (o.getD z) H3
def sDPutW (w : World) (K : PySem.W.Frag) (td ty tv : TE) : TS := fun D σ H => tv σ H fun v H1 => td σ H1 fun x H2 => ty σ H2 fun y H3 => ∃ a H4, x = .ref a ∧ DPW w K H3 a y v H4 ∧ D.nx σ H4
section
variable {X : Cx}
theorem op_inW (hu : X.A.units + 65 < cLine) : OpR X (compareOp .In) (rInW X.w X.K) := fun pins s σ H x y v u Q I rx ry h => by
  obtain ⟨a, o, rfl, g, q⟩ := h
  cases (show u = Value.ref a from ry)
  rcases g with g | ⟨ks, k, b, g, hk, rfl, kb, k8, rfl⟩
  · exact d_in (by omega) I g rx fun s' I' => ⟨.bl _, H, I', rfl, q⟩
  · cases (show v = Value.ref b from rx)
    exact dx_in (by rw [Around.in1_units]; omega) I g hk kb k8 fun s' I' => ⟨.bl _, H, I', rfl, q⟩
theorem op_niW (hu : X.A.units + 65 < cLine) : OpR X (compareOp .NotIn) (rNiW X.w X.K) := fun pins s σ H x y v u Q I rx ry h => by
  obtain ⟨a, o, rfl, g, q⟩ := h
  cases (show u = Value.ref a from ry)
  rcases g with g | ⟨ks, k, b, g, hk, rfl, kb, k8, rfl⟩
  · exact d_notIn (by omega) I g rx fun s' I' => ⟨.bl _, H, I', rfl, q⟩
  · cases (show v = Value.ref b from rx)
    exact dx_notIn (by rw [Around.in1_units]; omega) I g hk kb k8 fun s' I' => ⟨.bl _, H, I', rfl, q⟩
variable {o i e f value : Expr} {pos pos' apos cpos : Pos} {td ty tv tx : TE}
theorem pe_dgetW (hu : X.A.units + 65 < cLine) (ho : PE X o td) (hi : PE X i ty) (hs : NoSl i) : PE X (.Subscript o i pos) (tDGetW X.w X.K td ty) := by
  refine ⟨fun pins s σ H Q I h => ?_⟩
  refine subD_of PySem.F.slot_dict_getitem.lookup hs (thn (ho.run pins s σ H _ I h) fun u s1 ⟨x, H1, I1, rx, q1⟩ => thn (hi.run pins s1 σ H1 _ I1 q1) fun iv s2 ⟨y, H2, I2, ry, a, v, ex, g, q2⟩ => ?_)
  subst ex
  obtain rfl : u = Value.ref a := rx
  refine ⟨(dgw_is I2 g).1, ?_⟩
  rcases g with g | ⟨ks, k, b, g, hk, rfl, kb, k8, e⟩
  · exact d_getItem (by omega) I2 g ry fun w' s3 I3 rw' => ⟨v, H2, I3, rw', q2⟩
  · cases (show iv = Value.ref b from ry)
    exact dx_get (by rw [Around.in1_units]; omega) I2 g hk kb k8 e.symm fun w' s3 I3 rw' => ⟨v, H2, I3, rw', q2⟩
theorem ps_dputW (hu : X.A.units + 65 < cLine) (ho : PE X o td) (hi : PE X i ty) (hv : PE X value tv) (hs : swapsWith value (some (.Subscript o i pos')) pos.line X.env = pure false) :
    PS X (.Assign [.Subscript o i pos'] value pos) (sDPutW X.w X.K td ty tv) := by
  refine ⟨fun pins s σ H D I h => ?_⟩
  refine wpAny_Assign_Subscript (thn (hv.run pins s σ H _ I h) fun r s1 ⟨v, H1, I1, rv, q1⟩ => thn (ho.run pins s1 σ H1 _ I1 q1) fun u s2 ⟨x, H2, I2, rx, q2⟩ => thn (hi.run pins s2 σ H2 _ I2 q2) fun iv s3 ⟨y, H3, I3, ry, a, H4, ex, g, q3⟩ => ?_) hs
  subst ex
  obtain rfl : u = Value.ref a := rx
  rcases g with g | ⟨ks, k, b, g, hk, rfl, kb, k8, l, rfl⟩
  · exact d_setItem (by omega) I3 g ry rv fun s4 I4 => ⟨σ, H4, I4, q3⟩
  · cases (show iv = Value.ref b from ry)
    exact dx_put (by rw [Around.in1_units]; omega) I3 g hk kb k8 l rv fun s4 I4 => ⟨σ, _, I4, q3⟩
theorem pe_dget1W (hu : X.A.units + 65 < cLine) (ho : PE X o td) (he : PE X e ty) (m : M1 X o "get" apos e cpos) : PE X (.Call (.Attribute o "get" apos) [e] [] cpos) (tDGet1W X.w X.K td ty) := by
  refine ⟨fun pins s σ H Q I h => ?_⟩
  refine wpAny_Call_method m.base m.few m.line PySem.F.plainAttrs_dict PySem.F.slot_dict_get PySem.F.type_dict_get (thn (ho.run pins s σ H _ I h) fun u s1 ⟨x, H1, I1, rx, a, ex, ⟨y0, r0, d⟩, q1⟩ => ?_)
  subst ex
  obtain rfl : u = Value.ref a := rx
  obtain ⟨t1, t2⟩ := dgw_is I1 d
  refine ⟨t1, t2, ?_⟩
  rw [m.trees]
  refine Calls.callWith_builtin rfl (Calls.evalArgs_plain (Calls.spliced_cons (thn (he.run pins s1 σ H1 _ I1 q1) fun iv s2 ⟨y, H2, I2, ry, o', g, q2⟩ => Calls.spliced_nil ?_)))
  rcases g with g | ⟨ks, k, b, g, hk, rfl, kb, k8, rfl⟩
  · exact d_get1 (by omega) I2 g ry fun w' s3 I3 rw' => ⟨_, H2, I3, rw', q2⟩
  · cases (show iv = Value.ref b from ry)
    exact dx_get1 (by rw [Around.in1_units]; omega) I2 g hk kb k8 fun w' s3 I3 rw' => ⟨_, H2, I3, rw', q2⟩
theorem pe_dget2W (hu : X.A.units + 65 < cLine) (ho : PE X o td) (he : PE X e ty) (hf : PE X f tx) (m : M2 X o "get" apos e f cpos) : PE X (.Call (.Attribute o "get" apos) [e, f] [] cpos) (tDGet2W X.w X.K td ty tx) := by
  refine ⟨fun pins s σ H Q I h => ?_⟩
  refine wpAny_Call_method m.base m.few m.line PySem.F.plainAttrs_dict PySem.F.slot_dict_get PySem.F.type_dict_get (thn (ho.run pins s σ H _ I h) fun u s1 ⟨x, H1, I1, rx, a, ex, ⟨y0, r0, d⟩, q1⟩ => ?_)
  subst ex
  obtain rfl : u = Value.ref a := rx
  obtain ⟨t1, t2⟩ := dgw_is I1 d
  refine ⟨t1, t2, ?_⟩
  rw [m.trees]
  refine Calls.callWith_builtin rfl (Calls.evalArgs_plain (Calls.spliced_cons (thn (he.run pins s1 σ H1 _ I1 q1) fun iv s2 ⟨y, H2, I2, ry, q2⟩ =>
    Calls.spliced_cons (thn (hf.run pins s2 σ H2 _ I2 q2) fun fv s3 ⟨z, H3, I3, rz, o', g, q3⟩ => Calls.spliced_nil ?_))))
  rcases g with g | ⟨ks, k, b, g, hk, rfl, kb, k8, rfl⟩
  · exact d_get2 (by omega) I3 g ry rz fun w' s3 I3 rw' => ⟨_, H3, I3, rw', q3⟩
  · cases (show iv = Value.ref b from ry)
    exact dx_get2 (by rw [Around.in1_units]; omega) I3 g hk kb k8 rz fun w' s3 I3 rw' => ⟨_, H3, I3, rw', q3⟩
/-- list(d), tuples as keys -/
def rListX (w : World) : List V → Hp → VK → Prop := fun xs H Q => ∃ d ks, xs = [V.ref d] ∧ H d = some (DxO (NestedKey.hash w) d ks) ∧ ∀ p, H p = none → Q (.ref p) (upd H p (.lst (ks.map fun q => V.ref q.2.1)))
theorem kn_adr : ∀ {ks : List (NestedKey × Addr × V)} {xs : List (NestedKey × Addr × Value)}, KN ks xs → (ks.map fun q => q.2.1) = xs.map fun x => x.2.1
  | [], [], _ => rfl
  | _ :: _, _ :: _, .cons h t => by rw [List.map_cons, List.map_cons, kn_adr t, h.2.1]
theorem dx_raw {pins : List (Addr × Obj)} {σ : L2.St} {H : Hp} {s : Shared} {d : Addr} {ks : List (NestedKey × Addr × V)} (I : Inv X pins σ H s) (e : Rd H d (DxO (NestedKey.hash X.w) d ks)) : (d == sysModules) = false ∧ ks.length ≤ sizeLine ∧ ∃ o es ep, s.heap.get? d = some o ∧ o.ExactDict ∧ o.data = .dict es ep ∧ es.size = ks.length ∧
    ∀ acc : List Value, acc.length = es.size → (∀ (j : Nat) (v : Value), acc[j]? = some v → ∃ en : DictEntry, es[j]? = some en ∧ v = en.key) → acc = (ks.map fun q => q.2.1).map Value.ref := by
  obtain ⟨⟨z, hs, xs, pr, o, es, ep, ho, hx, hdt, he, hn⟩, _⟩ := (show ObjOk X.prog X.w H s.heap d (DxO (NestedKey.hash X.w) d ks) from rd_of I.hok e)
  have l1 : es.size = xs.length := by
    rw [← Array.length_toList, he, List.length_map]
  have l2 : ks.length = xs.length := Paired.length pr
  refine ⟨hs, z, o, es, ep, ho, hx, hdt, by omega, fun acc hl hv => ?_⟩
  have e1 : (ks.map fun q => q.2.1) = xs.map fun x => x.2.1 := by
    exact kn_adr pr
  rw [e1]
  apply List.ext_getElem?
  intro j
  rw [List.getElem?_map, List.getElem?_map]
  cases hj : acc[j]? with
  | none =>
    have h1 := List.getElem?_eq_none_iff.mp hj
    rw [List.getElem?_eq_none (by omega)]
    rfl
  | some v =>
    obtain ⟨en, hen, rfl⟩ := hv j v hj
    have h2 : es.toList[j]? = some en := by rw [Array.getElem?_toList]; exact hen
    rw [he, List.getElem?_map] at h2
    cases hb : xs[j]? with
    | none => rw [hb] at h2; cases h2
    | some b =>
      rw [hb] at h2
      cases h2
      rfl
theorem call_list_dx (hc : X.calm = true) : CallR X (.type "list") (rListX X.w) := by
  intro pins s σ H xs us Q I r h
  obtain ⟨d, ks, rfl, hd, q⟩ := h
  obtain ⟨u, rfl, rx⟩ := r.one
  cases rx
  obtain ⟨hs, z, o, es, ep, ho, hx, hdt, hl, key⟩ := dx_raw I (.inl hd)
  refine PySem.W.kdl_call (kdl_raw hs hx hdt) (I.ok.hd hc) ho (by omega) fun h' tk acc' c' kp e it => ?_
  have ea := key acc'.toList (by rw [Array.length_toList]; exact it.1) fun j v hj => it.2 j v (by rw [← Array.getElem?_toList]; exact hj)
  have rv : Vals ((ks.map fun x => x.2.1).map V.ref) acc'.toList := by rw [ea]; exact vals_refs _
  have e3 : (ks.map fun q => V.ref q.2.1) = (ks.map fun x => x.2.1).map V.ref := by rw [List.map_map]; rfl
  rw [e3] at q
  refine ⟨.ref s.heap.objs.size, _, I.laid (t' := tk) (o := .lst ((ks.map fun x => x.2.1).map V.ref)) kp (Nat.le_refl _) ?_, rfl, q _ (I.hok.fresh (Nat.le_refl _))⟩
  exact ⟨by rw [List.length_map, List.length_map]; omega, acc'.toList, c', rv, by rw [Array.toArray_toList]; exact e⟩
open PySem.W in
/-- one item needs no order -/
theorem sorts_few {prog : Program} {w : World} {A : Around} {s : Shared} {vs : List Value} {ds : List PyData} (e : EachIs (fun v d => ∃ as, Reads s.heap v d as) vs ds) (hal : AllAlike ds) (hk : Sortable ds ∨ ds.length ≤ 1) (hn : ∀ d ∈ ds, d ≠ .none) (hu : ∀ d, d ∈ ds → A.units + d.depth < cLine) : SortsAt prog w A s (dataKind s.heap ds) vs := by
  rcases hk with hk | hk
  · exact .data e hal hk hu
  · refine ⟨fun v hv => ?_, general', fun E x y a b Q ha hb hq => ?_, fun h2 => ?_⟩
    · obtain ⟨d, hd, as, r⟩ := e.left v hv
      exact ⟨_, dataKind_some hal hd r⟩
    · obtain ⟨d, as, hd, ra, rfl⟩ := dataKind_inv ha
      obtain ⟨d', as', hd', rb, rfl⟩ := dataKind_inv hb
      have := hu d hd
      exact oneLt_alike (f := false) (fun h => nomatch h) ra rb (hal d hd d' hd') (hn d hd) (by omega) hq
    · have := e.length
      omega
open PySem.W in
/-- sorted(d), tuples as keys -/
def rSortX (w : World) (K : PySem.W.Frag) : List V → Hp → VK → Prop := fun xs H Q => ∃ (d : Addr) (ks : List (NestedKey × Addr × V)) (ds : List PyData), xs = [V.ref d] ∧ H d = some (DxO (NestedKey.hash w) d ks) ∧ DpAll K H (ks.map fun q => V.ref q.2.1) ds ∧ AllAlike ds ∧ (Sortable ds ∨ ds.length ≤ 1) ∧ (∀ d ∈ ds, d ≠ .none ∧ d.depth ≤ 60) ∧
  ∀ p, H p = none → Q (.ref p) (upd H p (.lst ((sortZ (ks.map fun q => V.ref q.2.1) ds).map Prod.fst)))
open PySem.W in
theorem cr_sortX (hc : X.calm = true) (hu : X.A.units + 65 < cLine) : CallR X (.builtin "sorted") (rSortX X.w X.K) := by
  intro pins s σ H xs us Q I r h
  obtain ⟨d, ks, ds, rfl, hd, hdp, hal, hk, hdep, q⟩ := h
  rw [Vals.ref1 r]
  obtain ⟨hs, z, o, es, ep, ho, hx, hdt, hl, key⟩ := dx_raw I (.inl hd)
  refine Calls.call_function_entry PyProof.Rows.kind_sorted PyProof.Rows.plain_sorted PyProof.Rows.entry_sorted (PyProof.Rows.args_sorted1 _) ?_
  unfold Builtin.«sorted»
  refine wpAny_bind (m := checkCount "sorted" 1 1 _) (wpAny_pure ?_)
  refine wpAny_bind (PySem.W.kdu_collect (A := X.A.in1) (kdl_raw hs hx hdt) (I.ok.hd hc) ho (by omega) fun h' tk acc hkp it => ?_)
  have ea := key acc.toList (by rw [Array.length_toList]; exact it.1) fun j v hj => it.2 j v (by rw [← Array.getElem?_toList]; exact hj)
  have e3 : (ks.map fun q => V.ref q.2.1) = (ks.map fun x => x.2.1).map V.ref := by rw [List.map_map]; rfl
  have rv : Vals (ks.map fun q => V.ref q.2.1) acc.toList := by rw [ea, e3]; exact vals_refs _
  have hlen : acc.toList.length = ks.length := by rw [ea, List.length_map, List.length_map]
  have I1 : Inv X pins σ H { s with heap := h', toks := tk } := I.kept hkp
  have hdl := dpAll_len hdp
  rw [List.length_map] at hdl
  refine wpAny_bind (wpAny_newList ?_ (by omega))
  have hoL : (h'.push (seqObj "list" acc.toList.toArray 0)).get? h'.objs.size = some (seqObj "list" acc.toList.toArray 0) := Heap.get?_push_size _ rfl
  show wpAny _ _ _ _ _ { s with heap := h'.push (seqObj "list" acc.toList.toArray 0), toks := tk }
  obtain ⟨as, rr⟩ := Dp.readsAll I1 ds _ _ hdp rv
  have up : ∀ b u, h'.get? b = some u → (sortingHeap (h'.push (seqObj "list" acc.toList.toArray 0)) h'.objs.size acc.toList).get? b = some u := fun b u e => sortingHeap_old (Nat.ne_of_lt (Heap.lt_size e)) (Heap.get?_push_of_some _ e)
  have e1 : EachIs (fun v (b : V × PyData) => RelV b.1 v) acc.toList ((ks.map fun q => V.ref q.2.1).zip ds) := each_vals rv (by rw [List.length_map]; exact hdl)
  have e2 : EachIs (fun v (b : V × PyData) => ∃ as, Reads (sortingHeap (h'.push (seqObj "list" acc.toList.toArray 0)) h'.objs.size acc.toList) v b.2 as) acc.toList ((ks.map fun q => V.ref q.2.1).zip ds) := (each_reads (h := h') rr (by rw [List.length_map]; exact hdl)).mono fun _ _ ⟨as, r⟩ => ⟨as, PyProof.Rows.Reads.keeps up r⟩
  have hal' : AllAlike (((ks.map fun q => V.ref q.2.1).zip ds).map Prod.snd) := by rw [zip_snd (by rw [List.length_map]; exact hdl)]; exact hal
  have hk' : Sortable (((ks.map fun q => V.ref q.2.1).zip ds).map Prod.snd) ∨ (((ks.map fun q => V.ref q.2.1).zip ds).map Prod.snd).length ≤ 1 := by rw [zip_snd (by rw [List.length_map]; exact hdl)]; exact hk
  have S := sorts_few (prog := X.prog) (w := X.w) (A := X.A.in1.in1) (s := { s with heap := sortingHeap (h'.push (seqObj "list" acc.toList.toArray 0)) h'.objs.size acc.toList, toks := tk }) (each_map (R := fun v d => ∃ as, Reads (sortingHeap (h'.push (seqObj "list" acc.toList.toArray 0)) h'.objs.size acc.toList) v d as) Prod.snd e2) hal' hk' (fun d hd => by
    rw [zip_snd (by rw [List.length_map]; exact hdl)] at hd
    exact (hdep d hd).1) (bound_map fun b hb => by
    have := (hdep b.2 (List.of_mem_zip hb).2).2
    show X.A.units + 2 + b.2.depth < cLine
    omega)
  refine wpAny_bind (wpAny_holding (wpAny_call_entry PyProof.Rows.slot_list_sort ⟨_, hoL, rfl⟩ PyProof.Rows.entry_list_sort
    (list_sort_vals (s := { s with heap := h'.push (seqObj "list" acc.toList.toArray 0), toks := tk }) hoL S (by omega) ⟨_, rfl, ?_⟩)
    (PyProof.Rows.args_list_sort _)))
  obtain ⟨e', he'⟩ := PyProof.Rows.sortedHeap_at (vs := acc.toList) (out := (sortVals (dataKind (sortingHeap (h'.push (seqObj "list" acc.toList.toArray 0)) h'.objs.size acc.toList) (((ks.map fun q => V.ref q.2.1).zip ds).map Prod.snd)) false acc.toList acc.toList).toArray) hoL
  have hz' : ((sortZ (ks.map fun q => V.ref q.2.1) ds).map Prod.fst).length ≤ sizeLine := by
    unfold sortZ
    rw [List.length_map, (List.mergeSort_perm _ _).length_eq, List.length_zip, List.length_map]
    omega
  refine wpAny_pure ⟨_, rfl, .ref h'.objs.size, upd H h'.objs.size (.lst ((sortZ (ks.map fun q => V.ref q.2.1) ds).map Prod.fst)), I1.laid (t' := tk) (fun b u e => ?_) (Nat.le_refl _)
    (show ObjOk X.prog X.w _ _ _ (.lst ((sortZ (ks.map fun q => V.ref q.2.1) ds).map Prod.fst)) from ⟨hz', _, e', vals_each (sortVals_data false e1 e2 hal'), he'⟩), rfl, q _ (I1.hok.fresh (Nat.le_refl _))⟩
  have hb : b < h'.objs.size := Heap.lt_size e
  rw [PyProof.Rows.sortedHeap_old (Nat.ne_of_lt hb) (by rw [size_push']; exact Nat.lt_succ_of_lt hb)]
  exact Heap.get?_push_of_some _ e
end
end Sm
set_option maxRecDepth 10000000
/-! dicts of one's own: functions of data -/
namespace Sm
open PySem PySem.Spec PyProof.Rows L2 Evl CrT Cr
open Classical in
noncomputable def valD (kvs : List (PyData × PyData)) (d : PyData) : Option PyData := (kvs.find? fun q => decide (q.1 = d)).map (·.2)
open Classical in
noncomputable def putD (kvs : List (PyData × PyData)) (d v : PyData) : List (PyData × PyData) := if (valD kvs d).isSome then kvs.map (fun q => if q.1 = d then (q.1, v) else q) else kvs ++ [(d, v)]
def keyT (d : PyData) : Bool := match d with
  | .tuple ds => (match keyN (.tuple ds) with
    | some k => decide (k.depth ≤ 8)
    | none => false)
  | _ => false
def kok (kvs : List (PyData × PyData)) (d : PyData) : Bool := (fl d && kvs.all fun q => fl q.1) || (keyT d && kvs.all fun q => keyT q.1)
def keyD : Key → PyData
  | .inl i => .int i
  | .inr x => .str x
theorem keyD_inj {a b : Key} (h : keyD a = keyD b) : a = b := by
  cases a <;> cases b <;> simp [keyD] at h ⊢ <;> exact h
theorem keyT_inv {d : PyData} (h : keyT d = true) : ∃ ds k, d = .tuple ds ∧ keyN d = some k ∧ k.depth ≤ 8 := by
  cases d <;> try cases h
  rename_i ds
  have h : (match keyN (.tuple ds) with
    | some k => decide (k.depth ≤ 8)
    | none => false) = true := h
  split at h
  · rename_i k hk
    exact ⟨ds, k, rfl, hk, of_decide_eq_true h⟩
  · cases h
theorem fl_keyT {d : PyData} (h : fl d = true) : keyT d = false := by
  cases d <;> first | rfl | cases h
section
variable {K : PySem.W.Frag} {A : Atm} {O : Addr → Prop} {H : Hp} {p : Addr} {u : HO} {hw : NestedKey → Int} {lk : Bool} {kvs : List (PyData × PyData)}
theorem paired_of {α : Type} {kf vf : α → V} : ∀ {ks : List α} {kvs : List (PyData × PyData)}, Fds K A O H (ks.map kf) (kvs.map (·.1)) → Fds K A O H (ks.map vf) (kvs.map (·.2)) → Paired (fun a b => Fd K A O H (kf a) b.1 ∧ Fd K A O H (vf a) b.2) ks kvs
  | [], [], _, _ => .nil
  | [], q :: kvs, h, _ => by have := h.1; simp at this
  | a :: ks, [], h, _ => by have := h.1; simp at this
  | a :: ks, q :: kvs, h, g => by
    obtain ⟨v, ws, e, h1, h2⟩ := h.head
    rw [List.map_cons] at e
    cases e
    obtain ⟨v', ws', e', g1, g2⟩ := g.head
    rw [List.map_cons] at e'
    cases e'
    exact .cons ⟨h1, g1⟩ (paired_of h2 g2)
theorem of_paired {α : Type} {kf vf : α → V} {R : α → PyData × PyData → Prop} (hR : ∀ a b, R a b → Fd K A O H (kf a) b.1 ∧ Fd K A O H (vf a) b.2) : ∀ {ks : List α} {kvs : List (PyData × PyData)}, Paired R ks kvs → Fds K A O H (ks.map kf) (kvs.map (·.1)) ∧ Fds K A O H (ks.map vf) (kvs.map (·.2))
  | [], [], .nil => ⟨.nil, .nil⟩
  | a :: ks, q :: kvs, .cons h t => by
    obtain ⟨h1, h2⟩ := of_paired hR t
    obtain ⟨g1, g2⟩ := hR a q h
    exact ⟨.cons g1 h1, .cons g2 h2⟩
theorem fd_kV {k : Key} {d : PyData} (h : Fd K A O H (kV k) d) : d = keyD k := by
  cases k with
  | inl i =>
    have h : Fd K A O H (.int i) d := h
    cases h
    rfl
  | inr x =>
    have h : Fd K A O H (.str x) d := h
    cases h
    rfl
theorem fd_keyD (k : Key) : Fd K A O H (kV k) (keyD k) := by
  cases k with
  | inl i => exact .int i
  | inr x => exact .str x
abbrev RK (K : PySem.W.Frag) (A : Atm) (O : Addr → Prop) (H : Hp) : Key × V → PyData × PyData → Prop := fun a b => b.1 = keyD a.1 ∧ Fd K A O H a.2 b.2
abbrev RT (K : PySem.W.Frag) (A : Atm) (O : Addr → Prop) (H : Hp) : NestedKey × Addr × V → PyData × PyData → Prop := fun a b => (b.1 = a.1.data ∧ keyN b.1 = some a.1 ∧ a.1.depth ≤ 8 ∧ Fd K A O H (.ref a.2.1) b.1) ∧ Fd K A O H a.2.2 b.2
theorem Lk.rd {u0 : HO} (h : Lk lk u u0) (hp : H p = some u) : Rd H p u0 := by
  rcases h with ⟨_, rfl⟩ | ⟨_, o, rfl⟩
  · exact .inl hp
  · exact .inr ⟨o, hp⟩
theorem own_d (h : OwnO K A O H p u (.d hw lk kvs)) : ∃ u0, Lk lk u u0 ∧ ((∃ ks : List (Key × V), u0 = .dK ks ∧ Paired (RK K A O H) ks kvs) ∨ ∃ ks, u0 = DxO hw p ks ∧ ks ≠ [] ∧ Paired (RT K A O H) ks kvs) := by
  obtain ⟨kv, vs, ⟨u0, h0, h1⟩, h2, h3⟩ := h
  refine ⟨u0, h0, ?_⟩
  generalize hz : kvs.map (·.1) = z at h1 h2
  cases h1 with
  | k ks =>
    subst hz
    exact .inl ⟨ks, rfl, Paired.mapP (paired_of h2 h3) fun a b q => ⟨fd_kV q.1, q.2⟩⟩
  | t ks hn hk =>
    refine .inr ⟨ks, rfl, hn, ?_⟩
    rw [← hz] at h2
    have pr := paired_of h2 h3
    clear h0 hn h2 h3
    induction pr with
    | nil => exact .nil
    | @cons a b as bs q t ih =>
      rw [List.map_cons, List.map_cons] at hz
      injection hz with e1 e2
      obtain ⟨k1, k2⟩ := hk a List.mem_cons_self
      refine .cons ⟨⟨e1, by rw [e1]; exact k2, k1, q.1⟩, q.2⟩ (ih (fun q hq => hk q (List.mem_cons_of_mem _ hq)) e2)
theorem ownK {ks : List (Key × V)} (h0 : Lk lk u (.dK ks)) (h : Paired (RK K A O H) ks kvs) : OwnO K A O H p u (.d hw lk kvs) := by
  obtain ⟨h1, h2⟩ := of_paired (kf := fun q => kV q.1) (vf := (·.2)) (fun a b q => ⟨by rw [q.1]; exact fd_keyD _, q.2⟩) h
  exact ⟨_, _, ⟨_, h0, .k ks _⟩, h1, h2⟩
theorem ownT {ks : List (NestedKey × Addr × V)} (h0 : Lk lk u (DxO hw p ks)) (hn : ks ≠ []) (h : Paired (RT K A O H) ks kvs) : OwnO K A O H p u (.d hw lk kvs) := by
  obtain ⟨h1, h2⟩ := of_paired (kf := fun q => V.ref q.2.1) (vf := (·.2.2)) (fun a b q => ⟨q.1.2.2.2, q.2⟩) h
  have e : kvs.map (·.1) = ks.map fun q => q.1.data := by
    clear h0 hn h1 h2
    induction h with
    | nil => rfl
    | cons q t ih => rw [List.map_cons, List.map_cons, ih, q.1.1]
  have hk : ∀ q ∈ ks, q.1.depth ≤ 8 ∧ keyN q.1.data = some q.1 := by
    clear h0 hn h1 h2 e
    induction h with
    | nil => intro q hq; exact nomatch hq
    | cons q t ih =>
      intro z hz
      rcases List.mem_cons.mp hz with rfl | hz
      · exact ⟨q.1.2.2.1, by rw [← q.1.1]; exact q.1.2.1⟩
      · exact ih z hz
  refine ⟨_, _, ⟨_, h0, ?_⟩, h1, h2⟩
  rw [e]
  exact .t ks hn hk
theorem rt_kok {ks : List (NestedKey × Addr × V)} (h : Paired (RT K A O H) ks kvs) : KOk K H ks := by
  induction h with
  | nil => intro q hq; exact nomatch hq
  | cons q t ih =>
    intro z hz
    rcases List.mem_cons.mp hz with rfl | hz
    · exact ⟨q.1.2.2.1, q.1.2.2.2.nk _ q.1.2.1⟩
    · exact ih z hz
/-- what stands at a key -/
def OR (K : PySem.W.Frag) (A : Atm) (O : Addr → Prop) (H : Hp) : Option V → Option PyData → Prop
  | some v, some d => Fd K A O H v d
  | none, none => True
  | _, _ => False
theorem or_k {ks : List (Key × V)} {k : Key} {d : PyData} (h : Paired (RK K A O H) ks kvs) (hd : d = keyD k) : OR K A O H (valV ks k) (valD kvs d) := by
  subst hd
  induction h with
  | nil => exact trivial
  | @cons a b as bs q t ih =>
    by_cases e : a.1 = k
    · have e' : b.1 = keyD k := by rw [q.1, e]
      simp only [valV, valD, List.find?_cons, e, e', decide_true, Option.map_some, OR]
      exact q.2
    · have e' : b.1 ≠ keyD k := fun z => e (keyD_inj (q.1.symm.trans z))
      have : valV (a :: as) k = valV as k := by simp [valV, List.find?_cons, e]
      have : valD (b :: bs) (keyD k) = valD bs (keyD k) := by simp [valD, List.find?_cons, e']
      simp_all only
theorem or_t {ks : List (NestedKey × Addr × V)} {k : NestedKey} {d : PyData} (h : Paired (RT K A O H) ks kvs) (hd : d = k.data) : OR K A O H (valN ks k) (valD kvs d) := by
  subst hd
  induction h with
  | nil => exact trivial
  | @cons a b as bs q t ih =>
    by_cases e : a.1 = k
    · have e' : b.1 = k.data := by rw [q.1.1, e]
      simp only [valN, valD, List.find?_cons, e, e', decide_true, Option.map_some, OR]
      exact q.2
    · have e' : b.1 ≠ k.data := fun z => e (key_inj _ _ (q.1.1.symm.trans z))
      have : valN (a :: as) k = valN as k := by simp [valN, List.find?_cons, e]
      have : valD (b :: bs) k.data = valD bs k.data := by simp [valD, List.find?_cons, e']
      simp_all only
theorem kok_cases {d : PyData} (h : kok kvs d = true) : (fl d = true ∧ ∀ q ∈ kvs, fl q.1 = true) ∨ (keyT d = true ∧ ∀ q ∈ kvs, keyT q.1 = true) := by
  rcases Bool.or_eq_true_iff.mp h with h | h
  · obtain ⟨h1, h2⟩ := Bool.and_eq_true_iff.mp h
    exact .inl ⟨h1, fun q hq => List.all_eq_true.mp h2 q hq⟩
  · obtain ⟨h1, h2⟩ := Bool.and_eq_true_iff.mp h
    exact .inr ⟨h1, fun q hq => List.all_eq_true.mp h2 q hq⟩
theorem fl_kV {v : V} {d : PyData} (h : Fd K A O H v d) (hf : fl d = true) : ∃ k, v = kV k ∧ d = keyD k := by
  cases d <;> try cases hf
  · rw [h.int_inv]; exact ⟨.inl _, rfl, rfl⟩
  · rw [h.str_inv]; exact ⟨.inr _, rfl, rfl⟩
/-- the four cases come to two -/
theorem own_cases {d : PyData} {y : V} (h : OwnO K A O H p u (.d hw lk kvs)) (hy : Fd K A O H y d) (hk : kok kvs d = true) :
    ∃ u0, Lk lk u u0 ∧ ((∃ ks k, u0 = .dK ks ∧ Paired (RK K A O H) ks kvs ∧ y = kV k ∧ d = keyD k) ∨
    ∃ ks k b, ((u0 = DxO hw p ks ∧ ks ≠ []) ∨ (ks = [] ∧ u0 = .dK [])) ∧ Paired (RT K A O H) ks kvs ∧ y = .ref b ∧ keyN d = some k ∧ d = k.data ∧ k.depth ≤ 8 ∧ NkV K H k (.ref b)) := by
  have tup : keyT d = true → ∃ k b, y = .ref b ∧ keyN d = some k ∧ d = k.data ∧ k.depth ≤ 8 ∧ NkV K H k (.ref b) := fun ht => by
    obtain ⟨ds, k, rfl, h1, h2⟩ := keyT_inv ht
    obtain ⟨b, xs, rfl, _⟩ := hy.tup_inv
    exact ⟨k, b, rfl, h1, (keyN_data _ _ h1).symm, h2, hy.nk k h1⟩
  obtain ⟨u0, h0, h⟩ := own_d h
  refine ⟨u0, h0, ?_⟩
  rcases h with ⟨ks, rfl, pr⟩ | ⟨ks, rfl, hn, pr⟩ <;> rcases kok_cases hk with ⟨f1, f2⟩ | ⟨f1, f2⟩
  · obtain ⟨k, rfl, rfl⟩ := fl_kV hy f1
    exact .inl ⟨ks, k, rfl, pr, rfl, rfl⟩
  · obtain ⟨k, b, rfl, h1, h2, h3, h4⟩ := tup f1
    cases pr with
    | nil => exact .inr ⟨[], k, b, .inr ⟨rfl, rfl⟩, .nil, rfl, h1, h2, h3, h4⟩
    | @cons a b' as bs q t =>
      have := f2 b' List.mem_cons_self
      rw [q.1] at this
      cases ha : a.1 <;> rw [ha] at this <;> cases this
  · cases pr with
    | nil => exact (hn rfl).elim
    | @cons a b' as bs q t =>
      have := f2 b' List.mem_cons_self
      have h6 := q.1.2.2.2
      cases hb : b'.1 <;> rw [hb] at this h6 <;> cases this <;> cases h6
  · obtain ⟨k, b, rfl, h1, h2, h3, h4⟩ := tup f1
    exact .inr ⟨ks, k, b, .inl ⟨rfl, hn⟩, pr, rfl, h1, h2, h3, h4⟩
theorem dgw_of {w : World} {d : PyData} {y : V} (hp : H p = some u) (h : OwnO K A O H p u (.d (NestedKey.hash w) lk kvs)) (hy : Fd K A O H y d) (hk : kok kvs d = true) : ∃ o, DGW w K H p y o ∧ OR K A O H o (valD kvs d) := by
  obtain ⟨u0, h0, h⟩ := own_cases h hy hk
  have hr := h0.rd hp
  rcases h with ⟨ks, k, rfl, pr, rfl, hd⟩ | ⟨ks, k, b, hu, pr, rfl, h1, h2, h3, h4⟩
  · exact ⟨_, .inl (.inl ⟨ks, k, hr, rfl, rfl⟩), or_k pr hd⟩
  · refine ⟨_, .inr ⟨ks, k, b, ?_, rt_kok pr, rfl, h4, h3, rfl⟩, or_t pr h2⟩
    rcases hu with ⟨rfl, _⟩ | ⟨rfl, rfl⟩
    · exact .inl hr
    · exact .inr ⟨rfl, hr⟩
theorem put_k {ks : List (Key × V)} {k : Key} {d e : PyData} {v : V} (h : Paired (RK K A O H) ks kvs) (hd : d = keyD k) (hv : Fd K A O H v e) : Paired (RK K A O H) (putK ks k v) (putD kvs d e) := by
  have hs : (ks.any fun kv => decide (kv.1 = k)) = (valD kvs d).isSome := by
    have := or_k h hd
    rw [valV_any]
    revert this
    cases valV ks k <;> cases valD kvs d <;> first | exact fun _ => rfl | exact fun h => h.elim
  unfold putK putD
  rw [hs]
  split
  · rename_i hz
    clear hs hz
    subst hd
    induction h with
    | nil => exact .nil
    | @cons a b as bs q t ih =>
      rw [List.map_cons, List.map_cons]
      refine .cons ?_ ih
      by_cases e1 : a.1 = k
      · rw [if_pos e1, if_pos (by rw [q.1, e1])]; exact ⟨q.1, hv⟩
      · rw [if_neg e1, if_neg fun z => e1 (keyD_inj (q.1.symm.trans z))]; exact q
  · exact Paired.snoc h ⟨hd, hv⟩
theorem put_t {ks : List (NestedKey × Addr × V)} {k : NestedKey} {b : Addr} {d e : PyData} {v : V} (h : Paired (RT K A O H) ks kvs) (hd : d = k.data) (hk : keyN d = some k) (k8 : k.depth ≤ 8) (hb : Fd K A O H (.ref b) d) (hv : Fd K A O H v e) : Paired (RT K A O H) (putN ks k b v) (putD kvs d e) := by
  have hs : (valN ks k).isSome = (valD kvs d).isSome := by
    have := or_t h hd
    revert this
    cases valN ks k <;> cases valD kvs d <;> first | exact fun _ => rfl | exact fun h => h.elim
  unfold putN putD
  rw [hs]
  split
  · rename_i hz
    clear hs hz
    induction h with
    | nil => exact .nil
    | @cons a b' as bs q t ih =>
      rw [List.map_cons, List.map_cons]
      refine .cons ?_ ih
      by_cases e1 : a.1 = k
      · rw [if_pos e1, if_pos (by rw [q.1.1, e1, hd])]; exact ⟨q.1, hv⟩
      · rw [if_neg e1, if_neg fun z => e1 (key_inj _ _ (q.1.1.symm.trans (z.trans hd)))]; exact q
  · exact Paired.snoc h ⟨⟨hd, hk, k8, hb⟩, hv⟩
theorem dpw_of {w : World} {d e : PyData} {y v : V} (hp : H p = some u) (h : OwnO K A O H p u (.d (NestedKey.hash w) false kvs)) (hy : Fd K A O H y d) (hv : Fd K A O H v e) (hk : kok kvs d = true) (hl : kvs.length < 10000000) : ∃ u', DPW w K H p y v (upd H p u') ∧ OwnO K A O H p u' (.d (NestedKey.hash w) false (putD kvs d e)) := by
  obtain ⟨u0, h0, h⟩ := own_cases h hy hk
  obtain rfl : u = u0 := by
    rcases h0 with ⟨_, h0⟩ | ⟨h0, _⟩
    · exact h0
    · cases h0
  rcases h with ⟨ks, k, rfl, pr, rfl, hd⟩ | ⟨ks, k, b, hu, pr, rfl, h1, h2, h3, h4⟩
  · exact ⟨_, .inl (.k hp (Nat.lt_of_lt_of_le (by rw [Paired.length pr]; exact hl) (by decide))), ownK (.inl ⟨rfl, rfl⟩) (put_k pr hd hv)⟩
  · have hn : putN ks k b v ≠ [] := by
      unfold putN
      split
      · rename_i hs
        intro z
        rw [List.map_eq_nil_iff] at z
        subst z
        cases hs
      · simp
    refine ⟨_, .inr ⟨ks, k, b, ?_, rt_kok pr, rfl, h4, h3, Nat.lt_of_lt_of_le (by rw [Paired.length pr]; exact hl) (by decide), rfl⟩, ownT (.inl ⟨rfl, rfl⟩) hn (put_t pr h2 h1 h3 hy hv)⟩
    rcases hu with ⟨rfl, _⟩ | ⟨rfl, rfl⟩
    · exact .inl hp
    · exact .inr ⟨rfl, hp⟩
end
/-! ### functions -/
open Classical in
noncomputable def dOf (hw : NestedKey → Int) (i : Nat) (ρ : List Sl) : Option (List (PyData × PyData)) := match ρ[i]? with
  | some (.own (.d h _ kvs)) => if h = hw then some kvs else none
  | _ => none
open Classical in
/-- .. that is not locked -/
noncomputable def dOfU (hw : NestedKey → Int) (i : Nat) (ρ : List Sl) : Option (List (PyData × PyData)) := match ρ[i]? with
  | some (.own (.d h false kvs)) => if h = hw then some kvs else none
  | _ => none
theorem dOf_inv {hw : NestedKey → Int} {i : Nat} {ρ : List Sl} {kvs : List (PyData × PyData)} (h : dOf hw i ρ = some kvs) : ∃ lk, ρ[i]? = some (.own (.d hw lk kvs)) := by
  unfold dOf at h
  split at h
  · rename_i h' lk kvs' e
    split at h
    · rename_i eh
      cases h
      exact ⟨lk, by rw [e, eh]⟩
    · cases h
  · cases h
theorem dOfU_inv {hw : NestedKey → Int} {i : Nat} {ρ : List Sl} {kvs : List (PyData × PyData)} (h : dOfU hw i ρ = some kvs) : ρ[i]? = some (.own (.d hw false kvs)) := by
  unfold dOfU at h
  split at h
  · rename_i h' kvs' e
    split at h
    · rename_i eh
      cases h
      rw [e, eh]
    · cases h
  · cases h
theorem dOf_ok {hw : NestedKey → Int} {i : Nat} {lk : Bool} {ρ : List Sl} {kvs : List (PyData × PyData)} (h : ρ[i]? = some (.own (.d hw lk kvs))) : dOf hw i ρ = some kvs := by
  unfold dOf
  rw [h]
  exact if_pos rfl
theorem dOfU_ok {hw : NestedKey → Int} {i : Nat} {ρ : List Sl} {kvs : List (PyData × PyData)} (h : ρ[i]? = some (.own (.d hw false kvs))) : dOfU hw i ρ = some kvs := by
  unfold dOfU
  rw [h]
  exact if_pos rfl
noncomputable def fGetD (hw : NestedKey → Int) (i : Nat) (fk : FE) : FE := fun ρ => (fk ρ).bind fun d => (dOf hw i ρ).bind fun kvs => if kok kvs d then valD kvs d else none
noncomputable def fInD (hw : NestedKey → Int) (i : Nat) (fk : FE) : FE := fun ρ => (fk ρ).bind fun d => (dOf hw i ρ).bind fun kvs => if kok kvs d then some (.bool (valD kvs d).isSome) else none
noncomputable def fNiD (hw : NestedKey → Int) (i : Nat) (fk : FE) : FE := fun ρ => (fk ρ).bind fun d => (dOf hw i ρ).bind fun kvs => if kok kvs d then some (.bool (!(valD kvs d).isSome)) else none
noncomputable def fGet1D (hw : NestedKey → Int) (i : Nat) (fk : FE) : FE := fun ρ => (fk ρ).bind fun d => (dOf hw i ρ).bind fun kvs => if kok kvs d then some ((valD kvs d).getD .none) else none
noncomputable def fGet2D (hw : NestedKey → Int) (i : Nat) (fk fx : FE) : FE := fun ρ => (fk ρ).bind fun d => (fx ρ).bind fun x => (dOf hw i ρ).bind fun kvs => if kok kvs d then some ((valD kvs d).getD x) else none
def fNewD (hw : NestedKey → Int) (i : Nat) : FS := fun ρ => some (.nx, ρ.set i (.own (.d hw false [])))
noncomputable def fPutD (hw : NestedKey → Int) (i : Nat) (fk fv : FE) : FS := fun ρ => (fv ρ).bind fun e => (fk ρ).bind fun d => (dOfU hw i ρ).bind fun kvs => if kok kvs d ∧ kvs.length < 10000000 then some (.nx, ρ.set i (.own (.d hw false (putD kvs d e)))) else none
section
variable {K : PySem.W.Frag} {A : Atm} {w : World} {ty tv tx : TE} {fk fv fx : FE} {i : Nat}
theorem se_getD (hk : SE K A ty fk) : SE K A (tDGetW w K (tVar i) ty) (fGetD (NestedKey.hash w) i fk) := fun {H0 O0 O σ H ρ} R e he Q q => by
  obtain ⟨d, h1, h2⟩ := bind_some' he
  obtain ⟨kvs, h3, h4⟩ := bind_some' h2
  split at h4
  · rename_i hkok
    obtain ⟨lk, h3⟩ := dOf_inv h3
    obtain ⟨p, u, s1, s2, s3, s4, s5⟩ := R.own i _ h3
    refine ⟨_, s1, hk R d h1 _ fun y H1 e1 hy => ?_⟩
    obtain ⟨o, g, hor⟩ := dgw_of (e1 _ _ s4) (s5.same e1) hy hkok
    rw [h4] at hor
    cases o with
    | none => exact hor.elim
    | some v => exact ⟨p, v, rfl, g, q v H1 e1 hor⟩
  · cases h4
theorem se_inD (hk : SE K A ty fk) : SE K A (tOp (rInW w K) ty (tVar i)) (fInD (NestedKey.hash w) i fk) := fun {H0 O0 O σ H ρ} R e he Q q => by
  obtain ⟨d, h1, h2⟩ := bind_some' he
  obtain ⟨kvs, h3, h4⟩ := bind_some' h2
  split at h4
  · rename_i hkok
    cases h4
    obtain ⟨lk, h3⟩ := dOf_inv h3
    obtain ⟨p, u, s1, s2, s3, s4, s5⟩ := R.own i _ h3
    refine hk R d h1 _ fun y H1 e1 hy => ⟨_, s1, ?_⟩
    obtain ⟨o, g, hor⟩ := dgw_of (e1 _ _ s4) (s5.same e1) hy hkok
    refine ⟨p, o, rfl, g, ?_⟩
    have : o.isSome = (valD kvs d).isSome := by
      revert hor
      cases o <;> cases valD kvs d <;> first | exact fun _ => rfl | exact fun h => h.elim
    rw [this]
    exact q _ _ e1 (.bl _)
  · cases h4
theorem se_niD (hk : SE K A ty fk) : SE K A (tOp (rNiW w K) ty (tVar i)) (fNiD (NestedKey.hash w) i fk) := fun {H0 O0 O σ H ρ} R e he Q q => by
  obtain ⟨d, h1, h2⟩ := bind_some' he
  obtain ⟨kvs, h3, h4⟩ := bind_some' h2
  split at h4
  · rename_i hkok
    cases h4
    obtain ⟨lk, h3⟩ := dOf_inv h3
    obtain ⟨p, u, s1, s2, s3, s4, s5⟩ := R.own i _ h3
    refine hk R d h1 _ fun y H1 e1 hy => ⟨_, s1, ?_⟩
    obtain ⟨o, g, hor⟩ := dgw_of (e1 _ _ s4) (s5.same e1) hy hkok
    refine ⟨p, o, rfl, g, ?_⟩
    have : o.isSome = (valD kvs d).isSome := by
      revert hor
      cases o <;> cases valD kvs d <;> first | exact fun _ => rfl | exact fun h => h.elim
    rw [this]
    exact q _ _ e1 (.bl _)
  · cases h4
theorem idw {O : Addr → Prop} {H : Hp} {p : Addr} {u : HO} {lk : Bool} {kvs : List (PyData × PyData)} (hp : H p = some u) (h : OwnO K A O H p u (.d (NestedKey.hash w) lk kvs)) : IsDW w K H p := by
  obtain ⟨u0, h0, h⟩ := own_d h
  have hr := h0.rd hp
  rcases h with ⟨ks, rfl, pr⟩ | ⟨ks, rfl, hn, pr⟩
  · exact ⟨_, _, .inl (.inl ⟨ks, .inl 0, hr, rfl, rfl⟩)⟩
  · cases pr with
    | nil => exact (hn rfl).elim
    | @cons a b as bs q t => exact ⟨.ref a.2.1, _, .inr ⟨_, a.1, a.2.1, .inl hr, rt_kok (.cons q t), rfl, q.1.2.2.2.nk _ q.1.2.1, q.1.2.2.1, rfl⟩⟩
theorem se_get1D (hk : SE K A ty fk) : SE K A (tDGet1W w K (tVar i) ty) (fGet1D (NestedKey.hash w) i fk) := fun {H0 O0 O σ H ρ} R e he Q q => by
  obtain ⟨d, h1, h2⟩ := bind_some' he
  obtain ⟨kvs, h3, h4⟩ := bind_some' h2
  split at h4
  · rename_i hkok
    cases h4
    obtain ⟨lk, h3⟩ := dOf_inv h3
    obtain ⟨p, u, s1, s2, s3, s4, s5⟩ := R.own i _ h3
    refine ⟨_, s1, p, rfl, idw s4 s5, hk R d h1 _ fun y H1 e1 hy => ?_⟩
    obtain ⟨o, g, hor⟩ := dgw_of (e1 _ _ s4) (s5.same e1) hy hkok
    refine ⟨o, g, q _ _ e1 ?_⟩
    revert hor
    cases o <;> cases valD kvs d <;> first | exact fun h => h.elim | exact fun _ => .non | exact fun h => h
  · cases h4
theorem se_get2D (hk : SE K A ty fk) (hx : SE K A tx fx) : SE K A (tDGet2W w K (tVar i) ty tx) (fGet2D (NestedKey.hash w) i fk fx) := fun {H0 O0 O σ H ρ} R e he Q q => by
  obtain ⟨d, h1, h2⟩ := bind_some' he
  obtain ⟨x, h5, h2⟩ := bind_some' h2
  obtain ⟨kvs, h3, h4⟩ := bind_some' h2
  split at h4
  · rename_i hkok
    cases h4
    obtain ⟨lk, h3⟩ := dOf_inv h3
    obtain ⟨p, u, s1, s2, s3, s4, s5⟩ := R.own i _ h3
    refine ⟨_, s1, p, rfl, idw s4 s5, hk R d h1 _ fun y H1 e1 hy => hx (R.same e1) x h5 _ fun z H2 e2 hz => ?_⟩
    obtain ⟨o, g, hor⟩ := dgw_of ((e1.trans e2) _ _ s4) (s5.same (e1.trans e2)) (hy.same e2) hkok
    refine ⟨o, g, q _ _ (e1.trans e2) ?_⟩
    revert hor
    cases o <;> cases valD kvs d <;> first | exact fun h => h.elim | exact fun _ => hz | exact fun h => h
  · cases h4
theorem ss_newD : SS K A (tAsg tDNewK (gName i)) (fNewD (NestedKey.hash w) i) := fun {H0 O0 O σ H ρ} r o ho D p => by
  cases ho
  intro q hq
  refine p (σ.set i (some (.ref q))) (upd H q (.dK [])) (Osn O q) (r.setOwnC i hq (same_new hq) upd_same (ownK (.inl ⟨rfl, rfl⟩) .nil)) fun a o ha hn => ⟨same_new hq _ _ ha, fun h => ?_⟩
  rcases h with h | h
  · rw [h, hq] at ha
    cases ha
  · exact hn h
theorem ss_putD (hk : SE K A ty fk) (hv : SE K A tv fv) : SS K A (sDPutW w K (tVar i) ty tv) (fPutD (NestedKey.hash w) i fk fv) := fun {H0 O0 O σ H ρ} r o ho D pp => by
  obtain ⟨e, h1, h2⟩ := bind_some' ho
  obtain ⟨d, h3, h2⟩ := bind_some' h2
  obtain ⟨kvs, h4, h5⟩ := bind_some' h2
  split at h5
  · rename_i hc
    cases h5
    obtain ⟨p, u, s1, s2, s3, s4, s5⟩ := r.own i _ (dOfU_inv h4)
    refine hv r e h1 _ fun v H1 e1 hv' => ⟨_, s1, hk (r.same e1) d h3 _ fun y H2 e2 hy => ?_⟩
    have e12 := e1.trans e2
    obtain ⟨u', g, ow⟩ := dpw_of (e12 _ _ s4) (s5.same e12) hy (hv'.same e2) hc.1 hc.2
    refine ⟨p, _, rfl, g, ?_⟩
    obtain ⟨r', ev⟩ := (r.same e12).growC (dOfU_inv h4) s1 ow
    exact pp σ _ O r' ((Evo.same e12).trans ev)
  · cases h5
end
end Sm
set_option maxRecDepth 10000000
/-! dicts listed, sorted, walked; lists of one's own that are read -/
namespace Sm
open PySem PySem.Spec PyProof.Rows L2 Evl CrT Cr
/-! ### list(d) -/
def rListW (w : World) : List V → Hp → VK → Prop := fun xs H Q => rListD xs H Q ∨ rListX w xs H Q
theorem cr_listW {X : Cx} (hc : X.calm = true) : CallR X (.type "list") (rListW X.w) := cr_or (call_list_dK hc) (call_list_dx hc)
noncomputable def fKeysD (hw : NestedKey → Int) (i : Nat) : FA := fun ρ => (dOfU hw i ρ).bind fun kvs => lim kvs.length (kvs.map (·.1))
section
variable {K : PySem.W.Frag} {A : Atm} {w : World} {i : Nat}
theorem sl_keysD : SL K A (tCB (rListW w) (tCons (tVar i) tNil)) (fKeysD (NestedKey.hash w) i) := fun {H0 O0 O σ H ρ} R ds he Q q => by
  obtain ⟨kvs, h1, h2⟩ := bind_some' he
  obtain ⟨h3, rfl⟩ := lim_some h2
  obtain ⟨p, u, s1, s2, s3, s4, s5⟩ := R.own i _ (dOfU_inv h1)
  refine ⟨_, s1, ?_⟩
  obtain ⟨u0, h0, hh⟩ := own_d s5
  obtain rfl : u = u0 := by
    rcases h0 with ⟨_, h0⟩ | ⟨h0, _⟩
    · exact h0
    · cases h0
  rcases hh with ⟨ks, rfl, pr⟩ | ⟨ks, rfl, hn, pr⟩
  · obtain ⟨f1, f2⟩ := of_paired (kf := fun q => kV q.1) (vf := (·.2)) (fun a b q => ⟨by rw [q.1]; exact fd_keyD _, q.2⟩) pr
    exact .inl ⟨p, ks, rfl, s4, fun l hl => q l _ _ hl (same_new hl) upd_same ((f1.more hl).same (same_new hl))⟩
  · obtain ⟨f1, f2⟩ := of_paired (kf := fun q => V.ref q.2.1) (vf := (·.2.2)) (fun a b q => ⟨q.1.2.2.2, q.2⟩) pr
    exact .inr ⟨p, ks, rfl, s4, fun l hl => q l _ _ hl (same_new hl) upd_same ((f1.more hl).same (same_new hl))⟩
end
/-! ### sorted(d) -/
def rSortW (w : World) (K : PySem.W.Frag) : List V → Hp → VK → Prop := fun xs H Q => (∃ (a : Addr) (kvs : List (Key × V)) (ks : List Int), xs = [.ref a] ∧ Rd H a (.dK kvs) ∧ kvs.map (·.1) = ks.map Sum.inl ∧ ks.length < 64 ∧ ∀ (ys : List Int) (p : Addr), ys.Perm ks → ys.Pairwise (· ≤ ·) → H p = none → Q (.ref p) (upd H p (.lst (ys.map V.int)))) ∨ rSortX w K xs H Q
theorem cr_sortW {X : Cx} (hc : X.calm = true) (hu : X.A.units + 65 < cLine) : CallR X (.builtin "sorted") (rSortW X.w X.K) := cr_or (call_sortedDI hc) (cr_sortX hc hu)
def SortFew (ds : List PyData) : Prop := PySem.W.AllAlike ds ∧ (PySem.W.Sortable ds ∨ ds.length ≤ 1) ∧ (∀ d ∈ ds, d ≠ .none ∧ d.depth ≤ 60) ∧ ds.all (fun d => d.canLay0) = true
open Classical in
noncomputable def fSortD (hw : NestedKey → Int) (i : Nat) : FA := fun ρ => (dOfU hw i ρ).bind fun kvs => if (∀ q ∈ kvs, keyT q.1 = true) ∧ SortFew (kvs.map (·.1)) then some (sortD (kvs.map (·.1))) else none
section
variable {K : PySem.W.Frag} {A : Atm} {w : World} {i : Nat}
theorem sl_sortD : SL K A (tCB (rSortW w K) (tCons (tVar i) tNil)) (fSortD (NestedKey.hash w) i) := fun {H0 O0 O σ H ρ} R ds he Q q => by
  obtain ⟨kvs, h1, h2⟩ := bind_some' he
  split at h2
  · rename_i hs
    cases h2
    obtain ⟨p, u, s1, s2, s3, s4, s5⟩ := R.own i _ (dOfU_inv h1)
    refine ⟨_, s1, ?_⟩
    obtain ⟨u0, h0, hh⟩ := own_d s5
    obtain rfl : u = u0 := by
      rcases h0 with ⟨_, h0⟩ | ⟨h0, _⟩
      · exact h0
      · cases h0
    rcases hh with ⟨ks, rfl, pr⟩ | ⟨ks, rfl, hn, pr⟩
    · cases pr with
      | nil => exact .inl ⟨p, [], [], rfl, .inl s4, rfl, by decide, fun ys l hy _ hl => by
          rw [List.perm_nil.mp hy]
          exact q l _ _ hl (same_new hl) upd_same (by rw [List.map_nil, List.map_nil, show sortD [] = [] by simp [sortD]]; exact .nil)⟩
      | @cons a b as bs q' t =>
        have := hs.1 b List.mem_cons_self
        rw [q'.1] at this
        cases ha : a.1 <;> rw [ha] at this <;> cases this
    · obtain ⟨f1, f2⟩ := of_paired (kf := fun q => V.ref q.2.1) (vf := (·.2.2)) (fun a b q => ⟨q.1.2.2.2, q.2⟩) pr
      have ho := hs.2
      exact .inr ⟨p, ks, _, rfl, s4, fds_dp f1 ho.2.2.2, ho.1, ho.2.1, ho.2.2.1, fun l hl => q l _ _ hl (same_new hl) upd_same (((fds_sorted f1).more hl).same (same_new hl))⟩
  · cases h2
end
/-! ### for k in d, within a comprehension -/
def Itx (hw : NestedKey → Int) (d : Addr) (o : Obj) (ks : List (NestedKey × Addr × V)) : It :=
  ⟨fun i H => H d = some (.frz o (DxO hw d ks)) ∧ i < ks.length, fun i H x H' => H' = H ∧ ∃ q, ks[i]? = some q ∧ x = .ref q.2.1, fun i H => H d = some (.frz o (DxO hw d ks)) ∧ ks.length ≤ i⟩
section
variable {X : Cx} {pins : List (Addr × Obj)} {σ : L2.St} {H : Hp} {s : Shared}
theorem frzX {hw : NestedKey → Int} {d : Addr} {o : Obj} {ks : List (NestedKey × Addr × V)} (I : Inv X pins σ H s) (h : H d = some (.frz o (DxO hw d ks))) :
    (d == sysModules) = false ∧ s.heap.get? d = some o ∧ o.ExactDict ∧ ∃ (es : Array DictEntry) (ep : Nat), o.data = .dict es ep ∧ es.size = ks.length ∧
      ∀ (i : Nat) q, ks[i]? = some q → ∃ (en : DictEntry), es[i]? = some en ∧ en.key = .ref q.2.1 := by
  obtain ⟨hd, ⟨z, hs, xs, pr, o', es, ep, ho, hx, hdt, he, _⟩, _⟩ := (show ObjOk X.prog X.w H s.heap d (.frz o (DxO hw d ks)) from I.hok d _ h)
  rw [hd] at ho
  cases ho
  have l1 : es.size = xs.length := by rw [← Array.length_toList, he, List.length_map]
  have l2 : ks.length = xs.length := Paired.length pr
  refine ⟨hs, hd, hx, es, ep, hdt, by omega, fun i q e => ?_⟩
  obtain ⟨b, hb, e1, e2, _⟩ := paired_get pr e
  have h2 : es.toList[i]? = some ⟨hw b.1, .ref b.2.1, b.2.2⟩ := by rw [he, List.getElem?_map, hb]; rfl
  rw [Array.getElem?_toList] at h2
  exact ⟨_, h2, by rw [e2]⟩
end
section
variable {P : Program} {w : World} {K : PySem.W.Frag} {tg : Expr} {hw : NestedKey → Int} {d : Addr} {o : Obj} {es : Array DictEntry} {ep : Nat}
theorem turn_keysX {ks : List (NestedKey × Addr × V)} (it : Addr) (hod : o.data = .dict es ep) : Turn P w K tg (Itx hw d o ks) [it] it (fun i h => h.IsKeyIter it d i ks.length ep) where
  mem := by simp
  obj := fun i h st b hb => by
    have e : b = it := by simpa using hb
    subst e
    obtain ⟨oi, e, c, dd⟩ := st
    exact ⟨oi, e, fun v z => by rw [dd] at z; cases z⟩
  keep := fun i h h' st k => st.at fun oi e => k it (by simp) oi e
  item := by
    intro X hP hw' hK hc i pins s σ H E I hf st hg
    subst hP hw' hK
    obtain ⟨hd, hi⟩ := hg
    obtain ⟨f0, f1, f2, f3, f4, f5⟩ := hf it (by simp)
    obtain ⟨hs, hgd, hx, es', ep', hdt, hsz, ent⟩ := frzX I hd
    obtain ⟨rfl, rfl⟩ := dict_ep hod hdt
    obtain ⟨q, hq⟩ : ∃ p, ks[i]? = some p := ⟨ks[i], List.getElem?_eq_getElem hi⟩
    obtain ⟨en, hen, hkey⟩ := ent i q hq
    refine next_key_item st hgd hdt hsz hen fun h' st' sb => ?_
    have I1 : Inv X pins σ H { s with heap := h' } := I.turned (t' := s.toks) (fun b ob hb e => (sb.2 b hb).trans e) f0 f1 f3 f4 f5
    obtain ⟨oi, e, c, dd⟩ := id st'
    exact ⟨en.key, rfl, go_of (s := { s with heap := h' }) e c dd (by decide) ⟨.ref q.2.1, H, I1, hkey, ⟨rfl, q, hq, rfl⟩, st', fun b hb => (hf b hb).1⟩⟩
  done := by
    intro X hP hw' hK hc i pins s σ H E I hf st hg
    subst hP hw' hK
    obtain ⟨hd, hi⟩ := hg
    obtain ⟨f0, f1, f2, f3, f4, f5⟩ := hf it (by simp)
    obtain ⟨hs, hgd, hx, es', ep', hdt, hsz, ent⟩ := frzX I hd
    obtain ⟨rfl, rfl⟩ := dict_ep hod hdt
    exact next_key_end (I.ok.hd hc) st hgd hdt hsz hi fun h' eb => ⟨rfl, I.turned (t' := s.toks) (fun b ob hb e => eb b ob hb e) f0 f1 f3 f4 f5⟩
  self := fun A i s Q E st h => by
    refine wpAny_pyIter_slot st.typeIs F.slot_dict_keyiterator_iter (wpAny_call_entry F.slot_dict_keyiterator_iter st.typeIs F.entry_dict_keyiterator_iter ?_ (F.args_dict_keyiterator_iter_1 _))
    show wpAny _ _ (ret (.ref it)) _ _ s
    exact wpAny_pure ⟨_, rfl, "dict_keyiterator", _, st.typeIs, F.slot_dict_keyiterator_next.lookup, h⟩
theorem walk_keysX {ks : List (NestedKey × Addr × V)} : Walk (Itx hw d o ks) ks.length (fun H => H d = some (.frz o (DxO hw d ks))) (fun i H x H' => H' = H ∧ ∃ q, ks[i]? = some q ∧ x = .ref q.2.1) :=
  ⟨fun _ _ hi q => ⟨q, hi⟩, fun _ q => ⟨q, Nat.le_refl _⟩, fun _ _ _ _ _ _ y => y⟩
end
def iKeysW (w : World) (td : TE) : TI := fun σ H R => td σ H fun x H1 => ∃ d o, x = .ref d ∧ ((∃ kvs, H1 d = some (.frz o (.dK kvs)) ∧ R (Itk d o kvs) H1) ∨ ∃ ks, H1 d = some (.frz o (DxO (NestedKey.hash w) d ks)) ∧ R (Itx (NestedKey.hash w) d o ks) H1)
theorem pi_keysW {X : Cx} {tg e : Expr} {td : TE} (he : PE X e td) : PI X tg e (iKeysW X.w td) := by
  refine ⟨fun pins s σ H R I h => ?_⟩
  refine thn (he.run pins s σ H _ I h) fun u s1 ⟨x, H1, I1, rx, d, o, ex, q⟩ => ?_
  subst ex
  obtain rfl : u = Value.ref d := rx
  rcases q with ⟨kvs, hd, q⟩ | ⟨kvs, hd, q⟩
  · obtain ⟨hs, hgd, hx, es, ep, vs, hdt, hsz, kv, hm⟩ := I1.frzK hd
    refine iter_keys hs hgd hx hdt (pi_one (tk := s1.toks) I1 _ (turn_keys _ hdt) ⟨_, Heap.get?_push_size _ rfl, rfl, ?_⟩ q)
    rw [hsz] <;> rfl
  · obtain ⟨hs, hgd, hx, es, ep, hdt, hsz, ent⟩ := frzX I1 hd
    refine iter_keys hs hgd hx hdt (pi_one (tk := s1.toks) I1 _ (turn_keysX _ hdt) ⟨_, Heap.get?_push_size _ rfl, rfl, ?_⟩ q)
    rw [hsz] <;> rfl
/-- a display whose items are walked while nothing changes -/
def WkS (K : PySem.W.Frag) (A : Atm) (O : Addr → Prop) (H : Hp) (J : It) (ds : List PyData) : Prop := ∃ (G : Hp → Prop) (Y : Nat → Hp → V → Hp → Prop), Walk J ds.length G Y ∧ ∀ O' H', Owl O' H' → Evo O H O' H' → Same H H' → G H' ∧ ∀ i x H2, i < ds.length → Y i H' x H2 → Same H' H2 ∧ ∃ d, ds[i]? = some d ∧ Fd K A O' H2 x d
def LcB (g : TG) (tt : TT) (te : TE) (vs : List Nat) (σ : L2.St) (J : It) (H1 : Hp) (Q : VK) : Prop := tLc (fun _ H R => R J H) g tt te vs σ H1 Q
section
variable {K : PySem.W.Frag} {A : Atm} {H0 : Hp} {O0 O : Addr → Prop} {σ : L2.St} {ρ : List Sl} {te : TE} {fe : FE} {tt : TT} {ft : FT}
theorem lc_core {H1 : Hp} {J : It} {ds rs' : List PyData} {tg : TG} {gg : PyData → List Sl → Option (List Sl)} {ws vs : List Nat} {Q : VK} (r0 : Rl K A H0 O0 O σ H1 ρ) (wk : WkS K A O H1 J ds) (hg : SG K A tg gg ws) (hsub : ∀ i ∈ ws, i ∈ vs) (ht : ST K A tt ft) (he : SE K A te fe)
    (h3 : compM (cStep gg ft fe (wpS ρ vs)) ds = some rs') (h5 : rs'.length ≤ 10000000) (q : ∀ p xs H', H1 p = none → Same H1 H' → H' p = some (.lst xs) → Fds K A (Osn O p) H' xs rs' → Q (.ref p) H') : LcB tg tt te vs σ J H1 Q := fun Dl hD => by
  obtain ⟨G, Y, w, hw⟩ := wk
  have r1 := r0.wipe vs
  refine lc_it w (D := Dl) (fun i H' => ∃ acc done rest, Same H1 H' ∧ H' Dl = some (.lst acc) ∧ Fds K A (Osn O Dl) H' acc done ∧ compM (cStep gg ft fe (wpS ρ vs)) (ds.drop i) = some rest ∧ rs' = done ++ rest) ⟨[], [], rs', Cr.same_new hD, upd_same, .nil, h3, rfl⟩ (fun i H' _ hP => ?_) (fun i x H' H2 hi' hP hy => ?_) (fun H' hP => ?_)
  · obtain ⟨acc, done, rest, e, _⟩ := hP
    exact (hw O H' (r1.owl.same e) (.same e) e).1
  · obtain ⟨acc, done, rest, e, hDl, hacc, hc, hrs⟩ := hP
    have r2 := r1.osn hD e hDl
    have ev : Evo O H1 (Osn O Dl) H' := fun a o ha hn => ⟨e _ _ ha, fun h => by
      rcases h with h | h
      · rw [h, hD] at ha
        cases ha
      · exact hn h⟩
    obtain ⟨e2, d, hd, hx⟩ := (hw (Osn O Dl) H' r2.owl ev e).2 i x H2 hi' hy
    have hdr : ds.drop i = d :: ds.drop (i + 1) := by
      obtain ⟨hlt, rfl⟩ := List.getElem?_eq_some_iff.mp hd
      exact List.drop_eq_getElem_cons hlt
    rw [hdr] at hc
    obtain ⟨o, hs1, hs2⟩ := bind_some' hc
    obtain ⟨rr, hs3, hs4⟩ := bind_some' hs2
    obtain ⟨ρ1, hs5, hs6⟩ := bind_some' hs1
    obtain ⟨b, hs7, hs8⟩ := bind_some' hs6
    refine hg (r2.same e2) hx ρ1 hs5 _ fun σ2 r3 l3 k3 _ => ⟨?_, ht r3 b hs7 _ fun H3 e3 => ?_⟩
    · rw [wipe_ext (σ := L2.wipe σ vs) (by rw [l3]) (fun i hi => k3 i fun h => hi (hsub i h)), wipe_wipe]
    · cases b with
      | true =>
        obtain ⟨y, hy1, hy2⟩ := bind_some' (show ((fe ρ1).bind fun y => some (some y)) = some o from hs8)
        cases hy2
        cases hs4
        refine iteT (he (r3.same e3) y hy1 _ fun v H4 e4 hv => ?_)
        have e24 := (e2.trans e3).trans e4
        have hD4 : H4 Dl = some (.lst acc) := e24 _ _ hDl
        have hacc4 := hacc.same e24
        have ho4 : Owl (Osn O Dl) H4 := r2.owl.same e24
        have ev4 : Evo (Osn O Dl) H4 (Osn O Dl) (upd H4 Dl (.lst (acc ++ [v]))) := fun a o ha hn => ⟨by
          rw [upd_ne (fun e => hn (.inl e))]
          exact ha, hn⟩
        refine ⟨acc, hD4, ?_, acc ++ [v], done ++ [y], rr, ?_, upd_same, (hacc4.snoc hv).evo ho4 ev4, hs3, by rw [hrs]; simp⟩
        · have h6 : acc.length = done.length := hacc.1
          have h7 : (done ++ y :: rr).length ≤ 10000000 := by rw [← hrs]; exact h5
          rw [List.length_append, List.length_cons] at h7
          exact Nat.lt_of_lt_of_le (show acc.length < 10000000 by omega) (by decide)
        · exact Cr.same_mut (e.trans e24) hD
      | false =>
        cases hs8
        cases hs4
        exact iteF ⟨acc, done, rr, e.trans (e2.trans e3), (e2.trans e3) _ _ hDl, hacc.same (e2.trans e3), hs3, hrs⟩
  · obtain ⟨acc, done, rest, e, hDl, hacc, hc, hrs⟩ := hP
    rw [List.drop_length] at hc
    cases hc
    rw [List.append_nil] at hrs
    subst hrs
    exact q Dl acc H' hD e hDl hacc
noncomputable def fCompD (hw : NestedKey → Int) (i : Nat) (g : PyData → List Sl → Option (List Sl)) (t : FT) (e : FE) (vs : List Nat) : FA := fun ρ => (dOfU hw i ρ).bind fun kvs => (compM (cStep g t e (wpS (ρ.set i (.own (.d hw true kvs))) vs)) (kvs.map (·.1))).bind fun r => lim r.length r
theorem sl_lcD {w : World} {i : Nat} {tg : TG} {gg : PyData → List Sl → Option (List Sl)} {ws vs : List Nat} (hg : SG K A tg gg ws) (hsub : ∀ i ∈ ws, i ∈ vs) (ht : ST K A tt ft) (he : SE K A te fe) : SL K A (tLockE (tLc (iKeysW w (tVar i)) tg tt te vs)) (fCompD (NestedKey.hash w) i gg ft fe vs) := fun {H0 O0 O σ H ρ} r rs hr Q q => by
  obtain ⟨kvs, h1, h2⟩ := bind_some' hr
  obtain ⟨rs', h3, h4⟩ := bind_some' h2
  obtain ⟨h5, rfl⟩ := lim_some h4
  obtain ⟨p, u, s1, s2, s3, s4, s5⟩ := r.own i _ (dOfU_inv h1)
  obtain ⟨u0, h0, hh⟩ := own_d s5
  obtain rfl : u = u0 := by
    rcases h0 with ⟨_, h0⟩ | ⟨h0, _⟩
    · exact h0
    · cases h0
  refine ⟨p, u, s4, ?_, fun od => ?_⟩
  · rcases hh with ⟨ks, rfl, pr⟩ | ⟨ks, rfl, hn, pr⟩ <;> trivial
  have ow : OwnO K A O H p (.frz od u) (.d (NestedKey.hash w) true kvs) := by
    rcases hh with ⟨ks, rfl, pr⟩ | ⟨ks, rfl, hn, pr⟩
    · exact ownK (.inr ⟨rfl, od, rfl⟩) pr
    · exact ownT (.inr ⟨rfl, od, rfl⟩) hn pr
  obtain ⟨r1, ev⟩ := r.growC (dOfU_inv h1) s1 ow
  have fin : ∀ p' xs H', upd H p (.frz od u) p' = none → Same (upd H p (.frz od u)) H' → H' p' = some (.lst xs) → Fds K A (Osn O p') H' xs rs' → H' p = some (.frz od u) ∧ Q (.ref p') (upd H' p u) := fun p' xs H' hp' e hx hxs => by
    have hpp : p' ≠ p := fun e => by
      rw [e, upd_same] at hp'
      cases hp'
    rw [upd_ne hpp] at hp'
    refine ⟨e _ _ upd_same, q p' xs _ hp' (fun a o ha => ?_) (by rw [upd_ne hpp]; exact hx) ?_⟩
    · by_cases hap : a = p
      · subst hap
        rw [s4] at ha
        rw [upd_same, ha]
      · rw [upd_ne hap]
        exact e _ _ (by rw [upd_ne hap]; exact ha)
    · refine hxs.evo (O := Osn O p') (H := H') ?_ fun a o ha hn => ⟨?_, hn⟩
      · intro a ha
        rcases ha with rfl | ha
        · exact ⟨_, hx, trivial⟩
        · exact r1.owl.same e a ha
      · rw [upd_ne (fun e => hn (.inr (by rw [e]; exact s2)))]
        exact ha
  refine ⟨_, s1, p, od, rfl, ?_⟩
  rcases hh with ⟨ks, rfl, pr⟩ | ⟨ks, rfl, hn, pr⟩
  · obtain ⟨f1, f2⟩ := of_paired (kf := fun q => kV q.1) (vf := (·.2)) (fun a b q => ⟨by rw [q.1]; exact fd_keyD _, q.2⟩) pr
    refine .inl ⟨ks, upd_same, ?_⟩
    refine lc_core (Q := fun v H' => H' p = some (.frz od (.dK ks)) ∧ Q v (upd H' p (.dK ks))) r1 ⟨fun H => H p = some (.frz od (.dK ks)), fun i H x H' => H' = H ∧ ∃ k v, ks[i]? = some (k, v) ∧ x = kV k, ?_, fun O' H' ho' ev' e' => ⟨e' _ _ upd_same, fun j x H2 hj hy => ?_⟩⟩ hg hsub ht he h3 h5 fin
    · rw [List.length_map, ← Paired.length pr]
      exact walk_keys
    · obtain ⟨rfl, k, v, hk, rfl⟩ := hy
      obtain ⟨d, hd, hf⟩ := f1.get' (i := j) (v := kV k) (by rw [List.getElem?_map, hk]; rfl)
      exact ⟨.refl _, d, hd, hf.evo r.owl (ev.trans ev')⟩
  · obtain ⟨f1, f2⟩ := of_paired (kf := fun q => V.ref q.2.1) (vf := (·.2.2)) (fun a b q => ⟨q.1.2.2.2, q.2⟩) pr
    refine .inr ⟨ks, upd_same, ?_⟩
    refine lc_core (Q := fun v H' => H' p = some (.frz od (DxO (NestedKey.hash w) p ks)) ∧ Q v (upd H' p (DxO (NestedKey.hash w) p ks))) r1 ⟨fun H => H p = some (.frz od (DxO (NestedKey.hash w) p ks)), fun i H x H' => H' = H ∧ ∃ q, ks[i]? = some q ∧ x = .ref q.2.1, ?_, fun O' H' ho' ev' e' => ⟨e' _ _ upd_same, fun j x H2 hj hy => ?_⟩⟩ hg hsub ht he h3 h5 fin
    · rw [List.length_map, ← Paired.length pr]
      exact walk_keysX
    · obtain ⟨rfl, k, hk, rfl⟩ := hy
      obtain ⟨d, hd, hf⟩ := f1.get' (i := j) (v := V.ref k.2.1) (by rw [List.getElem?_map, hk]; rfl)
      exact ⟨.refl _, d, hd, hf.evo r.owl (ev.trans ev')⟩
end
/-! ### lists of one's own that are read between changes -/
mutual
def noL : PyData → Bool
  | .tuple ds => noLs ds
  | .int _ => true
  | .str _ => true
  | .bool _ => true
  | .none => true
  | _ => false
def noLs : List PyData → Bool
  | [] => true
  | d :: ds => noL d && noLs ds
end
theorem noLs_mem : ∀ {ds : List PyData}, noLs ds = true → ∀ d ∈ ds, noL d = true
  | [], _, _, h => by cases h
  | d :: ds, h, e, he => by
    unfold noLs at h
    obtain ⟨h1, h2⟩ := Bool.and_eq_true_iff.mp h
    rcases List.mem_cons.mp he with rfl | he
    · exact h1
    · exact noLs_mem h2 e he
theorem noLs_of : ∀ {ds : List PyData}, (∀ d ∈ ds, noL d = true) → noLs ds = true
  | [], _ => by unfold noLs; rfl
  | d :: ds, h => by
    unfold noLs
    rw [h d List.mem_cons_self, noLs_of fun e he => h e (List.mem_cons_of_mem _ he)]
    rfl
mutual
theorem noL_flat : ∀ d : PyData, flatD d = true → noL d = true
  | .int _, _ => by rw [noL]
  | .str _, _ => by rw [noL]
  | .tuple ds, h => by
    rw [noL]
    rw [flatD] at h
    exact noL_flats ds h
  | .list _, h => by simp [flatD] at h
  | .bool _, h => by simp [flatD] at h
  | .none, h => by simp [flatD] at h
  | .dict _, h => by simp [flatD] at h
theorem noL_flats : ∀ ds : List PyData, flatDs ds = true → noLs ds = true
  | [], _ => by unfold noLs; rfl
  | d :: ds, h => by
    unfold flatDs at h
    obtain ⟨h1, h2⟩ := Bool.and_eq_true_iff.mp h
    unfold noLs
    rw [noL_flat d h1, noL_flats ds h2]
    rfl
end
theorem Fd.nol {K : PySem.W.Frag} {A : Atm} {O O' : Addr → Prop} {H : Hp} {v : V} {d : PyData} (h : Fd K A O H v d) (hn : noL d = true) : Fd K A O' H v d := by
  induction h with
  | non => exact .non
  | bl b => exact .bl b
  | int i => exact .int i
  | str x => exact .str x
  | tup hs hl _ ih => exact .tup hs hl fun i v d h1 h2 => ih i v d h1 h2 (noLs_mem (by simpa [noL] using hn) d (List.mem_of_getElem? h2))
  | lst => simp [noL] at hn
  | fn => simp [noL] at hn
def fTmp (j : Nat) (fe : FE) : FE := fun ρ => (fe (frz j ρ)).bind fun d => if noL d then some d else none
def fTmpT (j : Nat) (ft : FT) : FT := fun ρ => ft (frz j ρ)
def fTmpL (j : Nat) (fa : FA) : FA := fun ρ => (fa (frz j ρ)).bind fun ds => if noLs ds then some ds else none
section
variable {K : PySem.W.Frag} {A : Atm} {te : TE} {fe : FE} {tt : TT} {ft : FT} {fas : FA}
theorem se_tmp (j : Nat) (h : SE K A te fe) : SE K A te (fTmp j fe) := fun R d hd Q q => by
  obtain ⟨e, h1, h2⟩ := bind_some' hd
  split at h2
  · rename_i hn
    cases h2
    obtain ⟨O', r', ev, _⟩ := R.frz j
    exact h r' _ h1 Q fun v H' s hv => q v H' s (hv.nol hn)
  · cases h2
theorem st_tmp (j : Nat) (h : ST K A tt ft) : ST K A tt (fTmpT j ft) := fun R b hb Q q => by
  obtain ⟨O', r', ev, _⟩ := R.frz j
  exact h r' b hb Q q
theorem sl_tmp (j : Nat) (h : SL K A te fas) : SL K A te (fTmpL j fas) := fun R ds hd Q q => by
  obtain ⟨es, h1, h2⟩ := bind_some' hd
  split at h2
  · rename_i hn
    cases h2
    obtain ⟨O', r', ev, _⟩ := R.frz j
    exact h r' _ h1 Q fun p xs H' hp s hx hv => q p xs H' hp s hx ⟨hv.1, fun i v d a b => (hv.2 i v d a b).nol (noLs_mem hn d (List.mem_of_getElem? b))⟩
  · cases h2
end
end Sm
set_option maxRecDepth 10000000
/-! dicts displayed; draws, appends and tests that take, in the layer of boxes -/
namespace Sm
open PySem PySem.Spec PyProof.Rows L2 Evl CrT Cr
theorem Rl.osnC {K : PySem.W.Frag} {A : Atm} {H0 : Hp} {O0 O : Addr → Prop} {σ : L2.St} {H H' : Hp} {ρ : List Sl} (r : Rl K A H0 O0 O σ H ρ) {p : Addr} {u : HO} (hp : H p = none) (e : Same H H') (hx : H' p = some u) (hu : Mu u) : Rl K A H0 O0 (Osn O p) σ H' ρ where
  len := r.len
  val := fun i d h => by
    obtain ⟨v, h1, h2⟩ := r.val i d h
    exact ⟨v, h1, (h2.more hp).same e⟩
  own := fun i ds h => by
    obtain ⟨q, xs, h1, h2, h3, h4, h5⟩ := r.own i ds h
    exact ⟨q, xs, h1, .inr h2, h3, e _ _ h4, (h5.more hp).same e⟩
  inj := r.inj
  owl := fun a h => by
    rcases h with rfl | h
    · exact ⟨_, hx, hu⟩
    · exact r.owl.same e a h
  frm := r.frm.trans e
  sub := fun a h => .inr (r.sub a h)
  old := r.old
/-! ### displays -/
abbrev FP := List Sl → Option (List (PyData × PyData))
def fPnil : FP := fun _ => some []
def fPcons (fk fv : FE) (fr : FP) : FP := fun ρ => (fk ρ).bind fun k => (fv ρ).bind fun v => (fr ρ).bind fun r => if fl k then some ((k, v) :: r) else none
noncomputable def mergeD (acc : List (PyData × PyData)) (kvs : List (PyData × PyData)) : List (PyData × PyData) := kvs.foldl (fun m kv => putD m kv.1 kv.2) acc
noncomputable def fDisp (hw : NestedKey → Int) (i : Nat) (fp : FP) : FS := fun ρ => (fp ρ).bind fun kvs => if kvs.length ≤ 15 then some (.nx, ρ.set i (.own (.d hw false (mergeD [] kvs)))) else none
section
variable {K : PySem.W.Frag} {A : Atm} {w : World}
def SPr (K : PySem.W.Frag) (A : Atm) (trs : List (TE × TE)) (f : FP) : Prop := ∀ {H0 : Hp} {O0 O : Addr → Prop} {σ : L2.St} {H : Hp} {ρ : List Sl}, Rl K A H0 O0 O σ H ρ → ∀ kvs, f ρ = some kvs → ∀ Q : List (V × V) → Hp → Prop, (∀ (ps : List (Key × V)) H', Same H H' → Paired (RK K A O H') ps kvs → Q (ps.map fun q => (kV q.1, q.2)) H') → tPairs trs σ H Q
theorem spr_nil : SPr K A [] fPnil := fun R kvs h Q q => by
  cases h
  exact q [] _ (.refl _) .nil
theorem spr_cons {tk tv : TE} {fk fv : FE} {trs : List (TE × TE)} {fr : FP} (hk : SE K A tk fk) (hv : SE K A tv fv) (hr : SPr K A trs fr) : SPr K A ((tk, tv) :: trs) (fPcons fk fv fr) := fun R kvs h Q q => by
  obtain ⟨k, h1, h⟩ := bind_some' h
  obtain ⟨v, h2, h⟩ := bind_some' h
  obtain ⟨r, h3, h⟩ := bind_some' h
  split at h
  · rename_i hf
    cases h
    refine hk R k h1 _ fun x H1 e1 hx => hv (R.same e1) v h2 _ fun y H2 e2 hy => hr (R.same (e1.trans e2)) r h3 _ fun ps H3 e3 hp => ?_
    obtain ⟨key, rfl, rfl⟩ := fl_kV hx hf
    exact q ((key, y) :: ps) H3 ((e1.trans e2).trans e3) (.cons ⟨rfl, hy.same e3⟩ hp)
  · cases h
theorem merge_rk {O : Addr → Prop} {H : Hp} : ∀ {ps : List (Key × V)} {kvs : List (PyData × PyData)} {acc : List (Key × V)} {bcc : List (PyData × PyData)}, Paired (RK K A O H) ps kvs → Paired (RK K A O H) acc bcc → Paired (RK K A O H) (mergeK acc ps) (mergeD bcc kvs)
  | [], [], _, _, .nil, h => h
  | p :: ps, q :: kvs, acc, bcc, .cons h t, g => by
    show Paired (RK K A O H) (mergeK (putK acc p.1 p.2) ps) (mergeD (putD bcc q.1 q.2) kvs)
    exact merge_rk t (put_k g h.1 h.2)
theorem ss_disp {i : Nat} {trs : List (TE × TE)} {fp : FP} (h : SPr K A trs fp) : SS K A (tAsg (tDisp trs) (gName i)) (fDisp (NestedKey.hash w) i fp) := fun {H0 O0 O σ H ρ} r o ho D p => by
  obtain ⟨kvs, h1, h2⟩ := bind_some' ho
  split at h2
  · rename_i hl
    cases h2
    intro q hq
    have r1 := r.osnC (H' := upd H q (.dK [])) hq (same_new hq) upd_same trivial
    refine h r1 kvs h1 _ fun ps H2 e2 hp => ⟨e2 _ _ upd_same, ps, rfl, by rw [Paired.length hp]; exact hl, ?_⟩
    have e02 : Same H (upd H2 q (.dK (mergeK [] ps))) := same_mut ((same_new (o := .dK []) hq).trans e2) hq
    have ev : Evo (Osn O q) H2 (Osn O q) (upd H2 q (.dK (mergeK [] ps))) := fun a o ha hn => ⟨by
      rw [upd_ne (fun e => hn (.inl e))]
      exact ha, hn⟩
    have hp' : Paired (RK K A (Osn O q) (upd H2 q (.dK (mergeK [] ps)))) ps kvs := Paired.mapP hp fun a b z => ⟨z.1, z.2.evo (r1.same e2).owl ev⟩
    have rr := r.setOwnC (H' := upd H2 q (.dK (mergeK [] ps))) (ds := .d (NestedKey.hash w) false (mergeD [] kvs)) i hq e02 upd_same (ownK (.inl ⟨rfl, rfl⟩) (merge_rk hp' .nil))
    refine p _ _ (Osn O q) rr fun a o ha hn => ⟨e02 _ _ ha, fun h => ?_⟩
    rcases h with h | h
    · rw [h, hq] at ha
      cases ha
    · exact hn h
  · cases h2
end
theorem rc_min {K : PySem.W.Frag} {A : Atm} : RDs K A (fun xs H Q => ∃ i j, xs = [.int i, .int j] ∧ Q (.int (if j < i then j else i)) H) gMin := fun {O H xs ds} ho hx c hc Q q => by
  unfold gMin at hc
  split at hc
  · cases hc
    obtain ⟨v, ws, rfl, h1, h2⟩ := hx.head
    obtain ⟨u, rfl, h3⟩ := one_inv h2
    cases h1.int_inv; cases h3.int_inv
    exact ⟨_, _, rfl, q _ _ (.refl _) (.int _)⟩
  · cases hc
/-! ### draws -/
def DrawOk : List Int → List Int → Prop := Paired fun m x => 0 ≤ x ∧ x < m
theorem draw_len {ms xs : List Int} (h : DrawOk ms xs) : ms.length = xs.length := Paired.length h
theorem draw_snoc {ms xs : List Int} {i : Nat} {m x : Int} (h : DrawOk (ms.take i) xs) (hm : ms[i]? = some m) (h0 : 0 ≤ x) (h1 : x < m) : DrawOk (ms.take (i + 1)) (xs ++ [x]) := by
  rw [List.take_add_one, hm]
  exact Paired.snoc h ⟨h0, h1⟩
theorem draw_get {ms xs : List Int} {i : Nat} {m : Int} (h : DrawOk ms xs) (hm : ms[i]? = some m) : ∃ x, xs[i]? = some x ∧ 0 ≤ x ∧ x < m := paired_get h hm
def spDrawB (K : PySem.W.Frag) : Sp := fun vs H Q _ => ∃ (a b : Addr) (ns ms : List Int) (k : Nat), vs = [.ref a, .int (k : Int), .ref b] ∧ SqL K H a (ns.map V.int) ∧ SqL K H b (ms.map V.int) ∧ ms.length ≤ 1000 ∧ (∀ m ∈ ms, 0 < m ∧ m < 1073741824) ∧
  ∀ p (xs : List Int) H', Same H H' → H p = none → H' p = some (.lst (xs.map V.int)) → DrawOk ms xs → Q (.ref p) H'
def wDraw (wa : WA) : WE := fun ρ Q => wa ρ fun ds => ∃ (k : Nat) (ms : List Int), ds = [.dict [], .int k, .list (ms.map .int)] ∧ ms.length ≤ 1000 ∧ (∀ m ∈ ms, 0 < m ∧ m < 1073741824) ∧ ∀ xs, DrawOk ms xs → Q (.list (xs.map .int))
theorem fds_ints {K : PySem.W.Frag} {A : Atm} {O : Addr → Prop} {H : Hp} : ∀ {ms : List Int} {xs : List V}, Fds K A O H xs (ms.map .int) → xs = ms.map V.int
  | [], xs, h => by rw [h.nil_inv]; rfl
  | m :: ms, xs, h => by
    obtain ⟨v, ws, rfl, h1, h2⟩ := h.head
    rw [fds_ints h2, h1.int_inv]
    rfl
theorem ints_fds {K : PySem.W.Frag} {A : Atm} {O : Addr → Prop} {H : Hp} : ∀ (ms : List Int), Fds K A O H (ms.map V.int) (ms.map .int)
  | [] => .nil
  | m :: ms => .cons (.int m) (ints_fds ms)
section
variable {K : PySem.W.Frag} {tas : TA} {was : WA}
theorem sw_draw {E : XK} (h : SWs K tas was) : SW K (tCall (spDrawB K) [] E tas) (wDraw was) := fun {a ns bs H0 O0 O σ H ρ} w Q hQ Q' q => by
  refine h w _ hQ _ fun vs ds H1 m1 hvs hQ1 => ?_
  obtain ⟨k, ms, rfl, hl, hm, hQ2⟩ := hQ1
  obtain ⟨v, ws, rfl, h1, h2⟩ := hvs.head
  obtain ⟨u, ws, rfl, h3, h4⟩ := h2.head
  obtain ⟨x, rfl, h5⟩ := one_inv h4
  cases h3.int_inv
  obtain ⟨b, xs, rfl, hb, hnb, hxs⟩ := h5.lst_inv
  cases fds_ints hxs
  cases h1 with
  | @fn f kvs hA =>
    cases abx_scr hA
    have w1 := w.wm m1
    refine ⟨_, b, ns, ms, k, rfl, w1.scrH, sq_of hb, hl, hm, fun p xs H2 e2 hp hx hd => q _ (.list (xs.map .int)) H2 (m1.trans (.same e2)) ?_ (hQ2 xs hd)⟩
    exact (ints_fds xs).lst hx (w1.r.owl.none hp)
/-! ### appends -/
def wApp (i : Nat) (we : WE) : WS := fun n ρ Q => ∃ ds, ρ[i]? = some (.own (.l ds)) ∧ ds.length + 1 ≤ 10000000 ∧ we ρ fun d => Q .nx n (ρ.set i (.own (.l (ds ++ [d]))))
theorem wm_own {a : Addr} {ns : List Int} {bs : List Addr} {H0 : Hp} {O0 O : Addr → Prop} {σ : L2.St} {H H' : Hp} {ρ : List Sl} (w : RW K a ns bs H0 O0 O σ H ρ) (m : WM bs H H') {i : Nat} {c : OC} {p : Addr} {u : HO} (hi : ρ[i]? = some (.own c)) (hs : σ[i]? = some (some (.ref p))) (hp : H p = some u) : H' p = some u :=
  m.1 _ _ (fun hb => (w.box p hb).2.2.1 ⟨i, c, hi, hs⟩) hp
theorem ssw_app {te : TE} {we : WE} {i : Nat} (h : SW K te we) : SSw K (tDrop (tBM K "list" rAppend (tVar i) (tCons te tNil))) (wApp i we) := fun {a ns bs H0 O0 O σ H ρ} w Q hQ D p => by
  obtain ⟨ds, hi0, hl, hQ⟩ := hQ
  obtain ⟨q, _, s1, s2, s3, s4, xs, rfl, s5⟩ := w.r.own i _ hi0
  refine ⟨_, s1, .inl ⟨rfl, xs, sq_of s4⟩, h w _ hQ _ fun v d H1 m1 hv hQ2 => ?_⟩
  have hx := wm_own w m1 hi0 s1 s4
  have w1 := w.wm m1
  have s5' := s5.evo w.r.owl (w.evo m1)
  refine ⟨q, xs, v, rfl, rfl, hx, Nat.lt_of_lt_of_le (Nat.lt_succ_self _) (sz100 (by rw [s5.1]; exact hl)), ?_⟩
  obtain ⟨r', ev⟩ := w1.lift.grow hi0 s1 hx (s5'.snoc hv)
  exact p .nx _ _ hQ2 bs σ _ O .refl rfl (w1.back r') ((w.evo m1).trans ev)
end
/-! ### tests that take -/
abbrev WT := List Sl → (Bool → Prop) → Prop
def STW (K : PySem.W.Frag) (t : TT) (w : WT) : Prop := ∀ {a : Addr} {ns : List Int} {bs : List Addr} {H0 : Hp} {O0 O : Addr → Prop} {σ : L2.St} {H : Hp} {ρ : List Sl}, RW K a ns bs H0 O0 O σ H ρ → ∀ Q, w ρ Q → ∀ Q' : Bool → Hp → Prop, (∀ b H', WM bs H H' → Q b → Q' b H') → t σ H Q'
def wtOf (ft : FT) : WT := fun ρ Q => ∃ b, ft ρ = some b ∧ Q b
def wtB (we : WE) : WT := fun ρ Q => we ρ fun d => ∃ b, d = .bool b ∧ Q b
def wtAnd (a b : WT) : WT := fun ρ Q => a ρ fun x => if x then b ρ Q else Q false
def wtOr (a b : WT) : WT := fun ρ Q => a ρ fun x => if x then Q true else b ρ Q
def wIfW (t : WT) (w1 w2 : WS) : WS := fun n ρ Q => t ρ fun b => if b then w1 n ρ Q else w2 n ρ Q
section
variable {K : PySem.W.Frag} {tt tu : TT} {wt wu : WT} {te : TE} {we : WE}
theorem stw_of {ft : FT} (h : ∀ A, ST K A tt ft) : STW K tt (wtOf ft) := fun {a ns bs H0 O0 O σ H ρ} w Q hQ Q' q => by
  obtain ⟨b, h1, h2⟩ := hQ
  exact h (Abx a bs) w.r b h1 Q' fun H' e => q b H' (.same e) h2
theorem stw_test (h : SW K te we) : STW K (tTest te) (wtB we) := fun w Q hQ Q' q => by
  refine h w _ hQ _ fun v d H1 m1 hv hQ1 => ?_
  obtain ⟨b, rfl, hQ2⟩ := hQ1
  exact ⟨b, hv.bl_inv, q b H1 m1 hQ2⟩
theorem stw_and (h : STW K tt wt) (h' : STW K tu wu) : STW K (tAnd tt tu) (wtAnd wt wu) := fun w Q hQ Q' q => by
  refine h w _ hQ _ fun x H1 m1 hQ1 => ?_
  cases x with
  | true => exact iteT (h' (w.wm m1) Q hQ1 Q' fun b H2 m2 hb => q b H2 (m1.trans m2) hb)
  | false => exact iteF (q false H1 m1 hQ1)
theorem stw_or (h : STW K tt wt) (h' : STW K tu wu) : STW K (tOr tt tu) (wtOr wt wu) := fun w Q hQ Q' q => by
  refine h w _ hQ _ fun x H1 m1 hQ1 => ?_
  cases x with
  | false => exact iteF (h' (w.wm m1) Q (by simpa using hQ1) Q' fun b H2 m2 hb => q b H2 (m1.trans m2) hb)
  | true => exact iteT (q true H1 m1 hQ1)
theorem ssw_ifW {t u : TS} {w1 w2 : WS} (ht : STW K tt wt) (h1 : SSw K t w1) (h2 : SSw K u w2) : SSw K (tIfS tt t u) (wIfW wt w1 w2) := fun {a ns bs H0 O0 O σ H ρ} w Q hQ D p => by
  refine ht w _ hQ _ fun b H1 m1 hQ1 => ?_
  have w1' := w.wm m1
  cases b with
  | true => exact iteT (h1 w1' Q hQ1 D fun fl n ρ' hq => (p fl n ρ' hq).evo .refl (w.evo m1))
  | false => exact iteF (h2 w1' Q (by simpa using hQ1) D fun fl n ρ' hq => (p fl n ρ' hq).evo .refl (w.evo m1))
end
end Sm
/-! all rows of a generator, with their values -/
namespace Cr
open PySem PySem.Spec PyProof.Rows L2 Evl CrT
abbrev VR := PyData × List Int
abbrev TR := List PyData × List Int
def rowD (r : List Int) : PyData := .tuple (r.map PyData.int)
def pairD (p : VR) : PyData := .tuple [p.1, rowD p.2]
def tupR (p : TR) : VR := (.tuple p.1, p.2)
/-- rows beside parts, with choices ahead of each part's row -/
def besideG (rows : List TR) (parts : List VR) (ahead : List Int) : List TR := rows.flatMap fun r => parts.map fun p => (r.1 ++ [p.1], r.2 ++ ahead ++ p.2)
/-- what evaluates to a new list of data -/
def EvLD (K : PySem.W.Frag) (te : TE) (σ : L2.St) (H : Hp) (ds : List PyData) : Prop := ∀ H1, Ex H H1 → ∀ Q : VK, (∀ p vs H2, H1 p = none → Ex H1 H2 → H2 p = some (.lst vs) → Vds K H2 vs ds → Q (.ref p) H2) → te σ H1 Q
section
variable {K : PySem.W.Frag} {σ : L2.St} {H H' : Hp} {te tl ta tb : TE} {tt : TT} {tz : TS} {D : Ends}
theorem evd_of {v : V} {d : PyData} (h : Ev te σ H v) (hv : Vd K H v d) : EvD K te σ H d := fun H1 e Q q => h H1 e _ fun H2 e2 => q v H2 e2 (hv.keep (Kt.same (e.trans e2)))
/-- tuples joined -/
theorem evd_cat {ds es : List PyData} (h1 : EvD K ta σ H (.tuple ds)) (h2 : EvD K tb σ H (.tuple es)) (hl : ds.length + es.length ≤ 1000) : EvD K (tOp (rCatA K) ta tb) σ H (.tuple (ds ++ es)) := fun H1 e Q q =>
  h1 H1 e _ fun v H2 e2 hv => h2 H2 (e.trans e2) _ fun w H3 e3 hw => by
    obtain ⟨a, rfl⟩ := hv.ref
    obtain ⟨b, rfl⟩ := hw.ref
    obtain ⟨xs, hxs, hxv⟩ := (hv.keep (Kt.same e3)).all
    obtain ⟨ys, hys, hyv⟩ := hw.all
    have l1 := hxv.1
    have l2 := hyv.1
    refine ⟨a, b, xs, ys, rfl, rfl, hxs, hys, Nat.le_of_lt (small1000 (by omega)), fun h => ?_, fun _ h => ?_, fun _ _ p hp => ?_⟩
    · subst h
      have e0 : ds = [] := List.eq_nil_of_length_eq_zero (by simpa using l1.symm)
      subst e0
      exact q _ H3 (e2.trans e3) hw
    · subst h
      have e0 : es = [] := List.eq_nil_of_length_eq_zero (by simpa using l2.symm)
      subst e0
      exact q _ H3 (e2.trans e3) (by rw [List.append_nil]; exact hv.keep (Kt.same e3))
    · exact q _ _ ((e2.trans e3).trans (Ex.new hp)) (((hxv.app hyv).keep (Kt.new hp)).tup (.of upd_same))
/-- a comprehension with two names over a list of pairs -/
theorem eld_lc2 {a : Addr} {xs : List V} {ps : List VR} {j1 j2 : Nat} {vs : List Nat} (b : VR → Bool) (f : VR → PyData) (h : Ev tl σ H (.ref a)) (hx : SqL K H a xs) (hps : Vds K H xs (ps.map pairD)) (hz : xs.length ≤ 40000)
    (hw : ∀ x y, wipe (((wipe σ vs).set j1 (some x)).set j2 (some y)) vs = wipe σ vs)
    (ht : ∀ (p : VR) (v r : V) H1, Ex H H1 → p ∈ ps → Vd K H1 v p.1 → Vd K H1 r (rowD p.2) → EvT tt (((wipe σ vs).set j1 (some v)).set j2 (some r)) H1 (b p))
    (he : ∀ (p : VR) (v r : V) H1, Ex H H1 → p ∈ ps → b p = true → Vd K H1 v p.1 → Vd K H1 r (rowD p.2) → EvD K te (((wipe σ vs).set j1 (some v)).set j2 (some r)) H1 (f p)) :
    EvLD K (tLc (iList K tl) (gTup K 2 (gCons (gName j1) (gCons (gName j2) gNil))) tt te vs) σ H ((ps.filter b).map f) := fun H0 e Q q => h H0 e _ fun H1 e1 => ⟨a, rfl, ⟨xs, ex_l (e.trans e1) hx⟩, fun Dl hD => by
  have hpl : xs.length = ps.length := by rw [hps.1, List.length_map]
  refine lc_list (K := K) (a := a) (xs := xs) (fun i H' => ∃ us : List V, H' Dl = some (.lst us) ∧ us.length ≤ i ∧ Vds K H' us (((ps.take i).filter b).map f) ∧ Same H1 H') ⟨[], upd_same, Nat.le_refl _, by rw [List.take_zero]; exact .nil, Ex.new hD⟩ (fun i H2 _ hP => ?_) (fun i z H2 hz2 hP => ?_) (fun H2 hP => ?_)
  · obtain ⟨_, _, _, _, s⟩ := hP
    exact ex_l ((e.trans e1).trans s) hx
  · obtain ⟨us, hDu, hul, hus, s⟩ := hP
    have hi : i < ps.length := by have := (List.getElem?_eq_some_iff.mp hz2).1; omega
    obtain ⟨p, hp⟩ : ∃ p, ps[i]? = some p := ⟨_, List.getElem?_eq_getElem hi⟩
    have hpm := List.mem_of_getElem? hp
    have hzp : Vd K H2 z (pairD p) := (hps.2 i z _ hz2 (by rw [List.getElem?_map, hp]; rfl)).keep (Kt.same ((e.trans e1).trans s))
    obtain ⟨c, v, r, rfl, hc, hv, hr⟩ := hzp.g2
    refine ⟨c, _, rfl, hc, rfl, v, _, rfl, r, _, rfl, rfl, hw _ _, ?_⟩
    refine ht p v r H2 ((e.trans e1).trans s) hpm hv hr H2 (Ex.refl _) _ fun H3 s3 => ?_
    have tk : ps.take (i + 1) = ps.take i ++ [p] := by rw [List.take_add_one, hp]; rfl
    cases hb : b p with
    | false =>
      refine ⟨us, s3 _ _ hDu, by omega, ?_, s.trans s3⟩
      rw [tk, List.filter_append, List.filter_cons, hb]
      simpa using hus.keep (Kt.same s3)
    | true =>
      refine he p v r H3 (((e.trans e1).trans s).trans s3) hpm hb (hv.keep (Kt.same s3)) (hr.keep (Kt.same s3)) H3 (Ex.refl _) _ fun y H4 s4 hy => ⟨us, (s3.trans s4) _ _ hDu, Nat.lt_of_lt_of_le (show us.length < 40001 by omega) (by decide), us ++ [y], upd_same, by rw [List.length_append]; show us.length + 1 ≤ i + 1; omega, ?_, same_mut ((s.trans s3).trans s4) hD⟩
      rw [tk, List.filter_append, List.map_append, List.filter_cons, hb]
      exact ((hus.keep (Kt.same (s3.trans s4))).snoc hy).keep (Kt.lst ((s3.trans s4) _ _ hDu))
  · obtain ⟨us, hDu, _, hus, s⟩ := hP
    rw [hpl, List.take_length] at hus
    exact q Dl us H2 (fresh_back e1 hD) (e1.trans s) hDu hus⟩
theorem evds_row {x y z : List Int} (h : EvD K te σ H (.tuple ((x.map PyData.int ++ y.map PyData.int) ++ z.map PyData.int))) : EvD K te σ H (rowD (x ++ y ++ z)) := by
  unfold rowD
  rw [List.map_append, List.map_append]
  exact h
theorem besideG_nil (parts : List VR) (ahead : List Int) : besideG [] parts ahead = [] := rfl
theorem besideG_snoc (rows : List TR) (r : TR) (parts : List VR) (ahead : List Int) : besideG (rows ++ [r]) parts ahead = besideG rows parts ahead ++ parts.map fun p => (r.1 ++ [p.1], r.2 ++ ahead ++ p.2) := by
  unfold besideG
  rw [List.flatMap_append, List.flatMap_singleton]
theorem besideG_length (rows : List TR) (parts : List VR) (ahead : List Int) : (besideG rows parts ahead).length = rows.length * parts.length := by
  induction rows with
  | nil => simp [besideG]
  | cons r rows ih =>
    have e : besideG (r :: rows) parts ahead = (parts.map fun p => (r.1 ++ [p.1], r.2 ++ ahead ++ p.2)) ++ besideG rows parts ahead := rfl
    rw [e, List.length_append, List.length_map, ih, List.length_cons, Nat.add_mul]
    omega
/-- found = found + [..] -/
theorem q_catD {i j : Nat} {p0 : Addr} {xs0 : List V} {es0 es : List PyData} (hj : σ[j]? = some (some (.ref p0))) (h0 : H p0 = some (.lst xs0)) (hv0 : Vds K H xs0 es0) (h : EvLD K te σ H es) (hl : es0.length + es.length ≤ 100000)
    (k : ∀ p vs H1, Same H H1 → H1 p = some (.lst (xs0 ++ vs)) → Vds K H1 (xs0 ++ vs) (es0 ++ es) → tz D (σ.set i (some (.ref p))) H1) : tSeq (tAsg (tOp rCat (tVar j) te) (gName i)) tz D σ H :=
  ⟨.ref p0, hj, h H (Ex.refl H) _ fun p vs H2 hp e2 h2 hvs => by
    have l2 := hv0.1
    have l3 := hvs.1
    exact ⟨p0, p, xs0, vs, rfl, rfl, e2 _ _ h0, h2, Nat.le_trans (show xs0.length + vs.length ≤ 100000 by omega) (by decide), fun p2 hp2 => k p2 vs _ (e2.trans (same_new hp2)) upd_same (((hv0.keep (Kt.same e2)).app hvs).keep (Kt.new hp2))⟩⟩
theorem s_catD {i j : Nat} {p0 : Addr} {xs0 : List V} {es0 es : List PyData} (hj : σ[j]? = some (some (.ref p0))) (h0 : H p0 = some (.lst xs0)) (hv0 : Vds K H xs0 es0) (h : EvLD K te σ H es) (hl : es0.length + es.length ≤ 100000)
    (k : ∀ p vs H1, Same H H1 → H1 p = some (.lst (xs0 ++ vs)) → Vds K H1 (xs0 ++ vs) (es0 ++ es) → D.nx (σ.set i (some (.ref p))) H1) : tAsg (tOp rCat (tVar j) te) (gName i) D σ H :=
  ⟨.ref p0, hj, h H (Ex.refl H) _ fun p vs H2 hp e2 h2 hvs => by
    have l2 := hv0.1
    have l3 := hvs.1
    exact ⟨p0, p, xs0, vs, rfl, rfl, e2 _ _ h0, h2, Nat.le_trans (show xs0.length + vs.length ≤ 100000 by omega) (by decide), fun p2 hp2 => k p2 vs _ (e2.trans (same_new hp2)) upd_same (((hv0.keep (Kt.same e2)).app hvs).keep (Kt.new hp2))⟩⟩
end
/-! ### promises -/
def spBeside (K : PySem.W.Frag) : Sp := fun vs H Q _ => ∃ (a b : Addr) (u : V) (xs ys : List V) (rows : List TR) (parts : List VR) (ahead : List Int), vs = [.ref a, .ref b, u] ∧ H a = some (.lst xs) ∧ H b = some (.lst ys) ∧
  Vds K H xs (rows.map fun r => pairD (tupR r)) ∧ Vds K H ys (parts.map pairD) ∧ Vd K H u (rowD ahead) ∧ rows.length * parts.length ≤ 40000 ∧ rows.length ≤ 40000 ∧ parts.length ≤ 40000 ∧
  (∀ r ∈ rows, r.1.length ≤ 100 ∧ r.2.length ≤ 300) ∧ (∀ p ∈ parts, p.2.length ≤ 300) ∧ ahead.length ≤ 100 ∧
  ∀ p zs H', Same H H' → H' p = some (.lst zs) → Vds K H' zs ((besideG rows parts ahead).map fun r => pairD (tupR r)) → Q (.ref p) H'
end Cr
/-! all exact rows of a generator, with their values, in the order of the law's own walk -/
namespace Cr
open PySem PySem.Spec PyProof.Rows L2 Evl CrT
def timesR (parts : List VR) (ahead : List Int) : Nat → List TR → List TR
  | 0, acc => acc
  | n + 1, acc => timesR parts ahead n (besideG acc parts ahead)
def listStep (parts : List VR) (a : Int) (s : List TR × List VR) (many : Nat) : List TR × List VR :=
  if (many : Int) < a then (besideG s.1 parts [], s.2) else (besideG s.1 parts [1], s.2 ++ s.1.map fun r => tupR (r.1, r.2 ++ [0]))
def listRows (parts : List VR) (a b : Int) : List VR :=
  ((List.range b.toNat).foldl (listStep parts a) ([([], [])], [])).2 ++ ((List.range b.toNat).foldl (listStep parts a) ([([], [])], [])).1.map tupR
def repeatRows (parts : List VR) (p : VR) : List VR :=
  match p.1 with
  | .int m => if decide (0 ≤ m) && decide (m ≤ 6) then (timesR parts [] m.toNat [([], p.2)]).map tupR else []
  | _ => []
mutual
def rowsOf : Gn → List VR
  | .int lo hi => (List.range (hi - lo + 1).toNat).map fun (c : Nat) => (PyData.int (lo + (c : Int)), [(c : Int)])
  | .pick ws => ws.zipIdx.map fun (w : Str × Nat) => (PyData.str w.1, [(w.2 : Int)])
  | .tuple gs => (rowsTup gs [([], [])]).map tupR
  | .list g a b => listRows (rowsOf g) a b
  | .one gs => rowsOne gs 0
  | .kept g c => (rowsOf g).filter fun p => holdsC c p.1
  | .turned g m => (rowsOf g).map fun p => (turnD m p.1, p.2)
  | .repeat_ g h => (rowsOf g).flatMap (repeatRows (rowsOf h))
def rowsTup : List Gn → List TR → List TR
  | [], acc => acc
  | g :: gs, acc => rowsTup gs (besideG acc (rowsOf g) [])
def rowsOne : List Gn → Nat → List VR
  | [], _ => []
  | g :: gs, c => (rowsOf g).map (fun p => (p.1, (c : Int) :: p.2)) ++ rowsOne gs (c + 1)
end
/-! ### the values are of the kind -/
theorem iskAll_snoc : ∀ {ks : List Kd} {ds : List PyData} {k : Kd} {d : PyData}, iskAll ks ds = true → isk k d = true → iskAll (ks ++ [k]) (ds ++ [d]) = true
  | [], [], k, d, _, h => by
    show iskAll [k] [d] = true
    rw [iskAll, h, iskAll]
    rfl
  | [], _ :: _, _, _, h, _ => by simp [iskAll] at h
  | _ :: _, [], _, _, h, _ => by simp [iskAll] at h
  | k' :: ks, d' :: ds, k, d, h, g => by
    rw [iskAll, Bool.and_eq_true] at h
    show iskAll (k' :: (ks ++ [k])) (d' :: (ds ++ [d])) = true
    rw [iskAll, h.1, iskAll_snoc h.2 g]
    rfl
theorem mem_beside {rows : List TR} {parts : List VR} {ahead : List Int} {x : TR} (h : x ∈ besideG rows parts ahead) : ∃ r ∈ rows, ∃ p ∈ parts, x = (r.1 ++ [p.1], r.2 ++ ahead ++ p.2) := by
  unfold besideG at h
  obtain ⟨r, hr, h⟩ := List.mem_flatMap.mp h
  obtain ⟨p, hp, rfl⟩ := List.mem_map.mp h
  exact ⟨r, hr, p, hp, rfl⟩
theorem tup_isk : ∀ (gs : List Gn) (ks done : List Kd) (acc : List TR), gs.length = ks.length → (∀ (i : Nat) g k, gs[i]? = some g → ks[i]? = some k → ∀ p ∈ rowsOf g, isk k p.1 = true) → (∀ r ∈ acc, iskAll done r.1 = true) → ∀ r ∈ rowsTup gs acc, iskAll (done ++ ks) r.1 = true
  | [], [], done, acc, _, _, h => by
    rw [rowsTup, List.append_nil]
    exact h
  | [], _ :: _, _, _, hl, _, _ => by simp at hl
  | _ :: _, [], _, _, hl, _, _ => by simp at hl
  | g :: gs, k :: ks, done, acc, hl, hg, h => by
    rw [rowsTup, show done ++ k :: ks = (done ++ [k]) ++ ks by simp]
    refine tup_isk gs ks (done ++ [k]) _ (by simpa using hl) (fun i g' k' h1 h2 => hg (i + 1) g' k' (by simpa using h1) (by simpa using h2)) fun r hr => ?_
    obtain ⟨r0, hr0, p, hp, rfl⟩ := mem_beside hr
    exact iskAll_snoc (h r0 hr0) (hg 0 g k rfl rfl p hp)
theorem all_snoc {p : PyData → Bool} {ds : List PyData} {d : PyData} (h : ds.all p = true) (g : p d = true) : (ds ++ [d]).all p = true := by
  rw [List.all_append, h, List.all_cons, g]
  rfl
theorem times_isk {parts : List VR} {ahead : List Int} {k : Kd} (hp : ∀ p ∈ parts, isk k p.1 = true) : ∀ (n : Nat) (acc : List TR), (∀ r ∈ acc, r.1.all (isk k) = true) → ∀ r ∈ timesR parts ahead n acc, r.1.all (isk k) = true
  | 0, acc, h => h
  | n + 1, acc, h => times_isk hp n _ fun r hr => by
    obtain ⟨r0, hr0, p, hpm, rfl⟩ := mem_beside hr
    exact all_snoc (h r0 hr0) (hp p hpm)
theorem step_isk {parts : List VR} {a : Int} {k : Kd} (hp : ∀ p ∈ parts, isk k p.1 = true) : ∀ (l : List Nat) (s : List TR × List VR), (∀ r ∈ s.1, r.1.all (isk k) = true) → (∀ p ∈ s.2, isk (.lst k) p.1 = true) → (∀ r ∈ (l.foldl (listStep parts a) s).1, r.1.all (isk k) = true) ∧ ∀ p ∈ (l.foldl (listStep parts a) s).2, isk (.lst k) p.1 = true
  | [], s, h1, h2 => ⟨h1, h2⟩
  | m :: l, s, h1, h2 => by
    rw [List.foldl_cons]
    have hb : ∀ ahead, ∀ r ∈ besideG s.1 parts ahead, r.1.all (isk k) = true := fun ahead r hr => by
      obtain ⟨r0, hr0, p, hpm, rfl⟩ := mem_beside hr
      exact all_snoc (h1 r0 hr0) (hp p hpm)
    refine step_isk hp l _ ?_ ?_
    · unfold listStep
      split
      · exact hb []
      · exact hb [1]
    · unfold listStep
      split
      · exact h2
      · intro p hpm
        rcases List.mem_append.mp hpm with h | h
        · exact h2 p h
        · obtain ⟨r, hr, rfl⟩ := List.mem_map.mp h
          show isk (.lst k) (.tuple r.1) = true
          rw [isk]
          exact h1 r hr
theorem list_isk {parts : List VR} {a b : Int} {k : Kd} (hp : ∀ p ∈ parts, isk k p.1 = true) : ∀ p ∈ listRows parts a b, isk (.lst k) p.1 = true := fun p h => by
  have s := step_isk (a := a) hp (List.range b.toNat) ([([], [])], []) (fun r hr => by cases List.mem_singleton.mp hr; rfl) (fun _ h => nomatch h)
  rcases List.mem_append.mp h with h | h
  · exact s.2 p h
  · obtain ⟨r, hr, rfl⟩ := List.mem_map.mp h
    show isk (.lst k) (.tuple r.1) = true
    rw [isk]
    exact s.1 r hr
theorem one_isk {k : Kd} : ∀ (gs : List Gn) (c : Nat), (∀ g ∈ gs, ∀ p ∈ rowsOf g, isk k p.1 = true) → ∀ p ∈ rowsOne gs c, isk k p.1 = true
  | [], _, _, _, h => by rw [rowsOne] at h; cases h
  | g :: gs, c, hg, p, h => by
    rw [rowsOne] at h
    rcases List.mem_append.mp h with h | h
    · obtain ⟨q, hq, rfl⟩ := List.mem_map.mp h
      exact hg g List.mem_cons_self q hq
    · exact one_isk gs (c + 1) (fun g' h' => hg g' (List.mem_cons_of_mem _ h')) p h
theorem rows_isk {g : Gn} {k : Kd} (h : GenK g k) : ∀ p ∈ rowsOf g, isk k p.1 = true := by
  induction h with
  | int => 
    intro p hp
    rw [rowsOf] at hp
    obtain ⟨c, _, rfl⟩ := List.mem_map.mp hp
    rfl
  | pick _ _ _ hw =>
    intro p hp
    rw [rowsOf] at hp
    obtain ⟨w, hwm, rfl⟩ := List.mem_map.mp hp
    exact hw w.1 (List.fst_mem_of_mem_zipIdx hwm)
  | tuple _ hl _ ih =>
    intro p hp
    rw [rowsOf] at hp
    obtain ⟨r, hr, rfl⟩ := List.mem_map.mp hp
    show isk (.tup _) (.tuple r.1) = true
    rw [isk]
    exact tup_isk _ _ [] _ hl ih (fun r hr => by cases List.mem_singleton.mp hr; rw [iskAll]) r hr
  | list _ _ _ _ ih =>
    rw [rowsOf]
    exact list_isk ih
  | one _ _ _ ih =>
    rw [rowsOf]
    exact one_isk _ 0 ih
  | kept _ _ ih =>
    intro p hp
    rw [rowsOf] at hp
    exact ih p (List.mem_filter.mp hp).1
  | turned _ hb ih =>
    intro p hp
    rw [rowsOf] at hp
    obtain ⟨q, hq, rfl⟩ := List.mem_map.mp hp
    exact turn_isk hb (ih q hq)
  | repeat_ _ _ ih1 ih2 =>
    intro p hp
    rw [rowsOf] at hp
    obtain ⟨q, hq, hp⟩ := List.mem_flatMap.mp hp
    unfold repeatRows at hp
    split at hp
    · split at hp
      · obtain ⟨r, hr, rfl⟩ := List.mem_map.mp hp
        show isk (.lst _) (.tuple r.1) = true
        rw [isk]
        exact times_isk ih2 _ _ (fun r hr => by cases List.mem_singleton.mp hr; rfl) r hr
      · cases hp
    · cases hp
end Cr
/-! outcomes of draws -/
namespace Cr
open PySem PySem.Spec PyProof.Rows L2 Evl CrT
inductive Out where
  | val (v : PyData) (used : Nat) | refused (used : Nat) | wrong (place : Nat) | short (place : Nat)
def Out.data : Out → PyData
  | .val v n => .tuple [.str "value", v, .int (n : Int)]
  | .refused n => .tuple [.str "refused", .int (n : Int)]
  | .wrong n => .tuple [.str "wrong", .int (n : Int)]
  | .short n => .tuple [.str "short", .int (n : Int)]
def Out.step (o : Out) (k : PyData → Nat → Out) : Out :=
  match o with
  | .val v n => k v n
  | o => o
def choice (row : List Int) (at_ : Nat) (bound : Int) (k : Int → Out) : Out :=
  if row.length ≤ at_ then .short row.length else if decide (0 ≤ row.getD at_ 0) && decide (row.getD at_ 0 ≤ bound) then k (row.getD at_ 0) else .wrong at_
def outTimes (f : Nat → Out) : Nat → Nat → List PyData → Out
  | 0, at_, acc => .val (.tuple acc) at_
  | n + 1, at_, acc => (f at_).step fun v n' => outTimes f n n' (acc ++ [v])
def outList (f : Nat → Out) (row : List Int) (a : Int) : Nat → Nat → Nat → List PyData → Out
  | 0, _, at_, acc => .val (.tuple acc) at_
  | n + 1, many, at_, acc =>
    if (many : Int) < a then (f at_).step fun v n' => outList f row a n (many + 1) n' (acc ++ [v])
    else choice row at_ 1 fun c => if c = 0 then .val (.tuple acc) (at_ + 1) else (f (at_ + 1)).step fun v n' => outList f row a n (many + 1) n' (acc ++ [v])
def outRepeat (f : Nat → Out) (v : PyData) (n : Nat) : Out :=
  match v with
  | .int m => if decide (0 ≤ m) && decide (m ≤ 6) then outTimes f m.toNat n [] else .refused n
  | _ => .refused n
mutual
def outG : Gn → List Int → Nat → Out
  | .int lo hi, row, at_ => choice row at_ (hi - lo) fun c => .val (.int (lo + c)) (at_ + 1)
  | .pick ws, row, at_ => choice row at_ ((ws.length : Int) - 1) fun c => .val (.str (ws.getD c.toNat "")) (at_ + 1)
  | .tuple gs, row, at_ => outSeq gs row at_ []
  | .list g a b, row, at_ => outList (outG g row) row a b.toNat 0 at_ []
  | .one gs, row, at_ => choice row at_ ((gs.length : Int) - 1) fun c => outPick gs c.toNat row (at_ + 1)
  | .kept g c, row, at_ => (outG g row at_).step fun v n => if holdsC c v then .val v n else .refused n
  | .turned g m, row, at_ => (outG g row at_).step fun v n => .val (turnD m v) n
  | .repeat_ g h, row, at_ => (outG g row at_).step (outRepeat (outG h row))
def outSeq : List Gn → List Int → Nat → List PyData → Out
  | [], _, at_, acc => .val (.tuple acc) at_
  | g :: gs, row, at_, acc => (outG g row at_).step fun v n => outSeq gs row n (acc ++ [v])
def outPick : List Gn → Nat → List Int → Nat → Out
  | [], _, _, _ => .short 0
  | g :: _, 0, row, at_ => outG g row at_
  | _ :: gs, n + 1, row, at_ => outPick gs n row at_
end
/-! ### values of outcomes are of the kind -/
def Out.good (k : Kd) (o : Out) : Prop := ∀ v n, o = .val v n → isk k v = true
theorem good_step {o : Out} {k k' : Kd} {f : PyData → Nat → Out} (h : o.good k) (hf : ∀ v n, isk k v = true → (f v n).good k') : (o.step f).good k' := by
  cases o with
  | val v n => exact hf v n (h v n rfl)
  | _ => exact fun v n e => nomatch e
theorem good_choice {row : List Int} {at_ : Nat} {b : Int} {k : Kd} {f : Int → Out} (h : ∀ c, 0 ≤ c → c ≤ b → (f c).good k) : (choice row at_ b f).good k := by
  unfold choice
  split
  · exact fun v n e => nomatch e
  · split
    · rename_i hc
      have h2 := Bool.and_eq_true_iff.mp hc
      exact h _ (of_decide_eq_true h2.1) (of_decide_eq_true h2.2)
    · exact fun v n e => nomatch e
theorem good_tup {k : Kd} {vs : List PyData} {n : Nat} (h : vs.all (isk k) = true) : (Out.val (.tuple vs) n).good (.lst k) := fun v m e => by
  cases e
  rw [isk]
  exact h
theorem good_times {f : Nat → Out} {k : Kd} (hf : ∀ n, (f n).good k) : ∀ (m n : Nat) (acc : List PyData), acc.all (isk k) = true → (outTimes f m n acc).good (.lst k)
  | 0, n, acc, h => good_tup h
  | m + 1, n, acc, h => good_step (hf n) fun v n' hv => good_times hf m n' _ (all_snoc h hv)
theorem good_list {f : Nat → Out} {row : List Int} {a : Int} {k : Kd} (hf : ∀ n, (f n).good k) : ∀ (m many n : Nat) (acc : List PyData), acc.all (isk k) = true → (outList f row a m many n acc).good (.lst k)
  | 0, _, n, acc, h => good_tup h
  | m + 1, many, n, acc, h => by
    rw [outList]
    split
    · exact good_step (hf n) fun v n' hv => good_list hf m (many + 1) n' _ (all_snoc h hv)
    · refine good_choice fun c _ _ => ?_
      split
      · exact good_tup h
      · exact good_step (hf (n + 1)) fun v n' hv => good_list hf m (many + 1) n' _ (all_snoc h hv)
theorem good_seq {row : List Int} : ∀ (gs : List Gn) (ks done : List Kd) (n : Nat) (acc : List PyData), gs.length = ks.length → (∀ (i : Nat) g k, gs[i]? = some g → ks[i]? = some k → ∀ n, (outG g row n).good k) → iskAll done acc = true → (outSeq gs row n acc).good (.tup (done ++ ks))
  | [], [], done, n, acc, _, _, h => by
    rw [outSeq, List.append_nil]
    exact fun v m e => by cases e; rw [isk]; exact h
  | [], _ :: _, _, _, _, hl, _, _ => by simp at hl
  | _ :: _, [], _, _, _, hl, _, _ => by simp at hl
  | g :: gs, k :: ks, done, n, acc, hl, hg, h => by
    rw [outSeq, show done ++ k :: ks = (done ++ [k]) ++ ks by simp]
    exact good_step (hg 0 g k rfl rfl n) fun v n' hv => good_seq gs ks (done ++ [k]) n' _ (by simpa using hl) (fun i g' k' h1 h2 => hg (i + 1) g' k' (by simpa using h1) (by simpa using h2)) (iskAll_snoc h hv)
theorem good_pick {row : List Int} {k : Kd} : ∀ (gs : List Gn) (c n : Nat), (∀ g ∈ gs, ∀ n, (outG g row n).good k) → (outPick gs c row n).good k
  | [], _, _, _ => by rw [outPick]; exact fun v n e => nomatch e
  | g :: _, 0, n, h => by rw [outPick]; exact h g List.mem_cons_self n
  | _ :: gs, c + 1, n, h => by rw [outPick]; exact good_pick gs c n fun g hg => h g (List.mem_cons_of_mem _ hg)
theorem out_good {g : Gn} {k : Kd} (h : GenK g k) (row : List Int) : ∀ n, (outG g row n).good k := by
  induction h with
  | int => intro n; rw [outG]; exact good_choice fun c _ _ v m e => by cases e; rfl
  | pick h0 _ _ hw =>
    intro n
    rw [outG]
    refine good_choice fun c c0 c1 v m e => ?_
    cases e
    rw [isk]
    exact hw _ (List.mem_of_getElem? (getD_at (a0 := ("" : Str)) (by omega)))
  | tuple _ hl _ ih => intro n; rw [outG]; exact good_seq _ _ [] n [] hl ih (by rw [iskAll])
  | list _ _ _ _ ih => intro n; rw [outG]; exact good_list ih _ _ _ _ rfl
  | one _ _ _ ih => intro n; rw [outG]; exact good_choice fun c _ _ => good_pick _ _ _ ih
  | kept _ _ ih =>
    intro n
    rw [outG]
    refine good_step (ih n) fun v m hv => ?_
    split
    · exact fun v' m' e => by cases e; exact hv
    · exact fun v' m' e => nomatch e
  | turned _ hb ih => intro n; rw [outG]; exact good_step (ih n) fun v m hv => fun v' m' e => by cases e; exact turn_isk hb hv
  | repeat_ _ _ ih1 ih2 =>
    intro n
    rw [outG]
    refine good_step (ih1 n) fun v m hv => ?_
    unfold outRepeat
    split
    · split
      · exact good_times ih2 _ _ _ rfl
      · exact fun v' m' e => nomatch e
    · exact fun v' m' e => nomatch e
/-! ### and not deep -/
def Out.sat (P : PyData → Prop) (o : Out) : Prop := ∀ v n, o = .val v n → P v
theorem sat_step {o : Out} {P P' : PyData → Prop} {f : PyData → Nat → Out} (h : o.sat P) (hf : ∀ v n, o = .val v n → P v → (f v n).sat P') : (o.step f).sat P' := by
  cases o with
  | val v n => exact hf v n rfl (h v n rfl)
  | _ => exact fun v n e => nomatch e
theorem sat_choice {row : List Int} {at_ : Nat} {b : Int} {P : PyData → Prop} {f : Int → Out} (h : ∀ c, 0 ≤ c → c ≤ b → (f c).sat P) : (choice row at_ b f).sat P := by
  unfold choice
  split
  · exact fun v n e => nomatch e
  · split
    · rename_i hc
      have h2 := Bool.and_eq_true_iff.mp hc
      exact h _ (of_decide_eq_true h2.1) (of_decide_eq_true h2.2)
    · exact fun v n e => nomatch e
theorem snoc_dk {d : Nat} {acc : List PyData} {v : PyData} (h : ∀ x ∈ acc, Dk d x) (hv : Dk d v) : ∀ x ∈ acc ++ [v], Dk d x := fun x hx => by
  rcases List.mem_append.mp hx with hx | hx
  · exact h x hx
  · cases List.mem_singleton.mp hx
    exact hv
theorem sat_times {f : Nat → Out} {d : Nat} (hf : ∀ n, (f n).sat (Dk d)) : ∀ (m n : Nat) (acc : List PyData), (∀ x ∈ acc, Dk d x) → acc.length + m ≤ 60 → (outTimes f m n acc).sat (Dk (d + 1))
  | 0, n, acc, h, hl => fun v k e => by cases e; exact .tup hl h
  | m + 1, n, acc, h, hl => sat_step (hf n) fun v n' _ hv => sat_times hf m n' _ (snoc_dk h hv) (by rw [List.length_append]; show acc.length + 1 + m ≤ 60; omega)
theorem sat_list {f : Nat → Out} {row : List Int} {a : Int} {d : Nat} (hf : ∀ n, (f n).sat (Dk d)) : ∀ (m many n : Nat) (acc : List PyData), (∀ x ∈ acc, Dk d x) → acc.length + m ≤ 60 → (outList f row a m many n acc).sat (Dk (d + 1))
  | 0, _, n, acc, h, hl => fun v k e => by cases e; exact .tup hl h
  | m + 1, many, n, acc, h, hl => by
    rw [outList]
    have hl' : ∀ v : PyData, (acc ++ [v]).length + m ≤ 60 := fun v => by rw [List.length_append]; show acc.length + 1 + m ≤ 60; omega
    split
    · exact sat_step (hf n) fun v n' _ hv => sat_list hf m (many + 1) n' _ (snoc_dk h hv) (hl' v)
    · refine sat_choice fun c _ _ => ?_
      split
      · exact fun v k e => by cases e; exact .tup (by omega) h
      · exact sat_step (hf (n + 1)) fun v n' _ hv => sat_list hf m (many + 1) n' _ (snoc_dk h hv) (hl' v)
theorem sat_seq {row : List Int} {d : Nat} : ∀ (gs : List Gn) (n : Nat) (acc : List PyData), (∀ g ∈ gs, ∀ n, (outG g row n).sat (Dk d)) → (∀ x ∈ acc, Dk d x) → acc.length + gs.length ≤ 60 → (outSeq gs row n acc).sat (Dk (d + 1))
  | [], n, acc, _, h, hl => by rw [outSeq]; exact fun v k e => by cases e; exact .tup hl h
  | g :: gs, n, acc, hg, h, hl => by
    rw [outSeq]
    exact sat_step (hg g List.mem_cons_self n) fun v n' _ hv => sat_seq gs n' _ (fun g' h' => hg g' (List.mem_cons_of_mem _ h')) (snoc_dk h hv) (by rw [List.length_append]; rw [List.length_cons] at hl; show acc.length + 1 + gs.length ≤ 60; omega)
theorem sat_pick {row : List Int} {P : PyData → Prop} : ∀ (gs : List Gn) (c n : Nat), (∀ g ∈ gs, ∀ n, (outG g row n).sat P) → (outPick gs c row n).sat P
  | [], _, _, _ => by rw [outPick]; exact fun v n e => nomatch e
  | g :: _, 0, n, h => by rw [outPick]; exact h g List.mem_cons_self n
  | _ :: gs, c + 1, n, h => by rw [outPick]; exact sat_pick gs c n fun g hg => h g (List.mem_cons_of_mem _ hg)
theorem Out.sat.mono {o : Out} {n m : Nat} (h : o.sat (Dk n)) (hm : n ≤ m) : o.sat (Dk m) := fun v k e => (h v k e).mono hm
theorem out_deep {g : Gn} {kd : Kd} (h : GenK g kd) (row : List Int) : ∀ (k n : Nat), OkGk k n g → ∀ i, (outG g row i).sat (Dk n) := by
  induction h with
  | int => intro k n _ i; rw [outG]; exact sat_choice fun c _ _ v m e => by cases e; exact .int _
  | @pick ws h0 _ _ hw =>
    intro k n ho i
    rw [outG]
    cases ho with
    | pick h1 h2 =>
      refine sat_choice fun c c0 c1 v m e => ?_
      cases e
      have hm : ws.getD c.toNat "" ∈ ws := List.mem_of_getElem? (getD_at (a0 := ("" : Str)) (by omega))
      exact .str (h2 _ hm).1 (h2 _ hm).2
  | tuple hl4 hl _ ih =>
    intro k n ho i
    rw [outG]
    cases ho with
    | tuple h1 h2 => 
      refine sat_seq _ i [] (fun g hg j => ?_) (fun _ h => nomatch h) (by simpa using h1)
      obtain ⟨t, ht⟩ := List.mem_iff_getElem?.mp hg
      have htl := (List.getElem?_eq_some_iff.mp ht).1
      exact ih t g _ ht (getD_at (a0 := Kd.int) (by omega)) k _ (h2 g hg) j
  | list _ h0 h1 h2 ih =>
    intro k n ho i
    rw [outG]
    cases ho with
    | list _ _ ho => exact sat_list (fun j => ih k _ ho j) _ _ _ _ (fun _ h => nomatch h) (by simp; omega)
  | one _ _ _ ih =>
    intro k n ho i
    rw [outG]
    cases ho with
    | one h1 h2 => exact sat_choice fun c _ _ => sat_pick _ _ _ fun g hg j => (ih g hg k _ (h2 g hg) j).mono (by omega)
  | kept _ _ ih =>
    intro k n ho i
    rw [outG]
    cases ho with
    | kept ho _ =>
      refine sat_step ((ih k _ ho i).mono (Nat.le_succ _)) fun v m _ hv => ?_
      split
      · exact fun v' m' e => by cases e; exact hv
      · exact fun v' m' e => nomatch e
  | turned hg hb ih =>
    intro k n ho i
    rw [outG]
    cases ho with
    | turned _ ho => exact sat_step ((ih k _ ho i).mono (Nat.le_succ _)) fun v m e hv => fun v' m' e' => by cases e'; exact turn_dk hb (out_good hg row i v m e) hv
  | repeat_ _ _ ih1 ih2 =>
    intro k n ho i
    rw [outG]
    cases ho with
    | repeat_ ho1 ho2 =>
      refine sat_step (ih1 k _ ho1 i) fun v m _ hv => ?_
      unfold outRepeat
      split
      · split
        · rename_i hc
          have h2 := of_decide_eq_true (Bool.and_eq_true_iff.mp hc).2
          exact sat_times (fun j => ih2 k _ ho2 j) _ _ _ (fun _ h => nomatch h) (by simp; omega)
        · exact fun v' m' e => nomatch e
      · exact fun v' m' e => nomatch e
/-! ### promises -/
def nameO : Out → Str
  | .val _ _ => "value"
  | .refused _ => "refused"
  | .wrong _ => "wrong"
  | .short _ => "short"
theorem Out.name {K : PySem.W.Frag} {H : Hp} {r : V} {o : Out} (h : Vd K H r o.data) : ∃ a x xs, r = .ref a ∧ SqT K H a (x :: xs) ∧ x = .str (nameO o) := by
  cases o <;> rw [Out.data] at h <;> first | (obtain ⟨a, x, y, rfl, hs, hx, _⟩ := h.g2; exact ⟨a, x, _, rfl, hs, hx.str_inv⟩) | (obtain ⟨a, x, y, z, rfl, hs, hx, _⟩ := h.g3; exact ⟨a, x, _, rfl, hs, hx.str_inv⟩)
theorem row_sq {K : PySem.W.Frag} {H : Hp} {u : V} {row : List Int} (h : Vd K H u (rowD row)) : ∃ b, u = .ref b ∧ SqT K H b (row.map V.int) := by
  unfold rowD at h
  obtain ⟨b, rfl⟩ := h.ref
  obtain ⟨xs, hs, hx⟩ := h.all
  refine ⟨b, rfl, ?_⟩
  have e := hx.ints fun d hd => by
    obtain ⟨i, _, rfl⟩ := List.mem_map.mp hd
    rfl
  rw [List.map_map, List.map_map, show (V.int ∘ intOf) ∘ PyData.int = V.int from rfl] at e
  rw [e] at hs
  exact hs
def spOut (K : PySem.W.Frag) (n : Nat) : Sp := fun vs H Q _ => ∃ (v u : V) (g : Gn) (kd : Kd) (row : List Int) (at_ k : Nat), vs = [v, u, .int (at_ : Int)] ∧ Vd K H v g.data ∧ Vd K H u (rowD row) ∧ OkGk k n g ∧ GenK g kd ∧ row.length ≤ 1000000 ∧ k ≤ 10 ∧ n ≤ 18 ∧
  ∀ r H', Same H H' → Vd K H' r (outG g row at_).data → Q r H'
def spListed (K : PySem.W.Frag) (n : Nat) : Sp := fun vs H Q _ => ∃ (v u : V) (g : Gn) (kd : Kd) (row : List Int) (at_ k : Nat) (a b : Int), vs = [v, u, .int (at_ : Int)] ∧ Vd K H v (Gn.list g a b).data ∧ Vd K H u (rowD row) ∧ OkGk k n g ∧ GenK g kd ∧ 0 ≤ a ∧ a ≤ b ∧ b ≤ 6 ∧ row.length ≤ 1000000 ∧ (k ≤ 10 ∧ n ≤ 18) ∧
  ∀ r H', Same H H' → Vd K H' r (outList (outG g row) row a b.toNat 0 at_ []).data → Q r H'
end Cr
set_option maxRecDepth 10000000
/-! reckoning: ranges, slices, displays, loops that gather -/
namespace Sm
open PySem PySem.Spec PyProof.Rows L2 Evl CrT Cr
theorem rng_map (lo : Int) (n : Nat) : rngD lo n = (List.range n).map fun (i : Nat) => PyData.int (lo + (i : Int)) := rfl
theorem rng_map0 (n : Nat) : rngD 0 n = (List.range n).map fun (i : Nat) => PyData.int (i : Int) := by
  rw [rng_map]
  refine List.map_congr_left fun i _ => ?_
  rw [Int.zero_add]
theorem cutD_take {α : Type} (xs : List α) (i : Nat) : Sm.cutD xs none (some (i : Int)) = xs.take i := by
  unfold Sm.cutD
  rw [HT.sIx_none, HT.sIx_nat, List.drop_zero, Nat.sub_zero]
  by_cases h : i ≤ xs.length
  · rw [Nat.min_eq_left h]
  · rw [Nat.min_eq_right (by omega), List.take_length, List.take_of_length_le (by omega)]
theorem cutD_drop {α : Type} (xs : List α) (i : Nat) : Sm.cutD xs (some (i : Int)) none = xs.drop i := by
  unfold Sm.cutD
  rw [HT.sIx_none, HT.sIx_nat, List.take_of_length_le (by rw [List.length_drop]; omega)]
  by_cases h : i ≤ xs.length
  · rw [Nat.min_eq_left h]
  · rw [Nat.min_eq_right (by omega), List.drop_length, List.drop_eq_nil_of_le (by omega)]
theorem comp_map {α : Type} {step : PyData → Option (Option PyData)} {f φ : α → PyData} : ∀ {l : List α}, (∀ a ∈ l, step (f a) = some (some (φ a))) → compM step (l.map f) = some (l.map φ)
  | [], _ => rfl
  | a :: l, h => by
    rw [List.map_cons, List.map_cons]
    show (step (f a)).bind _ = _
    rw [h a List.mem_cons_self, Option.bind_some, comp_map fun b hb => h b (List.mem_cons_of_mem _ hb)]
    rfl
theorem comp_filter {α : Type} {step : PyData → Option (Option PyData)} {f φ : α → PyData} {p : α → Bool} : ∀ {l : List α}, (∀ a ∈ l, step (f a) = some (if p a then some (φ a) else none)) → compM step (l.map f) = some ((l.filter p).map φ)
  | [], _ => rfl
  | a :: l, h => by
    rw [List.map_cons]
    show (step (f a)).bind _ = _
    rw [h a List.mem_cons_self, Option.bind_some, comp_filter fun b hb => h b (List.mem_cons_of_mem _ hb), List.filter_cons]
    cases p a <;> rfl
/-- a loop whose turns add to a list: st acc z are the slots, z that of the target -/
theorem loop_gather {α : Type} {g : PyData → List Sl → Option (List Sl)} {b : FS} {f : α → PyData} {F : α → List PyData} {B : Nat} (st : List PyData → Sl → List Sl) (hg : ∀ acc z d, g d (st acc z) = some (st acc (.val d))) :
    ∀ (l : List α) (acc : List PyData) (z : Sl), acc.length + l.length * B ≤ 10000000 → (∀ x ∈ l, (F x).length ≤ B ∧ ∀ acc, acc.length + B ≤ 10000000 → b (st acc (.val (f x))) = some (.nx, st (acc ++ F x) (.val (f x)))) → ∃ z', fLoop g b (l.map f) (st acc z) = some (.nx, st (acc ++ l.flatMap F) z')
  | [], acc, z, _, _ => ⟨z, by rw [List.map_nil, List.flatMap_nil, List.append_nil]; rfl⟩
  | x :: l, acc, z, hl, h => by
    obtain ⟨h1, h2⟩ := h x List.mem_cons_self
    have h3 : acc.length + B ≤ 10000000 := by
      rw [List.length_cons, Nat.succ_mul] at hl
      omega
    obtain ⟨z', e⟩ := loop_gather (b := b) (f := f) (F := F) (B := B) st hg l (acc ++ F x) (.val (f x)) (by
      rw [List.length_append]
      rw [List.length_cons, Nat.succ_mul] at hl
      omega) fun y hy => h y (List.mem_cons_of_mem _ hy)
    refine ⟨z', ?_⟩
    rw [List.map_cons, loop_c, hg, Option.bind_some, h2 acc h3, turn_nx, e, List.flatMap_cons, List.append_assoc]
theorem loop_inv {α : Type} {g : PyData → List Sl → Option (List Sl)} {b : FS} {f : α → PyData} {F : α → List PyData} {B : Nat} (P : List PyData → List Sl → Prop) :
    ∀ (l : List α) (acc : List PyData) (ρ : List Sl), acc.length + l.length * B ≤ 10000000 → P acc ρ → (∀ x ∈ l, (F x).length ≤ B ∧ ∀ acc ρ, acc.length + B ≤ 10000000 → P acc ρ → ∃ ρ1 ρ2, g (f x) ρ = some ρ1 ∧ b ρ1 = some (.nx, ρ2) ∧ P (acc ++ F x) ρ2) → ∃ ρ', fLoop g b (l.map f) ρ = some (.nx, ρ') ∧ P (acc ++ l.flatMap F) ρ'
  | [], acc, ρ, _, hP, _ => ⟨ρ, rfl, by rw [List.flatMap_nil, List.append_nil]; exact hP⟩
  | x :: l, acc, ρ, hl, hP, h => by
    obtain ⟨h1, h2⟩ := h x List.mem_cons_self
    rw [List.length_cons, Nat.succ_mul] at hl
    obtain ⟨ρ1, ρ2, e1, e2, hP2⟩ := h2 acc ρ (by omega) hP
    obtain ⟨ρ', e, hP'⟩ := loop_inv (b := b) (f := f) (F := F) (B := B) P l (acc ++ F x) ρ2 (by rw [List.length_append]; omega) hP2 fun y hy => h y (List.mem_cons_of_mem _ hy)
    refine ⟨ρ', ?_, by rw [List.flatMap_cons, ← List.append_assoc]; exact hP'⟩
    rw [List.map_cons, loop_c, e1, Option.bind_some, e2, turn_nx, e]
theorem ni_ints (T : List Int) (n : Int) : gNi (.int n) (.list (T.map .int)) = some (.bool (!T.any fun m => decide (m = n))) := by
  show (inD _ _).bind _ = _
  have h : (T.map PyData.int).all fl = true := by rw [List.all_map]; exact List.all_eq_true.mpr fun _ _ => rfl
  unfold inD
  simp only [fl, h, Bool.and_self, if_true, Option.bind_some, List.any_map]
  rfl
theorem seq_nx {f g : FS} {ρ ρ' : List Sl} (h : f ρ = some (.nx, ρ')) : fSeq f g ρ = g ρ' := by
  show fThen (f ρ) g = _
  rw [h]
  rfl
theorem seq_rt {f g : FS} {ρ ρ' : List Sl} {d : PyData} (h : f ρ = some (.rt d, ρ')) : fSeq f g ρ = some (.rt d, ρ') := by
  show fThen (f ρ) g = _
  rw [h]
  rfl
theorem for_ds {fi : FA} {g : PyData → List Sl → Option (List Sl)} {b : FS} {ρ : List Sl} {ds : List PyData} (h : fi ρ = some ds) : fFor fi g b ρ = fLoop g b ds ρ := by
  show (fi ρ).bind _ = _
  rw [h]
  rfl
theorem wst_nx {f : FS} {w2 : WS} {n : Nat} {ρ ρ' : List Sl} {Q : Fl → Nat → List Sl → Prop} (h : f ρ = some (.nx, ρ')) (h2 : w2 n ρ' Q) : wSeq (wSt f) w2 n ρ Q := ⟨_, h, h2⟩
theorem wst_end {f : FS} {n : Nat} {ρ ρ' : List Sl} {fl : Fl} {Q : Fl → Nat → List Sl → Prop} (h : f ρ = some (fl, ρ')) (h2 : Q fl n ρ') : wSt f n ρ Q := ⟨_, h, h2⟩
theorem sl_rowT (row : List Int) (i : Nat) : gSl (rowD row) none (some (i : Int)) = some (rowD (row.take i)) := by
  show some (PyData.tuple (Sm.cutD (row.map .int) none (some (i : Int)))) = _
  rw [cutD_take, ← List.map_take]
  rfl
theorem sl_rowD (row : List Int) (i : Nat) : gSl (rowD row) (some (i : Int)) none = some (rowD (row.drop i)) := by
  show some (PyData.tuple (Sm.cutD (row.map .int) (some (i : Int)) none)) = _
  rw [cutD_drop, ← List.map_drop]
  rfl
theorem add_row {r s : List Int} (h : r.length + s.length ≤ 10000000) : gAdd (rowD r) (rowD s) = some (rowD (r ++ s)) := by
  show lim ((r.map PyData.int).length + (s.map PyData.int).length) (PyData.tuple (r.map .int ++ s.map .int)) = _
  rw [lim_ok (by rw [List.length_map, List.length_map]; exact h), ← List.map_append]
  rfl
theorem ix_row {r : List Int} {i : Nat} (h : i < r.length) : gIx (rowD r) (.int (i : Int)) = some (.int (r.getD i 0)) := by
  show atI (r.map PyData.int) (i : Int) = _
  apply atI_nat
  rw [List.getElem?_map, List.getElem?_eq_getElem h, List.getD_eq_getElem?_getD, List.getElem?_eq_getElem h]
  rfl
end Sm
set_option maxRecDepth 10000000
/-! defs that draw from the script: what follows for every draw -/
namespace Sm
open PySem PySem.Spec PyProof.Rows L2 Evl CrT Cr
/-- from data, to what holds of every result -/
abbrev WF := List PyData → (PyData → Prop) → Prop
def spWF (K : PySem.W.Frag) (wf : WF) : Sp := fun vs H Q _ => ∃ (a : Addr) (ns : List Int) (O : Addr → Prop) (ds : List PyData) (Qd : PyData → Prop), SqL K H a (ns.map V.int) ∧ ns.length ≤ 63 ∧ Owl O H ∧ Fds K (Abx a []) O H vs ds ∧ wf ds Qd ∧ ∀ v d H', Same H H' → Fd K A0 O H' v d → Qd d → Q v H'
def argOk : PyData → Bool
  | .dict [] => true
  | d => noA d
def wCallF (wf : WF) (wa : WA) : WE := fun ρ Q => wa ρ fun ds => ds.all argOk = true ∧ wf ds Q
def runW (n k : Nat) (w : WS) : WF := fun ds Q => ds.length = k ∧ w 0 (ds.map Sl.val ++ List.replicate (n - k) Sl.un) fun fl _ _ => match fl with
  | .rt d => noA d = true ∧ Q d
  | _ => False
theorem args_to {K : PySem.W.Frag} {a : Addr} {bs : List Addr} {O : Addr → Prop} {H : Hp} {v : V} {d : PyData} (h : Fd K (Abx a bs) O H v d) (ok : argOk d = true) : Fd K (Abx a []) O H v d := by
  by_cases e : d = .dict []
  · subst e
    cases h with
    | fn hA => exact .fn (.inl ⟨rfl, abx_scr hA⟩)
  · have : noA d = true := by
      unfold argOk at ok
      split at ok
      · exact absurd rfl e
      · exact ok
    exact (h.noa this).up
section
variable {K : PySem.W.Frag} {tas : TA} {was : WA}
theorem sw_callF {E : XK} {wf : WF} (h : SWs K tas was) : SW K (tCall (spWF K wf) [] E tas) (wCallF wf was) := fun {a ns bs H0 O0 O σ H ρ} w Q hQ Q' q => by
  refine h w _ hQ _ fun vs ds H1 m1 hvs hQ1 => ?_
  have w1 := w.wm m1
  refine ⟨a, ns, O, ds, Q, w1.scrH, w1.len63, w1.r.owl, ?_, hQ1.2, fun v d H2 e2 hv hq => q v d H2 (m1.trans (.same e2)) hv.up hq⟩
  rw [List.append_nil]
  exact ⟨hvs.1, fun i v d a b => args_to (hvs.2 i v d a b) (List.all_eq_true.mp hQ1.1 d (List.mem_of_getElem? b))⟩
theorem body_okW {N : List Str} {k : Nat} {t : TS} {wb : WS} (h : SSw K t wb) {vs : List V} {H : Hp} {Q : VK} {E : XK} (hs : spWF K (runW N.length k wb) vs H Q E) : t { nx := fun _ H' => Q .non H', rt := Q } (L2.start N vs) H := by
  obtain ⟨a, ns, O, ds, Qd, hsc, h63, ho, hds, ⟨hk, hw⟩, q⟩ := hs
  have R : RW K a ns [] H O O (L2.start N vs) H (ds.map Sl.val ++ List.replicate (N.length - k) Sl.un) := ⟨start_rl ho hds hk, hsc, h63, fun b hb => nomatch hb⟩
  refine h R _ hw _ fun fl n ρ' hq => ?_
  cases fl with
  | rt d => exact fun bs' v H' _ s hv => q v d H' s (hv.noa hq.1) hq.2
  | nx => exact hq.elim
  | bk => exact hq.elim
  | ct => exact hq.elim
theorem body_lenW {n k : Nat} {wb : WS} {vs : List V} {H : Hp} {Q : VK} {E : XK} (hs : spWF K (runW n k wb) vs H Q E) : vs.length = k := by
  obtain ⟨a, ns, O, ds, Qd, hsc, h63, ho, hds, ⟨hk, hw⟩, q⟩ := hs
  rw [hds.1, hk]
end
def wRet (we : WE) : WS := fun n ρ Q => we ρ fun d => Q (.rt d) n ρ
theorem ssw_ret {K : PySem.W.Frag} {te : TE} {we : WE} (h : SW K te we) (hf : True := trivial) : SSw K (tRet te) (wRet we) := fun {a ns bs H0 O0 O σ H ρ} w Q hQ D p => by
  refine h w _ hQ _ fun v d H1 m1 hv hQ1 => ?_
  have w1 := w.wm m1
  exact p (.rt d) _ ρ hQ1 bs v H1 .refl w1.r.frm (hv.less w1.r.sub)
/-- the sum of two lists is a new one -/
def gAddL : PyData → PyData → Option (List PyData)
  | .list xs, .list ys => lim (xs.length + ys.length) (xs ++ ys)
  | _, _ => none
theorem rd_addL {K : PySem.W.Frag} {A : Atm} : RDL K A (rAddX K) gAddL := fun {O H x y a b} ho hx hy ds hc Q q => by
  cases a <;> cases b <;> try cases hc
  obtain ⟨h1, rfl⟩ := lim_some hc
  obtain ⟨p, xs, rfl, hp, hnp, hxs⟩ := hx.lst_inv
  obtain ⟨p2, ys, rfl, hp2, hnp2, hys⟩ := hy.lst_inv
  exact .inr (.inr (.inl ⟨p, p2, xs, ys, rfl, rfl, hp, hp2, sz100 (by rw [hxs.1, hys.1]; exact h1), fun l hl => q l _ _ hl (Cr.same_new hl) upd_same (((hxs.app hys).more hl).same (Cr.same_new hl))⟩))
theorem gAddL_l {xs ys : List PyData} : gAddL (.list xs) (.list ys) = lim (xs.length + ys.length) (xs ++ ys) := rfl
end Sm
set_option maxRecDepth 10000000
/-! sorted(xs, key=f), f a def of the program: the key's calls make objects of their own -/
namespace Sm
open PySem PySem.Spec PyProof.Rows L2 Evl CrT Cr
mutual
theorem dp_same {K : PySem.W.Frag} {H H' : Hp} (e : Same H H') : ∀ (d : PyData) (v : V), Dp K H v d → Dp K H' v d
  | .none, _, h => by cases h; exact .non
  | .bool b, _, h => by cases h; exact .bl b
  | .int i, _, h => by cases h; exact .int i
  | .str x, _, h => by cases h; exact .str x
  | .list ds, _, h => by
    cases h with
    | lst hs ha => exact .lst (e.seq hs) (dps_same e ds _ ha)
  | .tuple ds, _, h => by
    cases h with
    | tup hs ha => exact .tup (ex_t e hs) (dps_same e ds _ ha)
  | .dict _, _, h => by cases h
theorem dps_same {K : PySem.W.Frag} {H H' : Hp} (e : Same H H') : ∀ (ds : List PyData) (vs : List V), DpAll K H vs ds → DpAll K H' vs ds
  | [], _, h => by cases h; exact .nil
  | d :: ds, _, h => by
    cases h with
    | cons h1 h2 => exact .cons (dp_same e d _ h1) (dps_same e ds _ h2)
end
theorem dps_snoc {K : PySem.W.Frag} {H : Hp} {v : V} {d : PyData} (hd : Dp K H v d) : ∀ {vs : List V} {ds : List PyData}, DpAll K H vs ds → DpAll K H (vs ++ [v]) (ds ++ [d])
  | _, _, .nil => .cons hd .nil
  | _, _, .cons h t => .cons h (dps_snoc hd t)
section
variable {P : Program} {w : World} {H H' Hk : Hp} {h0 h h' : Heap} {a c : Addr} {fs : List Addr}
/-- objects that nobody tells of may change -/
theorem hok_but (ok : HOk P w H h) (na : H a = none) (nc : H c = none) (k : ∀ b o, b ≠ a → b ≠ c → h.get? b = some o → h'.get? b = some o) : HOk P w H h' := fun b o q =>
  (ok b o q).stay (fun d u hd e => k d u (by
    rintro rfl
    rcases hd with rfl | hd
    · rw [na] at q; cases q
    · rw [na] at hd; cases hd) (by
    rintro rfl
    rcases hd with rfl | hd
    · rw [nc] at q; cases q
    · rw [nc] at hd; cases hd) e) (fun _ q => q) (fun _ _ q => q)
/-- .. and then be told of -/
theorem hok_tell {o : HO} (ok : HOk P w H h) (na : H a = none) (nc : H c = none) (k : ∀ b o, b ≠ a → b ≠ c → h.get? b = some o → h'.get? b = some o) (new : ObjOk P w (upd H a o) h' a o) : HOk P w (upd H a o) h' := fun b u q => by
  by_cases hb : b = a
  · subst hb
    rw [upd_same] at q
    cases q
    exact new
  · rw [upd_ne hb] at q
    refine (ok b u q).stay (fun d v hd e => k d v (by
      rintro rfl
      rcases hd with rfl | hd
      · rw [na] at q; cases q
      · rw [na] at hd; cases hd) (by
      rintro rfl
      rcases hd with rfl | hd
      · rw [nc] at q; cases q
      · rw [nc] at hd; cases hd) e) (fun d q => ?_) (fun d xs q => ?_)
    · have : d ≠ a := by rintro rfl; rw [na] at q; cases q
      rw [upd_ne this]
      exact q
    · have : d ≠ a := by rintro rfl; rw [na] at q; cases q
      rw [upd_ne this]
      exact q
theorem un_but (u : Un fs [] H Hk h0 h) (na : h0.get? a = none) (nc : h0.get? c = none) (k : ∀ b o, b ≠ a → b ≠ c → h.get? b = some o → h'.get? b = some o) : Un fs [] H Hk h0 h' := by
  have ne : ∀ {b : Addr} {o : Obj}, h0.get? b = some o → b ≠ a ∧ b ≠ c := fun {b o} e => ⟨(by rintro rfl; rw [na] at e; cases e), (by rintro rfl; rw [nc] at e; cases e)⟩
  refine ⟨fun b o e n hf hx => k b o (ne e).1 (ne e).2 (u.keep b o e n hf hx), fun b o e n hf hx => ?_, u.free, fun b o e hx => ?_, u.tups, u.frzs, u.tbls⟩
  · obtain ⟨sl, q⟩ := u.slot b o e n hf hx
    exact ⟨sl, k b _ (ne e).1 (ne e).2 q⟩
  · obtain ⟨o', q⟩ := u.there b o e hx
    exact ⟨o', k b _ (ne e).1 (ne e).2 q⟩
theorem un_tell {o : HO} (u : Un fs [] H Hk h0 h) (ok : HOk P w H h0) (na : h0.get? a = none) (nk : Hk a = none) : Un fs [] H (upd Hk a o) h0 h := by
  refine ⟨u.keep, u.slot, fun b q e n hx => ?_, u.there, fun b xs e => ?_, fun b q v e => ?_, fun b ps e => ?_⟩
  · rw [upd_ne (by rintro rfl; rw [na] at e; cases e)]
    exact u.free b q e n hx
  · have := u.tups b xs e
    rw [upd_ne (by rintro rfl; rw [nk] at this; cases this)]
    exact this
  · have := u.frzs b q v e
    rw [upd_ne (by rintro rfl; rw [nk] at this; cases this)]
    exact this
  · obtain ⟨more, this⟩ := u.tbls b ps e
    exact ⟨more, by rw [upd_ne (by rintro rfl; rw [nk] at this; cases this)]; exact this⟩
end
section
variable {X : Cx} {pins : List (Addr × Obj)} {σ : L2.St} {H : Hp} {s : Shared} {f a kS : Addr} {fd : FuncData} {p : Str} {sp : Sp} {k : Nat}
theorem keyI_call (F : FnOk X.prog X.w X.K X.mg X.base CX0 k f fd [p] sp) (hb : Binds X.K fd [p] []) {A : Around} (hR : Room k A) {E' : Value → Shared → Prop} {Hk : Hp} {s' : Shared} (e0 : Env0 X.prog X.w X.K X.mg X.base A X.stack s' Hk) (hK : X.K.In s'.heap) {v : V} {u : Value} (r : RelV v u) {Q : VK} (h : sp [v] Hk Q E0) :
    wpAny (model X.prog X.w) A (call (.ref f) [u]) (CE X.stack X.prog X.w Hk s' Q) E' s' := by
  refine wpAny_call (codeAny_mono (F.run A X.stack s' Hk ⟨[u], []⟩ ([u] ++ []) [v] Q E0 hR e0 (hb s' [u] hK rfl) (.cons r .nil) h) fun r s2 hq => ?_)
  cases r with
  | error e => exact False.elim hq
  | ok fl =>
    cases fl with
    | ret u => exact hq
    | next => exact False.elim hq
    | brk => exact False.elim hq
    | cont => exact False.elim hq
/-- what the key def promises of every item -/
def KeySp (K : PySem.W.Frag) (sp : Sp) (H : Hp) (xs : List V) (kz : List PyData) : Prop := ∀ (i : Nat) v d, xs[i]? = some v → kz[i]? = some d → ∀ H1, Same H H1 → ∀ Q : VK, (∀ u H2, Same H1 H2 → Dp K H2 u d → Q u H2) → sp [v] H1 Q E0
open PySem.W in
theorem keyI_rest (I : Inv X pins σ H s) (F : FnOk X.prog X.w X.K X.mg X.base CX0 k f fd [p] sp) (hb : Binds X.K fd [p] []) {A : Around} (hR : Room k A) (hA : ∀ {s' : Shared} {Hk : Hp}, Env0 X.prog X.w X.K X.mg X.base X.A X.stack s' Hk → Env0 X.prog X.w X.K X.mg X.base A X.stack s' Hk)
    {xs : List V} {kz : List PyData} {vs : List Value} (rv : Vals xs vs) (hlen : kz.length = vs.length) (hZ : vs.length ≤ sizeLine) (hal : AllAlike kz) (hsk : Sortable kz ∨ kz.length ≤ 1) (hn : ∀ d ∈ kz, d ≠ .none) (hu : ∀ d, d ∈ kz → A.units + d.depth < cLine)
    (turn : KeySp X.K sp H xs kz) {h1 : Heap} {tk1 e1 : Nat} (kp : ∀ b o, s.heap.get? b = some o → h1.get? b = some o) (ha : s.heap.objs.size ≤ a) (hkS : s.heap.objs.size ≤ kS)
    (nk : h1.get? kS = some (seqObj "list" #[] 0)) (na : h1.get? a = some (seqObj "list" #[] e1)) (hka : kS ≠ a) {P : PySem.Fin → Shared → Prop} {E' : Value → Shared → Prop}
    (fin : ∀ Hk s' out, Inv X pins σ (upd Hk a (.lst out)) s' → Same H Hk → Hk a = none → out = (sortZ xs kz).map Prod.fst → P (.done (.ret .none)) s') :
    wpAny (model X.prog X.w) A (ksk_rest a (.ref f) false vs.toArray e1 (.ref kS)) P E' { s with heap := h1, toks := tk1 } := by
  have a0 : s.heap.get? a = none := Heap.get?_none_of_le ha
  have k0 : s.heap.get? kS = none := Heap.get?_none_of_le hkS
  have Ha : H a = none := I.hok.fresh ha
  have Hk0 : H kS = none := I.hok.fresh hkS
  have nfr : ∀ b, s.heap.objs.size ≤ b → b ∉ frs X.stack := fun b hb hm => by
    rcases List.mem_cons.mp (I.stkSub b hm) with rfl | h
    · exact Nat.lt_irrefl _ (Nat.lt_of_lt_of_le I.lt hb)
    · exact I.nofs hb h
  unfold ksk_rest
  refine wpAny_bind (wpAny_rule ?_)
  first
    | rw [List.forIn_toArray]
    | (rw [← Array.forIn_toList]; simp only [List.toList_toArray])
    | rw [← Array.forIn_toList]
  refine wpAny_bind (ksk_fold (fun i s' => ∃ (Hk : Hp) (us : List V) (kA : Array Value) (e : Nat), s'.os = s.os ∧ AllBare s'.gens ∧ Un (frs X.stack) [] H Hk s.heap s'.heap ∧ HOk X.prog X.w Hk s'.heap ∧ Same H Hk ∧ Hk a = none ∧ Hk kS = none ∧ s'.heap.get? kS = some (seqObj "list" kA e) ∧ s'.heap.get? a = some (seqObj "list" #[] e1) ∧ Vals us kA.toList ∧ DpAll X.K Hk us (kz.take i)) vs 0 _
    ⟨H, [], #[], 0, rfl, I.bare, Un.kept kp, I.hok.kept kp, .refl H, Ha, Hk0, nk, na, .nil, by rw [List.take_zero]; exact .nil⟩ ?step ?done)
  case step =>
    rintro j x s' hx ⟨Hk, us, kA, e, o1, g1, u1, ok1, sm1, ka1, kk1, nk', na', rv1, dp1⟩
    simp only [Nat.zero_add] at dp1 ⊢
    have hj : j < vs.length := (List.getElem?_eq_some_iff.mp hx).1
    obtain ⟨d, hd⟩ : ∃ d, kz[j]? = some d := ⟨_, List.getElem?_eq_getElem (by omega)⟩
    obtain ⟨v, hv⟩ : ∃ v, xs[j]? = some v := ⟨_, List.getElem?_eq_getElem (by rw [rv.length]; exact hj)⟩
    have rx : RelV v x := by
      obtain ⟨y, h1, h2⟩ := rv.get hv
      rw [hx] at h1
      cases h1
      exact h2
    have Ik : Inv X pins σ Hk s' := by
      obtain ⟨hh, g, dd, t, os'⟩ := s'
      obtain rfl : os' = s.os := o1
      exact I.call (h' := hh) (g' := g) (d' := dd) (t' := t) (ch := []) u1 ok1 g1 (fun b z => absurd z (by simp))
    have hz : kA.size ≤ vs.length := by
      have h1 := rv1.length
      have h2 := dpAll_len dp1
      have h3 : kA.toList.length = kA.size := Array.length_toList
      have h4 : (kz.take j).length ≤ j := by rw [List.length_take]; exact Nat.min_le_left _ _
      rw [← h3, ← h1, h2]
      exact Nat.le_trans h4 (Nat.le_of_lt hj)
    refine wpAny_bind (wpAny_attempt (wpAny_mono (keyI_call (E' := fun _ _ => False) F hb hR (hA Ik.env0) Ik.kIn rx (turn j v d hv hd Hk sm1 (fun u H2 => Same Hk H2 ∧ Dp X.K H2 u d) fun u H2 q1 q2 => ⟨q1, q2⟩)) (fun u s2 he => ?_) fun _ _ hF => hF.elim))
    obtain ⟨v2, H2, o2, g2, u2, ok2, r2, sm2, dp2⟩ := he
    have nk2 : s2.heap.get? kS = some (seqObj "list" kA e) := u2.keep kS _ nk' kk1 (nfr kS hkS) (by simp)
    have na2 : s2.heap.get? a = some (seqObj "list" #[] e1) := u2.keep a _ na' ka1 (nfr a ha) (by simp)
    have kk2 : H2 kS = none := u2.free kS _ nk' kk1 (by simp)
    have ka2 : H2 a = none := u2.free a _ na' ka1 (by simp)
    have s1 := Heap.SameBut.update s2.heap kS (Obj.mapSeq (·.push u))
    obtain ⟨c2, hc2⟩ : ∃ c2, (s2.heap.update kS (Obj.mapSeq (·.push u))).get? kS = some (seqObj "list" (kA.push u) c2) := ⟨_, get?_update_seq nk2 (·.push u)⟩
    have ek : kz.take (j + 1) = kz.take j ++ [d] := by rw [List.take_add_one, hd]; simp
    have ea : (kA.push u).toList = kA.toList ++ [u] := by simp
    refine wpAny_bind (listUpdate_at nk2 rfl ?_ (Nat.le_trans hz hZ) (Nat.le_trans (Nat.le_of_eq (Array.size_push ..)) (Nat.succ_le_succ (Nat.le_trans hz hZ))))
    have kb : ∀ b o, b ≠ kS → b ≠ kS → s2.heap.get? b = some o → (s2.heap.update kS (Obj.mapSeq (·.push u))).get? b = some o := fun b o h _ e => (s1.2 b h).trans e
    refine wpAny_pure ⟨rfl, H2, us ++ [v2], kA.push u, c2, o2.trans o1, g2, un_but (u1.trans u2) k0 k0 kb, hok_but ok2 kk2 kk2 kb, sm1.trans sm2, ka2, kk2, hc2, (s1.2 a hka.symm).trans na2, ?_, ?_⟩
    · rw [ea]
      exact rv1.append (.cons r2 .nil)
    · rw [ek]
      exact dps_snoc dp2 (dps_same sm2 _ _ dp1)
  case done =>
    rintro s' ⟨Hk, us, kA, e, o1, g1, u1, ok1, sm1, ka1, kk1, nk', na', rv1, dp1⟩
    rw [List.take_of_length_le (by omega)] at dp1
    have Ik : Inv X pins σ Hk s' := by
      obtain ⟨hh, g, dd, t, os'⟩ := s'
      obtain rfl : os' = s.os := o1
      exact I.call (h' := hh) (g' := g) (d' := dd) (t' := t) (ch := []) u1 ok1 g1 (fun b z => absurd z (by simp))
    obtain ⟨as, rr⟩ := Dp.readsAll Ik kz _ _ dp1 rv1
    have hkl := dpAll_len dp1
    have hsz : kA.size = vs.length := by
      have h1 := rv1.length
      have h3 : kA.toList.length = kA.size := Array.length_toList
      rw [← h3, ← h1, hkl, hlen]
    have hk' : EachIs (fun v k => ∃ as, Reads s'.heap v k as) kA.toList kz := by
      have := each_reads (xs := us) rr hkl
      have h2 := each_map (R := fun v d => ∃ as, Reads s'.heap v d as) Prod.snd this
      rw [zip_snd hkl] at h2
      exact h2
    obtain ⟨G, G1, G2⟩ := restrict s'.heap (fun b => decide (b ≠ kS))
    have G1' : ∀ b, b ≠ kS → G.get? b = s'.heap.get? b := fun b hb => G1 b (decide_eq_true hb)
    refine wpAny_bind (listItems_at nk' rfl ?_)
    refine keyH_end (κ := dataKind s'.heap kz) (h₁ := G) (kS := kS) (fun b o hb q => ?_) (G2 kS (decide_eq_false (by simp))) nk' na' hka (sorts_few hk' hal hsk hn hu) hsz hZ fun h3 tk3 c k3 n3 => ?_
    · by_cases hbk : b = kS
      · subst hbk
        rw [G2 b (decide_eq_false (by simp))] at q
        cases q
      · rw [G1' b hbk] at q
        exact q
    have kb : ∀ b o, b ≠ a → b ≠ kS → s'.heap.get? b = some o → h3.get? b = some o := fun b o h1 h2 e => k3 b o h1 (by rw [G1' b h2]; exact e)
    have hxl : xs.length = kz.length := by rw [rv.length, hlen]
    have ke : EachIs (fun v (b : V × PyData) => RelV b.1 v) (sortVals (dataKind s'.heap kz) false kA.toList vs) (sortZ xs kz) := by
      have : KeyedOut false ((xs.zip kz).map Prod.snd) vs (sortVals (dataKind s'.heap kz) false kA.toList vs) := by
        rw [zip_snd hxl]
        exact ⟨s'.heap, kA.toList, hal, rfl, hk'⟩
      exact keyedOut_each Prod.snd this (each_vals rv hxl)
    have hz' : ((sortZ xs kz).map Prod.fst).length ≤ sizeLine := by
      unfold sortZ
      rw [List.length_map, (List.mergeSort_perm _ _).length_eq, List.length_zip]
      omega
    have hobj : ObjOk X.prog X.w (upd Hk a (.lst ((sortZ xs kz).map Prod.fst))) h3 a (.lst ((sortZ xs kz).map Prod.fst)) := ⟨hz', _, c, vals_each ke, n3⟩
    refine fin Hk _ _ ?_ sm1 ka1 rfl
    have un3 := un_tell (o := .lst ((sortZ xs kz).map Prod.fst)) (un_but u1 a0 k0 kb) I.hok a0 ka1
    have ok3 := hok_tell ok1 ka1 kk1 kb hobj
    obtain ⟨hh, g, dd, t, os'⟩ := s'
    obtain rfl : os' = s.os := o1
    have := I.call (h' := h3) (g' := g) (d' := dd) (t' := tk3) (ch := []) un3 ok3 g1 (fun b z => absurd z (by simp))
    exact this
open PySem.W in
/-- sorted(xs, key=f) -/
def rSortK (K : PySem.W.Frag) (f : Addr) (sp : Sp) : List V → List V → Hp → VK → Prop := fun vs zs H Q => ∃ (a : Addr) (xs : List V) (kz : List PyData), vs = [V.ref a] ∧ zs = [V.ref f] ∧ SqL K H a xs ∧ kz.length = xs.length ∧ AllAlike kz ∧ (Sortable kz ∨ kz.length ≤ 1) ∧ (∀ d ∈ kz, d ≠ .none ∧ d.depth ≤ 60) ∧ KeySp K sp H xs kz ∧
  ∀ p Hk, Same H Hk → Hk p = none → Q (.ref p) (upd Hk p (.lst ((sortZ xs kz).map Prod.fst)))
open PySem.W in
theorem cr_sortK (hc : X.calm = true) (F : FnOk X.prog X.w X.K X.mg X.base CX0 k f fd [p] sp) (hb : Binds X.K fd [p] []) (hr : Room (k + 2) X.A) : CallRK X (.builtin "sorted") [Str.ofString "key"] (rSortK X.K f sp) := by
  intro pins s σ H vs zs us ws Q I r rz h
  obtain ⟨l, xs, kz, rfl, rfl, hs, hlen, hal, hsk, hdp, turn, q⟩ := h
  rw [Vals.ref1 r, Vals.ref1 rz]
  obtain ⟨its, rv, ht, hz⟩ := I.list hs
  have hz' : its.length ≤ sizeLine := by rw [← rv.length]; exact hz
  refine sorted_of_sort ht.isList hz' (PyProof.Rows.ksk_s1 _ _) (fun _ => PyProof.Rows.ksk_l1 _ _) fun E' => ?_
  show wpAny _ _ (Builtin.«list.sort» ⟨[.ref (s.heap.objs.size + 1)], [(Str.ofString "key", .ref f)]⟩) _ _ _
  rw [PyProof.Rows.ksk_t1]
  have ho := copyHeap_at s.heap its
  have hac : s.heap.objs.size + 1 < (copyHeap s.heap its).objs.size := Heap.lt_size ho
  obtain ⟨e1, ho1⟩ : ∃ e1, ((copyHeap s.heap its).update (s.heap.objs.size + 1) (Obj.mapSeq fun _ => (#[] : Array Value))).get? (s.heap.objs.size + 1) = some (seqObj "list" #[] e1) := ⟨_, get?_update_seq ho fun _ => #[]⟩
  have hkS : (((copyHeap s.heap its).update (s.heap.objs.size + 1) (Obj.mapSeq fun _ => (#[] : Array Value))).push (seqObj "tuple" its.toArray 0)).objs.size = (copyHeap s.heap its).objs.size + 1 := by rw [size_push', Heap.size_update]
  unfold ksk_tree
  refine wpAny_bind (listItems_at ho rfl ?_)
  refine wpAny_bind (listUpdate_at ho rfl ?_ (by rw [List.size_toArray]; exact hz') (Nat.zero_le _))
  refine wpAny_bind (seqEpoch_at ho1 rfl ?_)
  refine wpAny_bind (wpAny_newTuple ?_ (by show its.length ≤ _; exact hz'))
  refine wpAny_bind (wpAny_newList ?_ (Nat.zero_le _))
  refine wpAny_holding ?_
  have kp : ∀ b o, s.heap.get? b = some o → ((((copyHeap s.heap its).update (s.heap.objs.size + 1) (Obj.mapSeq fun _ => (#[] : Array Value))).push (seqObj "tuple" its.toArray 0)).push (seqObj "list" #[] 0)).get? b = some o := fun b o e => by
    have hlt : b < s.heap.objs.size := Heap.lt_size e
    refine Heap.get?_push_of_some _ (Heap.get?_push_of_some _ ?_)
    rw [Heap.get?_update_ne _ _ _ _ (Nat.ne_of_lt (Nat.lt_succ_of_lt hlt))]
    exact copyHeap_old e
  refine keyI_rest (A := X.A.in1.in1) (kS := (((copyHeap s.heap its).update (s.heap.objs.size + 1) (Obj.mapSeq fun _ => (#[] : Array Value))).push (seqObj "tuple" its.toArray 0)).objs.size) I F hb (hr.in1.in1) (fun e => e.in1.in1) rv (by rw [hlen, rv.length]) hz' hal hsk (fun d hd => (hdp d hd).1) (fun d hd => ?_) turn kp (Nat.le_succ _) (by rw [hkS]; omega)
    (Heap.get?_push_size _ rfl) (Heap.get?_push_of_some _ (Heap.get?_push_of_some _ ho1)) (by rw [hkS]; exact Nat.ne_of_gt (Nat.lt_succ_of_lt hac)) fun Hk s' out I' sm ka e => ⟨rfl, ?_⟩
  · have := (hdp d hd).2
    have := hr.un
    show X.A.units + 2 + d.depth < cLine
    omega
  · subst e
    exact ⟨.ref _, _, I', rfl, q _ Hk sm ka⟩
end
end Sm
set_option maxRecDepth 10000000
/-! reading sorted(xs, key=f) -/
namespace Sm
open PySem PySem.Spec PyProof.Rows L2 Evl CrT Cr
/-- the keys of a list's items -/
def keysM (D : Fn) : List PyData → Option (List PyData)
  | [] => some []
  | d :: ds => (D [d]).bind fun k => (keysM D ds).bind fun ks => some (k :: ks)
theorem keysM_len {D : Fn} : ∀ {ds kz : List PyData}, keysM D ds = some kz → kz.length = ds.length
  | [], kz, h => by cases h; rfl
  | d :: ds, kz, h => by
    obtain ⟨k, h1, h2⟩ := bind_some' h
    obtain ⟨ks, h3, h4⟩ := bind_some' h2
    cases h4
    rw [List.length_cons, List.length_cons, keysM_len h3]
theorem keysM_get {D : Fn} : ∀ {ds kz : List PyData} {i : Nat} {k : PyData}, keysM D ds = some kz → kz[i]? = some k → ∃ d, ds[i]? = some d ∧ D [d] = some k
  | [], kz, i, k, h, hk => by cases h; cases hk
  | d :: ds, kz, i, k, h, hk => by
    obtain ⟨k', h1, h2⟩ := bind_some' h
    obtain ⟨ks, h3, h4⟩ := bind_some' h2
    cases h4
    cases i with
    | zero => cases hk; exact ⟨d, rfl, h1⟩
    | succ i => exact keysM_get (ds := ds) (i := i) h3 hk
theorem keysM_map {α : Type} {D : Fn} {f k : α → PyData} : ∀ {l : List α}, (∀ a ∈ l, D [f a] = some (k a)) → keysM D (l.map f) = some (l.map k)
  | [], _ => rfl
  | a :: l, h => by
    rw [List.map_cons, List.map_cons]
    show (D [f a]).bind _ = _
    rw [h a List.mem_cons_self, Option.bind_some, keysM_map fun b hb => h b (List.mem_cons_of_mem _ hb)]
    rfl
def SortOkK (ds kz : List PyData) : Prop := (PySem.W.AllAlike kz ∧ (PySem.W.Sortable kz ∨ kz.length ≤ 1) ∧ ∀ d ∈ kz, d ≠ .none ∧ d.depth ≤ 60) ∧ kz.all (fun d => d.canLay0) = true ∧ noAs ds = true
def sortDK (ds kz : List PyData) : List PyData := ((ds.zip kz).mergeSort (PySem.W.dataLe false Prod.snd)).map Prod.fst
open Classical in
noncomputable def gSortK (D : Fn) : PyData → Option (List PyData)
  | .list ds => (keysM D ds).bind fun kz => if SortOkK ds kz then some (sortDK ds kz) else none
  | _ => none
noncomputable def fSortK (D : Fn) (fe : FE) : FA := fun ρ => (fe ρ).bind (gSortK D)
theorem gSortK_l {D : Fn} {ds kz : List PyData} (h1 : keysM D ds = some kz) (h2 : SortOkK ds kz) : gSortK D (.list ds) = some (sortDK ds kz) := by
  show (keysM D ds).bind _ = _
  rw [h1, Option.bind_some, if_pos h2]
/-- in the order of the keys, on both sides -/
theorem sort_both {α β : Type} {R : α → β → Prop} {xs : List α} {ds : List β} {kz : List PyData} (h1 : xs.length = ds.length) (h2 : kz.length = ds.length) (h : ∀ (i : Nat) x d, xs[i]? = some x → ds[i]? = some d → R x d) :
    (((xs.zip kz).mergeSort (PySem.W.dataLe false Prod.snd)).map Prod.fst).length = (((ds.zip kz).mergeSort (PySem.W.dataLe false Prod.snd)).map Prod.fst).length ∧ ∀ (i : Nat) x d, (((xs.zip kz).mergeSort (PySem.W.dataLe false Prod.snd)).map Prod.fst)[i]? = some x → (((ds.zip kz).mergeSort (PySem.W.dataLe false Prod.snd)).map Prod.fst)[i]? = some d → R x d := by
  have e1 : ((xs.zip ds).zip kz).map (fun t => (t.1.1, t.2)) = xs.zip kz := by
    apply List.ext_getElem?
    intro i
    simp only [List.getElem?_map, List.zip, List.getElem?_zipWith]
    by_cases hi : i < ds.length
    · rw [List.getElem?_eq_getElem hi, List.getElem?_eq_getElem (show i < xs.length by omega), List.getElem?_eq_getElem (show i < kz.length by omega)]
      rfl
    · rw [List.getElem?_eq_none (show xs.length ≤ i by omega)]
      cases ds[i]? <;> cases kz[i]? <;> rfl
  have e2 : ((xs.zip ds).zip kz).map (fun t => (t.1.2, t.2)) = ds.zip kz := by
    apply List.ext_getElem?
    intro i
    simp only [List.getElem?_map, List.zip, List.getElem?_zipWith]
    by_cases hi : i < ds.length
    · rw [List.getElem?_eq_getElem hi, List.getElem?_eq_getElem (show i < xs.length by omega), List.getElem?_eq_getElem (show i < kz.length by omega)]
      rfl
    · rw [List.getElem?_eq_none (show ds.length ≤ i by omega)]
      cases xs[i]? <;> cases kz[i]? <;> rfl
  have s1 := PySem.W.sort_maps (r := PySem.W.dataLe false (fun t : (α × β) × PyData => t.2)) (s := PySem.W.dataLe false (Prod.snd : α × PyData → PyData)) (fun t => (t.1.1, t.2)) (l := (xs.zip ds).zip kz) fun a _ b _ => rfl
  have s2 := PySem.W.sort_maps (r := PySem.W.dataLe false (fun t : (α × β) × PyData => t.2)) (s := PySem.W.dataLe false (Prod.snd : β × PyData → PyData)) (fun t => (t.1.2, t.2)) (l := (xs.zip ds).zip kz) fun a _ b _ => rfl
  rw [e1] at s1
  rw [e2] at s2
  rw [← s1, ← s2]
  refine ⟨by simp only [List.length_map], fun i x d hx hd => ?_⟩
  simp only [List.getElem?_map] at hx hd
  cases e : (((xs.zip ds).zip kz).mergeSort (PySem.W.dataLe false fun t => t.2))[i]? with
  | none => rw [e] at hx; cases hx
  | some z =>
    rw [e] at hx hd
    cases hx
    cases hd
    have hz : z ∈ (xs.zip ds).zip kz := (List.mergeSort_perm _ _).mem_iff.mp (List.mem_of_getElem? e)
    obtain ⟨hz1, _⟩ := List.of_mem_zip (a := z.1) (b := z.2) hz
    obtain ⟨j, hj⟩ := List.mem_iff_getElem?.mp hz1
    rw [List.getElem?_zip_eq_some] at hj
    exact h j _ _ hj.1 hj.2
section
variable {K : PySem.W.Frag} {A : Atm} {te : TE} {fe : FE}
theorem sl_sortK {A2 : Atm} {f : Addr} {D : Fn} (h : SE K A te fe) : SL K A (tCKw (rSortK K f (spF K A2 D)) (tCons te tNil) (tCons (tC (.ref f)) tNil)) (fSortK D fe) := fun {H0 O0 O σ H ρ} R ds hds Q q => by
  obtain ⟨d, h1, h2⟩ := bind_some' hds
  refine h R d h1 _ fun v H1 e1 hv => ?_
  unfold gSortK at h2
  split at h2
  · rename_i es
    obtain ⟨kz, h3, h4⟩ := bind_some' h2
    split at h4
    · rename_i ok
      cases h4
      obtain ⟨p, xs, rfl, hp, hnp, hxs⟩ := hv.lst_inv
      have R1 := R.owl.same e1
      have hkl := keysM_len h3
      refine ⟨p, xs, kz, rfl, rfl, sq_of hp, by rw [hkl, hxs.1], ok.1.1, ok.1.2.1, ok.1.2.2, fun i x k hx hk H2 e2 Q' q' => ?_, fun l Hk e2 hl => ?_⟩
      · obtain ⟨d, hd, hD⟩ := keysM_get h3 hk
        have hfd := hxs.2 i x d hx hd
        have hno : noA d = true := noAs_mem ok.2.2 d (List.mem_of_getElem? hd)
        refine ⟨O, [d], k, R1.same e2, .cons ((hfd.noa hno).up.same e2) .nil, hD, fun u H3 e3 hu => q' u H3 e3 ?_⟩
        exact hu.dp (List.all_eq_true.mp ok.2.1 k (List.mem_of_getElem? hk))
      · have hf : Fds K A O H1 ((sortZ xs kz).map Prod.fst) (sortDK es kz) := sort_both hxs.1 hkl hxs.2
        have e3 : Same Hk (upd Hk l (.lst ((sortZ xs kz).map Prod.fst))) := Cr.same_new hl
        refine q l _ _ (e1.free (e2.free hl)) ((e1.trans e2).trans e3) upd_same ?_
        exact ((hf.same e2).more hl).same e3
    · cases h4
  · cases h2
end
end Sm
set_option maxRecDepth 10000000
/-! sorting tuples, the empty one too; `<` of data -/
namespace Sm
open PySem PySem.Spec PyProof.Rows L2 Evl CrT Cr
section
open PySem.SeqAt
theorem call_tuple_lt {A : Around} {s : Shared} {prog : Program} {w : World} {E : Value → Shared → Prop} {Q : Value → Shared → Prop} {l b : Addr} {items items2 : Array Value} {e r : Nat → Bool} (hl : s.heap.IsTuple l items) (hb : s.heap.IsTuple b items2)
    (he : ∀ j (h1 : j < items.size) (h2 : j < items2.size), EqAt A.in1 s items[j] items2[j] (e j)) (hr : ∀ j (h1 : j < items.size) (h2 : j < items2.size), e j = false → RcLt A.in1 s items[j] items2[j] (r j))
    (h : Q (.bool (firstLt e r (decide (items.size < items2.size)) (List.range (min items.size items2.size)))) s) : wpAny (model prog w) A (call (.builtin "tuple.__lt__") [.ref l, .ref b]) Q E s := by
  obtain ⟨⟨cls, dd, data, sl⟩, ho, hc, n, hd⟩ := id hl
  obtain ⟨⟨cls2, dd2, data2, sl2⟩, ho2, hc2, n2, hd2⟩ := id hb
  simp only at hc hd hc2 hd2
  subst hc hd hc2 hd2
  exact call_meets PySem.F.slot_tuple_lt ⟨_, ho, rfl⟩ PySem.F.entry_tuple_lt (PySem.F.args_tuple_lt_2 _ _) (tuple_ltAt l b items items2 n n2 dd dd2 sl sl2 e r) ⟨ho, ho2, he, hr, h⟩
end
section
open PySem.W PySem.SeqAt PySem.Calls
variable {prog : Program} {w : World} {A : Around} {E : Value → Shared → Prop} {s : Shared}
theorem oneLt_tup {xs ys : List PyData} {a b : Value} {as bs : List Addr} {Q : Bool → Shared → Prop} (ra : Reads s.heap a (.tuple xs) as) (rb : Reads s.heap b (.tuple ys) bs) (h : alike (.tuple xs) (.tuple ys) = true)
    (hu : A.units + min (PyData.tuple xs).depth (PyData.tuple ys).depth < cLine) (hq : Q (dataLt (.tuple xs) (.tuple ys)) s) : wpAny (model prog w) A (oneLt' true a b) Q E s := by
  have hal : alikeAll xs ys = true := by simpa [alike] using h
  cases ra with
  | @tuple l o vs n _ as₁ h1 h2 h3 h4 =>
    cases rb with
    | @tuple l' o' vs' n' _ bs₁ k1 k2 k3 k4 =>
      have n1 : vs.size = xs.length := by simpa using SeqAt.ReadsAll.length _ _ _ h4
      have n2 : vs'.size = ys.length := by simpa using SeqAt.ReadsAll.length _ _ _ k4
      rw [dataLt_tuple, ← firstLt_toks xs ys hal, ← n1, ← n2] at hq
      rw [oneLt'_eq]
      simp only [if_true]
      refine wpAny_bind (wpAny_cRoomFor (room_here hu) ?_)
      refine wpAny_bind (wpAny_callSpecialIfBound?_slot (T := "tuple") ⟨_, h1, h2⟩ PySem.F.slot_tuple_lt (call_tuple_lt (e := pairEq xs ys) (r := fun j => dataLt (xs.getD j .none) (ys.getD j .none)) ⟨_, h1, h2, _, h3⟩ ⟨_, k1, k2, _, k3⟩ (fun j j1 j2 => ?_) (fun j j1 j2 hj => ?_) ?_))
      · have := eqAt_alikeAll xs ys A.in1 s vs.toList vs'.toList _ _ h4 k4 hal (room_in hu) j (by simpa using j1) (by simpa using j2)
        simpa using this
      · have := rcLt_alikeAll xs ys A.in1 s vs.toList vs'.toList _ _ h4 k4 hal (room_in hu) j (by simpa using j1) (by simpa using j2) hj
        simpa using this
      · exact wpAny_truthy_bool hq
/-- tuples and their first items, if there is one -/
inductive TupsO (h : Heap) : List Value → List (Option Value) → Prop
  | nil : TupsO h [] []
  | cons {a : Addr} {o : Obj} {xs : Array Value} {n : Nat} {vs : List Value} {fs : List (Option Value)} : h.get? a = some o → o.cls = .type "tuple" → o.data = .seq xs n → TupsO h vs fs → TupsO h (.ref a :: vs) (xs[0]? :: fs)
theorem tupsO_firsts {M : Model} : ∀ {vs : List Value} {fs : List (Option Value)} {Q : List (Option Value) → Shared → Prop}, TupsO s.heap vs fs → Q fs s → wpAny M A (vs.mapM firstOfTuple') Q E s
  | _, _, Q, .nil, h => by rw [List.mapM_nil]; exact wpAny_pure h
  | _, _, Q, .cons (a := a) (o := o) (xs := xs) (fs := fs) ho hc hd t, h => by
    rw [List.mapM_cons]
    refine wpAny_bind ?_
    rw [kas_first_eq]
    refine wpAny_bind (Looks.here (show Looks M s.heap (typeOf (.ref a)) o.cls from (Looks.ld ho).andThen .now) ?_)
    rw [hc, if_neg (by first | decide | simp)]
    refine wpAny_bind (listItems_at ho hd (wpAny_pure ?_))
    exact wpAny_bind (tupsO_firsts (Q := fun bs s' => wpAny M A (pure (xs[0]? :: bs)) Q E s') t (wpAny_pure h))
theorem tupsO_of : ∀ {vs : List Value} {ds : List PyData}, EachIs (fun v d => ∃ as, Reads s.heap v d as) vs ds → (∀ d ∈ ds, ∃ xs, d = .tuple xs) → ∃ fs, TupsO s.heap vs fs ∧ fs.length = ds.length ∧ ∀ (i : Nat) xs, ds[i]? = some (.tuple xs) → ∃ f, fs[i]? = some f ∧ f.isSome = !xs.isEmpty
  | _, _, .nil, _ => ⟨[], .nil, rfl, fun i xs h => by cases h⟩
  | _, _, .cons (b := d) ⟨as, r⟩ t, ht => by
    obtain ⟨fs, h1, h2, h3⟩ := tupsO_of t fun d hd => ht d (List.mem_cons_of_mem _ hd)
    obtain ⟨ys, rfl⟩ := ht d List.mem_cons_self
    cases r with
    | @tuple a o xs n _ _ ho hc hd hr =>
      refine ⟨_, .cons ho hc hd h1, by rw [List.length_cons, List.length_cons, h2], fun i zs hz => ?_⟩
      cases i with
      | zero =>
        cases hz
        refine ⟨_, rfl, ?_⟩
        have n1 : xs.size = ys.length := by simpa using SeqAt.ReadsAll.length _ _ _ hr
        cases ys with
        | nil =>
          have : xs[0]? = none := Array.getElem?_eq_none (by rw [n1]; exact Nat.le_refl 0)
          rw [this]
          rfl
        | cons y ys =>
          have : xs[0]? = some (xs[0]'(by rw [n1, List.length_cons]; omega)) := Array.getElem?_eq_getElem (by rw [n1, List.length_cons]; omega)
          rw [this]
          rfl
      | succ i => exact h3 i zs hz
theorem tups_kind {M : Model} {vs : List Value} {fs : List (Option Value)} {Q : SortKind → Shared → Prop} (t : TupsO s.heap vs fs) (ty : ∀ v ∈ vs, Looks M s.heap (typeOf v) (.type "tuple")) (hne : 1 ≤ vs.length) (h0 : ∃ f ∈ fs, f = none)
    (h : Q (if (fs[0]?.bind id).isSome then general' else oneType') s) : wpAny M A (keyKind' vs.toArray) Q E s := by
  rw [kat_kind_eq, List.mapM_toArray, map_eq_pure_bind]
  refine wpAny_bind (wpAny_bind (tupsO_firsts t (wpAny_pure ?_)))
  have hall : (fs.toArray.all fun x => x.isSome) = false := by
    obtain ⟨f, hf, rfl⟩ := h0
    rw [List.all_toArray]
    exact List.all_eq_false.mpr ⟨none, hf, by simp⟩
  rw [if_neg (by rw [hall]; simp)]
  have e0 : fs.toArray[0]? = fs[0]? := by simp
  rw [e0]
  by_cases hs : (fs[0]?.bind id).isSome = true
  · rw [if_pos hs] at h ⊢
    exact wpAny_pure h
  · rw [if_neg hs] at h ⊢
    obtain ⟨v1, rest, rfl⟩ : ∃ v1 rest, vs = v1 :: rest := by
      match vs, hne with
      | v1 :: rest, _ => exact ⟨v1, rest, rfl⟩
    rw [oneTypeOnly'_eq, List.mapM_toArray, map_eq_pure_bind]
    refine wpAny_bind (wpAny_bind (wpAny_bind (kas_mapM (r := .type "tuple") _ (fun v hv Q' hq => (ty v hv).here hq) (wpAny_pure ?_))))
    have hall2 : ((List.map (fun _ => Value.type "tuple") (v1 :: rest)).toArray.all fun x => x == Value.type "tuple") = true := by
      simp only [List.all_toArray, List.all_map, List.all_eq_true]
      intro _ _
      exact beq_self_eq_true _
    have h0' : (List.map (fun _ => Value.type "tuple") (v1 :: rest)).toArray[0]? = some (Value.type "tuple") := by simp
    rw [h0']
    simp only [hall2, if_true]
    exact wpAny_pure (wpAny_pure h)
/-- alike tuples, the empty one too -/
theorem sorts_tups {vs : List Value} {ds : List PyData} (e : EachIs (fun v d => ∃ as, Reads s.heap v d as) vs ds) (hal : AllAlike ds) (ht : ∀ d ∈ ds, ∃ xs, d = .tuple xs) (hu : ∀ d, d ∈ ds → A.units + d.depth < cLine) : SortsAt prog w A s (dataKind s.heap ds) vs := by
  by_cases hne : ∀ d ∈ ds, d ≠ .tuple []
  · refine .data e hal (.inl fun d hd => ?_) hu
    obtain ⟨xs, rfl⟩ := ht d hd
    cases xs with
    | nil => exact absurd rfl (hne _ hd)
    | cons x r => exact ⟨x, r, rfl⟩
  · obtain ⟨fs, t1, t2, t3⟩ := tupsO_of e ht
    have h0 : ∃ f ∈ fs, f = none := by
      obtain ⟨d, hd, rfl⟩ : ∃ d ∈ ds, d = .tuple [] := Classical.byContradiction fun hc => hne fun d hd h => hc ⟨d, hd, h⟩
      obtain ⟨i, hi⟩ := List.mem_iff_getElem?.mp hd
      obtain ⟨f, hf, hs⟩ := t3 i [] hi
      refine ⟨f, List.mem_of_getElem? hf, ?_⟩
      cases f with
      | none => rfl
      | some x => cases hs
    refine ⟨fun v hv => ?_, if (fs[0]?.bind id).isSome then general' else oneType', ?_, fun h2 E Q hq => tups_kind t1 (fun v hv => ?_) (by omega) h0 hq⟩
    · obtain ⟨d, hd, as, r⟩ := e.left v hv
      exact ⟨_, dataKind_some hal hd r⟩
    · intro E x y a b Q ha hb hq
      obtain ⟨d, as, hd, ra, rfl⟩ := dataKind_inv ha
      obtain ⟨d', as', hd', rb, rfl⟩ := dataKind_inv hb
      have hr : A.units + min d.depth d'.depth < cLine := Nat.lt_of_le_of_lt (Nat.add_le_add_left (Nat.min_le_left _ _) _) (hu d hd)
      have hdd := hal d hd d' hd'
      by_cases hs : (fs[0]?.bind id).isSome = true
      · rw [if_pos hs]
        exact oneLt_alike (f := false) (fun h => nomatch h) ra rb hdd (by obtain ⟨xs, rfl⟩ := ht d hd; exact fun h => nomatch h) hr hq
      · rw [if_neg hs, keyLt'_oneType]
        obtain ⟨xs, rfl⟩ := ht d hd
        obtain ⟨ys, rfl⟩ := ht d' hd'
        exact oneLt_tup ra rb hdd hr hq
    · obtain ⟨d, hd, as, r⟩ := e.left v hv
      obtain ⟨xs, rfl⟩ := ht d hd
      exact looks_reads r
end
/-! ### `<` of data -/
section
variable {X : Cx}
open PySem.W in
def rLtD (K : PySem.W.Frag) : R2 := fun x y H Q => ∃ d e, Dp K H x d ∧ Dp K H y e ∧ alike d e = true ∧ d ≠ .none ∧ d.depth ≤ 60 ∧ Q (.bl (dataLt d e)) H
open PySem.W in
theorem op_ltD (hu : X.A.units + 64 < cLine) : OpR X (compareOp .Lt) (rLtD X.K) := by
  intro pins s σ H x y v u Q I rx ry h
  obtain ⟨d, e, hd, he, al, hn, dp, q⟩ := h
  obtain ⟨as, r1⟩ := Dp.reads I d x v hd rx
  obtain ⟨bs, r2⟩ := Dp.reads I e y u he ry
  exact PySem.W.lt_data r1 r2 al hn (Nat.lt_of_le_of_lt (Nat.add_le_add_left (Nat.min_le_left _ _) _) (by omega)) ⟨.bl _, H, I, rfl, q⟩
def rLtX (K : PySem.W.Frag) : R2 := fun x y H Q => rI0 (fun i j => .bl (decide (i < j))) x y H Q ∨ rLtD K x y H Q
theorem op_ltX (hu : X.A.units + 64 < cLine) : OpR X (compareOp .Lt) (rLtX X.K) := opr_or op_lt (op_ltD hu)
end
end Sm
set_option maxRecDepth 10000000
/-! sorted(rows) of tuples, `<` of data: reading -/
namespace Sm
open PySem PySem.Spec PyProof.Rows L2 Evl CrT Cr
section
variable {X : Cx}
open PySem.W
def rSortedU (K : PySem.W.Frag) : List V → Hp → VK → Prop := fun vs H Q => ∃ (a : Addr) (xs : List V) (ds : List PyData), vs = [V.ref a] ∧ SqL K H a xs ∧ DpAll K H xs ds ∧ AllAlike ds ∧ (∀ d ∈ ds, ∃ ys, d = .tuple ys) ∧ (∀ d ∈ ds, d.depth ≤ 60) ∧
  ∀ p, H p = none → Q (.ref p) (upd H p (.lst ((sortZ xs ds).map Prod.fst)))
theorem cr_sortedU (hu : X.A.units + 65 < cLine) : CallR X (.builtin "sorted") (rSortedU X.K) := fun pins s σ H vs us Q I r h => by
  obtain ⟨a, xs, ds, rfl, hs, hd, hal, hk, hdp, q⟩ := h
  rw [Vals.ref1 r]
  have hl := dpAll_len hd
  obtain ⟨its, rv, ht, hz⟩ := I.list hs
  obtain ⟨as, rr⟩ := Dp.readsAll I ds xs its hd rv
  have e1 := each_vals rv hl
  have e2 := each_reads rr hl
  have hal' : AllAlike ((xs.zip ds).map Prod.snd) := by rw [zip_snd hl]; exact hal
  have er' : EachIs (fun v (b : V × PyData) => ∃ as, Reads (sortingHeap (copyHeap s.heap its) (s.heap.objs.size + 1) its) v b.2 as) its (xs.zip ds) := e2.mono fun _ _ ⟨as, r⟩ => ⟨as, PyProof.Rows.Reads.keeps (fun _ _ => sorting_copy_old) r⟩
  have S := sorts_tups (prog := X.prog) (w := X.w) (A := X.A.in1.in1) (s := { s with heap := sortingHeap (copyHeap s.heap its) (s.heap.objs.size + 1) its }) (each_map (R := fun v d => ∃ as, Reads (sortingHeap (copyHeap s.heap its) (s.heap.objs.size + 1) its) v d as) Prod.snd er') hal' (by rw [zip_snd hl]; exact hk) (fun d hd' => by
    rw [zip_snd hl] at hd'
    have := hdp d hd'
    show X.A.units + 2 + d.depth < cLine
    omega)
  refine sorted_vals ht.isList S (by rw [← rv.length]; exact hz) ?_
  obtain ⟨ep, at_⟩ := PyProof.Rows.sortedAll_at s.heap its (List.toArray (sortVals (dataKind (sortingHeap (copyHeap s.heap its) (s.heap.objs.size + 1) its) ((xs.zip ds).map Prod.snd)) false its its))
  have hz' : ((sortZ xs ds).map Prod.fst).length ≤ sizeLine := by
    unfold sortZ
    rw [List.length_map, (List.mergeSort_perm _ _).length_eq, List.length_zip]
    omega
  refine ⟨.ref _, upd H (s.heap.objs.size + 1) (.lst ((sortZ xs ds).map Prod.fst)), ?_, rfl, q _ (I.hok.fresh (Nat.le_succ _))⟩
  exact I.laid (t' := s.toks) (fun _ _ => PyProof.Rows.sortedAll_old) (Nat.le_succ _) ⟨hz', _, ep, vals_each (sortVals_data false e1 er' hal'), at_⟩
end
def SortOkU (ds : List PyData) : Prop := (PySem.W.AllAlike ds ∧ (∀ d ∈ ds, ∃ ys, d = .tuple ys) ∧ ∀ d ∈ ds, d.depth ≤ 60) ∧ ds.all (fun d => d.canLay0) = true
open Classical in
noncomputable def gSortedU : List PyData → Option (List PyData)
  | [.list ds] => if SortOkU ds then some (sortD ds) else none
  | _ => none
theorem gSortedU_l {ds : List PyData} (h : SortOkU ds) : gSortedU [.list ds] = some (sortD ds) := if_pos h
def LtOk (a b : PyData) : Prop := PySem.W.alike a b = true ∧ a ≠ .none ∧ a.depth ≤ 60 ∧ a.canLay0 = true ∧ b.canLay0 = true
open Classical in
noncomputable def gLtX : F2 := fun a b => if LtOk a b then some (.bool (PySem.W.dataLt a b)) else none
theorem gLtX_d {a b : PyData} (h : LtOk a b) : gLtX a b = some (.bool (PySem.W.dataLt a b)) := if_pos h
section
variable {K : PySem.W.Frag} {A : Atm}
theorem rc_sortedU : RDsL K A (rSortedU K) gSortedU := fun {O H xs ds} ho hx es hc Q q => by
  unfold gSortedU at hc
  split at hc
  · split at hc
    · rename_i hs
      cases hc
      obtain ⟨v, rfl, hv⟩ := one_inv hx
      obtain ⟨p, ys, rfl, hp, hnp, hys⟩ := hv.lst_inv
      exact ⟨p, ys, _, rfl, sq_of hp, fds_dp hys hs.2, hs.1.1, hs.1.2.1, hs.1.2.2, fun l hl => q l _ _ hl (same_new hl) upd_same (((fds_sorted hys).more hl).same (same_new hl))⟩
    · cases hc
  · cases hc
theorem rd_ltX : RD K A (rLtX K) gLtX := fun {O H x y a b} ho hx hy c hc Q q => by
  unfold gLtX at hc
  split at hc
  · rename_i ok
    cases hc
    exact .inr ⟨a, b, hx.dp ok.2.2.2.1, hy.dp ok.2.2.2.2, ok.1, ok.2.1, ok.2.2.1, q _ H (.refl _) (.bl _)⟩
  · cases hc
end
end Sm
namespace K21
open PySem PySem.Spec PyProof.Rows L2 Evl Cr CrT Sm
def topS (i : Nat) : Stmt := PySem.Challenge.pw_choicerows_k21_orders_of_rows.main.body.getD i (.Pass ⟨0, 0, 0, 0⟩)
structure Tx (mg : Str → Option Value) : Prop where
  z_len : mg "len" = none
  z_all : mg "all" = none
  z_any : mg "any" = none
  z_isinstance : mg "isinstance" = none
  z_tuple : mg "tuple" = none
  z_list : mg "list" = none
  z_int : mg "int" = none
  z_str : mg "str" = none
  z_bool : mg "bool" = none
  z_range : mg "range" = none
  z_zip : mg "zip" = none
  z_enumerate : mg "enumerate" = none
  z_sum : mg "sum" = none
  z_sorted : mg "sorted" = none
  z_min : mg "min" = none
  z_max : mg "max" = none

section
variable {P : Program} {w : World} {K : PySem.W.Frag} {mg : Str → Option Value} {base : Heap}
abbrev s__law_cell : Stmt := topS 6
abbrev N__law_cell : List Str := ["script", "k"]
theorem sc__law_cell : FnScope N__law_cell ["script", "k"] (defScope s__law_cell) := ⟨rfl, rfl, rfl, by decide +kernel, rfl, by decide +kernel, by decide +kernel⟩
theorem ok__law_cell {f : Addr} {fd : FuncData} {k : Nat} (T : Tx mg) (F : Fun K "_law_cell" "_law_cell" s__law_cell f fd) : FnOk P w K mg base CX0 (k + 1) f fd ["script", "k"] (Cr.spCell K) := by
  refine F.ok sc__law_cell (fun vs H Q E h => ?_) (fun cdv A outer s H vs Q E hr h => ?_)
  · obtain ⟨a, ns, j, rfl, _⟩ := h
    rfl
  obtain ⟨a, ns, j, rfl, ha, q⟩ := h
  refine ⟨_, (pss_cons (ps_if (pt_cmpR op_lt (pv 1) (pe_callB call_len_seq (by rfl) T.z_len PySem.boot_len (pa_cons (pv 0) pa_nil)) (nomark _)) (pss_one (ps_ret (pe_ix (r := rIxL K) ix_list (pv 0) (pv 1) (fun _ _ => rfl)))) pss_nil)
      (pss_one (ps_ret pe_int))), ?_⟩
  refine q_when (et_test (ev_op (ev_var rfl) (ev_lenL (ev_var rfl) ha) rv_I0)) (fun hb H1 e1 => ?_) (fun hb H1 e1 => ?_)
  · have hlt : j < ns.length := by
      have h := of_decide_eq_true hb
      rw [List.length_map] at h
      omega
    have hx : (ns.map V.int)[j]? = some (.int ns[j]) := by
      rw [List.getElem?_map, List.getElem?_eq_getElem hlt]
      rfl
    exact s_ret (ev_ixL (j := j) (ev_var rfl) (ev_var rfl) (ex_l e1 ha) hx) fun H2 e2 => q _ H2 (e1.trans e2)
  · exact s_ret ev_c fun H2 e2 => q _ H2 (e1.trans e2)
abbrev s__law_draw : Stmt := topS 7
abbrev N__law_draw : List Str := ["script", "k", "sizes", "cell", "drawn", "size", "stirred", "j"]
theorem sc__law_draw : FnScope N__law_draw ["script", "k", "sizes"] (defScope s__law_draw) := ⟨rfl, rfl, rfl, by decide +kernel, rfl, by decide +kernel, by decide +kernel⟩
theorem ok__law_draw {f : Addr} {fd : FuncData} (T : Tx mg) (F : Fun K "_law_draw" "_law_draw" s__law_draw f fd) (c__law_cell : Cl P w K mg base "_law_cell" ["script", "k"] 1 (Cr.spCell K)) : FnOk P w K mg base CX0 2 f fd ["script", "k", "sizes"] (spDraw K) := by
  refine F.ok sc__law_draw (fun vs H Q E h => ?_) (fun cdv A outer s H vs Q E hr h => ?_)
  · obtain ⟨a, b, ns, ms, j, rfl, _⟩ := h
    rfl
  obtain ⟨a, b, ns, ms, k, rfl, ha, hb, hm, hms, q⟩ := h
  refine ⟨_, (pss_cons (ps_set (i := 3) sc__law_draw.nd rfl (Or.inl rfl) (pe_call c__law_cell.ok (hr.mono (by omega)) (by rfl) c__law_cell.m c__law_cell.kp c__law_cell.b .nil pass0 (pa_cons (pv 0) (pa_cons (pv 1) pa_nil))))
      (pss_cons (ps_if (pt_cmpR op_lt (pv 3) pe_int (nomark _)) (pss_one (ps_set (i := 3) sc__law_draw.nd rfl (Or.inl rfl) (pe_un un_neg (pv 3)))) pss_nil)
      (pss_cons (ps_set (i := 4) sc__law_draw.nd rfl (Or.inl rfl) (pe_lst pa_nil))
      (pss_cons (ps_if (pt_cmpR op_ge (pv 3) (pe_op op_pow pe_int pe_int) (nomark _)) (pss_cons (ps_set (i := 3) sc__law_draw.nd rfl (Or.inl rfl) (pe_op op_sub (pv 3) (pe_op op_pow pe_int pe_int)))
        (pss_cons (ps_for PassesOwn.never rfl (pi_list (pv 2)) (pg_name (i := 5) sc__law_draw.nd rfl (Or.inl rfl)) (pss_cons (ps_expr (pe_bm PySem.F.plainAttrs_list PySem.F.slot_list_append PySem.F.type_list_append mt_append (pv 4) (pa_cons (pe_op op_mod (pv 3) (pv 5)) pa_nil)))
          (pss_one (ps_set (i := 3) sc__law_draw.nd rfl (Or.inl rfl) (pe_op op_fdiv (pv 3) (pv 5))))))
        (pss_one (ps_ret (pv 4))))) pss_nil)
      (pss_cons (ps_set (i := 6) sc__law_draw.nd rfl (Or.inl rfl) (pe_op op_mod (pe_op op_add (pe_op op_add (pv 3) pe_int) (pe_op op_mul pe_int (pv 1))) pe_int))
      (pss_cons (ps_for PassesOwn.never rfl (pi_range1 (by rfl) T.z_range (pa_cons (pe_callB call_len_seq (by rfl) T.z_len PySem.boot_len (pa_cons (pv 2) pa_nil)) pa_nil)) (pg_name (i := 7) sc__law_draw.nd rfl (Or.inl rfl)) (pss_cons (ps_set (i := 6) sc__law_draw.nd rfl (Or.inl rfl) (pe_op op_mod (pe_op op_add (pe_op op_add (pe_op op_mul (pv 6) pe_int) pe_int) (pv 7)) pe_int))
        (pss_cons (ps_set (i := 6) sc__law_draw.nd rfl (Or.inl rfl) (pe_op op_mod (pe_op op_add (pe_op op_mul (pv 6) pe_int) pe_int) pe_int))
        (pss_one (ps_expr (pe_bm PySem.F.plainAttrs_list PySem.F.slot_list_append PySem.F.type_list_append mt_append (pv 4) (pa_cons (pe_op op_mod (pe_op op_fdiv (pv 6) pe_int) (pe_ix (r := rIxL K) ix_list (pv 2) (pv 7) (fun _ _ => rfl))) pa_nil)))))))
      (pss_one (ps_ret (pv 4))))))))), ?_⟩
  -- cell = _law_cell(script, k)
  refine ⟨_, rfl, _, rfl, a, ns, k, rfl, ha, fun c H1 e1 => ?_⟩
  refine q_ifAsg (b := decide (c < 0)) (v := .int (if c < 0 then -c else c)) (et_test (ev_op (ev_var rfl) ev_c rv_I0)) (fun hc => ev_is (ev_un (ev_var rfl) ru_neg) (by rw [if_pos (of_decide_eq_true hc)])) (fun hc => by rw [if_neg (of_decide_eq_false hc)]; rfl) fun H2 e2' => ?_
  have e2 := e1.trans e2'
  generalize (if c < 0 then -c else c) = c
  -- drawn = []
  refine q_asgL (el_lst ea_nil (by decide)) fun p H3 hp3 e3 h3 => ?_
  have hp : H p = none := Same.free e2 hp3
  have e03 : Same H H3 := e2.trans e3
  have fin : ∀ (acc : List Int) H', Same H H' → H' p = some (.lst (acc.map V.int)) → acc.length = ms.length → Q (.ref p) H' := fun acc H' e h hl => q p acc H' e hp h hl
  refine q_when (et_test (ev_op (ev_var rfl) (ev_op ev_c ev_c (rv_I ⟨by decide, by decide, by decide⟩)) rv_I0)) (fun _ H4 e4 => ?_) (fun _ H4 e4 => ?_)
  · refine q_asg (ev_op (ev_var rfl) (ev_op ev_c ev_c (rv_I ⟨by decide, by decide, by decide⟩)) rv_I0) fun H5 e5 => ?_
    have e05 := e03.trans (e4.trans e5)
    refine q_forLn (a := b) (xs := ms.map V.int) (ev_var rfl) (ex_l e05 hb) (fun i σ' H' => ∃ (c : Int) (z : Option V) (acc : List Int), σ' = [some (.ref a), some (.int (k : Int)), some (.ref b), some (.int c), some (.ref p), z, none, none] ∧ Same H H' ∧ H' p = some (.lst (acc.map V.int)) ∧ acc.length = i)
      (fun H6 e6 => ⟨_, none, [], rfl, e05.trans e6, e6 _ _ (e5 _ _ (e4 _ _ h3)), rfl⟩) (fun i σ' H' _ ⟨_, _, _, _, e, _, _⟩ => ex_l e hb) (fun i x σ' H' hx hP => ?_) (fun σ' H' hP => ?_)
    · obtain ⟨c', z, acc, rfl, e, hpl, hl⟩ := hP
      obtain ⟨m, hmi, rfl⟩ := map_int hx
      have him := (List.getElem?_eq_some_iff.mp hmi).1
      obtain ⟨m0, m1⟩ := hms m (List.mem_of_getElem? hmi)
      refine q_app hpl (ev_var rfl) (ev_op (ev_var rfl) (ev_var rfl) (rv_I m0)) (by rw [List.length_map]; omega) fun H7 e7 => ?_
      refine s_asg (ev_op (ev_var rfl) (ev_var rfl) (rv_I ⟨m0, m1⟩)) fun H8 e8 => ⟨_, _, acc ++ [c' % m], rfl, ?_, ?_, ?_⟩
      · exact (same_mut (e.trans e7) hp).trans e8
      · exact e8 _ _ (by rw [upd_same, List.map_append]; rfl)
      · rw [List.length_append, hl]; rfl
    · obtain ⟨c', z, acc, rfl, e, hpl, hl⟩ := hP
      exact s_ret (ev_var rfl) fun H9 e9 => fin acc H9 (e.trans e9) (e9 _ _ hpl) (by rw [hl, List.length_map])
  · refine q_asg (ev_op (ev_op (ev_op (ev_var rfl) ev_c rv_I0) (ev_op ev_c (ev_var rfl) (rv_I (.inl ⟨by decide, by decide⟩))) rv_I0) ev_c (rv_I (by decide))) fun H5 e5 => ?_
    have e05 := e03.trans (e4.trans e5)
    refine q_forR1 (n := ((ms.map V.int).length : Int)) (ea_cons (ev_lenL (ev_var rfl) (ex_l e05 hb)) ea_nil) (by rw [List.length_map]; omega) (fun i σ' H' => ∃ (c : Int) (z : Option V) (acc : List Int), σ' = [some (.ref a), some (.int (k : Int)), some (.ref b), σ'.getD 3 none, some (.ref p), none, some (.int c), z] ∧ Same H H' ∧ H' p = some (.lst (acc.map V.int)) ∧ acc.length = i)
      (fun H6 e6 => ⟨_, none, [], rfl, e05.trans e6, e6 _ _ (e5 _ _ (e4 _ _ h3)), rfl⟩) (fun i σ' H' hi hP => ?_) (fun σ' H' hP => ?_)
    · obtain ⟨c', z, acc, hσ, e, hpl, hl⟩ := hP
      rw [List.length_map] at hi
      generalize σ'.getD 3 none = y at hσ
      subst hσ
      have hmi : ms[i]? = some ms[i] := List.getElem?_eq_getElem (by omega)
      obtain ⟨m0, m1⟩ := hms ms[i] (List.mem_of_getElem? hmi)
      have hx : (ms.map V.int)[i]? = some (.int ms[i]) := by rw [List.getElem?_map, hmi]; rfl
      refine q_asg (ev_op (ev_op (ev_op (ev_op (ev_var rfl) ev_c (rv_I (.inr ⟨by decide, by decide⟩))) ev_c rv_I0) (ev_var rfl) rv_I0) ev_c (rv_I (by decide))) fun H7 e7 => ?_
      refine q_asg (ev_op (ev_op (ev_op (ev_var rfl) ev_c (rv_I (.inr ⟨by decide, by decide⟩))) ev_c rv_I0) ev_c (rv_I (by decide))) fun H8 e8 => ?_
      have e78 := e7.trans e8
      refine s_app (e78 _ _ hpl) (ev_var rfl) (ev_op (ev_op (ev_var rfl) ev_c (rv_I ⟨by decide, by decide⟩)) (ev_ixL (j := i) (ev_var rfl) (ev_var rfl) (ex_l (e.trans e78) hb) hx) (rv_I m0)) (by rw [List.length_map]; omega) fun H9 e9 => ⟨_, _, acc ++ [((c' * 48271 + 11 + (i : Int)) % 2147483647 * 69621 + 3) % 2147483647 / 7 % ms[i]], rfl, ?_, ?_, ?_⟩
      · exact same_mut ((e.trans e78).trans e9) hp
      · rw [upd_same, List.map_append]; rfl
      · rw [List.length_append, hl]; rfl
    · obtain ⟨c', z, acc, hσ, e, hpl, hl⟩ := hP
      rw [hσ]
      exact s_ret (ev_var rfl) fun H9 e9 => fin acc H9 (e.trans e9) (e9 _ _ hpl) (by rw [hl, List.length_map]; rfl)
abbrev s__law_box : Stmt := topS 8
abbrev N__law_box : List Str := ["script", "k"]
theorem sc__law_box : FnScope N__law_box ["script", "k"] (defScope s__law_box) := ⟨rfl, rfl, rfl, by decide +kernel, rfl, by decide +kernel, by decide +kernel⟩
theorem ok__law_box {f : Addr} {fd : FuncData} (T : Tx mg) (F : Fun K "_law_box" "_law_box" s__law_box f fd) (c__law_draw : Cl P w K mg base "_law_draw" ["script", "k", "sizes"] 2 (spDraw K)) : FnOk P w K mg base CX0 3 f fd ["script", "k"] (spBox K) := by
  refine F.ok sc__law_box (fun vs H Q E h => ?_) (fun cdv A outer s H vs Q E hr h => ?_)
  · obtain ⟨a, ns, j, rfl, _⟩ := h
    rfl
  obtain ⟨a, ns, k, rfl, ha, q⟩ := h
  refine ⟨_, (pss_one (ps_ret (pe_lst (pa_cons (pe_op op_cat (pe_call c__law_draw.ok (hr.mono (by omega)) (by rfl) c__law_draw.m c__law_draw.kp c__law_draw.b .nil pass0 (pa_cons (pv 0) (pa_cons (pv 1) (pa_cons (pe_op op_rep (pe_lst (pa_cons pe_int pa_nil)) pe_int) pa_nil)))) (pe_call c__law_draw.ok (hr.mono (by omega)) (by rfl) c__law_draw.m c__law_draw.kp c__law_draw.b .nil pass0 (pa_cons (pv 0) (pa_cons (pe_op op_add (pv 1) pe_int) (pa_cons (pe_op op_rep (pe_lst (pa_cons pe_int pa_nil)) pe_int) pa_nil))))) (pa_cons pe_int pa_nil))))), ?_⟩
  -- the first draw
  refine ⟨_, rfl, _, rfl, by decide, fun p1 h1 => ⟨p1, 20, [.int 97], rfl, rfl, upd_same, by decide, by decide, by decide, fun p2 h2 => ?_⟩⟩
  have e2 : Same H (upd (upd H p1 (.lst [.int 97])) p2 (.lst (List.replicate (Int.toNat 20) [V.int 97]).flatten)) := (same_new h1).trans (same_new h2)
  refine ⟨a, p2, ns, List.replicate 20 97, k, rfl, e2.seq ha, .of (by rw [upd_same, rep97]), by decide, m97, fun p3 xs H3 e3 _ h3 l3 => ?_⟩
  have e03 := e2.trans e3
  -- the second one
  refine ⟨_, rfl, _, rfl, _, _, rfl, rfl, by decide, fun p4 h4 => ⟨p4, 20, [.int 97], rfl, rfl, upd_same, by decide, by decide, by decide, fun p5 h5 => ?_⟩⟩
  have e5 : Same H3 (upd (upd H3 p4 (.lst [.int 97])) p5 (.lst (List.replicate (Int.toNat 20) [V.int 97]).flatten)) := (same_new h4).trans (same_new h5)
  refine ⟨a, p5, ns, List.replicate 20 97, k + 1, rfl, (e03.trans e5).seq ha, .of (by rw [upd_same, rep97]), by decide, m97, fun p6 ys H6 e6 _ h6 l6 => ?_⟩
  have e36 := e5.trans e6
  refine ⟨p3, p6, _, _, rfl, rfl, e36 _ _ h3, h6, ?_, fun p7 h7 => ⟨(by show 2 ≤ sizeLine; decide), fun p8 h8 => ?_⟩⟩
  · rw [List.length_map, List.length_map, l3, l6]
    decide
  · have e68 := (same_new (o := .lst (xs.map V.int ++ ys.map V.int)) h7).trans (same_new (o := .lst [.ref p7, .int 0]) h8)
    have n8 : p7 ≠ p8 := fun e => by rw [← e, upd_same] at h8; cases h8
    refine q p8 p7 _ ((e03.trans e36).trans e68) (Same.free (e03.trans (e36.trans (same_new h7))) h8) ⟨xs ++ ys, 0, upd_same, ?_, n8⟩
    rw [upd_ne n8, upd_same, List.map_append]
abbrev s__law_take : Stmt := topS 9
abbrev N__law_take : List Str := ["box", "many", "at"]
theorem sc__law_take : FnScope N__law_take ["box", "many"] (defScope s__law_take) := ⟨rfl, rfl, rfl, by decide +kernel, rfl, by decide +kernel, by decide +kernel⟩
theorem ok__law_take {f : Addr} {fd : FuncData} (T : Tx mg) (F : Fun K "_law_take" "_law_take" s__law_take f fd) : FnOk P w K mg base CX0 1 f fd ["box", "many"] spTake := by
  refine F.ok sc__law_take (fun vs H Q E h => ?_) (fun cdv A outer s H vs Q E hr h => ?_)
  · obtain ⟨b, d, m, rfl, _⟩ := h
    rfl
  obtain ⟨b, d, m, rfl, hB, hm, q⟩ := h
  refine ⟨_, (pss_cons (ps_set (i := 2) sc__law_take.nd rfl (Or.inl rfl) (pe_ix (r := rIxL K) ix_list (pv 0) pe_int (fun _ _ => rfl)))
      (pss_cons (ps_asg (pe_op op_add (pv 2) pe_int) (pg_sub (pv 0) pe_int set_list))
      (pss_cons (ps_if (pt_cmpR op_lt (pv 2) (pe_callB call_len_seq (by rfl) T.z_len PySem.boot_len (pa_cons (pe_ix (r := rIxL K) ix_list (pv 0) pe_int (fun _ _ => rfl)) pa_nil)) (nomark _)) (pss_one (ps_ret (pe_op op_mod (pe_ix (r := rIxL K) ix_list (pe_ix (r := rIxL K) ix_list (pv 0) pe_int (fun _ _ => rfl)) (pv 2) (fun _ _ => rfl)) (pv 1)))) pss_nil)
      (pss_one (ps_ret pe_int))))), ?_⟩
  obtain ⟨ns, i, h1, h2, h3⟩ := hB
  refine q_asg (ev_ixL (j := 1) (ev_var rfl) ev_c (.of h1) rfl) fun H1 e1 => ?_
  refine q_setL (j := 1) (e1 _ _ h1) (ev_op (ev_var rfl) ev_c rv_I0) (ev_var rfl) ev_c (by show 1 < 2; decide) fun H2 e2 => ?_
  have hbox : upd H2 b (.lst [.ref d, .int ((i : Int) + 1)]) b = some (.lst [.ref d, .int ((i : Int) + 1)]) := upd_same
  have hd : upd H2 b (.lst [.ref d, .int ((i : Int) + 1)]) d = some (.lst (ns.map V.int)) := by rw [upd_ne h3]; exact e2 _ _ (e1 _ _ h2)
  have mv : Mv b d H (upd H2 b (.lst [.ref d, .int ((i : Int) + 1)])) := ⟨fun a o ne h => by rw [upd_ne ne]; exact e2 _ _ (e1 _ _ h), ns, i + 1, upd_same, hd, h3⟩
  refine q_when (b := decide ((i : Int) < ((ns.map V.int).length : Int))) (et_test (ev_op (ev_var rfl) (ev_lenL (ev_ixL (j := 0) (ev_var rfl) ev_c (.of hbox) rfl) (.of hd)) rv_I0)) (fun hb H3 e3 => ?_) (fun hb H3 e3 => ?_)
  · have hlt : i < ns.length := by
      have h := of_decide_eq_true hb
      rw [List.length_map] at h
      omega
    have hx : (ns.map V.int)[i]? = some (.int ns[i]) := by
      rw [List.getElem?_map, List.getElem?_eq_getElem hlt]
      rfl
    refine s_ret (ev_op (ev_ixL (j := i) (ev_ixL (j := 0) (ev_var rfl) ev_c (.of (e3 _ _ hbox)) rfl) (ev_var rfl) (.of (e3 _ _ hd)) hx) (ev_var rfl) (rv_I hm)) fun H4 e4 => q _ H4 (Int.emod_nonneg _ (by omega)) (Int.emod_lt_of_pos _ hm) (mv.ext (e3.trans e4))
  · exact s_ret ev_c fun H4 e4 => q _ H4 (Int.le_refl _) hm (mv.ext (e3.trans e4))
noncomputable def w_law_1 (f_sorted_rows : Fn) (f__law_order : Fn) (f_is_less : Fn) (f_is_prefix_free : Fn) : WS :=
      (wApp 3 (wCall gTuple (wsCons (wComp (wRng1 (wsCons (wTake (wsCons (wOf (fVar 2)) (wsCons (wOf (fC (.int 6))) wsNil))) wsNil)) (gS 6) (wOp gSub (wTake (wsCons (wOf (fVar 2)) (wsCons (wOf (fC (.int 5))) wsNil))) (wOf (fC (.int 1)))) [6]) wsNil)))
noncomputable def w_law (f_sorted_rows : Fn) (f__law_order : Fn) (f_is_less : Fn) (f_is_prefix_free : Fn) : WS :=
      (wSeq (wBox (wsCons (wOf (fVar 0)) (wsCons (wOf (fOp gMul (fC (.int 2)) (fVar 1))) wsNil)) 2)
      (wSeq (wSt (fOwn 3 (fLst fNil)))
      (wSeq (wFor (wRng1 (wsCons (wTake (wsCons (wOf (fVar 2)) (wsCons (wOf (fC (.int 6))) wsNil))) wsNil)) (gS 4) (w_law_1 f_sorted_rows f__law_order f_is_less f_is_prefix_free))
      (wSeq (wIfW (wtAnd (wtOf (fB (fOp gGt (fLenV 3) (fC (.int 1))))) (wtB (wOp gEq (wTake (wsCons (wOf (fVar 2)) (wsCons (wOf (fC (.int 2))) wsNil))) (wOf (fC (.int 0)))))) (wApp 3 (wSl gSl (wOf (fTmp 3 (fOp gIx (fVar 3) (fC (.int 0))))) wNoPart (wPart (wTake (wsCons (wOf (fVar 2)) (wsCons (wOf (fC (.int 6))) wsNil)))))) (wSt fNext))
      (wSeq (wSt (fFrz 3 (fIfS (fB (fOp gNe (fCall0 f_sorted_rows (fCons (fV (fCallL gList (fCons (fVar 3) fNil))) fNil)) (fCall0 f__law_order (fCons (fVar 3) fNil)))) (fRet (fC (.bool false))) fNext)))
      (wSeq (wSt (fAsg (fC (.bool true)) (gS 5)))
      (wSeq (wSt (fFor (fRng1 (fCons (fLenV 3) fNil)) (gS 4) (fFor (fRng1 (fCons (fLenV 3) fNil)) (gS 6) (fSeq (fFrz 3 (fAsg (fCall0 f_is_less (fCons (fOp gIx (fVar 3) (fVar 6)) (fCons (fOp gIx (fVar 3) (fVar 4)) fNil))) (gS 7)))
          (fSeq (fFrz 3 (fIfS (fOr (fNot (fB (fCall (gIsi "bool") (fCons (fVar 7) fNil)))) (fB (fOp gNe (fVar 7) (fOp gLtX (fTup (fCons (fCall gLen (fCons (fOp gIx (fVar 3) (fVar 6)) fNil)) (fCons (fOp gIx (fVar 3) (fVar 6)) fNil))) (fTup (fCons (fCall gLen (fCons (fOp gIx (fVar 3) (fVar 4)) fNil)) (fCons (fOp gIx (fVar 3) (fVar 4)) fNil))))))) (fRet (fC (.bool false))) fNext))
          (fFrz 3 (fIfS (fAnd (fB (fOp gNe (fVar 6) (fVar 4))) (fB (fOp gEq (fSl gSl (fOp gIx (fVar 3) (fVar 4)) fNoPart (fPart (fCall gLen (fCons (fOp gIx (fVar 3) (fVar 6)) fNil)))) (fOp gIx (fVar 3) (fVar 6))))) (fAsg (fC (.bool false)) (gS 5)) fNext)))))))
      (wSt (fFrz 3 (fIfS (fB (fOp gNe (fCall0 f_is_prefix_free (fCons (fV (fCallL gList (fCons (fVar 3) fNil))) fNil)) (fVar 5))) (fRet (fC (.bool false))) fNext))))))))))
noncomputable def w_law_t (f_sorted_rows : Fn) (f__law_order : Fn) (f_is_less : Fn) (f_is_prefix_free : Fn) : WS :=
      (wSt (fRet (fC (.bool true))))
noncomputable def w_law_h (f_sorted_rows : Fn) (f__law_order : Fn) (f_is_less : Fn) (f_is_prefix_free : Fn) : WA :=
      (wRng1 (wsCons (wCall gMin (wsCons (wOf (fC (.int 15))) (wsCons (wCall gMax (wsCons (wOf (fC (.int 1))) (wsCons (wOp gDiv wLenS (wOf (fC (.int 2)))) wsNil))) wsNil))) wsNil))
abbrev s_law : Stmt := topS 11
abbrev N_law : List Str := ["script", "k", "box", "rows", "j", "due", "i", "told"]
theorem sc_law : FnScope N_law ["script"] (defScope s_law) := ⟨rfl, rfl, rfl, by decide +kernel, rfl, by decide +kernel, by decide +kernel⟩
theorem ok_law {f : Addr} {fd : FuncData} {L : Nat} {f_sorted_rows : Fn} {f__law_order : Fn} {f_is_less : Fn} {f_is_prefix_free : Fn} (T : Tx mg) (F : Fun K "law" "law" s_law f fd) (c__law_box : Cl P w K mg base "_law_box" ["script", "k"] L (spBox K)) (c__law_take : Cl P w K mg base "_law_take" ["box", "many"] L spTake) (c_sorted_rows : Cl P w K mg base "sorted_rows" ["rows"] L (spF K A0 f_sorted_rows)) (c__law_order : Cl P w K mg base "_law_order" ["rows"] L (spF K A0 f__law_order)) (c_is_less : Cl P w K mg base "is_less" ["row", "other"] L (spF K A0 f_is_less)) (c_is_prefix_free : Cl P w K mg base "is_prefix_free" ["rows"] L (spF K A0 f_is_prefix_free))
    (hw : w_law_h f_sorted_rows f__law_order f_is_less f_is_prefix_free (rhoE 8) fun ds => ∀ d ∈ ds, ∃ ρ1, (gS 1) d (rhoE 8) = some ρ1 ∧ w_law f_sorted_rows f__law_order f_is_less f_is_prefix_free 0 ρ1 (QL 8)) (ht : w_law_t f_sorted_rows f__law_order f_is_less f_is_prefix_free 0 (rhoE 8) QT) : FnOk P w K mg base CX0 (L + 1) f fd ["script"] (spLaw K) := by
  refine F.ok sc_law (fun vs H Q E h => ?_) (fun cdv A' outer s H vs Q E hr h => ?_)
  · obtain ⟨a, ns, rfl, _⟩ := h
    rfl
  obtain ⟨a, ns, rfl, ha, h63, q⟩ := h
  refine ⟨_, (pss_cons (ps_for PassesOwn.never rfl (pi_range1 (by rfl) T.z_range (pa_cons (pe_callB (call_min2 rfl) (by rfl) T.z_min (by decide +kernel) (pa_cons pe_int (pa_cons (pe_callB (call_max2 rfl) (by rfl) T.z_max (by decide +kernel) (pa_cons pe_int (pa_cons (pe_op op_fdivW (pe_callB (r := rLenX K) cr_lenX (by rfl) T.z_len PySem.boot_len (pa_cons (pv 0) pa_nil)) pe_int) pa_nil))) pa_nil))) pa_nil)) (pg_name (i := 1) sc_law.nd rfl (Or.inl rfl)) (pss_cons (ps_set (i := 2) sc_law.nd rfl (Or.inr rfl) (pe_call c__law_box.ok hr (by rfl) c__law_box.m c__law_box.kp c__law_box.b .nil pass0 (pa_cons (pv 0) (pa_cons (pe_op op_mulX pe_int (pv 1)) pa_nil))))
      (pss_cons (ps_set (i := 3) sc_law.nd rfl (Or.inl rfl) (pe_lst pa_nil))
      (pss_cons (ps_for PassesOwn.never rfl (pi_range1 (by rfl) T.z_range (pa_cons (pe_call c__law_take.ok hr (by rfl) c__law_take.m c__law_take.kp c__law_take.b .nil pass0 (pa_cons (pv 2) (pa_cons pe_int pa_nil))) pa_nil)) (pg_name (i := 4) sc_law.nd rfl (Or.inl rfl)) (pss_one (ps_expr (pe_bm PySem.F.plainAttrs_list PySem.F.slot_list_append PySem.F.type_list_append mt_append (pv 3) (pa_cons (pe_callTy (r := rTupO K) cr_tupO (by rfl) T.z_tuple (by decide +kernel) (pa_cons (pe_lc (own := [("i", 6)]) (g := gName 6) (by rfl) sc_law.nd (pi_range1 (by rfl) T.z_range (pa_cons (pe_call c__law_take.ok hr (by rfl) c__law_take.m c__law_take.kp c__law_take.b .nil pass0 (pa_cons (pv 2) (pa_cons pe_int pa_nil))) pa_nil)) (blkOk_by (own := [("i", 6)]) (N := N_law) (sc := defScope s_law) (by decide +kernel)) (fun _ _ _ _ _ => (pg_name (i := 6) sc_law.nd rfl (Or.inl rfl))) (fun _ _ _ _ _ => pts_nil) (fun _ _ _ _ _ => (pe_op op_sub (pe_call c__law_take.ok hr (by rfl) c__law_take.m c__law_take.kp c__law_take.b .nil pass0 (pa_cons (pv 2) (pa_cons pe_int pa_nil))) pe_int))) pa_nil)) pa_nil)))))
      (pss_cons (ps_if (PW.pt (pw_and (pt_cmpR op_gt (pe_callB (r := rLenX K) cr_lenX (by rfl) T.z_len PySem.boot_len (pa_cons (pv 3) pa_nil)) pe_int (nomark _)) (pw_and1 (pt_cmpR (r := rEqX K) (op_eqX hr.units) (pe_call c__law_take.ok hr (by rfl) c__law_take.m c__law_take.kp c__law_take.b .nil pass0 (pa_cons (pv 2) (pa_cons pe_int pa_nil))) pe_int (nomark _))))) (pss_one (ps_expr (pe_bm PySem.F.plainAttrs_list PySem.F.slot_list_append PySem.F.type_list_append mt_append (pv 3) (pa_cons (pe_slice (r := rSlX K) sl_X (pe_ix (r := rIx K) ix_seq (pv 3) pe_int (fun _ _ => rfl)) po_none (po_some (pe_call c__law_take.ok hr (by rfl) c__law_take.m c__law_take.kp c__law_take.b .nil pass0 (pa_cons (pv 2) (pa_cons pe_int pa_nil))))) pa_nil)))) pss_nil)
      (pss_cons (ps_if (pt_cmpR (r := rNeX K) (op_neX hr.units) (pe_call c_sorted_rows.ok hr (by rfl) c_sorted_rows.m c_sorted_rows.kp c_sorted_rows.b .nil pass0 (pa_cons (pe_callTy (r := rLstO K) cr_lstO (by rfl) T.z_list (by decide +kernel) (pa_cons (pv 3) pa_nil)) pa_nil)) (pe_call c__law_order.ok hr (by rfl) c__law_order.m c__law_order.kp c__law_order.b .nil pass0 (pa_cons (pv 3) pa_nil)) (nomark _)) (pss_one (ps_ret pe_bl)) pss_nil)
      (pss_cons (ps_set (i := 5) sc_law.nd rfl (Or.inl rfl) pe_bl)
      (pss_cons (ps_for PassesOwn.never rfl (pi_range1 (by rfl) T.z_range (pa_cons (pe_callB (r := rLenX K) cr_lenX (by rfl) T.z_len PySem.boot_len (pa_cons (pv 3) pa_nil)) pa_nil)) (pg_name (i := 4) sc_law.nd rfl (Or.inl rfl)) (pss_one (ps_for PassesOwn.never rfl (pi_range1 (by rfl) T.z_range (pa_cons (pe_callB (r := rLenX K) cr_lenX (by rfl) T.z_len PySem.boot_len (pa_cons (pv 3) pa_nil)) pa_nil)) (pg_name (i := 6) sc_law.nd rfl (Or.inl rfl)) (pss_cons (ps_set (i := 7) sc_law.nd rfl (Or.inl rfl) (pe_call c_is_less.ok hr (by rfl) c_is_less.m c_is_less.kp c_is_less.b .nil pass0 (pa_cons (pe_ix (r := rIx K) ix_seq (pv 3) (pv 6) (fun _ _ => rfl)) (pa_cons (pe_ix (r := rIx K) ix_seq (pv 3) (pv 4) (fun _ _ => rfl)) pa_nil))))
          (pss_cons (ps_if (PW.pt (pw_or (pt_not (pt_val (pe_callB (r := rIsi K) call_isi (by rfl) T.z_isinstance (by decide +kernel) (pa_cons (pv 7) (pa_cons (pe_bltn (v := .ty "bool") (u := .type "bool") (by rfl) T.z_bool (by decide +kernel) rfl) pa_nil))))) (pw_or1 (pt_cmpR (r := rNeX K) (op_neX hr.units) (pv 7) (pe_cmpR (r := rLtX K) (op_ltX hr.units) (pe_tup (pa_cons (pe_callB (r := rLenX K) cr_lenX (by rfl) T.z_len (by decide +kernel) (pa_cons (pe_ix (r := rIx K) ix_seq (pv 3) (pv 6) (fun _ _ => rfl)) pa_nil)) (pa_cons (pe_ix (r := rIx K) ix_seq (pv 3) (pv 6) (fun _ _ => rfl)) pa_nil))) (pe_tup (pa_cons (pe_callB (r := rLenX K) cr_lenX (by rfl) T.z_len (by decide +kernel) (pa_cons (pe_ix (r := rIx K) ix_seq (pv 3) (pv 4) (fun _ _ => rfl)) pa_nil)) (pa_cons (pe_ix (r := rIx K) ix_seq (pv 3) (pv 4) (fun _ _ => rfl)) pa_nil))) (nomark _)) (nomark _))))) (pss_one (ps_ret pe_bl)) pss_nil)
          (pss_one (ps_if (PW.pt (pw_and (pt_cmpR (r := rNeX K) (op_neX hr.units) (pv 6) (pv 4) (nomark _)) (pw_and1 (pt_cmpR (r := rEqX K) (op_eqX hr.units) (pe_slice (r := rSlX K) sl_X (pe_ix (r := rIx K) ix_seq (pv 3) (pv 4) (fun _ _ => rfl)) po_none (po_some (pe_callB (r := rLenX K) cr_lenX (by rfl) T.z_len (by decide +kernel) (pa_cons (pe_ix (r := rIx K) ix_seq (pv 3) (pv 6) (fun _ _ => rfl)) pa_nil)))) (pe_ix (r := rIx K) ix_seq (pv 3) (pv 6) (fun _ _ => rfl)) (nomark _))))) (pss_one (ps_set (i := 5) sc_law.nd rfl (Or.inl rfl) pe_bl)) pss_nil)))))))
      (pss_one (ps_if (pt_cmpR (r := rNeX K) (op_neX hr.units) (pe_call c_is_prefix_free.ok hr (by rfl) c_is_prefix_free.m c_is_prefix_free.kp c_is_prefix_free.b .nil pass0 (pa_cons (pe_callTy (r := rLstO K) cr_lstO (by rfl) T.z_list (by decide +kernel) (pa_cons (pv 3) pa_nil)) pa_nil)) (pv 5) (nomark _)) (pss_one (ps_ret pe_bl)) pss_nil))))))))))
      (pss_one (ps_ret pe_bl))), ?_⟩
  refine law_body (N := 8) (wb := w_law f_sorted_rows f__law_order f_is_less f_is_prefix_free) (ww := w_law_h f_sorted_rows f__law_order f_is_less f_is_prefix_free) (wt := w_law_t f_sorted_rows f__law_order f_is_less f_is_prefix_free) (gg := (gS 1)) (by decide) ?_ (fun A => (sg_name 1)) ?_ ?_ ⟨rfl, rfl, ha, h63⟩ hw ht fun _ => q _
  · exact (siw_rng1 (sws_cons (sw_cb (sws_cons (sw_of fun A => se_int) (sws_cons (sw_cb (sws_cons (sw_of fun A => se_int) (sws_cons (sw_op sw_lenS (sw_of fun A => se_int) fun A => rd_div) sws_nil)) fun A => rc_max) sws_nil)) fun A => rc_min) sws_nil))
  · exact (ssw_seq (ssw_box (sws_cons (sw_of fun A => (se_var 0)) (sws_cons (sw_of fun A => (se_op se_int (se_var 1) rd_mul)) sws_nil)))
      (ssw_seq (ssw_of fun A => (ss_own (sl_lst sa_nil)))
      (ssw_seq (ssw_for (w1 := (w_law_1 f_sorted_rows f__law_order f_is_less f_is_prefix_free)) (siw_rng1 (sws_cons (sw_take (sws_cons (sw_of fun A => (se_var 2)) (sws_cons (sw_of fun A => se_int) sws_nil))) sws_nil)) (fun A => (sg_name 4)) (ssw_app (sw_cb (sws_cons (sw_lc (vs := [6]) (siw_rng1 (sws_cons (sw_take (sws_cons (sw_of fun A => (se_var 2)) (sws_cons (sw_of fun A => se_int) sws_nil))) sws_nil)) (fun A => (sg_name 6)) (by decide) (sw_op (sw_take (sws_cons (sw_of fun A => (se_var 2)) (sws_cons (sw_of fun A => se_int) sws_nil))) (sw_of fun A => se_int) fun A => rd_sub)) sws_nil) fun A => rc_tuple)))
      (ssw_seq (ssw_ifW (stw_and (stw_of fun A => (st_test (se_op (se_lenV 3) se_int rd_gt))) (stw_test (sw_op (sw_take (sws_cons (sw_of fun A => (se_var 2)) (sws_cons (sw_of fun A => se_int) sws_nil))) (sw_of fun A => se_int) fun A => rd_eq))) (ssw_app (sw_sl (sw_of fun A => (se_tmp 3 (se_op (se_var 3) se_int rd_ix))) sow_none (sow_some (sw_take (sws_cons (sw_of fun A => (se_var 2)) (sws_cons (sw_of fun A => se_int) sws_nil)))) fun A => rs_sl)) (ssw_of fun A => ss_next))
      (ssw_seq (ssw_of fun A => (ss_frz 3 (ss_if (st_test (se_op (se_call0 (sa_cons (se_l (sl_cb (sa_cons (se_var 3) sa_nil) rc_list)) sa_nil)) (se_call0 (sa_cons (se_var 3) sa_nil)) rd_ne)) (ss_ret se_bl) ss_next)))
      (ssw_seq (ssw_of fun A => (ss_asg se_bl (sg_name 5)))
      (ssw_seq (ssw_of fun A => (ss_for (si_rng1 (sa_cons (se_lenV 3) sa_nil)) (sg_name 4) (ss_for (si_rng1 (sa_cons (se_lenV 3) sa_nil)) (sg_name 6) (ss_seq (ss_frz 3 (ss_asg (se_call0 (sa_cons (se_op (se_var 3) (se_var 6) rd_ix) (sa_cons (se_op (se_var 3) (se_var 4) rd_ix) sa_nil))) (sg_name 7)))
          (ss_seq (ss_frz 3 (ss_if (st_or (st_not (st_B (se_isi (se_var 7)))) (st_test (se_op (se_var 7) (se_op (se_tup (sa_cons (se_cb (sa_cons (se_op (se_var 3) (se_var 6) rd_ix) sa_nil) rc_len) (sa_cons (se_op (se_var 3) (se_var 6) rd_ix) sa_nil))) (se_tup (sa_cons (se_cb (sa_cons (se_op (se_var 3) (se_var 4) rd_ix) sa_nil) rc_len) (sa_cons (se_op (se_var 3) (se_var 4) rd_ix) sa_nil))) rd_ltX) rd_ne))) (ss_ret se_bl) ss_next))
          (ss_frz 3 (ss_if (st_and (st_test (se_op (se_var 6) (se_var 4) rd_ne)) (st_test (se_op (se_sl (se_op (se_var 3) (se_var 4) rd_ix) so_none (so_some (se_cb (sa_cons (se_op (se_var 3) (se_var 6) rd_ix) sa_nil) rc_len)) rs_sl) (se_op (se_var 3) (se_var 6) rd_ix) rd_eq))) (ss_asg se_bl (sg_name 5)) ss_next)))))))
      (ssw_of fun A => (ss_frz 3 (ss_if (st_test (se_op (se_call0 (sa_cons (se_l (sl_cb (sa_cons (se_var 3) sa_nil) rc_list)) sa_nil)) (se_var 5) rd_ne)) (ss_ret se_bl) ss_next))))))))))
  · exact (ssw_of fun A => (ss_ret se_bl))
end
noncomputable section
def b_rank : FS :=
      (fRet (fTup (fCons (fLenV 0) (fCons (fVar 0) fNil))))
def b_is_less (f_rank : Fn) : FS :=
      (fRet (fOp gLtX (fCall f_rank (fCons (fVar 0) fNil)) (fCall f_rank (fCons (fVar 1) fNil))))
def b_sorted_rows (f_rank : Fn) : FS :=
      (fRet (fV (fSortK f_rank (fVar 0))))
noncomputable def b_is_prefix_free : FS :=
      (fSeq (fAsg (fV (fCallL gSortedU (fCons (fVar 0) fNil))) (gS 1))
      (fRet (fCall gAll (fCons (fV (fComp (fZip (fCons (fVar 1) (fCons (fSl gSl (fVar 1) (fPart (fC (.int 1))) fNoPart) fNil))) (gT 2 (gC (gS 2) (gC (gS 3) gN))) (fun _ => some true) (fOp gNe (fSl gSl (fVar 3) fNoPart (fPart (fLenV 2))) (fVar 2)) [2, 3])) fNil))))
noncomputable def b__law_order : FS :=
      (fRet (fV (fComp (fSeqI (fV (fCallL gSorted (fCons (fV (fComp (fSeqI (fVar 0)) (gS 2) (fun _ => some true) (fTup (fCons (fLenV 2) (fCons (fVar 2) fNil))) [2])) fNil)))) (gT 2 (gC (gS 1) (gC (gS 2) gN))) (fun _ => some true) (fVar 2) [1, 2])))
end
section
variable {P : Program} {w : World} {K : PySem.W.Frag} {mg : Str → Option Value} {base : Heap}
variable {A : Atm}
abbrev s_rank : Stmt := topS 1
abbrev N_rank : List Str := ["row"]
theorem sc_rank : FnScope N_rank ["row"] (defScope s_rank) := ⟨rfl, rfl, rfl, by decide +kernel, rfl, by decide +kernel, by decide +kernel⟩
theorem ok_rank {f : Addr} {fd : FuncData} {L : Nat} (T : Tx mg) (F : Fun K "rank" "rank" s_rank f fd)  :
    FnOk P w K mg base CX0 (L + 1) f fd ["row"] (spF K A (runF 1 1 (b_rank))) := by
  refine F.ok sc_rank (fun vs H Q E h => body_len h) (fun cdv A' outer s H vs Q E hr h => ?_)
  refine ⟨_, (pss_one (ps_ret (pe_tup (pa_cons (pe_callB (r := rLenX K) cr_lenX (by rfl) T.z_len PySem.boot_len (pa_cons (pv 0) pa_nil)) (pa_cons (pv 0) pa_nil))))), ?_⟩
  exact body_ok (N := N_rank) (f := b_rank) (ss_ret (se_tup (sa_cons (se_lenV 0) (sa_cons (se_var 0) sa_nil)))) h
abbrev s_is_less : Stmt := topS 2
abbrev N_is_less : List Str := ["row", "other"]
theorem sc_is_less : FnScope N_is_less ["row", "other"] (defScope s_is_less) := ⟨rfl, rfl, rfl, by decide +kernel, rfl, by decide +kernel, by decide +kernel⟩
theorem ok_is_less {f : Addr} {fd : FuncData} {L : Nat} {f_rank : Fn} (T : Tx mg) (F : Fun K "is_less" "is_less" s_is_less f fd) (c_rank : Cl P w K mg base "rank" ["row"] L (spF K A f_rank)) :
    FnOk P w K mg base CX0 (L + 1) f fd ["row", "other"] (spF K A (runF 2 2 (b_is_less f_rank))) := by
  refine F.ok sc_is_less (fun vs H Q E h => body_len h) (fun cdv A' outer s H vs Q E hr h => ?_)
  refine ⟨_, (pss_one (ps_ret (pe_cmpR (r := rLtX K) (op_ltX hr.units) (pe_call c_rank.ok hr (by rfl) c_rank.m c_rank.kp c_rank.b .nil pass0 (pa_cons (pv 0) pa_nil)) (pe_call c_rank.ok hr (by rfl) c_rank.m c_rank.kp c_rank.b .nil pass0 (pa_cons (pv 1) pa_nil)) (nomark _)))), ?_⟩
  exact body_ok (N := N_is_less) (f := b_is_less f_rank) (ss_ret (se_op (se_call (sa_cons (se_var 0) sa_nil)) (se_call (sa_cons (se_var 1) sa_nil)) rd_ltX)) h
abbrev s_sorted_rows : Stmt := topS 3
abbrev N_sorted_rows : List Str := ["rows"]
theorem sc_sorted_rows : FnScope N_sorted_rows ["rows"] (defScope s_sorted_rows) := ⟨rfl, rfl, rfl, by decide +kernel, rfl, by decide +kernel, by decide +kernel⟩
theorem ok_sorted_rows {f : Addr} {fd : FuncData} {L : Nat} {f_rank : Fn} (T : Tx mg) (F : Fun K "sorted_rows" "sorted_rows" s_sorted_rows f fd) (c_rank : Cl P w K mg base "rank" ["row"] L (spF K A f_rank)) :
    FnOk P w K mg base CX0 (L + 3) f fd ["rows"] (spF K A (runF 1 1 (b_sorted_rows f_rank))) := by
  refine F.ok sc_sorted_rows (fun vs H Q E h => body_len h) (fun cdv A' outer s H vs Q E hr h => ?_)
  refine ⟨_, (pss_one (ps_ret (pe_callBK (cr_sortK rfl c_rank.ok c_rank.b hr) (by rfl) T.z_sorted (by decide +kernel) (pa_cons (pv 0) pa_nil) (pk_cons (pe_glob (v := .ref c_rank.f) (by rfl) c_rank.m rfl) pk_nil)))), ?_⟩
  exact body_ok (N := N_sorted_rows) (f := b_sorted_rows f_rank) (ss_ret (se_l (sl_sortK (f := c_rank.f) (se_var 0)))) h
abbrev s_is_prefix_free : Stmt := topS 4
abbrev N_is_prefix_free : List Str := ["rows", "ordered", "row", "after"]
theorem sc_is_prefix_free : FnScope N_is_prefix_free ["rows"] (defScope s_is_prefix_free) := ⟨rfl, rfl, rfl, by decide +kernel, rfl, by decide +kernel, by decide +kernel⟩
theorem ok_is_prefix_free {f : Addr} {fd : FuncData} {L : Nat} (T : Tx mg) (F : Fun K "is_prefix_free" "is_prefix_free" s_is_prefix_free f fd)  :
    FnOk P w K mg base CX0 (L + 1) f fd ["rows"] (spF K A (runF 4 1 (b_is_prefix_free))) := by
  refine F.ok sc_is_prefix_free (fun vs H Q E h => body_len h) (fun cdv A' outer s H vs Q E hr h => ?_)
  refine ⟨_, (pss_cons (ps_set (i := 1) sc_is_prefix_free.nd rfl (Or.inl rfl) (pe_callB (r := rSortedU K) (cr_sortedU (Cr.Room.u65 hr)) (by rfl) T.z_sorted (by decide +kernel) (pa_cons (pv 0) pa_nil)))
      (pss_one (ps_ret (pe_callB (r := rAll K) (cr_all rfl) (by rfl) T.z_all (by decide +kernel) (pa_cons (pe_lc (own := [("row", 2), ("after", 3)]) (g := gTup K 2 (gCons (gName 2) (gCons (gName 3) gNil))) (by rfl) sc_is_prefix_free.nd (RZ.pi_zipA (by rfl) T.z_zip (pa_cons (pv 1) (pa_cons (pe_slice (r := rSlX K) sl_X (pv 1) (po_some pe_int) po_none) pa_nil))) (blkOk_by (own := [("row", 2), ("after", 3)]) (N := N_is_prefix_free) (sc := defScope s_is_prefix_free) (by decide +kernel)) (fun _ _ _ _ _ => (pg_tup rfl (pgs_cons (pg_name (i := 2) sc_is_prefix_free.nd rfl (Or.inl rfl) (hf := Or.inr rfl)) (pgs_cons (pg_name (i := 3) sc_is_prefix_free.nd rfl (Or.inl rfl) (hf := Or.inr rfl)) pgs_nil)))) (fun _ _ _ _ _ => pts_nil) (fun _ _ _ _ _ => (pe_cmpR (r := rNeX K) (op_neX hr.units) (pe_slice (r := rSlX K) sl_X (pv 3) po_none (po_some (pe_callB (r := rLenX K) cr_lenX (by rfl) T.z_len PySem.boot_len (pa_cons (pv 2) pa_nil)))) (pv 2) (nomark _)))) pa_nil))))), ?_⟩
  exact body_ok (N := N_is_prefix_free) (f := b_is_prefix_free) (ss_seq (ss_asg (se_l (sl_cb (sa_cons (se_var 0) sa_nil) rc_sortedU)) (sg_name 1))
      (ss_ret (se_cb (sa_cons (se_l (sl_lc (vs := [2, 3]) (si_zip (sa_cons (se_var 1) (sa_cons (se_sl (se_var 1) (so_some se_int) so_none rs_sl) sa_nil))) (sg_tup 2 (sgs_cons (sg_name 2) (sgs_cons (sg_name 3) sgs_nil))) (by decide) st_yes (se_op (se_sl (se_var 3) so_none (so_some (se_lenV 2)) rs_sl) (se_var 2) rd_ne))) sa_nil) rc_all))) h
abbrev s__law_order : Stmt := topS 10
abbrev N__law_order : List Str := ["rows", "size", "row"]
theorem sc__law_order : FnScope N__law_order ["rows"] (defScope s__law_order) := ⟨rfl, rfl, rfl, by decide +kernel, rfl, by decide +kernel, by decide +kernel⟩
theorem ok__law_order {f : Addr} {fd : FuncData} {L : Nat} (T : Tx mg) (F : Fun K "_law_order" "_law_order" s__law_order f fd)  :
    FnOk P w K mg base CX0 (L + 1) f fd ["rows"] (spF K A (runF 3 1 (b__law_order))) := by
  refine F.ok sc__law_order (fun vs H Q E h => body_len h) (fun cdv A' outer s H vs Q E hr h => ?_)
  refine ⟨_, (pss_one (ps_ret (pe_lc (own := [("size", 1), ("row", 2)]) (g := gTup K 2 (gCons (gName 1) (gCons (gName 2) gNil))) (by rfl) sc__law_order.nd (pi_seq (pe_callB (r := rSortedD K) (cr_sortedD (Cr.Room.u65 hr)) (by rfl) T.z_sorted (by decide +kernel) (pa_cons (pe_lc (own := [("row", 2)]) (g := gName 2) (by rfl) sc__law_order.nd (pi_seq (pv 0)) (blkOk_by (own := [("row", 2)]) (N := N__law_order) (sc := defScope s__law_order) (by decide +kernel)) (fun _ _ _ _ _ => (pg_name (i := 2) sc__law_order.nd rfl (Or.inl rfl))) (fun _ _ _ _ _ => pts_nil) (fun _ _ _ _ _ => (pe_tup (pa_cons (pe_callB (r := rLenX K) cr_lenX (by rfl) T.z_len PySem.boot_len (pa_cons (pv 2) pa_nil)) (pa_cons (pv 2) pa_nil))))) pa_nil))) (blkOk_by (own := [("size", 1), ("row", 2)]) (N := N__law_order) (sc := defScope s__law_order) (by decide +kernel)) (fun _ _ _ _ _ => (pg_tup rfl (pgs_cons (pg_name (i := 1) sc__law_order.nd rfl (Or.inl rfl) (hf := Or.inr rfl)) (pgs_cons (pg_name (i := 2) sc__law_order.nd rfl (Or.inl rfl) (hf := Or.inr rfl)) pgs_nil)))) (fun _ _ _ _ _ => pts_nil) (fun _ _ _ _ _ => (pv 2))))), ?_⟩
  exact body_ok (N := N__law_order) (f := b__law_order) (ss_ret (se_l (sl_lc (vs := [1, 2]) (si_seq (se_l (sl_cb (sa_cons (se_l (sl_lc (vs := [2]) (si_seq (se_var 0)) (sg_name 2) (by decide) st_yes (se_tup (sa_cons (se_lenV 2) (sa_cons (se_var 2) sa_nil))))) sa_nil) rc_sorted))) (sg_tup 2 (sgs_cons (sg_name 1) (sgs_cons (sg_name 2) sgs_nil))) (by decide) st_yes (se_var 2)))) h
end
end K21
namespace K21
open PySem PySem.Spec PyProof.Rows L2 Evl CrT Cr Sm
/-! ### rows and their beginnings -/
def pre (a b : List Int) : Bool := decide (b.take a.length = a)
theorem pre_iff {a b : List Int} : pre a b = true ↔ ∃ t, b = a ++ t := by
  unfold pre
  rw [decide_eq_true_iff]
  constructor
  · intro h
    refine ⟨b.drop a.length, ?_⟩
    have := List.take_append_drop a.length b
    rw [h] at this
    exact this.symm
  · rintro ⟨t, rfl⟩
    rw [List.take_left]
theorem le_app : ∀ (a t : List Int), a ≤ a ++ t
  | [], t => List.nil_le _
  | x :: a, t => by
    rw [List.cons_append, List.cons_le_cons_iff]
    exact .inr ⟨rfl, le_app a t⟩
theorem between : ∀ (a x t : List Int), a ≤ x → x ≤ a ++ t → ∃ u, x = a ++ u
  | [], x, t, _, _ => ⟨x, rfl⟩
  | y :: a, [], t, h, _ => absurd h (by simp)
  | y :: a, z :: x, t, h, g => by
    rw [List.cons_le_cons_iff] at h
    rw [List.cons_append, List.cons_le_cons_iff] at g
    have e : y = z := by
      rcases h with h | h
      · rcases g with g | g
        · omega
        · omega
      · exact h.1
    subst e
    have h' : a ≤ x := by
      rcases h with h | h
      · omega
      · exact h.2
    have g' : x ≤ a ++ t := by
      rcases g with g | g
      · omega
      · exact g.2
    obtain ⟨u, rfl⟩ := between a x t h' g'
    exact ⟨u, rfl⟩
/-- none the beginning of the other -/
def Fr2 (a b : List Int) : Prop := pre a b = false ∧ pre b a = false
instance (a b : List Int) : Decidable (Fr2 a b) := by unfold Fr2; infer_instance
def adj : List (List Int) → Bool
  | a :: b :: l => !pre a b && adj (b :: l)
  | _ => true
theorem adj_pair : ∀ {l : List (List Int)}, l.Pairwise (· ≤ ·) → (adj l = true ↔ l.Pairwise Fr2)
  | [], _ => ⟨fun _ => .nil, fun _ => rfl⟩
  | [a], _ => ⟨fun _ => List.pairwise_singleton _ _, fun _ => rfl⟩
  | a :: b :: l, h => by
    obtain ⟨h1, h2⟩ := List.pairwise_cons.mp h
    have ih := adj_pair h2
    have hab := h1 b List.mem_cons_self
    show (!pre a b && adj (b :: l)) = true ↔ _
    rw [Bool.and_eq_true, ih, List.pairwise_cons (a := a) (l := b :: l)]
    constructor
    · rintro ⟨g1, g2⟩
      refine ⟨fun c hc => ?_, g2⟩
      have g1 : pre a b = false := by simpa using g1
      have key : pre a c = false := by
        by_cases e : pre a c = true
        · obtain ⟨t, rfl⟩ := pre_iff.mp e
          have hbc : b ≤ a ++ t := by
            rcases List.mem_cons.mp hc with hc | hc
            · rw [← hc]
              exact List.le_refl _
            · exact (List.pairwise_cons.mp h2).1 _ hc
          obtain ⟨u, rfl⟩ := between a b t hab hbc
          have : pre a (a ++ u) = true := pre_iff.mpr ⟨u, rfl⟩
          rw [this] at g1
          cases g1
        · simpa using e
      refine ⟨key, ?_⟩
      by_cases e : pre c a = true
      · obtain ⟨t, rfl⟩ := pre_iff.mp e
        have e1 : c ++ t = c := List.le_antisymm (h1 c hc) (le_app c t)
        rw [e1] at key
        have : pre c c = true := pre_iff.mpr ⟨[], by rw [List.append_nil]⟩
        rw [this] at key
        cases key
      · simpa using e
    · rintro ⟨g1, g2⟩
      refine ⟨?_, g2⟩
      rw [(g1 b List.mem_cons_self).1]
      rfl
/-- .. of every two, as the law looks at them -/
def due (R : List (List Int)) : Bool := (List.range R.length).all fun j => (List.range R.length).all fun i => !(decide (i ≠ j) && pre (R.getD i []) (R.getD j []))
theorem due_pair (R : List (List Int)) : due R = true ↔ R.Pairwise Fr2 := by
  unfold due
  rw [List.all_eq_true, List.pairwise_iff_getElem]
  constructor
  · intro h i j hi hj hij
    have h1 := List.all_eq_true.mp (h j (List.mem_range.mpr hj)) i (List.mem_range.mpr hi)
    have h2 := List.all_eq_true.mp (h i (List.mem_range.mpr hi)) j (List.mem_range.mpr hj)
    rw [List.getD_eq_getElem?_getD, List.getD_eq_getElem?_getD, List.getElem?_eq_getElem hi, List.getElem?_eq_getElem hj] at h1 h2
    rw [decide_eq_true (show i ≠ j by omega)] at h1
    rw [decide_eq_true (show j ≠ i by omega)] at h2
    exact ⟨by simpa using h1, by simpa using h2⟩
  · intro h j hj
    rw [List.all_eq_true]
    intro i hi
    rw [List.mem_range] at hi hj
    rw [List.getD_eq_getElem?_getD, List.getD_eq_getElem?_getD, List.getElem?_eq_getElem hi, List.getElem?_eq_getElem hj]
    by_cases e : i = j
    · rw [decide_eq_false (by simpa using e)]
      rfl
    · rw [decide_eq_true e]
      rcases Nat.lt_or_gt_of_ne e with g | g
      · have := (h i j hi hj g).1
        simp only [Option.getD_some, this]
        rfl
      · have := (h j i hj hi g).2
        simp only [Option.getD_some, this]
        rfl
theorem free_due {R S : List (List Int)} (hp : S.Perm R) (hs : S.Pairwise (· ≤ ·)) : adj S = due R := by
  have : adj S = true ↔ due R = true := by
    rw [adj_pair hs, due_pair]
    exact hp.pairwise_iff fun {a b} h => ⟨h.2, h.1⟩
  cases e : adj S <;> cases e2 : due R <;> simp_all
end K21
namespace K21
open PySem PySem.Spec PyProof.Rows L2 Evl CrT Cr Sm
def rkD (r : List Int) : PyData := .tuple [.int (r.length : Int), rowD r]
noncomputable def D_rk : Fn := runF 1 1 b_rank
noncomputable def D_less : Fn := runF 2 2 (b_is_less D_rk)
noncomputable def D_srt : Fn := runF 1 1 (b_sorted_rows D_rk)
noncomputable def D_pf : Fn := runF 4 1 b_is_prefix_free
noncomputable def D_ord : Fn := runF 3 1 b__law_order
theorem len_row (r : List Int) : gLen [rowD r] = some (.int r.length) := by
  show some (PyData.int ((r.map PyData.int).length : Int)) = _
  rw [List.length_map]
theorem m_rk (r : List Int) : D_rk [rowD r] = some (rkD r) := by
  unfold D_rk
  simp only [b_rank, fSeq, fIfS, fRet, fAsg, fOwn, fApp, fExt, fBrk, fCnt, fDrop, fFrz, frz, fNext, fFor, fB, fAnd, fOr, fNot, fAndV, fOrV, fNotV, fIf, fChain, fOp, fUn, fVar, fC, fTup, fLst, fV, fCons, fNil, fCall, fCallL, fLenV, fSl, fPart, fNoPart, fStar, fAug, gS, gT, gN, gC, fSeqI, run_1, run_2, run_3, run_4, ix0, ix1, ix2, ix3, then_nx, then_rt, then_bk, then_ct, turn_nx, turn_ct, turn_bk, turn_rt, res_rt, asB_b, gIx_t, gIx_l, gAdd_i, gSub_i, gLt_i, gLe_i, gGt_i, gGe_i, eq_i, eq_s, ne_i, ne_s, gLen_t, gLen_l, gTup_l, gTup_t, strEq, Option.bind_some, List.getElem?_cons_zero, List.getElem?_cons_succ, List.set_cons_zero, List.set_cons_succ, List.replicate_succ, List.replicate_zero, Nat.reduceSub, Nat.reduceAdd, if_true, if_false, decide_true, decide_false, Bool.not_true, Bool.not_false, Bool.false_eq_true, String.reduceEq, reduceIte, List.length_cons, List.length_nil, Nat.reduceLeDiff, lim, len_row, rkD]
theorem canLay_row (r : List Int) : (rowD r).canLay0 = true := by
  unfold rowD
  exact lay_all (ds := r.map PyData.int) fun d hd => by
    obtain ⟨i, _, rfl⟩ := List.mem_map.mp hd
    rfl
theorem depth_row (r : List Int) : (rowD r).depth ≤ 1 := by
  unfold rowD
  show PyData.depthAll (r.map .int) + 1 ≤ 1
  rw [PySem.W.depth_ints]
  exact Nat.le_refl _
theorem alike_row (a b : List Int) : PySem.W.alike (rowD a) (rowD b) = true := by
  unfold rowD
  simp only [PySem.W.alike]
  exact PySem.W.alike_ints a b
theorem alike_rk (a b : List Int) : PySem.W.alike (rkD a) (rkD b) = true := by
  have := alike_row a b
  unfold rkD
  simp only [PySem.W.alike, PySem.W.alikeAll, this, Bool.and_self]
theorem canLay_rk (r : List Int) : (rkD r).canLay0 = true := by
  unfold rkD
  exact lay_all (ds := [.int (r.length : Int), rowD r]) fun d hd => by
    simp only [List.mem_cons, List.not_mem_nil, or_false] at hd
    rcases hd with rfl | rfl
    · rfl
    · exact canLay_row r
theorem depth_rk (r : List Int) : (rkD r).depth ≤ 2 := by
  have := depth_row r
  unfold rkD
  simp only [PyData.depth, PyData.depthAll]
  omega
theorem lt_rk (a b : List Int) : gLtX (rkD a) (rkD b) = some (.bool (PySem.W.dataLt (rkD a) (rkD b))) := gLtX_d ⟨alike_rk a b, (by unfold rkD; intro h; cases h), Nat.le_trans (depth_rk a) (by decide), canLay_rk a, canLay_rk b⟩
theorem m_less (a b : List Int) : D_less [rowD a, rowD b] = some (.bool (PySem.W.dataLt (rkD a) (rkD b))) := by
  unfold D_less
  simp only [b_is_less, fSeq, fIfS, fRet, fAsg, fOwn, fApp, fExt, fBrk, fCnt, fDrop, fFrz, frz, fNext, fFor, fB, fAnd, fOr, fNot, fAndV, fOrV, fNotV, fIf, fChain, fOp, fUn, fVar, fC, fTup, fLst, fV, fCons, fNil, fCall, fCallL, fLenV, fSl, fPart, fNoPart, fStar, fAug, gS, gT, gN, gC, fSeqI, run_1, run_2, run_3, run_4, ix0, ix1, ix2, ix3, then_nx, then_rt, then_bk, then_ct, turn_nx, turn_ct, turn_bk, turn_rt, res_rt, asB_b, gIx_t, gIx_l, gAdd_i, gSub_i, gLt_i, gLe_i, gGt_i, gGe_i, eq_i, eq_s, ne_i, ne_s, gLen_t, gLen_l, gTup_l, gTup_t, strEq, Option.bind_some, List.getElem?_cons_zero, List.getElem?_cons_succ, List.set_cons_zero, List.set_cons_succ, List.replicate_succ, List.replicate_zero, Nat.reduceSub, Nat.reduceAdd, if_true, if_false, decide_true, decide_false, Bool.not_true, Bool.not_false, Bool.false_eq_true, String.reduceEq, reduceIte, List.length_cons, List.length_nil, Nat.reduceLeDiff, lim, m_rk, lt_rk]
/-! ### the orders -/
def leK (a b : List Int) : Bool := PySem.W.dataLe false rkD a b
def ordR (R : List (List Int)) : List (List Int) := R.mergeSort leK
theorem noA_row (r : List Int) : noA (rowD r) = true := noA_flat _ (by
  unfold rowD
  rw [flatD]
  refine flatDs_of fun d hd => ?_
  obtain ⟨i, _, rfl⟩ := List.mem_map.mp hd
  rfl)
theorem noA_rows (R : List (List Int)) : noAs [.list (R.map rowD)] = true := by
  have : noAs (R.map rowD) = true := noAs_of fun d hd => by
    obtain ⟨r, _, rfl⟩ := List.mem_map.mp hd
    exact noA_row r
  simp only [noAs, noA, this, Bool.and_self]
theorem sortDK_rows (R : List (List Int)) : sortDK (R.map rowD) (R.map rkD) = (ordR R).map rowD := by
  have e : (R.map rowD).zip (R.map rkD) = R.map fun r => (rowD r, rkD r) := by
    induction R with
    | nil => rfl
    | cons r R ih => rw [List.map_cons, List.map_cons, List.zip_cons_cons, ih]; rfl
  unfold sortDK ordR
  rw [e, ← PySem.W.sort_maps (r := leK) (s := PySem.W.dataLe false (Prod.snd : PyData × PyData → PyData)) (fun r => (rowD r, rkD r)) (l := R) fun a _ b _ => rfl, List.map_map]
  rfl
theorem okK (R : List (List Int)) : SortOkK (R.map rowD) (R.map rkD) := by
  refine ⟨⟨PySem.W.AllAlike.of alike_rk, .inl (PySem.W.Sortable.tuples fun r => ⟨_, _, rfl⟩), fun d hd => ?_⟩, ?_, ?_⟩
  · obtain ⟨r, _, rfl⟩ := List.mem_map.mp hd
    exact ⟨(by unfold rkD; intro h; cases h), Nat.le_trans (depth_rk r) (by decide)⟩
  · rw [List.all_eq_true]
    intro d hd
    obtain ⟨r, _, rfl⟩ := List.mem_map.mp hd
    exact canLay_rk r
  · exact noAs_of fun d hd => by
      obtain ⟨r, _, rfl⟩ := List.mem_map.mp hd
      exact noA_row r
theorem m_srt (R : List (List Int)) : D_srt [.list (R.map rowD)] = some (.list ((ordR R).map rowD)) := by
  have h1 : keysM D_rk (R.map rowD) = some (R.map rkD) := keysM_map fun r _ => m_rk r
  have h2 := gSortK_l h1 (okK R)
  rw [sortDK_rows] at h2
  unfold D_srt
  simp only [b_sorted_rows, fSeq, fIfS, fRet, fAsg, fOwn, fApp, fExt, fBrk, fCnt, fDrop, fFrz, frz, fNext, fFor, fB, fAnd, fOr, fNot, fAndV, fOrV, fNotV, fIf, fChain, fOp, fUn, fVar, fC, fTup, fLst, fV, fCons, fNil, fCall, fCallL, fLenV, fSl, fPart, fNoPart, fStar, fAug, gS, gT, gN, gC, fSeqI, run_1, run_2, run_3, run_4, ix0, ix1, ix2, ix3, then_nx, then_rt, then_bk, then_ct, turn_nx, turn_ct, turn_bk, turn_rt, res_rt, asB_b, gIx_t, gIx_l, gAdd_i, gSub_i, gLt_i, gLe_i, gGt_i, gGe_i, eq_i, eq_s, ne_i, ne_s, gLen_t, gLen_l, gTup_l, gTup_t, strEq, Option.bind_some, List.getElem?_cons_zero, List.getElem?_cons_succ, List.set_cons_zero, List.set_cons_succ, List.replicate_succ, List.replicate_zero, Nat.reduceSub, Nat.reduceAdd, if_true, if_false, decide_true, decide_false, Bool.not_true, Bool.not_false, Bool.false_eq_true, String.reduceEq, reduceIte, List.length_cons, List.length_nil, Nat.reduceLeDiff, lim, fSortK, h2]
theorem sortD_rk (R : List (List Int)) : sortD (R.map rkD) = (ordR R).map rkD := by
  unfold sortD ordR
  exact (PySem.W.sort_maps (r := leK) (s := PySem.W.dataLe false (id : PyData → PyData)) rkD (l := R) fun a _ b _ => rfl).symm
theorem m_ord {R : List (List Int)} (hR : R.length ≤ 1000) : D_ord [.list (R.map rowD)] = some (.list ((ordR R).map rowD)) := by
  have hlen : (ordR R).length = R.length := (List.mergeSort_perm _ _).length_eq
  have c1 : compM (cStep (gS 2) (fun _ => some true) (fTup (fCons (fLenV 2) (fCons (fVar 2) fNil))) (Sm.wpS [.val (.list (R.map rowD)), .un, .un] [2])) (R.map rowD) = some (R.map rkD) := comp_map fun r _ => by
    simp only [cStep, Sm.wpS, fSeq, fIfS, fRet, fAsg, fOwn, fApp, fExt, fBrk, fCnt, fDrop, fFrz, frz, fNext, fFor, fB, fAnd, fOr, fNot, fAndV, fOrV, fNotV, fIf, fChain, fOp, fUn, fVar, fC, fTup, fLst, fV, fCons, fNil, fCall, fCallL, fLenV, fSl, fPart, fNoPart, fStar, fAug, gS, gT, gN, gC, fSeqI, run_1, run_2, run_3, run_4, ix0, ix1, ix2, ix3, then_nx, then_rt, then_bk, then_ct, turn_nx, turn_ct, turn_bk, turn_rt, res_rt, asB_b, gIx_t, gIx_l, gAdd_i, gSub_i, gLt_i, gLe_i, gGt_i, gGe_i, eq_i, eq_s, ne_i, ne_s, gLen_t, gLen_l, gTup_l, gTup_t, strEq, Option.bind_some, List.getElem?_cons_zero, List.getElem?_cons_succ, List.set_cons_zero, List.set_cons_succ, List.replicate_succ, List.replicate_zero, Nat.reduceSub, Nat.reduceAdd, if_true, if_false, decide_true, decide_false, Bool.not_true, Bool.not_false, Bool.false_eq_true, String.reduceEq, reduceIte, List.length_cons, List.length_nil, Nat.reduceLeDiff, lim, fVar, len_row, rkD]
  have c2 : compM (cStep (gT 2 (gC (gS 1) (gC (gS 2) gN))) (fun _ => some true) (fVar 2) (Sm.wpS [.val (.list (R.map rowD)), .un, .un] [1, 2])) ((ordR R).map rkD) = some ((ordR R).map rowD) := comp_map fun r _ => by
    simp only [cStep, Sm.wpS, fSeq, fIfS, fRet, fAsg, fOwn, fApp, fExt, fBrk, fCnt, fDrop, fFrz, frz, fNext, fFor, fB, fAnd, fOr, fNot, fAndV, fOrV, fNotV, fIf, fChain, fOp, fUn, fVar, fC, fTup, fLst, fV, fCons, fNil, fCall, fCallL, fLenV, fSl, fPart, fNoPart, fStar, fAug, gS, gT, gN, gC, fSeqI, run_1, run_2, run_3, run_4, ix0, ix1, ix2, ix3, then_nx, then_rt, then_bk, then_ct, turn_nx, turn_ct, turn_bk, turn_rt, res_rt, asB_b, gIx_t, gIx_l, gAdd_i, gSub_i, gLt_i, gLe_i, gGt_i, gGe_i, eq_i, eq_s, ne_i, ne_s, gLen_t, gLen_l, gTup_l, gTup_t, strEq, Option.bind_some, List.getElem?_cons_zero, List.getElem?_cons_succ, List.set_cons_zero, List.set_cons_succ, List.replicate_succ, List.replicate_zero, Nat.reduceSub, Nat.reduceAdd, if_true, if_false, decide_true, decide_false, Bool.not_true, Bool.not_false, Bool.false_eq_true, String.reduceEq, reduceIte, List.length_cons, List.length_nil, Nat.reduceLeDiff, lim, fVar, rkD]
  have ok : SortOk (R.map rkD) := ⟨⟨PySem.W.AllAlike.of alike_rk, PySem.W.Sortable.tuples fun r => ⟨_, _, rfl⟩, fun d hd => by
    obtain ⟨r, _, rfl⟩ := List.mem_map.mp hd
    exact Nat.le_trans (depth_rk r) (by decide)⟩, by
    rw [List.all_eq_true]
    intro d hd
    obtain ⟨r, _, rfl⟩ := List.mem_map.mp hd
    exact canLay_rk r⟩
  have h2 := gSorted_l ok
  rw [sortD_rk] at h2
  unfold D_ord
  simp only [b__law_order, fSeq, fIfS, fRet, fAsg, fOwn, fApp, fExt, fBrk, fCnt, fDrop, fFrz, frz, fNext, fFor, fB, fAnd, fOr, fNot, fAndV, fOrV, fNotV, fIf, fChain, fOp, fUn, fVar, fC, fTup, fLst, fV, fCons, fNil, fCall, fCallL, fLenV, fSl, fPart, fNoPart, fStar, fAug, gS, gT, gN, gC, fSeqI, run_1, run_2, run_3, run_4, ix0, ix1, ix2, ix3, then_nx, then_rt, then_bk, then_ct, turn_nx, turn_ct, turn_bk, turn_rt, res_rt, asB_b, gIx_t, gIx_l, gAdd_i, gSub_i, gLt_i, gLe_i, gGt_i, gGe_i, eq_i, eq_s, ne_i, ne_s, gLen_t, gLen_l, gTup_l, gTup_t, strEq, Option.bind_some, List.getElem?_cons_zero, List.getElem?_cons_succ, List.set_cons_zero, List.set_cons_succ, List.replicate_succ, List.replicate_zero, Nat.reduceSub, Nat.reduceAdd, if_true, if_false, decide_true, decide_false, Bool.not_true, Bool.not_false, Bool.false_eq_true, String.reduceEq, reduceIte, List.length_cons, List.length_nil, Nat.reduceLeDiff, lim, fComp, c1, List.length_map]
  rw [if_pos (by omega)]
  simp only [fSeq, fIfS, fRet, fAsg, fOwn, fApp, fExt, fBrk, fCnt, fDrop, fFrz, frz, fNext, fFor, fB, fAnd, fOr, fNot, fAndV, fOrV, fNotV, fIf, fChain, fOp, fUn, fVar, fC, fTup, fLst, fV, fCons, fNil, fCall, fCallL, fLenV, fSl, fPart, fNoPart, fStar, fAug, gS, gT, gN, gC, fSeqI, run_1, run_2, run_3, run_4, ix0, ix1, ix2, ix3, then_nx, then_rt, then_bk, then_ct, turn_nx, turn_ct, turn_bk, turn_rt, res_rt, asB_b, gIx_t, gIx_l, gAdd_i, gSub_i, gLt_i, gLe_i, gGt_i, gGe_i, eq_i, eq_s, ne_i, ne_s, gLen_t, gLen_l, gTup_l, gTup_t, strEq, Option.bind_some, List.getElem?_cons_zero, List.getElem?_cons_succ, List.set_cons_zero, List.set_cons_succ, List.replicate_succ, List.replicate_zero, Nat.reduceSub, Nat.reduceAdd, if_true, if_false, decide_true, decide_false, Bool.not_true, Bool.not_false, Bool.false_eq_true, String.reduceEq, reduceIte, List.length_cons, List.length_nil, Nat.reduceLeDiff, lim, h2, fComp, c2, List.length_map]
  rw [if_pos (by omega)]
  rfl
/-! ### beginnings -/
theorem eq_row {a b : List Int} (ha : a.length ≤ 60) (hb : b.length ≤ 60) : eqD (rowD a) (rowD b) = some (decide (a = b)) := by
  have sh : ∀ r : List Int, r.length ≤ 60 → SeqAt.shaped (rowD r) = true := fun r hr => by
    refine Dk.shaped (n := 1) (.tup (by rw [List.length_map]; exact hr) fun d hd => ?_) (by decide)
    obtain ⟨i, _, rfl⟩ := List.mem_map.mp hd
    exact .int i
  have h1 := sh a ha
  have h2 := sh b hb
  show (if SeqAt.shaped (rowD a) && SeqAt.shaped (rowD b) then some (PyData.eqv (rowD a) (rowD b)) else none) = _
  rw [h1, h2]
  show some (PyData.eqvAll (a.map .int) (b.map .int)) = _
  rw [eqv_ints]
theorem gEq_row {a b : List Int} (ha : a.length ≤ 60) (hb : b.length ≤ 60) : gEq (rowD a) (rowD b) = some (.bool (decide (a = b))) := by
  show (eqD _ _).bind _ = _
  rw [eq_row ha hb]
  rfl
theorem gNe_row {a b : List Int} (ha : a.length ≤ 60) (hb : b.length ≤ 60) : gNe (rowD a) (rowD b) = some (.bool (!decide (a = b))) := by
  show (eqD _ _).bind _ = _
  rw [eq_row ha hb]
  rfl
def leR (a b : List Int) : Bool := PySem.W.dataLe false rowD a b
theorem leR_eq (a b : List Int) : leR a b = decide (a ≤ b) := by
  show (!PySem.W.dataLt (rowD b) (rowD a)) = _
  unfold rowD
  rw [PySem.W.dataLt_tuple]
  show (!PySem.W.rowLt (b.map .int) (a.map .int)) = _
  rw [PySem.W.dataLt_ints]
  by_cases h : b < a
  · rw [decide_eq_true h, decide_eq_false fun r => List.not_lt.mpr r h]
    rfl
  · rw [decide_eq_false h, decide_eq_true (List.not_lt.mp h)]
    rfl
def lexR (R : List (List Int)) : List (List Int) := R.mergeSort leR
theorem lexR_perm (R : List (List Int)) : (lexR R).Perm R := List.mergeSort_perm _ _
theorem lexR_sorted (R : List (List Int)) : (lexR R).Pairwise (· ≤ ·) := by
  have := PySem.W.sort_pairwise (PySem.W.sortLe_total (PyProof.Rows.listOrd PyProof.Rows.itemOrd) false fun b : List Int => PySem.W.keyToks (rowD b)) R
  refine this.imp fun {a b} h => ?_
  have h : leR a b = true := h
  rw [leR_eq] at h
  exact of_decide_eq_true h
theorem zip_rows : ∀ (S : List (List Int)), zipD (S.map rowD) ((S.drop 1).map rowD) = (S.zip (S.drop 1)).map fun p => .tuple [rowD p.1, rowD p.2]
  | [] => rfl
  | [a] => rfl
  | a :: b :: l => by
    have := zip_rows (b :: l)
    show PyData.tuple [rowD a, rowD b] :: zipD ((b :: l).map rowD) (((b :: l).drop 1).map rowD) = _
    rw [this]
    rfl
theorem adj_zip : ∀ S : List (List Int), ((S.zip (S.drop 1)).all fun p => !pre p.1 p.2) = adj S
  | [] => rfl
  | [a] => rfl
  | a :: b :: l => by
    have := adj_zip (b :: l)
    show (!pre a b && (((b :: l).zip ((b :: l).drop 1)).all fun p => !pre p.1 p.2)) = _
    rw [this]
    rfl
theorem allB_pre {α : Type} (f : α → Bool) : ∀ l : List α, Sm.allB (l.map fun a => .bool (f a)) = some (l.all f)
  | [] => rfl
  | a :: l => by
    show (Sm.allB (l.map fun a => PyData.bool (f a))).bind _ = _
    rw [allB_pre f l]
    rfl
theorem m_pf {R : List (List Int)} (hR : R.length ≤ 1000) (hr : ∀ r ∈ R, r.length ≤ 60) : D_pf [.list (R.map rowD)] = some (.bool (due R)) := by
  have hlen : (lexR R).length = R.length := (lexR_perm R).length_eq
  have hmem : ∀ r ∈ lexR R, r.length ≤ 60 := fun r h => hr r ((lexR_perm R).mem_iff.mp h)
  have ok : SortOkU (R.map rowD) := ⟨⟨PySem.W.AllAlike.of alike_row, fun d hd => by
    obtain ⟨r, _, rfl⟩ := List.mem_map.mp hd
    exact ⟨_, rfl⟩, fun d hd => by
    obtain ⟨r, _, rfl⟩ := List.mem_map.mp hd
    exact Nat.le_trans (depth_row r) (by decide)⟩, by
    rw [List.all_eq_true]
    intro d hd
    obtain ⟨r, _, rfl⟩ := List.mem_map.mp hd
    exact canLay_row r⟩
  have h2 := gSortedU_l ok
  have e : sortD (R.map rowD) = (lexR R).map rowD := (PySem.W.sort_maps (r := leR) (s := PySem.W.dataLe false (id : PyData → PyData)) rowD (l := R) fun a _ b _ => rfl).symm
  rw [e] at h2
  have sl : gSl (.list ((lexR R).map rowD)) (some 1) none = some (.list (((lexR R).drop 1).map rowD)) := by
    show some (PyData.list (Sm.cutD _ (some ((1 : Nat) : Int)) none)) = _
    rw [cutD_drop, List.map_drop]
  have c1 : compM (cStep (gT 2 (gC (gS 2) (gC (gS 3) gN))) (fun _ => some true) (fOp gNe (fSl gSl (fVar 3) fNoPart (fPart (fLenV 2))) (fVar 2)) (Sm.wpS [.val (.list (R.map rowD)), .val (.list ((lexR R).map rowD)), .un, .un] [2, 3])) (((lexR R).zip ((lexR R).drop 1)).map fun p => .tuple [rowD p.1, rowD p.2]) = some (((lexR R).zip ((lexR R).drop 1)).map fun p => .bool (!pre p.1 p.2)) := comp_map fun p hp => by
    obtain ⟨hp1, hp2⟩ := List.of_mem_zip (a := p.1) (b := p.2) hp
    have h3 := sl_rowT p.2 p.1.length
    have h4 := gNe_row (a := p.2.take p.1.length) (b := p.1) (by rw [List.length_take]; have := hmem _ (List.mem_of_mem_drop hp2); omega) (hmem _ hp1)
    simp only [cStep, Sm.wpS, fSeq, fIfS, fRet, fAsg, fOwn, fApp, fExt, fBrk, fCnt, fDrop, fFrz, frz, fNext, fFor, fB, fAnd, fOr, fNot, fAndV, fOrV, fNotV, fIf, fChain, fOp, fUn, fVar, fC, fTup, fLst, fV, fCons, fNil, fCall, fCallL, fLenV, fSl, fPart, fNoPart, fStar, fAug, gS, gT, gN, gC, fSeqI, run_1, run_2, run_3, run_4, ix0, ix1, ix2, ix3, then_nx, then_rt, then_bk, then_ct, turn_nx, turn_ct, turn_bk, turn_rt, res_rt, asB_b, gIx_t, gIx_l, gAdd_i, gSub_i, gLt_i, gLe_i, gGt_i, gGe_i, eq_i, eq_s, ne_i, ne_s, gLen_t, gLen_l, gTup_l, gTup_t, strEq, Option.bind_some, List.getElem?_cons_zero, List.getElem?_cons_succ, List.set_cons_zero, List.set_cons_succ, List.replicate_succ, List.replicate_zero, Nat.reduceSub, Nat.reduceAdd, if_true, if_false, decide_true, decide_false, Bool.not_true, Bool.not_false, Bool.false_eq_true, String.reduceEq, reduceIte, List.length_cons, List.length_nil, Nat.reduceLeDiff, lim, fVar, len_row, h3, h4]
    rfl
  have hz : ((lexR R).zip ((lexR R).drop 1)).length ≤ 1000 := by rw [List.length_zip]; omega
  have hal : gAll [.list (((lexR R).zip ((lexR R).drop 1)).map fun p => .bool (!pre p.1 p.2))] = some (.bool (due R)) := by
    show (Sm.allB _).bind _ = _
    rw [allB_pre fun p : List Int × List Int => !pre p.1 p.2, adj_zip, free_due (lexR_perm R) (lexR_sorted R)]
    rfl
  unfold D_pf
  simp only [b_is_prefix_free, fSeq, fIfS, fRet, fAsg, fOwn, fApp, fExt, fBrk, fCnt, fDrop, fFrz, frz, fNext, fFor, fB, fAnd, fOr, fNot, fAndV, fOrV, fNotV, fIf, fChain, fOp, fUn, fVar, fC, fTup, fLst, fV, fCons, fNil, fCall, fCallL, fLenV, fSl, fPart, fNoPart, fStar, fAug, gS, gT, gN, gC, fSeqI, run_1, run_2, run_3, run_4, ix0, ix1, ix2, ix3, then_nx, then_rt, then_bk, then_ct, turn_nx, turn_ct, turn_bk, turn_rt, res_rt, asB_b, gIx_t, gIx_l, gAdd_i, gSub_i, gLt_i, gLe_i, gGt_i, gGe_i, eq_i, eq_s, ne_i, ne_s, gLen_t, gLen_l, gTup_l, gTup_t, strEq, Option.bind_some, List.getElem?_cons_zero, List.getElem?_cons_succ, List.set_cons_zero, List.set_cons_succ, List.replicate_succ, List.replicate_zero, Nat.reduceSub, Nat.reduceAdd, if_true, if_false, decide_true, decide_false, Bool.not_true, Bool.not_false, Bool.false_eq_true, String.reduceEq, reduceIte, List.length_cons, List.length_nil, Nat.reduceLeDiff, lim, h2, fComp, fZip, sl, zip_rows, c1, List.length_map]
  rw [if_pos (by omega)]
  simp only [fSeq, fIfS, fRet, fAsg, fOwn, fApp, fExt, fBrk, fCnt, fDrop, fFrz, frz, fNext, fFor, fB, fAnd, fOr, fNot, fAndV, fOrV, fNotV, fIf, fChain, fOp, fUn, fVar, fC, fTup, fLst, fV, fCons, fNil, fCall, fCallL, fLenV, fSl, fPart, fNoPart, fStar, fAug, gS, gT, gN, gC, fSeqI, run_1, run_2, run_3, run_4, ix0, ix1, ix2, ix3, then_nx, then_rt, then_bk, then_ct, turn_nx, turn_ct, turn_bk, turn_rt, res_rt, asB_b, gIx_t, gIx_l, gAdd_i, gSub_i, gLt_i, gLe_i, gGt_i, gGe_i, eq_i, eq_s, ne_i, ne_s, gLen_t, gLen_l, gTup_l, gTup_t, strEq, Option.bind_some, List.getElem?_cons_zero, List.getElem?_cons_succ, List.set_cons_zero, List.set_cons_succ, List.replicate_succ, List.replicate_zero, Nat.reduceSub, Nat.reduceAdd, if_true, if_false, decide_true, decide_false, Bool.not_true, Bool.not_false, Bool.false_eq_true, String.reduceEq, reduceIte, List.length_cons, List.length_nil, Nat.reduceLeDiff, lim, hal]
end K21
namespace K21
open PySem PySem.Spec PyProof.Rows L2 Evl CrT Cr Sm
theorem take_list {n : Nat} {z0 z1 z3 z4 z5 z6 z7 : Sl} : ∀ (js : List Nat) (Q : List PyData → Prop), (∀ xs : List Int, xs.length = js.length → Q (xs.map .int)) →
    wList (gS 6) (wOp gSub (wTake (wsCons (wOf (fVar 2)) (wsCons (wOf (fC (.int 5))) wsNil))) (wOf (fC (.int 1)))) [z0, z1, .val (.dict (tagB n)), z3, z4, z5, z6, z7] (js.map fun (j : Nat) => .int (j : Int)) Q
  | [], Q, q => q [] rfl
  | j :: js, Q, q => ⟨_, rfl, _, rfl, _, rfl, n, 5, rfl, by decide, fun r h0 h1 => ⟨_, rfl, _, rfl, take_list js _ fun xs h => q ((r - 1) :: xs) (by rw [List.length_cons, List.length_cons, h])⟩⟩
theorem rows_loop {f1 f2 f3 f4 : Fn} {n m : Nat} {z0 z1 z5 z7 : Sl} {Q : Fl → Nat → List Sl → Prop} : ∀ (js : List Nat) (R : List (List Int)) (z4 z6 : Sl), R.length + js.length ≤ 10 → (∀ r ∈ R, r.length ≤ 10) →
    (∀ (R' : List (List Int)) z4 z6, R'.length ≤ R.length + js.length → (∀ r ∈ R', r.length ≤ 10) → Q .nx m [z0, z1, .val (.dict (tagB n)), .own (.l (R'.map rowD)), z4, z5, z6, z7]) →
    wLoop (gS 4) (w_law_1 f1 f2 f3 f4) (js.map fun (j : Nat) => .int (j : Int)) m [z0, z1, .val (.dict (tagB n)), .own (.l (R.map rowD)), z4, z5, z6, z7] Q
  | [], R, z4, z6, _, hr, q => q R z4 z6 (Nat.le_refl _) hr
  | j :: js, R, z4, z6, hl, hr, q => by
    rw [List.length_cons] at hl
    refine ⟨_, rfl, ?_⟩
    unfold w_law_1
    refine ⟨R.map rowD, rfl, by rw [List.length_map]; omega, _, rfl, _, rfl, n, 6, rfl, by decide, fun r h0 h1 => ⟨r, rfl, by omega, by omega, ?_, ?_⟩⟩
    · unfold rngD
      rw [List.length_map, List.length_range]
      omega
    rw [rng_map0]
    refine take_list (n := n) (List.range r.toNat) _ fun xs hx => ⟨.tuple (xs.map .int), rfl, ?_⟩
    rw [List.length_range] at hx
    have e : R.map rowD ++ [.tuple (xs.map PyData.int)] = (R ++ [xs]).map rowD := by rw [List.map_append]; rfl
    show wLoop (gS 4) (w_law_1 f1 f2 f3 f4) (js.map fun (j : Nat) => .int (j : Int)) m [z0, z1, .val (.dict (tagB n)), .own (.l (R.map rowD ++ [.tuple (xs.map .int)])), .val (.int (j : Int)), z5, z6, z7] Q
    rw [e]
    refine rows_loop js (R ++ [xs]) _ z6 (by rw [List.length_append, List.length_singleton]; omega) (fun r' h => ?_) fun R' z4 z6 h1 h2 => q R' z4 z6 (by rw [List.length_append, List.length_singleton] at h1; rw [List.length_cons]; omega) h2
    rcases List.mem_append.mp h with h | h
    · exact hr r' h
    · cases List.mem_singleton.mp h
      omega
/-! ### what is compared -/
def preS (i j : Nat) (R : List (List Int)) : Bool := decide (i ≠ j) && pre (R.getD i []) (R.getD j [])
noncomputable def cBody : FS := (fSeq (fFrz 3 (fAsg (fCall0 D_less (fCons (fOp gIx (fVar 3) (fVar 6)) (fCons (fOp gIx (fVar 3) (fVar 4)) fNil))) (gS 7)))
          (fSeq (fFrz 3 (fIfS (fOr (fNot (fB (fCall (gIsi "bool") (fCons (fVar 7) fNil)))) (fB (fOp gNe (fVar 7) (fOp gLtX (fTup (fCons (fCall gLen (fCons (fOp gIx (fVar 3) (fVar 6)) fNil)) (fCons (fOp gIx (fVar 3) (fVar 6)) fNil))) (fTup (fCons (fCall gLen (fCons (fOp gIx (fVar 3) (fVar 4)) fNil)) (fCons (fOp gIx (fVar 3) (fVar 4)) fNil))))))) (fRet (fC (.bool false))) fNext))
          (fFrz 3 (fIfS (fAnd (fB (fOp gNe (fVar 6) (fVar 4))) (fB (fOp gEq (fSl gSl (fOp gIx (fVar 3) (fVar 4)) fNoPart (fPart (fCall gLen (fCons (fOp gIx (fVar 3) (fVar 6)) fNil)))) (fOp gIx (fVar 3) (fVar 6))))) (fAsg (fC (.bool false)) (gS 5)) fNext))))
section
variable {R : List (List Int)} {z0 z1 z2 : Sl}
theorem row_at {i : Nat} (h : i < R.length) : gIx (.list (R.map rowD)) (.int (i : Int)) = some (rowD (R.getD i [])) := by
  refine atI_nat ?_
  rw [List.getElem?_map, List.getD_eq_getElem?_getD, List.getElem?_eq_getElem h]
  rfl
theorem row_len (hr : ∀ r ∈ R, r.length ≤ 60) (i : Nat) : (R.getD i []).length ≤ 60 := by
  by_cases h : i < R.length
  · rw [List.getD_eq_getElem?_getD, List.getElem?_eq_getElem h]
    exact hr _ (List.getElem_mem h)
  · rw [List.getD_eq_getElem?_getD, List.getElem?_eq_none (by omega)]
    exact Nat.zero_le _
theorem c_turn (hr : ∀ r ∈ R, r.length ≤ 60) {i j : Nat} (hi : i < R.length) (hj : j < R.length) {b : Bool} {z7 : Sl} :
    ∃ z7', cBody [z0, z1, z2, .val (.list (R.map rowD)), .val (.int (j : Int)), .val (.bool b), .val (.int (i : Int)), z7] = some (.nx, [z0, z1, z2, .val (.list (R.map rowD)), .val (.int (j : Int)), .val (.bool (b && !preS i j R)), .val (.int (i : Int)), z7']) := by
  have r1 := row_at hi
  have r2 := row_at hj
  have l1 := row_len hr i
  have l2 := row_len hr j
  unfold preS
  generalize R.getD i [] = x at r1 l1 ⊢
  generalize R.getD j [] = y at r2 l2 ⊢
  have n1 : noAs [rowD x, rowD y] = true := by
    have h1 := noA_row x
    have h2 := noA_row y
    simp only [noAs, h1, h2, Bool.and_self]
  have hl := m_less x y
  have hx : gLtX (.tuple [.int (x.length : Int), rowD x]) (.tuple [.int (y.length : Int), rowD y]) = some (.bool (PySem.W.dataLt (rkD x) (rkD y))) := lt_rk x y
  have hb : ∀ b : Bool, gNe (.bool b) (.bool b) = some (.bool false) := fun b => by cases b <;> rfl
  have hib : ∀ b : Bool, gIsi "bool" [.bool b] = some (.bool true) := fun b => rfl
  have sl := sl_rowT y x.length
  have eq := gEq_row (a := y.take x.length) (b := x) (by rw [List.length_take]; omega) l1
  have nij : gNe (.int (i : Int)) (.int (j : Int)) = some (.bool (decide (i ≠ j))) := by
    show (eqD _ _).bind _ = _
    show some (PyData.bool (!decide ((i : Int) = (j : Int)))) = _
    congr 2
    by_cases h : i = j
    · subst h
      simp
    · rw [decide_eq_false (show ¬ (i : Int) = (j : Int) by omega), decide_eq_true h]
      rfl
  refine ⟨.val (.bool (PySem.W.dataLt (rkD x) (rkD y))), ?_⟩
  unfold cBody
  rw [seq_nx (ρ' := [z0, z1, z2, .val (.list (R.map rowD)), .val (.int (j : Int)), .val (.bool b), .val (.int (i : Int)), .val (.bool (PySem.W.dataLt (rkD x) (rkD y)))]) (by simp only [fSeq, fIfS, fRet, fAsg, fOwn, fApp, fExt, fBrk, fCnt, fDrop, fFrz, frz, fNext, fFor, fB, fAnd, fOr, fNot, fAndV, fOrV, fNotV, fIf, fChain, fOp, fUn, fVar, fC, fTup, fLst, fV, fCons, fNil, fCall, fCallL, fLenV, fSl, fPart, fNoPart, fStar, fAug, gS, gT, gN, gC, fSeqI, run_1, run_2, run_3, run_4, ix0, ix1, ix2, ix3, then_nx, then_rt, then_bk, then_ct, turn_nx, turn_ct, turn_bk, turn_rt, res_rt, asB_b, gIx_t, gIx_l, gAdd_i, gSub_i, gLt_i, gLe_i, gGt_i, gGe_i, eq_i, eq_s, ne_i, ne_s, gLen_t, gLen_l, gTup_l, gTup_t, strEq, Option.bind_some, List.getElem?_cons_zero, List.getElem?_cons_succ, List.set_cons_zero, List.set_cons_succ, List.replicate_succ, List.replicate_zero, Nat.reduceSub, Nat.reduceAdd, if_true, if_false, decide_true, decide_false, Bool.not_true, Bool.not_false, Bool.false_eq_true, String.reduceEq, reduceIte, List.length_cons, List.length_nil, Nat.reduceLeDiff, lim, fFrz, frz, fCall0, r1, r2, n1, hl]),
    seq_nx (ρ' := [z0, z1, z2, .val (.list (R.map rowD)), .val (.int (j : Int)), .val (.bool b), .val (.int (i : Int)), .val (.bool (PySem.W.dataLt (rkD x) (rkD y)))]) (by simp only [fSeq, fIfS, fRet, fAsg, fOwn, fApp, fExt, fBrk, fCnt, fDrop, fFrz, frz, fNext, fFor, fB, fAnd, fOr, fNot, fAndV, fOrV, fNotV, fIf, fChain, fOp, fUn, fVar, fC, fTup, fLst, fV, fCons, fNil, fCall, fCallL, fLenV, fSl, fPart, fNoPart, fStar, fAug, gS, gT, gN, gC, fSeqI, run_1, run_2, run_3, run_4, ix0, ix1, ix2, ix3, then_nx, then_rt, then_bk, then_ct, turn_nx, turn_ct, turn_bk, turn_rt, res_rt, asB_b, gIx_t, gIx_l, gAdd_i, gSub_i, gLt_i, gLe_i, gGt_i, gGe_i, eq_i, eq_s, ne_i, ne_s, gLen_t, gLen_l, gTup_l, gTup_t, strEq, Option.bind_some, List.getElem?_cons_zero, List.getElem?_cons_succ, List.set_cons_zero, List.set_cons_succ, List.replicate_succ, List.replicate_zero, Nat.reduceSub, Nat.reduceAdd, if_true, if_false, decide_true, decide_false, Bool.not_true, Bool.not_false, Bool.false_eq_true, String.reduceEq, reduceIte, List.length_cons, List.length_nil, Nat.reduceLeDiff, lim, fFrz, frz, r1, r2, len_row, hx, hb, hib])]
  by_cases h : i = j
  · have hd : decide (i ≠ j) = false := decide_eq_false (by simpa using h)
    rw [hd] at nij ⊢
    simp only [fSeq, fIfS, fRet, fAsg, fOwn, fApp, fExt, fBrk, fCnt, fDrop, fFrz, frz, fNext, fFor, fB, fAnd, fOr, fNot, fAndV, fOrV, fNotV, fIf, fChain, fOp, fUn, fVar, fC, fTup, fLst, fV, fCons, fNil, fCall, fCallL, fLenV, fSl, fPart, fNoPart, fStar, fAug, gS, gT, gN, gC, fSeqI, run_1, run_2, run_3, run_4, ix0, ix1, ix2, ix3, then_nx, then_rt, then_bk, then_ct, turn_nx, turn_ct, turn_bk, turn_rt, res_rt, asB_b, gIx_t, gIx_l, gAdd_i, gSub_i, gLt_i, gLe_i, gGt_i, gGe_i, eq_i, eq_s, ne_i, ne_s, gLen_t, gLen_l, gTup_l, gTup_t, strEq, Option.bind_some, List.getElem?_cons_zero, List.getElem?_cons_succ, List.set_cons_zero, List.set_cons_succ, List.replicate_succ, List.replicate_zero, Nat.reduceSub, Nat.reduceAdd, if_true, if_false, decide_true, decide_false, Bool.not_true, Bool.not_false, Bool.false_eq_true, String.reduceEq, reduceIte, List.length_cons, List.length_nil, Nat.reduceLeDiff, lim, fFrz, frz, nij, Bool.false_and, Bool.and_true]
  · have hd : decide (i ≠ j) = true := decide_eq_true h
    rw [hd] at nij ⊢
    rw [Bool.true_and]
    unfold pre
    cases e : decide (y.take x.length = x) with
    | true =>
      rw [e] at eq
      simp only [fSeq, fIfS, fRet, fAsg, fOwn, fApp, fExt, fBrk, fCnt, fDrop, fFrz, frz, fNext, fFor, fB, fAnd, fOr, fNot, fAndV, fOrV, fNotV, fIf, fChain, fOp, fUn, fVar, fC, fTup, fLst, fV, fCons, fNil, fCall, fCallL, fLenV, fSl, fPart, fNoPart, fStar, fAug, gS, gT, gN, gC, fSeqI, run_1, run_2, run_3, run_4, ix0, ix1, ix2, ix3, then_nx, then_rt, then_bk, then_ct, turn_nx, turn_ct, turn_bk, turn_rt, res_rt, asB_b, gIx_t, gIx_l, gAdd_i, gSub_i, gLt_i, gLe_i, gGt_i, gGe_i, eq_i, eq_s, ne_i, ne_s, gLen_t, gLen_l, gTup_l, gTup_t, strEq, Option.bind_some, List.getElem?_cons_zero, List.getElem?_cons_succ, List.set_cons_zero, List.set_cons_succ, List.replicate_succ, List.replicate_zero, Nat.reduceSub, Nat.reduceAdd, if_true, if_false, decide_true, decide_false, Bool.not_true, Bool.not_false, Bool.false_eq_true, String.reduceEq, reduceIte, List.length_cons, List.length_nil, Nat.reduceLeDiff, lim, fFrz, frz, nij, r1, r2, len_row, sl, eq, Bool.and_false]
    | false =>
      rw [e] at eq
      simp only [fSeq, fIfS, fRet, fAsg, fOwn, fApp, fExt, fBrk, fCnt, fDrop, fFrz, frz, fNext, fFor, fB, fAnd, fOr, fNot, fAndV, fOrV, fNotV, fIf, fChain, fOp, fUn, fVar, fC, fTup, fLst, fV, fCons, fNil, fCall, fCallL, fLenV, fSl, fPart, fNoPart, fStar, fAug, gS, gT, gN, gC, fSeqI, run_1, run_2, run_3, run_4, ix0, ix1, ix2, ix3, then_nx, then_rt, then_bk, then_ct, turn_nx, turn_ct, turn_bk, turn_rt, res_rt, asB_b, gIx_t, gIx_l, gAdd_i, gSub_i, gLt_i, gLe_i, gGt_i, gGe_i, eq_i, eq_s, ne_i, ne_s, gLen_t, gLen_l, gTup_l, gTup_t, strEq, Option.bind_some, List.getElem?_cons_zero, List.getElem?_cons_succ, List.set_cons_zero, List.set_cons_succ, List.replicate_succ, List.replicate_zero, Nat.reduceSub, Nat.reduceAdd, if_true, if_false, decide_true, decide_false, Bool.not_true, Bool.not_false, Bool.false_eq_true, String.reduceEq, reduceIte, List.length_cons, List.length_nil, Nat.reduceLeDiff, lim, fFrz, frz, nij, r1, r2, len_row, sl, eq, Bool.and_true]
theorem c_inner (hr : ∀ r ∈ R, r.length ≤ 60) {j : Nat} (hj : j < R.length) : ∀ (is : List Nat) (b : Bool) (z6 z7 : Sl), (∀ i ∈ is, i < R.length) →
    ∃ z6' z7', fLoop (gS 6) cBody (is.map fun (i : Nat) => .int (i : Int)) [z0, z1, z2, .val (.list (R.map rowD)), .val (.int (j : Int)), .val (.bool b), z6, z7] = some (.nx, [z0, z1, z2, .val (.list (R.map rowD)), .val (.int (j : Int)), .val (.bool (b && is.all fun i => !preS i j R)), z6', z7'])
  | [], b, z6, z7, _ => ⟨z6, z7, by rw [List.all_nil, Bool.and_true]; rfl⟩
  | i :: is, b, z6, z7, h => by
    obtain ⟨z7', e⟩ := c_turn (z0 := z0) (z1 := z1) (z2 := z2) hr (h i List.mem_cons_self) hj (b := b) (z7 := z7)
    obtain ⟨y6, y7, e2⟩ := c_inner hr hj is (b && !preS i j R) (.val (.int (i : Int))) z7' fun k hk => h k (List.mem_cons_of_mem _ hk)
    refine ⟨y6, y7, ?_⟩
    rw [List.map_cons, loop_c]
    show fTurn (cBody [z0, z1, z2, .val (.list (R.map rowD)), .val (.int (j : Int)), .val (.bool b), .val (.int (i : Int)), z7]) _ = _
    rw [e, turn_nx, List.all_cons, ← Bool.and_assoc]
    exact e2
noncomputable def cOut : FS := fFor (fRng1 (fCons (fLenV 3) fNil)) (gS 6) cBody
theorem rng_rows (hR : R.length ≤ 1000) {z4 z5 z6 z7 : Sl} : fRng1 (fCons (fLenV 3) fNil) [z0, z1, z2, .val (.list (R.map rowD)), z4, z5, z6, z7] = some ((List.range R.length).map fun (i : Nat) => .int (i : Int)) := by
  simp only [fRng1, fSeq, fIfS, fRet, fAsg, fOwn, fApp, fExt, fBrk, fCnt, fDrop, fFrz, frz, fNext, fFor, fB, fAnd, fOr, fNot, fAndV, fOrV, fNotV, fIf, fChain, fOp, fUn, fVar, fC, fTup, fLst, fV, fCons, fNil, fCall, fCallL, fLenV, fSl, fPart, fNoPart, fStar, fAug, gS, gT, gN, gC, fSeqI, run_1, run_2, run_3, run_4, ix0, ix1, ix2, ix3, then_nx, then_rt, then_bk, then_ct, turn_nx, turn_ct, turn_bk, turn_rt, res_rt, asB_b, gIx_t, gIx_l, gAdd_i, gSub_i, gLt_i, gLe_i, gGt_i, gGe_i, eq_i, eq_s, ne_i, ne_s, gLen_t, gLen_l, gTup_l, gTup_t, strEq, Option.bind_some, List.getElem?_cons_zero, List.getElem?_cons_succ, List.set_cons_zero, List.set_cons_succ, List.replicate_succ, List.replicate_zero, Nat.reduceSub, Nat.reduceAdd, if_true, if_false, decide_true, decide_false, Bool.not_true, Bool.not_false, Bool.false_eq_true, String.reduceEq, reduceIte, List.length_cons, List.length_nil, Nat.reduceLeDiff, lim, List.length_map]
  rw [if_pos (by omega), Int.toNat_natCast, rng_map0]
theorem c_outer (hR : R.length ≤ 1000) (hr : ∀ r ∈ R, r.length ≤ 60) : ∀ (js : List Nat) (b : Bool) (z4 z6 z7 : Sl), (∀ j ∈ js, j < R.length) →
    ∃ z4' z6' z7', fLoop (gS 4) cOut (js.map fun (j : Nat) => .int (j : Int)) [z0, z1, z2, .val (.list (R.map rowD)), z4, .val (.bool b), z6, z7] = some (.nx, [z0, z1, z2, .val (.list (R.map rowD)), z4', .val (.bool (b && js.all fun j => (List.range R.length).all fun i => !preS i j R)), z6', z7'])
  | [], b, z4, z6, z7, _ => ⟨z4, z6, z7, by rw [List.all_nil, Bool.and_true]; rfl⟩
  | j :: js, b, z4, z6, z7, h => by
    obtain ⟨y6, y7, e⟩ := c_inner (z0 := z0) (z1 := z1) (z2 := z2) hr (h j List.mem_cons_self) (List.range R.length) b z6 z7 fun i hi => List.mem_range.mp hi
    obtain ⟨x4, x6, x7, e2⟩ := c_outer hR hr js (b && (List.range R.length).all fun i => !preS i j R) (.val (.int (j : Int))) y6 y7 fun k hk => h k (List.mem_cons_of_mem _ hk)
    refine ⟨x4, x6, x7, ?_⟩
    rw [List.map_cons, loop_c]
    show fTurn (cOut [z0, z1, z2, .val (.list (R.map rowD)), .val (.int (j : Int)), .val (.bool b), z6, z7]) _ = _
    have e0 : cOut [z0, z1, z2, .val (.list (R.map rowD)), .val (.int (j : Int)), .val (.bool b), z6, z7] = fLoop (gS 6) cBody ((List.range R.length).map fun (i : Nat) => .int (i : Int)) [z0, z1, z2, .val (.list (R.map rowD)), .val (.int (j : Int)), .val (.bool b), z6, z7] := by
      unfold cOut
      rw [for_ds (rng_rows hR)]
    rw [e0, e, turn_nx, List.all_cons, ← Bool.and_assoc]
    exact e2
theorem ne_same {ds : List PyData} (h : SeqAt.shaped (.list ds) = true) : gNe (.list ds) (.list ds) = some (.bool false) := by
  show (if SeqAt.shaped (.list ds) && SeqAt.shaped (.list ds) then some (PyData.eqv (.list ds) (.list ds)) else none).bind _ = _
  rw [h, SeqAt.eqv_refl _ (SeqAt.canLay_of_shaped h)]
  rfl
theorem rows_shaped (hr : ∀ r ∈ R, r.length ≤ 60) : SeqAt.shaped (.list (R.map rowD)) = true := shaped_list (m := 1) (by decide) fun d hd => by
  obtain ⟨r, h, rfl⟩ := List.mem_map.mp hd
  refine .tup (by rw [List.length_map]; exact hr r h) fun e he => ?_
  obtain ⟨i, _, rfl⟩ := List.mem_map.mp he
  exact .int i
noncomputable def wRest : WS := (wSeq (wSt (fFrz 3 (fIfS (fB (fOp gNe (fCall0 D_srt (fCons (fV (fCallL gList (fCons (fVar 3) fNil))) fNil)) (fCall0 D_ord (fCons (fVar 3) fNil)))) (fRet (fC (.bool false))) fNext)))
      (wSeq (wSt (fAsg (fC (.bool true)) (gS 5)))
      (wSeq (wSt (fFor (fRng1 (fCons (fLenV 3) fNil)) (gS 4) cOut))
      (wSt (fFrz 3 (fIfS (fB (fOp gNe (fCall0 D_pf (fCons (fV (fCallL gList (fCons (fVar 3) fNil))) fNil)) (fVar 5))) (fRet (fC (.bool false))) fNext))))))
theorem rest_ok (hR : R.length ≤ 1000) (hr : ∀ r ∈ R, r.length ≤ 60) {m : Nat} {z4 z5 z6 z7 : Sl} {Q : Fl → Nat → List Sl → Prop} (q : ∀ z3 z4 z5 z6 z7, Q .nx m [z0, z1, z2, z3, z4, z5, z6, z7]) : wRest m [z0, z1, z2, .own (.l (R.map rowD)), z4, z5, z6, z7] Q := by
  have n1 := noA_rows R
  have h1 := m_srt R
  have h2 := m_ord hR
  have h3 := m_pf hR hr
  have ne := ne_same (rows_shaped (R := ordR R) fun r h => hr r ((List.mergeSort_perm _ _).mem_iff.mp h))
  have gl : gList [.list (R.map rowD)] = some (R.map rowD) := rfl
  have hb : ∀ b : Bool, gNe (.bool b) (.bool b) = some (.bool false) := fun b => by cases b <;> rfl
  obtain ⟨x4, x6, x7, e⟩ := c_outer (z0 := z0) (z1 := z1) (z2 := z2) hR hr (List.range R.length) true z4 z6 z7 fun i hi => List.mem_range.mp hi
  rw [Bool.true_and] at e
  refine wst_nx (ρ' := [z0, z1, z2, .val (.list (R.map rowD)), z4, z5, z6, z7]) (by simp only [fSeq, fIfS, fRet, fAsg, fOwn, fApp, fExt, fBrk, fCnt, fDrop, fFrz, frz, fNext, fFor, fB, fAnd, fOr, fNot, fAndV, fOrV, fNotV, fIf, fChain, fOp, fUn, fVar, fC, fTup, fLst, fV, fCons, fNil, fCall, fCallL, fLenV, fSl, fPart, fNoPart, fStar, fAug, gS, gT, gN, gC, fSeqI, run_1, run_2, run_3, run_4, ix0, ix1, ix2, ix3, then_nx, then_rt, then_bk, then_ct, turn_nx, turn_ct, turn_bk, turn_rt, res_rt, asB_b, gIx_t, gIx_l, gAdd_i, gSub_i, gLt_i, gLe_i, gGt_i, gGe_i, eq_i, eq_s, ne_i, ne_s, gLen_t, gLen_l, gTup_l, gTup_t, strEq, Option.bind_some, List.getElem?_cons_zero, List.getElem?_cons_succ, List.set_cons_zero, List.set_cons_succ, List.replicate_succ, List.replicate_zero, Nat.reduceSub, Nat.reduceAdd, if_true, if_false, decide_true, decide_false, Bool.not_true, Bool.not_false, Bool.false_eq_true, String.reduceEq, reduceIte, List.length_cons, List.length_nil, Nat.reduceLeDiff, lim, fFrz, frz, fCall0, fCallL, gl, n1, h1, h2, ne]) (wst_nx (ρ' := [z0, z1, z2, .val (.list (R.map rowD)), z4, .val (.bool true), z6, z7]) (by simp only [fSeq, fIfS, fRet, fAsg, fOwn, fApp, fExt, fBrk, fCnt, fDrop, fFrz, frz, fNext, fFor, fB, fAnd, fOr, fNot, fAndV, fOrV, fNotV, fIf, fChain, fOp, fUn, fVar, fC, fTup, fLst, fV, fCons, fNil, fCall, fCallL, fLenV, fSl, fPart, fNoPart, fStar, fAug, gS, gT, gN, gC, fSeqI, run_1, run_2, run_3, run_4, ix0, ix1, ix2, ix3, then_nx, then_rt, then_bk, then_ct, turn_nx, turn_ct, turn_bk, turn_rt, res_rt, asB_b, gIx_t, gIx_l, gAdd_i, gSub_i, gLt_i, gLe_i, gGt_i, gGe_i, eq_i, eq_s, ne_i, ne_s, gLen_t, gLen_l, gTup_l, gTup_t, strEq, Option.bind_some, List.getElem?_cons_zero, List.getElem?_cons_succ, List.set_cons_zero, List.set_cons_succ, List.replicate_succ, List.replicate_zero, Nat.reduceSub, Nat.reduceAdd, if_true, if_false, decide_true, decide_false, Bool.not_true, Bool.not_false, Bool.false_eq_true, String.reduceEq, reduceIte, List.length_cons, List.length_nil, Nat.reduceLeDiff, lim]) (wst_nx (by rw [for_ds (rng_rows hR)]; exact e) (wst_end (ρ' := [z0, z1, z2, .val (.list (R.map rowD)), x4, .val (.bool (due R)), x6, x7]) ?_ (q _ _ _ _ _))))
  show (fFrz 3 _ [z0, z1, z2, .val (.list (R.map rowD)), x4, .val (.bool (due R)), x6, x7]) = _
  simp only [fSeq, fIfS, fRet, fAsg, fOwn, fApp, fExt, fBrk, fCnt, fDrop, fFrz, frz, fNext, fFor, fB, fAnd, fOr, fNot, fAndV, fOrV, fNotV, fIf, fChain, fOp, fUn, fVar, fC, fTup, fLst, fV, fCons, fNil, fCall, fCallL, fLenV, fSl, fPart, fNoPart, fStar, fAug, gS, gT, gN, gC, fSeqI, run_1, run_2, run_3, run_4, ix0, ix1, ix2, ix3, then_nx, then_rt, then_bk, then_ct, turn_nx, turn_ct, turn_bk, turn_rt, res_rt, asB_b, gIx_t, gIx_l, gAdd_i, gSub_i, gLt_i, gLe_i, gGt_i, gGe_i, eq_i, eq_s, ne_i, ne_s, gLen_t, gLen_l, gTup_l, gTup_t, strEq, Option.bind_some, List.getElem?_cons_zero, List.getElem?_cons_succ, List.set_cons_zero, List.set_cons_succ, List.replicate_succ, List.replicate_zero, Nat.reduceSub, Nat.reduceAdd, if_true, if_false, decide_true, decide_false, Bool.not_true, Bool.not_false, Bool.false_eq_true, String.reduceEq, reduceIte, List.length_cons, List.length_nil, Nat.reduceLeDiff, lim, fFrz, frz, fCall0, fCallL, gl, n1, h3, hb]
end
theorem hw21 : w_law_h D_srt D_ord D_less D_pf (rhoE 8) fun ds => ∀ d ∈ ds, ∃ ρ1, (gS 1) d (rhoE 8) = some ρ1 ∧ w_law D_srt D_ord D_less D_pf 0 ρ1 (QL 8) := by
  refine ⟨.int 15, rfl, .int 1, rfl, rfl, fun n hn => ⟨.int 2, rfl, _, rfl, _, rfl, _, rfl, _, rfl, ?_, ?_, fun d hd => ?_⟩⟩
  · split <;> split <;> omega
  · split <;> split <;> omega
  generalize Int.toNat _ = m at hd
  rw [rng_map0] at hd
  obtain ⟨i, _, rfl⟩ := List.mem_map.mp hd
  refine ⟨_, rfl, ?_⟩
  unfold w_law
  refine ⟨rfl, _, rfl, _, rfl, 2 * i, rfl, ?_⟩
  refine wst_nx (ρ' := [.val (.dict []), .val (.int (i : Int)), .val (.dict (tagB 0)), .own (.l (([] : List (List Int)).map rowD)), .un, .un, .un, .un]) rfl ?_
  refine ⟨_, rfl, _, rfl, 0, 6, rfl, by decide, fun r h0 h1 => ⟨r, rfl, by omega, by omega, ?_⟩⟩
  rw [rng_map0]
  refine rows_loop (List.range r.toNat) [] .un .un (by rw [List.length_range]; simp; omega) (fun r h => nomatch h) fun R z4 z6 hR hr => ?_
  rw [List.length_range] at hR
  simp only [List.length_nil, Nat.zero_add] at hR
  have fin : ∀ (R : List (List Int)), R.length ≤ 10 → (∀ r ∈ R, r.length ≤ 10) → wRest 1 [.val (.dict []), .val (.int (i : Int)), .val (.dict (tagB 0)), .own (.l (R.map rowD)), z4, .un, z6, .un] (QL 8) := fun R h1 h2 => rest_ok (by omega) (fun r h => by have := h2 r h; omega) fun z3 z4 z5 z6 z7 => ⟨trivial, rfl, rfl⟩
  have hlt : (fB (fOp gGt (fLenV 3) (fC (.int 1)))) [.val (.dict []), .val (.int (i : Int)), .val (.dict (tagB 0)), .own (.l (R.map rowD)), z4, .un, z6, .un] = some (decide ((1 : Int) < (R.length : Int))) := by
    simp only [fSeq, fIfS, fRet, fAsg, fOwn, fApp, fExt, fBrk, fCnt, fDrop, fFrz, frz, fNext, fFor, fB, fAnd, fOr, fNot, fAndV, fOrV, fNotV, fIf, fChain, fOp, fUn, fVar, fC, fTup, fLst, fV, fCons, fNil, fCall, fCallL, fLenV, fSl, fPart, fNoPart, fStar, fAug, gS, gT, gN, gC, fSeqI, run_1, run_2, run_3, run_4, ix0, ix1, ix2, ix3, then_nx, then_rt, then_bk, then_ct, turn_nx, turn_ct, turn_bk, turn_rt, res_rt, asB_b, gIx_t, gIx_l, gAdd_i, gSub_i, gLt_i, gLe_i, gGt_i, gGe_i, eq_i, eq_s, ne_i, ne_s, gLen_t, gLen_l, gTup_l, gTup_t, strEq, Option.bind_some, List.getElem?_cons_zero, List.getElem?_cons_succ, List.set_cons_zero, List.set_cons_succ, List.replicate_succ, List.replicate_zero, Nat.reduceSub, Nat.reduceAdd, if_true, if_false, decide_true, decide_false, Bool.not_true, Bool.not_false, Bool.false_eq_true, String.reduceEq, reduceIte, List.length_cons, List.length_nil, Nat.reduceLeDiff, lim, List.length_map]
  refine ⟨_, hlt, ?_⟩
  by_cases hg : (1 : Int) < (R.length : Int)
  · rw [decide_eq_true hg]
    refine ⟨_, rfl, _, rfl, 0, 2, rfl, by decide, fun r0 g0 g1 => ⟨_, rfl, _, rfl, ?_⟩⟩
    refine ⟨decide (r0 = 0), rfl, ?_⟩
    generalize decide (r0 = 0) = bb
    cases bb with
    | true =>
      have r1 := row_at (R := R) (i := 0) (by omega)
      have ft : (fTmp 3 (fOp gIx (fVar 3) (fC (.int 0)))) [.val (.dict []), .val (.int (i : Int)), .val (.dict (tagB 0)), .own (.l (R.map rowD)), z4, .un, z6, .un] = some (rowD (R.getD 0 [])) := by
        have nl : noL (rowD (R.getD 0 [])) = true := by
          unfold rowD
          rw [noL]
          generalize R.getD 0 [] = l
          induction l with
          | nil => rfl
          | cons a l ih => rw [List.map_cons, noLs, ih]; rfl
        show ((fOp gIx (fVar 3) (fC (.int 0))) [.val (.dict []), .val (.int (i : Int)), .val (.dict (tagB 0)), .val (.list (R.map rowD)), z4, .un, z6, .un]).bind _ = _
        have : (fOp gIx (fVar 3) (fC (.int 0))) [.val (.dict []), .val (.int (i : Int)), .val (.dict (tagB 0)), .val (.list (R.map rowD)), z4, .un, z6, .un] = some (rowD (R.getD 0 [])) := r1
        rw [this, Option.bind_some, nl]
        rfl
      refine ⟨R.map rowD, rfl, by rw [List.length_map]; omega, _, ft, _, rfl, _, rfl, 0, 6, rfl, by decide, fun r5 k0 k1 => ⟨_, rfl, ?_⟩⟩
      obtain ⟨k5, rfl⟩ := Int.eq_ofNat_of_zero_le k0
      refine ⟨_, sl_rowT (R.getD 0 []) k5, ?_⟩
      have e : R.map rowD ++ [rowD ((R.getD 0 []).take k5)] = (R ++ [(R.getD 0 []).take k5]).map rowD := by rw [List.map_append]; rfl
      show wRest 1 [.val (.dict []), .val (.int (i : Int)), .val (.dict (tagB 0)), .own (.l (R.map rowD ++ [rowD ((R.getD 0 []).take k5)])), z4, .un, z6, .un] (QL 8)
      rw [e]
      refine fin _ (by rw [List.length_append, List.length_singleton]; omega) fun r' h' => ?_
      rcases List.mem_append.mp h' with h' | h'
      · exact hr r' h'
      · cases List.mem_singleton.mp h'
        rw [List.length_take]
        have : (R.getD 0 []).length ≤ 10 := by
          rw [List.getD_eq_getElem?_getD, List.getElem?_eq_getElem (by omega)]
          exact hr _ (List.getElem_mem (by omega))
        omega
    | false => exact ⟨_, rfl, fin R (by omega) hr⟩
  · rw [decide_eq_false hg]
    exact ⟨_, rfl, fin R (by omega) hr⟩
theorem ht21 : w_law_t D_srt D_ord D_less D_pf 0 (rhoE 8) QT := ⟨(.rt (.bool true), rhoE 8), rfl, trivial⟩
end K21
namespace K21
open PySem PySem.Spec PyProof.Rows L2 Evl Cr CrT Sm
theorem all_mk {l : PySem.W.OpenLaw} {w : World} {K : PySem.W.Frag} {h : Heap} {mg : Str → Option Value} {fa : Addr} (X : K.In h) (G : h.Ns mainGlobals mg) (hfa : mg "law" = some (.ref fa))
    {f1 : Addr} {od1 an1 : Option Addr} {sl1 : Array (Option Value)} {oc1 kV1 dc1 pm1 cd1 ct1 : Value}
    {f2 : Addr} {od2 an2 : Option Addr} {sl2 : Array (Option Value)} {oc2 kV2 dc2 pm2 cd2 ct2 : Value}
    {f3 : Addr} {od3 an3 : Option Addr} {sl3 : Array (Option Value)} {oc3 kV3 dc3 pm3 cd3 ct3 : Value}
    {f4 : Addr} {od4 an4 : Option Addr} {sl4 : Array (Option Value)} {oc4 kV4 dc4 pm4 cd4 ct4 : Value}
    {f5 : Addr} {od5 an5 : Option Addr} {sl5 : Array (Option Value)} {oc5 kV5 dc5 pm5 cd5 ct5 : Value}
    {f6 : Addr} {od6 an6 : Option Addr} {sl6 : Array (Option Value)} {oc6 kV6 dc6 pm6 cd6 ct6 : Value}
    {f7 : Addr} {od7 an7 : Option Addr} {sl7 : Array (Option Value)} {oc7 kV7 dc7 pm7 cd7 ct7 : Value}
    {f8 : Addr} {od8 an8 : Option Addr} {sl8 : Array (Option Value)} {oc8 kV8 dc8 pm8 cd8 ct8 : Value}
    {f9 : Addr} {od9 an9 : Option Addr} {sl9 : Array (Option Value)} {oc9 kV9 dc9 pm9 cd9 ct9 : Value}
    {f10 : Addr} {od10 an10 : Option Addr} {sl10 : Array (Option Value)} {oc10 kV10 dc10 pm10 cd10 ct10 : Value}
    (a1 : PySem.W.nsIn K mainGlobals "rank" = some (some (.ref f1))) (l1 : K.lookup f1 = some ⟨oc1, od1, .func (PySem.W.fnOf "rank" "rank" (defArgs s_rank) (defBody s_rank) (defScope s_rank) .none kV1 dc1 pm1 an1 cd1 ct1), sl1⟩) (c1 : PySem.W.codeIn K cd1 "rank" = true) (k1 : PySem.W.keepIn K (.ref f1) = true)
    (a2 : PySem.W.nsIn K mainGlobals "is_less" = some (some (.ref f2))) (l2 : K.lookup f2 = some ⟨oc2, od2, .func (PySem.W.fnOf "is_less" "is_less" (defArgs s_is_less) (defBody s_is_less) (defScope s_is_less) .none kV2 dc2 pm2 an2 cd2 ct2), sl2⟩) (c2 : PySem.W.codeIn K cd2 "is_less" = true) (k2 : PySem.W.keepIn K (.ref f2) = true)
    (a3 : PySem.W.nsIn K mainGlobals "sorted_rows" = some (some (.ref f3))) (l3 : K.lookup f3 = some ⟨oc3, od3, .func (PySem.W.fnOf "sorted_rows" "sorted_rows" (defArgs s_sorted_rows) (defBody s_sorted_rows) (defScope s_sorted_rows) .none kV3 dc3 pm3 an3 cd3 ct3), sl3⟩) (c3 : PySem.W.codeIn K cd3 "sorted_rows" = true) (k3 : PySem.W.keepIn K (.ref f3) = true)
    (a4 : PySem.W.nsIn K mainGlobals "is_prefix_free" = some (some (.ref f4))) (l4 : K.lookup f4 = some ⟨oc4, od4, .func (PySem.W.fnOf "is_prefix_free" "is_prefix_free" (defArgs s_is_prefix_free) (defBody s_is_prefix_free) (defScope s_is_prefix_free) .none kV4 dc4 pm4 an4 cd4 ct4), sl4⟩) (c4 : PySem.W.codeIn K cd4 "is_prefix_free" = true) (k4 : PySem.W.keepIn K (.ref f4) = true)
    (a5 : PySem.W.nsIn K mainGlobals "_law_cell" = some (some (.ref f5))) (l5 : K.lookup f5 = some ⟨oc5, od5, .func (PySem.W.fnOf "_law_cell" "_law_cell" (defArgs s__law_cell) (defBody s__law_cell) (defScope s__law_cell) .none kV5 dc5 pm5 an5 cd5 ct5), sl5⟩) (c5 : PySem.W.codeIn K cd5 "_law_cell" = true) (k5 : PySem.W.keepIn K (.ref f5) = true)
    (a6 : PySem.W.nsIn K mainGlobals "_law_draw" = some (some (.ref f6))) (l6 : K.lookup f6 = some ⟨oc6, od6, .func (PySem.W.fnOf "_law_draw" "_law_draw" (defArgs s__law_draw) (defBody s__law_draw) (defScope s__law_draw) .none kV6 dc6 pm6 an6 cd6 ct6), sl6⟩) (c6 : PySem.W.codeIn K cd6 "_law_draw" = true) (k6 : PySem.W.keepIn K (.ref f6) = true)
    (a7 : PySem.W.nsIn K mainGlobals "_law_box" = some (some (.ref f7))) (l7 : K.lookup f7 = some ⟨oc7, od7, .func (PySem.W.fnOf "_law_box" "_law_box" (defArgs s__law_box) (defBody s__law_box) (defScope s__law_box) .none kV7 dc7 pm7 an7 cd7 ct7), sl7⟩) (c7 : PySem.W.codeIn K cd7 "_law_box" = true) (k7 : PySem.W.keepIn K (.ref f7) = true)
    (a8 : PySem.W.nsIn K mainGlobals "_law_take" = some (some (.ref f8))) (l8 : K.lookup f8 = some ⟨oc8, od8, .func (PySem.W.fnOf "_law_take" "_law_take" (defArgs s__law_take) (defBody s__law_take) (defScope s__law_take) .none kV8 dc8 pm8 an8 cd8 ct8), sl8⟩) (c8 : PySem.W.codeIn K cd8 "_law_take" = true) (k8 : PySem.W.keepIn K (.ref f8) = true)
    (a9 : PySem.W.nsIn K mainGlobals "_law_order" = some (some (.ref f9))) (l9 : K.lookup f9 = some ⟨oc9, od9, .func (PySem.W.fnOf "_law_order" "_law_order" (defArgs s__law_order) (defBody s__law_order) (defScope s__law_order) .none kV9 dc9 pm9 an9 cd9 ct9), sl9⟩) (c9 : PySem.W.codeIn K cd9 "_law_order" = true) (k9 : PySem.W.keepIn K (.ref f9) = true)
    (a10 : PySem.W.nsIn K mainGlobals "law" = some (some (.ref f10))) (l10 : K.lookup f10 = some ⟨oc10, od10, .func (PySem.W.fnOf "law" "law" (defArgs s_law) (defBody s_law) (defScope s_law) .none kV10 dc10 pm10 an10 cd10 ct10), sl10⟩) (c10 : PySem.W.codeIn K cd10 "law" = true) (k10 : PySem.W.keepIn K (.ref f10) = true)
    (z_len : PySem.W.nsIn K mainGlobals "len" = some none)
    (z_all : PySem.W.nsIn K mainGlobals "all" = some none)
    (z_any : PySem.W.nsIn K mainGlobals "any" = some none)
    (z_isinstance : PySem.W.nsIn K mainGlobals "isinstance" = some none)
    (z_tuple : PySem.W.nsIn K mainGlobals "tuple" = some none)
    (z_list : PySem.W.nsIn K mainGlobals "list" = some none)
    (z_int : PySem.W.nsIn K mainGlobals "int" = some none)
    (z_str : PySem.W.nsIn K mainGlobals "str" = some none)
    (z_bool : PySem.W.nsIn K mainGlobals "bool" = some none)
    (z_range : PySem.W.nsIn K mainGlobals "range" = some none)
    (z_zip : PySem.W.nsIn K mainGlobals "zip" = some none)
    (z_enumerate : PySem.W.nsIn K mainGlobals "enumerate" = some none)
    (z_sum : PySem.W.nsIn K mainGlobals "sum" = some none)
    (z_sorted : PySem.W.nsIn K mainGlobals "sorted" = some none)
    (z_min : PySem.W.nsIn K mainGlobals "min" = some none)
    (z_max : PySem.W.nsIn K mainGlobals "max" = some none) :
    ∃ fd : FuncData, (∀ (s : Shared) (v : Value), BindsTo s fd ⟨[v], []⟩ [("script", v)]) ∧ ∀ base : Heap, K.In base → base.Ns mainGlobals mg → FnOk l.prog w K mg base CX0 6 fa fd ["script"] (spLaw K) := by
  have F_rank := fun_mk (st := s_rank) l1 c1 k1
  have b_rank := F_rank.binds (ps := ["row"]) fun _ _ _ _ _ _ us hl => match us, hl with | [_], _ => rfl
  have m_rank := PySem.W.mg_of X G a1
  have F_is_less := fun_mk (st := s_is_less) l2 c2 k2
  have b_is_less := F_is_less.binds (ps := ["row", "other"]) fun _ _ _ _ _ _ us hl => match us, hl with | [_, _], _ => rfl
  have m_is_less := PySem.W.mg_of X G a2
  have F_sorted_rows := fun_mk (st := s_sorted_rows) l3 c3 k3
  have b_sorted_rows := F_sorted_rows.binds (ps := ["rows"]) fun _ _ _ _ _ _ us hl => match us, hl with | [_], _ => rfl
  have m_sorted_rows := PySem.W.mg_of X G a3
  have F_is_prefix_free := fun_mk (st := s_is_prefix_free) l4 c4 k4
  have b_is_prefix_free := F_is_prefix_free.binds (ps := ["rows"]) fun _ _ _ _ _ _ us hl => match us, hl with | [_], _ => rfl
  have m_is_prefix_free := PySem.W.mg_of X G a4
  have F__law_cell := fun_mk (st := s__law_cell) l5 c5 k5
  have b__law_cell := F__law_cell.binds (ps := ["script", "k"]) fun _ _ _ _ _ _ us hl => match us, hl with | [_, _], _ => rfl
  have m__law_cell := PySem.W.mg_of X G a5
  have F__law_draw := fun_mk (st := s__law_draw) l6 c6 k6
  have b__law_draw := F__law_draw.binds (ps := ["script", "k", "sizes"]) fun _ _ _ _ _ _ us hl => match us, hl with | [_, _, _], _ => rfl
  have m__law_draw := PySem.W.mg_of X G a6
  have F__law_box := fun_mk (st := s__law_box) l7 c7 k7
  have b__law_box := F__law_box.binds (ps := ["script", "k"]) fun _ _ _ _ _ _ us hl => match us, hl with | [_, _], _ => rfl
  have m__law_box := PySem.W.mg_of X G a7
  have F__law_take := fun_mk (st := s__law_take) l8 c8 k8
  have b__law_take := F__law_take.binds (ps := ["box", "many"]) fun _ _ _ _ _ _ us hl => match us, hl with | [_, _], _ => rfl
  have m__law_take := PySem.W.mg_of X G a8
  have F__law_order := fun_mk (st := s__law_order) l9 c9 k9
  have b__law_order := F__law_order.binds (ps := ["rows"]) fun _ _ _ _ _ _ us hl => match us, hl with | [_], _ => rfl
  have m__law_order := PySem.W.mg_of X G a9
  have F_law := fun_mk (st := s_law) l10 c10 k10
  have b_law := F_law.binds (ps := ["script"]) fun _ _ _ _ _ _ us hl => match us, hl with | [_], _ => rfl
  have m_law := PySem.W.mg_of X G a10
  cases hfa.symm.trans m_law
  have T : Tx mg := { z_len := PySem.W.mg_none_of X G z_len, z_all := PySem.W.mg_none_of X G z_all, z_any := PySem.W.mg_none_of X G z_any, z_isinstance := PySem.W.mg_none_of X G z_isinstance, z_tuple := PySem.W.mg_none_of X G z_tuple, z_list := PySem.W.mg_none_of X G z_list, z_int := PySem.W.mg_none_of X G z_int, z_str := PySem.W.mg_none_of X G z_str, z_bool := PySem.W.mg_none_of X G z_bool, z_range := PySem.W.mg_none_of X G z_range, z_zip := PySem.W.mg_none_of X G z_zip, z_enumerate := PySem.W.mg_none_of X G z_enumerate, z_sum := PySem.W.mg_none_of X G z_sum, z_sorted := PySem.W.mg_none_of X G z_sorted, z_min := PySem.W.mg_none_of X G z_min, z_max := PySem.W.mg_none_of X G z_max }
  refine ⟨PySem.W.fnOf "law" "law" (defArgs s_law) (defBody s_law) (defScope s_law) .none kV10 dc10 pm10 an10 cd10 ct10, fun s v => .of_eq rfl, fun base _ _ => ?_⟩
  have c_take : Cr.Cl l.prog w K mg base "_law_take" ["box", "many"] 1 spTake := ⟨_, _, ok__law_take T F__law_take, b__law_take, F__law_take.kp, m__law_take⟩
  have c_box : Cr.Cl l.prog w K mg base "_law_box" ["script", "k"] 3 (spBox K) := ⟨_, _, ok__law_box T F__law_box ⟨_, _, ok__law_draw T F__law_draw ⟨_, _, ok__law_cell T F__law_cell, b__law_cell, F__law_cell.kp, m__law_cell⟩, b__law_draw, F__law_draw.kp, m__law_draw⟩, b__law_box, F__law_box.kp, m__law_box⟩
  have c_rank : Cr.Cl l.prog w K mg base "rank" ["row"] 1 (spF K A0 D_rk) := ⟨_, _, ok_rank T F_rank, b_rank, F_rank.kp, m_rank⟩
  have c_less : Cr.Cl l.prog w K mg base "is_less" ["row", "other"] 2 (spF K A0 D_less) := ⟨_, _, ok_is_less T F_is_less c_rank, b_is_less, F_is_less.kp, m_is_less⟩
  have c_srt : Cr.Cl l.prog w K mg base "sorted_rows" ["rows"] 4 (spF K A0 D_srt) := ⟨_, _, ok_sorted_rows T F_sorted_rows c_rank, b_sorted_rows, F_sorted_rows.kp, m_sorted_rows⟩
  have c_pf : Cr.Cl l.prog w K mg base "is_prefix_free" ["rows"] 1 (spF K A0 D_pf) := ⟨_, _, ok_is_prefix_free T F_is_prefix_free, b_is_prefix_free, F_is_prefix_free.kp, m_is_prefix_free⟩
  have c_ord : Cr.Cl l.prog w K mg base "_law_order" ["rows"] 1 (spF K A0 D_ord) := ⟨_, _, ok__law_order T F__law_order, b__law_order, F__law_order.kp, m__law_order⟩
  exact ok_law (L := 5) T F_law (clMono c_box (by decide)) (clMono c_take (by decide)) (clMono c_srt (by decide)) (clMono c_ord (by decide)) (clMono c_less (by decide)) (clMono c_pf (by decide)) hw21 ht21
end K21
open PySem PySem.W PyProof.Rows
set_option maxHeartbeats 0 in
theorem PySem.Challenge.cw_choicerows_k21_orders_of_rows_holds : PySem.Challenge.rw_choicerows_k21_orders_of_rows.Holds := by
  w_on; o_law; k_head; (case hw => w_witness2)
  k_fill
  refine L2.walk_of (l := PySem.Challenge.rw_choicerows_k21_orders_of_rows) (n := 63) (k := 6) (x := "script") (CX := fun _ => L2.CX0) (sp := fun w => Cr.spLaw _) rfl (by decide) rfl ⟨rfl, by decide, by decide⟩ (fun w h Y => PySem.W.kIn_of Y) ?F (fun _ _ a ns hl _ hS => ⟨a, ns, rfl, hS, hl, fun _ => rfl⟩) (fun _ _ _ _ _ h => h)
  case F =>
    intro w mg fa h KX G hmg
    refine' K21.all_mk KX G hmg ?a1 ?l1 ?c1 ?k1 ?a2 ?l2 ?c2 ?k2 ?a3 ?l3 ?c3 ?k3 ?a4 ?l4 ?c4 ?k4 ?a5 ?l5 ?c5 ?k5 ?a6 ?l6 ?c6 ?k6 ?a7 ?l7 ?c7 ?k7 ?a8 ?l8 ?c8 ?k8 ?a9 ?l9 ?c9 ?k9 ?a10 ?l10 ?c10 ?k10 ?z_len ?z_all ?z_any ?z_isinstance ?z_tuple ?z_list ?z_int ?z_str ?z_bool ?z_range ?z_zip ?z_enumerate ?z_sum ?z_sorted ?z_min ?z_max 
    (case a1 => k_is)
    (case l1 => k_is)
    (case c1 => k_is)
    (case k1 => k_is)
    (case a2 => k_is)
    (case l2 => k_is)
    (case c2 => k_is)
    (case k2 => k_is)
    (case a3 => k_is)
    (case l3 => k_is)
    (case c3 => k_is)
    (case k3 => k_is)
    (case a4 => k_is)
    (case l4 => k_is)
    (case c4 => k_is)
    (case k4 => k_is)
    (case a5 => k_is)
    (case l5 => k_is)
    (case c5 => k_is)
    (case k5 => k_is)
    (case a6 => k_is)
    (case l6 => k_is)
    (case c6 => k_is)
    (case k6 => k_is)
    (case a7 => k_is)
    (case l7 => k_is)
    (case c7 => k_is)
    (case k7 => k_is)
    (case a8 => k_is)
    (case l8 => k_is)
    (case c8 => k_is)
    (case k8 => k_is)
    (case a9 => k_is)
    (case l9 => k_is)
    (case c9 => k_is)
    (case k9 => k_is)
    (case a10 => k_is)
    (case l10 => k_is)
    (case c10 => k_is)
    (case k10 => k_is)
    (case z_len => k_is)
    (case z_all => k_is)
    (case z_any => k_is)
    (case z_isinstance => k_is)
    (case z_tuple => k_is)
    (case z_list => k_is)
    (case z_int => k_is)
    (case z_str => k_is)
    (case z_bool => k_is)
    (case z_range => k_is)
    (case z_zip => k_is)
    (case z_enumerate => k_is)
    (case z_sum => k_is)
    (case z_sorted => k_is)
    (case z_min => k_is)
    (case z_max => k_is)
