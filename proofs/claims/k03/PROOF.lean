import PyProof.Rows.All
import Wide.All
import OpenK.AllK
import Wide.FinOn
import HandS.ForMost
import HandS.IsInst
import HandS.Zip
import HandS.Walk
import HandS.Evl
import HandS.TupAny
import KE.GoesMore
import KE.DataMinMax
import PyProof.P3In
import KE.DataCmp
import KE.KSortedM
import PySem.Challenge.RW_choicerows_k03_conditions_that_hold
set_option Elab.async false
set_option linter.all false
set_option maxRecDepth 100000
set_option maxHeartbeats 4000000
set_option autoImplicit false
namespace Cr
open PySem PySem.Spec PyProof.Rows L2 Evl

/-! ### data in the heap: ints, texts, tuples -/
/-- tuples that can be read stay so -/
def Kt (K : PySem.W.Frag) (H H' : Hp) : Prop := ∀ a xs, SqT K H a xs → SqT K H' a xs
section
variable {K : PySem.W.Frag} {H H1 H2 H' : Hp}
theorem Kt.refl : Kt K H H := fun _ _ h => h
theorem Kt.trans (a : Kt K H H1) (b : Kt K H1 H2) : Kt K H H2 := fun p xs h => b p xs (a p xs h)
theorem Kt.same (e : Same H H') : Kt K H H' := fun _ _ h => ex_t e h
theorem same_new {p : Addr} {o : HO} (h : H p = none) : Same H (upd H p o) := Ex.new h
theorem same_mut {p : Addr} {o : HO} (e : Same H H') (h : H p = none) : Same H (upd H' p o) := Ex.mut e h
theorem Kt.new {p : Addr} {o : HO} (h : H p = none) : Kt K H (upd H p o) := Kt.same (same_new h)
/-- a list is changed -/
theorem Kt.lst {l : Addr} {xs : List V} {o : HO} (h : H l = some (.lst xs)) : Kt K H (upd H l o) := fun a ys q => by
  rcases q with (q | ⟨ob, q⟩) | q
  · exact .inl (.inl (by rw [upd_ne (ne_of q h (fun z => nomatch z))]; exact q))
  · exact .inl (.inr ⟨ob, by rw [upd_ne (ne_of q h (fun z => nomatch z))]; exact q⟩)
  · exact .inr q
end

inductive Vd (K : PySem.W.Frag) (H : Hp) : V → PyData → Prop
  | int (i : Int) : Vd K H (.int i) (.int i)
  | str (x : Str) : Vd K H (.str x) (.str x)
  | tup {a : Addr} {xs : List V} {ds : List PyData} : SqT K H a xs → xs.length = ds.length → (∀ (i : Nat) v d, xs[i]? = some v → ds[i]? = some d → Vd K H v d) → Vd K H (.ref a) (.tuple ds)
section
variable {K : PySem.W.Frag} {H H' : Hp}
theorem Vd.keep (k : Kt K H H') {v : V} {d : PyData} (h : Vd K H v d) : Vd K H' v d := by
  induction h with
  | int i => exact .int i
  | str x => exact .str x
  | tup hs hl _ ih => exact .tup (k _ _ hs) hl ih
theorem dpAll_of : ∀ {xs : List V} {ds : List PyData}, xs.length = ds.length → (∀ (i : Nat) v d, xs[i]? = some v → ds[i]? = some d → Dp K H v d) → DpAll K H xs ds
  | [], [], _, _ => .nil
  | [], _ :: _, h, _ => by simp at h
  | _ :: _, [], h, _ => by simp at h
  | x :: xs, d :: ds, h, q => .cons (q 0 x d rfl rfl) (dpAll_of (by simpa using h) fun i v e h1 h2 => q (i + 1) v e (by simpa using h1) (by simpa using h2))
theorem Vd.dp {v : V} {d : PyData} (h : Vd K H v d) : Dp K H v d := by
  induction h with
  | int i => exact .int i
  | str x => exact .str x
  | tup hs hl _ ih => exact .tup hs (dpAll_of hl ih)
theorem Vd.get {a : Addr} {ds : List PyData} (h : Vd K H (.ref a) (.tuple ds)) : ∃ xs, SqT K H a xs ∧ xs.length = ds.length ∧ ∀ (i : Nat) v d, xs[i]? = some v → ds[i]? = some d → Vd K H v d := by
  cases h with
  | tup hs hl q => exact ⟨_, hs, hl, q⟩
theorem Vd.ref {v : V} {ds : List PyData} (h : Vd K H v (.tuple ds)) : ∃ a, v = .ref a := by
  cases h with
  | tup hs hl q => exact ⟨_, rfl⟩
theorem Vd.int_inv {v : V} {i : Int} (h : Vd K H v (.int i)) : v = .int i := by cases h; rfl
theorem Vd.str_inv {v : V} {x : Str} (h : Vd K H v (.str x)) : v = .str x := by cases h; rfl
/-- a tuple of one, of two -/
theorem Vd.t0 {p : Addr} (h : SqT K H p []) : Vd K H (.ref p) (.tuple []) := .tup h rfl fun i v d h1 _ => by simp at h1
theorem Vd.t1 {p : Addr} {x : V} {d : PyData} (h : SqT K H p [x]) (hx : Vd K H x d) : Vd K H (.ref p) (.tuple [d]) := .tup h rfl fun i v e h1 h2 => by
  match i with
  | 0 => cases h1; cases h2; exact hx
  | i + 1 => simp at h1
theorem Vd.t2 {p : Addr} {x y : V} {d e : PyData} (h : SqT K H p [x, y]) (hx : Vd K H x d) (hy : Vd K H y e) : Vd K H (.ref p) (.tuple [d, e]) := .tup h rfl fun i v e h1 h2 => by
  match i with
  | 0 => cases h1; cases h2; exact hx
  | 1 => cases h1; cases h2; exact hy
  | i + 2 => simp at h1
theorem Vd.t3 {p : Addr} {x y z : V} {d e f : PyData} (h : SqT K H p [x, y, z]) (hx : Vd K H x d) (hy : Vd K H y e) (hz : Vd K H z f) : Vd K H (.ref p) (.tuple [d, e, f]) := .tup h rfl fun i v e h1 h2 => by
  match i with
  | 0 => cases h1; cases h2; exact hx
  | 1 => cases h1; cases h2; exact hy
  | 2 => cases h1; cases h2; exact hz
  | i + 3 => simp at h1
theorem Vd.g1 {v : V} {d : PyData} (h : Vd K H v (.tuple [d])) : ∃ a x, v = .ref a ∧ SqT K H a [x] ∧ Vd K H x d := by
  obtain ⟨a, rfl⟩ := h.ref
  obtain ⟨xs, hs, hl, q⟩ := h.get
  match xs, hl with
  | [x], _ => exact ⟨a, x, rfl, hs, q 0 x d rfl rfl⟩
theorem Vd.g2 {v : V} {d e : PyData} (h : Vd K H v (.tuple [d, e])) : ∃ a x y, v = .ref a ∧ SqT K H a [x, y] ∧ Vd K H x d ∧ Vd K H y e := by
  obtain ⟨a, rfl⟩ := h.ref
  obtain ⟨xs, hs, hl, q⟩ := h.get
  match xs, hl with
  | [x, y], _ => exact ⟨a, x, y, rfl, hs, q 0 x d rfl rfl, q 1 y e rfl rfl⟩
theorem Vd.g3 {v : V} {d e f : PyData} (h : Vd K H v (.tuple [d, e, f])) : ∃ a x y z, v = .ref a ∧ SqT K H a [x, y, z] ∧ Vd K H x d ∧ Vd K H y e ∧ Vd K H z f := by
  obtain ⟨a, rfl⟩ := h.ref
  obtain ⟨xs, hs, hl, q⟩ := h.get
  match xs, hl with
  | [x, y, z], _ => exact ⟨a, x, y, z, rfl, hs, q 0 x d rfl rfl, q 1 y e rfl rfl, q 2 z f rfl rfl⟩
/-- the value's type, for isinstance -/
def tyN : PyData → String
  | .int _ => "int"
  | .str _ => "str"
  | _ => "tuple"
theorem Vd.ty {v : V} {d : PyData} (h : Vd K H v d) : TyX K H v (.type (tyN d)) := by
  cases h with
  | int i => exact .base (.int i)
  | str x => exact .base (.str x)
  | tup hs hl q =>
    rcases hs with (hs | ⟨o, hs⟩) | ⟨o, its, n, hk, hc, _⟩
    · exact .base (.tup hs)
    · exact .fTuple hs
    · exact .kTuple hk hc
end
/-! ### how deep and how long -/
inductive Dk : Nat → PyData → Prop
  | int {n : Nat} (i : Int) : Dk n (.int i)
  | str {n : Nat} {x : Str} : SeqAt.shaped (.str x) = true → x.length ≤ 1000 → Dk n (.str x)
  | tup {n : Nat} {ds : List PyData} : ds.length ≤ 60 → (∀ d ∈ ds, Dk n d) → Dk (n + 1) (.tuple ds)
theorem lay_all : ∀ {ds : List PyData}, (∀ d ∈ ds, d.canLay0 = true) → PyData.canLayAll0 ds = true
  | [], _ => rfl
  | d :: ds, h => by
    unfold PyData.canLayAll0
    rw [h d List.mem_cons_self, lay_all fun e he => h e (List.mem_cons_of_mem _ he)]
    rfl
theorem depth_all {n : Nat} : ∀ {ds : List PyData}, (∀ d ∈ ds, d.depth ≤ n) → PyData.depthAll ds ≤ n
  | [], _ => Nat.zero_le _
  | d :: ds, h => by
    unfold PyData.depthAll
    exact Nat.max_le.mpr ⟨h d List.mem_cons_self, depth_all fun e he => h e (List.mem_cons_of_mem _ he)⟩
theorem Dk.lay {n : Nat} {d : PyData} (h : Dk n d) : d.canLay0 = true ∧ d.depth ≤ n := by
  induction h with
  | int i => exact ⟨rfl, Nat.zero_le _⟩
  | str hs _ => exact ⟨SeqAt.canLay_of_shaped hs, Nat.zero_le _⟩
  | tup _ _ ih => exact ⟨lay_all fun d hd => (ih d hd).1, Nat.succ_le_succ (depth_all fun d hd => (ih d hd).2)⟩
theorem Dk.shaped {n : Nat} {d : PyData} (h : Dk n d) (hn : n ≤ 64) : SeqAt.shaped d = true := by
  unfold SeqAt.shaped
  rw [h.lay.1, decide_eq_true (Nat.le_trans h.lay.2 hn)]
  rfl
theorem Dk.mono {n m : Nat} {d : PyData} (h : Dk n d) (hm : n ≤ m) : Dk m d := by
  induction h generalizing m with
  | int i => exact .int i
  | str hs hl => exact .str hs hl
  | tup hl _ ih =>
    obtain ⟨m', rfl⟩ : ∃ m', m = m' + 1 := ⟨m - 1, by omega⟩
    exact .tup hl fun d hd => ih d hd (by omega)
/-! ### words -/
def isWord (s : Str) : Bool := (decide ((1 : Int) ≤ (s.length : Int)) && decide ((s.length : Int) ≤ 8)) && s.cps.toList.all fun c => decide (97 ≤ c) && decide (c ≤ 122)
theorem lt_sign (a b : Nat) : decide ([a] < [b]) = decide (a < b) := by
  rw [Bool.eq_iff_iff, decide_eq_true_iff, decide_eq_true_iff, List.cons_lt_cons_iff]
  constructor
  · rintro (h | ⟨_, h⟩)
    · exact h
    · exact absurd h (List.not_lt_nil _)
  · exact fun h => .inl h
/-! ### kinds -/
inductive Kd where
  | int | word | lst (k : Kd) | tup (ks : List Kd)
mutual
def Kd.data : Kd → PyData
  | .int => .str "int"
  | .word => .str "word"
  | .lst k => .tuple [.str "list", k.data]
  | .tup ks => .tuple [.str "tuple", .tuple (dataAll ks)]
def dataAll : List Kd → List PyData
  | [] => []
  | k :: ks => k.data :: dataAll ks
end
theorem dataAll_map : ∀ ks : List Kd, dataAll ks = ks.map Kd.data
  | [] => by rw [dataAll]; rfl
  | k :: ks => by rw [dataAll, dataAll_map ks]; rfl
mutual
def isk : Kd → PyData → Bool
  | .int, d => match d with | .int _ => true | _ => false
  | .word, d => match d with | .str s => isWord s | _ => false
  | .lst k, d => match d with | .tuple ds => ds.all (isk k) | _ => false
  | .tup ks, d => match d with | .tuple ds => iskAll ks ds | _ => false
def iskAll : List Kd → List PyData → Bool
  | [], ds => match ds with | [] => true | _ => false
  | k :: ks, ds => match ds with | [] => false | d :: ds => isk k d && iskAll ks ds
end
inductive OkK : Nat → Kd → Prop
  | int {n : Nat} : OkK (n + 1) .int
  | word {n : Nat} : OkK (n + 1) .word
  | lst {n : Nat} {k : Kd} : OkK n k → OkK (n + 1) (.lst k)
  | tup {n : Nat} {ks : List Kd} : ks.length ≤ 60 → (∀ k ∈ ks, OkK n k) → OkK (n + 1) (.tup ks)
theorem dk_str {n : Nat} {x : Str} (h : SeqAt.shaped (.str x) = true := by decide +kernel) (hl : x.length ≤ 1000 := by decide +kernel) : Dk n (.str x) := .str h hl
theorem dk_t2 {n : Nat} {a b : PyData} (ha : Dk n a) (hb : Dk n b) : Dk (n + 1) (.tuple [a, b]) := .tup (show 2 ≤ 60 by decide) fun d hd => by
  rcases List.mem_cons.mp hd with rfl | hd
  · exact ha
  · rcases List.mem_cons.mp hd with rfl | hd
    · exact hb
    · cases hd
theorem OkK.dk {n : Nat} {k : Kd} (h : OkK n k) : Dk (2 * n) k.data := by
  induction h with
  | int => rw [Kd.data]; exact dk_str
  | word => rw [Kd.data]; exact dk_str
  | lst _ ih => rw [Kd.data]; exact (dk_t2 dk_str (ih.mono (Nat.le_succ _)))
  | tup hl _ ih =>
    rw [Kd.data, dataAll_map]
    refine dk_t2 dk_str (.tup (by rw [List.length_map]; exact hl) fun d hd => ?_)
    obtain ⟨k, hk, rfl⟩ := List.mem_map.mp hd
    exact ih k hk
theorem OkK.mono {n m : Nat} {k : Kd} (h : OkK n k) (hm : n ≤ m) : OkK m k := by
  induction h generalizing m with
  | int => obtain ⟨m', rfl⟩ : ∃ m', m = m' + 1 := ⟨m - 1, by omega⟩; exact .int
  | word => obtain ⟨m', rfl⟩ : ∃ m', m = m' + 1 := ⟨m - 1, by omega⟩; exact .word
  | lst _ ih => obtain ⟨m', rfl⟩ : ∃ m', m = m' + 1 := ⟨m - 1, by omega⟩; exact .lst (ih (by omega))
  | tup hl _ ih => obtain ⟨m', rfl⟩ : ∃ m', m = m' + 1 := ⟨m - 1, by omega⟩; exact .tup hl fun k hk => ih k hk (by omega)
/-- the callee: where it stands, its promise -/
structure Cl (P : Program) (w : World) (K : PySem.W.Frag) (mg : Str → Option Value) (base : Heap) (x : Str) (ps : List Str) (k : Nat) (sp : Sp) where
  f : Addr
  fd : FuncData
  ok : FnOk P w K mg base CX0 k f fd ps sp
  b : Binds K fd ps []
  kp : PySem.W.keepIn K (.ref f) = true
  m : mg x = some (.ref f)
theorem no_call {P : Program} {w : World} {K : PySem.W.Frag} {mg : Str → Option Value} {base : Heap} {k : Nat} {f : Addr} {fd : FuncData} {ps : List Str} {sp : Sp} (no : ∀ vs H Q E, ¬ sp vs H Q E) : FnOk P w K mg base CX0 k f fd ps sp :=
  ⟨fun vs H Q E h => absurd h (no vs H Q E), fun A outer s H args us vs Q E _ _ _ _ h => absurd h (no vs H Q E)⟩
/-! ### further rules of evaluation -/
section
variable {K : PySem.W.Frag} {σ : L2.St} {H H' : Hp} {ta tb tc te tx : TE} {t u : TT} {x y z v w : V} {r r' : R2}
theorem ev_chain {k k' : Bool} (ha : Ev ta σ H x) (hb : Ev tb σ H y) (hc : Ev tc σ H w) (hr : RV r x y H (.bl k)) (hr' : RV r' y w H (.bl k')) : Ev (tChain r r' ta tb tc) σ H (.bl (k && k')) := fun H1 e Q q =>
  ha H1 e _ fun H2 e2 => hb H2 (e.trans e2) _ fun H3 e3 => hr H3 ((e.trans e2).trans e3) _ fun H4 e4 => ⟨k, rfl, by
    cases k with
    | true => exact hc H4 (((e.trans e2).trans e3).trans e4) _ fun H5 e5 => hr' H5 ((((e.trans e2).trans e3).trans e4).trans e5) Q fun H6 e6 => q H6 ((((e2.trans e3).trans e4).trans e5).trans e6)
    | false => exact q H4 ((e2.trans e3).trans e4)⟩
theorem ev_one {v : V} (h : Ev ta σ H v) : Ev ta σ H v := h
theorem et_yes : EvT tYes σ H true := fun H1 _ _ q => q H1 (Ex.refl H1)
theorem ev_all {bs : List Bool} (h : EvL te σ H (bs.map V.bl)) : Ev (tCB (rAll K) (tCons te tNil)) σ H (.bl (bs.all id)) := fun H1 e Q q =>
  h H1 e _ fun p H2 _ e2 hp => ⟨p, bs, rfl, sq_of hp, q H2 e2⟩
theorem ev_any {bs : List Bool} (h : EvL te σ H (bs.map V.bl)) : Ev (tCB (rAny K) (tCons te tNil)) σ H (.bl (bs.any id)) := fun H1 e Q q =>
  h H1 e _ fun p H2 _ e2 hp => ⟨p, bs, rfl, sq_of hp, q H2 e2⟩
/-- isinstance of data and a built-in class -/
theorem ev_isi {d : PyData} {n : String} {b : Bool} (ha : Ev ta σ H v) (hb : Ev tb σ H (.ty n)) (h : Vd K H v d) (hk : kitB (tyN d) n = some b) : Ev (tCB (rIsi K) (tCons ta (tCons tb tNil))) σ H (.bl b) := fun H1 e Q q =>
  ha H1 e _ fun H2 e2 => hb H2 (e.trans e2) _ fun H3 e3 => ⟨v, .ty n, _, _, b, rfl, .ty n, (h.keep (Kt.same ((e.trans e2).trans e3))).ty, kit_ty hk, q H3 (e2.trans e3)⟩
theorem ev_isiB {c : Bool} {n : String} {b : Bool} (ha : Ev ta σ H (.bl c)) (hb : Ev tb σ H (.ty n)) (hk : kitB "bool" n = some b) : Ev (tCB (rIsi K) (tCons ta (tCons tb tNil))) σ H (.bl b) := fun H1 e Q q =>
  ha H1 e _ fun H2 e2 => hb H2 (e.trans e2) _ fun H3 e3 => ⟨.bl c, .ty n, _, _, b, rfl, .ty n, .base (.bl c), kit_ty hk, q H3 (e2.trans e3)⟩
theorem rv_eqD {d e : PyData} (hx : Vd K H x d) (hy : Vd K H y e) (sd : SeqAt.shaped d = true) (se : SeqAt.shaped e = true) : RV (rEqD K) x y H (.bl (PyData.eqv d e)) := fun H1 e1 _ q =>
  ⟨d, e, (hx.keep (Kt.same e1)).dp, (hy.keep (Kt.same e1)).dp, sd, se, q H1 (Ex.refl H1)⟩
theorem rv_neD {d e : PyData} (hx : Vd K H x d) (hy : Vd K H y e) (sd : SeqAt.shaped d = true) (se : SeqAt.shaped e = true) : RV (rNeD K) x y H (.bl (!PyData.eqv d e)) := fun H1 e1 _ q =>
  ⟨d, e, (hx.keep (Kt.same e1)).dp, (hy.keep (Kt.same e1)).dp, sd, se, q H1 (Ex.refl H1)⟩
theorem rv_leS {i j : Str} : RV (fun x y H Q => ∃ i j, x = .str i ∧ y = .str j ∧ Q (.bl (!decide (j.cps.toList < i.cps.toList))) H) (.str i) (.str j) H (.bl (!decide (j.cps.toList < i.cps.toList))) := fun H1 _ _ q => ⟨i, j, rfl, rfl, q H1 (Ex.refl H1)⟩
theorem rv_notN : RV (fun x y H Q => y = .non ∧ Q (.bl (!decide (x = .non))) H) x .non H (.bl (!decide (x = .non))) := fun H1 _ _ q => ⟨rfl, q H1 (Ex.refl H1)⟩
theorem ev_lenS {s : Str} (hs : s.length ≤ 1000) (ha : Ev ta σ H (.str s)) : Ev (tCB (fun xs H Q => ∃ z, xs = [.str z] ∧ z.length ≤ sizeLine ∧ Q (.int z.length) H) (tCons ta tNil)) σ H (.int s.length) := fun H1 e Q q =>
  ha H1 e _ fun H2 e2 => ⟨s, rfl, Nat.le_of_lt (small1000 hs), q H2 e2⟩
theorem ev_lenT {p : Addr} {xs : List V} (ha : Ev ta σ H (.ref p)) (h : SqT K H p xs) : Ev (tCB (fun xs H Q => ∃ p ys, xs = [.ref p] ∧ (SqL K H p ys ∨ SqT K H p ys) ∧ Q (.int ys.length) H) (tCons ta tNil)) σ H (.int (xs.length : Int)) := fun H1 e Q q =>
  ha H1 e _ fun H2 e2 => ⟨p, xs, rfl, .inr (ex_t (e.trans e2) h), q H2 e2⟩
theorem ev_lenL {p : Addr} {xs : List V} (ha : Ev ta σ H (.ref p)) (h : SqL K H p xs) : Ev (tCB (fun xs H Q => ∃ p ys, xs = [.ref p] ∧ (SqL K H p ys ∨ SqT K H p ys) ∧ Q (.int ys.length) H) (tCons ta tNil)) σ H (.int (xs.length : Int)) := fun H1 e Q q =>
  ha H1 e _ fun H2 e2 => ⟨p, xs, rfl, .inl (ex_l (e.trans e2) h), q H2 e2⟩
/-- an item of a tuple, at a written place -/
theorem ev_ixT {a : Addr} {xs : List V} {j : Nat} (ha : Ev ta σ H (.ref a)) (hb : Ev tb σ H (.int (j : Int))) (h : SqT K H a xs) (hv : xs[j]? = some v) : Ev (tOp (rIxT K) ta tb) σ H v := ev_op ha hb (rv_ixT h (atI_nat hv))
theorem ev_ixL {a : Addr} {xs : List V} {j : Nat} (ha : Ev ta σ H (.ref a)) (hb : Ev tb σ H (.int (j : Int))) (h : SqL K H a xs) (hv : xs[j]? = some v) : Ev (tOp (rIxL K) ta tb) σ H v := ev_op ha hb (rv_ixL h (atI_nat hv))
theorem given_all (n : Nat) (b : Nat → Bool) : given n (fun _ => true) (fun i => .bl (b i)) = ((List.range n).map b).map V.bl := by
  unfold given
  rw [List.filter_eq_self.mpr (fun _ _ => rfl), List.map_map]
  rfl
theorem el_is {xs ys : List V} (h : EvL te σ H xs) (e : xs = ys) : EvL te σ H ys := by
  rw [← e]
  exact h
/-- comprehensions over a tuple, over a text, over two tuples -/
theorem el_lcT {a : Addr} {xs : List V} {tl : TE} {j : Nat} {vs : List Nat} (f : Nat → Bool) (v : Nat → V) (h : Ev tl σ H (.ref a)) (hx : SqT K H a xs) (hz : xs.length ≤ 40000) (hw : ∀ x, wipe ((wipe σ vs).set j (some x)) vs = wipe σ vs)
    (ht : ∀ (i : Nat) (x : V) H1, Ex H H1 → xs[i]? = some x → EvT t ((wipe σ vs).set j (some x)) H1 (f i)) (he : ∀ (i : Nat) (x : V) H1, Ex H H1 → xs[i]? = some x → f i = true → Ev te ((wipe σ vs).set j (some x)) H1 (v i)) :
    EvL (tLc (iTup K tl) (gName j) t te vs) σ H (given xs.length f v) := fun H0 e Q q => h H0 e _ fun H1 e1 => ⟨a, rfl, ⟨xs, ex_t (e.trans e1) hx⟩, fun Dl hD =>
  lc_tup (xs := xs) (Cw H1 f v Dl) ⟨hD, Ex.new hD, upd_same⟩ (fun i H' _ p => ex_t ((e.trans e1).trans p.2.1) hx) (fun i x H' hi p => ⟨hw x, cw_turn p (by have := (List.getElem?_eq_some_iff.mp hi).1; omega) (ht i x H1 (e.trans e1) hi) (fun hf => he i x H1 (e.trans e1) hi hf)⟩)
    (fun H' p => q Dl H' (fresh_back e1 p.1) (e1.trans p.2.1) p.2.2)⟩
theorem el_lcS {s : Str} {tl : TE} {j : Nat} {vs : List Nat} (f : Nat → Bool) (v : Nat → V) (h : Ev tl σ H (.str s)) (hz : s.cps.size ≤ 40000) (hw : ∀ x, wipe ((wipe σ vs).set j (some x)) vs = wipe σ vs)
    (ht : ∀ (i c : Nat) H1, Ex H H1 → s.cps[i]? = some c → EvT t ((wipe σ vs).set j (some (.str ⟨#[c]⟩))) H1 (f i)) (he : ∀ (i c : Nat) H1, Ex H H1 → s.cps[i]? = some c → f i = true → Ev te ((wipe σ vs).set j (some (.str ⟨#[c]⟩))) H1 (v i)) :
    EvL (tLc (iStr tl) (gName j) t te vs) σ H (given s.cps.size f v) := fun H0 e Q q => h H0 e _ fun H1 e1 => ⟨s, rfl, fun Dl hD =>
  lc_it (walk_str (z := s)) (Cw H1 f v Dl) ⟨hD, Ex.new hD, upd_same⟩ (fun _ _ _ _ => True.intro) (fun i x H2 H' hi p y => by
    obtain ⟨rfl, c, hc, rfl⟩ := y
    exact ⟨hw _, cw_turn p (by omega) (ht i c H1 (e.trans e1) hc) (fun hf => he i c H1 (e.trans e1) hc hf)⟩)
    (fun H' p => q Dl H' (fresh_back e1 p.1) (e1.trans p.2.1) p.2.2)⟩
theorem walk_zipT {a b : Addr} {xs ys : List V} {n : Nat} (hn : n = min xs.length ys.length) : Walk (RZ.ItzT K a b) n (fun H => SqT K H a xs ∧ SqT K H b ys) (YPair (fun i => xs[i]?) (fun i => ys[i]?)) := by
  subst hn
  refine ⟨fun i _ hi q => ?_, fun _ q => ⟨xs, ys, q.1, q.2, by omega⟩, fun i H v H' _ q y => ?_⟩
  · have h1 : i < xs.length := by omega
    have h2 : i < ys.length := by omega
    exact ⟨xs, ys, xs[i], ys[i], q.1, q.2, by simp [h1], by simp [h2]⟩
  · obtain ⟨T, x, z, h1, h2, h3, h4, h5⟩ := y
    exact ⟨T, x, z, h1, h2, h3, h4 xs q.1, h5 ys q.2⟩
theorem el_lcZ {a b : Addr} {xs ys : List V} {tl tm : TE} {j1 j2 : Nat} {vs : List Nat} (v : Nat → V) (h : Ev tl σ H (.ref a)) (h2 : Ev tm σ H (.ref b)) (hx : SqT K H a xs) (hy : SqT K H b ys) (hz : min xs.length ys.length ≤ 40000)
    (hw : ∀ x y, wipe (((wipe σ vs).set j1 (some x)).set j2 (some y)) vs = wipe σ vs)
    (he : ∀ (i : Nat) (x y : V) H1, Ex H H1 → xs[i]? = some x → ys[i]? = some y → Ev te (((wipe σ vs).set j1 (some x)).set j2 (some y)) H1 (v i)) :
    EvL (tLc (RZ.iZipA K (tCons tl (tCons tm tNil))) (gTup K 2 (gCons (gName j1) (gCons (gName j2) gNil))) tYes te vs) σ H (given (min xs.length ys.length) (fun _ => true) v) := fun H0 e Q q => h H0 e _ fun H1 e1 => h2 H1 (e.trans e1) _ fun H2 e2 =>
  ⟨a, b, xs, ys, rfl, .inr ⟨ex_t ((e.trans e1).trans e2) hx, ex_t ((e.trans e1).trans e2) hy, fun Dl hD =>
  lc_it (walk_zipT rfl) (Cw H2 (fun _ => true) v Dl) ⟨hD, Ex.new hD, upd_same⟩ (fun _ _ _ p => ⟨ex_t (((e.trans e1).trans e2).trans p.2.1) hx, ex_t (((e.trans e1).trans e2).trans p.2.1) hy⟩) (fun i x H3 H' hi p y => by
    obtain ⟨T, x1, x2, rfl, hT, rfl, f1, f2⟩ := y
    have p' : Cw H2 (fun _ => true) v Dl i (upd H3 T (.tup [x1, x2])) := ⟨p.1, p.2.1.trans (Ex.new hT), by rw [upd_ne (ne_of_none p.2.2 hT)]; exact p.2.2⟩
    exact ⟨T, [x1, x2], rfl, .inl (.inl upd_same), rfl, x1, [x2], rfl, x2, [], rfl, rfl, hw _ _, cw_turn p' (by omega) et_yes (fun _ => he i x1 x2 H2 ((e.trans e1).trans e2) f1 f2)⟩)
    (fun H' p => q Dl H' (fresh_back (e1.trans e2) p.1) ((e1.trans e2).trans p.2.1) p.2.2)⟩⟩
theorem et_andF (h1 : EvT t σ H false) : EvT (tAnd t u) σ H false := fun H1 e Q q => h1 H1 e _ fun H2 e2 => q H2 e2
theorem et_andT {b : Bool} (h1 : EvT t σ H true) (h2 : EvT u σ H b) : EvT (tAnd t u) σ H b := fun H1 e Q q => h1 H1 e _ fun H2 e2 => h2 H2 (e.trans e2) Q fun H3 e3 => q H3 (e2.trans e3)
theorem et_orT (h1 : EvT t σ H true) : EvT (tOr t u) σ H true := fun H1 e Q q => h1 H1 e _ fun H2 e2 => q H2 e2
theorem et_orF {b : Bool} (h1 : EvT t σ H false) (h2 : EvT u σ H b) : EvT (tOr t u) σ H b := fun H1 e Q q => h1 H1 e _ fun H2 e2 => h2 H2 (e.trans e2) Q fun H3 e3 => q H3 (e2.trans e3)
theorem ev_andF (h1 : Ev ta σ H (.bl false)) : Ev (tAndV ta tb) σ H (.bl false) := fun H1 e Q q => h1 H1 e _ fun H2 e2 => ⟨false, rfl, q H2 e2⟩
theorem ev_andT {b : Bool} (h1 : Ev ta σ H (.bl true)) (h2 : Ev tb σ H (.bl b)) : Ev (tAndV ta tb) σ H (.bl b) := fun H1 e Q q => h1 H1 e _ fun H2 e2 => ⟨true, rfl, h2 H2 (e.trans e2) Q fun H3 e3 => q H3 (e2.trans e3)⟩
theorem k_tt : kitB "tuple" "tuple" = some true := by decide +kernel
theorem k_it : kitB "int" "tuple" = some false := by decide +kernel
theorem k_st : kitB "str" "tuple" = some false := by decide +kernel
theorem k_ti : kitB "tuple" "int" = some false := by decide +kernel
theorem k_ii : kitB "int" "int" = some true := by decide +kernel
theorem k_si : kitB "str" "int" = some false := by decide +kernel
theorem k_ts : kitB "tuple" "str" = some false := by decide +kernel
theorem k_is : kitB "int" "str" = some false := by decide +kernel
theorem k_ss : kitB "str" "str" = some true := by decide +kernel
theorem k_ib : kitB "int" "bool" = some false := by decide +kernel
theorem k_bb : kitB "bool" "bool" = some true := by decide +kernel
theorem ev_callC {sp : Sp} {vs : List V} {E : XK} {ta : TA} (h : EvA ta σ H vs) (hs : SpV sp vs H z) : Ev (tCall sp [] E ta) σ H z := ev_call h (by rw [List.append_nil]; exact hs)
end
/-! ### lists of data, empty or not -/
theorem all_items {α : Type} (a0 : α) (p : α → Bool) (ds : List α) : ((List.range ds.length).map fun i => p (ds.getD i a0)).all id = ds.all p := by
  have h : ((List.range ds.length).map fun i => p (ds.getD i a0)) = ds.map p := by
    apply List.ext_getElem
    · simp
    · intro i h1 h2
      simp at h1
      simp [List.getD_eq_getElem?_getD, List.getElem?_eq_getElem h1]
  rw [h, List.all_map]
  rfl
theorem zip_items {α β : Type} (a0 : α) (b0 : β) (p : α → β → Bool) : ∀ (ks : List α) (ds : List β), ks.length = ds.length → ((List.range ds.length).map fun i => p (ks.getD i a0) (ds.getD i b0)).all id = (List.zipWith p ks ds).all id := fun ks ds hl => by
  have h : ((List.range ds.length).map fun i => p (ks.getD i a0) (ds.getD i b0)) = List.zipWith p ks ds := by
    apply List.ext_getElem
    · simp [hl]
    · intro i h1 h2
      simp at h1
      have h3 : i < ks.length := by omega
      simp [List.getD_eq_getElem?_getD, List.getElem?_eq_getElem h1, List.getElem?_eq_getElem h3]
  rw [h]
theorem iskAll_zip : ∀ (ks : List Kd) (ds : List PyData), iskAll ks ds = (decide (ds.length = ks.length) && (List.zipWith isk ks ds).all id)
  | [], [] => by rw [iskAll]; rfl
  | [], _ :: _ => by simp [iskAll]
  | _ :: _, [] => by rw [iskAll]; rfl
  | k :: ks, d :: ds => by
    rw [iskAll, iskAll_zip ks ds]
    have e : decide ((d :: ds).length = (k :: ks).length) = decide (ds.length = ks.length) := decide_eq_decide.mpr (by simp)
    rw [e]
    show (isk k d && (decide (ds.length = ks.length) && (List.zipWith isk ks ds).all id)) = (decide (ds.length = ks.length) && (isk k d && (List.zipWith isk ks ds).all id))
    cases isk k d <;> cases decide (ds.length = ks.length) <;> rfl
theorem iskAll_at (ks : List Kd) (ds : List PyData) : (decide (V.int (ds.length : Int) = V.int (ks.length : Int)) && (decide (ds.length = ks.length) && ((List.range ds.length).map fun i => isk (ks.getD i .int) (ds.getD i .none)).all id)) = iskAll ks ds := by
  rw [iskAll_zip]
  by_cases h : ds.length = ks.length
  · rw [zip_items .int .none isk ks ds h.symm, decide_eq_true h, h, decide_eq_true rfl]
    rfl
  · rw [decide_eq_false h, decide_eq_false (fun e => h (by injection e with e; exact Int.ofNat.inj e))]
    rfl
theorem mem_given {n : Nat} {f : Nat → Bool} {v : Nat → V} {x : V} (h : x ∈ given n f v) : ∃ i, i < n ∧ f i = true ∧ x = v i := by
  unfold given at h
  obtain ⟨i, hi, rfl⟩ := List.mem_map.mp h
  obtain ⟨h1, h2⟩ := List.mem_filter.mp hi
  exact ⟨i, List.mem_range.mp h1, h2, rfl⟩
theorem given_empty (n : Nat) (f : Nat → Bool) (v : Nat → V) : (given n f v).isEmpty = ((List.range n).map fun i => !f i).all id := by
  unfold given
  rw [Bool.eq_iff_iff, List.isEmpty_iff, List.map_eq_nil_iff, List.filter_eq_nil_iff, List.all_map, List.all_eq_true]
  constructor
  · intro h i hi
    have := h i hi
    simpa using this
  · intro h i hi
    have := h i hi
    simpa using this
section
variable {K : PySem.W.Frag} {σ : L2.St} {H H' : Hp} {ta tb tc te tx : TE}
theorem dpAll_some {m : Nat} : ∀ {xs : List V}, (∀ x ∈ xs, ∃ d, Vd K H x d ∧ Dk m d) → ∃ ds, DpAll K H xs ds ∧ ds.isEmpty = xs.isEmpty ∧ ∀ d ∈ ds, Dk m d
  | [], _ => ⟨[], .nil, rfl, fun _ h => nomatch h⟩
  | x :: xs, h => by
    obtain ⟨d, h1, h2⟩ := h x List.mem_cons_self
    obtain ⟨ds, h3, h4, h5⟩ := dpAll_some fun y hy => h y (List.mem_cons_of_mem _ hy)
    refine ⟨d :: ds, .cons h1.dp h3, rfl, fun e he => ?_⟩
    rcases List.mem_cons.mp he with rfl | he
    · exact h2
    · exact h5 e he
theorem shaped_list {m : Nat} {ds : List PyData} (hm : m ≤ 60) (h : ∀ d ∈ ds, Dk m d) : SeqAt.shaped (.list ds) = true := by
  unfold SeqAt.shaped
  have h1 : (PyData.list ds).canLay0 = true := lay_all fun d hd => (h d hd).lay.1
  have h2 : (PyData.list ds).depth ≤ 64 := Nat.le_trans (Nat.succ_le_succ (depth_all fun d hd => (h d hd).lay.2)) (by omega)
  rw [h1, decide_eq_true h2]
  rfl
/-- [..] == [] -/
theorem ev_nil {m : Nat} {xs : List V} (hm : m ≤ 60) (ha : EvL ta σ H xs) (hx : ∀ x ∈ xs, ∀ H1, Ex H H1 → ∃ d, Vd K H1 x d ∧ Dk m d) : Ev (tOp (rEqD K) ta (tLst tNil)) σ H (.bl xs.isEmpty) :=
  ev_opLL ha (el_lst ea_nil (by decide)) fun p q H1 hp hq e => fun H2 e2 Q k => by
    obtain ⟨ds, h3, h4, h5⟩ := dpAll_some (K := K) (H := H2) fun x hx' => hx x hx' H2 (e.trans e2)
    refine ⟨.list ds, .list [], .lst (sq_of (e2 _ _ hp)) h3, .lst (sq_of (e2 _ _ hq)) .nil, shaped_list hm h5, by decide +kernel, ?_⟩
    have e3 : PyData.eqv (.list ds) (.list []) = xs.isEmpty := by
      rw [← h4]
      cases ds with
      | nil => rfl
      | cons d ds => rfl
    rw [e3]
    exact k H2 (Ex.refl H2)
theorem et_val {b : Bool} (h : Ev te σ H (.bl b)) : EvT (tB te) σ H b := et_B h
end
theorem Dk.item {n : Nat} {ds : List PyData} (h : Dk (n + 1) (.tuple ds)) : ds.length ≤ 60 ∧ ∀ d ∈ ds, Dk n d := by
  cases h with
  | tup h1 h2 => exact ⟨h1, h2⟩
theorem getD_at {α : Type} {ds : List α} {i : Nat} {a0 : α} (h : i < ds.length) : ds[i]? = some (ds.getD i a0) := by
  rw [List.getD_eq_getElem?_getD, List.getElem?_eq_getElem h]
  rfl
theorem OkK.shaped {n : Nat} {k : Kd} (h : OkK n k) (hn : n ≤ 20) : SeqAt.shaped k.data = true := h.dk.shaped (by omega)
theorem shaped_int : SeqAt.shaped (.str "int") = true := by decide +kernel
theorem shaped_word : SeqAt.shaped (.str "word") = true := by decide +kernel
end Cr
namespace Cr
open PySem PySem.Spec PyProof.Rows L2 Evl
section
variable {P : Program} {w : World} {K : PySem.W.Frag} {mg : Str → Option Value} {base : Heap}
def spWord : Sp := fun vs H Q _ => ∃ s : Str, vs = [.str s] ∧ s.length ≤ 1000 ∧ ∀ H', Same H H' → Q (.bl (isWord s)) H'
theorem sign_ok (c : Nat) : (!decide ((⟨#[c]⟩ : Str).cps.toList < ("a" : Str).cps.toList) && !decide (("z" : Str).cps.toList < (⟨#[c]⟩ : Str).cps.toList)) = (decide (97 ≤ c) && decide (c ≤ 122)) := by
  rw [show ("a" : Str).cps.toList = [97] by decide +kernel, show ("z" : Str).cps.toList = [122] by decide +kernel, show (⟨#[c]⟩ : Str).cps.toList = [c] from rfl, lt_sign, lt_sign, ← decide_not, ← decide_not]
  congr 1
  · exact decide_eq_decide.mpr (by omega)
  · exact decide_eq_decide.mpr (by omega)
theorem all_signs (z : Str) (p : Nat → Bool) : ((List.range z.cps.size).map fun i => p (z.cps.toList.getD i 0)).all id = z.cps.toList.all p := by
  have h : ∀ l : List Nat, ((List.range l.length).map fun i => p (l.getD i 0)) = l.map p := fun l => by
    apply List.ext_getElem
    · simp
    · intro i h1 h2
      simp at h1
      simp [List.getD_eq_getElem?_getD, List.getElem?_eq_getElem h1]
  rw [← Array.length_toList, h, List.all_map]
  rfl
def spKit (K : PySem.W.Frag) : Sp := fun vs H Q _ => ∃ (v : V) (k : Kd) (n : Nat), vs = [v] ∧ Vd K H v k.data ∧ OkK n k ∧ n ≤ 20 ∧
  ∀ r H', Same H H' → (∀ ks, k = .tup ks → ∃ a, r = .ref a ∧ Vd K H' (.ref a) (.tuple (dataAll ks))) → ((∀ ks, k ≠ .tup ks) → ∃ a, r = .ref a ∧ Vd K H' (.ref a) (.tuple [])) → Q r H'
def spKil (K : PySem.W.Frag) : Sp := fun vs H Q _ => ∃ (v : V) (k : Kd) (n : Nat), vs = [v] ∧ Vd K H v k.data ∧ OkK n k ∧ n ≤ 20 ∧
  ∀ r H', Same H H' → (∀ j, k = .lst j → r ≠ .non ∧ Vd K H' r j.data) → ((∀ j, k ≠ .lst j) → r = .non) → Q r H'
theorem vd_non {H : Hp} {v : V} {d : PyData} (h : Vd K H v d) : v ≠ .non := by cases h <;> exact fun e => nomatch e
end
section
variable {P : Program} {w : World} {K : PySem.W.Frag} {mg : Str → Option Value} {base : Heap}
def spIs (K : PySem.W.Frag) (n : Nat) : Sp := fun vs H Q _ => ∃ (v u : V) (d : PyData) (k : Kd), vs = [v, u] ∧ Vd K H v d ∧ Dk 20 d ∧ Vd K H u k.data ∧ OkK n k ∧ n ≤ 20 ∧ ∀ H', Same H H' → Q (.bl (isk k d)) H'
theorem spIs_0 (vs : List V) (H : Hp) (Q : VK) (E : XK) : ¬ spIs K 0 vs H Q E := fun h => by
  obtain ⟨_, _, _, _, _, _, _, _, h, _⟩ := h
  cases h
theorem is_call {n : Nat} {H : Hp} {v u : V} {d : PyData} {k : Kd} (hv : Vd K H v d) (hd : Dk 20 d) (hu : Vd K H u k.data) (hk : OkK n k) (hn : n ≤ 20) : SpV (spIs K n) [v, u] H (.bl (isk k d)) := fun H1 e Q q E =>
  ⟨v, u, d, k, rfl, hv.keep (Kt.same e), hd, hu.keep (Kt.same e), hk, hn, fun H' e' => q H' e'⟩
end
section
variable {P : Program} {w : World} {K : PySem.W.Frag} {mg : Str → Option Value} {base : Heap}
def spLWord : Sp := fun vs H Q _ => ∃ s : Str, vs = [.str s] ∧ s.length ≤ 1000 ∧ SeqAt.shaped (.str s) = true ∧ ∀ H', Same H H' → Q (.bl (isWord s)) H'
theorem abc_list : ("abcdefghijklmnopqrstuvwxyz" : Str).cps.toList = List.range' 97 26 := by decide +kernel
theorem abc_sign (c : Nat) : (!(!decide (c ∈ ("abcdefghijklmnopqrstuvwxyz" : Str).cps.toList))) = (decide (97 ≤ c) && decide (c ≤ 122)) := by
  rw [abc_list, Bool.not_not, Bool.eq_iff_iff, Bool.and_eq_true, decide_eq_true_iff, decide_eq_true_iff, decide_eq_true_iff, List.mem_range'_1]
  omega
theorem sign_shaped {s : Str} {i c : Nat} (h : SeqAt.shaped (.str s) = true) (hc : s.cps[i]? = some c) : SeqAt.shaped (.str ⟨#[c]⟩) = true := by
  have h1 : PyData.strOk s = true := SeqAt.canLay_of_shaped h
  obtain ⟨hi, rfl⟩ := Array.getElem?_eq_some_iff.mp hc
  have h2 : s.cps.all (· < 0x110000) = true := h1
  have h3 := (Array.all_eq_true.mp h2) i hi
  unfold SeqAt.shaped
  have h4 : (PyData.str ⟨#[s.cps[i]]⟩).canLay0 = true := by
    show PyData.strOk ⟨#[s.cps[i]]⟩ = true
    show (#[s.cps[i]]).all (· < 0x110000) = true
    simpa using h3
  rw [h4]
  rfl
theorem one_items {n : Nat} {f : Nat → Bool} {H : Hp} : ∀ x ∈ given n f (fun _ => V.int 1), ∀ H1, Ex H H1 → ∃ d, Vd K H1 x d ∧ Dk 0 d := fun x hx H1 _ => by
  obtain ⟨i, _, _, rfl⟩ := mem_given hx
  exact ⟨_, .int 1, .int 1⟩
end
section
variable {P : Program} {w : World} {K : PySem.W.Frag} {mg : Str → Option Value} {base : Heap}
def spCell (K : PySem.W.Frag) : Sp := fun vs H Q _ => ∃ (a : Addr) (ns : List Int) (k : Nat), vs = [.ref a, .int (k : Int)] ∧ SqL K H a (ns.map V.int) ∧ ∀ c H', Same H H' → Q (.int c) H'
def spDraw (K : PySem.W.Frag) : Sp := fun vs H Q _ => ∃ (a b : Addr) (ns ms : List Int) (k : Nat), vs = [.ref a, .int (k : Int), .ref b] ∧ SqL K H a (ns.map V.int) ∧ SqL K H b (ms.map V.int) ∧ ms.length ≤ 1000 ∧ (∀ m ∈ ms, 0 < m ∧ m < 1073741824) ∧
  ∀ p (xs : List Int) H', Same H H' → H p = none → H' p = some (.lst (xs.map V.int)) → xs.length = ms.length → Q (.ref p) H'
theorem map_int {ms : List Int} {i : Nat} {x : V} (h : (ms.map V.int)[i]? = some x) : ∃ m, ms[i]? = some m ∧ x = .int m := by
  rw [List.getElem?_map] at h
  cases e : ms[i]? with
  | none =>
    rw [e] at h
    cases h
  | some m =>
    rw [e] at h
    cases h
    exact ⟨m, rfl, rfl⟩
def Bx (H : Hp) (b d : Addr) : Prop := ∃ (ns : List Int) (i : Nat), H b = some (.lst [.ref d, .int (i : Int)]) ∧ H d = some (.lst (ns.map V.int)) ∧ d ≠ b
def Mv (b d : Addr) (H H' : Hp) : Prop := (∀ a o, a ≠ b → H a = some o → H' a = some o) ∧ Bx H' b d
section
variable {H H1 H2 H' : Hp} {b d p : Addr} {o : HO}
theorem Bx.same (h : Bx H b d) (e : Same H H') : Bx H' b d := by
  obtain ⟨ns, i, h1, h2, h3⟩ := h
  exact ⟨ns, i, e _ _ h1, e _ _ h2, h3⟩
theorem Mv.refl (h : Bx H b d) : Mv b d H H := ⟨fun _ _ _ h => h, h⟩
theorem Mv.trans (m : Mv b d H H1) (n : Mv b d H1 H2) : Mv b d H H2 := ⟨fun a o ne h => n.1 a o ne (m.1 a o ne h), n.2⟩
theorem Mv.same (h : Bx H b d) (e : Same H H') : Mv b d H H' := ⟨fun a o _ h => e a o h, h.same e⟩
theorem Mv.ext (m : Mv b d H H1) (e : Same H1 H2) : Mv b d H H2 := m.trans (.same m.2 e)
theorem Mv.new (m : Mv b d H H1) (h : H1 p = none) : Mv b d H (upd H1 p o) := m.ext (same_new h)
theorem Bx.neb (h : Bx H b d) (hp : H p = none) : p ≠ b ∧ p ≠ d := by
  obtain ⟨ns, i, h1, h2, h3⟩ := h
  exact ⟨fun e => (by rw [e, h1] at hp; cases hp), fun e => (by rw [e, h2] at hp; cases hp)⟩
/-- an object that H does not know changes -/
theorem Mv.mut (m : Mv b d H H1) (hb : Bx H b d) (hp : H p = none) : Mv b d H (upd H1 p o) := by
  obtain ⟨n1, n2⟩ := hb.neb hp
  obtain ⟨ns, i, h1, h2, h3⟩ := m.2
  exact ⟨fun a u ne h => by rw [upd_ne (ne_of_none h hp)]; exact m.1 a u ne h, ns, i, by rw [upd_ne n1.symm]; exact h1, by rw [upd_ne n2.symm]; exact h2, h3⟩
theorem Mv.kt (m : Mv b d H H1) (hb : Bx H b d) : Kt K H H1 := fun a ys q => by
  obtain ⟨ns, i, h1, h2, h3⟩ := hb
  rcases q with (q | ⟨ob, q⟩) | q
  · exact .inl (.inl (m.1 _ _ (ne_of q h1 (fun z => nomatch z)) q))
  · exact .inl (.inr ⟨ob, m.1 _ _ (ne_of q h1 (fun z => nomatch z)) q⟩)
  · exact .inr q
/-- a list that is not the box -/
theorem Mv.sql {a : Addr} {xs : List V} (m : Mv b d H H1) (ne : a ≠ b) (h : SqL K H a xs) : SqL K H1 a xs := by
  rcases h with (h | ⟨ob, h⟩) | h
  · exact .inl (.inl (m.1 _ _ ne h))
  · exact .inl (.inr ⟨ob, m.1 _ _ ne h⟩)
  · exact .inr h
end
def spBox (K : PySem.W.Frag) : Sp := fun vs H Q _ => ∃ (a : Addr) (ns : List Int) (k : Nat), vs = [.ref a, .int (k : Int)] ∧ SqL K H a (ns.map V.int) ∧
  ∀ b d H', Same H H' → H b = none → Bx H' b d → Q (.ref b) H'
theorem rep97 : (List.replicate (Int.toNat 20) [V.int 97]).flatten = (List.replicate 20 (97 : Int)).map V.int := by decide
theorem m97 : ∀ m ∈ List.replicate 20 (97 : Int), 0 < m ∧ m < 1073741824 := fun m h => by
  obtain ⟨_, rfl⟩ := List.mem_replicate.mp h
  decide
def spTake : Sp := fun vs H Q _ => ∃ (b d : Addr) (m : Int), vs = [.ref b, .int m] ∧ Bx H b d ∧ 0 < m ∧ ∀ r H', 0 ≤ r → r < m → Mv b d H H' → Q (.int r) H'
end
def Vds (K : PySem.W.Frag) (H : Hp) (vs : List V) (ds : List PyData) : Prop := vs.length = ds.length ∧ ∀ (i : Nat) v d, vs[i]? = some v → ds[i]? = some d → Vd K H v d
section
variable {K : PySem.W.Frag} {H H' : Hp}
theorem Vds.nil : Vds K H [] [] := ⟨rfl, fun i v d h _ => by simp at h⟩
theorem Vds.keep {vs : List V} {ds : List PyData} (k : Kt K H H') (h : Vds K H vs ds) : Vds K H' vs ds := ⟨h.1, fun i v d h1 h2 => (h.2 i v d h1 h2).keep k⟩
theorem Vds.snoc {vs : List V} {ds : List PyData} {v : V} {d : PyData} (h : Vds K H vs ds) (hv : Vd K H v d) : Vds K H (vs ++ [v]) (ds ++ [d]) := by
  refine ⟨by rw [List.length_append, List.length_append, h.1]; rfl, fun i x e h1 h2 => ?_⟩
  have hl := h.1
  by_cases hi : i < vs.length
  · rw [List.getElem?_append_left hi] at h1
    rw [List.getElem?_append_left (by omega)] at h2
    exact h.2 i x e h1 h2
  · rw [List.getElem?_append_right (by omega)] at h1
    rw [List.getElem?_append_right (by omega), ← hl] at h2
    obtain ⟨z, hz⟩ : ∃ z, i - vs.length = z := ⟨_, rfl⟩
    rw [hz] at h1 h2
    match z with
    | 0 =>
      cases h1
      cases h2
      exact hv
    | z + 1 => simp at h1
theorem Vds.cons {vs : List V} {ds : List PyData} {v : V} {d : PyData} (hv : Vd K H v d) (h : Vds K H vs ds) : Vds K H (v :: vs) (d :: ds) := by
  refine ⟨by rw [List.length_cons, List.length_cons, h.1], fun i x e h1 h2 => ?_⟩
  match i with
  | 0 =>
    cases h1
    cases h2
    exact hv
  | i + 1 => exact h.2 i x e (by simpa using h1) (by simpa using h2)
theorem Vds.app {vs ws : List V} {ds es : List PyData} (h : Vds K H vs ds) (g : Vds K H ws es) : Vds K H (vs ++ ws) (ds ++ es) := by
  refine ⟨by rw [List.length_append, List.length_append, h.1, g.1], fun i x e h1 h2 => ?_⟩
  have hl := h.1
  by_cases hi : i < vs.length
  · rw [List.getElem?_append_left hi] at h1
    rw [List.getElem?_append_left (by omega)] at h2
    exact h.2 i x e h1 h2
  · rw [List.getElem?_append_right (by omega)] at h1
    rw [List.getElem?_append_right (by omega), ← hl] at h2
    exact g.2 _ x e h1 h2
theorem Vds.tup {vs : List V} {ds : List PyData} {a : Addr} (h : Vds K H vs ds) (ha : SqT K H a vs) : Vd K H (.ref a) (.tuple ds) := .tup ha h.1 h.2
end
section
variable {P : Program} {w : World} {K : PySem.W.Frag} {mg : Str → Option Value} {base : Heap}
def spLKind (K : PySem.W.Frag) (N : Nat) : Sp := fun vs H Q _ => ∃ (b d : Addr) (n : Nat), vs = [.ref b, .int (n : Int)] ∧ Bx H b d ∧ n < N ∧ ∀ v kd H', Mv b d H H' → Vd K H' v (Kd.data kd) → OkK (n + 1) kd → Q v H'
def spLVal (K : PySem.W.Frag) (N : Nat) : Sp := fun vs H Q _ => ∃ (b d : Addr) (u : V) (kd : Kd), vs = [.ref b, u] ∧ Bx H b d ∧ Vd K H u kd.data ∧ OkK N kd ∧ N ≤ 10 ∧ ∀ v e H', Mv b d H H' → Vd K H' v e → Dk N e → isk kd e = true → Q v H'
theorem iskAll_of : ∀ {ks : List Kd} {ds : List PyData}, ks.length = ds.length → (∀ (i : Nat) k d, ks[i]? = some k → ds[i]? = some d → isk k d = true) → iskAll ks ds = true
  | [], [], _, _ => by rw [iskAll]
  | [], _ :: _, h, _ => by simp at h
  | _ :: _, [], h, _ => by simp at h
  | k :: ks, d :: ds, h, q => by
    rw [iskAll, q 0 k d rfl rfl, iskAll_of (by simpa using h) fun i j e h1 h2 => q (i + 1) j e (by simpa using h1) (by simpa using h2)]
    rfl
theorem spLVal_0 (vs : List V) (H : Hp) (Q : VK) (E : XK) : ¬ spLVal K 0 vs H Q E := fun h => by
  obtain ⟨_, _, _, _, _, _, _, h, _⟩ := h
  cases h
end
end Cr
namespace Cr
open PySem PySem.Spec PyProof.Rows L2 Evl
/-! ### conditions -/
inductive Cd where
  | atmost (n : Int) | divides (n : Int) | is (s : Str) | item (i : Int) (c : Cd) | every (c : Cd) | some_ (c : Cd) | size (c : Cd) | sum (c : Cd) | rising | different | not_ (c : Cd) | and_ (c d : Cd) | or_ (c d : Cd)
def Cd.data : Cd → PyData
  | .atmost n => .tuple [.str "atmost", .int n]
  | .divides n => .tuple [.str "divides", .int n]
  | .is s => .tuple [.str "is", .str s]
  | .item i c => .tuple [.str "item", .int i, c.data]
  | .every c => .tuple [.str "every", c.data]
  | .some_ c => .tuple [.str "some", c.data]
  | .size c => .tuple [.str "size", c.data]
  | .sum c => .tuple [.str "sum", c.data]
  | .rising => .tuple [.str "rising"]
  | .different => .tuple [.str "different"]
  | .not_ c => .tuple [.str "not", c.data]
  | .and_ c d => .tuple [.str "and", c.data, d.data]
  | .or_ c d => .tuple [.str "or", c.data, d.data]
inductive OkC : Nat → Cd → Prop
  | atmost {n : Nat} (i : Int) : OkC (n + 1) (.atmost i)
  | divides {n : Nat} (i : Int) : OkC (n + 1) (.divides i)
  | is {n : Nat} {s : Str} : SeqAt.shaped (.str s) = true → s.length ≤ 1000 → OkC (n + 1) (.is s)
  | item {n : Nat} (i : Int) {c : Cd} : OkC n c → OkC (n + 1) (.item i c)
  | every {n : Nat} {c : Cd} : OkC n c → OkC (n + 1) (.every c)
  | some_ {n : Nat} {c : Cd} : OkC n c → OkC (n + 1) (.some_ c)
  | size {n : Nat} {c : Cd} : OkC n c → OkC (n + 1) (.size c)
  | sum {n : Nat} {c : Cd} : OkC n c → OkC (n + 1) (.sum c)
  | rising {n : Nat} : OkC (n + 1) .rising
  | different {n : Nat} : OkC (n + 1) .different
  | not_ {n : Nat} {c : Cd} : OkC n c → OkC (n + 1) (.not_ c)
  | and_ {n : Nat} {c d : Cd} : OkC n c → OkC n d → OkC (n + 1) (.and_ c d)
  | or_ {n : Nat} {c d : Cd} : OkC n c → OkC n d → OkC (n + 1) (.or_ c d)
theorem OkC.mono {n m : Nat} {c : Cd} (h : OkC n c) (hm : n ≤ m) : OkC m c := by
  induction h generalizing m with
  | _ => obtain ⟨m', rfl⟩ : ∃ m', m = m' + 1 := ⟨m - 1, by omega⟩; first | exact .atmost _ | exact .divides _ | exact .rising | exact .different | (constructor <;> first | assumption | (rename_i ih; exact ih (by omega)) | (rename_i ih _; exact ih (by omega)))
/-! ### which condition fits which kind -/
def Kd.isInt : Kd → Bool
  | .int => true
  | _ => false
def Kd.isWord : Kd → Bool
  | .word => true
  | _ => false
def Kd.parts : Kd → List Kd
  | .tup ks => ks
  | _ => []
def fitsC : Cd → Kd → Bool
  | .atmost _, k => k.isInt
  | .divides n, k => k.isInt && (decide (1 ≤ n) && decide (n ≤ 100))
  | .is s, k => k.isWord && Cr.isWord s
  | .item i c, k => (decide (0 ≤ i) && decide (i < (k.parts.length : Int))) && fitsC c (k.parts.getD i.toNat .int)
  | .every c, k => match k with | .lst j => fitsC c j | _ => false
  | .some_ c, k => match k with | .lst j => fitsC c j | _ => false
  | .size c, k => match k with | .lst _ => fitsC c .int | _ => false
  | .sum c, k => match k with | .lst j => j.isInt && fitsC c .int | _ => false
  | .rising, k => match k with | .lst j => j.isInt | _ => false
  | .different, k => match k with | .lst _ => true | _ => false
  | .not_ c, k => fitsC c k
  | .and_ c d, k => fitsC c k && fitsC d k
  | .or_ c d, k => fitsC c k && fitsC d k
def Cd.onList : Cd → Bool
  | .every _ | .some_ _ | .size _ | .sum _ | .rising | .different => true
  | _ => false
theorem eqv_int (k : Kd) : PyData.eqv k.data (.str "int") = k.isInt := by
  cases k with
  | int => rw [Kd.data]; decide +kernel
  | word => rw [Kd.data]; decide +kernel
  | lst j => rw [Kd.data]; rfl
  | tup ks => rw [Kd.data]; rfl
theorem eqv_word (k : Kd) : PyData.eqv k.data (.str "word") = k.isWord := by
  cases k with
  | int => rw [Kd.data]; decide +kernel
  | word => rw [Kd.data]; decide +kernel
  | lst j => rw [Kd.data]; rfl
  | tup ks => rw [Kd.data]; rfl
section
variable {K : PySem.W.Frag} {σ : L2.St} {H0 H H' : Hp} {ta tb tc te tx tl : TE} {t u : TT} {x y z v w : V} {r r' : R2} {tu tz tw : TS} {D : Ends}
/-- kind == 'int', kind == 'word' -/
theorem ev_isInt {k : Kd} {n : Nat} (h : Ev ta σ H v) (hv : Vd K H v k.data) (hk : OkK n k) (hn : n ≤ 20) : Ev (tOp (rEqD K) ta (tC (.str "int"))) σ H (.bl k.isInt) := ev_is (ev_op h ev_c (rv_eqD hv (.str "int") (OkK.shaped hk hn) shaped_int)) (by rw [eqv_int])
theorem ev_isWord {k : Kd} {n : Nat} (h : Ev ta σ H v) (hv : Vd K H v k.data) (hk : OkK n k) (hn : n ≤ 20) : Ev (tOp (rEqD K) ta (tC (.str "word"))) σ H (.bl k.isWord) := ev_is (ev_op h ev_c (rv_eqD hv (.str "word") (OkK.shaped hk hn) shaped_word)) (by rw [eqv_word])
/-- if name == 'x': not so; so -/
theorem skipS {i : Nat} {x y : Str} (e0 : Same H0 H) (h : σ[i]? = some (some (.str x))) (ne : decide (V.str x = V.str y) = false) (k : ∀ H1, Same H0 H1 → tz D σ H1) : tSeq (tIfS (tTest (tOp rEq (tVar i) (tC (.str y)))) tu tNext) tz D σ H :=
  q_when (b := false) (et_is (et_test (ev_op (ev_var h) ev_c (rv_eq rfl))) ne) (fun h => Bool.noConfusion h) fun _ H1 e1 => k H1 (e0.trans e1)
theorem takeS {i : Nat} {x y : Str} (e0 : Same H0 H) (h : σ[i]? = some (some (.str x))) (eq : decide (V.str x = V.str y) = true) (k : ∀ H1, Same H0 H1 → tu { D with nx := tz D } σ H1) : tSeq (tIfS (tTest (tOp rEq (tVar i) (tC (.str y)))) tu tNext) tz D σ H :=
  q_when (b := true) (et_is (et_test (ev_op (ev_var h) ev_c (rv_eq rfl))) eq) (fun _ H1 e1 => k H1 (e0.trans e1)) (fun h => Bool.noConfusion h)
/-- if name in ('x', ..): not so; so -/
theorem skipT {i : Nat} {x : Str} {ys : List V} {ta : TA} (e0 : Same H0 H) (h : σ[i]? = some (some (.str x))) (hy : EvA ta σ H ys) (hl : ys.length ≤ 100000) (fl : ys.all flatV = true) (ne : inV (.str x) ys = false) (k : ∀ H1, Same H0 H1 → tz D σ H1) : tSeq (tIfS (tTest (tOp (rIn K false) (tVar i) (tTup ta))) tu tNext) tz D σ H :=
  q_when (b := false) (et_is (et_test (ev_inU (ev_var h) (eu_tup hy hl) rfl fl)) ne) (fun h => Bool.noConfusion h) fun _ H1 e1 => k H1 (e0.trans e1)
theorem takeT {i : Nat} {x : Str} {ys : List V} {ta : TA} (e0 : Same H0 H) (h : σ[i]? = some (some (.str x))) (hy : EvA ta σ H ys) (hl : ys.length ≤ 100000) (fl : ys.all flatV = true) (eq : inV (.str x) ys = true) (k : ∀ H1, Same H0 H1 → tu { D with nx := tz D } σ H1) : tSeq (tIfS (tTest (tOp (rIn K false) (tVar i) (tTup ta))) tu tNext) tz D σ H :=
  q_when (b := true) (et_is (et_test (ev_inU (ev_var h) (eu_tup hy hl) rfl fl)) eq) (fun _ H1 e1 => k H1 (e0.trans e1)) (fun h => Bool.noConfusion h)
theorem skipL {i : Nat} {x : Str} {ys : List V} {ta : TA} (e0 : Same H0 H) (h : σ[i]? = some (some (.str x))) (hy : EvA ta σ H ys) (hl : ys.length ≤ 100000) (fl : ys.all flatV = true) (ne : inV (.str x) ys = false) (k : ∀ H1, Same H0 H1 → tz D σ H1) : tSeq (tIfS (tTest (tOp (rIn K false) (tVar i) (tLst ta))) tu tNext) tz D σ H :=
  q_when (b := false) (et_is (et_test (ev_opL (ev_var h) (el_lst hy hl) fun p H1 hp e => rv_isL (sq_of hp) rfl fl)) ne) (fun h => Bool.noConfusion h) fun _ H1 e1 => k H1 (e0.trans e1)
theorem takeL {i : Nat} {x : Str} {ys : List V} {ta : TA} (e0 : Same H0 H) (h : σ[i]? = some (some (.str x))) (hy : EvA ta σ H ys) (hl : ys.length ≤ 100000) (fl : ys.all flatV = true) (eq : inV (.str x) ys = true) (k : ∀ H1, Same H0 H1 → tu { D with nx := tz D } σ H1) : tSeq (tIfS (tTest (tOp (rIn K false) (tVar i) (tLst ta))) tu tNext) tz D σ H :=
  q_when (b := true) (et_is (et_test (ev_opL (ev_var h) (el_lst hy hl) fun p H1 hp e => rv_isL (sq_of hp) rfl fl)) eq) (fun _ H1 e1 => k H1 (e0.trans e1)) (fun h => Bool.noConfusion h)
/-- t[1:], a new tuple; a comprehension over a new tuple -/
theorem eu_sl1 {a : Addr} {x : V} {xs : List V} (h : Ev te σ H (.ref a)) (hs : SqT K H a (x :: xs)) : EvU (tSl (rSlT K) te (tPart (tC (.int 1))) tNoPart) σ H xs := fun H1 e Q q => h H1 e _ fun H2 e2 => by
  refine ⟨1, rfl, a, x :: xs, rfl, ex_t (e.trans e2) hs, fun hw => ?_, fun p hp => ?_⟩
  · have h1 := hw.1
    rw [show HT.sIx (x :: xs).length 0 (some 1) = min 1 (x :: xs).length from HT.sIx_nat _ 0 1, List.length_cons] at h1
    omega
  · have hc : cutV (x :: xs) (some 1) none = xs := by
      unfold cutV
      rw [show HT.sIx (x :: xs).length 0 (some 1) = min 1 (x :: xs).length from HT.sIx_nat _ 0 1, HT.sIx_none, List.length_cons, show min 1 (xs.length + 1) = 1 by omega]
      show (List.take (xs.length + 1 - 1) xs) = xs
      rw [Nat.add_sub_cancel]
      exact List.take_length
    rw [hc]
    exact q p _ (fresh_back e2 hp) (e2.trans (Ex.new hp)) upd_same
theorem el_lcNT {xs : List V} {j : Nat} {vs : List Nat} (f : Nat → Bool) (v : Nat → V) (h : EvU tl σ H xs) (hz : xs.length ≤ 40000) (hw : ∀ x, wipe ((wipe σ vs).set j (some x)) vs = wipe σ vs)
    (ht : ∀ (i : Nat) (x : V) H1, Ex H H1 → xs[i]? = some x → EvT t ((wipe σ vs).set j (some x)) H1 (f i)) (he : ∀ (i : Nat) (x : V) H1, Ex H H1 → xs[i]? = some x → f i = true → Ev te ((wipe σ vs).set j (some x)) H1 (v i)) :
    EvL (tLc (iTup K tl) (gName j) t te vs) σ H (given xs.length f v) := fun H0 e Q q => h H0 e _ fun a H1 ha e1 hx => ⟨a, rfl, ⟨xs, st_of hx⟩, fun Dl hD =>
  lc_tup (xs := xs) (Cw H1 f v Dl) ⟨hD, Ex.new hD, upd_same⟩ (fun i H' _ p => st_of (p.2.1 a _ hx)) (fun i x H' hi p => ⟨hw x, cw_turn p (by have := (List.getElem?_eq_some_iff.mp hi).1; omega) (ht i x H1 (e.trans e1) hi) (fun hf => he i x H1 (e.trans e1) hi hf)⟩)
    (fun H' p => q Dl H' (fresh_back e1 p.1) (e1.trans p.2.1) p.2.2)⟩
end
def spFits (K : PySem.W.Frag) (n : Nat) : Sp := fun vs H Q _ => ∃ (v u : V) (c : Cd) (k : Kd), vs = [v, u] ∧ Vd K H v c.data ∧ OkC n c ∧ Vd K H u k.data ∧ OkK 10 k ∧ ∀ H', Same H H' → Q (.bl (fitsC c k)) H'
def spFitsItem (K : PySem.W.Frag) (n : Nat) : Sp := fun vs H Q _ => ∃ (i : Int) (v u : V) (c : Cd) (ks : List Kd), vs = [.int i, v, u] ∧ Vd K H v c.data ∧ OkC n c ∧ Vd K H u (.tuple (dataAll ks)) ∧ (∀ k ∈ ks, OkK 10 k) ∧
  ∀ H', Same H H' → Q (.bl ((decide (0 ≤ i) && decide (i < (ks.length : Int))) && fitsC c (ks.getD i.toNat .int))) H'
def spFitsList (K : PySem.W.Frag) (n : Nat) : Sp := fun vs H Q _ => ∃ (v u : V) (c : Cd) (j : Kd), vs = [v, u] ∧ Vd K H v c.data ∧ OkC (n + 1) c ∧ c.onList = true ∧ Vd K H u j.data ∧ OkK 10 j ∧ ∀ H', Same H H' → Q (.bl (fitsC c (.lst j))) H'
section
variable {K : PySem.W.Frag} {H : Hp}
theorem spFits_0 (vs : List V) (H : Hp) (Q : VK) (E : XK) : ¬ spFits K 0 vs H Q E := fun h => by
  obtain ⟨_, _, _, _, _, _, h, _⟩ := h
  cases h
theorem fits_call {n : Nat} {v u : V} {c : Cd} {k : Kd} (hv : Vd K H v c.data) (hc : OkC n c) (hu : Vd K H u k.data) (hk : OkK 10 k) : SpV (spFits K n) [v, u] H (.bl (fitsC c k)) := fun H1 e Q q E =>
  ⟨v, u, c, k, rfl, hv.keep (Kt.same e), hc, hu.keep (Kt.same e), hk, fun H' e' => q H' e'⟩
/-- the condition's tuple: its name and the rest -/
theorem Cd.name {v : V} {c : Cd} (h : Vd K H v c.data) : ∃ a x xs, v = .ref a ∧ SqT K H a (x :: xs) := by
  cases c <;> (rw [Cd.data] at h; first | (obtain ⟨a, x, rfl, hs, _⟩ := h.g1; exact ⟨a, x, _, rfl, hs⟩) | (obtain ⟨a, x, y, rfl, hs, _⟩ := h.g2; exact ⟨a, x, _, rfl, hs⟩) | (obtain ⟨a, x, y, z, rfl, hs, _⟩ := h.g3; exact ⟨a, x, _, rfl, hs⟩))
theorem int_data : Vd K H (.str "int") Kd.int.data := by rw [Kd.data]; exact .str _
end
/-! ### kinds without empty tuples; what the law's draws of kinds and conditions promise -/
inductive NeK : Kd → Prop
  | int : NeK .int
  | word : NeK .word
  | lst {k : Kd} : NeK k → NeK (.lst k)
  | tup {ks : List Kd} : 0 < ks.length → (∀ k ∈ ks, NeK k) → NeK (.tup ks)
def spLKind2 (K : PySem.W.Frag) (N : Nat) : Sp := fun vs H Q _ => ∃ (b d : Addr) (n : Nat), vs = [.ref b, .int (n : Int)] ∧ Bx H b d ∧ n < N ∧ ∀ v kd H', Mv b d H H' → Vd K H' v (Kd.data kd) → OkK (n + 1) kd → NeK kd → Q v H'
def spLLimit (K : PySem.W.Frag) (N : Nat) : Sp := fun vs H Q _ => ∃ (b d : Addr) (u : V) (kd : Kd) (n m : Nat), vs = [.ref b, u, .int (n : Int)] ∧ Bx H b d ∧ Vd K H u kd.data ∧ OkK m kd ∧ NeK kd ∧ n + m ≤ N ∧ N ≤ 15 ∧ ∀ v c H', Mv b d H H' → Vd K H' v (Cd.data c) → OkC N c → Q v H'
theorem OkK.pos {n : Nat} {k : Kd} (h : OkK n k) : 0 < n := by cases h <;> omega
theorem spLLimit_0 {K : PySem.W.Frag} (vs : List V) (H : Hp) (Q : VK) (E : XK) : ¬ spLLimit K 0 vs H Q E := fun h => by
  obtain ⟨_, _, _, _, n, m, _, _, _, hk, _, hn, _⟩ := h
  have := hk.pos
  omega
theorem item_none {m : Int} {c : Cd} {k : Kd} (h : k.parts = []) : fitsC (.item m c) k = false := by
  show ((decide (0 ≤ m) && decide (m < (k.parts.length : Int))) && fitsC c (k.parts.getD m.toNat .int)) = false
  rw [h]
  by_cases h0 : 0 ≤ m
  · rw [decide_eq_false (show ¬ m < (([] : List Kd).length : Int) from fun h => by simp at h; omega), Bool.and_false]
    rfl
  · rw [decide_eq_false h0]
    rfl
/-! ### what evaluates to data -/
def EvD (K : PySem.W.Frag) (te : TE) (σ : L2.St) (H : Hp) (d : PyData) : Prop := ∀ H1, Ex H H1 → ∀ Q : VK, (∀ v H2, Ex H1 H2 → Vd K H2 v d → Q v H2) → te σ H1 Q
def EvDs (K : PySem.W.Frag) (ta : TA) (σ : L2.St) (H : Hp) (ds : List PyData) : Prop := ∀ H1, Ex H H1 → ∀ Q : List V → Hp → Prop, (∀ vs H2, Ex H1 H2 → Vds K H2 vs ds → Q vs H2) → ta σ H1 Q
section
variable {K : PySem.W.Frag} {σ : L2.St} {H H' : Hp} {te : TE} {ta : TA} {tz : TS} {D : Ends}
theorem evd_int {i : Int} : EvD K (tC (.int i)) σ H (.int i) := fun H1 _ _ q => q _ H1 (Ex.refl H1) (.int i)
theorem evd_str {x : Str} : EvD K (tC (.str x)) σ H (.str x) := fun H1 _ _ q => q _ H1 (Ex.refl H1) (.str x)
theorem evd_neg {i : Int} : EvD K (tUn (rU fun i => .int (-i)) (tC (.int i))) σ H (.int (-i)) := fun H1 _ _ q => ⟨i, rfl, q _ H1 (Ex.refl H1) (.int _)⟩
theorem evd_var {i : Nat} {v : V} {d : PyData} (h : σ[i]? = some (some v)) (hv : Vd K H v d) : EvD K (tVar i) σ H d := fun H1 e _ q => ⟨v, h, q v H1 (Ex.refl H1) (hv.keep (Kt.same e))⟩
theorem evds_nil : EvDs K tNil σ H [] := fun H1 _ _ q => q [] H1 (Ex.refl H1) .nil
theorem evds_cons {d : PyData} {ds : List PyData} (h : EvD K te σ H d) (hr : EvDs K ta σ H ds) : EvDs K (tCons te ta) σ H (d :: ds) := fun H1 e Q q =>
  h H1 e _ fun v H2 e2 hv => hr H2 (e.trans e2) _ fun vs H3 e3 hvs => q (v :: vs) H3 (e2.trans e3) (.cons (hv.keep (Kt.same e3)) hvs)
theorem evd_tup {ds : List PyData} (h : EvDs K ta σ H ds) (hl : ds.length ≤ 1000) : EvD K (tTup ta) σ H (.tuple ds) := fun H1 e Q q =>
  h H1 e _ fun vs H2 e2 hvs => ⟨Nat.le_of_lt (small1000 (by rw [hvs.1]; exact hl)), fun p hp => q (.ref p) _ (e2.trans (Ex.new hp)) ((hvs.keep (Kt.new hp)).tup (.of upd_same))⟩
theorem q_asgDs {i : Nat} {ds : List PyData} (h : EvDs K ta σ H ds) (hl : ds.length ≤ 1000) (k : ∀ p vs H1, H p = none → Ex H H1 → H1 p = some (.lst vs) → Vds K H1 vs ds → tz D (σ.set i (some (.ref p))) H1) : tSeq (tAsg (tLst ta) (gName i)) tz D σ H :=
  h H (Ex.refl H) _ fun vs H2 e2 hvs => ⟨Nat.le_of_lt (small1000 (by rw [hvs.1]; exact hl)), fun p hp => k p vs _ (fresh_back e2 hp) (e2.trans (Ex.new hp)) upd_same (hvs.keep (Kt.new hp))⟩
theorem evds_is {ds es : List PyData} (h : EvDs K ta σ H ds) (e : ds = es) : EvDs K ta σ H es := by
  rw [← e]
  exact h
end
/-- the script stays, whatever a new box lives through -/
theorem script_stays {K : PySem.W.Frag} {H H1 H2 : Hp} {a b d : Addr} {xs : List V} (h : SqL K H a xs) (hb : H b = none) (e : Same H H1) (m : Mv b d H1 H2) : SqL K H2 a xs := by
  rcases h with (h | ⟨o, h⟩) | h
  · exact .inl (.inl (m.1 _ _ (ne_of_none h hb) (e _ _ h)))
  · exact .inl (.inr ⟨o, m.1 _ _ (ne_of_none h hb) (e _ _ h)⟩)
  · exact .inr h
def spLaw (K : PySem.W.Frag) : Sp := fun vs H Q _ => ∃ (a : Addr) (ns : List Int), vs = [.ref a] ∧ SqL K H a (ns.map V.int) ∧ ns.length ≤ 63 ∧ ∀ H', Q (.bl true) H'
end Cr
/-! tuples where the layer has lists: in, sum, sorted, enumerate -/
namespace CrT
open PySem PySem.Spec PyProof.Rows L2
/-! ### in and not in, data of any depth -/
def rInTup (K : PySem.W.Frag) (no : Bool) : R2 := fun x y H Q => ∃ d ds, Dp K H x d ∧ Dp K H y (.tuple ds) ∧ SeqAt.shaped d = true ∧ SeqAt.shaped (.tuple ds) = true ∧ Q (.bl (if no then !ds.any fun z => PyData.eqv z d else ds.any fun z => PyData.eqv z d)) H
theorem tup_room {A : Around} {d : PyData} {ds : List PyData} (hu : A.units + 65 < cLine) (sd : SeqAt.shaped d = true) : A.units + 1 + min (PyData.depthAll ds) d.depth < cLine := by
  have h := SeqAt.depth_of_shaped sd
  have := Nat.min_le_right (PyData.depthAll ds) d.depth
  omega
section
variable {X : Cx}
theorem op_inTup (hu : X.A.units + 65 < cLine) : OpR X (compareOp .In) (rInTup X.K false) := fun pins s σ H x y v u Q I rx ry h => by
  obtain ⟨d, ds, hd, he, sd, se, q⟩ := h
  obtain ⟨as, ra⟩ := Dp.reads I d x v hd rx
  obtain ⟨bs, rb⟩ := Dp.reads I (.tuple ds) y u he ry
  exact SeqAt.in_tuple_reads rb ra (show PyData.canLayAll0 ds = true from SeqAt.canLay_of_shaped se) (SeqAt.canLay_of_shaped sd) (tup_room hu sd) ⟨.bl _, H, I, rfl, q⟩
theorem op_notInTup (hu : X.A.units + 65 < cLine) : OpR X (compareOp .NotIn) (rInTup X.K true) := fun pins s σ H x y v u Q I rx ry h => by
  obtain ⟨d, ds, hd, he, sd, se, q⟩ := h
  obtain ⟨as, ra⟩ := Dp.reads I d x v hd rx
  obtain ⟨bs, rb⟩ := Dp.reads I (.tuple ds) y u he ry
  exact SeqAt.notIn_tuple_reads rb ra (show PyData.canLayAll0 ds = true from SeqAt.canLay_of_shaped se) (SeqAt.canLay_of_shaped sd) (tup_room hu sd) ⟨.bl _, H, I, rfl, q⟩
end
/-! ### sum of a tuple of ints -/
section
variable {prog : Program} {w : World} {A : Around} {E : Value → Shared → Prop} {s : Shared} {l : Addr} {its : List Value} {ns : List Int} {Q : Value → Shared → Prop}
theorem ints_at {i : Nat} {v : Value} (hi : IntsAre its ns) (h : its.toArray[i]? = some v) : ∃ t, v = .int (ns.getD i 0) t := by
  have h' : its[i]? = some v := by simpa using h
  clear h
  induction hi generalizing i with
  | nil => simp at h'
  | cons n k _ ih =>
    cases i with
    | zero =>
      cases h'
      exact ⟨_, rfl⟩
    | succ i => exact ih (by simpa using h')
theorem preSum_list (ns : List Int) : preSum (fun i => ns.getD i 0) ns.length = ns.sum := by
  have h : ∀ i, i ≤ ns.length → preSum (fun i => ns.getD i 0) i = (ns.take i).sum := fun i => by
    induction i with
    | zero => intro _; rfl
    | succ i ih =>
      intro hi
      have e : ns[i]? = some (ns.getD i 0) := by
        rw [List.getD_eq_getElem?_getD, List.getElem?_eq_getElem (by omega)]
        rfl
      rw [sum_take e, ← ih (by omega)]
      rfl
  rw [h _ (Nat.le_refl _), List.take_length]
theorem sum_tup (hh : A.handled = none) (hl : s.heap.IsTuple l its.toArray) (hi : IntsAre its ns)
    (h : ∀ h' tk t', (∀ b o, s.heap.get? b = some o → h'.get? b = some o) → Q (.int ns.sum t') { s with heap := h', toks := tk }) : wpAny (model prog w) A (call (.builtin "sum") [.ref l]) Q E s := by
  have hlt : l < s.heap.objs.size := by
    obtain ⟨_, e, _⟩ := hl
    exact Heap.lt_size e
  refine call_sum_walkG (wpAny_pyIter_tuple hl ?_)
  refine ⟨_, _, _, _, _, _, fun i => ns.getD i 0, rfl, Walks.tuple (A := A.in1) hh _ l (Nat.ne_of_lt hlt) its.toArray, ⟨⟨_, Heap.get?_push_size _ rfl, rfl, rfl⟩, hl.push _⟩, fun b hb => ?_, fun i v hv => ints_at hi hv, fun h' tk t' hk => ?_⟩
  · show b < (s.heap.push _).objs.size
    rw [Heap.size_push]
    simp only [List.mem_cons, List.not_mem_nil, or_false] at hb
    rcases hb with rfl | rfl
    · exact Nat.lt_succ_self _
    · exact Nat.lt_succ_of_lt hlt
  · have hn : its.toArray.size = ns.length := by rw [List.size_toArray, hi.length]
    rw [hn, preSum_list]
    refine h h' tk t' fun b o e => hk b o (fun hm => ?_) (Heap.get?_push_of_some _ e)
    cases List.mem_singleton.mp hm
    exact absurd (Heap.lt_size e) (Nat.lt_irrefl _)
/-! ### sorted of a tuple of ints -/
theorem collect_tup {R : List Value → Shared → Prop} (hl : s.heap.IsTuple l its.toArray) (h : R its { s with heap := (s.heap.push (seqObj "list" #[] 0)).update s.heap.objs.size (Obj.mapSeq (· ++ its.toArray)) }) (hz : its.length ≤ sizeLine) :
    wpAny (model prog w) A (collect (.ref l)) R E s := by
  obtain ⟨ob, hob, hcl, n, hdt⟩ := id hl
  unfold collect
  refine wpAny_bind (wpAny_runValue (codeAny_builtin entry_proto_collect' (by
    show wpAny _ _ (do again (.builtin "list.__iadd__" ⟨[← newList [], .ref l], []⟩)) _ _ s
    refine wpAny_bind (wpAny_newList (wpAny_pure ⟨Code.quiet_builtin _ (by decide +kernel), codeAny_builtin entry_list_iadd' ?_⟩))
    have hob' : (s.heap.push (seqObj "list" #[] 0)).get? l = some ob := Heap.get?_push_of_some _ hob
    show wpAny _ _ (Builtin.List.listExtendWith (.ref s.heap.objs.size) (.ref l) (.ref s.heap.objs.size)) _ _ { s with heap := s.heap.push (seqObj "list" #[] 0) }
    unfold Builtin.List.listExtendWith
    refine wpAny_bind (wpAny_typeOf (T := "tuple") ⟨ob, hob', hcl⟩ ?_)
    have two : (Value.type "tuple" == Value.type "tuple") = true := by rfl
    rw [if_pos (by rw [two]; simp)]
    refine wpAny_bind (listItems_at hob' hdt (listItems_at (xs := #[]) (n := 0) (Heap.get?_push_size _ rfl) rfl ?_ |> wpAny_bind))
    rw [if_neg (by simp)]
    refine wpAny_bind (listUpdate_at (xs := #[]) (n := 0) (Heap.get?_push_size _ rfl) rfl (wpAny_pure ?_) (Nat.zero_le _) (by
      show (#[] ++ its.toArray).size ≤ sizeLine + 1
      rw [Array.size_append, List.size_toArray]
      show 0 + its.length ≤ _
      omega))
    show wpAny (model prog w) A (do
        let o ← load s.heap.objs.size
        match o.data with
        | .seq xs _ => pure xs.toList
        | _ => unsupported "internal:collect") R E { s with heap := (s.heap.push (seqObj "list" #[] 0)).update s.heap.objs.size (Obj.mapSeq (· ++ its.toArray)) }
    refine wpAny_bind (wpAny_load (get?_update_seq (Heap.get?_push_size _ rfl) _) ?_)
    have same : ((#[] : Array Value) ++ its.toArray).toList = its := by simp
    show wpAny _ _ (pure ((#[] : Array Value) ++ its.toArray).toList) R E _
    rw [same]
    exact wpAny_pure h)))
theorem sorted_tup (hl : s.heap.IsTuple l its.toArray) (hi : IntsAre its ns) (h64 : its.length < 64)
    (h : ∀ (out : Array Value) (ms : List Int), IntsAre out.toList ms → ms.Perm ns → ms.Pairwise (· ≤ ·) → Q (.ref (s.heap.objs.size + 1)) { s with heap := sortedAll s.heap its out }) : wpAny (model prog w) A (call (.builtin "sorted") [.ref l]) Q E s := by
  refine Calls.call_function_entry kind_sorted plain_sorted entry_sorted (args_sorted1 _) (by
    unfold Builtin.«sorted»
    refine wpAny_bind (m := checkCount "sorted" 1 1 _) (wpAny_pure (wpAny_bind (collect_tup hl (wpAny_bind (wpAny_newList ?_)) (small64 h64))))
    have len1 : ((s.heap.push (seqObj "list" #[] 0)).update s.heap.objs.size (Obj.mapSeq (· ++ its.toArray))).objs.size = s.heap.objs.size + 1 := by rw [Heap.size_update, size_push']
    have atL : (((s.heap.push (seqObj "list" #[] 0)).update s.heap.objs.size (Obj.mapSeq (· ++ its.toArray))).push (seqObj "list" its.toArray 0)).get? (s.heap.objs.size + 1) = some (seqObj "list" its.toArray 0) := by
      rw [← len1]
      exact Heap.get?_push_size _ rfl
    show wpAny _ _ _ _ _ { s with heap := ((s.heap.push (seqObj "list" #[] 0)).update s.heap.objs.size (Obj.mapSeq (· ++ its.toArray))).push (seqObj "list" its.toArray 0) }
    rw [len1]
    exact wpAny_bind (wpAny_holding (wpAny_call_entry slot_list_sort ⟨_, atL, rfl⟩ entry_list_sort (list_sort_tree atL hi h64 fun out ms b1 b2 b3 => ⟨_, rfl, wpAny_pure ⟨_, rfl, h out ms b1 b2 b3⟩⟩) (args_list_sort _))))
end
section
variable {X : Cx}
def rSumT (K : PySem.W.Frag) : List V → Hp → VK → Prop := fun vs H Q => ∃ (a : Addr) (ns : List Int), vs = [V.ref a] ∧ SqT K H a (ns.map V.int) ∧ Q (.int ns.sum) H
theorem cr_sumT (hc : X.calm = true) : CallR X (.builtin "sum") (rSumT X.K) := fun pins s σ H vs us Q I r h => by
  obtain ⟨a, ns, rfl, hs, q⟩ := h
  obtain ⟨its, rv, hl, _⟩ := I.tuple hs
  rw [Vals.ref1 r]
  exact sum_tup (I.ok.hd hc) hl rv.ints fun h' tk t' hk => ⟨.int _, H, I.kept hk, ⟨_, rfl⟩, q⟩
def rSortedTup (K : PySem.W.Frag) : List V → Hp → VK → Prop := fun vs H Q => ∃ (a : Addr) (ns : List Int), vs = [V.ref a] ∧ SqT K H a (ns.map V.int) ∧ ns.length < 64 ∧
  ∀ (ms : List Int) (p : Addr), ms.Perm ns → ms.Pairwise (· ≤ ·) → H p = none → Q (.ref p) (upd H p (.lst (ms.map V.int)))
theorem cr_sortedTup : CallR X (.builtin "sorted") (rSortedTup X.K) := fun pins s σ H vs us Q I r h => by
  obtain ⟨a, ns, rfl, hs, h64, q⟩ := h
  obtain ⟨its, rv, hl, _⟩ := I.tuple hs
  rw [Vals.ref1 r]
  have hi := rv.ints
  have hn : its.length < 64 := by rw [hi.length]; exact h64
  refine sorted_tup hl hi hn fun out ms a1 a2 a3 => ?_
  obtain ⟨ep, at_⟩ := PyProof.Rows.sortedAll_at s.heap its out
  have hz : (ms.map V.int).length ≤ sizeLine := by rw [List.length_map, a2.length_eq]; exact small64 h64
  refine ⟨.ref _, upd H (s.heap.objs.size + 1) (.lst (ms.map V.int)), ?_, rfl, q ms _ a2 a3 (I.hok.fresh (Nat.le_succ _))⟩
  exact I.laid (t' := s.toks) (fun _ _ => PyProof.Rows.sortedAll_old) (Nat.le_succ _) ⟨hz, out.toList, ep, vals_of_ints a1, at_⟩
end
/-! ### enumerate of a tuple -/
theorem enum_newT (t : Addr) (items : Array Value) : Meets (Builtin.«enumerate.__new__» ⟨[.type "enumerate", .ref t], []⟩) (fun _ R s => s.heap.IsTuple t items ∧
    R (.ok (.ret (.ref (s.heap.push { cls := .type "tuple_iterator", data := .fields #[.ref t, .int 0 0] }).objs.size)))
      { s with heap := (s.heap.push { cls := .type "tuple_iterator", data := .fields #[.ref t, .int 0 0] }).push { cls := .type "enumerate", data := .fields #[.none, .bool false, .ref s.heap.objs.size, rawInt 0, .none, .none] } }) :=
  .of_wp fun prog w A R s hr => by
    obtain ⟨hp, g, d, tk, os⟩ := s
    obtain ⟨ht, hr⟩ := hr
    have hsub := sub_enumerate
    have it1 : ∀ {A' : Around} {E : Value → Shared → Prop} {Q : Value → Shared → Prop}, Q (.ref hp.objs.size) ⟨hp.push { cls := .type "tuple_iterator", data := .fields #[.ref t, .int 0 0] }, g, d, tk, os⟩ → wpAny (model prog w) A' (pyIter (.ref t)) Q E ⟨hp, g, d, tk, os⟩ :=
      fun q => wpAny_pyIter_tuple (s := ⟨hp, g, d, tk, os⟩) ht q
    wp_walk using it1
    refine wpAny_stack_any fun st => wpAny_pure (by
      split
      · rename_i c _ _ _ _ _
        cases (c == Value.type "enumerate") <;> (wp_walk using it1; exact ⟨_, rfl, hr⟩)
      · wp_walk using it1
        exact ⟨_, rfl, hr⟩)
section
variable {prog : Program} {w : World} {A : Around} {E : Value → Shared → Prop} {s : Shared}
theorem enum_tup {t : Addr} {items : Array Value} {Q : Value → Shared → Prop} (ht : s.heap.IsTuple t items)
    (h : ∀ h', IsEnum h' (s.heap.objs.size + 1) s.heap.objs.size 0 .none → h'.IsTupleIter s.heap.objs.size t 0 → (∀ b o, s.heap.get? b = some o → h'.get? b = some o) → Q (.ref (s.heap.objs.size + 1)) { s with heap := h' }) :
    wpAny (model prog w) A (call (.type "enumerate") [.ref t]) Q E s := by
  have len1 : (s.heap.push { cls := .type "tuple_iterator", data := .fields #[.ref t, .int 0 0] }).objs.size = s.heap.objs.size + 1 := Heap.size_push ..
  refine callType_new F.called_enumerate (by decide) (F.typeCall_enumerate_1 _) (F.newCall_enumerate_1 _) (fun obj => F.args_object_init_2 obj _) F.entry_enumerate_new (enum_newT t items) ⟨ht, ?_⟩
  show _ ∧ _
  rw [len1]
  have en : IsEnum ((s.heap.push { cls := .type "tuple_iterator", data := .fields #[.ref t, .int 0 0] }).push { cls := .type "enumerate", data := .fields #[.none, .bool false, .ref s.heap.objs.size, rawInt 0, .none, .none] }) (s.heap.objs.size + 1) s.heap.objs.size 0 .none := by
    have h0 := Heap.get?_push_size (s.heap.push { cls := .type "tuple_iterator", data := .fields #[.ref t, .int 0 0] }) (o := { cls := .type "enumerate", data := .fields #[.none, .bool false, .ref s.heap.objs.size, rawInt 0, .none, .none] }) rfl
    rw [len1] at h0
    exact h0
  exact ⟨⟨_, en, rfl⟩, h _ en ⟨_, Heap.get?_push_of_some _ (Heap.get?_push_size _ rfl), rfl, rfl⟩ fun b o x => Heap.get?_push_of_some _ (Heap.get?_push_of_some _ x)⟩
end
def IteT (K : PySem.W.Frag) (a : Addr) : It :=
  ⟨fun i H => ∃ (xs : List V) (x : V), SqT K H a xs ∧ xs[i]? = some x, fun i H v H' => ∃ T x, v = .ref T ∧ H T = none ∧ H' = upd H T (.tup [.int (i : Nat), x]) ∧ ∀ xs, SqT K H a xs → xs[i]? = some x, fun i H => ∃ xs : List V, SqT K H a xs ∧ xs.length ≤ i⟩
theorem turn_enumT {P : Program} {w : World} {K : PySem.W.Frag} {elts : List Expr} {kk : Nat} {tpos : Pos} {a e it : Addr} (hei : e ≠ it) (hai : a ≠ it) (hae : a ≠ e) :
    Turn P w K (.Tuple elts kk tpos) (IteT K a) [e, it] e (fun i h => (∃ old, IsEnum h e it ((i : Nat) : Int) old) ∧ h.IsTupleIter it a i) where
  mem := by simp
  obj := fun i h st b hb => by
    obtain ⟨⟨old, he⟩, ⟨o, ho, _, hd⟩⟩ := st
    simp only [List.mem_cons, List.not_mem_nil, or_false] at hb
    rcases hb with rfl | rfl
    · exact ⟨_, he, fun v q => nomatch q⟩
    · exact ⟨o, ho, fun v q => by rw [hd] at q; cases q⟩
  keep := fun i h h' st k => let ⟨⟨old, he⟩, hi⟩ := st; ⟨⟨old, k e (by simp) _ he⟩, hi.at fun o q => k it (by simp) o q⟩
  item := by
    intro X hP hw hK hc i pins s σ H E I hf st hg
    subst hP hw hK
    obtain ⟨⟨old, he⟩, hit⟩ := st
    obtain ⟨xs, x, hq, hx⟩ := hg
    obtain ⟨its, rv, p, hz⟩ := I.tuple hq
    obtain ⟨u, hu, ru⟩ := rv.get hx
    have le : e < s.heap.objs.size := Heap.lt_size he
    have li : it < s.heap.objs.size := by obtain ⟨_, q, _⟩ := hit; exact Heap.lt_size q
    have lt_ : i < its.toArray.size := by
      have := (List.getElem?_eq_some_iff.mp hu).1
      rw [List.size_toArray]
      exact this
    refine wpAny_pyNext_enum_itemD (Draws.tuple (A := X.A.in1) (show X.A.in1.handled = none from I.ok.hd hc) it a hai its.toArray) he ⟨hit, p⟩ lt_ hei (by simp only [List.mem_cons, List.not_mem_nil, or_false]; rintro (h | h); exact hei h; exact hae h.symm) fun u' h' tk hP ho st' hT hsz hk => ?_
    have hu' : u' = u := by
      have q : its[i]? = some u' := by simpa using hP
      rw [hu] at q
      exact (Option.some.inj q).symm
    subst hu'
    refine ⟨_, rfl, wpAny_letOwnedTupleGo_enum (s := { s with heap := h', toks := tk + 1 }) ho fun h'' he' sb => ?_⟩
    have hT2 : h''.get? s.heap.objs.size = some { cls := .type "tuple", data := .seq #[.int i tk, u'] } := (sb.2 _ (Nat.ne_of_gt le)).trans hT
    have fresh : ObjOk X.prog X.w (upd H s.heap.objs.size (.tup [.int (i : Nat), x])) h'' s.heap.objs.size (.tup [.int (i : Nat), x]) :=
      ⟨by show 2 ≤ sizeLine; decide, [.int i tk, u'], .cons ⟨_, rfl⟩ (.cons ru .nil), ⟨_, hT2, rfl, _, rfl⟩⟩
    have I1 : Inv X pins σ (upd H s.heap.objs.size (.tup [.int (i : Nat), x])) { s with heap := h'', toks := tk + 1 } :=
      I.turnedNew (ch := [e, it]) (fun b ob hb q => (sb.2 b (fun z => hb (by simp [z]))).trans (hk b ob (fun z => hb (by simp [z])) (fun z => hb (by simp [z])) q)) hf (Nat.le_refl _) fresh
    have e1 : ((i + 1 : Nat) : Int) = (i : Int) + 1 := by omega
    refine ⟨.ref s.heap.objs.size, _, I1, rfl, ⟨_, x, rfl, I.hok.fresh (Nat.le_refl _), rfl, fun ys hy => by rw [I.tuple_inj hy hq]; exact hx⟩, ⟨⟨u', by rw [e1]; exact he'⟩, st'.1.at fun o q => (sb.2 it (Ne.symm hei)).trans q⟩, fun b hb => ?_⟩
    have lb : b < s.heap.objs.size := by
      simp only [List.mem_cons, List.not_mem_nil, or_false] at hb
      rcases hb with rfl | rfl
      · exact le
      · exact li
    rw [upd_ne (Nat.ne_of_lt lb)]
    exact (hf b hb).1
  done := by
    intro X hP hw hK hc i pins s σ H E I hf st hg
    subst hP hw hK
    obtain ⟨⟨old, he⟩, hit⟩ := st
    obtain ⟨xs, hq, hx⟩ := hg
    obtain ⟨its, rv, p, hz⟩ := I.tuple hq
    obtain ⟨f0, f1, f2, f3, f4, f5⟩ := hf it (by simp)
    have hl := rv.length
    have hT : s.TypeIs (.ref e) "enumerate" := ⟨_, he, rfl⟩
    have no : its.toArray[i]? = none := by simp; omega
    unfold pyNext
    refine wpAny_bind (wpAny_attempt (wpAny_callSpecial?_slot (name := Str.ofString "__next__") hT F.slot_enumerate_next (wpAny_call_entry F.slot_enumerate_next hT F.entry_enumerate_next ?_ (F.args_enumerate_next_1 _))))
    show wpAny _ _ (field (.ref e) 2 >>= _) _ _ _
    refine wpAny_bind (wpAny_field he rfl (x := .ref it) rfl (wpAny_bind (wpAny_nextOf_tuple_end (I.ok.hd hc) hit p no fun h' x hb hs => ?_)))
    obtain ⟨o, ho, hcl⟩ := hs
    exact wpAny_bind (wpAny_isInstance (T := "StopIteration") (b := true) ⟨o, ho, hcl⟩ isSubtype_stop (wpAny_pure ⟨rfl, I.turned (t' := s.toks) (fun b o hb' q => hb b o hb' q) f0 f1 f3 f4 f5⟩))
  self := fun A i s Q E st h => let ⟨⟨_, he⟩, _⟩ := st; wpAny_pyIter_enum he h
def iEnumT (K : PySem.W.Frag) (ta : TA) : TI := fun σ H R => ta σ H fun vs H1 => ∃ a xs, vs = [.ref a] ∧ SqT K H1 a xs ∧ R (IteT K a) H1
theorem pi_enumT {X : Cx} {e : Expr} {ta : TA} {p pos tpos : Pos} {elts : List Expr} {kk : Nat} (hg : Gl X "enumerate") (hm : X.mg "enumerate" = none) (ha : PA X [e] ta) (hs : starEach [e] X.env = [(false, eval e X.env)] := by rfl) :
    PI X (.Tuple elts kk tpos) (.Call (.Name "enumerate" p) [e] [] pos) (iEnumT X.K ta) := ⟨fun pins s σ H R I h => by
  refine Call_ (ld_blt I hg hm boot_enumerate (PyProof.Rows.callWith_type1 (thn (ha.run pos pins s σ H _ I h) fun us s1 ⟨vs, H1, I1, r1, q1⟩ => ?_) hs rfl))
  obtain ⟨a, xs, rfl, hq, q⟩ := q1
  cases r1 with
  | cons r rr =>
    cases rr
    cases r
    obtain ⟨its, rv, tp, hz⟩ := I1.tuple hq
    have la : a < s1.heap.objs.size := by
      obtain ⟨_, e, _⟩ := id tp
      exact Heap.lt_size e
    refine enum_tup (show s1.heap.IsTuple a its.toArray from tp) fun h' he hit hk => wpAny_pyIter_enum he ?_
    refine ⟨s1.heap.objs.size + 1, [s1.heap.objs.size + 1, s1.heap.objs.size], _, _, H1, rfl, I1.kept (t' := s1.toks) hk, turn_enumT (Nat.succ_ne_self _) (Nat.ne_of_lt la) (Nat.ne_of_lt (Nat.lt_succ_of_lt la)), ⟨⟨.none, he⟩, hit⟩, fun b hb => ?_, q⟩
    have hle : s1.heap.objs.size ≤ b := by
      simp only [List.mem_cons, List.not_mem_nil, or_false] at hb
      rcases hb with rfl | rfl
      · exact Nat.le_add_right _ _
      · exact Nat.le_refl _
    exact I1.fpOk hle (I1.hok.fresh hle)⟩
theorem walk_enumT {K : PySem.W.Frag} {a : Addr} {xs : List V} : Walk (IteT K a) xs.length (fun H => SqT K H a xs) (YPair (fun i => some (.int (i : Nat))) (fun i => xs[i]?)) :=
  ⟨fun i _ hi q => ⟨xs, xs[i], q, by simp [hi]⟩, fun _ q => ⟨xs, q, Nat.le_refl _⟩, fun i H v H' _ q y => by
    obtain ⟨T, x, h1, h2, h3, h4⟩ := y
    exact ⟨T, .int (i : Nat), x, h1, h2, h3, rfl, h4 xs q⟩⟩
end CrT
namespace Cr
open PySem PySem.Spec PyProof.Rows L2 Evl CrT
/-! ### which condition holds of which value -/
def numD : PyData → Int
  | .int i => i
  | _ => 0
def rise : List Int → Bool
  | a :: b :: r => decide (a ≤ b) && rise (b :: r)
  | _ => true
def diff : List PyData → Bool
  | [] => true
  | d :: ds => (!ds.any fun z => PyData.eqv z d) && diff ds
def holdsC : Cd → PyData → Bool
  | .atmost n, d => match d with | .int i => decide (i ≤ n) | _ => false
  | .divides n, d => match d with | .int i => decide (V.int (i % n) = V.int 0) | _ => false
  | .is s, d => match d with | .str x => decide (V.str x = V.str s) | _ => false
  | .item i c, d => match d with | .tuple ds => holdsC c (ds.getD i.toNat .none) | _ => false
  | .every c, d => match d with | .tuple ds => ds.all (holdsC c) | _ => false
  | .some_ c, d => match d with | .tuple ds => ds.any (holdsC c) | _ => false
  | .size c, d => match d with | .tuple ds => holdsC c (.int (ds.length : Int)) | _ => false
  | .sum c, d => match d with | .tuple ds => holdsC c (.int (ds.map numD).sum) | _ => false
  | .rising, d => match d with | .tuple ds => rise (ds.map numD) | _ => false
  | .different, d => match d with | .tuple ds => diff ds | _ => false
  | .not_ c, d => !holdsC c d
  | .and_ c e, d => holdsC c d && holdsC e d
  | .or_ c e, d => holdsC c d || holdsC e d
/-! ### what fitting and being of the kind say -/
theorem isInt_of {k : Kd} (h : k.isInt = true) : k = .int := by cases k <;> first | rfl | cases h
theorem isWord_of {k : Kd} (h : k.isWord = true) : k = .word := by cases k <;> first | rfl | cases h
theorem isk_int {d : PyData} (h : isk .int d = true) : ∃ i, d = .int i := by
  cases d <;> first | exact ⟨_, rfl⟩ | simp [isk] at h
theorem isk_word {d : PyData} (h : isk .word d = true) : ∃ s, d = .str s := by
  cases d <;> first | exact ⟨_, rfl⟩ | simp [isk] at h
theorem isk_lst {j : Kd} {d : PyData} (h : isk (.lst j) d = true) : ∃ ds, d = .tuple ds ∧ ∀ e ∈ ds, isk j e = true := by
  cases d <;> first | exact ⟨_, rfl, fun e he => List.all_eq_true.mp (by rw [isk] at h; exact h) e he⟩ | simp [isk] at h
theorem isk_tup {ks : List Kd} {d : PyData} (h : isk (.tup ks) d = true) : ∃ ds, d = .tuple ds ∧ iskAll ks ds = true := by
  cases d <;> first | exact ⟨_, rfl, by rw [isk] at h; exact h⟩ | simp [isk] at h
theorem iskAll_get : ∀ {ks : List Kd} {ds : List PyData}, iskAll ks ds = true → ks.length = ds.length ∧ ∀ (i : Nat), i < ks.length → isk (ks.getD i .int) (ds.getD i .none) = true
  | [], [], _ => ⟨rfl, fun i h => by simp at h⟩
  | [], _ :: _, h => by simp [iskAll] at h
  | _ :: _, [], h => by simp [iskAll] at h
  | k :: ks, d :: ds, h => by
    rw [iskAll] at h
    obtain ⟨h1, h2⟩ := Bool.and_eq_true_iff.mp h
    obtain ⟨hl, hi⟩ := iskAll_get h2
    refine ⟨by rw [List.length_cons, List.length_cons, hl], fun i hi' => ?_⟩
    cases i with
    | zero => exact h1
    | succ i => exact hi i (by simpa using hi')
theorem fits_item {m : Int} {c : Cd} {k : Kd} (h : fitsC (.item m c) k = true) : ∃ (j : Nat) (ks : List Kd), m = (j : Int) ∧ k = .tup ks ∧ j < ks.length ∧ fitsC c (ks.getD j .int) = true := by
  have h' : ((decide (0 ≤ m) && decide (m < (k.parts.length : Int))) && fitsC c (k.parts.getD m.toNat .int)) = true := h
  obtain ⟨h1, h2⟩ := Bool.and_eq_true_iff.mp h'
  obtain ⟨h3, h4⟩ := Bool.and_eq_true_iff.mp h1
  have h3 := of_decide_eq_true h3
  have h4 := of_decide_eq_true h4
  obtain ⟨j, rfl⟩ := Int.eq_ofNat_of_zero_le h3
  cases k with
  | tup ks => exact ⟨j, ks, rfl, rfl, Int.ofNat_lt.mp h4, h2⟩
  | _ => exact absurd h4 (by simp only [Kd.parts, List.length_nil]; omega)
theorem fits_list {f : Kd → Bool} {k : Kd} (h : (match k with | .lst j => f j | _ => false) = true) : ∃ j, k = .lst j ∧ f j = true := by
  cases k with
  | lst j => exact ⟨j, rfl, h⟩
  | _ => cases h
theorem ints_of {ds : List PyData} (h : ∀ e ∈ ds, isk .int e = true) : ds = (ds.map numD).map PyData.int := by
  rw [List.map_map]
  refine (List.map_id ds).symm.trans (List.map_congr_left fun e he => ?_)
  obtain ⟨i, rfl⟩ := isk_int (h e he)
  rfl
section
variable {K : PySem.W.Frag} {σ : L2.St} {H H' : Hp} {ta tb tl tm te : TE} {t : TT} {v x y z : V}
theorem vd_ints {a : Addr} {ns : List Int} (h : Vd K H (.ref a) (.tuple (ns.map PyData.int))) : SqT K H a (ns.map V.int) := by
  obtain ⟨xs, hs, hl, hi⟩ := h.get
  have e : xs = ns.map V.int := by
    rw [List.length_map] at hl
    apply List.ext_getElem
    · rw [List.length_map, hl]
    · intro i h1 h2
      have h3 : i < ns.length := by omega
      have q := (hi i _ _ (List.getElem?_eq_getElem h1) (by rw [List.getElem?_map, List.getElem?_eq_getElem h3]; rfl)).int_inv
      rw [q]
      simp
  rw [← e]
  exact hs
/-- a tuple, new or not -/
def EvS (K : PySem.W.Frag) (te : TE) (σ : L2.St) (H : Hp) (ys : List V) : Prop := ∀ H1, Ex H H1 → ∀ Q : VK, (∀ p H2, Ex H1 H2 → SqT K H2 p ys → Q (.ref p) H2) → te σ H1 Q
theorem evs_from1 {a : Addr} {xs : List V} (h : Ev te σ H (.ref a)) (hs : SqT K H a xs) : EvS K (tSl (rSlA K) te (tPart (tC (.int 1))) tNoPart) σ H (xs.drop 1) := fun H1 e Q q => h H1 e _ fun H2 e2 => by
  have h2 := ex_t (e.trans e2) hs
  have s1 : HT.sIx xs.length 0 (some 1) = min 1 xs.length := HT.sIx_nat _ 0 1
  refine ⟨1, rfl, a, xs, rfl, h2, fun hw => ?_, fun hw p hp => ?_⟩
  · have h1 := hw.1
    rw [s1] at h1
    have : xs = [] := by
      cases xs with
      | nil => rfl
      | cons _ _ => rw [List.length_cons] at h1; omega
    subst this
    exact q a H2 e2 h2
  · have hc : cutV xs (some 1) none = xs.drop 1 := by
      unfold cutV
      rw [s1, HT.sIx_none]
      cases xs with
      | nil => rfl
      | cons x r =>
        rw [show min 1 (x :: r).length = 1 by rw [List.length_cons]; omega]
        show (List.take ((x :: r).length - 1) r) = r
        rw [List.length_cons, Nat.add_sub_cancel]
        exact List.take_length
    rw [hc]
    exact q p _ (e2.trans (Ex.new hp)) (.of upd_same)
/-- t[i + 1:], t[:j] within the tuple -/
theorem evs_after {a : Addr} {xs : List V} {i : Nat} (h : Ev te σ H (.ref a)) (hi : Ev ta σ H (.int ((i : Int) + 1))) (hs : SqT K H a xs) (hl : i < xs.length) : EvS K (tSl (rSlA K) te (tPart ta) tNoPart) σ H (xs.drop (i + 1)) := fun H1 e Q q => h H1 e _ fun H2 e2 => hi H2 (e.trans e2) _ fun H3 e3 => by
  have h2 := ex_t ((e.trans e2).trans e3) hs
  have s1 : HT.sIx xs.length 0 (some ((i : Int) + 1)) = i + 1 := by
    rw [show ((i : Int) + 1) = ((i + 1 : Nat) : Int) by omega, HT.sIx_nat]
    omega
  refine ⟨_, rfl, a, xs, rfl, h2, fun hw => ?_, fun hw p hp => ?_⟩
  · have h1 := hw.1
    rw [s1] at h1
    omega
  · have hc : cutV xs (some ((i : Int) + 1)) none = xs.drop (i + 1) := by
      unfold cutV
      rw [s1, HT.sIx_none]
      exact List.take_of_length_le (by rw [List.length_drop]; exact Nat.le_refl _)
    rw [hc]
    exact q p _ ((e2.trans e3).trans (Ex.new hp)) (.of upd_same)
theorem evs_ahead {a : Addr} {xs : List V} {j : Nat} (h : Ev te σ H (.ref a)) (hi : Ev ta σ H (.int (j : Int))) (hs : SqT K H a xs) (hl : j < xs.length) : EvS K (tSl (rSlA K) te tNoPart (tPart ta)) σ H (xs.take j) := fun H1 e Q q => h H1 e _ fun H2 e2 => hi H2 (e.trans e2) _ fun H3 e3 => by
  have h2 := ex_t ((e.trans e2).trans e3) hs
  have s1 : HT.sIx xs.length xs.length (some (j : Int)) = j := by
    rw [HT.sIx_nat]
    omega
  refine ⟨_, rfl, a, xs, rfl, h2, fun hw => ?_, fun hw p hp => ?_⟩
  · have h1 := hw.2
    rw [s1] at h1
    omega
  · have hc : cutV xs none (some (j : Int)) = xs.take j := by
      unfold cutV
      rw [s1, HT.sIx_none]
      rfl
    rw [hc]
    exact q p _ ((e2.trans e3).trans (Ex.new hp)) (.of upd_same)
/-- x in such a tuple -/
theorem ev_inS {no : Bool} {d : PyData} {ds : List PyData} {ys : List V} (ha : Ev ta σ H x) (hb : EvS K tb σ H ys) (hx : Vd K H x d) (hy : ∀ H1, Ex H H1 → Vds K H1 ys ds) (sd : SeqAt.shaped d = true) (se : SeqAt.shaped (.tuple ds) = true) :
    Ev (tOp (rInTup K no) ta tb) σ H (.bl (if no then !ds.any fun z => PyData.eqv z d else ds.any fun z => PyData.eqv z d)) := fun H1 e Q q =>
  ha H1 e _ fun H2 e2 => hb H2 (e.trans e2) _ fun p H3 e3 hp => ⟨d, ds, (hx.keep (Kt.same ((e.trans e2).trans e3))).dp, ((hy H3 ((e.trans e2).trans e3)).tup hp).dp, sd, se, q H3 (e2.trans e3)⟩
/-- all pairs of two tuples, the second one such -/
theorem el_lcZS {a : Addr} {xs ys : List V} {j1 j2 : Nat} {vs : List Nat} (v : Nat → V) (h : Ev tl σ H (.ref a)) (h2 : EvS K tm σ H ys) (hx : SqT K H a xs) (hz : min xs.length ys.length ≤ 40000)
    (hw : ∀ x y, wipe (((wipe σ vs).set j1 (some x)).set j2 (some y)) vs = wipe σ vs)
    (he : ∀ (i : Nat) (x y : V) H1, Ex H H1 → xs[i]? = some x → ys[i]? = some y → Ev te (((wipe σ vs).set j1 (some x)).set j2 (some y)) H1 (v i)) :
    EvL (tLc (RZ.iZipA K (tCons tl (tCons tm tNil))) (gTup K 2 (gCons (gName j1) (gCons (gName j2) gNil))) tYes te vs) σ H (given (min xs.length ys.length) (fun _ => true) v) := fun H0 e Q q => h H0 e _ fun H1 e1 => h2 H1 (e.trans e1) _ fun b H2 e2 hy =>
  ⟨a, b, xs, ys, rfl, .inr ⟨ex_t ((e.trans e1).trans e2) hx, hy, fun Dl hD =>
  lc_it (walk_zipT rfl) (Cw H2 (fun _ => true) v Dl) ⟨hD, Ex.new hD, upd_same⟩ (fun _ _ _ p => ⟨ex_t (((e.trans e1).trans e2).trans p.2.1) hx, ex_t p.2.1 hy⟩) (fun i x H3 H' hi p y => by
    obtain ⟨T, x1, x2, rfl, hT, rfl, f1, f2⟩ := y
    have p' : Cw H2 (fun _ => true) v Dl i (upd H3 T (.tup [x1, x2])) := ⟨p.1, p.2.1.trans (Ex.new hT), by rw [upd_ne (ne_of_none p.2.2 hT)]; exact p.2.2⟩
    exact ⟨T, [x1, x2], rfl, .inl (.inl upd_same), rfl, x1, [x2], rfl, x2, [], rfl, rfl, hw _ _, cw_turn p' (by omega) et_yes (fun _ => he i x1 x2 H2 ((e.trans e1).trans e2) f1 f2)⟩)
    (fun H' p => q Dl H' (fresh_back (e1.trans e2) p.1) ((e1.trans e2).trans p.2.1) p.2.2)⟩⟩
/-- .. over enumerate of a tuple -/
theorem el_lcE {a : Addr} {xs : List V} {j1 j2 : Nat} {vs : List Nat} (v : Nat → V) (h : Ev tl σ H (.ref a)) (hx : SqT K H a xs) (hz : xs.length ≤ 40000)
    (hw : ∀ x y, wipe (((wipe σ vs).set j1 (some x)).set j2 (some y)) vs = wipe σ vs)
    (he : ∀ (i : Nat) (x : V) H1, Ex H H1 → xs[i]? = some x → Ev te (((wipe σ vs).set j1 (some (.int (i : Int)))).set j2 (some x)) H1 (v i)) :
    EvL (tLc (iEnumT K (tCons tl tNil)) (gTup K 2 (gCons (gName j1) (gCons (gName j2) gNil))) tYes te vs) σ H (given xs.length (fun _ => true) v) := fun H0 e Q q => h H0 e _ fun H1 e1 =>
  ⟨a, xs, rfl, ex_t (e.trans e1) hx, fun Dl hD =>
  lc_it walk_enumT (Cw H1 (fun _ => true) v Dl) ⟨hD, Ex.new hD, upd_same⟩ (fun _ _ _ p => ex_t ((e.trans e1).trans p.2.1) hx) (fun i x H3 H' hi p y => by
    obtain ⟨T, x1, x2, rfl, hT, rfl, f1, f2⟩ := y
    cases f1
    have p' : Cw H1 (fun _ => true) v Dl i (upd H3 T (.tup [.int (i : Int), x2])) := ⟨p.1, p.2.1.trans (Ex.new hT), by rw [upd_ne (ne_of_none p.2.2 hT)]; exact p.2.2⟩
    exact ⟨T, [.int (i : Int), x2], rfl, .inl (.inl upd_same), rfl, _, [x2], rfl, x2, [], rfl, rfl, hw _ _, cw_turn p' (by omega) et_yes (fun _ => he i x2 H1 (e.trans e1) f2)⟩)
    (fun H' p => q Dl H' (fresh_back e1 p.1) (e1.trans p.2.1) p.2.2)⟩
theorem ev_sumT {a : Addr} {ns : List Int} (ha : Ev ta σ H (.ref a)) (h : SqT K H a (ns.map V.int)) : Ev (tCB (rSumT K) (tCons ta tNil)) σ H (.int ns.sum) := fun H1 e Q q =>
  ha H1 e _ fun H2 e2 => ⟨a, ns, rfl, ex_t (e.trans e2) h, q H2 e2⟩
end
theorem Room.u65 {k : Nat} {A : Around} (r : Room k A) : A.units + 65 < cLine := by
  have := r.un
  omega
/-! ### rising, different -/
theorem rise_pairs : ∀ ns : List Int, ((List.range (ns.length - 1)).map fun i => decide (ns.getD i 0 ≤ ns.getD (i + 1) 0)).all id = rise ns
  | [] => rfl
  | [_] => rfl
  | a :: b :: r => by
    have ih := rise_pairs (b :: r)
    show ((List.range (r.length + 1)).map fun i => decide ((a :: b :: r).getD i 0 ≤ (a :: b :: r).getD (i + 1) 0)).all id = (decide (a ≤ b) && rise (b :: r))
    rw [List.range_succ_eq_map, List.map_cons, List.map_map, List.all_cons, ← ih]
    rfl
theorem rise_sorted : ∀ {ns : List Int}, rise ns = true → ns.Pairwise (· ≤ ·)
  | [], _ => .nil
  | [_], _ => List.pairwise_singleton _ _
  | a :: b :: r, h => by
    obtain ⟨h1, h2⟩ := Bool.and_eq_true_iff.mp (show (decide (a ≤ b) && rise (b :: r)) = true from h)
    have h1 := of_decide_eq_true h1
    have ih := rise_sorted h2
    refine .cons (fun x hx => ?_) ih
    rcases List.mem_cons.mp hx with rfl | hx
    · exact h1
    · exact Int.le_trans h1 ((List.pairwise_cons.mp ih).1 x hx)
theorem sorted_rise : ∀ {ns : List Int}, ns.Pairwise (· ≤ ·) → rise ns = true
  | [], _ => rfl
  | [_], _ => rfl
  | a :: b :: r, h => by
    obtain ⟨h1, h2⟩ := List.pairwise_cons.mp h
    show (decide (a ≤ b) && rise (b :: r)) = true
    rw [decide_eq_true (h1 b List.mem_cons_self), sorted_rise h2]
    rfl
theorem rise_eq {ns ms : List Int} (hp : ms.Perm ns) (hs : ms.Pairwise (· ≤ ·)) : decide (ns = ms) = rise ns := by
  rw [Bool.eq_iff_iff, decide_eq_true_iff]
  constructor
  · intro e
    rw [e]
    exact sorted_rise hs
  · intro h
    exact PySem.W.ksm_same hp.symm (rise_sorted h) hs
theorem eqv_ints : ∀ ns ms : List Int, PyData.eqvAll (ns.map PyData.int) (ms.map PyData.int) = decide (ns = ms)
  | [], [] => rfl
  | [], _ :: _ => rfl
  | _ :: _, [] => rfl
  | a :: ns, b :: ms => by
    show ((a == b) && PyData.eqvAll (ns.map PyData.int) (ms.map PyData.int)) = _
    rw [eqv_ints ns ms, Bool.eq_iff_iff]
    simp
theorem diff_after : ∀ ds : List PyData, ((List.range ds.length).map fun i => !(ds.drop (i + 1)).any fun z => PyData.eqv z (ds.getD i .none)).all id = diff ds
  | [] => rfl
  | d :: ds => by
    rw [List.length_cons, List.range_succ_eq_map, List.map_cons, List.map_map, List.all_cons]
    show ((!ds.any fun z => PyData.eqv z d) && _) = ((!ds.any fun z => PyData.eqv z d) && diff ds)
    rw [← diff_after ds]
    rfl
theorem diff_iff : ∀ ds : List PyData, diff ds = true ↔ ds.Pairwise fun x y => PyData.eqv x y = false
  | [] => ⟨fun _ => .nil, fun _ => rfl⟩
  | d :: ds => by
    rw [List.pairwise_cons, ← diff_iff ds]
    show ((!ds.any fun z => PyData.eqv z d) && diff ds) = true ↔ _
    rw [Bool.and_eq_true, Bool.not_eq_true', List.any_eq_false]
    constructor
    · rintro ⟨h1, h2⟩
      exact ⟨fun z hz => by rw [PySem.W.eqv_comm]; simpa using h1 z hz, h2⟩
    · rintro ⟨h1, h2⟩
      exact ⟨fun z hz => by rw [PySem.W.eqv_comm, h1 z hz]; decide, h2⟩
theorem diff_ahead (ds : List PyData) : ((List.range ds.length).map fun j => !(ds.take j).any fun z => PyData.eqv z (ds.getD j .none)).all id = diff ds := by
  rw [Bool.eq_iff_iff, diff_iff, List.all_map, List.all_eq_true, List.pairwise_iff_getElem]
  constructor
  · intro h i j hi hj hij
    have q := h j (List.mem_range.mpr hj)
    have q' : (!(ds.take j).any fun z => PyData.eqv z (ds.getD j .none)) = true := q
    rw [Bool.not_eq_true', List.any_eq_false] at q'
    have m : ds[i] ∈ ds.take j := List.mem_iff_getElem.mpr ⟨i, by rw [List.length_take]; omega, by rw [List.getElem_take]⟩
    have r := q' _ m
    rw [List.getD_eq_getElem?_getD, List.getElem?_eq_getElem hj] at r
    simpa using r
  · intro h j hj
    have hj := List.mem_range.mp hj
    show (!(ds.take j).any fun z => PyData.eqv z (ds.getD j .none)) = true
    rw [Bool.not_eq_true', List.any_eq_false]
    intro z hz
    obtain ⟨i, hi, rfl⟩ := List.mem_iff_getElem.mp hz
    rw [List.length_take] at hi
    rw [List.getD_eq_getElem?_getD, List.getElem?_eq_getElem hj, List.getElem_take]
    have q := h i j (by omega) hj (by omega)
    show ¬ PyData.eqv ds[i] ds[j] = true
    rw [q]
    decide
/-! ### the promises -/
def spHolds (K : PySem.W.Frag) (n : Nat) : Sp := fun vs H Q _ => ∃ (v u : V) (c : Cd) (k : Kd) (d : PyData), vs = [v, u] ∧ Vd K H v c.data ∧ OkC n c ∧ Vd K H u d ∧ Dk 20 d ∧ fitsC c k = true ∧ isk k d = true ∧ ∀ H', Same H H' → Q (.bl (holdsC c d)) H'
def spDiff (K : PySem.W.Frag) : Sp := fun vs H Q _ => ∃ (u : V) (ds : List PyData), vs = [u] ∧ Vd K H u (.tuple ds) ∧ Dk 20 (.tuple ds) ∧ ∀ H', Same H H' → Q (.bl (diff ds)) H'
theorem spHolds_0 {K : PySem.W.Frag} (vs : List V) (H : Hp) (Q : VK) (E : XK) : ¬ spHolds K 0 vs H Q E := fun h => by
  obtain ⟨_, _, _, _, _, _, _, h, _⟩ := h
  cases h
theorem holds_call {K : PySem.W.Frag} {H : Hp} {n : Nat} {v u : V} {c : Cd} {k : Kd} {d : PyData} (hv : Vd K H v c.data) (hc : OkC n c) (hu : Vd K H u d) (hd : Dk 20 d) (hf : fitsC c k = true) (hi : isk k d = true) : SpV (spHolds K n) [v, u] H (.bl (holdsC c d)) := fun H1 e Q q E =>
  ⟨v, u, c, k, d, rfl, hv.keep (Kt.same e), hc, hu.keep (Kt.same e), hd, hf, hi, fun H' e' => q H' e'⟩
theorem Vd.vds {K : PySem.W.Frag} {H : Hp} {a : Addr} {ds : List PyData} (h : Vd K H (.ref a) (.tuple ds)) : ∃ xs, SqT K H a xs ∧ Vds K H xs ds := by
  obtain ⟨xs, hs, hl, hi⟩ := h.get
  exact ⟨xs, hs, hl, hi⟩
theorem Vds.drop {K : PySem.W.Frag} {H : Hp} {xs : List V} {ds : List PyData} (h : Vds K H xs ds) (n : Nat) : Vds K H (xs.drop n) (ds.drop n) :=
  ⟨by rw [List.length_drop, List.length_drop, h.1], fun i v d h1 h2 => h.2 (n + i) v d (by rw [List.getElem?_drop] at h1; exact h1) (by rw [List.getElem?_drop] at h2; exact h2)⟩
theorem Vds.take {K : PySem.W.Frag} {H : Hp} {xs : List V} {ds : List PyData} (h : Vds K H xs ds) (n : Nat) : Vds K H (xs.take n) (ds.take n) :=
  ⟨by rw [List.length_take, List.length_take, h.1], fun i v d h1 h2 => by
    rw [List.getElem?_take] at h1 h2
    by_cases hi : i < n
    · rw [if_pos hi] at h1 h2
      exact h.2 i v d h1 h2
    · rw [if_neg hi] at h1
      cases h1⟩
theorem Dk.sub {n : Nat} {ds es : List PyData} (h : Dk n (.tuple ds)) (hl : es.length ≤ ds.length) (hs : ∀ e ∈ es, e ∈ ds) : Dk n (.tuple es) := by
  cases h with
  | tup h1 h2 => exact .tup (Nat.le_trans hl h1) fun e he => h2 e (hs e he)
theorem any_items {α : Type} (a0 : α) (p : α → Bool) (ds : List α) : ((List.range ds.length).map fun i => p (ds.getD i a0)).any id = ds.any p := by
  have h : ((List.range ds.length).map fun i => p (ds.getD i a0)) = ds.map p := by
    apply List.ext_getElem
    · simp
    · intro i h1 h2
      simp at h1
      simp [List.getD_eq_getElem?_getD, List.getElem?_eq_getElem h1]
  rw [h, List.any_map]
  rfl
theorem flat_bls (bs : List Bool) : (bs.map V.bl).all flatV = true := by
  rw [List.all_map, List.all_eq_true]
  exact fun _ _ => rfl
theorem in_false (bs : List Bool) : (!inV (.bl false) (bs.map V.bl)) = bs.all id := by
  unfold inV
  rw [List.any_map]
  induction bs with
  | nil => rfl
  | cons b bs ih =>
    rw [List.any_cons, List.all_cons, Bool.not_or, ih]
    cases b <;> rfl
theorem in_true (bs : List Bool) : inV (.bl true) (bs.map V.bl) = bs.any id := by
  unfold inV
  rw [List.any_map]
  induction bs with
  | nil => rfl
  | cons b bs ih =>
    rw [List.any_cons, List.any_cons, ih]
    cases b <;> rfl
theorem dp_ints {K : PySem.W.Frag} {H : Hp} : ∀ ns : List Int, DpAll K H (ns.map V.int) (ns.map PyData.int)
  | [] => .nil
  | n :: ns => .cons (.int n) (dp_ints ns)
theorem at_int {ns : List Int} {i : Nat} {x : V} (h : (ns.map V.int)[i]? = some x) : x = .int (ns.getD i 0) := by
  obtain ⟨m, hm, rfl⟩ := map_int h
  rw [List.getD_eq_getElem?_getD, hm]
  rfl
end Cr
namespace K3
open PySem PySem.Spec PyProof.Rows L2 Evl Cr CrT
def topS (i : Nat) : Stmt := PySem.Challenge.pw_choicerows_k03_conditions_that_hold.main.body.getD i (.Pass ⟨0, 0, 0, 0⟩)
structure Tx (mg : Str → Option Value) : Prop where
  z_len : mg "len" = none
  z_all : mg "all" = none
  z_any : mg "any" = none
  z_isinstance : mg "isinstance" = none
  z_tuple : mg "tuple" = none
  z_list : mg "list" = none
  z_int : mg "int" = none
  z_str : mg "str" = none
  z_bool : mg "bool" = none
  z_range : mg "range" = none
  z_zip : mg "zip" = none
  z_enumerate : mg "enumerate" = none
  z_sum : mg "sum" = none
  z_sorted : mg "sorted" = none
  z_min : mg "min" = none
  z_max : mg "max" = none

section
variable {P : Program} {w : World} {K : PySem.W.Frag} {mg : Str → Option Value} {base : Heap}
abbrev s_holds : Stmt := topS 1
abbrev N_holds : List Str := ["condition", "value", "name", "item", "after"]
theorem sc_holds : FnScope N_holds ["condition", "value"] (defScope s_holds) := ⟨rfl, rfl, rfl, by decide +kernel, rfl, by decide +kernel, by decide +kernel⟩
abbrev s__are_different : Stmt := topS 2
abbrev N__are_different : List Str := ["values", "place", "value"]
theorem sc__are_different : FnScope N__are_different ["values"] (defScope s__are_different) := ⟨rfl, rfl, rfl, by decide +kernel, rfl, by decide +kernel, by decide +kernel⟩
theorem ok__are_different {f : Addr} {fd : FuncData} {k : Nat} (T : Tx mg) (F : Fun K "_are_different" "_are_different" s__are_different f fd) : FnOk P w K mg base CX0 (k + 1) f fd ["values"] (spDiff K) := by
  refine F.ok sc__are_different (fun vs H Q E h => ?_) (fun cdv A outer s H vs Q E hr h => ?_)
  · obtain ⟨u, ds, rfl, _⟩ := h
    rfl
  obtain ⟨u, ds, rfl, hu, hd, q⟩ := h
  refine ⟨_, (pss_one (ps_ret (pe_callB (cr_all rfl) (by rfl) T.z_all (by decide +kernel) (pa_cons (pe_lc (own := [("place", 1), ("value", 2)]) (g := gTup K 2 (gCons (gName 1) (gCons (gName 2) gNil))) (by rfl) sc__are_different.nd (pi_enumT (by rfl) T.z_enumerate (pa_cons (pv 0) pa_nil)) (blkOk_by (own := [("place", 1), ("value", 2)]) (N := N__are_different) (sc := defScope s__are_different) (by decide +kernel)) (fun _ _ _ _ _ => (pg_tup rfl (pgs_cons (pg_name (i := 1) sc__are_different.nd rfl (Or.inl rfl) (hf := Or.inr rfl)) (pgs_cons (pg_name (i := 2) sc__are_different.nd rfl (Or.inl rfl) (hf := Or.inr rfl)) pgs_nil)))) (fun _ _ _ _ _ => pts_nil) (fun _ _ _ _ _ => (pe_cmpR (r := rInTup K true) (op_notInTup (Cr.Room.u65 hr)) (pv 2) (pe_slice (r := rSlA K) sl_tupA (pv 0) (po_some (pe_op op_add (pv 1) pe_int)) po_none) (by rfl)))) pa_nil)))), ?_⟩
  obtain ⟨a, rfl⟩ := hu.ref
  obtain ⟨xs, hxs, hv⟩ := hu.vds
  have hl := hv.1
  have hd1 : ds.length ≤ 60 ∧ ∀ e ∈ ds, Dk 19 e := (show Dk (19 + 1) (.tuple ds) from hd).item
  refine s_ret (v := .bl (diff ds)) (ev_is (ev_all (el_is (el_lcE (fun i => .bl (!(ds.drop (i + 1)).any fun z => PyData.eqv z (ds.getD i .none))) (ev_var rfl) hxs (by omega) (fun _ _ => rfl) (fun i x H1 e1 hx => ?_)) (given_all _ _))) ?_) q
  · have hi : i < ds.length := by have := (List.getElem?_eq_some_iff.mp hx).1; omega
    have hdi := getD_at (a0 := PyData.none) hi
    have hdk := hd1.2 _ (List.mem_of_getElem? hdi)
    exact ev_inS (no := true) (ev_var rfl) (evs_after (i := i) (ev_var rfl) (ev_op (ev_var rfl) ev_c rv_I0) (ex_t e1 hxs) (by omega)) ((hv.2 i _ _ hx hdi).keep (Kt.same e1)) (fun H2 e2 => (hv.keep (Kt.same (e1.trans e2))).drop _) (hdk.shaped (by omega)) ((hd.sub (by rw [List.length_drop]; omega) fun e he => List.mem_of_mem_drop he).shaped (by omega))
  · rw [hl, diff_after]
theorem ok_holds {f : Addr} {fd : FuncData} {n : Nat} (T : Tx mg) (F : Fun K "holds" "holds" s_holds f fd) (c__are_different : Cl P w K mg base "_are_different" ["values"] 1 (spDiff K)) (c_holds : Cl P w K mg base "holds" ["condition", "value"] (n + 1) (spHolds K n)) : FnOk P w K mg base CX0 (n + 1 + 1) f fd ["condition", "value"] (spHolds K (n + 1)) := by
  refine F.ok sc_holds (fun vs H Q E h => ?_) (fun cdv A outer s H vs Q E hr h => ?_)
  · obtain ⟨v, u, c, k, d, rfl, _⟩ := h
    rfl
  obtain ⟨v, u, c, k, d, rfl, hv, hc, hu, hd, hf, hi, q⟩ := h
  refine ⟨_, (pss_cons (ps_set (i := 2) sc_holds.nd rfl (Or.inl rfl) (pe_ix (r := rIxT K) ix_tup (pv 0) pe_int (fun _ _ => rfl)))
      (pss_cons (ps_if (pt_cmpR op_eq (pv 2) pe_str (nomark _)) (pss_one (ps_ret (pe_cmpR op_le (pv 1) (pe_ix (r := rIxT K) ix_tup (pv 0) pe_int (fun _ _ => rfl)) (nomark _)))) pss_nil)
      (pss_cons (ps_if (pt_cmpR op_eq (pv 2) pe_str (nomark _)) (pss_one (ps_ret (pe_cmpR op_eq (pe_op op_mod (pv 1) (pe_ix (r := rIxT K) ix_tup (pv 0) pe_int (fun _ _ => rfl))) pe_int (nomark _)))) pss_nil)
      (pss_cons (ps_if (pt_cmpR op_eq (pv 2) pe_str (nomark _)) (pss_one (ps_ret (pe_cmpR op_eq (pv 1) (pe_ix (r := rIxT K) ix_tup (pv 0) pe_int (fun _ _ => rfl)) (nomark _)))) pss_nil)
      (pss_cons (ps_if (pt_cmpR op_eq (pv 2) pe_str (nomark _)) (pss_one (ps_ret (pe_call c_holds.ok (hr.mono (by omega)) (by rfl) c_holds.m c_holds.kp c_holds.b .nil pass0 (pa_cons (pe_ix (r := rIxT K) ix_tup (pv 0) pe_int (fun _ _ => rfl)) (pa_cons (pe_ix (r := rIxT K) ix_tup (pv 1) (pe_ix (r := rIxT K) ix_tup (pv 0) pe_int (fun _ _ => rfl)) (fun _ _ => rfl)) pa_nil))))) pss_nil)
      (pss_cons (ps_if (pt_cmpR op_eq (pv 2) pe_str (nomark _)) (pss_one (ps_ret (pe_callB (cr_all rfl) (by rfl) T.z_all (by decide +kernel) (pa_cons (pe_lc (own := [("item", 3)]) (g := gName 3) (by rfl) sc_holds.nd (pi_tup (pv 1)) (blkOk_by (own := [("item", 3)]) (N := N_holds) (sc := defScope s_holds) (by decide +kernel)) (fun _ _ _ _ _ => (pg_name (i := 3) sc_holds.nd rfl (Or.inl rfl))) (fun _ _ _ _ _ => pts_nil) (fun _ _ _ _ _ => (pe_call c_holds.ok (hr.mono (by omega)) (by rfl) c_holds.m c_holds.kp c_holds.b .nil pass0 (pa_cons (pe_ix (r := rIxT K) ix_tup (pv 0) pe_int (fun _ _ => rfl)) (pa_cons (pv 3) pa_nil))))) pa_nil)))) pss_nil)
      (pss_cons (ps_if (pt_cmpR op_eq (pv 2) pe_str (nomark _)) (pss_one (ps_ret (pe_callB (cr_any rfl) (by rfl) T.z_any (by decide +kernel) (pa_cons (pe_lc (own := [("item", 3)]) (g := gName 3) (by rfl) sc_holds.nd (pi_tup (pv 1)) (blkOk_by (own := [("item", 3)]) (N := N_holds) (sc := defScope s_holds) (by decide +kernel)) (fun _ _ _ _ _ => (pg_name (i := 3) sc_holds.nd rfl (Or.inl rfl))) (fun _ _ _ _ _ => pts_nil) (fun _ _ _ _ _ => (pe_call c_holds.ok (hr.mono (by omega)) (by rfl) c_holds.m c_holds.kp c_holds.b .nil pass0 (pa_cons (pe_ix (r := rIxT K) ix_tup (pv 0) pe_int (fun _ _ => rfl)) (pa_cons (pv 3) pa_nil))))) pa_nil)))) pss_nil)
      (pss_cons (ps_if (pt_cmpR op_eq (pv 2) pe_str (nomark _)) (pss_one (ps_ret (pe_call c_holds.ok (hr.mono (by omega)) (by rfl) c_holds.m c_holds.kp c_holds.b .nil pass0 (pa_cons (pe_ix (r := rIxT K) ix_tup (pv 0) pe_int (fun _ _ => rfl)) (pa_cons (pe_callB call_len_seq (by rfl) T.z_len PySem.boot_len (pa_cons (pv 1) pa_nil)) pa_nil))))) pss_nil)
      (pss_cons (ps_if (pt_cmpR op_eq (pv 2) pe_str (nomark _)) (pss_one (ps_ret (pe_call c_holds.ok (hr.mono (by omega)) (by rfl) c_holds.m c_holds.kp c_holds.b .nil pass0 (pa_cons (pe_ix (r := rIxT K) ix_tup (pv 0) pe_int (fun _ _ => rfl)) (pa_cons (pe_callB (cr_sumT rfl) (by rfl) T.z_sum (by decide +kernel) (pa_cons (pv 1) pa_nil)) pa_nil))))) pss_nil)
      (pss_cons (ps_if (pt_cmpR op_eq (pv 2) pe_str (nomark _)) (pss_one (ps_ret (pe_callB (cr_all rfl) (by rfl) T.z_all (by decide +kernel) (pa_cons (pe_lc (own := [("item", 3), ("after", 4)]) (g := gTup K 2 (gCons (gName 3) (gCons (gName 4) gNil))) (by rfl) sc_holds.nd (RZ.pi_zipA (by rfl) T.z_zip (pa_cons (pv 1) (pa_cons (pe_slice (r := rSlA K) sl_tupA (pv 1) (po_some pe_int) po_none) pa_nil))) (blkOk_by (own := [("item", 3), ("after", 4)]) (N := N_holds) (sc := defScope s_holds) (by decide +kernel)) (fun _ _ _ _ _ => (pg_tup rfl (pgs_cons (pg_name (i := 3) sc_holds.nd rfl (Or.inl rfl) (hf := Or.inr rfl)) (pgs_cons (pg_name (i := 4) sc_holds.nd rfl (Or.inl rfl) (hf := Or.inr rfl)) pgs_nil)))) (fun _ _ _ _ _ => pts_nil) (fun _ _ _ _ _ => (pe_cmpR op_le (pv 3) (pv 4) (nomark _)))) pa_nil)))) pss_nil)
      (pss_cons (ps_if (pt_cmpR op_eq (pv 2) pe_str (nomark _)) (pss_one (ps_ret (pe_call c__are_different.ok (hr.mono (by omega)) (by rfl) c__are_different.m c__are_different.kp c__are_different.b .nil pass0 (pa_cons (pv 1) pa_nil)))) pss_nil)
      (pss_cons (ps_if (pt_cmpR op_eq (pv 2) pe_str (nomark _)) (pss_one (ps_ret (pe_not (pe_call c_holds.ok (hr.mono (by omega)) (by rfl) c_holds.m c_holds.kp c_holds.b .nil pass0 (pa_cons (pe_ix (r := rIxT K) ix_tup (pv 0) pe_int (fun _ _ => rfl)) (pa_cons (pv 1) pa_nil)))))) pss_nil)
      (pss_cons (ps_if (pt_cmpR op_eq (pv 2) pe_str (nomark _)) (pss_one (ps_ret (pe_and (pe_call c_holds.ok (hr.mono (by omega)) (by rfl) c_holds.m c_holds.kp c_holds.b .nil pass0 (pa_cons (pe_ix (r := rIxT K) ix_tup (pv 0) pe_int (fun _ _ => rfl)) (pa_cons (pv 1) pa_nil))) (pe_one (pe_call c_holds.ok (hr.mono (by omega)) (by rfl) c_holds.m c_holds.kp c_holds.b .nil pass0 (pa_cons (pe_ix (r := rIxT K) ix_tup (pv 0) pe_int (fun _ _ => rfl)) (pa_cons (pv 1) pa_nil))))))) pss_nil)
      (pss_one (ps_ret (pe_or (pe_call c_holds.ok (hr.mono (by omega)) (by rfl) c_holds.m c_holds.kp c_holds.b .nil pass0 (pa_cons (pe_ix (r := rIxT K) ix_tup (pv 0) pe_int (fun _ _ => rfl)) (pa_cons (pv 1) pa_nil))) (pe_one (pe_call c_holds.ok (hr.mono (by omega)) (by rfl) c_holds.m c_holds.kp c_holds.b .nil pass0 (pa_cons (pe_ix (r := rIxT K) ix_tup (pv 0) pe_int (fun _ _ => rfl)) (pa_cons (pv 1) pa_nil)))))))))))))))))))), ?_⟩
  cases c with
  | atmost m =>
    rw [Cd.data] at hv
    obtain ⟨a, x, y, rfl, hs, hx, hy⟩ := hv.g2
    cases hx.str_inv
    cases hy.int_inv
    cases isInt_of hf
    obtain ⟨i, rfl⟩ := isk_int hi
    cases hu.int_inv
    refine q_asg (ev_ixT (j := 0) (ev_var rfl) ev_c hs rfl) fun H1 e1 => ?_
    refine takeS e1 rfl (by decide +kernel) fun H2 e2 => ?_
    exact s_ret (ev_op (ev_var rfl) (ev_ixT (j := 1) (ev_var rfl) ev_c (ex_t e2 hs) rfl) rv_I0) fun Hz ez => q Hz (e2.trans ez)
  | divides m =>
    rw [Cd.data] at hv
    obtain ⟨a, x, y, rfl, hs, hx, hy⟩ := hv.g2
    cases hx.str_inv
    cases hy.int_inv
    obtain ⟨hf1, hf2⟩ := Bool.and_eq_true_iff.mp (show (k.isInt && (decide (1 ≤ m) && decide (m ≤ 100))) = true from hf)
    have hm : 1 ≤ m := of_decide_eq_true (Bool.and_eq_true_iff.mp hf2).1
    cases isInt_of hf1
    obtain ⟨i, rfl⟩ := isk_int hi
    cases hu.int_inv
    refine q_asg (ev_ixT (j := 0) (ev_var rfl) ev_c hs rfl) fun H1 e1 => ?_
    refine skipS e1 rfl (by decide +kernel) fun H2 e2 => ?_
    refine takeS e2 rfl (by decide +kernel) fun H3 e3 => ?_
    exact s_ret (ev_op (ev_op (ev_var rfl) (ev_ixT (j := 1) (ev_var rfl) ev_c (ex_t e3 hs) rfl) (rv_I (by show 0 < m; omega))) ev_c (rv_eq rfl)) fun Hz ez => q Hz (e3.trans ez)
  | is m =>
    rw [Cd.data] at hv
    obtain ⟨a, x, y, rfl, hs, hx, hy⟩ := hv.g2
    cases hx.str_inv
    cases hy.str_inv
    cases isWord_of (Bool.and_eq_true_iff.mp (show (k.isWord && Cr.isWord m) = true from hf)).1
    obtain ⟨i, rfl⟩ := isk_word hi
    cases hu.str_inv
    refine q_asg (ev_ixT (j := 0) (ev_var rfl) ev_c hs rfl) fun H1 e1 => ?_
    refine skipS e1 rfl (by decide +kernel) fun H2 e2 => ?_
    refine skipS e2 rfl (by decide +kernel) fun H3 e3 => ?_
    refine takeS e3 rfl (by decide +kernel) fun H4 e4 => ?_
    exact s_ret (ev_op (ev_var rfl) (ev_ixT (j := 1) (ev_var rfl) ev_c (ex_t e4 hs) rfl) (rv_eq rfl)) fun Hz ez => q Hz (e4.trans ez)
  | item m c =>
    rw [Cd.data] at hv
    obtain ⟨a, x, y, z, rfl, hs, hx, hy, hz⟩ := hv.g3
    cases hx.str_inv
    obtain ⟨j, ks, rfl, rfl, hj, hf1⟩ := fits_item hf
    cases hy.int_inv
    have hc1 : OkC n c := by cases hc with | item _ h => exact h
    obtain ⟨ds, rfl, hall⟩ := isk_tup hi
    obtain ⟨hkl, hki⟩ := iskAll_get hall
    obtain ⟨b, rfl⟩ := hu.ref
    obtain ⟨xs, hxs, hvd⟩ := hu.vds
    have hl := hvd.1
    have hd1 := (show Dk (19 + 1) (.tuple ds) from hd).item
    have hxj : xs[j]? = some (xs.getD j .non) := getD_at (by omega)
    have hdj : ds[j]? = some (ds.getD j .none) := getD_at (by omega)
    refine q_asg (ev_ixT (j := 0) (ev_var rfl) ev_c hs rfl) fun H1 e1 => ?_
    refine skipS e1 rfl (by decide +kernel) fun H2 e2 => ?_
    refine skipS e2 rfl (by decide +kernel) fun H3 e3 => ?_
    refine skipS e3 rfl (by decide +kernel) fun H4 e4 => ?_
    refine takeS e4 rfl (by decide +kernel) fun H5 e5 => ?_
    exact s_ret (ev_callC (ea_cons (ev_ixT (j := 2) (ev_var rfl) ev_c (ex_t e5 hs) rfl) (ea_cons (ev_ixT (j := j) (ev_var rfl) (ev_ixT (j := 1) (ev_var rfl) ev_c (ex_t e5 hs) rfl) (ex_t e5 hxs) hxj) ea_nil)) (holds_call (hz.keep (Kt.same e5)) hc1 ((hvd.2 j _ _ hxj hdj).keep (Kt.same e5)) ((hd1.2 _ (List.mem_of_getElem? hdj)).mono (by omega)) hf1 (hki j hj))) fun Hz ez => q Hz (e5.trans ez)
  | every c =>
    rw [Cd.data] at hv
    obtain ⟨a, x, y, rfl, hs, hx, hy⟩ := hv.g2
    cases hx.str_inv
    obtain ⟨j, rfl, hf1⟩ := fits_list (k := k) (f := fun j => fitsC c j) hf
    obtain ⟨ds, rfl, hall⟩ := isk_lst hi
    obtain ⟨b, rfl⟩ := hu.ref
    obtain ⟨xs, hxs, hvd⟩ := hu.vds
    have hl := hvd.1
    have hd1 := (show Dk (19 + 1) (.tuple ds) from hd).item
    have hc1 : OkC n c := by cases hc with | every h => exact h
    refine q_asg (ev_ixT (j := 0) (ev_var rfl) ev_c hs rfl) fun H1 e1 => ?_
    refine skipS e1 rfl (by decide +kernel) fun H2 e2 => ?_
    refine skipS e2 rfl (by decide +kernel) fun H3 e3 => ?_
    refine skipS e3 rfl (by decide +kernel) fun H4 e4 => ?_
    refine skipS e4 rfl (by decide +kernel) fun H5 e5 => ?_
    refine takeS e5 rfl (by decide +kernel) fun H6 e6 => ?_
    refine s_ret (v := .bl (holdsC (.every c) (.tuple ds))) (ev_is (ev_all (el_is (el_lcT (fun _ => true) (fun i => .bl (holdsC c (ds.getD i .none))) (ev_var rfl) (ex_t e6 hxs) (by omega) (fun _ => rfl) (fun _ _ _ _ _ => et_yes) (fun i x Hy ey hx _ => ?_)) (given_all _ _))) ?_) fun Hz ez => q Hz (e6.trans ez)
    · have hi' : i < ds.length := by have := (List.getElem?_eq_some_iff.mp hx).1; omega
      have hdi := getD_at (a0 := PyData.none) hi'
      exact ev_callC (ea_cons (ev_ixT (j := 1) (ev_var rfl) ev_c (ex_t (e6.trans ey) hs) rfl) (ea_cons (ev_var rfl) ea_nil)) (holds_call (hy.keep (Kt.same (e6.trans ey))) hc1 ((hvd.2 i _ _ hx hdi).keep (Kt.same (e6.trans ey))) ((hd1.2 _ (List.mem_of_getElem? hdi)).mono (by omega)) hf1 (hall _ (List.mem_of_getElem? hdi)))
    · rw [hl, all_items]
      rfl
  | some_ c =>
    rw [Cd.data] at hv
    obtain ⟨a, x, y, rfl, hs, hx, hy⟩ := hv.g2
    cases hx.str_inv
    obtain ⟨j, rfl, hf1⟩ := fits_list (k := k) (f := fun j => fitsC c j) hf
    obtain ⟨ds, rfl, hall⟩ := isk_lst hi
    obtain ⟨b, rfl⟩ := hu.ref
    obtain ⟨xs, hxs, hvd⟩ := hu.vds
    have hl := hvd.1
    have hd1 := (show Dk (19 + 1) (.tuple ds) from hd).item
    have hc1 : OkC n c := by cases hc with | some_ h => exact h
    refine q_asg (ev_ixT (j := 0) (ev_var rfl) ev_c hs rfl) fun H1 e1 => ?_
    refine skipS e1 rfl (by decide +kernel) fun H2 e2 => ?_
    refine skipS e2 rfl (by decide +kernel) fun H3 e3 => ?_
    refine skipS e3 rfl (by decide +kernel) fun H4 e4 => ?_
    refine skipS e4 rfl (by decide +kernel) fun H5 e5 => ?_
    refine skipS e5 rfl (by decide +kernel) fun H6 e6 => ?_
    refine takeS e6 rfl (by decide +kernel) fun H7 e7 => ?_
    refine s_ret (v := .bl (holdsC (.some_ c) (.tuple ds))) (ev_is (ev_any (el_is (el_lcT (fun _ => true) (fun i => .bl (holdsC c (ds.getD i .none))) (ev_var rfl) (ex_t e7 hxs) (by omega) (fun _ => rfl) (fun _ _ _ _ _ => et_yes) (fun i x Hy ey hx _ => ?_)) (given_all _ _))) ?_) fun Hz ez => q Hz (e7.trans ez)
    · have hi' : i < ds.length := by have := (List.getElem?_eq_some_iff.mp hx).1; omega
      have hdi := getD_at (a0 := PyData.none) hi'
      exact ev_callC (ea_cons (ev_ixT (j := 1) (ev_var rfl) ev_c (ex_t (e7.trans ey) hs) rfl) (ea_cons (ev_var rfl) ea_nil)) (holds_call (hy.keep (Kt.same (e7.trans ey))) hc1 ((hvd.2 i _ _ hx hdi).keep (Kt.same (e7.trans ey))) ((hd1.2 _ (List.mem_of_getElem? hdi)).mono (by omega)) hf1 (hall _ (List.mem_of_getElem? hdi)))
    · rw [hl, any_items]
      rfl
  | size c =>
    rw [Cd.data] at hv
    obtain ⟨a, x, y, rfl, hs, hx, hy⟩ := hv.g2
    cases hx.str_inv
    obtain ⟨j, rfl, hf1⟩ := fits_list (k := k) (f := fun j => fitsC c .int) hf
    obtain ⟨ds, rfl, hall⟩ := isk_lst hi
    obtain ⟨b, rfl⟩ := hu.ref
    obtain ⟨xs, hxs, hvd⟩ := hu.vds
    have hl := hvd.1
    have hd1 := (show Dk (19 + 1) (.tuple ds) from hd).item
    have hc1 : OkC n c := by cases hc with | size h => exact h
    refine q_asg (ev_ixT (j := 0) (ev_var rfl) ev_c hs rfl) fun H1 e1 => ?_
    refine skipS e1 rfl (by decide +kernel) fun H2 e2 => ?_
    refine skipS e2 rfl (by decide +kernel) fun H3 e3 => ?_
    refine skipS e3 rfl (by decide +kernel) fun H4 e4 => ?_
    refine skipS e4 rfl (by decide +kernel) fun H5 e5 => ?_
    refine skipS e5 rfl (by decide +kernel) fun H6 e6 => ?_
    refine skipS e6 rfl (by decide +kernel) fun H7 e7 => ?_
    refine takeS e7 rfl (by decide +kernel) fun H8 e8 => ?_
    exact s_ret (ev_callC (ea_cons (ev_ixT (j := 1) (ev_var rfl) ev_c (ex_t e8 hs) rfl) (ea_cons (ev_is (ev_lenT (ev_var rfl) (ex_t e8 hxs)) (by rw [hl])) ea_nil)) (holds_call (hy.keep (Kt.same e8)) hc1 (.int _) (.int _) hf1 (by rw [isk]))) fun Hz ez => q Hz (e8.trans ez)
  | sum c =>
    rw [Cd.data] at hv
    obtain ⟨a, x, y, rfl, hs, hx, hy⟩ := hv.g2
    cases hx.str_inv
    obtain ⟨j, rfl, hf1⟩ := fits_list (k := k) (f := fun j => j.isInt && fitsC c .int) hf
    obtain ⟨ds, rfl, hall⟩ := isk_lst hi
    obtain ⟨b, rfl⟩ := hu.ref
    obtain ⟨xs, hxs, hvd⟩ := hu.vds
    have hl := hvd.1
    have hd1 := (show Dk (19 + 1) (.tuple ds) from hd).item
    have hc1 : OkC n c := by cases hc with | sum h => exact h
    obtain ⟨hf2, hf3⟩ := Bool.and_eq_true_iff.mp hf1
    cases isInt_of hf2
    have hns := ints_of hall
    have hxi : SqT K H b ((ds.map numD).map V.int) := vd_ints (by rw [← hns]; exact hu)
    refine q_asg (ev_ixT (j := 0) (ev_var rfl) ev_c hs rfl) fun H1 e1 => ?_
    refine skipS e1 rfl (by decide +kernel) fun H2 e2 => ?_
    refine skipS e2 rfl (by decide +kernel) fun H3 e3 => ?_
    refine skipS e3 rfl (by decide +kernel) fun H4 e4 => ?_
    refine skipS e4 rfl (by decide +kernel) fun H5 e5 => ?_
    refine skipS e5 rfl (by decide +kernel) fun H6 e6 => ?_
    refine skipS e6 rfl (by decide +kernel) fun H7 e7 => ?_
    refine skipS e7 rfl (by decide +kernel) fun H8 e8 => ?_
    refine takeS e8 rfl (by decide +kernel) fun H9 e9 => ?_
    exact s_ret (ev_callC (ea_cons (ev_ixT (j := 1) (ev_var rfl) ev_c (ex_t e9 hs) rfl) (ea_cons (ev_sumT (ev_var rfl) (ex_t e9 hxi)) ea_nil)) (holds_call (hy.keep (Kt.same e9)) hc1 (.int _) (.int _) hf3 (by rw [isk]))) fun Hz ez => q Hz (e9.trans ez)
  | rising =>
    rw [Cd.data] at hv
    obtain ⟨a, x, rfl, hs, hx⟩ := hv.g1
    cases hx.str_inv
    obtain ⟨j, rfl, hf1⟩ := fits_list (k := k) (f := fun j => j.isInt) hf
    obtain ⟨ds, rfl, hall⟩ := isk_lst hi
    obtain ⟨b, rfl⟩ := hu.ref
    obtain ⟨xs, hxs, hvd⟩ := hu.vds
    have hl := hvd.1
    have hd1 := (show Dk (19 + 1) (.tuple ds) from hd).item
    cases isInt_of hf1
    have hns := ints_of hall
    have hxi : SqT K H b ((ds.map numD).map V.int) := vd_ints (by rw [← hns]; exact hu)
    have hnl : (ds.map numD).length ≤ 60 := by rw [List.length_map]; exact hd1.1
    have hres : holdsC .rising (.tuple ds) = rise (ds.map numD) := rfl
    rw [hres] at q
    generalize ds.map numD = ns at hxi hnl q
    refine q_asg (ev_ixT (j := 0) (ev_var rfl) ev_c hs rfl) fun H1 e1 => ?_
    refine skipS e1 rfl (by decide +kernel) fun H2 e2 => ?_
    refine skipS e2 rfl (by decide +kernel) fun H3 e3 => ?_
    refine skipS e3 rfl (by decide +kernel) fun H4 e4 => ?_
    refine skipS e4 rfl (by decide +kernel) fun H5 e5 => ?_
    refine skipS e5 rfl (by decide +kernel) fun H6 e6 => ?_
    refine skipS e6 rfl (by decide +kernel) fun H7 e7 => ?_
    refine skipS e7 rfl (by decide +kernel) fun H8 e8 => ?_
    refine skipS e8 rfl (by decide +kernel) fun H9 e9 => ?_
    refine takeS e9 rfl (by decide +kernel) fun H10 e10 => ?_
    refine s_ret (v := .bl (rise ns)) (ev_is (ev_all (el_is (el_lcZS (fun i => .bl (decide (ns.getD i 0 ≤ ns.getD (i + 1) 0))) (ev_var rfl) (evs_from1 (ev_var rfl) (ex_t e10 hxi)) (ex_t e10 hxi) (by rw [List.length_map]; omega) (fun _ _ => rfl) (fun i x y Hy ey hx hy => ?_)) (given_all _ _))) ?_) fun Hz ez => q Hz (e10.trans ez)
    · cases at_int hx
      rw [List.getElem?_drop, Nat.add_comm 1 i] at hy
      cases at_int hy
      exact ev_op (ev_var rfl) (ev_var rfl) rv_I0
    · have hmin : min (ns.map V.int).length ((ns.map V.int).drop 1).length = ns.length - 1 := by rw [List.length_drop, List.length_map]; omega
      rw [hmin, rise_pairs]
  | different =>
    rw [Cd.data] at hv
    obtain ⟨a, x, rfl, hs, hx⟩ := hv.g1
    cases hx.str_inv
    obtain ⟨j, rfl, hf1⟩ := fits_list (k := k) (f := fun j => true) hf
    obtain ⟨ds, rfl, hall⟩ := isk_lst hi
    obtain ⟨b, rfl⟩ := hu.ref
    obtain ⟨xs, hxs, hvd⟩ := hu.vds
    have hl := hvd.1
    have hd1 := (show Dk (19 + 1) (.tuple ds) from hd).item
    refine q_asg (ev_ixT (j := 0) (ev_var rfl) ev_c hs rfl) fun H1 e1 => ?_
    refine skipS e1 rfl (by decide +kernel) fun H2 e2 => ?_
    refine skipS e2 rfl (by decide +kernel) fun H3 e3 => ?_
    refine skipS e3 rfl (by decide +kernel) fun H4 e4 => ?_
    refine skipS e4 rfl (by decide +kernel) fun H5 e5 => ?_
    refine skipS e5 rfl (by decide +kernel) fun H6 e6 => ?_
    refine skipS e6 rfl (by decide +kernel) fun H7 e7 => ?_
    refine skipS e7 rfl (by decide +kernel) fun H8 e8 => ?_
    refine skipS e8 rfl (by decide +kernel) fun H9 e9 => ?_
    refine skipS e9 rfl (by decide +kernel) fun H10 e10 => ?_
    refine takeS e10 rfl (by decide +kernel) fun H11 e11 => ?_
    exact s_ret (ev_callC (ea_cons (ev_var rfl) ea_nil) fun Hy ey Q q E => ⟨_, ds, rfl, hu.keep (Kt.same (e11.trans ey)), hd, fun H' e' => q H' e'⟩) fun Hz ez => q Hz (e11.trans ez)
  | not_ c =>
    rw [Cd.data] at hv
    obtain ⟨a, x, y, rfl, hs, hx, hy⟩ := hv.g2
    cases hx.str_inv
    refine q_asg (ev_ixT (j := 0) (ev_var rfl) ev_c hs rfl) fun H1 e1 => ?_
    refine skipS e1 rfl (by decide +kernel) fun H2 e2 => ?_
    refine skipS e2 rfl (by decide +kernel) fun H3 e3 => ?_
    refine skipS e3 rfl (by decide +kernel) fun H4 e4 => ?_
    refine skipS e4 rfl (by decide +kernel) fun H5 e5 => ?_
    refine skipS e5 rfl (by decide +kernel) fun H6 e6 => ?_
    refine skipS e6 rfl (by decide +kernel) fun H7 e7 => ?_
    refine skipS e7 rfl (by decide +kernel) fun H8 e8 => ?_
    refine skipS e8 rfl (by decide +kernel) fun H9 e9 => ?_
    refine skipS e9 rfl (by decide +kernel) fun H10 e10 => ?_
    refine skipS e10 rfl (by decide +kernel) fun H11 e11 => ?_
    refine takeS e11 rfl (by decide +kernel) fun H12 e12 => ?_
    have hc1 : OkC n c := by cases hc with | not_ h => exact h
    exact s_ret (ev_notV (ev_callC (ea_cons (ev_ixT (j := 1) (ev_var rfl) ev_c (ex_t e12 hs) rfl) (ea_cons (ev_var rfl) ea_nil)) (holds_call (hy.keep (Kt.same e12)) hc1 (hu.keep (Kt.same e12)) hd hf hi))) fun Hz ez => q Hz (e12.trans ez)
  | and_ c c2 =>
    rw [Cd.data] at hv
    obtain ⟨a, x, y, z, rfl, hs, hx, hy, hz⟩ := hv.g3
    cases hx.str_inv
    refine q_asg (ev_ixT (j := 0) (ev_var rfl) ev_c hs rfl) fun H1 e1 => ?_
    refine skipS e1 rfl (by decide +kernel) fun H2 e2 => ?_
    refine skipS e2 rfl (by decide +kernel) fun H3 e3 => ?_
    refine skipS e3 rfl (by decide +kernel) fun H4 e4 => ?_
    refine skipS e4 rfl (by decide +kernel) fun H5 e5 => ?_
    refine skipS e5 rfl (by decide +kernel) fun H6 e6 => ?_
    refine skipS e6 rfl (by decide +kernel) fun H7 e7 => ?_
    refine skipS e7 rfl (by decide +kernel) fun H8 e8 => ?_
    refine skipS e8 rfl (by decide +kernel) fun H9 e9 => ?_
    refine skipS e9 rfl (by decide +kernel) fun H10 e10 => ?_
    refine skipS e10 rfl (by decide +kernel) fun H11 e11 => ?_
    refine skipS e11 rfl (by decide +kernel) fun H12 e12 => ?_
    refine takeS e12 rfl (by decide +kernel) fun H13 e13 => ?_
    have hc1 : OkC n c ∧ OkC n c2 := by cases hc with | and_ h g => exact ⟨h, g⟩
    have hf1 := Bool.and_eq_true_iff.mp (show (fitsC c k && fitsC c2 k) = true from hf)
    exact s_ret (ev_andV (ev_callC (ea_cons (ev_ixT (j := 1) (ev_var rfl) ev_c (ex_t e13 hs) rfl) (ea_cons (ev_var rfl) ea_nil)) (holds_call (hy.keep (Kt.same e13)) hc1.1 (hu.keep (Kt.same e13)) hd hf1.1 hi)) fun _ => ev_one (ev_callC (ea_cons (ev_ixT (j := 2) (ev_var rfl) ev_c (ex_t e13 hs) rfl) (ea_cons (ev_var rfl) ea_nil)) (holds_call (hz.keep (Kt.same e13)) hc1.2 (hu.keep (Kt.same e13)) hd hf1.2 hi))) fun Hz ez => q Hz (e13.trans ez)
  | or_ c c2 =>
    rw [Cd.data] at hv
    obtain ⟨a, x, y, z, rfl, hs, hx, hy, hz⟩ := hv.g3
    cases hx.str_inv
    refine q_asg (ev_ixT (j := 0) (ev_var rfl) ev_c hs rfl) fun H1 e1 => ?_
    refine skipS e1 rfl (by decide +kernel) fun H2 e2 => ?_
    refine skipS e2 rfl (by decide +kernel) fun H3 e3 => ?_
    refine skipS e3 rfl (by decide +kernel) fun H4 e4 => ?_
    refine skipS e4 rfl (by decide +kernel) fun H5 e5 => ?_
    refine skipS e5 rfl (by decide +kernel) fun H6 e6 => ?_
    refine skipS e6 rfl (by decide +kernel) fun H7 e7 => ?_
    refine skipS e7 rfl (by decide +kernel) fun H8 e8 => ?_
    refine skipS e8 rfl (by decide +kernel) fun H9 e9 => ?_
    refine skipS e9 rfl (by decide +kernel) fun H10 e10 => ?_
    refine skipS e10 rfl (by decide +kernel) fun H11 e11 => ?_
    refine skipS e11 rfl (by decide +kernel) fun H12 e12 => ?_
    refine skipS e12 rfl (by decide +kernel) fun H13 e13 => ?_
    have hc1 : OkC n c ∧ OkC n c2 := by cases hc with | or_ h g => exact ⟨h, g⟩
    have hf1 := Bool.and_eq_true_iff.mp (show (fitsC c k && fitsC c2 k) = true from hf)
    exact s_ret (ev_orV (ev_callC (ea_cons (ev_ixT (j := 1) (ev_var rfl) ev_c (ex_t e13 hs) rfl) (ea_cons (ev_var rfl) ea_nil)) (holds_call (hy.keep (Kt.same e13)) hc1.1 (hu.keep (Kt.same e13)) hd hf1.1 hi)) fun _ => ev_one (ev_callC (ea_cons (ev_ixT (j := 2) (ev_var rfl) ev_c (ex_t e13 hs) rfl) (ea_cons (ev_var rfl) ea_nil)) (holds_call (hz.keep (Kt.same e13)) hc1.2 (hu.keep (Kt.same e13)) hd hf1.2 hi))) fun Hz ez => q Hz (e13.trans ez)
end
end K3
namespace K3
open PySem PySem.Spec PyProof.Rows L2 Evl Cr CrT
section
variable {P : Program} {w : World} {K : PySem.W.Frag} {mg : Str → Option Value} {base : Heap}
abbrev s__law_holds : Stmt := topS 10
abbrev N__law_holds : List Str := ["limit", "value", "word", "told", "part", "j"]
theorem sc__law_holds : FnScope N__law_holds ["limit", "value"] (defScope s__law_holds) := ⟨rfl, rfl, rfl, by decide +kernel, rfl, by decide +kernel, by decide +kernel⟩
theorem ok__law_holds {f : Addr} {fd : FuncData} {n : Nat} (T : Tx mg) (F : Fun K "_law_holds" "_law_holds" s__law_holds f fd) (c__law_holds : Cl P w K mg base "_law_holds" ["limit", "value"] (n + 1) (spHolds K n)) : FnOk P w K mg base CX0 (n + 1 + 1) f fd ["limit", "value"] (spHolds K (n + 1)) := by
  refine F.ok sc__law_holds (fun vs H Q E h => ?_) (fun cdv A outer s H vs Q E hr h => ?_)
  · obtain ⟨v, u, c, k, d, rfl, _⟩ := h
    rfl
  obtain ⟨v, u, c, k, d, rfl, hv, hc, hu, hd, hf, hi, q⟩ := h
  refine ⟨_, (pss_cons (ps_set (i := 2) sc__law_holds.nd rfl (Or.inl rfl) (pe_ix (r := rIxT K) ix_tup (pv 0) pe_int (fun _ _ => rfl)))
      (pss_cons (ps_if (pt_cmpR op_eq (pv 2) pe_str (nomark _)) (pss_one (ps_ret (pe_cmpR op_le (pv 1) (pe_ix (r := rIxT K) ix_tup (pv 0) pe_int (fun _ _ => rfl)) (nomark _)))) pss_nil)
      (pss_cons (ps_if (pt_cmpR op_eq (pv 2) pe_str (nomark _)) (pss_one (ps_ret (pe_cmpR op_eq (pe_op op_mod (pv 1) (pe_ix (r := rIxT K) ix_tup (pv 0) pe_int (fun _ _ => rfl))) pe_int (nomark _)))) pss_nil)
      (pss_cons (ps_if (pt_cmpR op_eq (pv 2) pe_str (nomark _)) (pss_one (ps_ret (pe_cmpR op_eq (pv 1) (pe_ix (r := rIxT K) ix_tup (pv 0) pe_int (fun _ _ => rfl)) (nomark _)))) pss_nil)
      (pss_cons (ps_if (pt_cmpR op_eq (pv 2) pe_str (nomark _)) (pss_one (ps_ret (pe_call c__law_holds.ok (hr.mono (by omega)) (by rfl) c__law_holds.m c__law_holds.kp c__law_holds.b .nil pass0 (pa_cons (pe_ix (r := rIxT K) ix_tup (pv 0) pe_int (fun _ _ => rfl)) (pa_cons (pe_ix (r := rIxT K) ix_tup (pv 1) (pe_ix (r := rIxT K) ix_tup (pv 0) pe_int (fun _ _ => rfl)) (fun _ _ => rfl)) pa_nil))))) pss_nil)
      (pss_cons (ps_if (pt_cmpR op_in_seq (pv 2) (pe_lst (pa_cons pe_str (pa_cons pe_str pa_nil))) (by rfl)) (pss_cons (ps_setLc (i := 3) (own := [("part", 4)]) (g := gName 4) (by rfl) sc__law_holds.nd rfl rfl (sw_true rfl rfl rfl (by decide +kernel)) (pi_tup (pv 1)) (blkOk_by (own := [("part", 4)]) (N := N__law_holds) (sc := defScope s__law_holds) (by decide +kernel)) (fun _ _ _ _ _ => (pg_name (i := 4) sc__law_holds.nd rfl (Or.inl rfl))) (fun _ _ _ _ _ => pts_nil) (fun _ _ _ _ _ => (pe_call c__law_holds.ok (hr.mono (by omega)) (by rfl) c__law_holds.m c__law_holds.kp c__law_holds.b .nil pass0 (pa_cons (pe_ix (r := rIxT K) ix_tup (pv 0) pe_int (fun _ _ => rfl)) (pa_cons (pv 4) pa_nil)))))
        (pss_one (ps_ret (pe_ix (r := rIxL K) ix_list (pe_lst (pa_cons (pe_cmpR op_notIn_seq pe_bl (pv 3) (by rfl)) (pa_cons (pe_cmpR op_in_seq pe_bl (pv 3) (by rfl)) pa_nil))) (pe_callTy call_int1 (by rfl) T.z_int (by decide +kernel) (pa_cons (pe_cmpR op_eq (pv 2) pe_str (nomark _)) pa_nil)) (fun _ _ => rfl))))) pss_nil)
      (pss_cons (ps_if (pt_cmpR op_eq (pv 2) pe_str (nomark _)) (pss_one (ps_ret (pe_call c__law_holds.ok (hr.mono (by omega)) (by rfl) c__law_holds.m c__law_holds.kp c__law_holds.b .nil pass0 (pa_cons (pe_ix (r := rIxT K) ix_tup (pv 0) pe_int (fun _ _ => rfl)) (pa_cons (pe_callB call_len_seq (by rfl) T.z_len PySem.boot_len (pa_cons (pv 1) pa_nil)) pa_nil))))) pss_nil)
      (pss_cons (ps_if (pt_cmpR op_eq (pv 2) pe_str (nomark _)) (pss_one (ps_ret (pe_call c__law_holds.ok (hr.mono (by omega)) (by rfl) c__law_holds.m c__law_holds.kp c__law_holds.b .nil pass0 (pa_cons (pe_ix (r := rIxT K) ix_tup (pv 0) pe_int (fun _ _ => rfl)) (pa_cons (pe_callB (cr_sumT rfl) (by rfl) T.z_sum (by decide +kernel) (pa_cons (pv 1) pa_nil)) pa_nil))))) pss_nil)
      (pss_cons (ps_if (pt_cmpR op_eq (pv 2) pe_str (nomark _)) (pss_one (ps_ret (pe_cmpR (op_eqD hr.units) (pe_callTy call_list_of (by rfl) T.z_list (by decide +kernel) (pa_cons (pv 1) pa_nil)) (pe_callB cr_sortedTup (by rfl) T.z_sorted (by decide +kernel) (pa_cons (pv 1) pa_nil)) (nomark _)))) pss_nil)
      (pss_cons (ps_if (pt_cmpR op_eq (pv 2) pe_str (nomark _)) (pss_one (ps_ret (pe_cmpR (op_eqD hr.units) (pe_lc (own := [("j", 5)]) (g := gName 5) (by rfl) sc__law_holds.nd (pi_range1 (by rfl) T.z_range (pa_cons (pe_callB call_len_seq (by rfl) T.z_len PySem.boot_len (pa_cons (pv 1) pa_nil)) pa_nil)) (blkOk_by (own := [("j", 5)]) (N := N__law_holds) (sc := defScope s__law_holds) (by decide +kernel)) (fun _ _ _ _ _ => (pg_name (i := 5) sc__law_holds.nd rfl (Or.inl rfl))) (fun _ _ _ _ _ => pts_one (pt_cmpR (r := rInTup K false) (op_inTup (Cr.Room.u65 hr)) (pe_ix (r := rIxT K) ix_tup (pv 1) (pv 5) (fun _ _ => rfl)) (pe_slice (r := rSlA K) sl_tupA (pv 1) po_none (po_some (pv 5))) (by rfl))) (fun _ _ _ _ _ => pe_int)) (pe_lst pa_nil) (nomark _)))) pss_nil)
      (pss_cons (ps_if (pt_cmpR op_eq (pv 2) pe_str (nomark _)) (pss_one (ps_ret (pe_not (pe_call c__law_holds.ok (hr.mono (by omega)) (by rfl) c__law_holds.m c__law_holds.kp c__law_holds.b .nil pass0 (pa_cons (pe_ix (r := rIxT K) ix_tup (pv 0) pe_int (fun _ _ => rfl)) (pa_cons (pv 1) pa_nil)))))) pss_nil)
      (pss_cons (ps_if (pt_cmpR op_eq (pv 2) pe_str (nomark _)) (pss_one (ps_ret (pe_and (pe_call c__law_holds.ok (hr.mono (by omega)) (by rfl) c__law_holds.m c__law_holds.kp c__law_holds.b .nil pass0 (pa_cons (pe_ix (r := rIxT K) ix_tup (pv 0) pe_int (fun _ _ => rfl)) (pa_cons (pv 1) pa_nil))) (pe_one (pe_call c__law_holds.ok (hr.mono (by omega)) (by rfl) c__law_holds.m c__law_holds.kp c__law_holds.b .nil pass0 (pa_cons (pe_ix (r := rIxT K) ix_tup (pv 0) pe_int (fun _ _ => rfl)) (pa_cons (pv 1) pa_nil))))))) pss_nil)
      (pss_one (ps_ret (pe_or (pe_call c__law_holds.ok (hr.mono (by omega)) (by rfl) c__law_holds.m c__law_holds.kp c__law_holds.b .nil pass0 (pa_cons (pe_ix (r := rIxT K) ix_tup (pv 0) pe_int (fun _ _ => rfl)) (pa_cons (pv 1) pa_nil))) (pe_one (pe_call c__law_holds.ok (hr.mono (by omega)) (by rfl) c__law_holds.m c__law_holds.kp c__law_holds.b .nil pass0 (pa_cons (pe_ix (r := rIxT K) ix_tup (pv 0) pe_int (fun _ _ => rfl)) (pa_cons (pv 1) pa_nil))))))))))))))))))), ?_⟩
  cases c with
  | atmost m =>
    rw [Cd.data] at hv
    obtain ⟨a, x, y, rfl, hs, hx, hy⟩ := hv.g2
    cases hx.str_inv
    cases hy.int_inv
    cases isInt_of hf
    obtain ⟨i, rfl⟩ := isk_int hi
    cases hu.int_inv
    refine q_asg (ev_ixT (j := 0) (ev_var rfl) ev_c hs rfl) fun H1 e1 => ?_
    refine takeS e1 rfl (by decide +kernel) fun H2 e2 => ?_
    exact s_ret (ev_op (ev_var rfl) (ev_ixT (j := 1) (ev_var rfl) ev_c (ex_t e2 hs) rfl) rv_I0) fun Hz ez => q Hz (e2.trans ez)
  | divides m =>
    rw [Cd.data] at hv
    obtain ⟨a, x, y, rfl, hs, hx, hy⟩ := hv.g2
    cases hx.str_inv
    cases hy.int_inv
    obtain ⟨hf1, hf2⟩ := Bool.and_eq_true_iff.mp (show (k.isInt && (decide (1 ≤ m) && decide (m ≤ 100))) = true from hf)
    have hm : 1 ≤ m := of_decide_eq_true (Bool.and_eq_true_iff.mp hf2).1
    cases isInt_of hf1
    obtain ⟨i, rfl⟩ := isk_int hi
    cases hu.int_inv
    refine q_asg (ev_ixT (j := 0) (ev_var rfl) ev_c hs rfl) fun H1 e1 => ?_
    refine skipS e1 rfl (by decide +kernel) fun H2 e2 => ?_
    refine takeS e2 rfl (by decide +kernel) fun H3 e3 => ?_
    exact s_ret (ev_op (ev_op (ev_var rfl) (ev_ixT (j := 1) (ev_var rfl) ev_c (ex_t e3 hs) rfl) (rv_I (by show 0 < m; omega))) ev_c (rv_eq rfl)) fun Hz ez => q Hz (e3.trans ez)
  | is m =>
    rw [Cd.data] at hv
    obtain ⟨a, x, y, rfl, hs, hx, hy⟩ := hv.g2
    cases hx.str_inv
    cases hy.str_inv
    cases isWord_of (Bool.and_eq_true_iff.mp (show (k.isWord && Cr.isWord m) = true from hf)).1
    obtain ⟨i, rfl⟩ := isk_word hi
    cases hu.str_inv
    refine q_asg (ev_ixT (j := 0) (ev_var rfl) ev_c hs rfl) fun H1 e1 => ?_
    refine skipS e1 rfl (by decide +kernel) fun H2 e2 => ?_
    refine skipS e2 rfl (by decide +kernel) fun H3 e3 => ?_
    refine takeS e3 rfl (by decide +kernel) fun H4 e4 => ?_
    exact s_ret (ev_op (ev_var rfl) (ev_ixT (j := 1) (ev_var rfl) ev_c (ex_t e4 hs) rfl) (rv_eq rfl)) fun Hz ez => q Hz (e4.trans ez)
  | item m c =>
    rw [Cd.data] at hv
    obtain ⟨a, x, y, z, rfl, hs, hx, hy, hz⟩ := hv.g3
    cases hx.str_inv
    obtain ⟨j, ks, rfl, rfl, hj, hf1⟩ := fits_item hf
    cases hy.int_inv
    have hc1 : OkC n c := by cases hc with | item _ h => exact h
    obtain ⟨ds, rfl, hall⟩ := isk_tup hi
    obtain ⟨hkl, hki⟩ := iskAll_get hall
    obtain ⟨b, rfl⟩ := hu.ref
    obtain ⟨xs, hxs, hvd⟩ := hu.vds
    have hl := hvd.1
    have hd1 := (show Dk (19 + 1) (.tuple ds) from hd).item
    have hxj : xs[j]? = some (xs.getD j .non) := getD_at (by omega)
    have hdj : ds[j]? = some (ds.getD j .none) := getD_at (by omega)
    refine q_asg (ev_ixT (j := 0) (ev_var rfl) ev_c hs rfl) fun H1 e1 => ?_
    refine skipS e1 rfl (by decide +kernel) fun H2 e2 => ?_
    refine skipS e2 rfl (by decide +kernel) fun H3 e3 => ?_
    refine skipS e3 rfl (by decide +kernel) fun H4 e4 => ?_
    refine takeS e4 rfl (by decide +kernel) fun H5 e5 => ?_
    exact s_ret (ev_callC (ea_cons (ev_ixT (j := 2) (ev_var rfl) ev_c (ex_t e5 hs) rfl) (ea_cons (ev_ixT (j := j) (ev_var rfl) (ev_ixT (j := 1) (ev_var rfl) ev_c (ex_t e5 hs) rfl) (ex_t e5 hxs) hxj) ea_nil)) (holds_call (hz.keep (Kt.same e5)) hc1 ((hvd.2 j _ _ hxj hdj).keep (Kt.same e5)) ((hd1.2 _ (List.mem_of_getElem? hdj)).mono (by omega)) hf1 (hki j hj))) fun Hz ez => q Hz (e5.trans ez)
  | every c =>
    rw [Cd.data] at hv
    obtain ⟨a, x, y, rfl, hs, hx, hy⟩ := hv.g2
    cases hx.str_inv
    obtain ⟨j, rfl, hf1⟩ := fits_list (k := k) (f := fun j => fitsC c j) hf
    obtain ⟨ds, rfl, hall⟩ := isk_lst hi
    obtain ⟨b, rfl⟩ := hu.ref
    obtain ⟨xs, hxs, hvd⟩ := hu.vds
    have hl := hvd.1
    have hd1 := (show Dk (19 + 1) (.tuple ds) from hd).item
    have hc1 : OkC n c := by cases hc with | every h => exact h
    refine q_asg (ev_ixT (j := 0) (ev_var rfl) ev_c hs rfl) fun H1 e1 => ?_
    refine skipS e1 rfl (by decide +kernel) fun H2 e2 => ?_
    refine skipS e2 rfl (by decide +kernel) fun H3 e3 => ?_
    refine skipS e3 rfl (by decide +kernel) fun H4 e4 => ?_
    refine skipS e4 rfl (by decide +kernel) fun H5 e5 => ?_
    refine takeL e5 rfl (ea_cons ev_c (ea_cons ev_c ea_nil)) (by show 2 ≤ 100000; decide) rfl (by decide +kernel) fun H6 e6 => ?_
    refine q_asgL (el_is (el_lcT (fun _ => true) (fun i => .bl (holdsC c (ds.getD i .none))) (ev_var rfl) (ex_t e6 hxs) (by omega) (fun _ => rfl) (fun _ _ _ _ _ => et_yes) (fun i x Hy ey hx _ => ?_)) (given_all _ _)) fun pt Hy hpt ey ht => ?_
    · have hi' : i < ds.length := by have := (List.getElem?_eq_some_iff.mp hx).1; omega
      have hdi := getD_at (a0 := PyData.none) hi'
      exact ev_callC (ea_cons (ev_ixT (j := 1) (ev_var rfl) ev_c (ex_t (e6.trans ey) hs) rfl) (ea_cons (ev_var rfl) ea_nil)) (holds_call (hy.keep (Kt.same (e6.trans ey))) hc1 ((hvd.2 i _ _ hx hdi).keep (Kt.same (e6.trans ey))) ((hd1.2 _ (List.mem_of_getElem? hdi)).mono (by omega)) hf1 (hall _ (List.mem_of_getElem? hdi)))
    refine s_ret (v := .bl (holdsC (.every c) (.tuple ds))) (ev_is (ev_opL1 (el_lst (ea_cons (ev_op ev_c (ev_var rfl) (rv_niL (sq_of ht) rfl (flat_bls _))) (ea_cons (ev_op ev_c (ev_var rfl) (rv_isL (sq_of ht) rfl (flat_bls _))) ea_nil)) (by show 2 ≤ 100000; decide)) (y := .int 0) (fun Hq7 eq7 => ev_is (ev_cb (ea_cons (ev_op (ev_var rfl) ev_c (rv_eq rfl)) ea_nil) (fun Hq6 eq6 Q q => .inr ⟨_, rfl, q Hq6 (Ex.refl _)⟩)) (by decide +kernel)) (fun p6 Hq7 hpq7 eq7 => rv_ixL (i := 0) (sq_of hpq7) rfl)) (by rw [in_false, hl, all_items]; rfl)) fun Hz ez => q Hz (e6.trans (ey.trans ez))
  | some_ c =>
    rw [Cd.data] at hv
    obtain ⟨a, x, y, rfl, hs, hx, hy⟩ := hv.g2
    cases hx.str_inv
    obtain ⟨j, rfl, hf1⟩ := fits_list (k := k) (f := fun j => fitsC c j) hf
    obtain ⟨ds, rfl, hall⟩ := isk_lst hi
    obtain ⟨b, rfl⟩ := hu.ref
    obtain ⟨xs, hxs, hvd⟩ := hu.vds
    have hl := hvd.1
    have hd1 := (show Dk (19 + 1) (.tuple ds) from hd).item
    have hc1 : OkC n c := by cases hc with | some_ h => exact h
    refine q_asg (ev_ixT (j := 0) (ev_var rfl) ev_c hs rfl) fun H1 e1 => ?_
    refine skipS e1 rfl (by decide +kernel) fun H2 e2 => ?_
    refine skipS e2 rfl (by decide +kernel) fun H3 e3 => ?_
    refine skipS e3 rfl (by decide +kernel) fun H4 e4 => ?_
    refine skipS e4 rfl (by decide +kernel) fun H5 e5 => ?_
    refine takeL e5 rfl (ea_cons ev_c (ea_cons ev_c ea_nil)) (by show 2 ≤ 100000; decide) rfl (by decide +kernel) fun H6 e6 => ?_
    refine q_asgL (el_is (el_lcT (fun _ => true) (fun i => .bl (holdsC c (ds.getD i .none))) (ev_var rfl) (ex_t e6 hxs) (by omega) (fun _ => rfl) (fun _ _ _ _ _ => et_yes) (fun i x Hy ey hx _ => ?_)) (given_all _ _)) fun pt Hy hpt ey ht => ?_
    · have hi' : i < ds.length := by have := (List.getElem?_eq_some_iff.mp hx).1; omega
      have hdi := getD_at (a0 := PyData.none) hi'
      exact ev_callC (ea_cons (ev_ixT (j := 1) (ev_var rfl) ev_c (ex_t (e6.trans ey) hs) rfl) (ea_cons (ev_var rfl) ea_nil)) (holds_call (hy.keep (Kt.same (e6.trans ey))) hc1 ((hvd.2 i _ _ hx hdi).keep (Kt.same (e6.trans ey))) ((hd1.2 _ (List.mem_of_getElem? hdi)).mono (by omega)) hf1 (hall _ (List.mem_of_getElem? hdi)))
    refine s_ret (v := .bl (holdsC (.some_ c) (.tuple ds))) (ev_is (ev_opL1 (el_lst (ea_cons (ev_op ev_c (ev_var rfl) (rv_niL (sq_of ht) rfl (flat_bls _))) (ea_cons (ev_op ev_c (ev_var rfl) (rv_isL (sq_of ht) rfl (flat_bls _))) ea_nil)) (by show 2 ≤ 100000; decide)) (y := .int 1) (fun Hq7 eq7 => ev_is (ev_cb (ea_cons (ev_op (ev_var rfl) ev_c (rv_eq rfl)) ea_nil) (fun Hq6 eq6 Q q => .inr ⟨_, rfl, q Hq6 (Ex.refl _)⟩)) (by decide +kernel)) (fun p6 Hq7 hpq7 eq7 => rv_ixL (i := 1) (sq_of hpq7) rfl)) (by rw [in_true, hl, any_items]; rfl)) fun Hz ez => q Hz (e6.trans (ey.trans ez))
  | size c =>
    rw [Cd.data] at hv
    obtain ⟨a, x, y, rfl, hs, hx, hy⟩ := hv.g2
    cases hx.str_inv
    obtain ⟨j, rfl, hf1⟩ := fits_list (k := k) (f := fun j => fitsC c .int) hf
    obtain ⟨ds, rfl, hall⟩ := isk_lst hi
    obtain ⟨b, rfl⟩ := hu.ref
    obtain ⟨xs, hxs, hvd⟩ := hu.vds
    have hl := hvd.1
    have hd1 := (show Dk (19 + 1) (.tuple ds) from hd).item
    have hc1 : OkC n c := by cases hc with | size h => exact h
    refine q_asg (ev_ixT (j := 0) (ev_var rfl) ev_c hs rfl) fun H1 e1 => ?_
    refine skipS e1 rfl (by decide +kernel) fun H2 e2 => ?_
    refine skipS e2 rfl (by decide +kernel) fun H3 e3 => ?_
    refine skipS e3 rfl (by decide +kernel) fun H4 e4 => ?_
    refine skipS e4 rfl (by decide +kernel) fun H5 e5 => ?_
    refine skipL e5 rfl (ea_cons ev_c (ea_cons ev_c ea_nil)) (by show 2 ≤ 100000; decide) rfl (by decide +kernel) fun H6 e6 => ?_
    refine takeS e6 rfl (by decide +kernel) fun H7 e7 => ?_
    exact s_ret (ev_callC (ea_cons (ev_ixT (j := 1) (ev_var rfl) ev_c (ex_t e7 hs) rfl) (ea_cons (ev_is (ev_lenT (ev_var rfl) (ex_t e7 hxs)) (by rw [hl])) ea_nil)) (holds_call (hy.keep (Kt.same e7)) hc1 (.int _) (.int _) hf1 (by rw [isk]))) fun Hz ez => q Hz (e7.trans ez)
  | sum c =>
    rw [Cd.data] at hv
    obtain ⟨a, x, y, rfl, hs, hx, hy⟩ := hv.g2
    cases hx.str_inv
    obtain ⟨j, rfl, hf1⟩ := fits_list (k := k) (f := fun j => j.isInt && fitsC c .int) hf
    obtain ⟨ds, rfl, hall⟩ := isk_lst hi
    obtain ⟨b, rfl⟩ := hu.ref
    obtain ⟨xs, hxs, hvd⟩ := hu.vds
    have hl := hvd.1
    have hd1 := (show Dk (19 + 1) (.tuple ds) from hd).item
    have hc1 : OkC n c := by cases hc with | sum h => exact h
    obtain ⟨hf2, hf3⟩ := Bool.and_eq_true_iff.mp hf1
    cases isInt_of hf2
    have hns := ints_of hall
    have hxi : SqT K H b ((ds.map numD).map V.int) := vd_ints (by rw [← hns]; exact hu)
    refine q_asg (ev_ixT (j := 0) (ev_var rfl) ev_c hs rfl) fun H1 e1 => ?_
    refine skipS e1 rfl (by decide +kernel) fun H2 e2 => ?_
    refine skipS e2 rfl (by decide +kernel) fun H3 e3 => ?_
    refine skipS e3 rfl (by decide +kernel) fun H4 e4 => ?_
    refine skipS e4 rfl (by decide +kernel) fun H5 e5 => ?_
    refine skipL e5 rfl (ea_cons ev_c (ea_cons ev_c ea_nil)) (by show 2 ≤ 100000; decide) rfl (by decide +kernel) fun H6 e6 => ?_
    refine skipS e6 rfl (by decide +kernel) fun H7 e7 => ?_
    refine takeS e7 rfl (by decide +kernel) fun H8 e8 => ?_
    exact s_ret (ev_callC (ea_cons (ev_ixT (j := 1) (ev_var rfl) ev_c (ex_t e8 hs) rfl) (ea_cons (ev_sumT (ev_var rfl) (ex_t e8 hxi)) ea_nil)) (holds_call (hy.keep (Kt.same e8)) hc1 (.int _) (.int _) hf3 (by rw [isk]))) fun Hz ez => q Hz (e8.trans ez)
  | rising =>
    rw [Cd.data] at hv
    obtain ⟨a, x, rfl, hs, hx⟩ := hv.g1
    cases hx.str_inv
    obtain ⟨j, rfl, hf1⟩ := fits_list (k := k) (f := fun j => j.isInt) hf
    obtain ⟨ds, rfl, hall⟩ := isk_lst hi
    obtain ⟨b, rfl⟩ := hu.ref
    obtain ⟨xs, hxs, hvd⟩ := hu.vds
    have hl := hvd.1
    have hd1 := (show Dk (19 + 1) (.tuple ds) from hd).item
    cases isInt_of hf1
    have hns := ints_of hall
    have hxi : SqT K H b ((ds.map numD).map V.int) := vd_ints (by rw [← hns]; exact hu)
    have hnl : (ds.map numD).length ≤ 60 := by rw [List.length_map]; exact hd1.1
    have hres : holdsC .rising (.tuple ds) = rise (ds.map numD) := rfl
    rw [hres] at q
    generalize ds.map numD = ns at hxi hnl q
    refine q_asg (ev_ixT (j := 0) (ev_var rfl) ev_c hs rfl) fun H1 e1 => ?_
    refine skipS e1 rfl (by decide +kernel) fun H2 e2 => ?_
    refine skipS e2 rfl (by decide +kernel) fun H3 e3 => ?_
    refine skipS e3 rfl (by decide +kernel) fun H4 e4 => ?_
    refine skipS e4 rfl (by decide +kernel) fun H5 e5 => ?_
    refine skipL e5 rfl (ea_cons ev_c (ea_cons ev_c ea_nil)) (by show 2 ≤ 100000; decide) rfl (by decide +kernel) fun H6 e6 => ?_
    refine skipS e6 rfl (by decide +kernel) fun H7 e7 => ?_
    refine skipS e7 rfl (by decide +kernel) fun H8 e8 => ?_
    refine takeS e8 rfl (by decide +kernel) fun H9 e9 => ?_
    refine ⟨_, rfl, b, _, rfl, .inr (ex_t e9 hxi), fun l hl => ?_⟩
    have f1 := e9.trans (same_new (o := .lst (ns.map V.int)) hl)
    refine ⟨_, rfl, b, ns, rfl, ex_t f1 hxi, by omega, fun ms p hperm hsort hp => ?_⟩
    have f2 := f1.trans (same_new (o := .lst (ms.map V.int)) hp)
    refine ⟨.list (ns.map PyData.int), .list (ms.map PyData.int), .lst (.of ((same_new hp) _ _ upd_same)) (dp_ints ns), .lst (.of upd_same) (dp_ints ms), shaped_list (m := 0) (by omega) (fun d hd => ?_), shaped_list (m := 0) (by omega) (fun d hd => ?_), ?_⟩
    · obtain ⟨z, _, rfl⟩ := List.mem_map.mp hd
      exact .int z
    · obtain ⟨z, _, rfl⟩ := List.mem_map.mp hd
      exact .int z
    · have e0 : PyData.eqv (.list (ns.map PyData.int)) (.list (ms.map PyData.int)) = rise ns := (eqv_ints ns ms).trans (rise_eq hperm hsort)
      rw [e0]
      exact q _ f2
  | different =>
    rw [Cd.data] at hv
    obtain ⟨a, x, rfl, hs, hx⟩ := hv.g1
    cases hx.str_inv
    obtain ⟨j, rfl, hf1⟩ := fits_list (k := k) (f := fun j => true) hf
    obtain ⟨ds, rfl, hall⟩ := isk_lst hi
    obtain ⟨b, rfl⟩ := hu.ref
    obtain ⟨xs, hxs, hvd⟩ := hu.vds
    have hl := hvd.1
    have hd1 := (show Dk (19 + 1) (.tuple ds) from hd).item
    refine q_asg (ev_ixT (j := 0) (ev_var rfl) ev_c hs rfl) fun H1 e1 => ?_
    refine skipS e1 rfl (by decide +kernel) fun H2 e2 => ?_
    refine skipS e2 rfl (by decide +kernel) fun H3 e3 => ?_
    refine skipS e3 rfl (by decide +kernel) fun H4 e4 => ?_
    refine skipS e4 rfl (by decide +kernel) fun H5 e5 => ?_
    refine skipL e5 rfl (ea_cons ev_c (ea_cons ev_c ea_nil)) (by show 2 ≤ 100000; decide) rfl (by decide +kernel) fun H6 e6 => ?_
    refine skipS e6 rfl (by decide +kernel) fun H7 e7 => ?_
    refine skipS e7 rfl (by decide +kernel) fun H8 e8 => ?_
    refine skipS e8 rfl (by decide +kernel) fun H9 e9 => ?_
    refine takeS e9 rfl (by decide +kernel) fun H10 e10 => ?_
    refine s_ret (v := .bl (holdsC .different (.tuple ds))) (ev_is (ev_nil (m := 0) (by omega) (el_lcR1 (n := (xs.length : Int)) (fun j => (ds.take j).any fun z => PyData.eqv z (ds.getD j .none)) (fun _ => .int 1) (ea_cons (ev_lenT (ev_var rfl) (ex_t e10 hxs)) ea_nil) (by omega) (fun _ => rfl) (fun j Hy ey hj => ?_) (fun _ _ _ _ _ => ev_c)) one_items) ?_) fun Hz ez => q Hz (e10.trans ez)
    · have hjx : j < xs.length := by omega
      have hxj : xs[j]? = some (xs.getD j .non) := getD_at hjx
      have hdj : ds[j]? = some (ds.getD j .none) := getD_at (by omega)
      have hdk := hd1.2 _ (List.mem_of_getElem? hdj)
      have e08 := e10.trans ey
      exact et_test (ev_inS (no := false) (ev_ixT (j := j) (ev_var rfl) (ev_var rfl) (ex_t e08 hxs) hxj) (evs_ahead (j := j) (ev_var rfl) (ev_var rfl) (ex_t e08 hxs) hjx) ((hvd.2 j _ _ hxj hdj).keep (Kt.same e08)) (fun Hq7 eq7 => (hvd.keep (Kt.same (e08.trans eq7))).take _) (hdk.shaped (by omega)) ((hd.sub (by rw [List.length_take]; omega) fun e he => List.mem_of_mem_take he).shaped (by omega)))
    · rw [given_empty, Int.toNat_natCast, hl, diff_ahead]
      rfl
  | not_ c =>
    rw [Cd.data] at hv
    obtain ⟨a, x, y, rfl, hs, hx, hy⟩ := hv.g2
    cases hx.str_inv
    refine q_asg (ev_ixT (j := 0) (ev_var rfl) ev_c hs rfl) fun H1 e1 => ?_
    refine skipS e1 rfl (by decide +kernel) fun H2 e2 => ?_
    refine skipS e2 rfl (by decide +kernel) fun H3 e3 => ?_
    refine skipS e3 rfl (by decide +kernel) fun H4 e4 => ?_
    refine skipS e4 rfl (by decide +kernel) fun H5 e5 => ?_
    refine skipL e5 rfl (ea_cons ev_c (ea_cons ev_c ea_nil)) (by show 2 ≤ 100000; decide) rfl (by decide +kernel) fun H6 e6 => ?_
    refine skipS e6 rfl (by decide +kernel) fun H7 e7 => ?_
    refine skipS e7 rfl (by decide +kernel) fun H8 e8 => ?_
    refine skipS e8 rfl (by decide +kernel) fun H9 e9 => ?_
    refine skipS e9 rfl (by decide +kernel) fun H10 e10 => ?_
    refine takeS e10 rfl (by decide +kernel) fun H11 e11 => ?_
    have hc1 : OkC n c := by cases hc with | not_ h => exact h
    exact s_ret (ev_notV (ev_callC (ea_cons (ev_ixT (j := 1) (ev_var rfl) ev_c (ex_t e11 hs) rfl) (ea_cons (ev_var rfl) ea_nil)) (holds_call (hy.keep (Kt.same e11)) hc1 (hu.keep (Kt.same e11)) hd hf hi))) fun Hz ez => q Hz (e11.trans ez)
  | and_ c c2 =>
    rw [Cd.data] at hv
    obtain ⟨a, x, y, z, rfl, hs, hx, hy, hz⟩ := hv.g3
    cases hx.str_inv
    refine q_asg (ev_ixT (j := 0) (ev_var rfl) ev_c hs rfl) fun H1 e1 => ?_
    refine skipS e1 rfl (by decide +kernel) fun H2 e2 => ?_
    refine skipS e2 rfl (by decide +kernel) fun H3 e3 => ?_
    refine skipS e3 rfl (by decide +kernel) fun H4 e4 => ?_
    refine skipS e4 rfl (by decide +kernel) fun H5 e5 => ?_
    refine skipL e5 rfl (ea_cons ev_c (ea_cons ev_c ea_nil)) (by show 2 ≤ 100000; decide) rfl (by decide +kernel) fun H6 e6 => ?_
    refine skipS e6 rfl (by decide +kernel) fun H7 e7 => ?_
    refine skipS e7 rfl (by decide +kernel) fun H8 e8 => ?_
    refine skipS e8 rfl (by decide +kernel) fun H9 e9 => ?_
    refine skipS e9 rfl (by decide +kernel) fun H10 e10 => ?_
    refine skipS e10 rfl (by decide +kernel) fun H11 e11 => ?_
    refine takeS e11 rfl (by decide +kernel) fun H12 e12 => ?_
    have hc1 : OkC n c ∧ OkC n c2 := by cases hc with | and_ h g => exact ⟨h, g⟩
    have hf1 := Bool.and_eq_true_iff.mp (show (fitsC c k && fitsC c2 k) = true from hf)
    exact s_ret (ev_andV (ev_callC (ea_cons (ev_ixT (j := 1) (ev_var rfl) ev_c (ex_t e12 hs) rfl) (ea_cons (ev_var rfl) ea_nil)) (holds_call (hy.keep (Kt.same e12)) hc1.1 (hu.keep (Kt.same e12)) hd hf1.1 hi)) fun _ => ev_one (ev_callC (ea_cons (ev_ixT (j := 2) (ev_var rfl) ev_c (ex_t e12 hs) rfl) (ea_cons (ev_var rfl) ea_nil)) (holds_call (hz.keep (Kt.same e12)) hc1.2 (hu.keep (Kt.same e12)) hd hf1.2 hi))) fun Hz ez => q Hz (e12.trans ez)
  | or_ c c2 =>
    rw [Cd.data] at hv
    obtain ⟨a, x, y, z, rfl, hs, hx, hy, hz⟩ := hv.g3
    cases hx.str_inv
    refine q_asg (ev_ixT (j := 0) (ev_var rfl) ev_c hs rfl) fun H1 e1 => ?_
    refine skipS e1 rfl (by decide +kernel) fun H2 e2 => ?_
    refine skipS e2 rfl (by decide +kernel) fun H3 e3 => ?_
    refine skipS e3 rfl (by decide +kernel) fun H4 e4 => ?_
    refine skipS e4 rfl (by decide +kernel) fun H5 e5 => ?_
    refine skipL e5 rfl (ea_cons ev_c (ea_cons ev_c ea_nil)) (by show 2 ≤ 100000; decide) rfl (by decide +kernel) fun H6 e6 => ?_
    refine skipS e6 rfl (by decide +kernel) fun H7 e7 => ?_
    refine skipS e7 rfl (by decide +kernel) fun H8 e8 => ?_
    refine skipS e8 rfl (by decide +kernel) fun H9 e9 => ?_
    refine skipS e9 rfl (by decide +kernel) fun H10 e10 => ?_
    refine skipS e10 rfl (by decide +kernel) fun H11 e11 => ?_
    refine skipS e11 rfl (by decide +kernel) fun H12 e12 => ?_
    have hc1 : OkC n c ∧ OkC n c2 := by cases hc with | or_ h g => exact ⟨h, g⟩
    have hf1 := Bool.and_eq_true_iff.mp (show (fitsC c k && fitsC c2 k) = true from hf)
    exact s_ret (ev_orV (ev_callC (ea_cons (ev_ixT (j := 1) (ev_var rfl) ev_c (ex_t e12 hs) rfl) (ea_cons (ev_var rfl) ea_nil)) (holds_call (hy.keep (Kt.same e12)) hc1.1 (hu.keep (Kt.same e12)) hd hf1.1 hi)) fun _ => ev_one (ev_callC (ea_cons (ev_ixT (j := 2) (ev_var rfl) ev_c (ex_t e12 hs) rfl) (ea_cons (ev_var rfl) ea_nil)) (holds_call (hz.keep (Kt.same e12)) hc1.2 (hu.keep (Kt.same e12)) hd hf1.2 hi))) fun Hz ez => q Hz (e12.trans ez)
end
end K3
namespace K3
open PySem PySem.Spec PyProof.Rows L2 Evl Cr CrT
section
variable {P : Program} {w : World} {K : PySem.W.Frag} {mg : Str → Option Value} {base : Heap}
abbrev s__law_cell : Stmt := topS 4
abbrev N__law_cell : List Str := ["script", "k"]
theorem sc__law_cell : FnScope N__law_cell ["script", "k"] (defScope s__law_cell) := ⟨rfl, rfl, rfl, by decide +kernel, rfl, by decide +kernel, by decide +kernel⟩
theorem ok__law_cell {f : Addr} {fd : FuncData} {k : Nat} (T : Tx mg) (F : Fun K "_law_cell" "_law_cell" s__law_cell f fd) : FnOk P w K mg base CX0 (k + 1) f fd ["script", "k"] (spCell K) := by
  refine F.ok sc__law_cell (fun vs H Q E h => ?_) (fun cdv A outer s H vs Q E hr h => ?_)
  · obtain ⟨a, ns, j, rfl, _⟩ := h
    rfl
  obtain ⟨a, ns, j, rfl, ha, q⟩ := h
  refine ⟨_, (pss_cons (ps_if (pt_cmpR op_lt (pv 1) (pe_callB call_len_seq (by rfl) T.z_len PySem.boot_len (pa_cons (pv 0) pa_nil)) (nomark _)) (pss_one (ps_ret (pe_ix (r := rIxL K) ix_list (pv 0) (pv 1) (fun _ _ => rfl)))) pss_nil)
      (pss_one (ps_ret pe_int))), ?_⟩
  refine q_when (et_test (ev_op (ev_var rfl) (ev_lenL (ev_var rfl) ha) rv_I0)) (fun hb H1 e1 => ?_) (fun hb H1 e1 => ?_)
  · have hlt : j < ns.length := by
      have h := of_decide_eq_true hb
      rw [List.length_map] at h
      omega
    have hx : (ns.map V.int)[j]? = some (.int ns[j]) := by
      rw [List.getElem?_map, List.getElem?_eq_getElem hlt]
      rfl
    exact s_ret (ev_ixL (j := j) (ev_var rfl) (ev_var rfl) (ex_l e1 ha) hx) fun H2 e2 => q _ H2 (e1.trans e2)
  · exact s_ret ev_c fun H2 e2 => q _ H2 (e1.trans e2)
abbrev s__law_draw : Stmt := topS 5
abbrev N__law_draw : List Str := ["script", "k", "sizes", "cell", "drawn", "size", "stirred", "j"]
theorem sc__law_draw : FnScope N__law_draw ["script", "k", "sizes"] (defScope s__law_draw) := ⟨rfl, rfl, rfl, by decide +kernel, rfl, by decide +kernel, by decide +kernel⟩
theorem ok__law_draw {f : Addr} {fd : FuncData} (T : Tx mg) (F : Fun K "_law_draw" "_law_draw" s__law_draw f fd) (c__law_cell : Cl P w K mg base "_law_cell" ["script", "k"] 1 (spCell K)) : FnOk P w K mg base CX0 2 f fd ["script", "k", "sizes"] (spDraw K) := by
  refine F.ok sc__law_draw (fun vs H Q E h => ?_) (fun cdv A outer s H vs Q E hr h => ?_)
  · obtain ⟨a, b, ns, ms, j, rfl, _⟩ := h
    rfl
  obtain ⟨a, b, ns, ms, k, rfl, ha, hb, hm, hms, q⟩ := h
  refine ⟨_, (pss_cons (ps_set (i := 3) sc__law_draw.nd rfl (Or.inl rfl) (pe_call c__law_cell.ok (hr.mono (by omega)) (by rfl) c__law_cell.m c__law_cell.kp c__law_cell.b .nil pass0 (pa_cons (pv 0) (pa_cons (pv 1) pa_nil))))
      (pss_cons (ps_if (pt_cmpR op_lt (pv 3) pe_int (nomark _)) (pss_one (ps_set (i := 3) sc__law_draw.nd rfl (Or.inl rfl) (pe_un un_neg (pv 3)))) pss_nil)
      (pss_cons (ps_set (i := 4) sc__law_draw.nd rfl (Or.inl rfl) (pe_lst pa_nil))
      (pss_cons (ps_if (pt_cmpR op_ge (pv 3) (pe_op op_pow pe_int pe_int) (nomark _)) (pss_cons (ps_set (i := 3) sc__law_draw.nd rfl (Or.inl rfl) (pe_op op_sub (pv 3) (pe_op op_pow pe_int pe_int)))
        (pss_cons (ps_for PassesOwn.never rfl (pi_list (pv 2)) (pg_name (i := 5) sc__law_draw.nd rfl (Or.inl rfl)) (pss_cons (ps_expr (pe_bm PySem.F.plainAttrs_list PySem.F.slot_list_append PySem.F.type_list_append mt_append (pv 4) (pa_cons (pe_op op_mod (pv 3) (pv 5)) pa_nil)))
          (pss_one (ps_set (i := 3) sc__law_draw.nd rfl (Or.inl rfl) (pe_op op_fdiv (pv 3) (pv 5))))))
        (pss_one (ps_ret (pv 4))))) pss_nil)
      (pss_cons (ps_set (i := 6) sc__law_draw.nd rfl (Or.inl rfl) (pe_op op_mod (pe_op op_add (pe_op op_add (pv 3) pe_int) (pe_op op_mul pe_int (pv 1))) pe_int))
      (pss_cons (ps_for PassesOwn.never rfl (pi_range1 (by rfl) T.z_range (pa_cons (pe_callB call_len_seq (by rfl) T.z_len PySem.boot_len (pa_cons (pv 2) pa_nil)) pa_nil)) (pg_name (i := 7) sc__law_draw.nd rfl (Or.inl rfl)) (pss_cons (ps_set (i := 6) sc__law_draw.nd rfl (Or.inl rfl) (pe_op op_mod (pe_op op_add (pe_op op_add (pe_op op_mul (pv 6) pe_int) pe_int) (pv 7)) pe_int))
        (pss_cons (ps_set (i := 6) sc__law_draw.nd rfl (Or.inl rfl) (pe_op op_mod (pe_op op_add (pe_op op_mul (pv 6) pe_int) pe_int) pe_int))
        (pss_one (ps_expr (pe_bm PySem.F.plainAttrs_list PySem.F.slot_list_append PySem.F.type_list_append mt_append (pv 4) (pa_cons (pe_op op_mod (pe_op op_fdiv (pv 6) pe_int) (pe_ix (r := rIxL K) ix_list (pv 2) (pv 7) (fun _ _ => rfl))) pa_nil)))))))
      (pss_one (ps_ret (pv 4))))))))), ?_⟩
  -- cell = _law_cell(script, k)
  refine ⟨_, rfl, _, rfl, a, ns, k, rfl, ha, fun c H1 e1 => ?_⟩
  refine q_ifAsg (b := decide (c < 0)) (v := .int (if c < 0 then -c else c)) (et_test (ev_op (ev_var rfl) ev_c rv_I0)) (fun hc => ev_is (ev_un (ev_var rfl) ru_neg) (by rw [if_pos (of_decide_eq_true hc)])) (fun hc => by rw [if_neg (of_decide_eq_false hc)]; rfl) fun H2 e2' => ?_
  have e2 := e1.trans e2'
  generalize (if c < 0 then -c else c) = c
  -- drawn = []
  refine q_asgL (el_lst ea_nil (by decide)) fun p H3 hp3 e3 h3 => ?_
  have hp : H p = none := Same.free e2 hp3
  have e03 : Same H H3 := e2.trans e3
  have fin : ∀ (acc : List Int) H', Same H H' → H' p = some (.lst (acc.map V.int)) → acc.length = ms.length → Q (.ref p) H' := fun acc H' e h hl => q p acc H' e hp h hl
  refine q_when (et_test (ev_op (ev_var rfl) (ev_op ev_c ev_c (rv_I ⟨by decide, by decide, by decide⟩)) rv_I0)) (fun _ H4 e4 => ?_) (fun _ H4 e4 => ?_)
  · refine q_asg (ev_op (ev_var rfl) (ev_op ev_c ev_c (rv_I ⟨by decide, by decide, by decide⟩)) rv_I0) fun H5 e5 => ?_
    have e05 := e03.trans (e4.trans e5)
    refine q_forLn (a := b) (xs := ms.map V.int) (ev_var rfl) (ex_l e05 hb) (fun i σ' H' => ∃ (c : Int) (z : Option V) (acc : List Int), σ' = [some (.ref a), some (.int (k : Int)), some (.ref b), some (.int c), some (.ref p), z, none, none] ∧ Same H H' ∧ H' p = some (.lst (acc.map V.int)) ∧ acc.length = i)
      (fun H6 e6 => ⟨_, none, [], rfl, e05.trans e6, e6 _ _ (e5 _ _ (e4 _ _ h3)), rfl⟩) (fun i σ' H' _ ⟨_, _, _, _, e, _, _⟩ => ex_l e hb) (fun i x σ' H' hx hP => ?_) (fun σ' H' hP => ?_)
    · obtain ⟨c', z, acc, rfl, e, hpl, hl⟩ := hP
      obtain ⟨m, hmi, rfl⟩ := map_int hx
      have him := (List.getElem?_eq_some_iff.mp hmi).1
      obtain ⟨m0, m1⟩ := hms m (List.mem_of_getElem? hmi)
      refine q_app hpl (ev_var rfl) (ev_op (ev_var rfl) (ev_var rfl) (rv_I m0)) (by rw [List.length_map]; omega) fun H7 e7 => ?_
      refine s_asg (ev_op (ev_var rfl) (ev_var rfl) (rv_I ⟨m0, m1⟩)) fun H8 e8 => ⟨_, _, acc ++ [c' % m], rfl, ?_, ?_, ?_⟩
      · exact (same_mut (e.trans e7) hp).trans e8
      · exact e8 _ _ (by rw [upd_same, List.map_append]; rfl)
      · rw [List.length_append, hl]; rfl
    · obtain ⟨c', z, acc, rfl, e, hpl, hl⟩ := hP
      exact s_ret (ev_var rfl) fun H9 e9 => fin acc H9 (e.trans e9) (e9 _ _ hpl) (by rw [hl, List.length_map])
  · refine q_asg (ev_op (ev_op (ev_op (ev_var rfl) ev_c rv_I0) (ev_op ev_c (ev_var rfl) (rv_I (.inl ⟨by decide, by decide⟩))) rv_I0) ev_c (rv_I (by decide))) fun H5 e5 => ?_
    have e05 := e03.trans (e4.trans e5)
    refine q_forR1 (n := ((ms.map V.int).length : Int)) (ea_cons (ev_lenL (ev_var rfl) (ex_l e05 hb)) ea_nil) (by rw [List.length_map]; omega) (fun i σ' H' => ∃ (c : Int) (z : Option V) (acc : List Int), σ' = [some (.ref a), some (.int (k : Int)), some (.ref b), σ'.getD 3 none, some (.ref p), none, some (.int c), z] ∧ Same H H' ∧ H' p = some (.lst (acc.map V.int)) ∧ acc.length = i)
      (fun H6 e6 => ⟨_, none, [], rfl, e05.trans e6, e6 _ _ (e5 _ _ (e4 _ _ h3)), rfl⟩) (fun i σ' H' hi hP => ?_) (fun σ' H' hP => ?_)
    · obtain ⟨c', z, acc, hσ, e, hpl, hl⟩ := hP
      rw [List.length_map] at hi
      generalize σ'.getD 3 none = y at hσ
      subst hσ
      have hmi : ms[i]? = some ms[i] := List.getElem?_eq_getElem (by omega)
      obtain ⟨m0, m1⟩ := hms ms[i] (List.mem_of_getElem? hmi)
      have hx : (ms.map V.int)[i]? = some (.int ms[i]) := by rw [List.getElem?_map, hmi]; rfl
      refine q_asg (ev_op (ev_op (ev_op (ev_op (ev_var rfl) ev_c (rv_I (.inr ⟨by decide, by decide⟩))) ev_c rv_I0) (ev_var rfl) rv_I0) ev_c (rv_I (by decide))) fun H7 e7 => ?_
      refine q_asg (ev_op (ev_op (ev_op (ev_var rfl) ev_c (rv_I (.inr ⟨by decide, by decide⟩))) ev_c rv_I0) ev_c (rv_I (by decide))) fun H8 e8 => ?_
      have e78 := e7.trans e8
      refine s_app (e78 _ _ hpl) (ev_var rfl) (ev_op (ev_op (ev_var rfl) ev_c (rv_I ⟨by decide, by decide⟩)) (ev_ixL (j := i) (ev_var rfl) (ev_var rfl) (ex_l (e.trans e78) hb) hx) (rv_I m0)) (by rw [List.length_map]; omega) fun H9 e9 => ⟨_, _, acc ++ [((c' * 48271 + 11 + (i : Int)) % 2147483647 * 69621 + 3) % 2147483647 / 7 % ms[i]], rfl, ?_, ?_, ?_⟩
      · exact same_mut ((e.trans e78).trans e9) hp
      · rw [upd_same, List.map_append]; rfl
      · rw [List.length_append, hl]; rfl
    · obtain ⟨c', z, acc, hσ, e, hpl, hl⟩ := hP
      rw [hσ]
      exact s_ret (ev_var rfl) fun H9 e9 => fin acc H9 (e.trans e9) (e9 _ _ hpl) (by rw [hl, List.length_map]; rfl)
abbrev s__law_box : Stmt := topS 6
abbrev N__law_box : List Str := ["script", "k"]
theorem sc__law_box : FnScope N__law_box ["script", "k"] (defScope s__law_box) := ⟨rfl, rfl, rfl, by decide +kernel, rfl, by decide +kernel, by decide +kernel⟩
theorem ok__law_box {f : Addr} {fd : FuncData} (T : Tx mg) (F : Fun K "_law_box" "_law_box" s__law_box f fd) (c__law_draw : Cl P w K mg base "_law_draw" ["script", "k", "sizes"] 2 (spDraw K)) : FnOk P w K mg base CX0 3 f fd ["script", "k"] (spBox K) := by
  refine F.ok sc__law_box (fun vs H Q E h => ?_) (fun cdv A outer s H vs Q E hr h => ?_)
  · obtain ⟨a, ns, j, rfl, _⟩ := h
    rfl
  obtain ⟨a, ns, k, rfl, ha, q⟩ := h
  refine ⟨_, (pss_one (ps_ret (pe_lst (pa_cons (pe_op op_cat (pe_call c__law_draw.ok (hr.mono (by omega)) (by rfl) c__law_draw.m c__law_draw.kp c__law_draw.b .nil pass0 (pa_cons (pv 0) (pa_cons (pv 1) (pa_cons (pe_op op_rep (pe_lst (pa_cons pe_int pa_nil)) pe_int) pa_nil)))) (pe_call c__law_draw.ok (hr.mono (by omega)) (by rfl) c__law_draw.m c__law_draw.kp c__law_draw.b .nil pass0 (pa_cons (pv 0) (pa_cons (pe_op op_add (pv 1) pe_int) (pa_cons (pe_op op_rep (pe_lst (pa_cons pe_int pa_nil)) pe_int) pa_nil))))) (pa_cons pe_int pa_nil))))), ?_⟩
  -- the first draw
  refine ⟨_, rfl, _, rfl, by decide, fun p1 h1 => ⟨p1, 20, [.int 97], rfl, rfl, upd_same, by decide, by decide, by decide, fun p2 h2 => ?_⟩⟩
  have e2 : Same H (upd (upd H p1 (.lst [.int 97])) p2 (.lst (List.replicate (Int.toNat 20) [V.int 97]).flatten)) := (same_new h1).trans (same_new h2)
  refine ⟨a, p2, ns, List.replicate 20 97, k, rfl, e2.seq ha, .of (by rw [upd_same, rep97]), by decide, m97, fun p3 xs H3 e3 _ h3 l3 => ?_⟩
  have e03 := e2.trans e3
  -- the second one
  refine ⟨_, rfl, _, rfl, _, _, rfl, rfl, by decide, fun p4 h4 => ⟨p4, 20, [.int 97], rfl, rfl, upd_same, by decide, by decide, by decide, fun p5 h5 => ?_⟩⟩
  have e5 : Same H3 (upd (upd H3 p4 (.lst [.int 97])) p5 (.lst (List.replicate (Int.toNat 20) [V.int 97]).flatten)) := (same_new h4).trans (same_new h5)
  refine ⟨a, p5, ns, List.replicate 20 97, k + 1, rfl, (e03.trans e5).seq ha, .of (by rw [upd_same, rep97]), by decide, m97, fun p6 ys H6 e6 _ h6 l6 => ?_⟩
  have e36 := e5.trans e6
  refine ⟨p3, p6, _, _, rfl, rfl, e36 _ _ h3, h6, ?_, fun p7 h7 => ⟨(by show 2 ≤ sizeLine; decide), fun p8 h8 => ?_⟩⟩
  · rw [List.length_map, List.length_map, l3, l6]
    decide
  · have e68 := (same_new (o := .lst (xs.map V.int ++ ys.map V.int)) h7).trans (same_new (o := .lst [.ref p7, .int 0]) h8)
    have n8 : p7 ≠ p8 := fun e => by rw [← e, upd_same] at h8; cases h8
    refine q p8 p7 _ ((e03.trans e36).trans e68) (Same.free (e03.trans (e36.trans (same_new h7))) h8) ⟨xs ++ ys, 0, upd_same, ?_, n8⟩
    rw [upd_ne n8, upd_same, List.map_append]
abbrev s__law_take : Stmt := topS 7
abbrev N__law_take : List Str := ["box", "many", "at"]
theorem sc__law_take : FnScope N__law_take ["box", "many"] (defScope s__law_take) := ⟨rfl, rfl, rfl, by decide +kernel, rfl, by decide +kernel, by decide +kernel⟩
theorem ok__law_take {f : Addr} {fd : FuncData} (T : Tx mg) (F : Fun K "_law_take" "_law_take" s__law_take f fd) : FnOk P w K mg base CX0 1 f fd ["box", "many"] spTake := by
  refine F.ok sc__law_take (fun vs H Q E h => ?_) (fun cdv A outer s H vs Q E hr h => ?_)
  · obtain ⟨b, d, m, rfl, _⟩ := h
    rfl
  obtain ⟨b, d, m, rfl, hB, hm, q⟩ := h
  refine ⟨_, (pss_cons (ps_set (i := 2) sc__law_take.nd rfl (Or.inl rfl) (pe_ix (r := rIxL K) ix_list (pv 0) pe_int (fun _ _ => rfl)))
      (pss_cons (ps_asg (pe_op op_add (pv 2) pe_int) (pg_sub (pv 0) pe_int set_list))
      (pss_cons (ps_if (pt_cmpR op_lt (pv 2) (pe_callB call_len_seq (by rfl) T.z_len PySem.boot_len (pa_cons (pe_ix (r := rIxL K) ix_list (pv 0) pe_int (fun _ _ => rfl)) pa_nil)) (nomark _)) (pss_one (ps_ret (pe_op op_mod (pe_ix (r := rIxL K) ix_list (pe_ix (r := rIxL K) ix_list (pv 0) pe_int (fun _ _ => rfl)) (pv 2) (fun _ _ => rfl)) (pv 1)))) pss_nil)
      (pss_one (ps_ret pe_int))))), ?_⟩
  obtain ⟨ns, i, h1, h2, h3⟩ := hB
  refine q_asg (ev_ixL (j := 1) (ev_var rfl) ev_c (.of h1) rfl) fun H1 e1 => ?_
  refine q_setL (j := 1) (e1 _ _ h1) (ev_op (ev_var rfl) ev_c rv_I0) (ev_var rfl) ev_c (by show 1 < 2; decide) fun H2 e2 => ?_
  have hbox : upd H2 b (.lst [.ref d, .int ((i : Int) + 1)]) b = some (.lst [.ref d, .int ((i : Int) + 1)]) := upd_same
  have hd : upd H2 b (.lst [.ref d, .int ((i : Int) + 1)]) d = some (.lst (ns.map V.int)) := by rw [upd_ne h3]; exact e2 _ _ (e1 _ _ h2)
  have mv : Mv b d H (upd H2 b (.lst [.ref d, .int ((i : Int) + 1)])) := ⟨fun a o ne h => by rw [upd_ne ne]; exact e2 _ _ (e1 _ _ h), ns, i + 1, upd_same, hd, h3⟩
  refine q_when (b := decide ((i : Int) < ((ns.map V.int).length : Int))) (et_test (ev_op (ev_var rfl) (ev_lenL (ev_ixL (j := 0) (ev_var rfl) ev_c (.of hbox) rfl) (.of hd)) rv_I0)) (fun hb H3 e3 => ?_) (fun hb H3 e3 => ?_)
  · have hlt : i < ns.length := by
      have h := of_decide_eq_true hb
      rw [List.length_map] at h
      omega
    have hx : (ns.map V.int)[i]? = some (.int ns[i]) := by
      rw [List.getElem?_map, List.getElem?_eq_getElem hlt]
      rfl
    refine s_ret (ev_op (ev_ixL (j := i) (ev_ixL (j := 0) (ev_var rfl) ev_c (.of (e3 _ _ hbox)) rfl) (ev_var rfl) (.of (e3 _ _ hd)) hx) (ev_var rfl) (rv_I hm)) fun H4 e4 => q _ H4 (Int.emod_nonneg _ (by omega)) (Int.emod_lt_of_pos _ hm) (mv.ext (e3.trans e4))
  · exact s_ret ev_c fun H4 e4 => q _ H4 (Int.le_refl _) hm (mv.ext (e3.trans e4))
abbrev s__law_kind : Stmt := topS 8
abbrev N__law_kind : List Str := ["box", "depth", "which", "j"]
theorem sc__law_kind : FnScope N__law_kind ["box", "depth"] (defScope s__law_kind) := ⟨rfl, rfl, rfl, by decide +kernel, rfl, by decide +kernel, by decide +kernel⟩
theorem ok__law_kind {f : Addr} {fd : FuncData} {N : Nat} (T : Tx mg) (F : Fun K "_law_kind" "_law_kind" s__law_kind f fd) (c__law_take : Cl P w K mg base "_law_take" ["box", "many"] 1 spTake)
    (c__law_kind : Cl P w K mg base "_law_kind" ["box", "depth"] (N + 1) (spLKind2 K N)) : FnOk P w K mg base CX0 (N + 1 + 1) f fd ["box", "depth"] (spLKind2 K (N + 1)) := by
  refine F.ok sc__law_kind (fun vs H Q E h => ?_) (fun cdv A outer s H vs Q E hr h => ?_)
  · obtain ⟨b, d, n, rfl, _⟩ := h
    rfl
  obtain ⟨b, d, n, rfl, hB, hn, q⟩ := h
  refine ⟨_, (pss_cons (ps_set (i := 2) sc__law_kind.nd rfl (Or.inl rfl) (pe_call c__law_take.ok (hr.mono (by omega)) (by rfl) c__law_take.m c__law_take.kp c__law_take.b .nil pass0 (pa_cons (pv 0) (pa_cons pe_int pa_nil))))
      (pss_cons (ps_if (PW.pt (pw_or (pt_cmpR op_eq (pv 1) pe_int (nomark _)) (pw_or1 (pt_cmpR op_lt (pv 2) pe_int (nomark _))))) (pss_one (ps_ret (pe_ix (r := rIxL K) ix_list (pe_lst (pa_cons pe_str (pa_cons pe_str pa_nil))) (pe_op op_fdiv (pe_call c__law_take.ok (hr.mono (by omega)) (by rfl) c__law_take.m c__law_take.kp c__law_take.b .nil pass0 (pa_cons (pv 0) (pa_cons pe_int pa_nil))) pe_int) (fun _ _ => rfl)))) pss_nil)
      (pss_cons (ps_if (pt_cmpR op_lt (pv 2) pe_int (nomark _)) (pss_one (ps_ret (pe_tup (pa_cons pe_str (pa_cons (pe_call c__law_kind.ok (hr.mono (by omega)) (by rfl) c__law_kind.m c__law_kind.kp c__law_kind.b .nil pass0 (pa_cons (pv 0) (pa_cons (pe_op op_sub (pv 1) pe_int) pa_nil))) pa_nil))))) pss_nil)
      (pss_one (ps_ret (pe_tup (pa_cons pe_str (pa_cons (pe_callTy call_tuple_of (by rfl) T.z_tuple (by decide +kernel) (pa_cons (pe_lc (own := [("j", 3)]) (g := gName 3) (by rfl) sc__law_kind.nd (pi_range1 (by rfl) T.z_range (pa_cons (pe_op op_add pe_int (pe_call c__law_take.ok (hr.mono (by omega)) (by rfl) c__law_take.m c__law_take.kp c__law_take.b .nil pass0 (pa_cons (pv 0) (pa_cons pe_int pa_nil)))) pa_nil)) (blkOk_by (own := [("j", 3)]) (N := N__law_kind) (sc := defScope s__law_kind) (by decide +kernel)) (fun _ _ _ _ _ => (pg_name (i := 3) sc__law_kind.nd rfl (Or.inl rfl))) (fun _ _ _ _ _ => pts_nil) (fun _ _ _ _ _ => (pe_call c__law_kind.ok (hr.mono (by omega)) (by rfl) c__law_kind.m c__law_kind.kp c__law_kind.b .nil pass0 (pa_cons (pv 0) (pa_cons pe_int pa_nil))))) pa_nil)) pa_nil)))))))), ?_⟩
  -- which
  refine ⟨_, rfl, b, d, 6, rfl, hB, by decide, fun r H1 r0 r1 m1 => ?_⟩
  refine q_when (b := decide (V.int (n : Int) = V.int 0) || decide (r < 2)) (et_or (et_test (ev_op (ev_var rfl) ev_c (rv_eq rfl))) (fun _ => et_test (ev_op (ev_var rfl) ev_c rv_I0))) (fun hb H2 e2 => ?_) (fun hb H2 e2 => ?_)
  · have m2 := m1.ext e2
    refine ⟨by decide, fun p hp => ?_⟩
    have m3 := m2.new (o := .lst [.str "int", .str "word"]) hp
    have npb : p ≠ b := (m2.2.neb hp).1
    refine ⟨_, rfl, b, d, 3, rfl, m3.2, by decide, fun x H4 x0 x1 m4 => ⟨x, 2, rfl, rfl, ⟨by decide, by decide⟩, ?_⟩⟩
    have hl : SqL K H4 p [.str "int", .str "word"] := m4.sql npb (.of upd_same)
    rcases (by omega : x / 2 = 0 ∨ x / 2 = 1) with hx | hx
    · exact ⟨p, _, x / 2, .str "int", rfl, rfl, hl, (by rw [hx]; rfl), q _ .int H4 (m3.trans m4) (by rw [Kd.data]; exact .str _) .int .int⟩
    · exact ⟨p, _, x / 2, .str "word", rfl, rfl, hl, (by rw [hx]; rfl), q _ .word H4 (m3.trans m4) (by rw [Kd.data]; exact .str _) .word .word⟩
  · have m2 := m1.ext e2
    have hn0 : n ≠ 0 := by
      intro e
      subst e
      rw [decide_eq_true (by rfl)] at hb
      cases hb
    refine q_when (et_test (ev_op (ev_var rfl) ev_c rv_I0)) (fun _ H3 e3 => ?_) (fun _ H3 e3 => ?_)
    · have m3 := m2.ext e3
      have en : (n : Int) - 1 = ((n - 1 : Nat) : Int) := by omega
      refine ⟨_, rfl, _, rfl, _, _, rfl, rfl, b, d, n - 1, (by rw [← en]; rfl), m3.2, by omega, fun v kd H4 m4 hv hk hne => ⟨(by show 2 ≤ sizeLine; decide), fun p hp => ?_⟩⟩
      have hk' : OkK n kd := by
        have e : n - 1 + 1 = n := by omega
        rw [e] at hk
        exact hk
      refine q _ (.lst kd) _ ((m3.trans m4).new hp) ?_ (.lst hk') (.lst hne)
      rw [Kd.data]
      exact .t2 (.of upd_same) (.str _) (hv.keep (Kt.new hp))
    · have m3 := m2.ext e3
      refine ⟨_, rfl, b, d, 2, rfl, m3.2, by decide, fun x H4 x0 x1 m4 => ⟨1, x, rfl, rfl, 1 + x, rfl, by omega, by omega, fun D hD => ?_⟩⟩
      have m34 := m3.trans m4
      have nDb : D ≠ b := (m34.2.neb hD).1
      refine lc_range (lo := 0) (n := (1 + x).toNat) (fun i H' => ∃ (vs : List V) (ks : List Kd), H' D = some (.lst vs) ∧ vs.length = i ∧ Vds K H' vs (ks.map Kd.data) ∧ (∀ k ∈ ks, OkK 1 k ∧ NeK k) ∧ Mv b d H4 H') ⟨[], [], upd_same, rfl, .nil, fun _ h => (nomatch h), (Mv.refl m34.2).new hD⟩ (fun i H5 hi hP => ⟨rfl, ?_⟩) (fun H5 hP => ?_)
      · obtain ⟨vs, ks, hDv, hl, hvs, hks, m5⟩ := hP
        refine ⟨_, rfl, b, d, 0, rfl, m5.2, by omega, fun v kd H6 m6 hv hk hne => ⟨vs, m6.1 _ _ nDb hDv, small1000 (by omega), vs ++ [v], ks ++ [kd], upd_same, by rw [List.length_append, hl]; rfl, ?_, ?_, (m5.trans m6).mut m34.2 hD⟩⟩
        · rw [List.map_append]
          have hk6 : Kt K H6 (upd H6 D (.lst (vs ++ [v]))) := Kt.lst (m6.1 _ _ nDb hDv)
          exact ((hvs.keep (m6.kt m5.2)).snoc hv).keep hk6
        · intro k hk1
          rcases List.mem_append.mp hk1 with h | h
          · exact hks k h
          · cases List.mem_singleton.mp h
            exact ⟨hk, hne⟩
      · obtain ⟨vs, ks, hDv, hl, hvs, hks, m5⟩ := hP
        refine ⟨D, vs, rfl, .inl ⟨.of hDv, fun l hl' => ⟨(by show 2 ≤ sizeLine; decide), fun p hp => ?_⟩⟩⟩
        have e5 := (same_new (o := .tup vs) hl').trans (same_new (o := .tup [.str "tuple", .ref l]) hp)
        refine q _ (.tup ks) _ ((m34.trans m5).ext e5) ?_ (.tup (by have h := hvs.1; rw [List.length_map] at h; omega) fun k hk => (hks k hk).1.mono (by omega)) (.tup (by have h := hvs.1; rw [List.length_map] at h; omega) fun k hk => (hks k hk).2)
        rw [Kd.data, dataAll_map]
        exact .t2 (.of upd_same) (.str _) ((hvs.keep (Kt.same e5)).tup (ex_t (same_new hp) (.of upd_same)))
abbrev s__law_isword : Stmt := topS 11
abbrev N__law_isword : List Str := ["word", "sign"]
theorem sc__law_isword : FnScope N__law_isword ["word"] (defScope s__law_isword) := ⟨rfl, rfl, rfl, by decide +kernel, rfl, by decide +kernel, by decide +kernel⟩
theorem ok__law_isword {f : Addr} {fd : FuncData} {k : Nat} (T : Tx mg) (F : Fun K "_law_isword" "_law_isword" s__law_isword f fd) : FnOk P w K mg base CX0 (k + 1) f fd ["word"] spLWord := by
  refine F.ok sc__law_isword (fun vs H Q E h => ?_) (fun cdv A outer s H vs Q E hr h => ?_)
  · obtain ⟨z, rfl, _⟩ := h
    rfl
  obtain ⟨z, rfl, hz, hs, q⟩ := h
  refine ⟨_, (pss_one (ps_ret (pe_and (pe_chain op_le op_le pe_int (pe_callB call_len_str (by rfl) T.z_len PySem.boot_len (pa_cons (pv 0) pa_nil)) pe_int) (pe_one (pe_cmpR (op_eqD hr.units) (pe_lc (own := [("sign", 1)]) (g := gName 1) (by rfl) sc__law_isword.nd (pi_str (pv 0)) (blkOk_by (own := [("sign", 1)]) (N := N__law_isword) (sc := defScope s__law_isword) (by decide +kernel)) (fun _ _ _ _ _ => (pg_name (i := 1) sc__law_isword.nd rfl (Or.inl rfl))) (fun _ _ _ _ _ => pts_one (pt_cmpR op_notIn_sign (pv 1) pe_str rfl)) (fun _ _ _ _ _ => (pv 1))) (pe_lst pa_nil) (nomark _)))))), ?_⟩
  have hat : ∀ {i c : Nat}, z.cps[i]? = some c → z.cps.toList.getD i 0 = c := fun {i c} hc => by
    rw [List.getD_eq_getElem?_getD, Array.getElem?_toList, hc]
    rfl
  refine s_ret (v := .bl (isWord z)) (ev_is (ev_andV (ev_chain ev_c (ev_lenS hz (ev_var rfl)) ev_c rv_I0 rv_I0) fun _ => ev_one (ev_nil (m := 0) (by omega) (el_lcS (fun i => !decide (z.cps.toList.getD i 0 ∈ ("abcdefghijklmnopqrstuvwxyz" : Str).cps.toList)) (fun i => .str ⟨#[z.cps.toList.getD i 0]⟩) (ev_var rfl) (Nat.le_trans hz (by decide)) (fun _ => rfl)
    (fun i c H1 _ hc => et_is (et_test (ev_op (ev_var rfl) ev_c (rv_val fun H1 e Q k => ⟨c, _, rfl, rfl, k⟩))) (by rw [hat hc])) (fun i c H1 _ hc _ => ev_is (ev_var rfl) (by rw [hat hc]))) (fun x hx H1 _ => ?_))) ?_) fun H1 e => q H1 e
  · obtain ⟨i, hi, _, rfl⟩ := mem_given hx
    have hc : z.cps[i]? = some z.cps[i] := Array.getElem?_eq_getElem hi
    rw [hat hc]
    exact ⟨_, .str _, .str (sign_shaped hs hc) (by show 1 ≤ 1000; decide)⟩
  · rw [given_empty]
    have e : ((List.range z.cps.size).map fun i => !!decide (z.cps.toList.getD i 0 ∈ ("abcdefghijklmnopqrstuvwxyz" : Str).cps.toList)) = (List.range z.cps.size).map fun i => (fun c => decide (97 ≤ c) && decide (c ≤ 122)) (z.cps.toList.getD i 0) := List.map_congr_left fun i _ => abc_sign _
    rw [e]
    exact congrArg (fun t => V.bl ((decide ((1 : Int) ≤ (z.length : Int)) && decide ((z.length : Int) ≤ 8)) && t)) (all_signs z fun c => decide (97 ≤ c) && decide (c ≤ 122))
abbrev s__law_fits : Stmt := topS 12
abbrev N__law_fits : List Str := ["limit", "kind", "word"]
theorem sc__law_fits : FnScope N__law_fits ["limit", "kind"] (defScope s__law_fits) := ⟨rfl, rfl, rfl, by decide +kernel, rfl, by decide +kernel, by decide +kernel⟩
theorem ok__law_fits {f : Addr} {fd : FuncData} {n : Nat} (T : Tx mg) (F : Fun K "_law_fits" "_law_fits" s__law_fits f fd) (c__law_isword : Cl P w K mg base "_law_isword" ["word"] 1 spLWord) (c__law_fits : Cl P w K mg base "_law_fits" ["limit", "kind"] (n + 1) (spFits K n)) : FnOk P w K mg base CX0 (n + 1 + 1) f fd ["limit", "kind"] (spFits K (n + 1)) := by
  refine F.ok sc__law_fits (fun vs H Q E h => ?_) (fun cdv A outer s H vs Q E hr h => ?_)
  · obtain ⟨v, u, c, k, rfl, _⟩ := h
    rfl
  obtain ⟨v, u, c, k, rfl, hv, hc, hu, hk, q⟩ := h
  refine ⟨_, (pss_cons (ps_set (i := 2) sc__law_fits.nd rfl (Or.inl rfl) (pe_ix (r := rIxT K) ix_tup (pv 0) pe_int (fun _ _ => rfl)))
      (pss_cons (ps_if (pt_cmpR op_eq (pv 2) pe_str (nomark _)) (pss_one (ps_ret (pe_call c__law_fits.ok (hr.mono (by omega)) (by rfl) c__law_fits.m c__law_fits.kp c__law_fits.b .nil pass0 (pa_cons (pe_ix (r := rIxT K) ix_tup (pv 0) pe_int (fun _ _ => rfl)) (pa_cons (pv 1) pa_nil))))) pss_nil)
      (pss_cons (ps_if (pt_cmpR op_in_seq (pv 2) (pe_lst (pa_cons pe_str (pa_cons pe_str pa_nil))) (by rfl)) (pss_one (ps_ret (pe_and (pe_call c__law_fits.ok (hr.mono (by omega)) (by rfl) c__law_fits.m c__law_fits.kp c__law_fits.b .nil pass0 (pa_cons (pe_ix (r := rIxT K) ix_tup (pv 0) pe_int (fun _ _ => rfl)) (pa_cons (pv 1) pa_nil))) (pe_one (pe_call c__law_fits.ok (hr.mono (by omega)) (by rfl) c__law_fits.m c__law_fits.kp c__law_fits.b .nil pass0 (pa_cons (pe_ix (r := rIxT K) ix_tup (pv 0) pe_int (fun _ _ => rfl)) (pa_cons (pv 1) pa_nil))))))) pss_nil)
      (pss_cons (ps_if (pt_cmpR op_eq (pv 2) pe_str (nomark _)) (pss_one (ps_ret (pe_cmpR (op_eqD hr.units) (pv 1) pe_str (nomark _)))) pss_nil)
      (pss_cons (ps_if (pt_cmpR op_eq (pv 2) pe_str (nomark _)) (pss_one (ps_ret (pe_and (pe_cmpR (op_eqD hr.units) (pv 1) pe_str (nomark _)) (pe_one (pe_chain op_le op_le pe_int (pe_ix (r := rIxT K) ix_tup (pv 0) pe_int (fun _ _ => rfl)) pe_int))))) pss_nil)
      (pss_cons (ps_if (pt_cmpR op_eq (pv 2) pe_str (nomark _)) (pss_one (ps_ret (pe_and (pe_cmpR (op_eqD hr.units) (pv 1) pe_str (nomark _)) (pe_one (pe_call c__law_isword.ok (hr.mono (by omega)) (by rfl) c__law_isword.m c__law_isword.kp c__law_isword.b .nil pass0 (pa_cons (pe_ix (r := rIxT K) ix_tup (pv 0) pe_int (fun _ _ => rfl)) pa_nil)))))) pss_nil)
      (pss_cons (ps_if (pt_val (pe_callB call_isi (by rfl) T.z_isinstance (by decide +kernel) (pa_cons (pv 1) (pa_cons (pe_bltn (v := .ty "str") (u := .type "str") (by rfl) T.z_str (by decide +kernel) rfl) pa_nil)))) (pss_one (ps_ret pe_bl)) pss_nil)
      (pss_cons (ps_if (pt_cmpR op_eq (pv 2) pe_str (nomark _)) (pss_one (ps_ret (pe_and (pe_cmpR op_eq (pe_ix (r := rIxT K) ix_tup (pv 1) pe_int (fun _ _ => rfl)) pe_str (nomark _)) (pe_and (pe_chain op_le op_lt pe_int (pe_ix (r := rIxT K) ix_tup (pv 0) pe_int (fun _ _ => rfl)) (pe_callB call_len_seq (by rfl) T.z_len PySem.boot_len (pa_cons (pe_ix (r := rIxT K) ix_tup (pv 1) pe_int (fun _ _ => rfl)) pa_nil))) (pe_one (pe_call c__law_fits.ok (hr.mono (by omega)) (by rfl) c__law_fits.m c__law_fits.kp c__law_fits.b .nil pass0 (pa_cons (pe_ix (r := rIxT K) ix_tup (pv 0) pe_int (fun _ _ => rfl)) (pa_cons (pe_ix (r := rIxT K) ix_tup (pe_ix (r := rIxT K) ix_tup (pv 1) pe_int (fun _ _ => rfl)) (pe_ix (r := rIxT K) ix_tup (pv 0) pe_int (fun _ _ => rfl)) (fun _ _ => rfl)) pa_nil)))))))) pss_nil)
      (pss_cons (ps_if (pt_cmpR op_ne (pe_ix (r := rIxT K) ix_tup (pv 1) pe_int (fun _ _ => rfl)) pe_str (nomark _)) (pss_one (ps_ret pe_bl)) pss_nil)
      (pss_cons (ps_if (pt_cmpR op_in_seq (pv 2) (pe_lst (pa_cons pe_str (pa_cons pe_str pa_nil))) (by rfl)) (pss_one (ps_ret (pe_call c__law_fits.ok (hr.mono (by omega)) (by rfl) c__law_fits.m c__law_fits.kp c__law_fits.b .nil pass0 (pa_cons (pe_ix (r := rIxT K) ix_tup (pv 0) pe_int (fun _ _ => rfl)) (pa_cons (pe_ix (r := rIxT K) ix_tup (pv 1) pe_int (fun _ _ => rfl)) pa_nil))))) pss_nil)
      (pss_cons (ps_if (pt_cmpR op_eq (pv 2) pe_str (nomark _)) (pss_one (ps_ret (pe_call c__law_fits.ok (hr.mono (by omega)) (by rfl) c__law_fits.m c__law_fits.kp c__law_fits.b .nil pass0 (pa_cons (pe_ix (r := rIxT K) ix_tup (pv 0) pe_int (fun _ _ => rfl)) (pa_cons pe_str pa_nil))))) pss_nil)
      (pss_cons (ps_if (pt_cmpR op_eq (pv 2) pe_str (nomark _)) (pss_one (ps_ret (pe_and (pe_cmpR (op_eqD hr.units) (pe_ix (r := rIxT K) ix_tup (pv 1) pe_int (fun _ _ => rfl)) pe_str (nomark _)) (pe_one (pe_call c__law_fits.ok (hr.mono (by omega)) (by rfl) c__law_fits.m c__law_fits.kp c__law_fits.b .nil pass0 (pa_cons (pe_ix (r := rIxT K) ix_tup (pv 0) pe_int (fun _ _ => rfl)) (pa_cons pe_str pa_nil))))))) pss_nil)
      (pss_one (ps_ret (pe_or (pe_cmpR op_eq (pv 2) pe_str (nomark _)) (pe_one (pe_cmpR (op_eqD hr.units) (pe_ix (r := rIxT K) ix_tup (pv 1) pe_int (fun _ _ => rfl)) pe_str (nomark _)))))))))))))))))), ?_⟩
  cases c with
  | not_ c =>
    rw [Cd.data] at hv
    obtain ⟨a, x, y, rfl, hs, hx, hy⟩ := hv.g2
    cases hx.str_inv
    refine q_asg (ev_ixT (j := 0) (ev_var rfl) ev_c hs rfl) fun H1 e1 => ?_
    refine takeS e1 rfl (by decide +kernel) fun H2 e2 => ?_
    have hc1 : OkC n c := by cases hc with | not_ h => exact h
    exact s_ret (ev_callC (ea_cons (ev_ixT (j := 1) (ev_var rfl) ev_c (ex_t e2 hs) rfl) (ea_cons (ev_var rfl) ea_nil)) (fits_call (hy.keep (Kt.same e2)) hc1 (hu.keep (Kt.same e2)) hk)) fun H9 e9 => q H9 (e2.trans e9)
  | and_ c d =>
    rw [Cd.data] at hv
    obtain ⟨a, x, y, z, rfl, hs, hx, hy, hz⟩ := hv.g3
    cases hx.str_inv
    refine q_asg (ev_ixT (j := 0) (ev_var rfl) ev_c hs rfl) fun H1 e1 => ?_
    refine skipS e1 rfl (by decide +kernel) fun H2 e2 => ?_
    refine takeL e2 rfl (ea_cons ev_c (ea_cons ev_c ea_nil)) (by show 2 ≤ 100000; decide) rfl (by decide +kernel) fun H3 e3 => ?_
    have hc1 : OkC n c ∧ OkC n d := by cases hc with | and_ h g => exact ⟨h, g⟩
    exact s_ret (ev_andV (ev_callC (ea_cons (ev_ixT (j := 1) (ev_var rfl) ev_c (ex_t e3 hs) rfl) (ea_cons (ev_var rfl) ea_nil)) (fits_call (hy.keep (Kt.same e3)) hc1.1 (hu.keep (Kt.same e3)) hk)) fun _ => ev_one (ev_callC (ea_cons (ev_ixT (j := 2) (ev_var rfl) ev_c (ex_t e3 hs) rfl) (ea_cons (ev_var rfl) ea_nil)) (fits_call (hz.keep (Kt.same e3)) hc1.2 (hu.keep (Kt.same e3)) hk))) fun H9 e9 => q H9 (e3.trans e9)
  | or_ c d =>
    rw [Cd.data] at hv
    obtain ⟨a, x, y, z, rfl, hs, hx, hy, hz⟩ := hv.g3
    cases hx.str_inv
    refine q_asg (ev_ixT (j := 0) (ev_var rfl) ev_c hs rfl) fun H1 e1 => ?_
    refine skipS e1 rfl (by decide +kernel) fun H2 e2 => ?_
    refine takeL e2 rfl (ea_cons ev_c (ea_cons ev_c ea_nil)) (by show 2 ≤ 100000; decide) rfl (by decide +kernel) fun H3 e3 => ?_
    have hc1 : OkC n c ∧ OkC n d := by cases hc with | or_ h g => exact ⟨h, g⟩
    exact s_ret (ev_andV (ev_callC (ea_cons (ev_ixT (j := 1) (ev_var rfl) ev_c (ex_t e3 hs) rfl) (ea_cons (ev_var rfl) ea_nil)) (fits_call (hy.keep (Kt.same e3)) hc1.1 (hu.keep (Kt.same e3)) hk)) fun _ => ev_one (ev_callC (ea_cons (ev_ixT (j := 2) (ev_var rfl) ev_c (ex_t e3 hs) rfl) (ea_cons (ev_var rfl) ea_nil)) (fits_call (hz.keep (Kt.same e3)) hc1.2 (hu.keep (Kt.same e3)) hk))) fun H9 e9 => q H9 (e3.trans e9)
  | atmost m =>
    rw [Cd.data] at hv
    obtain ⟨a, x, y, rfl, hs, hx, hy⟩ := hv.g2
    cases hx.str_inv
    refine q_asg (ev_ixT (j := 0) (ev_var rfl) ev_c hs rfl) fun H1 e1 => ?_
    refine skipS e1 rfl (by decide +kernel) fun H2 e2 => ?_
    refine skipL e2 rfl (ea_cons ev_c (ea_cons ev_c ea_nil)) (by show 2 ≤ 100000; decide) rfl (by decide +kernel) fun H3 e3 => ?_
    refine takeS e3 rfl (by decide +kernel) fun H4 e4 => ?_
    exact s_ret (ev_isInt (ev_var rfl) (hu.keep (Kt.same e4)) hk (by omega)) fun H9 e9 => q H9 (e4.trans e9)
  | divides m =>
    rw [Cd.data] at hv
    obtain ⟨a, x, y, rfl, hs, hx, hy⟩ := hv.g2
    cases hx.str_inv
    refine q_asg (ev_ixT (j := 0) (ev_var rfl) ev_c hs rfl) fun H1 e1 => ?_
    refine skipS e1 rfl (by decide +kernel) fun H2 e2 => ?_
    refine skipL e2 rfl (ea_cons ev_c (ea_cons ev_c ea_nil)) (by show 2 ≤ 100000; decide) rfl (by decide +kernel) fun H3 e3 => ?_
    refine skipS e3 rfl (by decide +kernel) fun H4 e4 => ?_
    refine takeS e4 rfl (by decide +kernel) fun H5 e5 => ?_
    cases hy.int_inv
    exact s_ret (ev_andV (ev_isInt (ev_var rfl) (hu.keep (Kt.same e5)) hk (by omega)) fun _ => ev_one (ev_chain ev_c (ev_ixT (j := 1) (ev_var rfl) ev_c (ex_t e5 hs) rfl) ev_c rv_I0 rv_I0)) fun H9 e9 => q H9 (e5.trans e9)
  | is m =>
    rw [Cd.data] at hv
    obtain ⟨a, x, y, rfl, hs, hx, hy⟩ := hv.g2
    cases hx.str_inv
    refine q_asg (ev_ixT (j := 0) (ev_var rfl) ev_c hs rfl) fun H1 e1 => ?_
    refine skipS e1 rfl (by decide +kernel) fun H2 e2 => ?_
    refine skipL e2 rfl (ea_cons ev_c (ea_cons ev_c ea_nil)) (by show 2 ≤ 100000; decide) rfl (by decide +kernel) fun H3 e3 => ?_
    refine skipS e3 rfl (by decide +kernel) fun H4 e4 => ?_
    refine skipS e4 rfl (by decide +kernel) fun H5 e5 => ?_
    refine takeS e5 rfl (by decide +kernel) fun H6 e6 => ?_
    cases hy.str_inv
    have hm : m.length ≤ 1000 ∧ SeqAt.shaped (.str m) = true := by cases hc with | is g h => exact ⟨h, g⟩
    exact s_ret (ev_andV (ev_isWord (ev_var rfl) (hu.keep (Kt.same e6)) hk (by omega)) fun _ => ev_one (ev_callC (ea_cons (ev_ixT (j := 1) (ev_var rfl) ev_c (ex_t e6 hs) rfl) ea_nil) fun H1 e Q q E => ⟨m, rfl, hm.1, hm.2, fun H' e' => q H' e'⟩)) fun H9 e9 => q H9 (e6.trans e9)
  | item m c =>
    rw [Cd.data] at hv
    obtain ⟨a, x, y, z, rfl, hs, hx, hy, hz⟩ := hv.g3
    cases hx.str_inv
    refine q_asg (ev_ixT (j := 0) (ev_var rfl) ev_c hs rfl) fun H1 e1 => ?_
    refine skipS e1 rfl (by decide +kernel) fun H2 e2 => ?_
    refine skipL e2 rfl (ea_cons ev_c (ea_cons ev_c ea_nil)) (by show 2 ≤ 100000; decide) rfl (by decide +kernel) fun H3 e3 => ?_
    refine skipS e3 rfl (by decide +kernel) fun H4 e4 => ?_
    refine skipS e4 rfl (by decide +kernel) fun H5 e5 => ?_
    refine skipS e5 rfl (by decide +kernel) fun H6 e6 => ?_
    cases hy.int_inv
    have hc1 : OkC n c := by cases hc with | item _ h => exact h
    cases k with
    | int =>
      rw [item_none rfl] at q
      have hui := hu.keep (Kt.same e6)
      rw [Kd.data] at hui
      refine q_when (b := true) (et_B (ev_isi (ev_var rfl) ev_c hui k_ss)) (fun _ H8 e8 => ?_) (fun h => Bool.noConfusion h)
      exact s_ret ev_c fun H9 e9 => q H9 (e6.trans (e8.trans e9))
    | word =>
      rw [item_none rfl] at q
      have hui := hu.keep (Kt.same e6)
      rw [Kd.data] at hui
      refine q_when (b := true) (et_B (ev_isi (ev_var rfl) ev_c hui k_ss)) (fun _ H8 e8 => ?_) (fun h => Bool.noConfusion h)
      exact s_ret ev_c fun H9 e9 => q H9 (e6.trans (e8.trans e9))
    | lst j =>
      rw [item_none rfl] at q
      have hui := hu.keep (Kt.same e6)
      rw [Kd.data] at hui
      refine q_when (b := false) (et_B (ev_isi (ev_var rfl) ev_c hui k_ts)) (fun h => Bool.noConfusion h) (fun _ Ha ea => ?_)
      have f1 := e6.trans ea
      rw [Kd.data] at hu
      obtain ⟨b, k0, k1, rfl, hb, hk0, hk1⟩ := hu.g2
      cases hk0.str_inv
      refine takeS f1 rfl (by decide +kernel) fun Hf2 f2 => ?_
      exact s_ret (ev_andF (ev_is (ev_op (ev_ixT (j := 0) (ev_var rfl) ev_c (ex_t f2 hb) rfl) ev_c (rv_eq rfl)) (by decide +kernel))) fun H9 e9 => q H9 (f2.trans e9)
    | tup ks =>
      have hui := hu.keep (Kt.same e6)
      rw [Kd.data] at hui
      refine q_when (b := false) (et_B (ev_isi (ev_var rfl) ev_c hui k_ts)) (fun h => Bool.noConfusion h) (fun _ Ha ea => ?_)
      have f1 := e6.trans ea
      rw [Kd.data] at hu
      obtain ⟨b, k0, k1, rfl, hb, hk0, hk1⟩ := hu.g2
      cases hk0.str_inv
      refine takeS f1 rfl (by decide +kernel) fun Hf2 f2 => ?_
      obtain ⟨c2, rfl⟩ := hk1.ref
      obtain ⟨ys, hys, hyl, hyi⟩ := hk1.get
      have hyk : ys.length = ks.length := by rw [hyl, dataAll_map, List.length_map]
      have hkp : ∀ j ∈ ks, OkK 10 j := by cases hk with | tup _ h => exact fun j hj => (h j hj).mono (by omega)
      refine s_ret (ev_is (ev_andT (b := (decide (0 ≤ m) && decide (m < (ys.length : Int))) && fitsC c (ks.getD m.toNat .int)) (ev_is (ev_op (ev_ixT (j := 0) (ev_var rfl) ev_c (ex_t f2 hb) rfl) ev_c (rv_eq rfl)) (by decide +kernel)) (ev_andV (b := fitsC c (ks.getD m.toNat .int)) (ev_chain ev_c (ev_ixT (j := 1) (ev_var rfl) ev_c (ex_t f2 hs) rfl) (ev_lenT (ev_ixT (j := 1) (ev_var rfl) ev_c (ex_t f2 hb) rfl) (ex_t f2 hys)) rv_I0 rv_I0) fun hbb => ev_one (ev_callC (vs := [z, ys.getD m.toNat .non]) (ea_cons (ev_ixT (j := 2) (ev_var rfl) ev_c (ex_t f2 hs) rfl) (ea_cons ?_ ea_nil)) ?_))) ?_) fun H9 e9 => q H9 (f2.trans e9)
      · obtain ⟨h0, h1⟩ := Bool.and_eq_true_iff.mp hbb
        have h0 := of_decide_eq_true h0
        have h1 := of_decide_eq_true h1
        have hm : m = ((m.toNat : Nat) : Int) := by omega
        exact ev_op (ev_ixT (j := 1) (ev_var rfl) ev_c (ex_t f2 hb) rfl) (ev_ixT (j := 1) (ev_var rfl) ev_c (ex_t f2 hs) rfl) (rv_ixT (ex_t f2 hys) (by
          have h2 := atI_nat (getD_at (ds := ys) (a0 := V.non) (i := m.toNat) (by omega))
          rw [← hm] at h2
          exact h2))
      · obtain ⟨h0, h1⟩ := Bool.and_eq_true_iff.mp hbb
        have h0 := of_decide_eq_true h0
        have h1 := of_decide_eq_true h1
        have hi : m.toNat < ks.length := by omega
        have hyd : (dataAll ks)[m.toNat]? = some (ks.getD m.toNat .int).data := by rw [dataAll_map, List.getElem?_map, getD_at (a0 := Kd.int) hi]; rfl
        exact fits_call (hz.keep (Kt.same f2)) hc1 ((hyi _ _ _ (getD_at (by omega)) hyd).keep (Kt.same f2)) (hkp _ (List.mem_of_getElem? (getD_at hi)))
      · rw [hyk]
        rfl
  | every c =>
    rw [Cd.data] at hv
    obtain ⟨a, x, y, rfl, hs, hx, hy⟩ := hv.g2
    cases hx.str_inv
    refine q_asg (ev_ixT (j := 0) (ev_var rfl) ev_c hs rfl) fun H1 e1 => ?_
    refine skipS e1 rfl (by decide +kernel) fun H2 e2 => ?_
    refine skipL e2 rfl (ea_cons ev_c (ea_cons ev_c ea_nil)) (by show 2 ≤ 100000; decide) rfl (by decide +kernel) fun H3 e3 => ?_
    refine skipS e3 rfl (by decide +kernel) fun H4 e4 => ?_
    refine skipS e4 rfl (by decide +kernel) fun H5 e5 => ?_
    refine skipS e5 rfl (by decide +kernel) fun H6 e6 => ?_
    have hc1 : OkC n c := by cases hc with | every h => exact h
    cases k with
    | int =>
      have hui := hu.keep (Kt.same e6)
      rw [Kd.data] at hui
      refine q_when (b := true) (et_B (ev_isi (ev_var rfl) ev_c hui k_ss)) (fun _ H8 e8 => ?_) (fun h => Bool.noConfusion h)
      exact s_ret ev_c fun H9 e9 => q H9 (e6.trans (e8.trans e9))
    | word =>
      have hui := hu.keep (Kt.same e6)
      rw [Kd.data] at hui
      refine q_when (b := true) (et_B (ev_isi (ev_var rfl) ev_c hui k_ss)) (fun _ H8 e8 => ?_) (fun h => Bool.noConfusion h)
      exact s_ret ev_c fun H9 e9 => q H9 (e6.trans (e8.trans e9))
    | tup ks =>
      have hui := hu.keep (Kt.same e6)
      rw [Kd.data] at hui
      refine q_when (b := false) (et_B (ev_isi (ev_var rfl) ev_c hui k_ts)) (fun h => Bool.noConfusion h) (fun _ Ha ea => ?_)
      have f1 := e6.trans ea
      rw [Kd.data] at hu
      obtain ⟨b, k0, k1, rfl, hb, hk0, hk1⟩ := hu.g2
      cases hk0.str_inv
      refine skipS f1 rfl (by decide +kernel) fun Hf2 f2 => ?_
      refine q_when (b := true) (et_is (et_test (ev_op (ev_ixT (j := 0) (ev_var rfl) ev_c (ex_t f2 hb) rfl) ev_c (rv_ne rfl))) (by decide +kernel)) (fun _ H8 e8 => ?_) (fun h => Bool.noConfusion h)
      exact s_ret ev_c fun H9 e9 => q H9 (f2.trans (e8.trans e9))
    | lst j =>
      have hui := hu.keep (Kt.same e6)
      rw [Kd.data] at hui
      refine q_when (b := false) (et_B (ev_isi (ev_var rfl) ev_c hui k_ts)) (fun h => Bool.noConfusion h) (fun _ Ha ea => ?_)
      have f1 := e6.trans ea
      rw [Kd.data] at hu
      obtain ⟨b, k0, k1, rfl, hb, hk0, hk1⟩ := hu.g2
      cases hk0.str_inv
      refine skipS f1 rfl (by decide +kernel) fun Hf2 f2 => ?_
      refine q_when (b := false) (et_is (et_test (ev_op (ev_ixT (j := 0) (ev_var rfl) ev_c (ex_t f2 hb) rfl) ev_c (rv_ne rfl))) (by decide +kernel)) (fun h => Bool.noConfusion h) (fun _ H8 e8 => ?_)
      have f3 := f2.trans e8
      have hj : OkK 10 j := by cases hk with | lst h => exact h.mono (by omega)
      refine takeL f3 rfl (ea_cons ev_c (ea_cons ev_c ea_nil)) (by show 2 ≤ 100000; decide) rfl (by decide +kernel) fun Hf4 f4 => ?_
      exact s_ret (ev_callC (ea_cons (ev_ixT (j := 1) (ev_var rfl) ev_c (ex_t f4 hs) rfl) (ea_cons (ev_ixT (j := 1) (ev_var rfl) ev_c (ex_t f4 hb) rfl) ea_nil)) (fits_call (hy.keep (Kt.same f4)) hc1 (hk1.keep (Kt.same f4)) hj)) fun H9 e9 => q H9 (f4.trans e9)
  | some_ c =>
    rw [Cd.data] at hv
    obtain ⟨a, x, y, rfl, hs, hx, hy⟩ := hv.g2
    cases hx.str_inv
    refine q_asg (ev_ixT (j := 0) (ev_var rfl) ev_c hs rfl) fun H1 e1 => ?_
    refine skipS e1 rfl (by decide +kernel) fun H2 e2 => ?_
    refine skipL e2 rfl (ea_cons ev_c (ea_cons ev_c ea_nil)) (by show 2 ≤ 100000; decide) rfl (by decide +kernel) fun H3 e3 => ?_
    refine skipS e3 rfl (by decide +kernel) fun H4 e4 => ?_
    refine skipS e4 rfl (by decide +kernel) fun H5 e5 => ?_
    refine skipS e5 rfl (by decide +kernel) fun H6 e6 => ?_
    have hc1 : OkC n c := by cases hc with | some_ h => exact h
    cases k with
    | int =>
      have hui := hu.keep (Kt.same e6)
      rw [Kd.data] at hui
      refine q_when (b := true) (et_B (ev_isi (ev_var rfl) ev_c hui k_ss)) (fun _ H8 e8 => ?_) (fun h => Bool.noConfusion h)
      exact s_ret ev_c fun H9 e9 => q H9 (e6.trans (e8.trans e9))
    | word =>
      have hui := hu.keep (Kt.same e6)
      rw [Kd.data] at hui
      refine q_when (b := true) (et_B (ev_isi (ev_var rfl) ev_c hui k_ss)) (fun _ H8 e8 => ?_) (fun h => Bool.noConfusion h)
      exact s_ret ev_c fun H9 e9 => q H9 (e6.trans (e8.trans e9))
    | tup ks =>
      have hui := hu.keep (Kt.same e6)
      rw [Kd.data] at hui
      refine q_when (b := false) (et_B (ev_isi (ev_var rfl) ev_c hui k_ts)) (fun h => Bool.noConfusion h) (fun _ Ha ea => ?_)
      have f1 := e6.trans ea
      rw [Kd.data] at hu
      obtain ⟨b, k0, k1, rfl, hb, hk0, hk1⟩ := hu.g2
      cases hk0.str_inv
      refine skipS f1 rfl (by decide +kernel) fun Hf2 f2 => ?_
      refine q_when (b := true) (et_is (et_test (ev_op (ev_ixT (j := 0) (ev_var rfl) ev_c (ex_t f2 hb) rfl) ev_c (rv_ne rfl))) (by decide +kernel)) (fun _ H8 e8 => ?_) (fun h => Bool.noConfusion h)
      exact s_ret ev_c fun H9 e9 => q H9 (f2.trans (e8.trans e9))
    | lst j =>
      have hui := hu.keep (Kt.same e6)
      rw [Kd.data] at hui
      refine q_when (b := false) (et_B (ev_isi (ev_var rfl) ev_c hui k_ts)) (fun h => Bool.noConfusion h) (fun _ Ha ea => ?_)
      have f1 := e6.trans ea
      rw [Kd.data] at hu
      obtain ⟨b, k0, k1, rfl, hb, hk0, hk1⟩ := hu.g2
      cases hk0.str_inv
      refine skipS f1 rfl (by decide +kernel) fun Hf2 f2 => ?_
      refine q_when (b := false) (et_is (et_test (ev_op (ev_ixT (j := 0) (ev_var rfl) ev_c (ex_t f2 hb) rfl) ev_c (rv_ne rfl))) (by decide +kernel)) (fun h => Bool.noConfusion h) (fun _ H8 e8 => ?_)
      have f3 := f2.trans e8
      have hj : OkK 10 j := by cases hk with | lst h => exact h.mono (by omega)
      refine takeL f3 rfl (ea_cons ev_c (ea_cons ev_c ea_nil)) (by show 2 ≤ 100000; decide) rfl (by decide +kernel) fun Hf4 f4 => ?_
      exact s_ret (ev_callC (ea_cons (ev_ixT (j := 1) (ev_var rfl) ev_c (ex_t f4 hs) rfl) (ea_cons (ev_ixT (j := 1) (ev_var rfl) ev_c (ex_t f4 hb) rfl) ea_nil)) (fits_call (hy.keep (Kt.same f4)) hc1 (hk1.keep (Kt.same f4)) hj)) fun H9 e9 => q H9 (f4.trans e9)
  | size c =>
    rw [Cd.data] at hv
    obtain ⟨a, x, y, rfl, hs, hx, hy⟩ := hv.g2
    cases hx.str_inv
    refine q_asg (ev_ixT (j := 0) (ev_var rfl) ev_c hs rfl) fun H1 e1 => ?_
    refine skipS e1 rfl (by decide +kernel) fun H2 e2 => ?_
    refine skipL e2 rfl (ea_cons ev_c (ea_cons ev_c ea_nil)) (by show 2 ≤ 100000; decide) rfl (by decide +kernel) fun H3 e3 => ?_
    refine skipS e3 rfl (by decide +kernel) fun H4 e4 => ?_
    refine skipS e4 rfl (by decide +kernel) fun H5 e5 => ?_
    refine skipS e5 rfl (by decide +kernel) fun H6 e6 => ?_
    have hc1 : OkC n c := by cases hc with | size h => exact h
    cases k with
    | int =>
      have hui := hu.keep (Kt.same e6)
      rw [Kd.data] at hui
      refine q_when (b := true) (et_B (ev_isi (ev_var rfl) ev_c hui k_ss)) (fun _ H8 e8 => ?_) (fun h => Bool.noConfusion h)
      exact s_ret ev_c fun H9 e9 => q H9 (e6.trans (e8.trans e9))
    | word =>
      have hui := hu.keep (Kt.same e6)
      rw [Kd.data] at hui
      refine q_when (b := true) (et_B (ev_isi (ev_var rfl) ev_c hui k_ss)) (fun _ H8 e8 => ?_) (fun h => Bool.noConfusion h)
      exact s_ret ev_c fun H9 e9 => q H9 (e6.trans (e8.trans e9))
    | tup ks =>
      have hui := hu.keep (Kt.same e6)
      rw [Kd.data] at hui
      refine q_when (b := false) (et_B (ev_isi (ev_var rfl) ev_c hui k_ts)) (fun h => Bool.noConfusion h) (fun _ Ha ea => ?_)
      have f1 := e6.trans ea
      rw [Kd.data] at hu
      obtain ⟨b, k0, k1, rfl, hb, hk0, hk1⟩ := hu.g2
      cases hk0.str_inv
      refine skipS f1 rfl (by decide +kernel) fun Hf2 f2 => ?_
      refine q_when (b := true) (et_is (et_test (ev_op (ev_ixT (j := 0) (ev_var rfl) ev_c (ex_t f2 hb) rfl) ev_c (rv_ne rfl))) (by decide +kernel)) (fun _ H8 e8 => ?_) (fun h => Bool.noConfusion h)
      exact s_ret ev_c fun H9 e9 => q H9 (f2.trans (e8.trans e9))
    | lst j =>
      have hui := hu.keep (Kt.same e6)
      rw [Kd.data] at hui
      refine q_when (b := false) (et_B (ev_isi (ev_var rfl) ev_c hui k_ts)) (fun h => Bool.noConfusion h) (fun _ Ha ea => ?_)
      have f1 := e6.trans ea
      rw [Kd.data] at hu
      obtain ⟨b, k0, k1, rfl, hb, hk0, hk1⟩ := hu.g2
      cases hk0.str_inv
      refine skipS f1 rfl (by decide +kernel) fun Hf2 f2 => ?_
      refine q_when (b := false) (et_is (et_test (ev_op (ev_ixT (j := 0) (ev_var rfl) ev_c (ex_t f2 hb) rfl) ev_c (rv_ne rfl))) (by decide +kernel)) (fun h => Bool.noConfusion h) (fun _ H8 e8 => ?_)
      have f3 := f2.trans e8
      have hj : OkK 10 j := by cases hk with | lst h => exact h.mono (by omega)
      refine skipL f3 rfl (ea_cons ev_c (ea_cons ev_c ea_nil)) (by show 2 ≤ 100000; decide) rfl (by decide +kernel) fun Hf4 f4 => ?_
      refine takeS f4 rfl (by decide +kernel) fun Hf5 f5 => ?_
      exact s_ret (ev_callC (ea_cons (ev_ixT (j := 1) (ev_var rfl) ev_c (ex_t f5 hs) rfl) (ea_cons ev_c ea_nil)) (fits_call (hy.keep (Kt.same f5)) hc1 int_data .int)) fun H9 e9 => q H9 (f5.trans e9)
  | sum c =>
    rw [Cd.data] at hv
    obtain ⟨a, x, y, rfl, hs, hx, hy⟩ := hv.g2
    cases hx.str_inv
    refine q_asg (ev_ixT (j := 0) (ev_var rfl) ev_c hs rfl) fun H1 e1 => ?_
    refine skipS e1 rfl (by decide +kernel) fun H2 e2 => ?_
    refine skipL e2 rfl (ea_cons ev_c (ea_cons ev_c ea_nil)) (by show 2 ≤ 100000; decide) rfl (by decide +kernel) fun H3 e3 => ?_
    refine skipS e3 rfl (by decide +kernel) fun H4 e4 => ?_
    refine skipS e4 rfl (by decide +kernel) fun H5 e5 => ?_
    refine skipS e5 rfl (by decide +kernel) fun H6 e6 => ?_
    have hc1 : OkC n c := by cases hc with | sum h => exact h
    cases k with
    | int =>
      have hui := hu.keep (Kt.same e6)
      rw [Kd.data] at hui
      refine q_when (b := true) (et_B (ev_isi (ev_var rfl) ev_c hui k_ss)) (fun _ H8 e8 => ?_) (fun h => Bool.noConfusion h)
      exact s_ret ev_c fun H9 e9 => q H9 (e6.trans (e8.trans e9))
    | word =>
      have hui := hu.keep (Kt.same e6)
      rw [Kd.data] at hui
      refine q_when (b := true) (et_B (ev_isi (ev_var rfl) ev_c hui k_ss)) (fun _ H8 e8 => ?_) (fun h => Bool.noConfusion h)
      exact s_ret ev_c fun H9 e9 => q H9 (e6.trans (e8.trans e9))
    | tup ks =>
      have hui := hu.keep (Kt.same e6)
      rw [Kd.data] at hui
      refine q_when (b := false) (et_B (ev_isi (ev_var rfl) ev_c hui k_ts)) (fun h => Bool.noConfusion h) (fun _ Ha ea => ?_)
      have f1 := e6.trans ea
      rw [Kd.data] at hu
      obtain ⟨b, k0, k1, rfl, hb, hk0, hk1⟩ := hu.g2
      cases hk0.str_inv
      refine skipS f1 rfl (by decide +kernel) fun Hf2 f2 => ?_
      refine q_when (b := true) (et_is (et_test (ev_op (ev_ixT (j := 0) (ev_var rfl) ev_c (ex_t f2 hb) rfl) ev_c (rv_ne rfl))) (by decide +kernel)) (fun _ H8 e8 => ?_) (fun h => Bool.noConfusion h)
      exact s_ret ev_c fun H9 e9 => q H9 (f2.trans (e8.trans e9))
    | lst j =>
      have hui := hu.keep (Kt.same e6)
      rw [Kd.data] at hui
      refine q_when (b := false) (et_B (ev_isi (ev_var rfl) ev_c hui k_ts)) (fun h => Bool.noConfusion h) (fun _ Ha ea => ?_)
      have f1 := e6.trans ea
      rw [Kd.data] at hu
      obtain ⟨b, k0, k1, rfl, hb, hk0, hk1⟩ := hu.g2
      cases hk0.str_inv
      refine skipS f1 rfl (by decide +kernel) fun Hf2 f2 => ?_
      refine q_when (b := false) (et_is (et_test (ev_op (ev_ixT (j := 0) (ev_var rfl) ev_c (ex_t f2 hb) rfl) ev_c (rv_ne rfl))) (by decide +kernel)) (fun h => Bool.noConfusion h) (fun _ H8 e8 => ?_)
      have f3 := f2.trans e8
      have hj : OkK 10 j := by cases hk with | lst h => exact h.mono (by omega)
      refine skipL f3 rfl (ea_cons ev_c (ea_cons ev_c ea_nil)) (by show 2 ≤ 100000; decide) rfl (by decide +kernel) fun Hf4 f4 => ?_
      refine skipS f4 rfl (by decide +kernel) fun Hf5 f5 => ?_
      refine takeS f5 rfl (by decide +kernel) fun Hf6 f6 => ?_
      exact s_ret (ev_andV (ev_isInt (ev_ixT (j := 1) (ev_var rfl) ev_c (ex_t f6 hb) rfl) (hk1.keep (Kt.same f6)) hj (by omega)) fun _ => ev_one (ev_callC (ea_cons (ev_ixT (j := 1) (ev_var rfl) ev_c (ex_t f6 hs) rfl) (ea_cons ev_c ea_nil)) (fits_call (hy.keep (Kt.same f6)) hc1 int_data .int))) fun H9 e9 => q H9 (f6.trans e9)
  | rising =>
    rw [Cd.data] at hv
    obtain ⟨a, x, rfl, hs, hx⟩ := hv.g1
    cases hx.str_inv
    refine q_asg (ev_ixT (j := 0) (ev_var rfl) ev_c hs rfl) fun H1 e1 => ?_
    refine skipS e1 rfl (by decide +kernel) fun H2 e2 => ?_
    refine skipL e2 rfl (ea_cons ev_c (ea_cons ev_c ea_nil)) (by show 2 ≤ 100000; decide) rfl (by decide +kernel) fun H3 e3 => ?_
    refine skipS e3 rfl (by decide +kernel) fun H4 e4 => ?_
    refine skipS e4 rfl (by decide +kernel) fun H5 e5 => ?_
    refine skipS e5 rfl (by decide +kernel) fun H6 e6 => ?_
    cases k with
    | int =>
      have hui := hu.keep (Kt.same e6)
      rw [Kd.data] at hui
      refine q_when (b := true) (et_B (ev_isi (ev_var rfl) ev_c hui k_ss)) (fun _ H8 e8 => ?_) (fun h => Bool.noConfusion h)
      exact s_ret ev_c fun H9 e9 => q H9 (e6.trans (e8.trans e9))
    | word =>
      have hui := hu.keep (Kt.same e6)
      rw [Kd.data] at hui
      refine q_when (b := true) (et_B (ev_isi (ev_var rfl) ev_c hui k_ss)) (fun _ H8 e8 => ?_) (fun h => Bool.noConfusion h)
      exact s_ret ev_c fun H9 e9 => q H9 (e6.trans (e8.trans e9))
    | tup ks =>
      have hui := hu.keep (Kt.same e6)
      rw [Kd.data] at hui
      refine q_when (b := false) (et_B (ev_isi (ev_var rfl) ev_c hui k_ts)) (fun h => Bool.noConfusion h) (fun _ Ha ea => ?_)
      have f1 := e6.trans ea
      rw [Kd.data] at hu
      obtain ⟨b, k0, k1, rfl, hb, hk0, hk1⟩ := hu.g2
      cases hk0.str_inv
      refine skipS f1 rfl (by decide +kernel) fun Hf2 f2 => ?_
      refine q_when (b := true) (et_is (et_test (ev_op (ev_ixT (j := 0) (ev_var rfl) ev_c (ex_t f2 hb) rfl) ev_c (rv_ne rfl))) (by decide +kernel)) (fun _ H8 e8 => ?_) (fun h => Bool.noConfusion h)
      exact s_ret ev_c fun H9 e9 => q H9 (f2.trans (e8.trans e9))
    | lst j =>
      have hui := hu.keep (Kt.same e6)
      rw [Kd.data] at hui
      refine q_when (b := false) (et_B (ev_isi (ev_var rfl) ev_c hui k_ts)) (fun h => Bool.noConfusion h) (fun _ Ha ea => ?_)
      have f1 := e6.trans ea
      rw [Kd.data] at hu
      obtain ⟨b, k0, k1, rfl, hb, hk0, hk1⟩ := hu.g2
      cases hk0.str_inv
      refine skipS f1 rfl (by decide +kernel) fun Hf2 f2 => ?_
      refine q_when (b := false) (et_is (et_test (ev_op (ev_ixT (j := 0) (ev_var rfl) ev_c (ex_t f2 hb) rfl) ev_c (rv_ne rfl))) (by decide +kernel)) (fun h => Bool.noConfusion h) (fun _ H8 e8 => ?_)
      have f3 := f2.trans e8
      have hj : OkK 10 j := by cases hk with | lst h => exact h.mono (by omega)
      refine skipL f3 rfl (ea_cons ev_c (ea_cons ev_c ea_nil)) (by show 2 ≤ 100000; decide) rfl (by decide +kernel) fun Hf4 f4 => ?_
      refine skipS f4 rfl (by decide +kernel) fun Hf5 f5 => ?_
      refine skipS f5 rfl (by decide +kernel) fun Hf6 f6 => ?_
      exact s_ret (ev_is (ev_orV (ev_op (ev_var rfl) ev_c (rv_eq rfl)) fun _ => ev_one (ev_isInt (ev_ixT (j := 1) (ev_var rfl) ev_c (ex_t f6 hb) rfl) (hk1.keep (Kt.same f6)) hj (by omega))) (by rw [show decide (V.str "rising" = V.str "different") = false by decide +kernel]; rfl)) fun H9 e9 => q H9 (f6.trans e9)
  | different =>
    rw [Cd.data] at hv
    obtain ⟨a, x, rfl, hs, hx⟩ := hv.g1
    cases hx.str_inv
    refine q_asg (ev_ixT (j := 0) (ev_var rfl) ev_c hs rfl) fun H1 e1 => ?_
    refine skipS e1 rfl (by decide +kernel) fun H2 e2 => ?_
    refine skipL e2 rfl (ea_cons ev_c (ea_cons ev_c ea_nil)) (by show 2 ≤ 100000; decide) rfl (by decide +kernel) fun H3 e3 => ?_
    refine skipS e3 rfl (by decide +kernel) fun H4 e4 => ?_
    refine skipS e4 rfl (by decide +kernel) fun H5 e5 => ?_
    refine skipS e5 rfl (by decide +kernel) fun H6 e6 => ?_
    cases k with
    | int =>
      have hui := hu.keep (Kt.same e6)
      rw [Kd.data] at hui
      refine q_when (b := true) (et_B (ev_isi (ev_var rfl) ev_c hui k_ss)) (fun _ H8 e8 => ?_) (fun h => Bool.noConfusion h)
      exact s_ret ev_c fun H9 e9 => q H9 (e6.trans (e8.trans e9))
    | word =>
      have hui := hu.keep (Kt.same e6)
      rw [Kd.data] at hui
      refine q_when (b := true) (et_B (ev_isi (ev_var rfl) ev_c hui k_ss)) (fun _ H8 e8 => ?_) (fun h => Bool.noConfusion h)
      exact s_ret ev_c fun H9 e9 => q H9 (e6.trans (e8.trans e9))
    | tup ks =>
      have hui := hu.keep (Kt.same e6)
      rw [Kd.data] at hui
      refine q_when (b := false) (et_B (ev_isi (ev_var rfl) ev_c hui k_ts)) (fun h => Bool.noConfusion h) (fun _ Ha ea => ?_)
      have f1 := e6.trans ea
      rw [Kd.data] at hu
      obtain ⟨b, k0, k1, rfl, hb, hk0, hk1⟩ := hu.g2
      cases hk0.str_inv
      refine skipS f1 rfl (by decide +kernel) fun Hf2 f2 => ?_
      refine q_when (b := true) (et_is (et_test (ev_op (ev_ixT (j := 0) (ev_var rfl) ev_c (ex_t f2 hb) rfl) ev_c (rv_ne rfl))) (by decide +kernel)) (fun _ H8 e8 => ?_) (fun h => Bool.noConfusion h)
      exact s_ret ev_c fun H9 e9 => q H9 (f2.trans (e8.trans e9))
    | lst j =>
      have hui := hu.keep (Kt.same e6)
      rw [Kd.data] at hui
      refine q_when (b := false) (et_B (ev_isi (ev_var rfl) ev_c hui k_ts)) (fun h => Bool.noConfusion h) (fun _ Ha ea => ?_)
      have f1 := e6.trans ea
      rw [Kd.data] at hu
      obtain ⟨b, k0, k1, rfl, hb, hk0, hk1⟩ := hu.g2
      cases hk0.str_inv
      refine skipS f1 rfl (by decide +kernel) fun Hf2 f2 => ?_
      refine q_when (b := false) (et_is (et_test (ev_op (ev_ixT (j := 0) (ev_var rfl) ev_c (ex_t f2 hb) rfl) ev_c (rv_ne rfl))) (by decide +kernel)) (fun h => Bool.noConfusion h) (fun _ H8 e8 => ?_)
      have f3 := f2.trans e8
      have hj : OkK 10 j := by cases hk with | lst h => exact h.mono (by omega)
      refine skipL f3 rfl (ea_cons ev_c (ea_cons ev_c ea_nil)) (by show 2 ≤ 100000; decide) rfl (by decide +kernel) fun Hf4 f4 => ?_
      refine skipS f4 rfl (by decide +kernel) fun Hf5 f5 => ?_
      refine skipS f5 rfl (by decide +kernel) fun Hf6 f6 => ?_
      exact s_ret (ev_is (ev_orV (ev_op (ev_var rfl) ev_c (rv_eq rfl)) fun _ => ev_one (ev_isInt (ev_ixT (j := 1) (ev_var rfl) ev_c (ex_t f6 hb) rfl) (hk1.keep (Kt.same f6)) hj (by omega))) (by rw [decide_eq_true rfl]; rfl)) fun H9 e9 => q H9 (f6.trans e9)
abbrev s__law_limit : Stmt := topS 9
abbrev N__law_limit : List Str := ["box", "kind", "depth", "which", "first", "place"]
theorem sc__law_limit : FnScope N__law_limit ["box", "kind", "depth"] (defScope s__law_limit) := ⟨rfl, rfl, rfl, by decide +kernel, rfl, by decide +kernel, by decide +kernel⟩
theorem ok__law_limit {f : Addr} {fd : FuncData} {N : Nat} (T : Tx mg) (F : Fun K "_law_limit" "_law_limit" s__law_limit f fd) (c__law_take : Cl P w K mg base "_law_take" ["box", "many"] 1 spTake)
    (c__law_limit : Cl P w K mg base "_law_limit" ["box", "kind", "depth"] (N + 1) (spLLimit K N)) : FnOk P w K mg base CX0 (N + 1 + 1) f fd ["box", "kind", "depth"] (spLLimit K (N + 1)) := by
  refine F.ok sc__law_limit (fun vs H Q E h => ?_) (fun cdv A outer s H vs Q E hr h => ?_)
  · obtain ⟨b, d, u, kd, n, m, rfl, _⟩ := h
    rfl
  obtain ⟨b, d, u, kd, n, m, rfl, hB, hu, hk, hne, hnm, hN, q⟩ := h
  refine ⟨_, (pss_cons (ps_set (i := 3) sc__law_limit.nd rfl (Or.inl rfl) (pe_call c__law_take.ok (hr.mono (by omega)) (by rfl) c__law_take.m c__law_take.kp c__law_take.b .nil pass0 (pa_cons (pv 0) (pa_cons pe_int pa_nil))))
      (pss_cons (ps_if (PW.pt (pw_and (pt_cmpR op_gt (pv 2) pe_int (nomark _)) (pw_and1 (pt_cmpR op_gt (pv 3) pe_int (nomark _))))) (pss_cons (ps_set (i := 4) sc__law_limit.nd rfl (Or.inl rfl) (pe_call c__law_limit.ok (hr.mono (by omega)) (by rfl) c__law_limit.m c__law_limit.kp c__law_limit.b .nil pass0 (pa_cons (pv 0) (pa_cons (pv 1) (pa_cons (pe_op op_sub (pv 2) pe_int) pa_nil)))))
        (pss_cons (ps_if (pt_cmpR op_eq (pv 3) pe_int (nomark _)) (pss_one (ps_ret (pe_tup (pa_cons pe_str (pa_cons (pv 4) pa_nil))))) pss_nil)
        (pss_one (ps_ret (pe_tup (pa_cons (pe_ix (r := rIxL K) ix_list (pe_lst (pa_cons pe_str (pa_cons pe_str pa_nil))) (pe_op op_sub (pv 3) pe_int) (fun _ _ => rfl)) (pa_cons (pv 4) (pa_cons (pe_call c__law_limit.ok (hr.mono (by omega)) (by rfl) c__law_limit.m c__law_limit.kp c__law_limit.b .nil pass0 (pa_cons (pv 0) (pa_cons (pv 1) (pa_cons (pe_op op_sub (pv 2) pe_int) pa_nil)))) pa_nil)))))))) pss_nil)
      (pss_cons (ps_if (pt_cmpR (op_eqD hr.units) (pv 1) pe_str (nomark _)) (pss_cons (ps_if (pt_cmpR op_eq (pe_op op_mod (pv 3) pe_int) pe_int (nomark _)) (pss_one (ps_ret (pe_tup (pa_cons pe_str (pa_cons (pe_op op_sub (pe_call c__law_take.ok (hr.mono (by omega)) (by rfl) c__law_take.m c__law_take.kp c__law_take.b .nil pass0 (pa_cons (pv 0) (pa_cons pe_int pa_nil))) pe_int) pa_nil))))) pss_nil)
        (pss_one (ps_ret (pe_tup (pa_cons pe_str (pa_cons (pe_op op_add pe_int (pe_call c__law_take.ok (hr.mono (by omega)) (by rfl) c__law_take.m c__law_take.kp c__law_take.b .nil pass0 (pa_cons (pv 0) (pa_cons pe_int pa_nil)))) pa_nil)))))) pss_nil)
      (pss_cons (ps_if (pt_cmpR (op_eqD hr.units) (pv 1) pe_str (nomark _)) (pss_one (ps_ret (pe_tup (pa_cons pe_str (pa_cons (pe_ix (r := rIxL K) ix_list (pe_lst (pa_cons pe_str (pa_cons pe_str (pa_cons pe_str pa_nil)))) (pe_call c__law_take.ok (hr.mono (by omega)) (by rfl) c__law_take.m c__law_take.kp c__law_take.b .nil pass0 (pa_cons (pv 0) (pa_cons pe_int pa_nil))) (fun _ _ => rfl)) pa_nil))))) pss_nil)
      (pss_cons (ps_if (pt_cmpR op_eq (pe_ix (r := rIxT K) ix_tup (pv 1) pe_int (fun _ _ => rfl)) pe_str (nomark _)) (pss_cons (ps_set (i := 5) sc__law_limit.nd rfl (Or.inl rfl) (pe_call c__law_take.ok (hr.mono (by omega)) (by rfl) c__law_take.m c__law_take.kp c__law_take.b .nil pass0 (pa_cons (pv 0) (pa_cons (pe_callB call_len_seq (by rfl) T.z_len PySem.boot_len (pa_cons (pe_ix (r := rIxT K) ix_tup (pv 1) pe_int (fun _ _ => rfl)) pa_nil)) pa_nil))))
        (pss_one (ps_ret (pe_tup (pa_cons pe_str (pa_cons (pv 5) (pa_cons (pe_call c__law_limit.ok (hr.mono (by omega)) (by rfl) c__law_limit.m c__law_limit.kp c__law_limit.b .nil pass0 (pa_cons (pv 0) (pa_cons (pe_ix (r := rIxT K) ix_tup (pe_ix (r := rIxT K) ix_tup (pv 1) pe_int (fun _ _ => rfl)) (pv 5) (fun _ _ => rfl)) (pa_cons pe_int pa_nil)))) pa_nil))))))) pss_nil)
      (pss_cons (ps_if (PW.pt (pw_and (pt_cmpR (op_eqD hr.units) (pv 1) (pe_tup (pa_cons pe_str (pa_cons pe_str pa_nil))) (nomark _)) (pw_and1 (pt_cmpR op_lt (pv 3) pe_int (nomark _))))) (pss_one (ps_ret (pe_ix (r := rIxL K) ix_list (pe_lst (pa_cons (pe_tup (pa_cons pe_str pa_nil)) (pa_cons (pe_tup (pa_cons pe_str pa_nil)) (pa_cons (pe_tup (pa_cons pe_str (pa_cons (pe_call c__law_limit.ok (hr.mono (by omega)) (by rfl) c__law_limit.m c__law_limit.kp c__law_limit.b .nil pass0 (pa_cons (pv 0) (pa_cons pe_str (pa_cons pe_int pa_nil)))) pa_nil))) pa_nil)))) (pv 3) (fun _ _ => rfl)))) pss_nil)
      (pss_cons (ps_if (pt_cmpR op_eq (pv 3) pe_int (nomark _)) (pss_one (ps_ret (pe_tup (pa_cons pe_str pa_nil)))) pss_nil)
      (pss_cons (ps_if (pt_cmpR op_eq (pv 3) pe_int (nomark _)) (pss_one (ps_ret (pe_tup (pa_cons pe_str (pa_cons (pe_call c__law_limit.ok (hr.mono (by omega)) (by rfl) c__law_limit.m c__law_limit.kp c__law_limit.b .nil pass0 (pa_cons (pv 0) (pa_cons pe_str (pa_cons pe_int pa_nil)))) pa_nil))))) pss_nil)
      (pss_one (ps_ret (pe_tup (pa_cons (pe_ix (r := rIxL K) ix_list (pe_lst (pa_cons pe_str (pa_cons pe_str pa_nil))) (pe_op op_mod (pv 3) pe_int) (fun _ _ => rfl)) (pa_cons (pe_call c__law_limit.ok (hr.mono (by omega)) (by rfl) c__law_limit.m c__law_limit.kp c__law_limit.b .nil pass0 (pa_cons (pv 0) (pa_cons (pe_ix (r := rIxT K) ix_tup (pv 1) pe_int (fun _ _ => rfl)) (pa_cons pe_int pa_nil)))) pa_nil))))))))))))), ?_⟩
  have hmp := hk.pos
  refine ⟨_, rfl, b, d, 9, rfl, hB, by decide, fun r H1 r0 r1 m1 => ?_⟩
  refine q_when (et_and (et_test (ev_op (ev_var rfl) ev_c rv_I0)) (fun _ => et_test (ev_op (ev_var rfl) ev_c rv_I0))) (fun hb H2 e2 => ?_) (fun hb H2 e2 => ?_)
  · -- not, and, or
    obtain ⟨hb1, hb2⟩ := Bool.and_eq_true_iff.mp hb
    have hb1 := of_decide_eq_true hb1
    have hb2 := of_decide_eq_true hb2
    have m2 := m1.ext e2
    have en : (n : Int) - 1 = ((n - 1 : Nat) : Int) := by omega
    refine ⟨_, rfl, _, rfl, _, rfl, _, _, rfl, rfl, b, d, u, kd, n - 1, m, (by rw [← en]; rfl), m2.2, hu.keep (m2.kt hB), hk, hne, by omega, by omega, fun v c H3 m3 hv hc => ?_⟩
    refine q_when (et_test (ev_op (ev_var rfl) ev_c (rv_eq rfl))) (fun _ H4 e4 => ?_) (fun h6 H4 e4 => ?_)
    · refine ⟨_, rfl, (by show 2 ≤ sizeLine; decide), fun p hp => ?_⟩
      have m4 := ((m2.trans m3).ext e4).new (o := .tup [.str "not", v]) hp
      refine q _ (.not_ c) _ m4 ?_ (.not_ hc)
      rw [Cd.data]
      exact .t2 (.of upd_same) (.str _) (hv.keep (Kt.same (e4.trans (same_new hp))))
    · have h6 : r ≠ 6 := fun e => by
        have h := of_decide_eq_false h6
        exact h (by rw [e])
      have m4 := (m2.trans m3).ext e4
      refine ⟨by decide, fun p hp => ?_⟩
      have e5 := same_new (o := .lst [.str "and", .str "or"]) hp
      rcases (by omega : r = 7 ∨ r = 8) with rfl | rfl
      · refine ⟨_, rfl, _, _, rfl, rfl, p, _, 7 - 7, .str "and", rfl, rfl, .of upd_same, rfl, _, rfl, _, rfl, _, rfl, _, rfl, _, _, rfl, rfl, b, d, u, kd, n - 1, m, (by rw [← en]; rfl), (m4.ext e5).2, hu.keep ((m4.ext e5).kt hB), hk, hne, by omega, by omega, fun v2 c2 H6 m6 hv2 hc2 => ⟨(by show 3 ≤ sizeLine; decide), fun p2 hp2 => ?_⟩⟩
        refine q _ (.and_ c c2) _ (((m4.ext e5).trans m6).new hp2) ?_ (.and_ hc hc2)
        rw [Cd.data]
        exact .t3 (.of upd_same) (.str _) (((hv.keep (Kt.same (e4.trans e5))).keep (m6.kt (m4.ext e5).2)).keep (Kt.new hp2)) (hv2.keep (Kt.new hp2))
      · refine ⟨_, rfl, _, _, rfl, rfl, p, _, 8 - 7, .str "or", rfl, rfl, .of upd_same, rfl, _, rfl, _, rfl, _, rfl, _, rfl, _, _, rfl, rfl, b, d, u, kd, n - 1, m, (by rw [← en]; rfl), (m4.ext e5).2, hu.keep ((m4.ext e5).kt hB), hk, hne, by omega, by omega, fun v2 c2 H6 m6 hv2 hc2 => ⟨(by show 3 ≤ sizeLine; decide), fun p2 hp2 => ?_⟩⟩
        refine q _ (.or_ c c2) _ (((m4.ext e5).trans m6).new hp2) ?_ (.or_ hc hc2)
        rw [Cd.data]
        exact .t3 (.of upd_same) (.str _) (((hv.keep (Kt.same (e4.trans e5))).keep (m6.kt (m4.ext e5).2)).keep (Kt.new hp2)) (hv2.keep (Kt.new hp2))
  have m2 := m1.ext e2
  have hu2 := hu.keep (m2.kt hB)
  have sk := OkK.shaped hk (by omega)
  refine q_when (et_test (ev_isInt (ev_var rfl) hu2 hk (by omega))) (fun hi H3 e3 => ?_) (fun hi H3 e3 => ?_)
  · have m3 := m2.ext e3
    refine q_when (et_test (ev_op (ev_op (ev_var rfl) ev_c (rv_I (by decide))) ev_c (rv_eq rfl))) (fun _ H4 e4 => ?_) (fun _ H4 e4 => ?_)
    · have m4 := m3.ext e4
      refine ⟨_, rfl, b, d, 7, rfl, m4.2, by decide, fun x H5 x0 x1 m5 => ⟨_, _, rfl, rfl, (by show 2 ≤ sizeLine; decide), fun p hp => ?_⟩⟩
      refine q _ (.atmost (x - 2)) _ ((m4.trans m5).new hp) ?_ (.atmost _)
      rw [Cd.data]
      exact .t2 (.of upd_same) (.str _) (.int _)
    · have m4 := m3.ext e4
      refine ⟨_, rfl, b, d, 3, rfl, m4.2, by decide, fun x H5 x0 x1 m5 => ⟨_, _, rfl, rfl, (by show 2 ≤ sizeLine; decide), fun p hp => ?_⟩⟩
      refine q _ (.divides (1 + x)) _ ((m4.trans m5).new hp) ?_ (.divides _)
      rw [Cd.data]
      exact .t2 (.of upd_same) (.str _) (.int _)
  have m3 := m2.ext e3
  have hu3 := hu2.keep (Kt.same e3)
  refine q_when (et_test (ev_isWord (ev_var rfl) hu3 hk (by omega))) (fun hw H4 e4 => ?_) (fun hw H4 e4 => ?_)
  · have m4 := m3.ext e4
    refine ⟨by decide, fun p hp => ?_⟩
    have m5 := m4.new (o := .lst [.str "ab", .str "c", .str "zz"]) hp
    have npb : p ≠ b := (m4.2.neb hp).1
    refine ⟨_, rfl, b, d, 3, rfl, m5.2, by decide, fun x H6 x0 x1 m6 => ?_⟩
    have hl : SqL K H6 p [.str "ab", .str "c", .str "zz"] := m6.sql npb (.of upd_same)
    have done : ∀ (s : Str), SeqAt.shaped (.str s) = true → s.length ≤ 1000 → ∀ p2, H6 p2 = none → Q (.ref p2) (upd H6 p2 (.tup [.str "is", .str s])) := fun s h1 h2 p2 hp2 => by
      refine q _ (.is s) _ ((m5.trans m6).new hp2) ?_ (.is h1 h2)
      rw [Cd.data]
      exact .t2 (.of upd_same) (.str _) (.str _)
    rcases (by omega : x = 0 ∨ x = 1 ∨ x = 2) with rfl | rfl | rfl
    · exact ⟨p, _, 0, .str "ab", rfl, rfl, hl, rfl, (by show 2 ≤ sizeLine; decide), done "ab" (by decide +kernel) (by decide +kernel)⟩
    · exact ⟨p, _, 1, .str "c", rfl, rfl, hl, rfl, (by show 2 ≤ sizeLine; decide), done "c" (by decide +kernel) (by decide +kernel)⟩
    · exact ⟨p, _, 2, .str "zz", rfl, rfl, hl, rfl, (by show 2 ≤ sizeLine; decide), done "zz" (by decide +kernel) (by decide +kernel)⟩
  have m4 := m3.ext e4
  have hu4 := hu3.keep (Kt.same e4)
  cases kd with
  | int => cases hi
  | word => cases hw
  | tup ks =>
    have hu5 := hu4
    rw [Kd.data] at hu5
    obtain ⟨a, y0, y1, rfl, ha, h0, h1⟩ := hu5.g2
    cases h0.str_inv
    obtain ⟨c, rfl⟩ := h1.ref
    obtain ⟨ys, hys, hyl, hyi⟩ := h1.get
    have hyk : ys.length = ks.length := by rw [hyl, dataAll_map, List.length_map]
    have hkp : 0 < ks.length ∧ ∀ j ∈ ks, NeK j := by cases hne with | tup h1 h2 => exact ⟨h1, h2⟩
    have hm2 : ∀ j ∈ ks, OkK (m - 1) j := by cases hk with | tup _ h => exact h
    refine q_when (b := true) (et_is (et_test (ev_op (ev_ixT (j := 0) (ev_var rfl) ev_c ha rfl) ev_c (rv_eq rfl))) (by decide +kernel)) (fun _ H5 e5 => ?_) (fun h => Bool.noConfusion h)
    have m5 := m4.ext e5
    refine ⟨_, rfl, _, rfl, a, _, 1, .ref c, rfl, rfl, ex_t e5 ha, rfl, c, _, rfl, .inr (ex_t e5 hys), b, d, (ys.length : Int), rfl, m5.2, by omega, fun x H6 x0 x1 m6 => ?_⟩
    obtain ⟨j, rfl⟩ := Int.eq_ofNat_of_zero_le x0
    have hj : j < ks.length := by omega
    have hyd : (dataAll ks)[j]? = some (ks.getD j .int).data := by rw [dataAll_map, List.getElem?_map, getD_at (a0 := Kd.int) hj]; rfl
    have hyj : ys[j]? = some (ys.getD j .non) := getD_at (by omega)
    have k6 : Kt K H4 H6 := (Kt.same e5).trans (m6.kt m5.2)
    refine ⟨_, rfl, _, rfl, _, rfl, a, _, 1, .ref c, rfl, rfl, k6 _ _ ha, rfl, _, rfl, c, _, _, _, rfl, rfl, k6 _ _ hys, atI_nat hyj, b, d, _, ks.getD j .int, 0, m - 1, rfl, m6.2, (hyi _ _ _ hyj hyd).keep k6, hm2 _ (List.mem_of_getElem? (getD_at hj)), hkp.2 _ (List.mem_of_getElem? (getD_at hj)), by omega, by omega, fun v cc H7 m7 hv hc => ⟨(by show 3 ≤ sizeLine; decide), fun p hp => ?_⟩⟩
    refine q _ (.item j cc) _ (((m5.trans m6).trans m7).new hp) ?_ (.item _ hc)
    rw [Cd.data]
    exact .t3 (.of upd_same) (.str _) (.int _) (hv.keep (Kt.new hp))
  | lst kj =>
    have hu5 := hu4
    rw [Kd.data] at hu5
    obtain ⟨a, y0, y1, rfl, ha, h0, h1⟩ := hu5.g2
    cases h0.str_inv
    have hkj : OkK (m - 1) kj := by cases hk with | lst h => exact h
    have hnj : NeK kj := by cases hne with | lst h => exact h
    have hmj := hkj.pos
    refine q_when (b := false) (et_is (et_test (ev_op (ev_ixT (j := 0) (ev_var rfl) ev_c ha rfl) ev_c (rv_eq rfl))) (by decide +kernel)) (fun h => Bool.noConfusion h) (fun _ H5 e5 => ?_)
    have m5 := m4.ext e5
    -- _law_limit(box, 'int', 0)
    refine q_when (b := PyData.eqv (Kd.lst kj).data (Kd.lst Kd.int).data && decide (r < 3)) (et_and (et_test (ev_opU (xs := [.str "list", .str "int"]) (ev_var rfl) (eu_tup (ea_cons ev_c (ea_cons ev_c ea_nil)) (by show 2 ≤ 100000; decide)) fun p Hx hp ex => rv_eqD (hu4.keep (Kt.same (e5.trans ex))) (by rw [Kd.data, Kd.data]; exact .t2 (.of hp) (.str _) (.str _)) sk (OkK.shaped (n := 2) (.lst .int) (by omega)))) (fun _ => et_test (ev_op (ev_var rfl) ev_c rv_I0))) (fun hb3 H6 e6 => ?_) (fun hb3 H6 e6 => ?_)
    · have hr3 : r < 3 := of_decide_eq_true (Bool.and_eq_true_iff.mp hb3).2
      have m6 := m5.ext e6
      refine ⟨by decide, fun p1 hp1 => ⟨by decide, fun p2 hp2 => ?_⟩⟩
      have e7 := (same_new (o := .tup [.str "rising"]) hp1).trans (same_new (o := .tup [.str "different"]) hp2)
      have m7 := m6.ext e7
      refine ⟨_, rfl, b, d, .str "int", .int, 0, 1, rfl, m7.2, int_data, .int, .int, by omega, by omega, fun v cc H8 m8 hv hc => ⟨(by show 2 ≤ sizeLine; decide), fun p3 hp3 => ⟨(by show 3 ≤ sizeLine; decide), fun p4 hp4 => ?_⟩⟩⟩
      have e9 := (same_new (o := .tup [.str "sum", v]) hp3).trans (same_new (o := .lst [.ref p1, .ref p2, .ref p3]) hp4)
      have m9 := (m7.trans m8).ext e9
      have n1 : p1 ≠ b := (m6.2.neb hp1).1
      have n2 : p2 ≠ b := ((m6.ext (same_new hp1)).2.neb hp2).1
      have t1 := e9 _ _ (m8.1 _ _ n1 ((same_new (o := .tup [.str "different"]) hp2) _ _ (upd_same (H := H6) (a := p1) (o := .tup [.str "rising"]))))
      have t2 := e9 _ _ (m8.1 _ _ n2 (upd_same (H := upd H6 p1 (.tup [.str "rising"])) (a := p2) (o := .tup [.str "different"])))
      have t3 := (same_new (o := .lst [.ref p1, .ref p2, .ref p3]) hp4) _ _ (upd_same (H := H8) (a := p3) (o := .tup [.str "sum", v]))
      refine ⟨_, rfl, p4, [.ref p1, .ref p2, .ref p3], r, ?_⟩
      rcases (by omega : r = 0 ∨ r = 1 ∨ r = 2) with rfl | rfl | rfl
      · exact ⟨.ref p1, rfl, rfl, .of upd_same, rfl, q _ .rising _ m9 (by rw [Cd.data]; exact .t1 (.of t1) (.str _)) .rising⟩
      · exact ⟨.ref p2, rfl, rfl, .of upd_same, rfl, q _ .different _ m9 (by rw [Cd.data]; exact .t1 (.of t2) (.str _)) .different⟩
      · exact ⟨.ref p3, rfl, rfl, .of upd_same, rfl, q _ (.sum cc) _ m9 (by rw [Cd.data]; exact .t2 (.of t3) (.str _) (hv.keep (Kt.same e9))) (.sum hc)⟩
    have m6 := m5.ext e6
    refine q_when (et_test (ev_op (ev_var rfl) ev_c (rv_eq rfl))) (fun _ H7 e7 => ?_) (fun _ H7 e7 => ?_)
    · refine ⟨by decide, fun p hp => ?_⟩
      exact q _ .different _ ((m6.ext e7).new hp) (by rw [Cd.data]; exact .t1 (.of upd_same) (.str _)) .different
    have m7 := m6.ext e7
    refine q_when (et_test (ev_op (ev_var rfl) ev_c (rv_eq rfl))) (fun _ H8 e8 => ?_) (fun _ H8 e8 => ?_)
    · have m8 := m7.ext e8
      refine ⟨_, rfl, b, d, .str "int", .int, 0, 1, rfl, m8.2, int_data, .int, .int, by omega, by omega, fun v cc H9 m9 hv hc => ⟨(by show 2 ≤ sizeLine; decide), fun p hp => ?_⟩⟩
      exact q _ (.size cc) _ ((m8.trans m9).new hp) (by rw [Cd.data]; exact .t2 (.of upd_same) (.str _) (hv.keep (Kt.new hp))) (.size hc)
    have m8 := m7.ext e8
    refine ⟨by decide, fun p hp => ?_⟩
    have e9 := same_new (o := .lst [.str "every", .str "some"]) hp
    have m9 := m8.ext e9
    have e59 := e5.trans (e6.trans (e7.trans (e8.trans e9)))
    refine ⟨_, rfl, _, _, rfl, rfl, (by show (0 : Int) < 2; decide), p, [.str "every", .str "some"], r % 2, ?_⟩
    rcases (by omega : r % 2 = 0 ∨ r % 2 = 1) with hr2 | hr2
    · refine ⟨.str "every", rfl, rfl, .of upd_same, (by rw [hr2]; rfl), _, rfl, _, rfl, a, _, 1, _, rfl, rfl, ex_t e59 ha, rfl, b, d, _, kj, 0, m - 1, rfl, m9.2, h1.keep (Kt.same e59), hkj, hnj, by omega, by omega, fun v cc Hb mb hv hc => ⟨(by show 2 ≤ sizeLine; decide), fun p2 hp2 => ?_⟩⟩
      exact q _ (.every cc) _ ((m9.trans mb).new hp2) (by rw [Cd.data]; exact .t2 (.of upd_same) (.str _) (hv.keep (Kt.new hp2))) (.every hc)
    · refine ⟨.str "some", rfl, rfl, .of upd_same, (by rw [hr2]; rfl), _, rfl, _, rfl, a, _, 1, _, rfl, rfl, ex_t e59 ha, rfl, b, d, _, kj, 0, m - 1, rfl, m9.2, h1.keep (Kt.same e59), hkj, hnj, by omega, by omega, fun v cc Hb mb hv hc => ⟨(by show 2 ≤ sizeLine; decide), fun p2 hp2 => ?_⟩⟩
      exact q _ (.some_ cc) _ ((m9.trans mb).new hp2) (by rw [Cd.data]; exact .t2 (.of upd_same) (.str _) (hv.keep (Kt.new hp2))) (.some_ hc)
abbrev s__law_value : Stmt := topS 13
abbrev N__law_value : List Str := ["box", "kind", "j", "part"]
theorem sc__law_value : FnScope N__law_value ["box", "kind"] (defScope s__law_value) := ⟨rfl, rfl, rfl, by decide +kernel, rfl, by decide +kernel, by decide +kernel⟩
theorem ok__law_value {f : Addr} {fd : FuncData} {N : Nat} (T : Tx mg) (F : Fun K "_law_value" "_law_value" s__law_value f fd) (c__law_take : Cl P w K mg base "_law_take" ["box", "many"] 1 spTake)
    (c__law_value : Cl P w K mg base "_law_value" ["box", "kind"] (N + 1) (spLVal K N)) : FnOk P w K mg base CX0 (N + 1 + 1) f fd ["box", "kind"] (spLVal K (N + 1)) := by
  refine F.ok sc__law_value (fun vs H Q E h => ?_) (fun cdv A outer s H vs Q E hr h => ?_)
  · obtain ⟨b, d, u, kd, rfl, _⟩ := h
    rfl
  obtain ⟨b, d, u, kd, rfl, hB, hu, hk, hN, q⟩ := h
  refine ⟨_, (pss_cons (ps_if (pt_cmpR (op_eqD hr.units) (pv 1) pe_str (nomark _)) (pss_one (ps_ret (pe_op op_sub (pe_call c__law_take.ok (hr.mono (by omega)) (by rfl) c__law_take.m c__law_take.kp c__law_take.b .nil pass0 (pa_cons (pv 0) (pa_cons pe_int pa_nil))) pe_int))) pss_nil)
      (pss_cons (ps_if (pt_cmpR (op_eqD hr.units) (pv 1) pe_str (nomark _)) (pss_one (ps_ret (pe_ix (r := rIxL K) ix_list (pe_lst (pa_cons pe_str (pa_cons pe_str (pa_cons pe_str (pa_cons pe_str pa_nil))))) (pe_call c__law_take.ok (hr.mono (by omega)) (by rfl) c__law_take.m c__law_take.kp c__law_take.b .nil pass0 (pa_cons (pv 0) (pa_cons pe_int pa_nil))) (fun _ _ => rfl)))) pss_nil)
      (pss_cons (ps_if (pt_cmpR op_eq (pe_ix (r := rIxT K) ix_tup (pv 1) pe_int (fun _ _ => rfl)) pe_str (nomark _)) (pss_one (ps_ret (pe_callTy call_tuple_of (by rfl) T.z_tuple (by decide +kernel) (pa_cons (pe_lc (own := [("part", 3)]) (g := gName 3) (by rfl) sc__law_value.nd (pi_tup (pe_ix (r := rIxT K) ix_tup (pv 1) pe_int (fun _ _ => rfl))) (blkOk_by (own := [("part", 3)]) (N := N__law_value) (sc := defScope s__law_value) (by decide +kernel)) (fun _ _ _ _ _ => (pg_name (i := 3) sc__law_value.nd rfl (Or.inl rfl))) (fun _ _ _ _ _ => pts_nil) (fun _ _ _ _ _ => (pe_call c__law_value.ok (hr.mono (by omega)) (by rfl) c__law_value.m c__law_value.kp c__law_value.b .nil pass0 (pa_cons (pv 0) (pa_cons (pv 3) pa_nil))))) pa_nil)))) pss_nil)
      (pss_one (ps_ret (pe_callTy call_tuple_of (by rfl) T.z_tuple (by decide +kernel) (pa_cons (pe_lc (own := [("j", 2)]) (g := gName 2) (by rfl) sc__law_value.nd (pi_range1 (by rfl) T.z_range (pa_cons (pe_call c__law_take.ok (hr.mono (by omega)) (by rfl) c__law_take.m c__law_take.kp c__law_take.b .nil pass0 (pa_cons (pv 0) (pa_cons pe_int pa_nil))) pa_nil)) (blkOk_by (own := [("j", 2)]) (N := N__law_value) (sc := defScope s__law_value) (by decide +kernel)) (fun _ _ _ _ _ => (pg_name (i := 2) sc__law_value.nd rfl (Or.inl rfl))) (fun _ _ _ _ _ => pts_nil) (fun _ _ _ _ _ => (pe_call c__law_value.ok (hr.mono (by omega)) (by rfl) c__law_value.m c__law_value.kp c__law_value.b .nil pass0 (pa_cons (pv 0) (pa_cons (pe_ix (r := rIxT K) ix_tup (pv 1) pe_int (fun _ _ => rfl)) pa_nil))))) pa_nil))))))), ?_⟩
  have sk := OkK.shaped hk (by omega)
  cases kd with
  | int =>
    refine q_when (b := true) (et_is (et_test (ev_op (ev_var rfl) ev_c (rv_eqD hu (.str "int") sk shaped_int))) (by rw [Kd.data]; decide +kernel)) (fun _ H1 e1 => ?_) (fun h => Bool.noConfusion h)
    refine ⟨_, rfl, b, d, 9, rfl, hB.same e1, by decide, fun x H2 x0 x1 m2 => ⟨x, 4, rfl, rfl, ?_⟩⟩
    exact q _ (.int (x - 4)) _ ((Mv.same hB e1).trans m2) (.int _) (.int _) rfl
  | word =>
    refine q_when (b := false) (et_is (et_test (ev_op (ev_var rfl) ev_c (rv_eqD hu (.str "int") sk shaped_int))) (by rw [Kd.data]; decide +kernel)) (fun h => Bool.noConfusion h) (fun _ H1 e1 => ?_)
    have hu1 := hu.keep (Kt.same e1)
    refine q_when (b := true) (et_is (et_test (ev_op (ev_var rfl) ev_c (rv_eqD hu1 (.str "word") sk shaped_word))) (by rw [Kd.data]; decide +kernel)) (fun _ H2 e2 => ?_) (fun h => Bool.noConfusion h)
    have m2 := Mv.same hB (e1.trans e2)
    refine ⟨by decide, fun p hp => ?_⟩
    have m3 := m2.new (o := .lst [.str "ab", .str "c", .str "zz", .str "zz"]) hp
    have npb : p ≠ b := (m2.2.neb hp).1
    refine ⟨_, rfl, b, d, 4, rfl, m3.2, by decide, fun x H4 x0 x1 m4 => ?_⟩
    have hl : SqL K H4 p [.str "ab", .str "c", .str "zz", .str "zz"] := m4.sql npb (.of upd_same)
    have m04 := m3.trans m4
    rcases (by omega : x = 0 ∨ x = 1 ∨ x = 2 ∨ x = 3) with rfl | rfl | rfl | rfl
    · exact ⟨p, _, 0, .str "ab", rfl, rfl, hl, rfl, q _ (.str "ab") H4 m04 (.str _) dk_str (by decide +kernel)⟩
    · exact ⟨p, _, 1, .str "c", rfl, rfl, hl, rfl, q _ (.str "c") H4 m04 (.str _) dk_str (by decide +kernel)⟩
    · exact ⟨p, _, 2, .str "zz", rfl, rfl, hl, rfl, q _ (.str "zz") H4 m04 (.str _) dk_str (by decide +kernel)⟩
    · exact ⟨p, _, 3, .str "zz", rfl, rfl, hl, rfl, q _ (.str "zz") H4 m04 (.str _) dk_str (by decide +kernel)⟩
  | tup ks =>
    refine q_when (b := false) (et_is (et_test (ev_op (ev_var rfl) ev_c (rv_eqD hu (.str "int") sk shaped_int))) (by rw [Kd.data]; rfl)) (fun h => Bool.noConfusion h) (fun _ H1 e1 => ?_)
    have hu1 := hu.keep (Kt.same e1)
    refine q_when (b := false) (et_is (et_test (ev_op (ev_var rfl) ev_c (rv_eqD hu1 (.str "word") sk shaped_word))) (by rw [Kd.data]; rfl)) (fun h => Bool.noConfusion h) (fun _ H2 e2 => ?_)
    have m2 := Mv.same hB (e1.trans e2)
    have hu2 := hu1.keep (Kt.same e2)
    rw [Kd.data] at hu2
    obtain ⟨a, x0, x1, rfl, ha, h0, h1⟩ := hu2.g2
    cases h0.str_inv
    obtain ⟨c, rfl⟩ := h1.ref
    obtain ⟨ys, hys, hyl, hyi⟩ := h1.get
    refine q_when (b := true) (et_is (et_test (ev_op (ev_ixT (j := 0) (ev_var rfl) ev_c ha rfl) ev_c (rv_eq rfl))) (by decide +kernel)) (fun _ H3 e3 => ?_) (fun h => Bool.noConfusion h)
    have m3 := m2.ext e3
    have hks : ks.length ≤ 60 ∧ ∀ j ∈ ks, OkK N j := by cases hk with | tup h1 h => exact ⟨h1, h⟩
    have hyk : ys.length = ks.length := by rw [hyl, dataAll_map, List.length_map]
    refine ⟨_, rfl, a, _, 1, .ref c, rfl, rfl, ex_t e3 ha, rfl, c, rfl, ⟨ys, ex_t e3 hys⟩, fun D hD => ?_⟩
    have nDb : D ≠ b := (m3.2.neb hD).1
    refine lc_tup (K := K) (a := c) (xs := ys) (fun i H' => ∃ (vs : List V) (ds : List PyData), H' D = some (.lst vs) ∧ vs.length = i ∧ Vds K H' vs ds ∧ (∀ e ∈ ds, Dk N e) ∧ (∀ (j : Nat) k e, ks[j]? = some k → ds[j]? = some e → isk k e = true) ∧ Mv b d H3 H')
      ⟨[], [], upd_same, rfl, .nil, fun _ h => (nomatch h), fun j k e _ h => by simp at h, (Mv.refl m3.2).new hD⟩ (fun i H' _ ⟨_, _, _, _, _, _, _, m⟩ => m.kt m3.2 _ _ (ex_t e3 hys)) (fun i y H5 hy hP => ⟨rfl, ?_⟩) (fun H5 hP => ?_)
    · obtain ⟨vs, ds, hDv, hl, hvs, hds, hik, m5⟩ := hP
      have hi : i < ks.length := by have := (List.getElem?_eq_some_iff.mp hy).1; omega
      have hyd : (dataAll ks)[i]? = some (ks.getD i .int).data := by rw [dataAll_map, List.getElem?_map, getD_at (a0 := Kd.int) hi]; rfl
      refine ⟨_, rfl, _, rfl, b, d, y, ks.getD i .int, rfl, m5.2, ((hyi i y _ hy hyd).keep (Kt.same e3)).keep (m5.kt m3.2), hks.2 _ (List.mem_of_getElem? (getD_at hi)), by omega, fun v e H6 m6 hv he hke => ⟨vs, m6.1 _ _ nDb hDv, ?_, vs ++ [v], ds ++ [e], upd_same, by rw [List.length_append, hl]; rfl, ?_, ?_, ?_, (m5.trans m6).mut m3.2 hD⟩⟩
      · exact small1000 (by omega)
      · exact ((hvs.keep (m6.kt m5.2)).snoc hv).keep (Kt.lst (m6.1 _ _ nDb hDv))
      · intro e' he'
        rcases List.mem_append.mp he' with h | h
        · exact hds e' h
        · cases List.mem_singleton.mp h
          exact he
      · intro j k e' hk' he'
        have hdl : ds.length = i := by have := hvs.1; omega
        by_cases hj : j < i
        · rw [List.getElem?_append_left (by omega)] at he'
          exact hik j k e' hk' he'
        · rw [List.getElem?_append_right (by omega)] at he'
          have hj0 : j - ds.length = 0 := by
            have := (List.getElem?_eq_some_iff.mp he').1
            simp at this
            omega
          rw [hj0] at he'
          cases he'
          have hji : j = i := by omega
          subst hji
          rw [getD_at (a0 := Kd.int) hi] at hk'
          cases hk'
          exact hke
    · obtain ⟨vs, ds, hDv, hl, hvs, hds, hik, m5⟩ := hP
      refine ⟨D, vs, rfl, .inl ⟨.of hDv, fun l hl' => ?_⟩⟩
      have e5 := same_new (o := .tup vs) hl'
      refine q _ (.tuple ds) _ ((m3.trans m5).ext e5) ((hvs.keep (Kt.same e5)).tup (.of upd_same)) (.tup (by have h := hvs.1; omega) hds) ?_
      show isk (.tup ks) (.tuple ds) = true
      rw [isk]
      exact iskAll_of (by have h := hvs.1; omega) hik
  | lst kj =>
    refine q_when (b := false) (et_is (et_test (ev_op (ev_var rfl) ev_c (rv_eqD hu (.str "int") sk shaped_int))) (by rw [Kd.data]; rfl)) (fun h => Bool.noConfusion h) (fun _ H1 e1 => ?_)
    have hu1 := hu.keep (Kt.same e1)
    refine q_when (b := false) (et_is (et_test (ev_op (ev_var rfl) ev_c (rv_eqD hu1 (.str "word") sk shaped_word))) (by rw [Kd.data]; rfl)) (fun h => Bool.noConfusion h) (fun _ H2 e2 => ?_)
    have m2 := Mv.same hB (e1.trans e2)
    have hu2 := hu1.keep (Kt.same e2)
    rw [Kd.data] at hu2
    obtain ⟨a, y0, y1, rfl, ha, h0, h1⟩ := hu2.g2
    cases h0.str_inv
    refine q_when (b := false) (et_is (et_test (ev_op (ev_ixT (j := 0) (ev_var rfl) ev_c ha rfl) ev_c (rv_eq rfl))) (by decide +kernel)) (fun h => Bool.noConfusion h) (fun _ H3 e3 => ?_)
    have m3 := m2.ext e3
    have hkj : OkK N kj := by cases hk with | lst h => exact h
    refine ⟨_, rfl, b, d, 4, rfl, m3.2, by decide, fun x H4 x0 x1 m4 => ⟨x, rfl, by omega, by omega, fun D hD => ?_⟩⟩
    have m34 := m3.trans m4
    have nDb : D ≠ b := (m34.2.neb hD).1
    have ha4 : SqT K H4 a [.str "list", y1] := m4.kt m3.2 _ _ (ex_t e3 ha)
    refine lc_range (lo := 0) (n := x.toNat) (fun i H' => ∃ (vs : List V) (ds : List PyData), H' D = some (.lst vs) ∧ vs.length = i ∧ Vds K H' vs ds ∧ (∀ e ∈ ds, Dk N e ∧ isk kj e = true) ∧ Mv b d H4 H')
      ⟨[], [], upd_same, rfl, .nil, fun _ h => (nomatch h), (Mv.refl m34.2).new hD⟩ (fun i H5 hi hP => ⟨rfl, ?_⟩) (fun H5 hP => ?_)
    · obtain ⟨vs, ds, hDv, hl, hvs, hds, m5⟩ := hP
      refine ⟨_, rfl, _, rfl, a, _, 1, _, rfl, rfl, m5.kt m34.2 _ _ ha4, rfl, b, d, _, kj, rfl, m5.2, ((h1.keep (Kt.same e3)).keep (m4.kt m3.2)).keep (m5.kt m34.2), hkj, by omega, fun v e H6 m6 hv he hke => ⟨vs, m6.1 _ _ nDb hDv, ?_, vs ++ [v], ds ++ [e], upd_same, by rw [List.length_append, hl]; rfl, ?_, ?_, (m5.trans m6).mut m34.2 hD⟩⟩
      · exact small1000 (by omega)
      · exact ((hvs.keep (m6.kt m5.2)).snoc hv).keep (Kt.lst (m6.1 _ _ nDb hDv))
      · intro e' he'
        rcases List.mem_append.mp he' with h | h
        · exact hds e' h
        · cases List.mem_singleton.mp h
          exact ⟨he, hke⟩
    · obtain ⟨vs, ds, hDv, hl, hvs, hds, m5⟩ := hP
      refine ⟨D, vs, rfl, .inl ⟨.of hDv, fun l hl' => ?_⟩⟩
      have e5 := same_new (o := .tup vs) hl'
      refine q _ (.tuple ds) _ ((m34.trans m5).ext e5) ((hvs.keep (Kt.same e5)).tup (.of upd_same)) (.tup (by have h := hvs.1; omega) fun e he => (hds e he).1) ?_
      show isk (.lst kj) (.tuple ds) = true
      rw [isk]
      exact List.all_eq_true.mpr fun e he => (hds e he).2
end
end K3
namespace K3
open PySem PySem.Spec PyProof.Rows L2 Evl Cr CrT
abbrev s_law : Stmt := topS 14
abbrev N_law : List Str := ["script", "k", "box", "turn", "kind", "limit", "j", "value", "told"]
theorem sc_law : FnScope N_law ["script"] (defScope s_law) := ⟨rfl, rfl, rfl, by decide +kernel, rfl, by decide +kernel, by decide +kernel⟩
section
variable {P : Program} {w : World} {K : PySem.W.Frag} {mg : Str → Option Value} {base : Heap}
theorem ok_law {f : Addr} {fd : FuncData} (T : Tx mg) (F : Fun K "law" "law" s_law f fd) (c_holds : Cl P w K mg base "holds" ["condition", "value"] 6 (spHolds K 5)) (c__law_holds : Cl P w K mg base "_law_holds" ["limit", "value"] 6 (spHolds K 5)) (c__law_fits : Cl P w K mg base "_law_fits" ["limit", "kind"] 6 (spFits K 5))
    (c__law_box : Cl P w K mg base "_law_box" ["script", "k"] 3 (spBox K)) (c__law_kind : Cl P w K mg base "_law_kind" ["box", "depth"] 4 (spLKind2 K 3)) (c__law_limit : Cl P w K mg base "_law_limit" ["box", "kind", "depth"] 6 (spLLimit K 5)) (c__law_value : Cl P w K mg base "_law_value" ["box", "kind"] 4 (spLVal K 3)) : FnOk P w K mg base CX0 7 f fd ["script"] (spLaw K) := by
  refine F.ok sc_law (fun vs H Q E h => ?_) (fun cdv A outer s H vs Q E hr h => ?_)
  · obtain ⟨a, ns, rfl, _⟩ := h
    rfl
  obtain ⟨a, ns, rfl, ha, h63, q⟩ := h
  refine ⟨_, (pss_cons (ps_for PassesOwn.never rfl (pi_range1 (by rfl) T.z_range (pa_cons (pe_callB (call_min2 rfl) (by rfl) T.z_min (by decide +kernel) (pa_cons pe_int (pa_cons (pe_callB (call_max2 rfl) (by rfl) T.z_max (by decide +kernel) (pa_cons pe_int (pa_cons (pe_op op_fdiv (pe_callB call_len_seq (by rfl) T.z_len PySem.boot_len (pa_cons (pv 0) pa_nil)) pe_int) pa_nil))) pa_nil))) pa_nil)) (pg_name (i := 1) sc_law.nd rfl (Or.inl rfl)) (pss_cons (ps_set (i := 2) sc_law.nd rfl (Or.inl rfl) (pe_call c__law_box.ok (hr.mono (by omega)) (by rfl) c__law_box.m c__law_box.kp c__law_box.b .nil pass0 (pa_cons (pv 0) (pa_cons (pe_op op_mul pe_int (pv 1)) pa_nil))))
        (pss_one (ps_for PassesOwn.never rfl (pi_range1 (by rfl) T.z_range (pa_cons pe_int pa_nil)) (pg_name (i := 3) sc_law.nd rfl (Or.inl rfl)) (pss_cons (ps_set (i := 4) sc_law.nd rfl (Or.inl rfl) (pe_call c__law_kind.ok (hr.mono (by omega)) (by rfl) c__law_kind.m c__law_kind.kp c__law_kind.b .nil pass0 (pa_cons (pv 2) (pa_cons pe_int pa_nil))))
          (pss_cons (ps_set (i := 5) sc_law.nd rfl (Or.inl rfl) (pe_call c__law_limit.ok (hr.mono (by omega)) (by rfl) c__law_limit.m c__law_limit.kp c__law_limit.b .nil pass0 (pa_cons (pv 2) (pa_cons (pv 4) (pa_cons pe_int pa_nil)))))
          (pss_one (ps_if (pt_val (pe_call c__law_fits.ok (hr.mono (by omega)) (by rfl) c__law_fits.m c__law_fits.kp c__law_fits.b .nil pass0 (pa_cons (pv 5) (pa_cons (pv 4) pa_nil)))) (pss_one (ps_for PassesOwn.never rfl (pi_range1 (by rfl) T.z_range (pa_cons pe_int pa_nil)) (pg_name (i := 6) sc_law.nd rfl (Or.inl rfl)) (pss_cons (ps_set (i := 7) sc_law.nd rfl (Or.inl rfl) (pe_call c__law_value.ok (hr.mono (by omega)) (by rfl) c__law_value.m c__law_value.kp c__law_value.b .nil pass0 (pa_cons (pv 2) (pa_cons (pv 4) pa_nil))))
              (pss_cons (ps_set (i := 8) sc_law.nd rfl (Or.inl rfl) (pe_call c_holds.ok (hr.mono (by omega)) (by rfl) c_holds.m c_holds.kp c_holds.b .nil pass0 (pa_cons (pv 5) (pa_cons (pv 7) pa_nil))))
              (pss_one (ps_if (PW.pt (pw_or (pt_not (pt_val (pe_callB call_isi (by rfl) T.z_isinstance (by decide +kernel) (pa_cons (pv 8) (pa_cons (pe_bltn (v := .ty "bool") (u := .type "bool") (by rfl) T.z_bool (by decide +kernel) rfl) pa_nil))))) (pw_or1 (pt_cmpR op_ne (pv 8) (pe_call c__law_holds.ok (hr.mono (by omega)) (by rfl) c__law_holds.m c__law_holds.kp c__law_holds.b .nil pass0 (pa_cons (pv 5) (pa_cons (pv 7) pa_nil))) (nomark _))))) (pss_one (ps_ret pe_bl)) pss_nil)))))) pss_nil))))))))
      (pss_one (ps_ret pe_bl))), ?_⟩
  refine ⟨_, rfl, a, _, rfl, .inl ha, _, _, rfl, rfl, ⟨by decide, by decide⟩, _, _, rfl, _, _, rfl, _, rfl, ?_, ?_, for_range (lo := 0) (fun i σ' H' => ∃ z1 z2 z3 z4 z5 z6 z7 z8 : Option V, σ' = [some (.ref a), z1, z2, z3, z4, z5, z6, z7, z8] ∧ SqL K H' a (ns.map V.int)) ⟨_, _, _, _, _, _, _, _, rfl, ha⟩ (fun i σ' H' hi hP => ?_) (fun σ' H' hP => ?_)⟩
  · omega
  · rw [List.length_map]
    omega
  case refine_4 =>
    obtain ⟨z1, z2, z3, z4, z5, z6, z7, z8, rfl, _⟩ := hP
    exact q _
  obtain ⟨z1, z2, z3, z4, z5, z6, z7, z8, rfl, hS⟩ := hP
  -- box = _law_box(script, 2 * k)
  refine ⟨_, rfl, _, rfl, _, _, rfl, rfl, .inl ⟨by decide, by decide⟩, a, ns, 2 * i, (by simp), hS, fun b d H1 e1 hb hB => ?_⟩
  -- for turn in range(3)
  refine s_forR1 (n := 3) (ea_cons ev_c ea_nil) (by decide) (fun t σ' H' => ∃ z1 z3 z4 z5 z6 z7 z8 : Option V, σ' = [some (.ref a), z1, some (.ref b), z3, z4, z5, z6, z7, z8] ∧ Mv b d H1 H') (fun H' e => ⟨_, _, _, _, _, _, _, rfl, (Mv.refl hB).ext e⟩) (fun t σ' H' ht hP => ?_) (fun σ' H' hP => ?_)
  case refine_2 =>
    obtain ⟨z1, z3, z4, z5, z6, z7, z8, rfl, m⟩ := hP
    exact ⟨_, _, _, _, _, _, _, _, rfl, script_stays hS hb e1 m⟩
  obtain ⟨z1, z3, z4, z5, z6, z7, z8, rfl, m1⟩ := hP
  -- kind, limit
  refine ⟨_, rfl, b, d, 2, rfl, m1.2, by omega, fun u kd H2 m2 hu hk hn => ?_⟩
  refine ⟨_, rfl, _, rfl, b, d, u, kd, 2, 3, rfl, m2.2, hu, hk, hn, by omega, by omega, fun v c H3 m3 hv hc => ?_⟩
  have hu3 := hu.keep (m3.kt m2.2)
  have hk10 := hk.mono (show 3 ≤ 10 by decide)
  have m13 := (m1.trans m2).trans m3
  refine s_when (b := fitsC c kd) (et_B (ev_callC (ea_cons (ev_var rfl) (ea_cons (ev_var rfl) ea_nil)) (fits_call hv hc hu3 hk10))) (fun hf H4 e4 => ?_) (fun _ H4 e4 => ?_)
  case refine_2 => exact ⟨_, _, _, _, _, _, _, rfl, m13.ext e4⟩
  have m34 : Mv b d H3 H4 := Mv.same m3.2 e4
  -- for j in range(3)
  refine s_forR1 (n := 3) (ea_cons ev_c ea_nil) (by decide) (fun t σ' H' => ∃ z1 z3 z6 z7 z8 : Option V, σ' = [some (.ref a), z1, some (.ref b), z3, some u, some v, z6, z7, z8] ∧ Mv b d H3 H') (fun H' e => ⟨_, _, _, _, _, rfl, m34.ext e⟩) (fun j σ' H' hj hP => ?_) (fun σ' H' hP => ?_)
  case refine_2 =>
    obtain ⟨z1, z3, z6, z7, z8, rfl, m⟩ := hP
    exact ⟨_, _, _, _, _, _, _, rfl, m13.trans m⟩
  obtain ⟨z1, z3, z6, z7, z8, rfl, m5⟩ := hP
  -- value
  refine ⟨_, rfl, _, rfl, b, d, u, kd, rfl, m5.2, hu3.keep (m5.kt m3.2), hk, by omega, fun x dd H6 m6 hx hd hi => ?_⟩
  have m36 := m5.trans m6
  have hv6 := hv.keep (m36.kt m3.2)
  have hd20 := hd.mono (show 3 ≤ 20 by decide)
  refine q_asg (ev_callC (ea_cons (ev_var rfl) (ea_cons (ev_var rfl) ea_nil)) (holds_call hv6 hc hx hd20 hf hi)) fun H7 e7 => ?_
  refine s_when (b := false) (et_orF (et_not (et_B (ev_isiB (ev_var rfl) ev_c k_bb))) (et_is (et_test (ev_op (ev_var rfl) (ev_callC (ea_cons (ev_var rfl) (ea_cons (ev_var rfl) ea_nil)) (holds_call (hv6.keep (Kt.same e7)) hc (hx.keep (Kt.same e7)) hd20 hf hi)) (rv_ne rfl))) (by rw [decide_eq_true rfl]; rfl))) (fun h => Bool.noConfusion h) (fun _ H8 e8 => ?_)
  exact ⟨_, _, _, _, _, rfl, m36.ext (e7.trans e8)⟩
end
end K3
namespace K3
open PySem PySem.Spec PyProof.Rows L2 Evl Cr CrT
theorem rec_lkind {P : Program} {w : World} {K : PySem.W.Frag} {mg : Str → Option Value} {base : Heap} {f : Addr} {fd : FuncData} (T : Tx mg) (F : Fun K "_law_kind" "_law_kind" s__law_kind f fd) (b : Binds K fd ["box", "depth"] []) (m : mg "_law_kind" = some (.ref f)) (c__law_take : Cl P w K mg base "_law_take" ["box", "many"] 1 spTake) :
    ∀ n : Nat, FnOk P w K mg base CX0 (n + 1) f fd ["box", "depth"] (spLKind2 K n)
  | 0 => no_call fun vs H Q E h => by
    obtain ⟨_, _, _, _, _, h, _⟩ := h
    omega
  | n + 1 => ok__law_kind T F c__law_take ⟨f, fd, rec_lkind T F b m c__law_take n, b, F.kp, m⟩
theorem rec_lfits {P : Program} {w : World} {K : PySem.W.Frag} {mg : Str → Option Value} {base : Heap} {f : Addr} {fd : FuncData} (T : Tx mg) (F : Fun K "_law_fits" "_law_fits" s__law_fits f fd) (b : Binds K fd ["limit", "kind"] []) (m : mg "_law_fits" = some (.ref f)) (c__law_isword : Cl P w K mg base "_law_isword" ["word"] 1 spLWord) :
    ∀ n : Nat, FnOk P w K mg base CX0 (n + 1) f fd ["limit", "kind"] (spFits K n)
  | 0 => no_call spFits_0
  | n + 1 => ok__law_fits T F c__law_isword ⟨f, fd, rec_lfits T F b m c__law_isword n, b, F.kp, m⟩
theorem rec_llimit {P : Program} {w : World} {K : PySem.W.Frag} {mg : Str → Option Value} {base : Heap} {f : Addr} {fd : FuncData} (T : Tx mg) (F : Fun K "_law_limit" "_law_limit" s__law_limit f fd) (b : Binds K fd ["box", "kind", "depth"] []) (m : mg "_law_limit" = some (.ref f)) (c__law_take : Cl P w K mg base "_law_take" ["box", "many"] 1 spTake) :
    ∀ n : Nat, FnOk P w K mg base CX0 (n + 1) f fd ["box", "kind", "depth"] (spLLimit K n)
  | 0 => no_call spLLimit_0
  | n + 1 => ok__law_limit T F c__law_take ⟨f, fd, rec_llimit T F b m c__law_take n, b, F.kp, m⟩
theorem rec_lval {P : Program} {w : World} {K : PySem.W.Frag} {mg : Str → Option Value} {base : Heap} {f : Addr} {fd : FuncData} (T : Tx mg) (F : Fun K "_law_value" "_law_value" s__law_value f fd) (b : Binds K fd ["box", "kind"] []) (m : mg "_law_value" = some (.ref f)) (c__law_take : Cl P w K mg base "_law_take" ["box", "many"] 1 spTake) :
    ∀ n : Nat, FnOk P w K mg base CX0 (n + 1) f fd ["box", "kind"] (spLVal K n)
  | 0 => no_call spLVal_0
  | n + 1 => ok__law_value T F c__law_take ⟨f, fd, rec_lval T F b m c__law_take n, b, F.kp, m⟩
theorem rec_holds {P : Program} {w : World} {K : PySem.W.Frag} {mg : Str → Option Value} {base : Heap} {f : Addr} {fd : FuncData} (T : Tx mg) (F : Fun K "holds" "holds" s_holds f fd) (b : Binds K fd ["condition", "value"] []) (m : mg "holds" = some (.ref f)) (c__are_different : Cl P w K mg base "_are_different" ["values"] 1 (spDiff K)) :
    ∀ n : Nat, FnOk P w K mg base CX0 (n + 1) f fd ["condition", "value"] (spHolds K n)
  | 0 => no_call spHolds_0
  | n + 1 => ok_holds T F c__are_different ⟨f, fd, rec_holds T F b m c__are_different n, b, F.kp, m⟩
theorem rec_lholds {P : Program} {w : World} {K : PySem.W.Frag} {mg : Str → Option Value} {base : Heap} {f : Addr} {fd : FuncData} (T : Tx mg) (F : Fun K "_law_holds" "_law_holds" s__law_holds f fd) (b : Binds K fd ["limit", "value"] []) (m : mg "_law_holds" = some (.ref f)) :
    ∀ n : Nat, FnOk P w K mg base CX0 (n + 1) f fd ["limit", "value"] (spHolds K n)
  | 0 => no_call spHolds_0
  | n + 1 => ok__law_holds T F ⟨f, fd, rec_lholds T F b m n, b, F.kp, m⟩
theorem all_mk {l : PySem.W.OpenLaw} {w : World} {K : PySem.W.Frag} {h : Heap} {mg : Str → Option Value} {fa : Addr} (X : K.In h) (G : h.Ns mainGlobals mg) (hfa : mg "law" = some (.ref fa))
    {f1 : Addr} {od1 an1 : Option Addr} {sl1 : Array (Option Value)} {oc1 kV1 dc1 pm1 cd1 ct1 : Value}
    {f2 : Addr} {od2 an2 : Option Addr} {sl2 : Array (Option Value)} {oc2 kV2 dc2 pm2 cd2 ct2 : Value}
    {f3 : Addr} {od3 an3 : Option Addr} {sl3 : Array (Option Value)} {oc3 kV3 dc3 pm3 cd3 ct3 : Value}
    {f4 : Addr} {od4 an4 : Option Addr} {sl4 : Array (Option Value)} {oc4 kV4 dc4 pm4 cd4 ct4 : Value}
    {f5 : Addr} {od5 an5 : Option Addr} {sl5 : Array (Option Value)} {oc5 kV5 dc5 pm5 cd5 ct5 : Value}
    {f6 : Addr} {od6 an6 : Option Addr} {sl6 : Array (Option Value)} {oc6 kV6 dc6 pm6 cd6 ct6 : Value}
    {f7 : Addr} {od7 an7 : Option Addr} {sl7 : Array (Option Value)} {oc7 kV7 dc7 pm7 cd7 ct7 : Value}
    {f8 : Addr} {od8 an8 : Option Addr} {sl8 : Array (Option Value)} {oc8 kV8 dc8 pm8 cd8 ct8 : Value}
    {f9 : Addr} {od9 an9 : Option Addr} {sl9 : Array (Option Value)} {oc9 kV9 dc9 pm9 cd9 ct9 : Value}
    {f10 : Addr} {od10 an10 : Option Addr} {sl10 : Array (Option Value)} {oc10 kV10 dc10 pm10 cd10 ct10 : Value}
    {f11 : Addr} {od11 an11 : Option Addr} {sl11 : Array (Option Value)} {oc11 kV11 dc11 pm11 cd11 ct11 : Value}
    {f12 : Addr} {od12 an12 : Option Addr} {sl12 : Array (Option Value)} {oc12 kV12 dc12 pm12 cd12 ct12 : Value}
    {f13 : Addr} {od13 an13 : Option Addr} {sl13 : Array (Option Value)} {oc13 kV13 dc13 pm13 cd13 ct13 : Value}
    (a1 : PySem.W.nsIn K mainGlobals "holds" = some (some (.ref f1))) (l1 : K.lookup f1 = some ⟨oc1, od1, .func (PySem.W.fnOf "holds" "holds" (defArgs s_holds) (defBody s_holds) (defScope s_holds) .none kV1 dc1 pm1 an1 cd1 ct1), sl1⟩) (c1 : PySem.W.codeIn K cd1 "holds" = true) (k1 : PySem.W.keepIn K (.ref f1) = true)
    (a2 : PySem.W.nsIn K mainGlobals "_are_different" = some (some (.ref f2))) (l2 : K.lookup f2 = some ⟨oc2, od2, .func (PySem.W.fnOf "_are_different" "_are_different" (defArgs s__are_different) (defBody s__are_different) (defScope s__are_different) .none kV2 dc2 pm2 an2 cd2 ct2), sl2⟩) (c2 : PySem.W.codeIn K cd2 "_are_different" = true) (k2 : PySem.W.keepIn K (.ref f2) = true)
    (a3 : PySem.W.nsIn K mainGlobals "_law_cell" = some (some (.ref f3))) (l3 : K.lookup f3 = some ⟨oc3, od3, .func (PySem.W.fnOf "_law_cell" "_law_cell" (defArgs s__law_cell) (defBody s__law_cell) (defScope s__law_cell) .none kV3 dc3 pm3 an3 cd3 ct3), sl3⟩) (c3 : PySem.W.codeIn K cd3 "_law_cell" = true) (k3 : PySem.W.keepIn K (.ref f3) = true)
    (a4 : PySem.W.nsIn K mainGlobals "_law_draw" = some (some (.ref f4))) (l4 : K.lookup f4 = some ⟨oc4, od4, .func (PySem.W.fnOf "_law_draw" "_law_draw" (defArgs s__law_draw) (defBody s__law_draw) (defScope s__law_draw) .none kV4 dc4 pm4 an4 cd4 ct4), sl4⟩) (c4 : PySem.W.codeIn K cd4 "_law_draw" = true) (k4 : PySem.W.keepIn K (.ref f4) = true)
    (a5 : PySem.W.nsIn K mainGlobals "_law_box" = some (some (.ref f5))) (l5 : K.lookup f5 = some ⟨oc5, od5, .func (PySem.W.fnOf "_law_box" "_law_box" (defArgs s__law_box) (defBody s__law_box) (defScope s__law_box) .none kV5 dc5 pm5 an5 cd5 ct5), sl5⟩) (c5 : PySem.W.codeIn K cd5 "_law_box" = true) (k5 : PySem.W.keepIn K (.ref f5) = true)
    (a6 : PySem.W.nsIn K mainGlobals "_law_take" = some (some (.ref f6))) (l6 : K.lookup f6 = some ⟨oc6, od6, .func (PySem.W.fnOf "_law_take" "_law_take" (defArgs s__law_take) (defBody s__law_take) (defScope s__law_take) .none kV6 dc6 pm6 an6 cd6 ct6), sl6⟩) (c6 : PySem.W.codeIn K cd6 "_law_take" = true) (k6 : PySem.W.keepIn K (.ref f6) = true)
    (a7 : PySem.W.nsIn K mainGlobals "_law_kind" = some (some (.ref f7))) (l7 : K.lookup f7 = some ⟨oc7, od7, .func (PySem.W.fnOf "_law_kind" "_law_kind" (defArgs s__law_kind) (defBody s__law_kind) (defScope s__law_kind) .none kV7 dc7 pm7 an7 cd7 ct7), sl7⟩) (c7 : PySem.W.codeIn K cd7 "_law_kind" = true) (k7 : PySem.W.keepIn K (.ref f7) = true)
    (a8 : PySem.W.nsIn K mainGlobals "_law_limit" = some (some (.ref f8))) (l8 : K.lookup f8 = some ⟨oc8, od8, .func (PySem.W.fnOf "_law_limit" "_law_limit" (defArgs s__law_limit) (defBody s__law_limit) (defScope s__law_limit) .none kV8 dc8 pm8 an8 cd8 ct8), sl8⟩) (c8 : PySem.W.codeIn K cd8 "_law_limit" = true) (k8 : PySem.W.keepIn K (.ref f8) = true)
    (a9 : PySem.W.nsIn K mainGlobals "_law_holds" = some (some (.ref f9))) (l9 : K.lookup f9 = some ⟨oc9, od9, .func (PySem.W.fnOf "_law_holds" "_law_holds" (defArgs s__law_holds) (defBody s__law_holds) (defScope s__law_holds) .none kV9 dc9 pm9 an9 cd9 ct9), sl9⟩) (c9 : PySem.W.codeIn K cd9 "_law_holds" = true) (k9 : PySem.W.keepIn K (.ref f9) = true)
    (a10 : PySem.W.nsIn K mainGlobals "_law_isword" = some (some (.ref f10))) (l10 : K.lookup f10 = some ⟨oc10, od10, .func (PySem.W.fnOf "_law_isword" "_law_isword" (defArgs s__law_isword) (defBody s__law_isword) (defScope s__law_isword) .none kV10 dc10 pm10 an10 cd10 ct10), sl10⟩) (c10 : PySem.W.codeIn K cd10 "_law_isword" = true) (k10 : PySem.W.keepIn K (.ref f10) = true)
    (a11 : PySem.W.nsIn K mainGlobals "_law_fits" = some (some (.ref f11))) (l11 : K.lookup f11 = some ⟨oc11, od11, .func (PySem.W.fnOf "_law_fits" "_law_fits" (defArgs s__law_fits) (defBody s__law_fits) (defScope s__law_fits) .none kV11 dc11 pm11 an11 cd11 ct11), sl11⟩) (c11 : PySem.W.codeIn K cd11 "_law_fits" = true) (k11 : PySem.W.keepIn K (.ref f11) = true)
    (a12 : PySem.W.nsIn K mainGlobals "_law_value" = some (some (.ref f12))) (l12 : K.lookup f12 = some ⟨oc12, od12, .func (PySem.W.fnOf "_law_value" "_law_value" (defArgs s__law_value) (defBody s__law_value) (defScope s__law_value) .none kV12 dc12 pm12 an12 cd12 ct12), sl12⟩) (c12 : PySem.W.codeIn K cd12 "_law_value" = true) (k12 : PySem.W.keepIn K (.ref f12) = true)
    (a13 : PySem.W.nsIn K mainGlobals "law" = some (some (.ref f13))) (l13 : K.lookup f13 = some ⟨oc13, od13, .func (PySem.W.fnOf "law" "law" (defArgs s_law) (defBody s_law) (defScope s_law) .none kV13 dc13 pm13 an13 cd13 ct13), sl13⟩) (c13 : PySem.W.codeIn K cd13 "law" = true) (k13 : PySem.W.keepIn K (.ref f13) = true)
    (z_len : PySem.W.nsIn K mainGlobals "len" = some none)
    (z_all : PySem.W.nsIn K mainGlobals "all" = some none)
    (z_any : PySem.W.nsIn K mainGlobals "any" = some none)
    (z_isinstance : PySem.W.nsIn K mainGlobals "isinstance" = some none)
    (z_tuple : PySem.W.nsIn K mainGlobals "tuple" = some none)
    (z_list : PySem.W.nsIn K mainGlobals "list" = some none)
    (z_int : PySem.W.nsIn K mainGlobals "int" = some none)
    (z_str : PySem.W.nsIn K mainGlobals "str" = some none)
    (z_bool : PySem.W.nsIn K mainGlobals "bool" = some none)
    (z_range : PySem.W.nsIn K mainGlobals "range" = some none)
    (z_zip : PySem.W.nsIn K mainGlobals "zip" = some none)
    (z_enumerate : PySem.W.nsIn K mainGlobals "enumerate" = some none)
    (z_sum : PySem.W.nsIn K mainGlobals "sum" = some none)
    (z_sorted : PySem.W.nsIn K mainGlobals "sorted" = some none)
    (z_min : PySem.W.nsIn K mainGlobals "min" = some none)
    (z_max : PySem.W.nsIn K mainGlobals "max" = some none) :
    ∃ fd : FuncData, (∀ (s : Shared) (v : Value), BindsTo s fd ⟨[v], []⟩ [("script", v)]) ∧ ∀ base : Heap, K.In base → base.Ns mainGlobals mg → FnOk l.prog w K mg base CX0 7 fa fd ["script"] (spLaw K) := by
  have F_holds := fun_mk (st := s_holds) l1 c1 k1
  have b_holds := F_holds.binds (ps := ["condition", "value"]) fun _ _ _ _ _ _ us hl => match us, hl with | [_, _], _ => rfl
  have m_holds := PySem.W.mg_of X G a1
  have F__are_different := fun_mk (st := s__are_different) l2 c2 k2
  have b__are_different := F__are_different.binds (ps := ["values"]) fun _ _ _ _ _ _ us hl => match us, hl with | [_], _ => rfl
  have m__are_different := PySem.W.mg_of X G a2
  have F__law_cell := fun_mk (st := s__law_cell) l3 c3 k3
  have b__law_cell := F__law_cell.binds (ps := ["script", "k"]) fun _ _ _ _ _ _ us hl => match us, hl with | [_, _], _ => rfl
  have m__law_cell := PySem.W.mg_of X G a3
  have F__law_draw := fun_mk (st := s__law_draw) l4 c4 k4
  have b__law_draw := F__law_draw.binds (ps := ["script", "k", "sizes"]) fun _ _ _ _ _ _ us hl => match us, hl with | [_, _, _], _ => rfl
  have m__law_draw := PySem.W.mg_of X G a4
  have F__law_box := fun_mk (st := s__law_box) l5 c5 k5
  have b__law_box := F__law_box.binds (ps := ["script", "k"]) fun _ _ _ _ _ _ us hl => match us, hl with | [_, _], _ => rfl
  have m__law_box := PySem.W.mg_of X G a5
  have F__law_take := fun_mk (st := s__law_take) l6 c6 k6
  have b__law_take := F__law_take.binds (ps := ["box", "many"]) fun _ _ _ _ _ _ us hl => match us, hl with | [_, _], _ => rfl
  have m__law_take := PySem.W.mg_of X G a6
  have F__law_kind := fun_mk (st := s__law_kind) l7 c7 k7
  have b__law_kind := F__law_kind.binds (ps := ["box", "depth"]) fun _ _ _ _ _ _ us hl => match us, hl with | [_, _], _ => rfl
  have m__law_kind := PySem.W.mg_of X G a7
  have F__law_limit := fun_mk (st := s__law_limit) l8 c8 k8
  have b__law_limit := F__law_limit.binds (ps := ["box", "kind", "depth"]) fun _ _ _ _ _ _ us hl => match us, hl with | [_, _, _], _ => rfl
  have m__law_limit := PySem.W.mg_of X G a8
  have F__law_holds := fun_mk (st := s__law_holds) l9 c9 k9
  have b__law_holds := F__law_holds.binds (ps := ["limit", "value"]) fun _ _ _ _ _ _ us hl => match us, hl with | [_, _], _ => rfl
  have m__law_holds := PySem.W.mg_of X G a9
  have F__law_isword := fun_mk (st := s__law_isword) l10 c10 k10
  have b__law_isword := F__law_isword.binds (ps := ["word"]) fun _ _ _ _ _ _ us hl => match us, hl with | [_], _ => rfl
  have m__law_isword := PySem.W.mg_of X G a10
  have F__law_fits := fun_mk (st := s__law_fits) l11 c11 k11
  have b__law_fits := F__law_fits.binds (ps := ["limit", "kind"]) fun _ _ _ _ _ _ us hl => match us, hl with | [_, _], _ => rfl
  have m__law_fits := PySem.W.mg_of X G a11
  have F__law_value := fun_mk (st := s__law_value) l12 c12 k12
  have b__law_value := F__law_value.binds (ps := ["box", "kind"]) fun _ _ _ _ _ _ us hl => match us, hl with | [_, _], _ => rfl
  have m__law_value := PySem.W.mg_of X G a12
  have F_law := fun_mk (st := s_law) l13 c13 k13
  have b_law := F_law.binds (ps := ["script"]) fun _ _ _ _ _ _ us hl => match us, hl with | [_], _ => rfl
  have m_law := PySem.W.mg_of X G a13
  cases hfa.symm.trans m_law
  have T : Tx mg := { z_len := PySem.W.mg_none_of X G z_len, z_all := PySem.W.mg_none_of X G z_all, z_any := PySem.W.mg_none_of X G z_any, z_isinstance := PySem.W.mg_none_of X G z_isinstance, z_tuple := PySem.W.mg_none_of X G z_tuple, z_list := PySem.W.mg_none_of X G z_list, z_int := PySem.W.mg_none_of X G z_int, z_str := PySem.W.mg_none_of X G z_str, z_bool := PySem.W.mg_none_of X G z_bool, z_range := PySem.W.mg_none_of X G z_range, z_zip := PySem.W.mg_none_of X G z_zip, z_enumerate := PySem.W.mg_none_of X G z_enumerate, z_sum := PySem.W.mg_none_of X G z_sum, z_sorted := PySem.W.mg_none_of X G z_sorted, z_min := PySem.W.mg_none_of X G z_min, z_max := PySem.W.mg_none_of X G z_max }
  refine ⟨PySem.W.fnOf "law" "law" (defArgs s_law) (defBody s_law) (defScope s_law) .none kV13 dc13 pm13 an13 cd13 ct13, fun s v => .of_eq rfl, fun base _ _ => ?_⟩
  exact ok_law T F_law
    ⟨_, _, rec_holds T F_holds b_holds m_holds ⟨_, _, ok__are_different T F__are_different, b__are_different, F__are_different.kp, m__are_different⟩ 5, b_holds, F_holds.kp, m_holds⟩
    ⟨_, _, rec_lholds T F__law_holds b__law_holds m__law_holds 5, b__law_holds, F__law_holds.kp, m__law_holds⟩
    ⟨_, _, rec_lfits T F__law_fits b__law_fits m__law_fits ⟨_, _, ok__law_isword T F__law_isword, b__law_isword, F__law_isword.kp, m__law_isword⟩ 5, b__law_fits, F__law_fits.kp, m__law_fits⟩
    ⟨_, _, ok__law_box T F__law_box ⟨_, _, ok__law_draw T F__law_draw ⟨_, _, ok__law_cell T F__law_cell, b__law_cell, F__law_cell.kp, m__law_cell⟩, b__law_draw, F__law_draw.kp, m__law_draw⟩, b__law_box, F__law_box.kp, m__law_box⟩
    ⟨_, _, rec_lkind T F__law_kind b__law_kind m__law_kind ⟨_, _, ok__law_take T F__law_take, b__law_take, F__law_take.kp, m__law_take⟩ 3, b__law_kind, F__law_kind.kp, m__law_kind⟩
    ⟨_, _, rec_llimit T F__law_limit b__law_limit m__law_limit ⟨_, _, ok__law_take T F__law_take, b__law_take, F__law_take.kp, m__law_take⟩ 5, b__law_limit, F__law_limit.kp, m__law_limit⟩
    ⟨_, _, rec_lval T F__law_value b__law_value m__law_value ⟨_, _, ok__law_take T F__law_take, b__law_take, F__law_take.kp, m__law_take⟩ 3, b__law_value, F__law_value.kp, m__law_value⟩
end K3
open PySem PySem.W PyProof.Rows
set_option maxHeartbeats 0 in
theorem PySem.Challenge.cw_choicerows_k03_conditions_that_hold_holds : PySem.Challenge.rw_choicerows_k03_conditions_that_hold.Holds := by
  w_on; o_law; k_head; (case hw => w_witness2)
  k_fill
  refine L2.walk_of (l := PySem.Challenge.rw_choicerows_k03_conditions_that_hold) (n := 63) (k := 7) (x := "script") (CX := fun _ => L2.CX0) (sp := fun w => Cr.spLaw _) rfl (by decide) rfl ⟨rfl, by decide, by decide⟩ (fun w h Y => PySem.W.kIn_of Y) ?F (fun _ _ a ns hl _ hS => ⟨a, ns, rfl, hS, hl, fun _ => rfl⟩) (fun _ _ _ _ _ h => h)
  case F =>
    intro w mg fa h KX G hmg
    refine' K3.all_mk KX G hmg ?a1 ?l1 ?c1 ?k1 ?a2 ?l2 ?c2 ?k2 ?a3 ?l3 ?c3 ?k3 ?a4 ?l4 ?c4 ?k4 ?a5 ?l5 ?c5 ?k5 ?a6 ?l6 ?c6 ?k6 ?a7 ?l7 ?c7 ?k7 ?a8 ?l8 ?c8 ?k8 ?a9 ?l9 ?c9 ?k9 ?a10 ?l10 ?c10 ?k10 ?a11 ?l11 ?c11 ?k11 ?a12 ?l12 ?c12 ?k12 ?a13 ?l13 ?c13 ?k13 ?z_len ?z_all ?z_any ?z_isinstance ?z_tuple ?z_list ?z_int ?z_str ?z_bool ?z_range ?z_zip ?z_enumerate ?z_sum ?z_sorted ?z_min ?z_max 
    (case a1 => k_is)
    (case l1 => k_is)
    (case c1 => k_is)
    (case k1 => k_is)
    (case a2 => k_is)
    (case l2 => k_is)
    (case c2 => k_is)
    (case k2 => k_is)
    (case a3 => k_is)
    (case l3 => k_is)
    (case c3 => k_is)
    (case k3 => k_is)
    (case a4 => k_is)
    (case l4 => k_is)
    (case c4 => k_is)
    (case k4 => k_is)
    (case a5 => k_is)
    (case l5 => k_is)
    (case c5 => k_is)
    (case k5 => k_is)
    (case a6 => k_is)
    (case l6 => k_is)
    (case c6 => k_is)
    (case k6 => k_is)
    (case a7 => k_is)
    (case l7 => k_is)
    (case c7 => k_is)
    (case k7 => k_is)
    (case a8 => k_is)
    (case l8 => k_is)
    (case c8 => k_is)
    (case k8 => k_is)
    (case a9 => k_is)
    (case l9 => k_is)
    (case c9 => k_is)
    (case k9 => k_is)
    (case a10 => k_is)
    (case l10 => k_is)
    (case c10 => k_is)
    (case k10 => k_is)
    (case a11 => k_is)
    (case l11 => k_is)
    (case c11 => k_is)
    (case k11 => k_is)
    (case a12 => k_is)
    (case l12 => k_is)
    (case c12 => k_is)
    (case k12 => k_is)
    (case a13 => k_is)
    (case l13 => k_is)
    (case c13 => k_is)
    (case k13 => k_is)
    (case z_len => k_is)
    (case z_all => k_is)
    (case z_any => k_is)
    (case z_isinstance => k_is)
    (case z_tuple => k_is)
    (case z_list => k_is)
    (case z_int => k_is)
    (case z_str => k_is)
    (case z_bool => k_is)
    (case z_range => k_is)
    (case z_zip => k_is)
    (case z_enumerate => k_is)
    (case z_sum => k_is)
    (case z_sorted => k_is)
    (case z_min => k_is)
    (case z_max => k_is)
