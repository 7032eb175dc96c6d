import PyProof.Rows.All
import Wide.All
import OpenK.AllK
import Wide.FinOn
import HandS.ForMost
import HandS.IsInst
import HandS.Zip
import HandS.Walk
import HandS.Evl
import HandS.TupAny
import KE.GoesMore
import KE.DataMinMax
import PyProof.P3In
import KE.KRevSl
import HandS.Style
import KE.SortData
import KE.DataCmp
import KE.KSortedM
import HandS.Deep
import HandS.Strs
import HandS.Wide
import HandS.Text
import HandS.FStr
import HandS.Star
import PySem.Challenge.RW_choicerows_k10_outcomes_of_draws
set_option Elab.async false
set_option linter.all false
set_option maxRecDepth 100000
set_option maxHeartbeats 4000000
set_option autoImplicit false
namespace Cr
open PySem PySem.Spec PyProof.Rows L2 Evl

/-! ### data in the heap: ints, texts, tuples -/
/-- tuples that can be read stay so -/
def Kt (K : PySem.W.Frag) (H H' : Hp) : Prop := ∀ a xs, SqT K H a xs → SqT K H' a xs
section
variable {K : PySem.W.Frag} {H H1 H2 H' : Hp}
theorem Kt.refl : Kt K H H := fun _ _ h => h
theorem Kt.trans (a : Kt K H H1) (b : Kt K H1 H2) : Kt K H H2 := fun p xs h => b p xs (a p xs h)
theorem Kt.same (e : Same H H') : Kt K H H' := fun _ _ h => ex_t e h
theorem same_new {p : Addr} {o : HO} (h : H p = none) : Same H (upd H p o) := Ex.new h
theorem same_mut {p : Addr} {o : HO} (e : Same H H') (h : H p = none) : Same H (upd H' p o) := Ex.mut e h
theorem Kt.new {p : Addr} {o : HO} (h : H p = none) : Kt K H (upd H p o) := Kt.same (same_new h)
/-- a list is changed -/
theorem Kt.lst {l : Addr} {xs : List V} {o : HO} (h : H l = some (.lst xs)) : Kt K H (upd H l o) := fun a ys q => by
  rcases q with (q | ⟨ob, q⟩) | q
  · exact .inl (.inl (by rw [upd_ne (ne_of q h (fun z => nomatch z))]; exact q))
  · exact .inl (.inr ⟨ob, by rw [upd_ne (ne_of q h (fun z => nomatch z))]; exact q⟩)
  · exact .inr q
end

inductive Vd (K : PySem.W.Frag) (H : Hp) : V → PyData → Prop
  | int (i : Int) : Vd K H (.int i) (.int i)
  | str (x : Str) : Vd K H (.str x) (.str x)
  | tup {a : Addr} {xs : List V} {ds : List PyData} : SqT K H a xs → xs.length = ds.length → (∀ (i : Nat) v d, xs[i]? = some v → ds[i]? = some d → Vd K H v d) → Vd K H (.ref a) (.tuple ds)
section
variable {K : PySem.W.Frag} {H H' : Hp}
theorem Vd.keep (k : Kt K H H') {v : V} {d : PyData} (h : Vd K H v d) : Vd K H' v d := by
  induction h with
  | int i => exact .int i
  | str x => exact .str x
  | tup hs hl _ ih => exact .tup (k _ _ hs) hl ih
theorem dpAll_of : ∀ {xs : List V} {ds : List PyData}, xs.length = ds.length → (∀ (i : Nat) v d, xs[i]? = some v → ds[i]? = some d → Dp K H v d) → DpAll K H xs ds
  | [], [], _, _ => .nil
  | [], _ :: _, h, _ => by simp at h
  | _ :: _, [], h, _ => by simp at h
  | x :: xs, d :: ds, h, q => .cons (q 0 x d rfl rfl) (dpAll_of (by simpa using h) fun i v e h1 h2 => q (i + 1) v e (by simpa using h1) (by simpa using h2))
theorem Vd.dp {v : V} {d : PyData} (h : Vd K H v d) : Dp K H v d := by
  induction h with
  | int i => exact .int i
  | str x => exact .str x
  | tup hs hl _ ih => exact .tup hs (dpAll_of hl ih)
theorem Vd.get {a : Addr} {ds : List PyData} (h : Vd K H (.ref a) (.tuple ds)) : ∃ xs, SqT K H a xs ∧ xs.length = ds.length ∧ ∀ (i : Nat) v d, xs[i]? = some v → ds[i]? = some d → Vd K H v d := by
  cases h with
  | tup hs hl q => exact ⟨_, hs, hl, q⟩
theorem Vd.ref {v : V} {ds : List PyData} (h : Vd K H v (.tuple ds)) : ∃ a, v = .ref a := by
  cases h with
  | tup hs hl q => exact ⟨_, rfl⟩
theorem Vd.int_inv {v : V} {i : Int} (h : Vd K H v (.int i)) : v = .int i := by cases h; rfl
theorem Vd.str_inv {v : V} {x : Str} (h : Vd K H v (.str x)) : v = .str x := by cases h; rfl
/-- a tuple of one, of two -/
theorem Vd.t0 {p : Addr} (h : SqT K H p []) : Vd K H (.ref p) (.tuple []) := .tup h rfl fun i v d h1 _ => by simp at h1
theorem Vd.t1 {p : Addr} {x : V} {d : PyData} (h : SqT K H p [x]) (hx : Vd K H x d) : Vd K H (.ref p) (.tuple [d]) := .tup h rfl fun i v e h1 h2 => by
  match i with
  | 0 => cases h1; cases h2; exact hx
  | i + 1 => simp at h1
theorem Vd.t2 {p : Addr} {x y : V} {d e : PyData} (h : SqT K H p [x, y]) (hx : Vd K H x d) (hy : Vd K H y e) : Vd K H (.ref p) (.tuple [d, e]) := .tup h rfl fun i v e h1 h2 => by
  match i with
  | 0 => cases h1; cases h2; exact hx
  | 1 => cases h1; cases h2; exact hy
  | i + 2 => simp at h1
theorem Vd.t3 {p : Addr} {x y z : V} {d e f : PyData} (h : SqT K H p [x, y, z]) (hx : Vd K H x d) (hy : Vd K H y e) (hz : Vd K H z f) : Vd K H (.ref p) (.tuple [d, e, f]) := .tup h rfl fun i v e h1 h2 => by
  match i with
  | 0 => cases h1; cases h2; exact hx
  | 1 => cases h1; cases h2; exact hy
  | 2 => cases h1; cases h2; exact hz
  | i + 3 => simp at h1
theorem Vd.g1 {v : V} {d : PyData} (h : Vd K H v (.tuple [d])) : ∃ a x, v = .ref a ∧ SqT K H a [x] ∧ Vd K H x d := by
  obtain ⟨a, rfl⟩ := h.ref
  obtain ⟨xs, hs, hl, q⟩ := h.get
  match xs, hl with
  | [x], _ => exact ⟨a, x, rfl, hs, q 0 x d rfl rfl⟩
theorem Vd.g2 {v : V} {d e : PyData} (h : Vd K H v (.tuple [d, e])) : ∃ a x y, v = .ref a ∧ SqT K H a [x, y] ∧ Vd K H x d ∧ Vd K H y e := by
  obtain ⟨a, rfl⟩ := h.ref
  obtain ⟨xs, hs, hl, q⟩ := h.get
  match xs, hl with
  | [x, y], _ => exact ⟨a, x, y, rfl, hs, q 0 x d rfl rfl, q 1 y e rfl rfl⟩
theorem Vd.g3 {v : V} {d e f : PyData} (h : Vd K H v (.tuple [d, e, f])) : ∃ a x y z, v = .ref a ∧ SqT K H a [x, y, z] ∧ Vd K H x d ∧ Vd K H y e ∧ Vd K H z f := by
  obtain ⟨a, rfl⟩ := h.ref
  obtain ⟨xs, hs, hl, q⟩ := h.get
  match xs, hl with
  | [x, y, z], _ => exact ⟨a, x, y, z, rfl, hs, q 0 x d rfl rfl, q 1 y e rfl rfl, q 2 z f rfl rfl⟩
/-- the value's type, for isinstance -/
def tyN : PyData → String
  | .int _ => "int"
  | .str _ => "str"
  | _ => "tuple"
theorem Vd.ty {v : V} {d : PyData} (h : Vd K H v d) : TyX K H v (.type (tyN d)) := by
  cases h with
  | int i => exact .base (.int i)
  | str x => exact .base (.str x)
  | tup hs hl q =>
    rcases hs with (hs | ⟨o, hs⟩) | ⟨o, its, n, hk, hc, _⟩
    · exact .base (.tup hs)
    · exact .fTuple hs
    · exact .kTuple hk hc
end
/-! ### how deep and how long -/
inductive Dk : Nat → PyData → Prop
  | int {n : Nat} (i : Int) : Dk n (.int i)
  | str {n : Nat} {x : Str} : SeqAt.shaped (.str x) = true → x.length ≤ 1000 → Dk n (.str x)
  | tup {n : Nat} {ds : List PyData} : ds.length ≤ 60 → (∀ d ∈ ds, Dk n d) → Dk (n + 1) (.tuple ds)
theorem lay_all : ∀ {ds : List PyData}, (∀ d ∈ ds, d.canLay0 = true) → PyData.canLayAll0 ds = true
  | [], _ => rfl
  | d :: ds, h => by
    unfold PyData.canLayAll0
    rw [h d List.mem_cons_self, lay_all fun e he => h e (List.mem_cons_of_mem _ he)]
    rfl
theorem depth_all {n : Nat} : ∀ {ds : List PyData}, (∀ d ∈ ds, d.depth ≤ n) → PyData.depthAll ds ≤ n
  | [], _ => Nat.zero_le _
  | d :: ds, h => by
    unfold PyData.depthAll
    exact Nat.max_le.mpr ⟨h d List.mem_cons_self, depth_all fun e he => h e (List.mem_cons_of_mem _ he)⟩
theorem Dk.lay {n : Nat} {d : PyData} (h : Dk n d) : d.canLay0 = true ∧ d.depth ≤ n := by
  induction h with
  | int i => exact ⟨rfl, Nat.zero_le _⟩
  | str hs _ => exact ⟨SeqAt.canLay_of_shaped hs, Nat.zero_le _⟩
  | tup _ _ ih => exact ⟨lay_all fun d hd => (ih d hd).1, Nat.succ_le_succ (depth_all fun d hd => (ih d hd).2)⟩
theorem Dk.shaped {n : Nat} {d : PyData} (h : Dk n d) (hn : n ≤ 64) : SeqAt.shaped d = true := by
  unfold SeqAt.shaped
  rw [h.lay.1, decide_eq_true (Nat.le_trans h.lay.2 hn)]
  rfl
theorem Dk.mono {n m : Nat} {d : PyData} (h : Dk n d) (hm : n ≤ m) : Dk m d := by
  induction h generalizing m with
  | int i => exact .int i
  | str hs hl => exact .str hs hl
  | tup hl _ ih =>
    obtain ⟨m', rfl⟩ : ∃ m', m = m' + 1 := ⟨m - 1, by omega⟩
    exact .tup hl fun d hd => ih d hd (by omega)
/-! ### words -/
def isWord (s : Str) : Bool := (decide ((1 : Int) ≤ (s.length : Int)) && decide ((s.length : Int) ≤ 8)) && s.cps.toList.all fun c => decide (97 ≤ c) && decide (c ≤ 122)
theorem lt_sign (a b : Nat) : decide ([a] < [b]) = decide (a < b) := by
  rw [Bool.eq_iff_iff, decide_eq_true_iff, decide_eq_true_iff, List.cons_lt_cons_iff]
  constructor
  · rintro (h | ⟨_, h⟩)
    · exact h
    · exact absurd h (List.not_lt_nil _)
  · exact fun h => .inl h
/-! ### kinds -/
inductive Kd where
  | int | word | lst (k : Kd) | tup (ks : List Kd)
mutual
def Kd.data : Kd → PyData
  | .int => .str "int"
  | .word => .str "word"
  | .lst k => .tuple [.str "list", k.data]
  | .tup ks => .tuple [.str "tuple", .tuple (dataAll ks)]
def dataAll : List Kd → List PyData
  | [] => []
  | k :: ks => k.data :: dataAll ks
end
theorem dataAll_map : ∀ ks : List Kd, dataAll ks = ks.map Kd.data
  | [] => by rw [dataAll]; rfl
  | k :: ks => by rw [dataAll, dataAll_map ks]; rfl
mutual
def isk : Kd → PyData → Bool
  | .int, d => match d with | .int _ => true | _ => false
  | .word, d => match d with | .str s => isWord s | _ => false
  | .lst k, d => match d with | .tuple ds => ds.all (isk k) | _ => false
  | .tup ks, d => match d with | .tuple ds => iskAll ks ds | _ => false
def iskAll : List Kd → List PyData → Bool
  | [], ds => match ds with | [] => true | _ => false
  | k :: ks, ds => match ds with | [] => false | d :: ds => isk k d && iskAll ks ds
end
inductive OkK : Nat → Kd → Prop
  | int {n : Nat} : OkK (n + 1) .int
  | word {n : Nat} : OkK (n + 1) .word
  | lst {n : Nat} {k : Kd} : OkK n k → OkK (n + 1) (.lst k)
  | tup {n : Nat} {ks : List Kd} : ks.length ≤ 60 → (∀ k ∈ ks, OkK n k) → OkK (n + 1) (.tup ks)
theorem dk_str {n : Nat} {x : Str} (h : SeqAt.shaped (.str x) = true := by decide +kernel) (hl : x.length ≤ 1000 := by decide +kernel) : Dk n (.str x) := .str h hl
theorem dk_t2 {n : Nat} {a b : PyData} (ha : Dk n a) (hb : Dk n b) : Dk (n + 1) (.tuple [a, b]) := .tup (show 2 ≤ 60 by decide) fun d hd => by
  rcases List.mem_cons.mp hd with rfl | hd
  · exact ha
  · rcases List.mem_cons.mp hd with rfl | hd
    · exact hb
    · cases hd
theorem OkK.dk {n : Nat} {k : Kd} (h : OkK n k) : Dk (2 * n) k.data := by
  induction h with
  | int => rw [Kd.data]; exact dk_str
  | word => rw [Kd.data]; exact dk_str
  | lst _ ih => rw [Kd.data]; exact (dk_t2 dk_str (ih.mono (Nat.le_succ _)))
  | tup hl _ ih =>
    rw [Kd.data, dataAll_map]
    refine dk_t2 dk_str (.tup (by rw [List.length_map]; exact hl) fun d hd => ?_)
    obtain ⟨k, hk, rfl⟩ := List.mem_map.mp hd
    exact ih k hk
theorem OkK.mono {n m : Nat} {k : Kd} (h : OkK n k) (hm : n ≤ m) : OkK m k := by
  induction h generalizing m with
  | int => obtain ⟨m', rfl⟩ : ∃ m', m = m' + 1 := ⟨m - 1, by omega⟩; exact .int
  | word => obtain ⟨m', rfl⟩ : ∃ m', m = m' + 1 := ⟨m - 1, by omega⟩; exact .word
  | lst _ ih => obtain ⟨m', rfl⟩ : ∃ m', m = m' + 1 := ⟨m - 1, by omega⟩; exact .lst (ih (by omega))
  | tup hl _ ih => obtain ⟨m', rfl⟩ : ∃ m', m = m' + 1 := ⟨m - 1, by omega⟩; exact .tup hl fun k hk => ih k hk (by omega)
/-- the callee: where it stands, its promise -/
structure Cl (P : Program) (w : World) (K : PySem.W.Frag) (mg : Str → Option Value) (base : Heap) (x : Str) (ps : List Str) (k : Nat) (sp : Sp) where
  f : Addr
  fd : FuncData
  ok : FnOk P w K mg base CX0 k f fd ps sp
  b : Binds K fd ps []
  kp : PySem.W.keepIn K (.ref f) = true
  m : mg x = some (.ref f)
theorem no_call {P : Program} {w : World} {K : PySem.W.Frag} {mg : Str → Option Value} {base : Heap} {k : Nat} {f : Addr} {fd : FuncData} {ps : List Str} {sp : Sp} (no : ∀ vs H Q E, ¬ sp vs H Q E) : FnOk P w K mg base CX0 k f fd ps sp :=
  ⟨fun vs H Q E h => absurd h (no vs H Q E), fun A outer s H args us vs Q E _ _ _ _ h => absurd h (no vs H Q E)⟩
/-! ### further rules of evaluation -/
section
variable {K : PySem.W.Frag} {σ : L2.St} {H H' : Hp} {ta tb tc te tx : TE} {t u : TT} {x y z v w : V} {r r' : R2}
theorem ev_chain {k k' : Bool} (ha : Ev ta σ H x) (hb : Ev tb σ H y) (hc : Ev tc σ H w) (hr : RV r x y H (.bl k)) (hr' : RV r' y w H (.bl k')) : Ev (tChain r r' ta tb tc) σ H (.bl (k && k')) := fun H1 e Q q =>
  ha H1 e _ fun H2 e2 => hb H2 (e.trans e2) _ fun H3 e3 => hr H3 ((e.trans e2).trans e3) _ fun H4 e4 => ⟨k, rfl, by
    cases k with
    | true => exact hc H4 (((e.trans e2).trans e3).trans e4) _ fun H5 e5 => hr' H5 ((((e.trans e2).trans e3).trans e4).trans e5) Q fun H6 e6 => q H6 ((((e2.trans e3).trans e4).trans e5).trans e6)
    | false => exact q H4 ((e2.trans e3).trans e4)⟩
theorem ev_one {v : V} (h : Ev ta σ H v) : Ev ta σ H v := h
theorem et_yes : EvT tYes σ H true := fun H1 _ _ q => q H1 (Ex.refl H1)
theorem ev_all {bs : List Bool} (h : EvL te σ H (bs.map V.bl)) : Ev (tCB (rAll K) (tCons te tNil)) σ H (.bl (bs.all id)) := fun H1 e Q q =>
  h H1 e _ fun p H2 _ e2 hp => ⟨p, bs, rfl, sq_of hp, q H2 e2⟩
theorem ev_any {bs : List Bool} (h : EvL te σ H (bs.map V.bl)) : Ev (tCB (rAny K) (tCons te tNil)) σ H (.bl (bs.any id)) := fun H1 e Q q =>
  h H1 e _ fun p H2 _ e2 hp => ⟨p, bs, rfl, sq_of hp, q H2 e2⟩
/-- isinstance of data and a built-in class -/
theorem ev_isi {d : PyData} {n : String} {b : Bool} (ha : Ev ta σ H v) (hb : Ev tb σ H (.ty n)) (h : Vd K H v d) (hk : kitB (tyN d) n = some b) : Ev (tCB (rIsi K) (tCons ta (tCons tb tNil))) σ H (.bl b) := fun H1 e Q q =>
  ha H1 e _ fun H2 e2 => hb H2 (e.trans e2) _ fun H3 e3 => ⟨v, .ty n, _, _, b, rfl, .ty n, (h.keep (Kt.same ((e.trans e2).trans e3))).ty, kit_ty hk, q H3 (e2.trans e3)⟩
theorem ev_isiB {c : Bool} {n : String} {b : Bool} (ha : Ev ta σ H (.bl c)) (hb : Ev tb σ H (.ty n)) (hk : kitB "bool" n = some b) : Ev (tCB (rIsi K) (tCons ta (tCons tb tNil))) σ H (.bl b) := fun H1 e Q q =>
  ha H1 e _ fun H2 e2 => hb H2 (e.trans e2) _ fun H3 e3 => ⟨.bl c, .ty n, _, _, b, rfl, .ty n, .base (.bl c), kit_ty hk, q H3 (e2.trans e3)⟩
theorem rv_eqD {d e : PyData} (hx : Vd K H x d) (hy : Vd K H y e) (sd : SeqAt.shaped d = true) (se : SeqAt.shaped e = true) : RV (rEqD K) x y H (.bl (PyData.eqv d e)) := fun H1 e1 _ q =>
  ⟨d, e, (hx.keep (Kt.same e1)).dp, (hy.keep (Kt.same e1)).dp, sd, se, q H1 (Ex.refl H1)⟩
theorem rv_neD {d e : PyData} (hx : Vd K H x d) (hy : Vd K H y e) (sd : SeqAt.shaped d = true) (se : SeqAt.shaped e = true) : RV (rNeD K) x y H (.bl (!PyData.eqv d e)) := fun H1 e1 _ q =>
  ⟨d, e, (hx.keep (Kt.same e1)).dp, (hy.keep (Kt.same e1)).dp, sd, se, q H1 (Ex.refl H1)⟩
theorem rv_leS {i j : Str} : RV (fun x y H Q => ∃ i j, x = .str i ∧ y = .str j ∧ Q (.bl (!decide (j.cps.toList < i.cps.toList))) H) (.str i) (.str j) H (.bl (!decide (j.cps.toList < i.cps.toList))) := fun H1 _ _ q => ⟨i, j, rfl, rfl, q H1 (Ex.refl H1)⟩
theorem rv_notN : RV (fun x y H Q => y = .non ∧ Q (.bl (!decide (x = .non))) H) x .non H (.bl (!decide (x = .non))) := fun H1 _ _ q => ⟨rfl, q H1 (Ex.refl H1)⟩
theorem ev_lenS {s : Str} (hs : s.length ≤ 1000) (ha : Ev ta σ H (.str s)) : Ev (tCB (fun xs H Q => ∃ z, xs = [.str z] ∧ z.length ≤ sizeLine ∧ Q (.int z.length) H) (tCons ta tNil)) σ H (.int s.length) := fun H1 e Q q =>
  ha H1 e _ fun H2 e2 => ⟨s, rfl, Nat.le_of_lt (small1000 hs), q H2 e2⟩
theorem ev_lenT {p : Addr} {xs : List V} (ha : Ev ta σ H (.ref p)) (h : SqT K H p xs) : Ev (tCB (fun xs H Q => ∃ p ys, xs = [.ref p] ∧ (SqL K H p ys ∨ SqT K H p ys) ∧ Q (.int ys.length) H) (tCons ta tNil)) σ H (.int (xs.length : Int)) := fun H1 e Q q =>
  ha H1 e _ fun H2 e2 => ⟨p, xs, rfl, .inr (ex_t (e.trans e2) h), q H2 e2⟩
theorem ev_lenL {p : Addr} {xs : List V} (ha : Ev ta σ H (.ref p)) (h : SqL K H p xs) : Ev (tCB (fun xs H Q => ∃ p ys, xs = [.ref p] ∧ (SqL K H p ys ∨ SqT K H p ys) ∧ Q (.int ys.length) H) (tCons ta tNil)) σ H (.int (xs.length : Int)) := fun H1 e Q q =>
  ha H1 e _ fun H2 e2 => ⟨p, xs, rfl, .inl (ex_l (e.trans e2) h), q H2 e2⟩
/-- an item of a tuple, at a written place -/
theorem ev_ixT {a : Addr} {xs : List V} {j : Nat} (ha : Ev ta σ H (.ref a)) (hb : Ev tb σ H (.int (j : Int))) (h : SqT K H a xs) (hv : xs[j]? = some v) : Ev (tOp (rIxT K) ta tb) σ H v := ev_op ha hb (rv_ixT h (atI_nat hv))
theorem ev_ixL {a : Addr} {xs : List V} {j : Nat} (ha : Ev ta σ H (.ref a)) (hb : Ev tb σ H (.int (j : Int))) (h : SqL K H a xs) (hv : xs[j]? = some v) : Ev (tOp (rIxL K) ta tb) σ H v := ev_op ha hb (rv_ixL h (atI_nat hv))
theorem given_all (n : Nat) (b : Nat → Bool) : given n (fun _ => true) (fun i => .bl (b i)) = ((List.range n).map b).map V.bl := by
  unfold given
  rw [List.filter_eq_self.mpr (fun _ _ => rfl), List.map_map]
  rfl
theorem el_is {xs ys : List V} (h : EvL te σ H xs) (e : xs = ys) : EvL te σ H ys := by
  rw [← e]
  exact h
/-- comprehensions over a tuple, over a text, over two tuples -/
theorem el_lcT {a : Addr} {xs : List V} {tl : TE} {j : Nat} {vs : List Nat} (f : Nat → Bool) (v : Nat → V) (h : Ev tl σ H (.ref a)) (hx : SqT K H a xs) (hz : xs.length ≤ 40000) (hw : ∀ x, wipe ((wipe σ vs).set j (some x)) vs = wipe σ vs)
    (ht : ∀ (i : Nat) (x : V) H1, Ex H H1 → xs[i]? = some x → EvT t ((wipe σ vs).set j (some x)) H1 (f i)) (he : ∀ (i : Nat) (x : V) H1, Ex H H1 → xs[i]? = some x → f i = true → Ev te ((wipe σ vs).set j (some x)) H1 (v i)) :
    EvL (tLc (iTup K tl) (gName j) t te vs) σ H (given xs.length f v) := fun H0 e Q q => h H0 e _ fun H1 e1 => ⟨a, rfl, ⟨xs, ex_t (e.trans e1) hx⟩, fun Dl hD =>
  lc_tup (xs := xs) (Cw H1 f v Dl) ⟨hD, Ex.new hD, upd_same⟩ (fun i H' _ p => ex_t ((e.trans e1).trans p.2.1) hx) (fun i x H' hi p => ⟨hw x, cw_turn p (by have := (List.getElem?_eq_some_iff.mp hi).1; omega) (ht i x H1 (e.trans e1) hi) (fun hf => he i x H1 (e.trans e1) hi hf)⟩)
    (fun H' p => q Dl H' (fresh_back e1 p.1) (e1.trans p.2.1) p.2.2)⟩
theorem el_lcS {s : Str} {tl : TE} {j : Nat} {vs : List Nat} (f : Nat → Bool) (v : Nat → V) (h : Ev tl σ H (.str s)) (hz : s.cps.size ≤ 40000) (hw : ∀ x, wipe ((wipe σ vs).set j (some x)) vs = wipe σ vs)
    (ht : ∀ (i c : Nat) H1, Ex H H1 → s.cps[i]? = some c → EvT t ((wipe σ vs).set j (some (.str ⟨#[c]⟩))) H1 (f i)) (he : ∀ (i c : Nat) H1, Ex H H1 → s.cps[i]? = some c → f i = true → Ev te ((wipe σ vs).set j (some (.str ⟨#[c]⟩))) H1 (v i)) :
    EvL (tLc (iStr tl) (gName j) t te vs) σ H (given s.cps.size f v) := fun H0 e Q q => h H0 e _ fun H1 e1 => ⟨s, rfl, fun Dl hD =>
  lc_it (walk_str (z := s)) (Cw H1 f v Dl) ⟨hD, Ex.new hD, upd_same⟩ (fun _ _ _ _ => True.intro) (fun i x H2 H' hi p y => by
    obtain ⟨rfl, c, hc, rfl⟩ := y
    exact ⟨hw _, cw_turn p (by omega) (ht i c H1 (e.trans e1) hc) (fun hf => he i c H1 (e.trans e1) hc hf)⟩)
    (fun H' p => q Dl H' (fresh_back e1 p.1) (e1.trans p.2.1) p.2.2)⟩
theorem walk_zipT {a b : Addr} {xs ys : List V} {n : Nat} (hn : n = min xs.length ys.length) : Walk (RZ.ItzT K a b) n (fun H => SqT K H a xs ∧ SqT K H b ys) (YPair (fun i => xs[i]?) (fun i => ys[i]?)) := by
  subst hn
  refine ⟨fun i _ hi q => ?_, fun _ q => ⟨xs, ys, q.1, q.2, by omega⟩, fun i H v H' _ q y => ?_⟩
  · have h1 : i < xs.length := by omega
    have h2 : i < ys.length := by omega
    exact ⟨xs, ys, xs[i], ys[i], q.1, q.2, by simp [h1], by simp [h2]⟩
  · obtain ⟨T, x, z, h1, h2, h3, h4, h5⟩ := y
    exact ⟨T, x, z, h1, h2, h3, h4 xs q.1, h5 ys q.2⟩
theorem el_lcZ {a b : Addr} {xs ys : List V} {tl tm : TE} {j1 j2 : Nat} {vs : List Nat} (v : Nat → V) (h : Ev tl σ H (.ref a)) (h2 : Ev tm σ H (.ref b)) (hx : SqT K H a xs) (hy : SqT K H b ys) (hz : min xs.length ys.length ≤ 40000)
    (hw : ∀ x y, wipe (((wipe σ vs).set j1 (some x)).set j2 (some y)) vs = wipe σ vs)
    (he : ∀ (i : Nat) (x y : V) H1, Ex H H1 → xs[i]? = some x → ys[i]? = some y → Ev te (((wipe σ vs).set j1 (some x)).set j2 (some y)) H1 (v i)) :
    EvL (tLc (RZ.iZipA K (tCons tl (tCons tm tNil))) (gTup K 2 (gCons (gName j1) (gCons (gName j2) gNil))) tYes te vs) σ H (given (min xs.length ys.length) (fun _ => true) v) := fun H0 e Q q => h H0 e _ fun H1 e1 => h2 H1 (e.trans e1) _ fun H2 e2 =>
  ⟨a, b, xs, ys, rfl, .inr ⟨ex_t ((e.trans e1).trans e2) hx, ex_t ((e.trans e1).trans e2) hy, fun Dl hD =>
  lc_it (walk_zipT rfl) (Cw H2 (fun _ => true) v Dl) ⟨hD, Ex.new hD, upd_same⟩ (fun _ _ _ p => ⟨ex_t (((e.trans e1).trans e2).trans p.2.1) hx, ex_t (((e.trans e1).trans e2).trans p.2.1) hy⟩) (fun i x H3 H' hi p y => by
    obtain ⟨T, x1, x2, rfl, hT, rfl, f1, f2⟩ := y
    have p' : Cw H2 (fun _ => true) v Dl i (upd H3 T (.tup [x1, x2])) := ⟨p.1, p.2.1.trans (Ex.new hT), by rw [upd_ne (ne_of_none p.2.2 hT)]; exact p.2.2⟩
    exact ⟨T, [x1, x2], rfl, .inl (.inl upd_same), rfl, x1, [x2], rfl, x2, [], rfl, rfl, hw _ _, cw_turn p' (by omega) et_yes (fun _ => he i x1 x2 H2 ((e.trans e1).trans e2) f1 f2)⟩)
    (fun H' p => q Dl H' (fresh_back (e1.trans e2) p.1) ((e1.trans e2).trans p.2.1) p.2.2)⟩⟩
theorem et_andF (h1 : EvT t σ H false) : EvT (tAnd t u) σ H false := fun H1 e Q q => h1 H1 e _ fun H2 e2 => q H2 e2
theorem et_andT {b : Bool} (h1 : EvT t σ H true) (h2 : EvT u σ H b) : EvT (tAnd t u) σ H b := fun H1 e Q q => h1 H1 e _ fun H2 e2 => h2 H2 (e.trans e2) Q fun H3 e3 => q H3 (e2.trans e3)
theorem et_orT (h1 : EvT t σ H true) : EvT (tOr t u) σ H true := fun H1 e Q q => h1 H1 e _ fun H2 e2 => q H2 e2
theorem et_orF {b : Bool} (h1 : EvT t σ H false) (h2 : EvT u σ H b) : EvT (tOr t u) σ H b := fun H1 e Q q => h1 H1 e _ fun H2 e2 => h2 H2 (e.trans e2) Q fun H3 e3 => q H3 (e2.trans e3)
theorem ev_andF (h1 : Ev ta σ H (.bl false)) : Ev (tAndV ta tb) σ H (.bl false) := fun H1 e Q q => h1 H1 e _ fun H2 e2 => ⟨false, rfl, q H2 e2⟩
theorem ev_andT {b : Bool} (h1 : Ev ta σ H (.bl true)) (h2 : Ev tb σ H (.bl b)) : Ev (tAndV ta tb) σ H (.bl b) := fun H1 e Q q => h1 H1 e _ fun H2 e2 => ⟨true, rfl, h2 H2 (e.trans e2) Q fun H3 e3 => q H3 (e2.trans e3)⟩
theorem k_tt : kitB "tuple" "tuple" = some true := by decide +kernel
theorem k_it : kitB "int" "tuple" = some false := by decide +kernel
theorem k_st : kitB "str" "tuple" = some false := by decide +kernel
theorem k_ti : kitB "tuple" "int" = some false := by decide +kernel
theorem k_ii : kitB "int" "int" = some true := by decide +kernel
theorem k_si : kitB "str" "int" = some false := by decide +kernel
theorem k_ts : kitB "tuple" "str" = some false := by decide +kernel
theorem k_is : kitB "int" "str" = some false := by decide +kernel
theorem k_ss : kitB "str" "str" = some true := by decide +kernel
theorem k_ib : kitB "int" "bool" = some false := by decide +kernel
theorem k_bb : kitB "bool" "bool" = some true := by decide +kernel
theorem ev_callC {sp : Sp} {vs : List V} {E : XK} {ta : TA} (h : EvA ta σ H vs) (hs : SpV sp vs H z) : Ev (tCall sp [] E ta) σ H z := ev_call h (by rw [List.append_nil]; exact hs)
end
/-! ### lists of data, empty or not -/
theorem all_items {α : Type} (a0 : α) (p : α → Bool) (ds : List α) : ((List.range ds.length).map fun i => p (ds.getD i a0)).all id = ds.all p := by
  have h : ((List.range ds.length).map fun i => p (ds.getD i a0)) = ds.map p := by
    apply List.ext_getElem
    · simp
    · intro i h1 h2
      simp at h1
      simp [List.getD_eq_getElem?_getD, List.getElem?_eq_getElem h1]
  rw [h, List.all_map]
  rfl
theorem zip_items {α β : Type} (a0 : α) (b0 : β) (p : α → β → Bool) : ∀ (ks : List α) (ds : List β), ks.length = ds.length → ((List.range ds.length).map fun i => p (ks.getD i a0) (ds.getD i b0)).all id = (List.zipWith p ks ds).all id := fun ks ds hl => by
  have h : ((List.range ds.length).map fun i => p (ks.getD i a0) (ds.getD i b0)) = List.zipWith p ks ds := by
    apply List.ext_getElem
    · simp [hl]
    · intro i h1 h2
      simp at h1
      have h3 : i < ks.length := by omega
      simp [List.getD_eq_getElem?_getD, List.getElem?_eq_getElem h1, List.getElem?_eq_getElem h3]
  rw [h]
theorem iskAll_zip : ∀ (ks : List Kd) (ds : List PyData), iskAll ks ds = (decide (ds.length = ks.length) && (List.zipWith isk ks ds).all id)
  | [], [] => by rw [iskAll]; rfl
  | [], _ :: _ => by simp [iskAll]
  | _ :: _, [] => by rw [iskAll]; rfl
  | k :: ks, d :: ds => by
    rw [iskAll, iskAll_zip ks ds]
    have e : decide ((d :: ds).length = (k :: ks).length) = decide (ds.length = ks.length) := decide_eq_decide.mpr (by simp)
    rw [e]
    show (isk k d && (decide (ds.length = ks.length) && (List.zipWith isk ks ds).all id)) = (decide (ds.length = ks.length) && (isk k d && (List.zipWith isk ks ds).all id))
    cases isk k d <;> cases decide (ds.length = ks.length) <;> rfl
theorem iskAll_at (ks : List Kd) (ds : List PyData) : (decide (V.int (ds.length : Int) = V.int (ks.length : Int)) && (decide (ds.length = ks.length) && ((List.range ds.length).map fun i => isk (ks.getD i .int) (ds.getD i .none)).all id)) = iskAll ks ds := by
  rw [iskAll_zip]
  by_cases h : ds.length = ks.length
  · rw [zip_items .int .none isk ks ds h.symm, decide_eq_true h, h, decide_eq_true rfl]
    rfl
  · rw [decide_eq_false h, decide_eq_false (fun e => h (by injection e with e; exact Int.ofNat.inj e))]
    rfl
theorem mem_given {n : Nat} {f : Nat → Bool} {v : Nat → V} {x : V} (h : x ∈ given n f v) : ∃ i, i < n ∧ f i = true ∧ x = v i := by
  unfold given at h
  obtain ⟨i, hi, rfl⟩ := List.mem_map.mp h
  obtain ⟨h1, h2⟩ := List.mem_filter.mp hi
  exact ⟨i, List.mem_range.mp h1, h2, rfl⟩
theorem given_empty (n : Nat) (f : Nat → Bool) (v : Nat → V) : (given n f v).isEmpty = ((List.range n).map fun i => !f i).all id := by
  unfold given
  rw [Bool.eq_iff_iff, List.isEmpty_iff, List.map_eq_nil_iff, List.filter_eq_nil_iff, List.all_map, List.all_eq_true]
  constructor
  · intro h i hi
    have := h i hi
    simpa using this
  · intro h i hi
    have := h i hi
    simpa using this
section
variable {K : PySem.W.Frag} {σ : L2.St} {H H' : Hp} {ta tb tc te tx : TE}
theorem dpAll_some {m : Nat} : ∀ {xs : List V}, (∀ x ∈ xs, ∃ d, Vd K H x d ∧ Dk m d) → ∃ ds, DpAll K H xs ds ∧ ds.isEmpty = xs.isEmpty ∧ ∀ d ∈ ds, Dk m d
  | [], _ => ⟨[], .nil, rfl, fun _ h => nomatch h⟩
  | x :: xs, h => by
    obtain ⟨d, h1, h2⟩ := h x List.mem_cons_self
    obtain ⟨ds, h3, h4, h5⟩ := dpAll_some fun y hy => h y (List.mem_cons_of_mem _ hy)
    refine ⟨d :: ds, .cons h1.dp h3, rfl, fun e he => ?_⟩
    rcases List.mem_cons.mp he with rfl | he
    · exact h2
    · exact h5 e he
theorem shaped_list {m : Nat} {ds : List PyData} (hm : m ≤ 60) (h : ∀ d ∈ ds, Dk m d) : SeqAt.shaped (.list ds) = true := by
  unfold SeqAt.shaped
  have h1 : (PyData.list ds).canLay0 = true := lay_all fun d hd => (h d hd).lay.1
  have h2 : (PyData.list ds).depth ≤ 64 := Nat.le_trans (Nat.succ_le_succ (depth_all fun d hd => (h d hd).lay.2)) (by omega)
  rw [h1, decide_eq_true h2]
  rfl
/-- [..] == [] -/
theorem ev_nil {m : Nat} {xs : List V} (hm : m ≤ 60) (ha : EvL ta σ H xs) (hx : ∀ x ∈ xs, ∀ H1, Ex H H1 → ∃ d, Vd K H1 x d ∧ Dk m d) : Ev (tOp (rEqD K) ta (tLst tNil)) σ H (.bl xs.isEmpty) :=
  ev_opLL ha (el_lst ea_nil (by decide)) fun p q H1 hp hq e => fun H2 e2 Q k => by
    obtain ⟨ds, h3, h4, h5⟩ := dpAll_some (K := K) (H := H2) fun x hx' => hx x hx' H2 (e.trans e2)
    refine ⟨.list ds, .list [], .lst (sq_of (e2 _ _ hp)) h3, .lst (sq_of (e2 _ _ hq)) .nil, shaped_list hm h5, by decide +kernel, ?_⟩
    have e3 : PyData.eqv (.list ds) (.list []) = xs.isEmpty := by
      rw [← h4]
      cases ds with
      | nil => rfl
      | cons d ds => rfl
    rw [e3]
    exact k H2 (Ex.refl H2)
theorem et_val {b : Bool} (h : Ev te σ H (.bl b)) : EvT (tB te) σ H b := et_B h
end
theorem Dk.item {n : Nat} {ds : List PyData} (h : Dk (n + 1) (.tuple ds)) : ds.length ≤ 60 ∧ ∀ d ∈ ds, Dk n d := by
  cases h with
  | tup h1 h2 => exact ⟨h1, h2⟩
theorem getD_at {α : Type} {ds : List α} {i : Nat} {a0 : α} (h : i < ds.length) : ds[i]? = some (ds.getD i a0) := by
  rw [List.getD_eq_getElem?_getD, List.getElem?_eq_getElem h]
  rfl
theorem OkK.shaped {n : Nat} {k : Kd} (h : OkK n k) (hn : n ≤ 20) : SeqAt.shaped k.data = true := h.dk.shaped (by omega)
theorem shaped_int : SeqAt.shaped (.str "int") = true := by decide +kernel
theorem shaped_word : SeqAt.shaped (.str "word") = true := by decide +kernel
end Cr
namespace Cr
open PySem PySem.Spec PyProof.Rows L2 Evl
section
variable {P : Program} {w : World} {K : PySem.W.Frag} {mg : Str → Option Value} {base : Heap}
def spWord : Sp := fun vs H Q _ => ∃ s : Str, vs = [.str s] ∧ s.length ≤ 1000 ∧ ∀ H', Same H H' → Q (.bl (isWord s)) H'
theorem sign_ok (c : Nat) : (!decide ((⟨#[c]⟩ : Str).cps.toList < ("a" : Str).cps.toList) && !decide (("z" : Str).cps.toList < (⟨#[c]⟩ : Str).cps.toList)) = (decide (97 ≤ c) && decide (c ≤ 122)) := by
  rw [show ("a" : Str).cps.toList = [97] by decide +kernel, show ("z" : Str).cps.toList = [122] by decide +kernel, show (⟨#[c]⟩ : Str).cps.toList = [c] from rfl, lt_sign, lt_sign, ← decide_not, ← decide_not]
  congr 1
  · exact decide_eq_decide.mpr (by omega)
  · exact decide_eq_decide.mpr (by omega)
theorem all_signs (z : Str) (p : Nat → Bool) : ((List.range z.cps.size).map fun i => p (z.cps.toList.getD i 0)).all id = z.cps.toList.all p := by
  have h : ∀ l : List Nat, ((List.range l.length).map fun i => p (l.getD i 0)) = l.map p := fun l => by
    apply List.ext_getElem
    · simp
    · intro i h1 h2
      simp at h1
      simp [List.getD_eq_getElem?_getD, List.getElem?_eq_getElem h1]
  rw [← Array.length_toList, h, List.all_map]
  rfl
def spKit (K : PySem.W.Frag) : Sp := fun vs H Q _ => ∃ (v : V) (k : Kd) (n : Nat), vs = [v] ∧ Vd K H v k.data ∧ OkK n k ∧ n ≤ 20 ∧
  ∀ r H', Same H H' → (∀ ks, k = .tup ks → ∃ a, r = .ref a ∧ Vd K H' (.ref a) (.tuple (dataAll ks))) → ((∀ ks, k ≠ .tup ks) → ∃ a, r = .ref a ∧ Vd K H' (.ref a) (.tuple [])) → Q r H'
def spKil (K : PySem.W.Frag) : Sp := fun vs H Q _ => ∃ (v : V) (k : Kd) (n : Nat), vs = [v] ∧ Vd K H v k.data ∧ OkK n k ∧ n ≤ 20 ∧
  ∀ r H', Same H H' → (∀ j, k = .lst j → r ≠ .non ∧ Vd K H' r j.data) → ((∀ j, k ≠ .lst j) → r = .non) → Q r H'
theorem vd_non {H : Hp} {v : V} {d : PyData} (h : Vd K H v d) : v ≠ .non := by cases h <;> exact fun e => nomatch e
end
section
variable {P : Program} {w : World} {K : PySem.W.Frag} {mg : Str → Option Value} {base : Heap}
def spIs (K : PySem.W.Frag) (n : Nat) : Sp := fun vs H Q _ => ∃ (v u : V) (d : PyData) (k : Kd), vs = [v, u] ∧ Vd K H v d ∧ Dk 20 d ∧ Vd K H u k.data ∧ OkK n k ∧ n ≤ 20 ∧ ∀ H', Same H H' → Q (.bl (isk k d)) H'
theorem spIs_0 (vs : List V) (H : Hp) (Q : VK) (E : XK) : ¬ spIs K 0 vs H Q E := fun h => by
  obtain ⟨_, _, _, _, _, _, _, _, h, _⟩ := h
  cases h
theorem is_call {n : Nat} {H : Hp} {v u : V} {d : PyData} {k : Kd} (hv : Vd K H v d) (hd : Dk 20 d) (hu : Vd K H u k.data) (hk : OkK n k) (hn : n ≤ 20) : SpV (spIs K n) [v, u] H (.bl (isk k d)) := fun H1 e Q q E =>
  ⟨v, u, d, k, rfl, hv.keep (Kt.same e), hd, hu.keep (Kt.same e), hk, hn, fun H' e' => q H' e'⟩
end
section
variable {P : Program} {w : World} {K : PySem.W.Frag} {mg : Str → Option Value} {base : Heap}
def spLWord : Sp := fun vs H Q _ => ∃ s : Str, vs = [.str s] ∧ s.length ≤ 1000 ∧ SeqAt.shaped (.str s) = true ∧ ∀ H', Same H H' → Q (.bl (isWord s)) H'
theorem abc_list : ("abcdefghijklmnopqrstuvwxyz" : Str).cps.toList = List.range' 97 26 := by decide +kernel
theorem abc_sign (c : Nat) : (!(!decide (c ∈ ("abcdefghijklmnopqrstuvwxyz" : Str).cps.toList))) = (decide (97 ≤ c) && decide (c ≤ 122)) := by
  rw [abc_list, Bool.not_not, Bool.eq_iff_iff, Bool.and_eq_true, decide_eq_true_iff, decide_eq_true_iff, decide_eq_true_iff, List.mem_range'_1]
  omega
theorem sign_shaped {s : Str} {i c : Nat} (h : SeqAt.shaped (.str s) = true) (hc : s.cps[i]? = some c) : SeqAt.shaped (.str ⟨#[c]⟩) = true := by
  have h1 : PyData.strOk s = true := SeqAt.canLay_of_shaped h
  obtain ⟨hi, rfl⟩ := Array.getElem?_eq_some_iff.mp hc
  have h2 : s.cps.all (· < 0x110000) = true := h1
  have h3 := (Array.all_eq_true.mp h2) i hi
  unfold SeqAt.shaped
  have h4 : (PyData.str ⟨#[s.cps[i]]⟩).canLay0 = true := by
    show PyData.strOk ⟨#[s.cps[i]]⟩ = true
    show (#[s.cps[i]]).all (· < 0x110000) = true
    simpa using h3
  rw [h4]
  rfl
theorem one_items {n : Nat} {f : Nat → Bool} {H : Hp} : ∀ x ∈ given n f (fun _ => V.int 1), ∀ H1, Ex H H1 → ∃ d, Vd K H1 x d ∧ Dk 0 d := fun x hx H1 _ => by
  obtain ⟨i, _, _, rfl⟩ := mem_given hx
  exact ⟨_, .int 1, .int 1⟩
end
section
variable {P : Program} {w : World} {K : PySem.W.Frag} {mg : Str → Option Value} {base : Heap}
def spCell (K : PySem.W.Frag) : Sp := fun vs H Q _ => ∃ (a : Addr) (ns : List Int) (k : Nat), vs = [.ref a, .int (k : Int)] ∧ SqL K H a (ns.map V.int) ∧ ∀ c H', Same H H' → Q (.int c) H'
def spDraw (K : PySem.W.Frag) : Sp := fun vs H Q _ => ∃ (a b : Addr) (ns ms : List Int) (k : Nat), vs = [.ref a, .int (k : Int), .ref b] ∧ SqL K H a (ns.map V.int) ∧ SqL K H b (ms.map V.int) ∧ ms.length ≤ 1000 ∧ (∀ m ∈ ms, 0 < m ∧ m < 1073741824) ∧
  ∀ p (xs : List Int) H', Same H H' → H p = none → H' p = some (.lst (xs.map V.int)) → xs.length = ms.length → Q (.ref p) H'
theorem map_int {ms : List Int} {i : Nat} {x : V} (h : (ms.map V.int)[i]? = some x) : ∃ m, ms[i]? = some m ∧ x = .int m := by
  rw [List.getElem?_map] at h
  cases e : ms[i]? with
  | none =>
    rw [e] at h
    cases h
  | some m =>
    rw [e] at h
    cases h
    exact ⟨m, rfl, rfl⟩
def Bx (H : Hp) (b d : Addr) : Prop := ∃ (ns : List Int) (i : Nat), H b = some (.lst [.ref d, .int (i : Int)]) ∧ H d = some (.lst (ns.map V.int)) ∧ d ≠ b
def Mv (b d : Addr) (H H' : Hp) : Prop := (∀ a o, a ≠ b → H a = some o → H' a = some o) ∧ Bx H' b d
section
variable {H H1 H2 H' : Hp} {b d p : Addr} {o : HO}
theorem Bx.same (h : Bx H b d) (e : Same H H') : Bx H' b d := by
  obtain ⟨ns, i, h1, h2, h3⟩ := h
  exact ⟨ns, i, e _ _ h1, e _ _ h2, h3⟩
theorem Mv.refl (h : Bx H b d) : Mv b d H H := ⟨fun _ _ _ h => h, h⟩
theorem Mv.trans (m : Mv b d H H1) (n : Mv b d H1 H2) : Mv b d H H2 := ⟨fun a o ne h => n.1 a o ne (m.1 a o ne h), n.2⟩
theorem Mv.same (h : Bx H b d) (e : Same H H') : Mv b d H H' := ⟨fun a o _ h => e a o h, h.same e⟩
theorem Mv.ext (m : Mv b d H H1) (e : Same H1 H2) : Mv b d H H2 := m.trans (.same m.2 e)
theorem Mv.new (m : Mv b d H H1) (h : H1 p = none) : Mv b d H (upd H1 p o) := m.ext (same_new h)
theorem Bx.neb (h : Bx H b d) (hp : H p = none) : p ≠ b ∧ p ≠ d := by
  obtain ⟨ns, i, h1, h2, h3⟩ := h
  exact ⟨fun e => (by rw [e, h1] at hp; cases hp), fun e => (by rw [e, h2] at hp; cases hp)⟩
/-- an object that H does not know changes -/
theorem Mv.mut (m : Mv b d H H1) (hb : Bx H b d) (hp : H p = none) : Mv b d H (upd H1 p o) := by
  obtain ⟨n1, n2⟩ := hb.neb hp
  obtain ⟨ns, i, h1, h2, h3⟩ := m.2
  exact ⟨fun a u ne h => by rw [upd_ne (ne_of_none h hp)]; exact m.1 a u ne h, ns, i, by rw [upd_ne n1.symm]; exact h1, by rw [upd_ne n2.symm]; exact h2, h3⟩
theorem Mv.kt (m : Mv b d H H1) (hb : Bx H b d) : Kt K H H1 := fun a ys q => by
  obtain ⟨ns, i, h1, h2, h3⟩ := hb
  rcases q with (q | ⟨ob, q⟩) | q
  · exact .inl (.inl (m.1 _ _ (ne_of q h1 (fun z => nomatch z)) q))
  · exact .inl (.inr ⟨ob, m.1 _ _ (ne_of q h1 (fun z => nomatch z)) q⟩)
  · exact .inr q
/-- a list that is not the box -/
theorem Mv.sql {a : Addr} {xs : List V} (m : Mv b d H H1) (ne : a ≠ b) (h : SqL K H a xs) : SqL K H1 a xs := by
  rcases h with (h | ⟨ob, h⟩) | h
  · exact .inl (.inl (m.1 _ _ ne h))
  · exact .inl (.inr ⟨ob, m.1 _ _ ne h⟩)
  · exact .inr h
end
def spBox (K : PySem.W.Frag) : Sp := fun vs H Q _ => ∃ (a : Addr) (ns : List Int) (k : Nat), vs = [.ref a, .int (k : Int)] ∧ SqL K H a (ns.map V.int) ∧
  ∀ b d H', Same H H' → H b = none → Bx H' b d → Q (.ref b) H'
theorem rep97 : (List.replicate (Int.toNat 20) [V.int 97]).flatten = (List.replicate 20 (97 : Int)).map V.int := by decide
theorem m97 : ∀ m ∈ List.replicate 20 (97 : Int), 0 < m ∧ m < 1073741824 := fun m h => by
  obtain ⟨_, rfl⟩ := List.mem_replicate.mp h
  decide
def spTake : Sp := fun vs H Q _ => ∃ (b d : Addr) (m : Int), vs = [.ref b, .int m] ∧ Bx H b d ∧ 0 < m ∧ ∀ r H', 0 ≤ r → r < m → Mv b d H H' → Q (.int r) H'
end
def Vds (K : PySem.W.Frag) (H : Hp) (vs : List V) (ds : List PyData) : Prop := vs.length = ds.length ∧ ∀ (i : Nat) v d, vs[i]? = some v → ds[i]? = some d → Vd K H v d
section
variable {K : PySem.W.Frag} {H H' : Hp}
theorem Vds.nil : Vds K H [] [] := ⟨rfl, fun i v d h _ => by simp at h⟩
theorem Vds.keep {vs : List V} {ds : List PyData} (k : Kt K H H') (h : Vds K H vs ds) : Vds K H' vs ds := ⟨h.1, fun i v d h1 h2 => (h.2 i v d h1 h2).keep k⟩
theorem Vds.snoc {vs : List V} {ds : List PyData} {v : V} {d : PyData} (h : Vds K H vs ds) (hv : Vd K H v d) : Vds K H (vs ++ [v]) (ds ++ [d]) := by
  refine ⟨by rw [List.length_append, List.length_append, h.1]; rfl, fun i x e h1 h2 => ?_⟩
  have hl := h.1
  by_cases hi : i < vs.length
  · rw [List.getElem?_append_left hi] at h1
    rw [List.getElem?_append_left (by omega)] at h2
    exact h.2 i x e h1 h2
  · rw [List.getElem?_append_right (by omega)] at h1
    rw [List.getElem?_append_right (by omega), ← hl] at h2
    obtain ⟨z, hz⟩ : ∃ z, i - vs.length = z := ⟨_, rfl⟩
    rw [hz] at h1 h2
    match z with
    | 0 =>
      cases h1
      cases h2
      exact hv
    | z + 1 => simp at h1
theorem Vds.cons {vs : List V} {ds : List PyData} {v : V} {d : PyData} (hv : Vd K H v d) (h : Vds K H vs ds) : Vds K H (v :: vs) (d :: ds) := by
  refine ⟨by rw [List.length_cons, List.length_cons, h.1], fun i x e h1 h2 => ?_⟩
  match i with
  | 0 =>
    cases h1
    cases h2
    exact hv
  | i + 1 => exact h.2 i x e (by simpa using h1) (by simpa using h2)
theorem Vds.app {vs ws : List V} {ds es : List PyData} (h : Vds K H vs ds) (g : Vds K H ws es) : Vds K H (vs ++ ws) (ds ++ es) := by
  refine ⟨by rw [List.length_append, List.length_append, h.1, g.1], fun i x e h1 h2 => ?_⟩
  have hl := h.1
  by_cases hi : i < vs.length
  · rw [List.getElem?_append_left hi] at h1
    rw [List.getElem?_append_left (by omega)] at h2
    exact h.2 i x e h1 h2
  · rw [List.getElem?_append_right (by omega)] at h1
    rw [List.getElem?_append_right (by omega), ← hl] at h2
    exact g.2 _ x e h1 h2
theorem Vds.tup {vs : List V} {ds : List PyData} {a : Addr} (h : Vds K H vs ds) (ha : SqT K H a vs) : Vd K H (.ref a) (.tuple ds) := .tup ha h.1 h.2
end
section
variable {P : Program} {w : World} {K : PySem.W.Frag} {mg : Str → Option Value} {base : Heap}
def spLKind (K : PySem.W.Frag) (N : Nat) : Sp := fun vs H Q _ => ∃ (b d : Addr) (n : Nat), vs = [.ref b, .int (n : Int)] ∧ Bx H b d ∧ n < N ∧ ∀ v kd H', Mv b d H H' → Vd K H' v (Kd.data kd) → OkK (n + 1) kd → Q v H'
def spLVal (K : PySem.W.Frag) (N : Nat) : Sp := fun vs H Q _ => ∃ (b d : Addr) (u : V) (kd : Kd), vs = [.ref b, u] ∧ Bx H b d ∧ Vd K H u kd.data ∧ OkK N kd ∧ N ≤ 10 ∧ ∀ v e H', Mv b d H H' → Vd K H' v e → Dk N e → isk kd e = true → Q v H'
theorem iskAll_of : ∀ {ks : List Kd} {ds : List PyData}, ks.length = ds.length → (∀ (i : Nat) k d, ks[i]? = some k → ds[i]? = some d → isk k d = true) → iskAll ks ds = true
  | [], [], _, _ => by rw [iskAll]
  | [], _ :: _, h, _ => by simp at h
  | _ :: _, [], h, _ => by simp at h
  | k :: ks, d :: ds, h, q => by
    rw [iskAll, q 0 k d rfl rfl, iskAll_of (by simpa using h) fun i j e h1 h2 => q (i + 1) j e (by simpa using h1) (by simpa using h2)]
    rfl
theorem spLVal_0 (vs : List V) (H : Hp) (Q : VK) (E : XK) : ¬ spLVal K 0 vs H Q E := fun h => by
  obtain ⟨_, _, _, _, _, _, _, h, _⟩ := h
  cases h
end
end Cr
namespace Cr
open PySem PySem.Spec PyProof.Rows L2 Evl
/-! ### conditions -/
inductive Cd where
  | atmost (n : Int) | divides (n : Int) | is (s : Str) | item (i : Int) (c : Cd) | every (c : Cd) | some_ (c : Cd) | size (c : Cd) | sum (c : Cd) | rising | different | not_ (c : Cd) | and_ (c d : Cd) | or_ (c d : Cd)
def Cd.data : Cd → PyData
  | .atmost n => .tuple [.str "atmost", .int n]
  | .divides n => .tuple [.str "divides", .int n]
  | .is s => .tuple [.str "is", .str s]
  | .item i c => .tuple [.str "item", .int i, c.data]
  | .every c => .tuple [.str "every", c.data]
  | .some_ c => .tuple [.str "some", c.data]
  | .size c => .tuple [.str "size", c.data]
  | .sum c => .tuple [.str "sum", c.data]
  | .rising => .tuple [.str "rising"]
  | .different => .tuple [.str "different"]
  | .not_ c => .tuple [.str "not", c.data]
  | .and_ c d => .tuple [.str "and", c.data, d.data]
  | .or_ c d => .tuple [.str "or", c.data, d.data]
inductive OkC : Nat → Cd → Prop
  | atmost {n : Nat} (i : Int) : OkC (n + 1) (.atmost i)
  | divides {n : Nat} (i : Int) : OkC (n + 1) (.divides i)
  | is {n : Nat} {s : Str} : SeqAt.shaped (.str s) = true → s.length ≤ 1000 → OkC (n + 1) (.is s)
  | item {n : Nat} (i : Int) {c : Cd} : OkC n c → OkC (n + 1) (.item i c)
  | every {n : Nat} {c : Cd} : OkC n c → OkC (n + 1) (.every c)
  | some_ {n : Nat} {c : Cd} : OkC n c → OkC (n + 1) (.some_ c)
  | size {n : Nat} {c : Cd} : OkC n c → OkC (n + 1) (.size c)
  | sum {n : Nat} {c : Cd} : OkC n c → OkC (n + 1) (.sum c)
  | rising {n : Nat} : OkC (n + 1) .rising
  | different {n : Nat} : OkC (n + 1) .different
  | not_ {n : Nat} {c : Cd} : OkC n c → OkC (n + 1) (.not_ c)
  | and_ {n : Nat} {c d : Cd} : OkC n c → OkC n d → OkC (n + 1) (.and_ c d)
  | or_ {n : Nat} {c d : Cd} : OkC n c → OkC n d → OkC (n + 1) (.or_ c d)
theorem OkC.mono {n m : Nat} {c : Cd} (h : OkC n c) (hm : n ≤ m) : OkC m c := by
  induction h generalizing m with
  | _ => obtain ⟨m', rfl⟩ : ∃ m', m = m' + 1 := ⟨m - 1, by omega⟩; first | exact .atmost _ | exact .divides _ | exact .rising | exact .different | (constructor <;> first | assumption | (rename_i ih; exact ih (by omega)) | (rename_i ih _; exact ih (by omega)))
/-! ### which condition fits which kind -/
def Kd.isInt : Kd → Bool
  | .int => true
  | _ => false
def Kd.isWord : Kd → Bool
  | .word => true
  | _ => false
def Kd.isFlat : Kd → Bool
  | .int => true
  | .word => true
  | _ => false
def Kd.parts : Kd → List Kd
  | .tup ks => ks
  | _ => []
def fitsC : Cd → Kd → Bool
  | .atmost _, k => k.isInt
  | .divides n, k => k.isInt && (decide (1 ≤ n) && decide (n ≤ 100))
  | .is s, k => k.isWord && Cr.isWord s
  | .item i c, k => (decide (0 ≤ i) && decide (i < (k.parts.length : Int))) && fitsC c (k.parts.getD i.toNat .int)
  | .every c, k => match k with | .lst j => fitsC c j | _ => false
  | .some_ c, k => match k with | .lst j => fitsC c j | _ => false
  | .size c, k => match k with | .lst _ => fitsC c .int | _ => false
  | .sum c, k => match k with | .lst j => j.isInt && fitsC c .int | _ => false
  | .rising, k => match k with | .lst j => j.isInt | _ => false
  | .different, k => match k with | .lst _ => true | _ => false
  | .not_ c, k => fitsC c k
  | .and_ c d, k => fitsC c k && fitsC d k
  | .or_ c d, k => fitsC c k && fitsC d k
def Cd.onList : Cd → Bool
  | .every _ | .some_ _ | .size _ | .sum _ | .rising | .different => true
  | _ => false
theorem eqv_int (k : Kd) : PyData.eqv k.data (.str "int") = k.isInt := by
  cases k with
  | int => rw [Kd.data]; decide +kernel
  | word => rw [Kd.data]; decide +kernel
  | lst j => rw [Kd.data]; rfl
  | tup ks => rw [Kd.data]; rfl
theorem eqv_word (k : Kd) : PyData.eqv k.data (.str "word") = k.isWord := by
  cases k with
  | int => rw [Kd.data]; decide +kernel
  | word => rw [Kd.data]; decide +kernel
  | lst j => rw [Kd.data]; rfl
  | tup ks => rw [Kd.data]; rfl
section
variable {K : PySem.W.Frag} {σ : L2.St} {H0 H H' : Hp} {ta tb tc te tx tl : TE} {t u : TT} {x y z v w : V} {r r' : R2} {tu tz tw : TS} {D : Ends}
/-- kind == 'int', kind == 'word' -/
theorem ev_isInt {k : Kd} {n : Nat} (h : Ev ta σ H v) (hv : Vd K H v k.data) (hk : OkK n k) (hn : n ≤ 20) : Ev (tOp (rEqD K) ta (tC (.str "int"))) σ H (.bl k.isInt) := ev_is (ev_op h ev_c (rv_eqD hv (.str "int") (OkK.shaped hk hn) shaped_int)) (by rw [eqv_int])
theorem ev_isWord {k : Kd} {n : Nat} (h : Ev ta σ H v) (hv : Vd K H v k.data) (hk : OkK n k) (hn : n ≤ 20) : Ev (tOp (rEqD K) ta (tC (.str "word"))) σ H (.bl k.isWord) := ev_is (ev_op h ev_c (rv_eqD hv (.str "word") (OkK.shaped hk hn) shaped_word)) (by rw [eqv_word])
/-- if name == 'x': not so; so -/
theorem skipS {i : Nat} {x y : Str} (e0 : Same H0 H) (h : σ[i]? = some (some (.str x))) (ne : decide (V.str x = V.str y) = false) (k : ∀ H1, Same H0 H1 → tz D σ H1) : tSeq (tIfS (tTest (tOp rEq (tVar i) (tC (.str y)))) tu tNext) tz D σ H :=
  q_when (b := false) (et_is (et_test (ev_op (ev_var h) ev_c (rv_eq rfl))) ne) (fun h => Bool.noConfusion h) fun _ H1 e1 => k H1 (e0.trans e1)
theorem takeS {i : Nat} {x y : Str} (e0 : Same H0 H) (h : σ[i]? = some (some (.str x))) (eq : decide (V.str x = V.str y) = true) (k : ∀ H1, Same H0 H1 → tu { D with nx := tz D } σ H1) : tSeq (tIfS (tTest (tOp rEq (tVar i) (tC (.str y)))) tu tNext) tz D σ H :=
  q_when (b := true) (et_is (et_test (ev_op (ev_var h) ev_c (rv_eq rfl))) eq) (fun _ H1 e1 => k H1 (e0.trans e1)) (fun h => Bool.noConfusion h)
/-- if name in ('x', ..): not so; so -/
theorem skipT {i : Nat} {x : Str} {ys : List V} {ta : TA} (e0 : Same H0 H) (h : σ[i]? = some (some (.str x))) (hy : EvA ta σ H ys) (hl : ys.length ≤ 100000) (fl : ys.all flatV = true) (ne : inV (.str x) ys = false) (k : ∀ H1, Same H0 H1 → tz D σ H1) : tSeq (tIfS (tTest (tOp (rIn K false) (tVar i) (tTup ta))) tu tNext) tz D σ H :=
  q_when (b := false) (et_is (et_test (ev_inU (ev_var h) (eu_tup hy hl) rfl fl)) ne) (fun h => Bool.noConfusion h) fun _ H1 e1 => k H1 (e0.trans e1)
theorem takeT {i : Nat} {x : Str} {ys : List V} {ta : TA} (e0 : Same H0 H) (h : σ[i]? = some (some (.str x))) (hy : EvA ta σ H ys) (hl : ys.length ≤ 100000) (fl : ys.all flatV = true) (eq : inV (.str x) ys = true) (k : ∀ H1, Same H0 H1 → tu { D with nx := tz D } σ H1) : tSeq (tIfS (tTest (tOp (rIn K false) (tVar i) (tTup ta))) tu tNext) tz D σ H :=
  q_when (b := true) (et_is (et_test (ev_inU (ev_var h) (eu_tup hy hl) rfl fl)) eq) (fun _ H1 e1 => k H1 (e0.trans e1)) (fun h => Bool.noConfusion h)
theorem skipL {i : Nat} {x : Str} {ys : List V} {ta : TA} (e0 : Same H0 H) (h : σ[i]? = some (some (.str x))) (hy : EvA ta σ H ys) (hl : ys.length ≤ 100000) (fl : ys.all flatV = true) (ne : inV (.str x) ys = false) (k : ∀ H1, Same H0 H1 → tz D σ H1) : tSeq (tIfS (tTest (tOp (rIn K false) (tVar i) (tLst ta))) tu tNext) tz D σ H :=
  q_when (b := false) (et_is (et_test (ev_opL (ev_var h) (el_lst hy hl) fun p H1 hp e => rv_isL (sq_of hp) rfl fl)) ne) (fun h => Bool.noConfusion h) fun _ H1 e1 => k H1 (e0.trans e1)
theorem takeL {i : Nat} {x : Str} {ys : List V} {ta : TA} (e0 : Same H0 H) (h : σ[i]? = some (some (.str x))) (hy : EvA ta σ H ys) (hl : ys.length ≤ 100000) (fl : ys.all flatV = true) (eq : inV (.str x) ys = true) (k : ∀ H1, Same H0 H1 → tu { D with nx := tz D } σ H1) : tSeq (tIfS (tTest (tOp (rIn K false) (tVar i) (tLst ta))) tu tNext) tz D σ H :=
  q_when (b := true) (et_is (et_test (ev_opL (ev_var h) (el_lst hy hl) fun p H1 hp e => rv_isL (sq_of hp) rfl fl)) eq) (fun _ H1 e1 => k H1 (e0.trans e1)) (fun h => Bool.noConfusion h)
/-- t[1:], a new tuple; a comprehension over a new tuple -/
theorem eu_sl1 {a : Addr} {x : V} {xs : List V} (h : Ev te σ H (.ref a)) (hs : SqT K H a (x :: xs)) : EvU (tSl (rSlT K) te (tPart (tC (.int 1))) tNoPart) σ H xs := fun H1 e Q q => h H1 e _ fun H2 e2 => by
  refine ⟨1, rfl, a, x :: xs, rfl, ex_t (e.trans e2) hs, fun hw => ?_, fun p hp => ?_⟩
  · have h1 := hw.1
    rw [show HT.sIx (x :: xs).length 0 (some 1) = min 1 (x :: xs).length from HT.sIx_nat _ 0 1, List.length_cons] at h1
    omega
  · have hc : cutV (x :: xs) (some 1) none = xs := by
      unfold cutV
      rw [show HT.sIx (x :: xs).length 0 (some 1) = min 1 (x :: xs).length from HT.sIx_nat _ 0 1, HT.sIx_none, List.length_cons, show min 1 (xs.length + 1) = 1 by omega]
      show (List.take (xs.length + 1 - 1) xs) = xs
      rw [Nat.add_sub_cancel]
      exact List.take_length
    rw [hc]
    exact q p _ (fresh_back e2 hp) (e2.trans (Ex.new hp)) upd_same
theorem el_lcNT {xs : List V} {j : Nat} {vs : List Nat} (f : Nat → Bool) (v : Nat → V) (h : EvU tl σ H xs) (hz : xs.length ≤ 40000) (hw : ∀ x, wipe ((wipe σ vs).set j (some x)) vs = wipe σ vs)
    (ht : ∀ (i : Nat) (x : V) H1, Ex H H1 → xs[i]? = some x → EvT t ((wipe σ vs).set j (some x)) H1 (f i)) (he : ∀ (i : Nat) (x : V) H1, Ex H H1 → xs[i]? = some x → f i = true → Ev te ((wipe σ vs).set j (some x)) H1 (v i)) :
    EvL (tLc (iTup K tl) (gName j) t te vs) σ H (given xs.length f v) := fun H0 e Q q => h H0 e _ fun a H1 ha e1 hx => ⟨a, rfl, ⟨xs, st_of hx⟩, fun Dl hD =>
  lc_tup (xs := xs) (Cw H1 f v Dl) ⟨hD, Ex.new hD, upd_same⟩ (fun i H' _ p => st_of (p.2.1 a _ hx)) (fun i x H' hi p => ⟨hw x, cw_turn p (by have := (List.getElem?_eq_some_iff.mp hi).1; omega) (ht i x H1 (e.trans e1) hi) (fun hf => he i x H1 (e.trans e1) hi hf)⟩)
    (fun H' p => q Dl H' (fresh_back e1 p.1) (e1.trans p.2.1) p.2.2)⟩
end
def spFits (K : PySem.W.Frag) (n : Nat) : Sp := fun vs H Q _ => ∃ (v u : V) (c : Cd) (k : Kd), vs = [v, u] ∧ Vd K H v c.data ∧ OkC n c ∧ Vd K H u k.data ∧ OkK 10 k ∧ ∀ H', Same H H' → Q (.bl (fitsC c k)) H'
def spFitsItem (K : PySem.W.Frag) (n : Nat) : Sp := fun vs H Q _ => ∃ (i : Int) (v u : V) (c : Cd) (ks : List Kd), vs = [.int i, v, u] ∧ Vd K H v c.data ∧ OkC n c ∧ Vd K H u (.tuple (dataAll ks)) ∧ (∀ k ∈ ks, OkK 10 k) ∧
  ∀ H', Same H H' → Q (.bl ((decide (0 ≤ i) && decide (i < (ks.length : Int))) && fitsC c (ks.getD i.toNat .int))) H'
def spFitsList (K : PySem.W.Frag) (n : Nat) : Sp := fun vs H Q _ => ∃ (v u : V) (c : Cd) (j : Kd), vs = [v, u] ∧ Vd K H v c.data ∧ OkC (n + 1) c ∧ c.onList = true ∧ Vd K H u j.data ∧ OkK 10 j ∧ ∀ H', Same H H' → Q (.bl (fitsC c (.lst j))) H'
section
variable {K : PySem.W.Frag} {H : Hp}
theorem spFits_0 (vs : List V) (H : Hp) (Q : VK) (E : XK) : ¬ spFits K 0 vs H Q E := fun h => by
  obtain ⟨_, _, _, _, _, _, h, _⟩ := h
  cases h
theorem fits_call {n : Nat} {v u : V} {c : Cd} {k : Kd} (hv : Vd K H v c.data) (hc : OkC n c) (hu : Vd K H u k.data) (hk : OkK 10 k) : SpV (spFits K n) [v, u] H (.bl (fitsC c k)) := fun H1 e Q q E =>
  ⟨v, u, c, k, rfl, hv.keep (Kt.same e), hc, hu.keep (Kt.same e), hk, fun H' e' => q H' e'⟩
/-- the condition's tuple: its name and the rest -/
theorem Cd.name {v : V} {c : Cd} (h : Vd K H v c.data) : ∃ a x xs, v = .ref a ∧ SqT K H a (x :: xs) := by
  cases c <;> (rw [Cd.data] at h; first | (obtain ⟨a, x, rfl, hs, _⟩ := h.g1; exact ⟨a, x, _, rfl, hs⟩) | (obtain ⟨a, x, y, rfl, hs, _⟩ := h.g2; exact ⟨a, x, _, rfl, hs⟩) | (obtain ⟨a, x, y, z, rfl, hs, _⟩ := h.g3; exact ⟨a, x, _, rfl, hs⟩))
theorem int_data : Vd K H (.str "int") Kd.int.data := by rw [Kd.data]; exact .str _
end
/-! ### kinds without empty tuples; what the law's draws of kinds and conditions promise -/
inductive NeT : Kd → Prop
  | int : NeT .int
  | word : NeT .word
  | lst {k : Kd} : NeT k → NeT (.lst k)
  | tup {ks : List Kd} : 0 < ks.length → ks.length ≤ 4 → (∀ k ∈ ks, NeT k) → NeT (.tup ks)
inductive NeK : Kd → Prop
  | int : NeK .int
  | word : NeK .word
  | lst {k : Kd} : NeK k → NeK (.lst k)
  | tup {ks : List Kd} : 0 < ks.length → ks.length ≤ 2 → (∀ k ∈ ks, NeK k) → (∀ k ∈ ks, k.isFlat = true) → NeK (.tup ks)
theorem NeK.t {k : Kd} (h : NeK k) : NeT k := by
  induction h with
  | int => exact .int
  | word => exact .word
  | lst _ ih => exact .lst ih
  | tup h1 h2 _ _ ih => exact .tup h1 (by omega) ih
def spLKind2 (K : PySem.W.Frag) (N : Nat) : Sp := fun vs H Q _ => ∃ (b d : Addr) (n : Nat), vs = [.ref b, .int (n : Int)] ∧ Bx H b d ∧ n < N ∧ ∀ v kd H', Mv b d H H' → Vd K H' v (Kd.data kd) → OkK (n + 1) kd → NeK kd → Q v H'
def spLLimit (K : PySem.W.Frag) (N : Nat) : Sp := fun vs H Q _ => ∃ (b d : Addr) (u : V) (kd : Kd) (n m : Nat), vs = [.ref b, u, .int (n : Int)] ∧ Bx H b d ∧ Vd K H u kd.data ∧ OkK m kd ∧ NeT kd ∧ n + m ≤ N ∧ N ≤ 15 ∧ ∀ v c H', Mv b d H H' → Vd K H' v (Cd.data c) → OkC N c → Q v H'
theorem OkK.pos {n : Nat} {k : Kd} (h : OkK n k) : 0 < n := by cases h <;> omega
theorem flat_of {k : Kd} (h : OkK 1 k) (hn : NeK k) : k.isFlat = true := by
  cases k with
  | int => rfl
  | word => rfl
  | lst j => cases h with | lst h => exact absurd h.pos (by omega)
  | tup ks =>
    cases h with
    | tup _ h =>
      cases hn with
      | tup h0 _ _ _ =>
        match ks, h0 with
        | k :: ks, _ => exact absurd (h k List.mem_cons_self).pos (by omega)
theorem spLLimit_0 {K : PySem.W.Frag} (vs : List V) (H : Hp) (Q : VK) (E : XK) : ¬ spLLimit K 0 vs H Q E := fun h => by
  obtain ⟨_, _, _, _, n, m, _, _, _, hk, _, hn, _⟩ := h
  have := hk.pos
  omega
theorem item_none {m : Int} {c : Cd} {k : Kd} (h : k.parts = []) : fitsC (.item m c) k = false := by
  show ((decide (0 ≤ m) && decide (m < (k.parts.length : Int))) && fitsC c (k.parts.getD m.toNat .int)) = false
  rw [h]
  by_cases h0 : 0 ≤ m
  · rw [decide_eq_false (show ¬ m < (([] : List Kd).length : Int) from fun h => by simp at h; omega), Bool.and_false]
    rfl
  · rw [decide_eq_false h0]
    rfl
/-! ### what evaluates to data -/
def EvD (K : PySem.W.Frag) (te : TE) (σ : L2.St) (H : Hp) (d : PyData) : Prop := ∀ H1, Ex H H1 → ∀ Q : VK, (∀ v H2, Ex H1 H2 → Vd K H2 v d → Q v H2) → te σ H1 Q
def EvDs (K : PySem.W.Frag) (ta : TA) (σ : L2.St) (H : Hp) (ds : List PyData) : Prop := ∀ H1, Ex H H1 → ∀ Q : List V → Hp → Prop, (∀ vs H2, Ex H1 H2 → Vds K H2 vs ds → Q vs H2) → ta σ H1 Q
section
variable {K : PySem.W.Frag} {σ : L2.St} {H H' : Hp} {te : TE} {ta : TA} {tz : TS} {D : Ends}
theorem evd_int {i : Int} : EvD K (tC (.int i)) σ H (.int i) := fun H1 _ _ q => q _ H1 (Ex.refl H1) (.int i)
theorem evd_str {x : Str} : EvD K (tC (.str x)) σ H (.str x) := fun H1 _ _ q => q _ H1 (Ex.refl H1) (.str x)
theorem evd_neg {i : Int} : EvD K (tUn (rU fun i => .int (-i)) (tC (.int i))) σ H (.int (-i)) := fun H1 _ _ q => ⟨i, rfl, q _ H1 (Ex.refl H1) (.int _)⟩
theorem evd_var {i : Nat} {v : V} {d : PyData} (h : σ[i]? = some (some v)) (hv : Vd K H v d) : EvD K (tVar i) σ H d := fun H1 e _ q => ⟨v, h, q v H1 (Ex.refl H1) (hv.keep (Kt.same e))⟩
theorem evds_nil : EvDs K tNil σ H [] := fun H1 _ _ q => q [] H1 (Ex.refl H1) .nil
theorem evds_cons {d : PyData} {ds : List PyData} (h : EvD K te σ H d) (hr : EvDs K ta σ H ds) : EvDs K (tCons te ta) σ H (d :: ds) := fun H1 e Q q =>
  h H1 e _ fun v H2 e2 hv => hr H2 (e.trans e2) _ fun vs H3 e3 hvs => q (v :: vs) H3 (e2.trans e3) (.cons (hv.keep (Kt.same e3)) hvs)
theorem evd_tup {ds : List PyData} (h : EvDs K ta σ H ds) (hl : ds.length ≤ 1000) : EvD K (tTup ta) σ H (.tuple ds) := fun H1 e Q q =>
  h H1 e _ fun vs H2 e2 hvs => ⟨Nat.le_of_lt (small1000 (by rw [hvs.1]; exact hl)), fun p hp => q (.ref p) _ (e2.trans (Ex.new hp)) ((hvs.keep (Kt.new hp)).tup (.of upd_same))⟩
theorem q_asgDs {i : Nat} {ds : List PyData} (h : EvDs K ta σ H ds) (hl : ds.length ≤ 1000) (k : ∀ p vs H1, H p = none → Ex H H1 → H1 p = some (.lst vs) → Vds K H1 vs ds → tz D (σ.set i (some (.ref p))) H1) : tSeq (tAsg (tLst ta) (gName i)) tz D σ H :=
  h H (Ex.refl H) _ fun vs H2 e2 hvs => ⟨Nat.le_of_lt (small1000 (by rw [hvs.1]; exact hl)), fun p hp => k p vs _ (fresh_back e2 hp) (e2.trans (Ex.new hp)) upd_same (hvs.keep (Kt.new hp))⟩
theorem evds_is {ds es : List PyData} (h : EvDs K ta σ H ds) (e : ds = es) : EvDs K ta σ H es := by
  rw [← e]
  exact h
end
/-- the script stays, whatever a new box lives through -/
theorem script_stays {K : PySem.W.Frag} {H H1 H2 : Hp} {a b d : Addr} {xs : List V} (h : SqL K H a xs) (hb : H b = none) (e : Same H H1) (m : Mv b d H1 H2) : SqL K H2 a xs := by
  rcases h with (h | ⟨o, h⟩) | h
  · exact .inl (.inl (m.1 _ _ (ne_of_none h hb) (e _ _ h)))
  · exact .inl (.inr ⟨o, m.1 _ _ (ne_of_none h hb) (e _ _ h)⟩)
  · exact .inr h
def spLaw (K : PySem.W.Frag) : Sp := fun vs H Q _ => ∃ (a : Addr) (ns : List Int), vs = [.ref a] ∧ SqL K H a (ns.map V.int) ∧ ns.length ≤ 63 ∧ ∀ H', Q (.bl true) H'
end Cr
/-! tuples where the layer has lists: in, sum, sorted, enumerate -/
namespace CrT
open PySem PySem.Spec PyProof.Rows L2
/-! ### in and not in, data of any depth -/
def rInTup (K : PySem.W.Frag) (no : Bool) : R2 := fun x y H Q => ∃ d ds, Dp K H x d ∧ Dp K H y (.tuple ds) ∧ SeqAt.shaped d = true ∧ SeqAt.shaped (.tuple ds) = true ∧ Q (.bl (if no then !ds.any fun z => PyData.eqv z d else ds.any fun z => PyData.eqv z d)) H
theorem tup_room {A : Around} {d : PyData} {ds : List PyData} (hu : A.units + 65 < cLine) (sd : SeqAt.shaped d = true) : A.units + 1 + min (PyData.depthAll ds) d.depth < cLine := by
  have h := SeqAt.depth_of_shaped sd
  have := Nat.min_le_right (PyData.depthAll ds) d.depth
  omega
section
variable {X : Cx}
theorem op_inTup (hu : X.A.units + 65 < cLine) : OpR X (compareOp .In) (rInTup X.K false) := fun pins s σ H x y v u Q I rx ry h => by
  obtain ⟨d, ds, hd, he, sd, se, q⟩ := h
  obtain ⟨as, ra⟩ := Dp.reads I d x v hd rx
  obtain ⟨bs, rb⟩ := Dp.reads I (.tuple ds) y u he ry
  exact SeqAt.in_tuple_reads rb ra (show PyData.canLayAll0 ds = true from SeqAt.canLay_of_shaped se) (SeqAt.canLay_of_shaped sd) (tup_room hu sd) ⟨.bl _, H, I, rfl, q⟩
theorem op_notInTup (hu : X.A.units + 65 < cLine) : OpR X (compareOp .NotIn) (rInTup X.K true) := fun pins s σ H x y v u Q I rx ry h => by
  obtain ⟨d, ds, hd, he, sd, se, q⟩ := h
  obtain ⟨as, ra⟩ := Dp.reads I d x v hd rx
  obtain ⟨bs, rb⟩ := Dp.reads I (.tuple ds) y u he ry
  exact SeqAt.notIn_tuple_reads rb ra (show PyData.canLayAll0 ds = true from SeqAt.canLay_of_shaped se) (SeqAt.canLay_of_shaped sd) (tup_room hu sd) ⟨.bl _, H, I, rfl, q⟩
end
/-! ### sum of a tuple of ints -/
section
variable {prog : Program} {w : World} {A : Around} {E : Value → Shared → Prop} {s : Shared} {l : Addr} {its : List Value} {ns : List Int} {Q : Value → Shared → Prop}
theorem ints_at {i : Nat} {v : Value} (hi : IntsAre its ns) (h : its.toArray[i]? = some v) : ∃ t, v = .int (ns.getD i 0) t := by
  have h' : its[i]? = some v := by simpa using h
  clear h
  induction hi generalizing i with
  | nil => simp at h'
  | cons n k _ ih =>
    cases i with
    | zero =>
      cases h'
      exact ⟨_, rfl⟩
    | succ i => exact ih (by simpa using h')
theorem preSum_list (ns : List Int) : preSum (fun i => ns.getD i 0) ns.length = ns.sum := by
  have h : ∀ i, i ≤ ns.length → preSum (fun i => ns.getD i 0) i = (ns.take i).sum := fun i => by
    induction i with
    | zero => intro _; rfl
    | succ i ih =>
      intro hi
      have e : ns[i]? = some (ns.getD i 0) := by
        rw [List.getD_eq_getElem?_getD, List.getElem?_eq_getElem (by omega)]
        rfl
      rw [sum_take e, ← ih (by omega)]
      rfl
  rw [h _ (Nat.le_refl _), List.take_length]
theorem sum_tup (hh : A.handled = none) (hl : s.heap.IsTuple l its.toArray) (hi : IntsAre its ns)
    (h : ∀ h' tk t', (∀ b o, s.heap.get? b = some o → h'.get? b = some o) → Q (.int ns.sum t') { s with heap := h', toks := tk }) : wpAny (model prog w) A (call (.builtin "sum") [.ref l]) Q E s := by
  have hlt : l < s.heap.objs.size := by
    obtain ⟨_, e, _⟩ := hl
    exact Heap.lt_size e
  refine call_sum_walkG (wpAny_pyIter_tuple hl ?_)
  refine ⟨_, _, _, _, _, _, fun i => ns.getD i 0, rfl, Walks.tuple (A := A.in1) hh _ l (Nat.ne_of_lt hlt) its.toArray, ⟨⟨_, Heap.get?_push_size _ rfl, rfl, rfl⟩, hl.push _⟩, fun b hb => ?_, fun i v hv => ints_at hi hv, fun h' tk t' hk => ?_⟩
  · show b < (s.heap.push _).objs.size
    rw [Heap.size_push]
    simp only [List.mem_cons, List.not_mem_nil, or_false] at hb
    rcases hb with rfl | rfl
    · exact Nat.lt_succ_self _
    · exact Nat.lt_succ_of_lt hlt
  · have hn : its.toArray.size = ns.length := by rw [List.size_toArray, hi.length]
    rw [hn, preSum_list]
    refine h h' tk t' fun b o e => hk b o (fun hm => ?_) (Heap.get?_push_of_some _ e)
    cases List.mem_singleton.mp hm
    exact absurd (Heap.lt_size e) (Nat.lt_irrefl _)
/-! ### sorted of a tuple of ints -/
theorem collect_tup {R : List Value → Shared → Prop} (hl : s.heap.IsTuple l its.toArray) (h : R its { s with heap := (s.heap.push (seqObj "list" #[] 0)).update s.heap.objs.size (Obj.mapSeq (· ++ its.toArray)) }) (hz : its.length ≤ sizeLine) :
    wpAny (model prog w) A (collect (.ref l)) R E s := by
  obtain ⟨ob, hob, hcl, n, hdt⟩ := id hl
  unfold collect
  refine wpAny_bind (wpAny_runValue (codeAny_builtin entry_proto_collect' (by
    show wpAny _ _ (do again (.builtin "list.__iadd__" ⟨[← newList [], .ref l], []⟩)) _ _ s
    refine wpAny_bind (wpAny_newList (wpAny_pure ⟨Code.quiet_builtin _ (by decide +kernel), codeAny_builtin entry_list_iadd' ?_⟩))
    have hob' : (s.heap.push (seqObj "list" #[] 0)).get? l = some ob := Heap.get?_push_of_some _ hob
    show wpAny _ _ (Builtin.List.listExtendWith (.ref s.heap.objs.size) (.ref l) (.ref s.heap.objs.size)) _ _ { s with heap := s.heap.push (seqObj "list" #[] 0) }
    unfold Builtin.List.listExtendWith
    refine wpAny_bind (wpAny_typeOf (T := "tuple") ⟨ob, hob', hcl⟩ ?_)
    have two : (Value.type "tuple" == Value.type "tuple") = true := by rfl
    rw [if_pos (by rw [two]; simp)]
    refine wpAny_bind (listItems_at hob' hdt (listItems_at (xs := #[]) (n := 0) (Heap.get?_push_size _ rfl) rfl ?_ |> wpAny_bind))
    rw [if_neg (by simp)]
    refine wpAny_bind (listUpdate_at (xs := #[]) (n := 0) (Heap.get?_push_size _ rfl) rfl (wpAny_pure ?_) (Nat.zero_le _) (by
      show (#[] ++ its.toArray).size ≤ sizeLine + 1
      rw [Array.size_append, List.size_toArray]
      show 0 + its.length ≤ _
      omega))
    show wpAny (model prog w) A (do
        let o ← load s.heap.objs.size
        match o.data with
        | .seq xs _ => pure xs.toList
        | _ => unsupported "internal:collect") R E { s with heap := (s.heap.push (seqObj "list" #[] 0)).update s.heap.objs.size (Obj.mapSeq (· ++ its.toArray)) }
    refine wpAny_bind (wpAny_load (get?_update_seq (Heap.get?_push_size _ rfl) _) ?_)
    have same : ((#[] : Array Value) ++ its.toArray).toList = its := by simp
    show wpAny _ _ (pure ((#[] : Array Value) ++ its.toArray).toList) R E _
    rw [same]
    exact wpAny_pure h)))
theorem sorted_tup (hl : s.heap.IsTuple l its.toArray) (hi : IntsAre its ns) (h64 : its.length < 64)
    (h : ∀ (out : Array Value) (ms : List Int), IntsAre out.toList ms → ms.Perm ns → ms.Pairwise (· ≤ ·) → Q (.ref (s.heap.objs.size + 1)) { s with heap := sortedAll s.heap its out }) : wpAny (model prog w) A (call (.builtin "sorted") [.ref l]) Q E s := by
  refine Calls.call_function_entry kind_sorted plain_sorted entry_sorted (args_sorted1 _) (by
    unfold Builtin.«sorted»
    refine wpAny_bind (m := checkCount "sorted" 1 1 _) (wpAny_pure (wpAny_bind (collect_tup hl (wpAny_bind (wpAny_newList ?_)) (small64 h64))))
    have len1 : ((s.heap.push (seqObj "list" #[] 0)).update s.heap.objs.size (Obj.mapSeq (· ++ its.toArray))).objs.size = s.heap.objs.size + 1 := by rw [Heap.size_update, size_push']
    have atL : (((s.heap.push (seqObj "list" #[] 0)).update s.heap.objs.size (Obj.mapSeq (· ++ its.toArray))).push (seqObj "list" its.toArray 0)).get? (s.heap.objs.size + 1) = some (seqObj "list" its.toArray 0) := by
      rw [← len1]
      exact Heap.get?_push_size _ rfl
    show wpAny _ _ _ _ _ { s with heap := ((s.heap.push (seqObj "list" #[] 0)).update s.heap.objs.size (Obj.mapSeq (· ++ its.toArray))).push (seqObj "list" its.toArray 0) }
    rw [len1]
    exact wpAny_bind (wpAny_holding (wpAny_call_entry slot_list_sort ⟨_, atL, rfl⟩ entry_list_sort (list_sort_tree atL hi h64 fun out ms b1 b2 b3 => ⟨_, rfl, wpAny_pure ⟨_, rfl, h out ms b1 b2 b3⟩⟩) (args_list_sort _))))
end
section
variable {X : Cx}
def rSumT (K : PySem.W.Frag) : List V → Hp → VK → Prop := fun vs H Q => ∃ (a : Addr) (ns : List Int), vs = [V.ref a] ∧ SqT K H a (ns.map V.int) ∧ Q (.int ns.sum) H
theorem cr_sumT (hc : X.calm = true) : CallR X (.builtin "sum") (rSumT X.K) := fun pins s σ H vs us Q I r h => by
  obtain ⟨a, ns, rfl, hs, q⟩ := h
  obtain ⟨its, rv, hl, _⟩ := I.tuple hs
  rw [Vals.ref1 r]
  exact sum_tup (I.ok.hd hc) hl rv.ints fun h' tk t' hk => ⟨.int _, H, I.kept hk, ⟨_, rfl⟩, q⟩
def rSortedTup (K : PySem.W.Frag) : List V → Hp → VK → Prop := fun vs H Q => ∃ (a : Addr) (ns : List Int), vs = [V.ref a] ∧ SqT K H a (ns.map V.int) ∧ ns.length < 64 ∧
  ∀ (ms : List Int) (p : Addr), ms.Perm ns → ms.Pairwise (· ≤ ·) → H p = none → Q (.ref p) (upd H p (.lst (ms.map V.int)))
theorem cr_sortedTup : CallR X (.builtin "sorted") (rSortedTup X.K) := fun pins s σ H vs us Q I r h => by
  obtain ⟨a, ns, rfl, hs, h64, q⟩ := h
  obtain ⟨its, rv, hl, _⟩ := I.tuple hs
  rw [Vals.ref1 r]
  have hi := rv.ints
  have hn : its.length < 64 := by rw [hi.length]; exact h64
  refine sorted_tup hl hi hn fun out ms a1 a2 a3 => ?_
  obtain ⟨ep, at_⟩ := PyProof.Rows.sortedAll_at s.heap its out
  have hz : (ms.map V.int).length ≤ sizeLine := by rw [List.length_map, a2.length_eq]; exact small64 h64
  refine ⟨.ref _, upd H (s.heap.objs.size + 1) (.lst (ms.map V.int)), ?_, rfl, q ms _ a2 a3 (I.hok.fresh (Nat.le_succ _))⟩
  exact I.laid (t' := s.toks) (fun _ _ => PyProof.Rows.sortedAll_old) (Nat.le_succ _) ⟨hz, out.toList, ep, vals_of_ints a1, at_⟩
end
/-! ### enumerate of a tuple -/
theorem enum_newT (t : Addr) (items : Array Value) : Meets (Builtin.«enumerate.__new__» ⟨[.type "enumerate", .ref t], []⟩) (fun _ R s => s.heap.IsTuple t items ∧
    R (.ok (.ret (.ref (s.heap.push { cls := .type "tuple_iterator", data := .fields #[.ref t, .int 0 0] }).objs.size)))
      { s with heap := (s.heap.push { cls := .type "tuple_iterator", data := .fields #[.ref t, .int 0 0] }).push { cls := .type "enumerate", data := .fields #[.none, .bool false, .ref s.heap.objs.size, rawInt 0, .none, .none] } }) :=
  .of_wp fun prog w A R s hr => by
    obtain ⟨hp, g, d, tk, os⟩ := s
    obtain ⟨ht, hr⟩ := hr
    have hsub := sub_enumerate
    have it1 : ∀ {A' : Around} {E : Value → Shared → Prop} {Q : Value → Shared → Prop}, Q (.ref hp.objs.size) ⟨hp.push { cls := .type "tuple_iterator", data := .fields #[.ref t, .int 0 0] }, g, d, tk, os⟩ → wpAny (model prog w) A' (pyIter (.ref t)) Q E ⟨hp, g, d, tk, os⟩ :=
      fun q => wpAny_pyIter_tuple (s := ⟨hp, g, d, tk, os⟩) ht q
    wp_walk using it1
    refine wpAny_stack_any fun st => wpAny_pure (by
      split
      · rename_i c _ _ _ _ _
        cases (c == Value.type "enumerate") <;> (wp_walk using it1; exact ⟨_, rfl, hr⟩)
      · wp_walk using it1
        exact ⟨_, rfl, hr⟩)
section
variable {prog : Program} {w : World} {A : Around} {E : Value → Shared → Prop} {s : Shared}
theorem enum_tup {t : Addr} {items : Array Value} {Q : Value → Shared → Prop} (ht : s.heap.IsTuple t items)
    (h : ∀ h', IsEnum h' (s.heap.objs.size + 1) s.heap.objs.size 0 .none → h'.IsTupleIter s.heap.objs.size t 0 → (∀ b o, s.heap.get? b = some o → h'.get? b = some o) → Q (.ref (s.heap.objs.size + 1)) { s with heap := h' }) :
    wpAny (model prog w) A (call (.type "enumerate") [.ref t]) Q E s := by
  have len1 : (s.heap.push { cls := .type "tuple_iterator", data := .fields #[.ref t, .int 0 0] }).objs.size = s.heap.objs.size + 1 := Heap.size_push ..
  refine callType_new F.called_enumerate (by decide) (F.typeCall_enumerate_1 _) (F.newCall_enumerate_1 _) (fun obj => F.args_object_init_2 obj _) F.entry_enumerate_new (enum_newT t items) ⟨ht, ?_⟩
  show _ ∧ _
  rw [len1]
  have en : IsEnum ((s.heap.push { cls := .type "tuple_iterator", data := .fields #[.ref t, .int 0 0] }).push { cls := .type "enumerate", data := .fields #[.none, .bool false, .ref s.heap.objs.size, rawInt 0, .none, .none] }) (s.heap.objs.size + 1) s.heap.objs.size 0 .none := by
    have h0 := Heap.get?_push_size (s.heap.push { cls := .type "tuple_iterator", data := .fields #[.ref t, .int 0 0] }) (o := { cls := .type "enumerate", data := .fields #[.none, .bool false, .ref s.heap.objs.size, rawInt 0, .none, .none] }) rfl
    rw [len1] at h0
    exact h0
  exact ⟨⟨_, en, rfl⟩, h _ en ⟨_, Heap.get?_push_of_some _ (Heap.get?_push_size _ rfl), rfl, rfl⟩ fun b o x => Heap.get?_push_of_some _ (Heap.get?_push_of_some _ x)⟩
end
def IteT (K : PySem.W.Frag) (a : Addr) : It :=
  ⟨fun i H => ∃ (xs : List V) (x : V), SqT K H a xs ∧ xs[i]? = some x, fun i H v H' => ∃ T x, v = .ref T ∧ H T = none ∧ H' = upd H T (.tup [.int (i : Nat), x]) ∧ ∀ xs, SqT K H a xs → xs[i]? = some x, fun i H => ∃ xs : List V, SqT K H a xs ∧ xs.length ≤ i⟩
theorem turn_enumT {P : Program} {w : World} {K : PySem.W.Frag} {elts : List Expr} {kk : Nat} {tpos : Pos} {a e it : Addr} (hei : e ≠ it) (hai : a ≠ it) (hae : a ≠ e) :
    Turn P w K (.Tuple elts kk tpos) (IteT K a) [e, it] e (fun i h => (∃ old, IsEnum h e it ((i : Nat) : Int) old) ∧ h.IsTupleIter it a i) where
  mem := by simp
  obj := fun i h st b hb => by
    obtain ⟨⟨old, he⟩, ⟨o, ho, _, hd⟩⟩ := st
    simp only [List.mem_cons, List.not_mem_nil, or_false] at hb
    rcases hb with rfl | rfl
    · exact ⟨_, he, fun v q => nomatch q⟩
    · exact ⟨o, ho, fun v q => by rw [hd] at q; cases q⟩
  keep := fun i h h' st k => let ⟨⟨old, he⟩, hi⟩ := st; ⟨⟨old, k e (by simp) _ he⟩, hi.at fun o q => k it (by simp) o q⟩
  item := by
    intro X hP hw hK hc i pins s σ H E I hf st hg
    subst hP hw hK
    obtain ⟨⟨old, he⟩, hit⟩ := st
    obtain ⟨xs, x, hq, hx⟩ := hg
    obtain ⟨its, rv, p, hz⟩ := I.tuple hq
    obtain ⟨u, hu, ru⟩ := rv.get hx
    have le : e < s.heap.objs.size := Heap.lt_size he
    have li : it < s.heap.objs.size := by obtain ⟨_, q, _⟩ := hit; exact Heap.lt_size q
    have lt_ : i < its.toArray.size := by
      have := (List.getElem?_eq_some_iff.mp hu).1
      rw [List.size_toArray]
      exact this
    refine wpAny_pyNext_enum_itemD (Draws.tuple (A := X.A.in1) (show X.A.in1.handled = none from I.ok.hd hc) it a hai its.toArray) he ⟨hit, p⟩ lt_ hei (by simp only [List.mem_cons, List.not_mem_nil, or_false]; rintro (h | h); exact hei h; exact hae h.symm) fun u' h' tk hP ho st' hT hsz hk => ?_
    have hu' : u' = u := by
      have q : its[i]? = some u' := by simpa using hP
      rw [hu] at q
      exact (Option.some.inj q).symm
    subst hu'
    refine ⟨_, rfl, wpAny_letOwnedTupleGo_enum (s := { s with heap := h', toks := tk + 1 }) ho fun h'' he' sb => ?_⟩
    have hT2 : h''.get? s.heap.objs.size = some { cls := .type "tuple", data := .seq #[.int i tk, u'] } := (sb.2 _ (Nat.ne_of_gt le)).trans hT
    have fresh : ObjOk X.prog X.w (upd H s.heap.objs.size (.tup [.int (i : Nat), x])) h'' s.heap.objs.size (.tup [.int (i : Nat), x]) :=
      ⟨by show 2 ≤ sizeLine; decide, [.int i tk, u'], .cons ⟨_, rfl⟩ (.cons ru .nil), ⟨_, hT2, rfl, _, rfl⟩⟩
    have I1 : Inv X pins σ (upd H s.heap.objs.size (.tup [.int (i : Nat), x])) { s with heap := h'', toks := tk + 1 } :=
      I.turnedNew (ch := [e, it]) (fun b ob hb q => (sb.2 b (fun z => hb (by simp [z]))).trans (hk b ob (fun z => hb (by simp [z])) (fun z => hb (by simp [z])) q)) hf (Nat.le_refl _) fresh
    have e1 : ((i + 1 : Nat) : Int) = (i : Int) + 1 := by omega
    refine ⟨.ref s.heap.objs.size, _, I1, rfl, ⟨_, x, rfl, I.hok.fresh (Nat.le_refl _), rfl, fun ys hy => by rw [I.tuple_inj hy hq]; exact hx⟩, ⟨⟨u', by rw [e1]; exact he'⟩, st'.1.at fun o q => (sb.2 it (Ne.symm hei)).trans q⟩, fun b hb => ?_⟩
    have lb : b < s.heap.objs.size := by
      simp only [List.mem_cons, List.not_mem_nil, or_false] at hb
      rcases hb with rfl | rfl
      · exact le
      · exact li
    rw [upd_ne (Nat.ne_of_lt lb)]
    exact (hf b hb).1
  done := by
    intro X hP hw hK hc i pins s σ H E I hf st hg
    subst hP hw hK
    obtain ⟨⟨old, he⟩, hit⟩ := st
    obtain ⟨xs, hq, hx⟩ := hg
    obtain ⟨its, rv, p, hz⟩ := I.tuple hq
    obtain ⟨f0, f1, f2, f3, f4, f5⟩ := hf it (by simp)
    have hl := rv.length
    have hT : s.TypeIs (.ref e) "enumerate" := ⟨_, he, rfl⟩
    have no : its.toArray[i]? = none := by simp; omega
    unfold pyNext
    refine wpAny_bind (wpAny_attempt (wpAny_callSpecial?_slot (name := Str.ofString "__next__") hT F.slot_enumerate_next (wpAny_call_entry F.slot_enumerate_next hT F.entry_enumerate_next ?_ (F.args_enumerate_next_1 _))))
    show wpAny _ _ (field (.ref e) 2 >>= _) _ _ _
    refine wpAny_bind (wpAny_field he rfl (x := .ref it) rfl (wpAny_bind (wpAny_nextOf_tuple_end (I.ok.hd hc) hit p no fun h' x hb hs => ?_)))
    obtain ⟨o, ho, hcl⟩ := hs
    exact wpAny_bind (wpAny_isInstance (T := "StopIteration") (b := true) ⟨o, ho, hcl⟩ isSubtype_stop (wpAny_pure ⟨rfl, I.turned (t' := s.toks) (fun b o hb' q => hb b o hb' q) f0 f1 f3 f4 f5⟩))
  self := fun A i s Q E st h => let ⟨⟨_, he⟩, _⟩ := st; wpAny_pyIter_enum he h
def iEnumT (K : PySem.W.Frag) (ta : TA) : TI := fun σ H R => ta σ H fun vs H1 => ∃ a xs, vs = [.ref a] ∧ SqT K H1 a xs ∧ R (IteT K a) H1
theorem pi_enumT {X : Cx} {e : Expr} {ta : TA} {p pos tpos : Pos} {elts : List Expr} {kk : Nat} (hg : Gl X "enumerate") (hm : X.mg "enumerate" = none) (ha : PA X [e] ta) (hs : starEach [e] X.env = [(false, eval e X.env)] := by rfl) :
    PI X (.Tuple elts kk tpos) (.Call (.Name "enumerate" p) [e] [] pos) (iEnumT X.K ta) := ⟨fun pins s σ H R I h => by
  refine Call_ (ld_blt I hg hm boot_enumerate (PyProof.Rows.callWith_type1 (thn (ha.run pos pins s σ H _ I h) fun us s1 ⟨vs, H1, I1, r1, q1⟩ => ?_) hs rfl))
  obtain ⟨a, xs, rfl, hq, q⟩ := q1
  cases r1 with
  | cons r rr =>
    cases rr
    cases r
    obtain ⟨its, rv, tp, hz⟩ := I1.tuple hq
    have la : a < s1.heap.objs.size := by
      obtain ⟨_, e, _⟩ := id tp
      exact Heap.lt_size e
    refine enum_tup (show s1.heap.IsTuple a its.toArray from tp) fun h' he hit hk => wpAny_pyIter_enum he ?_
    refine ⟨s1.heap.objs.size + 1, [s1.heap.objs.size + 1, s1.heap.objs.size], _, _, H1, rfl, I1.kept (t' := s1.toks) hk, turn_enumT (Nat.succ_ne_self _) (Nat.ne_of_lt la) (Nat.ne_of_lt (Nat.lt_succ_of_lt la)), ⟨⟨.none, he⟩, hit⟩, fun b hb => ?_, q⟩
    have hle : s1.heap.objs.size ≤ b := by
      simp only [List.mem_cons, List.not_mem_nil, or_false] at hb
      rcases hb with rfl | rfl
      · exact Nat.le_add_right _ _
      · exact Nat.le_refl _
    exact I1.fpOk hle (I1.hok.fresh hle)⟩
theorem walk_enumT {K : PySem.W.Frag} {a : Addr} {xs : List V} : Walk (IteT K a) xs.length (fun H => SqT K H a xs) (YPair (fun i => some (.int (i : Nat))) (fun i => xs[i]?)) :=
  ⟨fun i _ hi q => ⟨xs, xs[i], q, by simp [hi]⟩, fun _ q => ⟨xs, q, Nat.le_refl _⟩, fun i H v H' _ q y => by
    obtain ⟨T, x, h1, h2, h3, h4⟩ := y
    exact ⟨T, .int (i : Nat), x, h1, h2, h3, rfl, h4 xs q⟩⟩
end CrT
namespace CrT
open PySem PySem.Spec PyProof.Rows L2
section
variable {prog : Program} {w : World} {A : Around} {E : Value → Shared → Prop} {s : Shared}
theorem adjust_rev (n : Nat) : Builtin.Slice.sliceAdjust none none (-1) (n : Int) = ((n : Int) - 1, -1) := by
  unfold Builtin.Slice.sliceAdjust
  rfl
theorem places_rev (n : Nat) : Builtin.Slice.slicePlaces ((n : Int) - 1) (-1) (-1) = n := by
  unfold Builtin.Slice.slicePlaces
  have h1 : ¬ ((-1 : Int) > 0) := by omega
  have h2 : (- (-1) : Int) = 1 := rfl
  simp only [h1, if_false, h2, Int.ediv_one]
  split <;> omega
theorem pick_rev (xs : Array Value) : ((List.range xs.size).filterMap fun (m : Nat) => xs[(((xs.size : Int) - 1) + (m : Int) * (-1)).toNat]?).toArray = xs.toList.reverse.toArray := by
  have e : (List.range xs.size).filterMap (fun (m : Nat) => xs[(((xs.size : Int) - 1) + (m : Int) * (-1)).toNat]?) = ((List.range xs.size).map fun k => xs.size - 1 - k).filterMap (xs[·]?) := by
    rw [show (fun (m : Nat) => xs[(((xs.size : Int) - 1) + (m : Int) * (-1)).toNat]?) = id ∘ (fun (m : Nat) => xs[(((xs.size : Int) - 1) + (m : Int) * (-1)).toNat]?) from rfl, ← List.filterMap_map]
    have e3 : (List.range xs.size).map (fun (m : Nat) => xs[(((xs.size : Int) - 1) + (m : Int) * (-1)).toNat]?) = (List.range xs.size).map (fun k => xs[xs.size - 1 - k]?) := List.map_congr_left fun m hm => by
      have := List.mem_range.mp hm
      have e2 : (((xs.size : Int) - 1) + (m : Int) * (-1)).toNat = xs.size - 1 - m := by omega
      rw [e2]
    rw [e3, List.filterMap_map, List.filterMap_map]
    rfl
  rw [e, PySem.W.krv_range, List.filterMap_reverse, PySem.W.krv_all]
theorem sliceApplied_rev {sl : Addr} {vl vu vs : Value} {n : Nat} {Q : Int × Int × Nat → Shared → Prop} (hs : s.heap.IsSliceOf sl vl vu vs) (pl : IsPart vl none) (pu : IsPart vu none) (ps : IsPart vs (some (-1)))
    (h : Q ((n : Int) - 1, -1, n) s) : wpAny (model prog w) A (Builtin.Slice.sliceApplied (.ref sl) (pure (n : Int))) Q E s := by
  obtain ⟨os, hos, hcs, hds⟩ := id hs
  unfold Builtin.Slice.sliceApplied Builtin.Slice.sliceFields
  refine wpAny_bind (wpAny_bind (wpAny_field hos hds (x := vl) rfl (wpAny_bind (wpAny_field hos hds (x := vu) rfl (wpAny_bind (wpAny_field hos hds (x := vs) rfl (wpAny_pure ?_)))))))
  refine wpAny_bind (HT.slicePart_ ps ?_)
  show wpAny _ _ (if ((-1 : Int) == 0) = true then _ else _) _ _ s
  rw [if_neg (by decide)]
  refine wpAny_bind (HT.slicePart_ pl (wpAny_bind (HT.slicePart_ pu (wpAny_bind (wpAny_pure ?_)))))
  show wpAny _ _ (match Builtin.Slice.sliceAdjust none none (-1) (n : Int) with | (lo, hi) => pure (lo, (-1 : Int), Builtin.Slice.slicePlaces lo hi (-1))) _ _ s
  rw [adjust_rev n]
  show wpAny _ _ (pure ((n : Int) - 1, (-1 : Int), Builtin.Slice.slicePlaces ((n : Int) - 1) (-1) (-1))) _ _ s
  rw [places_rev]
  exact wpAny_pure h
theorem getItem_tuple_rev {t sl : Addr} {items : Array Value} {vl vu vs : Value} {Q : Value → Shared → Prop} (ht : IsTup s.heap t items) (hs : s.heap.IsSliceOf sl vl vu vs) (pl : IsPart vl none) (pu : IsPart vu none) (ps : IsPart vs (some (-1)))
    (h : Q (.ref s.heap.objs.size) { s with heap := s.heap.push { cls := .type "tuple", data := .seq items.toList.reverse.toArray } })
    (hsz : items.size ≤ sizeLine) : wpAny (model prog w) A (getItem (.ref t) (.ref sl)) Q E s := by
  have htake : sizeOk (.seq items.toList.reverse.toArray) := by
    show items.toList.reverse.toArray.size ≤ sizeLine
    rw [List.size_toArray, List.length_reverse, Array.length_toList]
    omega
  obtain ⟨os, hos, hcs, hds⟩ := id hs
  have hTs : s.TypeIs (.ref sl) "slice" := ⟨os, hos, hcs⟩
  unfold getItem
  try with_reducible refine wpAny_holding ?_
  first | refine wpAny_bind (wpAny_pure ?_) | skip
  refine wpAny_bind (wpAny_sequenceKey ht.typeIs (by decide) ?_)
  refine wpAny_bind (wpAny_callSpecial?_slot (name := Str.ofString "__getitem__") ht.typeIs PyProof.Rows.slot_tuple_getitem
    (wpAny_call_entry PyProof.Rows.slot_tuple_getitem ht.typeIs entry_tuple_getitem ?_ (args_tuple_getitem _ _)))
  show wpAny _ _ (Builtin.Tuple.tupleItemsOf (.ref t) >>= _) _ _ s
  refine wpAny_bind (tupleItemsOf_ ht ?_)
  refine wpAny_bind (wpAny_typeOf hTs ?_)
  rw [if_pos (by decide)]
  refine wpAny_bind (sliceApplied_rev hs pl pu ps ?_)
  have hno : ¬ ((((items.size : Int) - 1) == 0 && (-1 : Int) == 1 && items.size == items.size) = true) := by
    intro q
    rw [Bool.and_eq_true, Bool.and_eq_true] at q
    exact absurd q.1.2 (by decide)
  show wpAny _ _ (if (((items.size : Int) - 1) == 0 && (-1 : Int) == 1 && items.size == items.size) = true then _ else _) _ _ s
  rw [if_neg hno, pick_rev]
  first
    | exact wpAny_bind (m := Builtin.Tuple.tupleExact _) (wpAny_newObj_type (wpAny_pure ⟨_, rfl, wpAny_pure h⟩) htake)
    | exact wpAny_bind (m := Builtin.Tuple.tupleExact _) (wpAny_newObj_type (wpAny_bind (wpAny_pure (wpAny_pure ⟨_, rfl, wpAny_pure h⟩))) htake)
    | exact wpAny_bind (wpAny_bind (m := Builtin.Tuple.tupleExact _) (wpAny_newObj_type (wpAny_pure (wpAny_pure ⟨_, rfl, wpAny_pure h⟩)) htake))
    | exact wpAny_bind (wpAny_bind (m := Builtin.Tuple.tupleExact _) (wpAny_newObj_type (wpAny_pure ⟨_, rfl, wpAny_pure h⟩) htake))
end
section
variable {X : Cx}
/-- t[::-1] -/
def tRevT (K : PySem.W.Frag) (te : TE) : TE := fun σ H Q => te σ H fun x H1 => ∃ a xs, x = .ref a ∧ SqT K H1 a xs ∧ ∀ p, H1 p = none → Q (.ref p) (upd H1 p (.tup xs.reverse))
theorem pe_revT {e : Expr} {te : TE} {k : Nat} {p1 p2 p3 pos : Pos} (he : PE X e te) : PE X (.Subscript e (.Slice none none (some (.UnaryOp .USub (.Constant (.int 1) k p1) p2)) p3) pos) (tRevT X.K te) := by
  refine ⟨fun pins s σ H Q I h => ?_⟩
  refine Subscript_ (thn (he.run pins s σ H _ I h) fun v s1 ⟨x, H1, I1, r1, q1⟩ => ?_)
  obtain ⟨a, xs, ex, hx, q⟩ := q1
  subst ex
  cases r1
  have hst : PO X (some (.UnaryOp .USub (.Constant (.int 1) k p1) p2)) (tPart (tUn (rU fun i => .int (-i)) (tC (.int 1)))) := po_some (pe_un un_neg pe_int)
  refine wpAny_Slice (thn (po_none.run pins s1 σ H1 (fun o H2 => o = none ∧ H2 = H1) I1 ⟨rfl, rfl⟩) fun vl s2 ⟨l, H2, I2, pl, el, e2⟩ => ?_)
  subst el e2
  refine thn (po_none.run pins s2 σ H2 (fun o H3 => o = none ∧ H3 = H2) I2 ⟨rfl, rfl⟩) fun vu s3 ⟨u, H3, I3, pu, eu, e3⟩ => ?_
  subst eu e3
  refine thn (hst.run pins s3 σ H3 (fun o H4 => o = some (-1) ∧ H4 = H3) I3 ⟨1, rfl, -1, rfl, rfl, rfl⟩) fun vs s4 ⟨o, H4, I4, ps, eo, e4⟩ => ?_
  subst eo e4
  have I5 : Inv X pins σ H4 { s4 with heap := s4.heap.push { cls := .type "slice", data := .fields #[vl, vu, vs] } } := I4.kept (t' := s4.toks) fun b ob q => Heap.get?_push_of_some _ q
  obtain ⟨its, r, ht, hz⟩ := I5.tuple hx
  have hlen := r.length
  show wpAny (model X.prog X.w) X.A (subscriptTail e (.Slice none none (some (.UnaryOp .USub (.Constant (.int 1) k p1) p2)) p3) (.ref a) (.ref s4.heap.objs.size)) (EP X pins σ Q) X.xe { s4 with heap := s4.heap.push { cls := .type "slice", data := .fields #[vl, vu, vs] } }
  refine tail_any (ops := [.ref a, .ref s4.heap.objs.size]) ht.typeIs PyProof.Rows.slot_tuple_getitem.lookup ?_ (by with_unfolding_all rfl)
  refine getItem_tuple_rev ht (Heap.IsSliceOf.new _ vl vu vs) pl pu ps ?_ (by rw [List.size_toArray]; omega)
  refine ⟨.ref _, _, I5.laid (t' := s4.toks) (o := .tup xs.reverse) (fun b ob q => Heap.get?_push_of_some _ q) (Nat.le_refl _) ?_, rfl, q _ (I5.hok.fresh (Nat.le_refl _))⟩
  exact ⟨by rw [List.length_reverse]; exact hz, _, r.reverse, IsTup.new _ _⟩
end
end CrT
/-! sorted of a list or a tuple of data -/
namespace CrT
open PySem PySem.Spec PyProof.Rows L2 PySem.W
section
variable {prog : Program} {w : World} {A : Around} {E : Value → Shared → Prop} {s : Shared} {β : Type} {vs : List Value} {bs : List β} {enc : β → PyData} {R : Value → β → Prop}
theorem sorted_of_sortT {l : Addr} {Q : Value → Shared → Prop} (hl : s.heap.IsTuple l vs.toArray) (hL : vs.length ≤ sizeLine)
    (body : ∀ E' : Value → Shared → Prop, wpAny (model prog w) A.in1.in1 (Builtin.«list.sort» ⟨[.ref (s.heap.objs.size + 1)], []⟩) (fun f s' => f = .done (.ret .none) ∧ Q (.ref (s.heap.objs.size + 1)) s') E' { s with heap := copyHeap s.heap vs }) :
    wpAny (model prog w) A (call (.builtin "sorted") [.ref l]) Q E s := by
  refine Calls.call_function_entry kind_sorted plain_sorted entry_sorted (args_sorted1 _) ?_
  unfold Builtin.«sorted»
  refine wpAny_bind (m := checkCount "sorted" 1 1 _) (wpAny_pure ?_)
  refine wpAny_bind (collect_tup hl ?_ hL)
  refine wpAny_bind (wpAny_newList ?_ hL)
  have hsz : ((s.heap.push (seqObj "list" #[] 0)).update s.heap.objs.size (Obj.mapSeq (· ++ vs.toArray))).objs.size = s.heap.objs.size + 1 := by
    rw [Heap.size_update, size_push']
  show wpAny _ _ _ _ _ { s with heap := copyHeap s.heap vs }
  rw [hsz]
  refine wpAny_bind (wpAny_holding (wpAny_call_entry slot_list_sort ⟨_, copyHeap_at s.heap vs, rfl⟩ entry_list_sort ?body (args_list_sort _)))
  case body =>
    show wpAny (model prog w) A.in1.in1 (Builtin.«list.sort» ⟨[.ref (s.heap.objs.size + 1)], []⟩) _ _ _
    refine wpAny_mono (body _) (fun f s' hf => ?_) fun _ _ e => e
    obtain ⟨rfl, hq⟩ := hf
    exact ⟨_, rfl, wpAny_pure ⟨_, rfl, hq⟩⟩
theorem sorted_dataT {l : Addr} {Q : Value → Shared → Prop} (hl : s.heap.IsTuple l vs.toArray) (e : EachIs R vs bs) (er : EachIs (fun v b => ∃ as, Reads s.heap v (enc b) as) vs bs) (hal : AllAlike (bs.map enc)) (hk : Sortable (bs.map enc)) (hL : bs.length ≤ sizeLine)
    (hu : ∀ b, b ∈ bs → A.units + 2 + (enc b).depth < cLine) (h : ∀ out, out.length = bs.length → EachIs R out (bs.mergeSort (dataLe false enc)) → Q (.ref (s.heap.objs.size + 1)) { s with heap := sortedAll s.heap vs (List.toArray out) }) :
    wpAny (model prog w) A (call (.builtin "sorted") [.ref l]) Q E s := by
  have er' : EachIs (fun v b => ∃ as, Reads (sortingHeap (copyHeap s.heap vs) (s.heap.objs.size + 1) vs) v (enc b) as) vs bs := er.mono fun _ _ ⟨as, r⟩ => ⟨as, PyProof.Rows.Reads.keeps (fun _ _ => sorting_copy_old) r⟩
  have hL' : vs.length ≤ sizeLine := by rw [e.length]; exact hL
  have S := SortsAt.data (prog := prog) (w := w) (A := A.in1.in1) (s := { s with heap := sortingHeap (copyHeap s.heap vs) (s.heap.objs.size + 1) vs }) (each_map (R := fun v d => ∃ as, Reads (sortingHeap (copyHeap s.heap vs) (s.heap.objs.size + 1) vs) v d as) enc er') hal hk (bound_map hu)
  exact sorted_of_sortT hl hL' fun _ => list_sort_vals (s := { s with heap := copyHeap s.heap vs }) (copyHeap_at s.heap vs) S hL' ⟨rfl, h _ (by rw [sortVals_length false rfl]; exact e.length) (sortVals_data false e er' hal)⟩
end
section
variable {K : PySem.W.Frag} {H : Hp}
theorem dpAll_len : ∀ {xs : List V} {ds : List PyData}, DpAll K H xs ds → xs.length = ds.length
  | [], [], _ => rfl
  | _ :: _, _ :: _, h => by
    cases h with
    | cons _ h => rw [List.length_cons, List.length_cons, dpAll_len h]
theorem each_vals : ∀ {xs : List V} {its : List Value} {ds : List PyData}, Vals xs its → xs.length = ds.length → EachIs (fun v (b : V × PyData) => RelV b.1 v) its (xs.zip ds)
  | [], _, [], h, _ => by cases h; exact .nil
  | _ :: _, _, [], _, hl => by simp at hl
  | [], _, _ :: _, _, hl => by simp at hl
  | x :: xs, _, d :: ds, h, hl => by
    cases h with
    | cons h1 h2 => exact .cons h1 (each_vals h2 (by simpa using hl))
theorem each_reads {h : Heap} : ∀ {xs : List V} {its : List Value} {ds : List PyData} {as : List Addr}, ReadsAll h its ds as → xs.length = ds.length → EachIs (fun v (b : V × PyData) => ∃ as, Reads h v b.2 as) its (xs.zip ds)
  | [], _, [], _, h, _ => by cases h; exact .nil
  | _ :: _, _, [], _, _, hl => by simp at hl
  | [], _, _ :: _, _, _, hl => by simp at hl
  | x :: xs, _, d :: ds, _, h, hl => by
    cases h with
    | cons h1 h2 => exact .cons ⟨_, h1⟩ (each_reads h2 (by simpa using hl))
theorem vals_each : ∀ {out : List Value} {zs : List (V × PyData)}, EachIs (fun v (b : V × PyData) => RelV b.1 v) out zs → Vals (zs.map Prod.fst) out
  | _, [], h => by cases h; exact .nil
  | _, z :: zs, h => by
    cases h with
    | cons h1 h2 => exact .cons h1 (vals_each h2)
theorem zip_snd {xs : List V} {ds : List PyData} (h : xs.length = ds.length) : (xs.zip ds).map Prod.snd = ds := List.map_snd_zip (by omega)
end
section
variable {X : Cx}
/-- the pairs of item and datum, in the order of the data -/
def sortZ (xs : List V) (ds : List PyData) : List (V × PyData) := (xs.zip ds).mergeSort (dataLe false Prod.snd)
def rSortedD (K : PySem.W.Frag) : List V → Hp → VK → Prop := fun vs H Q => ∃ (a : Addr) (xs : List V) (ds : List PyData), vs = [V.ref a] ∧ (SqL K H a xs ∨ SqT K H a xs) ∧ DpAll K H xs ds ∧ AllAlike ds ∧ Sortable ds ∧ (∀ d ∈ ds, d.depth ≤ 60) ∧
  ∀ p, H p = none → Q (.ref p) (upd H p (.lst ((sortZ xs ds).map Prod.fst)))
theorem cr_sortedD (hu : X.A.units + 65 < cLine) : CallR X (.builtin "sorted") (rSortedD X.K) := fun pins s σ H vs us Q I r h => by
  obtain ⟨a, xs, ds, rfl, hs, hd, hal, hk, hdp, q⟩ := h
  rw [Vals.ref1 r]
  have hl := dpAll_len hd
  have key : ∀ its : List Value, Vals xs its → xs.length ≤ sizeLine →
      EachIs (fun v (b : V × PyData) => RelV b.1 v) its (xs.zip ds) ∧ EachIs (fun v (b : V × PyData) => ∃ as, Reads s.heap v b.2 as) its (xs.zip ds) ∧ AllAlike ((xs.zip ds).map Prod.snd) ∧ Sortable ((xs.zip ds).map Prod.snd) ∧ (xs.zip ds).length ≤ sizeLine ∧ (∀ b, b ∈ xs.zip ds → X.A.units + 2 + (Prod.snd b).depth < cLine) ∧
      ∀ out : List Value, out.length = (xs.zip ds).length → EachIs (fun v (b : V × PyData) => RelV b.1 v) out ((xs.zip ds).mergeSort (dataLe false Prod.snd)) → EP X pins σ Q (.ref (s.heap.objs.size + 1)) { s with heap := sortedAll s.heap its (List.toArray out) } := fun its rv hz => by
    obtain ⟨as, rr⟩ := Dp.readsAll I ds xs its hd rv
    refine ⟨each_vals rv hl, each_reads rr hl, ?_, ?_, ?_, fun b hb => ?_, fun out ho he => ?_⟩
    · rw [zip_snd hl]; exact hal
    · rw [zip_snd hl]; exact hk
    · rw [List.length_zip]; omega
    · have := hdp b.2 (List.of_mem_zip hb).2
      show X.A.units + 2 + b.2.depth < cLine
      omega
    · obtain ⟨ep, at_⟩ := PyProof.Rows.sortedAll_at s.heap its (List.toArray out)
      have hz' : ((sortZ xs ds).map Prod.fst).length ≤ sizeLine := by
        unfold sortZ
        rw [List.length_map, (List.mergeSort_perm _ _).length_eq, List.length_zip]
        omega
      refine ⟨.ref _, upd H (s.heap.objs.size + 1) (.lst ((sortZ xs ds).map Prod.fst)), ?_, rfl, q _ (I.hok.fresh (Nat.le_succ _))⟩
      exact I.laid (t' := s.toks) (fun _ _ => PyProof.Rows.sortedAll_old) (Nat.le_succ _) ⟨hz', out, ep, vals_each he, at_⟩
  rcases hs with hs | hs
  · obtain ⟨its, rv, ht, hz⟩ := I.list hs
    obtain ⟨k1, k2, k3, k4, k5, k6, k7⟩ := key its rv hz
    exact sorted_data ht.isList k1 k2 k3 k4 k5 k6 k7
  · obtain ⟨its, rv, ht, hz⟩ := I.tuple hs
    obtain ⟨k1, k2, k3, k4, k5, k6, k7⟩ := key its rv hz
    exact sorted_dataT ht k1 k2 k3 k4 k5 k6 k7
end
end CrT
namespace Cr
open PySem PySem.Spec PyProof.Rows L2 Evl CrT
/-! ### which condition holds of which value -/
def numD : PyData → Int
  | .int i => i
  | _ => 0
def rise : List Int → Bool
  | a :: b :: r => decide (a ≤ b) && rise (b :: r)
  | _ => true
def diff : List PyData → Bool
  | [] => true
  | d :: ds => (!ds.any fun z => PyData.eqv z d) && diff ds
def holdsC : Cd → PyData → Bool
  | .atmost n, d => match d with | .int i => decide (i ≤ n) | _ => false
  | .divides n, d => match d with | .int i => decide (V.int (i % n) = V.int 0) | _ => false
  | .is s, d => match d with | .str x => decide (V.str x = V.str s) | _ => false
  | .item i c, d => match d with | .tuple ds => holdsC c (ds.getD i.toNat .none) | _ => false
  | .every c, d => match d with | .tuple ds => ds.all (holdsC c) | _ => false
  | .some_ c, d => match d with | .tuple ds => ds.any (holdsC c) | _ => false
  | .size c, d => match d with | .tuple ds => holdsC c (.int (ds.length : Int)) | _ => false
  | .sum c, d => match d with | .tuple ds => holdsC c (.int (ds.map numD).sum) | _ => false
  | .rising, d => match d with | .tuple ds => rise (ds.map numD) | _ => false
  | .different, d => match d with | .tuple ds => diff ds | _ => false
  | .not_ c, d => !holdsC c d
  | .and_ c e, d => holdsC c d && holdsC e d
  | .or_ c e, d => holdsC c d || holdsC e d
/-! ### what fitting and being of the kind say -/
theorem isInt_of {k : Kd} (h : k.isInt = true) : k = .int := by cases k <;> first | rfl | cases h
theorem isWord_of {k : Kd} (h : k.isWord = true) : k = .word := by cases k <;> first | rfl | cases h
theorem isk_int {d : PyData} (h : isk .int d = true) : ∃ i, d = .int i := by
  cases d <;> first | exact ⟨_, rfl⟩ | simp [isk] at h
theorem isk_word {d : PyData} (h : isk .word d = true) : ∃ s, d = .str s := by
  cases d <;> first | exact ⟨_, rfl⟩ | simp [isk] at h
theorem isk_lst {j : Kd} {d : PyData} (h : isk (.lst j) d = true) : ∃ ds, d = .tuple ds ∧ ∀ e ∈ ds, isk j e = true := by
  cases d <;> first | exact ⟨_, rfl, fun e he => List.all_eq_true.mp (by rw [isk] at h; exact h) e he⟩ | simp [isk] at h
theorem isk_tup {ks : List Kd} {d : PyData} (h : isk (.tup ks) d = true) : ∃ ds, d = .tuple ds ∧ iskAll ks ds = true := by
  cases d <;> first | exact ⟨_, rfl, by rw [isk] at h; exact h⟩ | simp [isk] at h
theorem iskAll_get : ∀ {ks : List Kd} {ds : List PyData}, iskAll ks ds = true → ks.length = ds.length ∧ ∀ (i : Nat), i < ks.length → isk (ks.getD i .int) (ds.getD i .none) = true
  | [], [], _ => ⟨rfl, fun i h => by simp at h⟩
  | [], _ :: _, h => by simp [iskAll] at h
  | _ :: _, [], h => by simp [iskAll] at h
  | k :: ks, d :: ds, h => by
    rw [iskAll] at h
    obtain ⟨h1, h2⟩ := Bool.and_eq_true_iff.mp h
    obtain ⟨hl, hi⟩ := iskAll_get h2
    refine ⟨by rw [List.length_cons, List.length_cons, hl], fun i hi' => ?_⟩
    cases i with
    | zero => exact h1
    | succ i => exact hi i (by simpa using hi')
theorem fits_item {m : Int} {c : Cd} {k : Kd} (h : fitsC (.item m c) k = true) : ∃ (j : Nat) (ks : List Kd), m = (j : Int) ∧ k = .tup ks ∧ j < ks.length ∧ fitsC c (ks.getD j .int) = true := by
  have h' : ((decide (0 ≤ m) && decide (m < (k.parts.length : Int))) && fitsC c (k.parts.getD m.toNat .int)) = true := h
  obtain ⟨h1, h2⟩ := Bool.and_eq_true_iff.mp h'
  obtain ⟨h3, h4⟩ := Bool.and_eq_true_iff.mp h1
  have h3 := of_decide_eq_true h3
  have h4 := of_decide_eq_true h4
  obtain ⟨j, rfl⟩ := Int.eq_ofNat_of_zero_le h3
  cases k with
  | tup ks => exact ⟨j, ks, rfl, rfl, Int.ofNat_lt.mp h4, h2⟩
  | _ => exact absurd h4 (by simp only [Kd.parts, List.length_nil]; omega)
theorem fits_list {f : Kd → Bool} {k : Kd} (h : (match k with | .lst j => f j | _ => false) = true) : ∃ j, k = .lst j ∧ f j = true := by
  cases k with
  | lst j => exact ⟨j, rfl, h⟩
  | _ => cases h
theorem ints_of {ds : List PyData} (h : ∀ e ∈ ds, isk .int e = true) : ds = (ds.map numD).map PyData.int := by
  rw [List.map_map]
  refine (List.map_id ds).symm.trans (List.map_congr_left fun e he => ?_)
  obtain ⟨i, rfl⟩ := isk_int (h e he)
  rfl
section
variable {K : PySem.W.Frag} {σ : L2.St} {H H' : Hp} {ta tb tl tm te : TE} {t : TT} {v x y z : V}
theorem vd_ints {a : Addr} {ns : List Int} (h : Vd K H (.ref a) (.tuple (ns.map PyData.int))) : SqT K H a (ns.map V.int) := by
  obtain ⟨xs, hs, hl, hi⟩ := h.get
  have e : xs = ns.map V.int := by
    rw [List.length_map] at hl
    apply List.ext_getElem
    · rw [List.length_map, hl]
    · intro i h1 h2
      have h3 : i < ns.length := by omega
      have q := (hi i _ _ (List.getElem?_eq_getElem h1) (by rw [List.getElem?_map, List.getElem?_eq_getElem h3]; rfl)).int_inv
      rw [q]
      simp
  rw [← e]
  exact hs
/-- a tuple, new or not -/
def EvS (K : PySem.W.Frag) (te : TE) (σ : L2.St) (H : Hp) (ys : List V) : Prop := ∀ H1, Ex H H1 → ∀ Q : VK, (∀ p H2, Ex H1 H2 → SqT K H2 p ys → Q (.ref p) H2) → te σ H1 Q
theorem evs_from1 {a : Addr} {xs : List V} (h : Ev te σ H (.ref a)) (hs : SqT K H a xs) : EvS K (tSl (rSlA K) te (tPart (tC (.int 1))) tNoPart) σ H (xs.drop 1) := fun H1 e Q q => h H1 e _ fun H2 e2 => by
  have h2 := ex_t (e.trans e2) hs
  have s1 : HT.sIx xs.length 0 (some 1) = min 1 xs.length := HT.sIx_nat _ 0 1
  refine ⟨1, rfl, a, xs, rfl, h2, fun hw => ?_, fun hw p hp => ?_⟩
  · have h1 := hw.1
    rw [s1] at h1
    have : xs = [] := by
      cases xs with
      | nil => rfl
      | cons _ _ => rw [List.length_cons] at h1; omega
    subst this
    exact q a H2 e2 h2
  · have hc : cutV xs (some 1) none = xs.drop 1 := by
      unfold cutV
      rw [s1, HT.sIx_none]
      cases xs with
      | nil => rfl
      | cons x r =>
        rw [show min 1 (x :: r).length = 1 by rw [List.length_cons]; omega]
        show (List.take ((x :: r).length - 1) r) = r
        rw [List.length_cons, Nat.add_sub_cancel]
        exact List.take_length
    rw [hc]
    exact q p _ (e2.trans (Ex.new hp)) (.of upd_same)
/-- t[i + 1:], t[:j] within the tuple -/
theorem evs_after {a : Addr} {xs : List V} {i : Nat} (h : Ev te σ H (.ref a)) (hi : Ev ta σ H (.int ((i : Int) + 1))) (hs : SqT K H a xs) (hl : i < xs.length) : EvS K (tSl (rSlA K) te (tPart ta) tNoPart) σ H (xs.drop (i + 1)) := fun H1 e Q q => h H1 e _ fun H2 e2 => hi H2 (e.trans e2) _ fun H3 e3 => by
  have h2 := ex_t ((e.trans e2).trans e3) hs
  have s1 : HT.sIx xs.length 0 (some ((i : Int) + 1)) = i + 1 := by
    rw [show ((i : Int) + 1) = ((i + 1 : Nat) : Int) by omega, HT.sIx_nat]
    omega
  refine ⟨_, rfl, a, xs, rfl, h2, fun hw => ?_, fun hw p hp => ?_⟩
  · have h1 := hw.1
    rw [s1] at h1
    omega
  · have hc : cutV xs (some ((i : Int) + 1)) none = xs.drop (i + 1) := by
      unfold cutV
      rw [s1, HT.sIx_none]
      exact List.take_of_length_le (by rw [List.length_drop]; exact Nat.le_refl _)
    rw [hc]
    exact q p _ ((e2.trans e3).trans (Ex.new hp)) (.of upd_same)
theorem evs_ahead {a : Addr} {xs : List V} {j : Nat} (h : Ev te σ H (.ref a)) (hi : Ev ta σ H (.int (j : Int))) (hs : SqT K H a xs) (hl : j < xs.length) : EvS K (tSl (rSlA K) te tNoPart (tPart ta)) σ H (xs.take j) := fun H1 e Q q => h H1 e _ fun H2 e2 => hi H2 (e.trans e2) _ fun H3 e3 => by
  have h2 := ex_t ((e.trans e2).trans e3) hs
  have s1 : HT.sIx xs.length xs.length (some (j : Int)) = j := by
    rw [HT.sIx_nat]
    omega
  refine ⟨_, rfl, a, xs, rfl, h2, fun hw => ?_, fun hw p hp => ?_⟩
  · have h1 := hw.2
    rw [s1] at h1
    omega
  · have hc : cutV xs none (some (j : Int)) = xs.take j := by
      unfold cutV
      rw [s1, HT.sIx_none]
      rfl
    rw [hc]
    exact q p _ ((e2.trans e3).trans (Ex.new hp)) (.of upd_same)
/-- x in such a tuple -/
theorem ev_inS {no : Bool} {d : PyData} {ds : List PyData} {ys : List V} (ha : Ev ta σ H x) (hb : EvS K tb σ H ys) (hx : Vd K H x d) (hy : ∀ H1, Ex H H1 → Vds K H1 ys ds) (sd : SeqAt.shaped d = true) (se : SeqAt.shaped (.tuple ds) = true) :
    Ev (tOp (rInTup K no) ta tb) σ H (.bl (if no then !ds.any fun z => PyData.eqv z d else ds.any fun z => PyData.eqv z d)) := fun H1 e Q q =>
  ha H1 e _ fun H2 e2 => hb H2 (e.trans e2) _ fun p H3 e3 hp => ⟨d, ds, (hx.keep (Kt.same ((e.trans e2).trans e3))).dp, ((hy H3 ((e.trans e2).trans e3)).tup hp).dp, sd, se, q H3 (e2.trans e3)⟩
/-- all pairs of two tuples, the second one such -/
theorem el_lcZS {a : Addr} {xs ys : List V} {j1 j2 : Nat} {vs : List Nat} (v : Nat → V) (h : Ev tl σ H (.ref a)) (h2 : EvS K tm σ H ys) (hx : SqT K H a xs) (hz : min xs.length ys.length ≤ 40000)
    (hw : ∀ x y, wipe (((wipe σ vs).set j1 (some x)).set j2 (some y)) vs = wipe σ vs)
    (he : ∀ (i : Nat) (x y : V) H1, Ex H H1 → xs[i]? = some x → ys[i]? = some y → Ev te (((wipe σ vs).set j1 (some x)).set j2 (some y)) H1 (v i)) :
    EvL (tLc (RZ.iZipA K (tCons tl (tCons tm tNil))) (gTup K 2 (gCons (gName j1) (gCons (gName j2) gNil))) tYes te vs) σ H (given (min xs.length ys.length) (fun _ => true) v) := fun H0 e Q q => h H0 e _ fun H1 e1 => h2 H1 (e.trans e1) _ fun b H2 e2 hy =>
  ⟨a, b, xs, ys, rfl, .inr ⟨ex_t ((e.trans e1).trans e2) hx, hy, fun Dl hD =>
  lc_it (walk_zipT rfl) (Cw H2 (fun _ => true) v Dl) ⟨hD, Ex.new hD, upd_same⟩ (fun _ _ _ p => ⟨ex_t (((e.trans e1).trans e2).trans p.2.1) hx, ex_t p.2.1 hy⟩) (fun i x H3 H' hi p y => by
    obtain ⟨T, x1, x2, rfl, hT, rfl, f1, f2⟩ := y
    have p' : Cw H2 (fun _ => true) v Dl i (upd H3 T (.tup [x1, x2])) := ⟨p.1, p.2.1.trans (Ex.new hT), by rw [upd_ne (ne_of_none p.2.2 hT)]; exact p.2.2⟩
    exact ⟨T, [x1, x2], rfl, .inl (.inl upd_same), rfl, x1, [x2], rfl, x2, [], rfl, rfl, hw _ _, cw_turn p' (by omega) et_yes (fun _ => he i x1 x2 H2 ((e.trans e1).trans e2) f1 f2)⟩)
    (fun H' p => q Dl H' (fresh_back (e1.trans e2) p.1) ((e1.trans e2).trans p.2.1) p.2.2)⟩⟩
/-- .. over enumerate of a tuple -/
theorem el_lcE {a : Addr} {xs : List V} {j1 j2 : Nat} {vs : List Nat} (v : Nat → V) (h : Ev tl σ H (.ref a)) (hx : SqT K H a xs) (hz : xs.length ≤ 40000)
    (hw : ∀ x y, wipe (((wipe σ vs).set j1 (some x)).set j2 (some y)) vs = wipe σ vs)
    (he : ∀ (i : Nat) (x : V) H1, Ex H H1 → xs[i]? = some x → Ev te (((wipe σ vs).set j1 (some (.int (i : Int)))).set j2 (some x)) H1 (v i)) :
    EvL (tLc (iEnumT K (tCons tl tNil)) (gTup K 2 (gCons (gName j1) (gCons (gName j2) gNil))) tYes te vs) σ H (given xs.length (fun _ => true) v) := fun H0 e Q q => h H0 e _ fun H1 e1 =>
  ⟨a, xs, rfl, ex_t (e.trans e1) hx, fun Dl hD =>
  lc_it walk_enumT (Cw H1 (fun _ => true) v Dl) ⟨hD, Ex.new hD, upd_same⟩ (fun _ _ _ p => ex_t ((e.trans e1).trans p.2.1) hx) (fun i x H3 H' hi p y => by
    obtain ⟨T, x1, x2, rfl, hT, rfl, f1, f2⟩ := y
    cases f1
    have p' : Cw H1 (fun _ => true) v Dl i (upd H3 T (.tup [.int (i : Int), x2])) := ⟨p.1, p.2.1.trans (Ex.new hT), by rw [upd_ne (ne_of_none p.2.2 hT)]; exact p.2.2⟩
    exact ⟨T, [.int (i : Int), x2], rfl, .inl (.inl upd_same), rfl, _, [x2], rfl, x2, [], rfl, rfl, hw _ _, cw_turn p' (by omega) et_yes (fun _ => he i x2 H1 (e.trans e1) f2)⟩)
    (fun H' p => q Dl H' (fresh_back e1 p.1) (e1.trans p.2.1) p.2.2)⟩
theorem ev_sumT {a : Addr} {ns : List Int} (ha : Ev ta σ H (.ref a)) (h : SqT K H a (ns.map V.int)) : Ev (tCB (rSumT K) (tCons ta tNil)) σ H (.int ns.sum) := fun H1 e Q q =>
  ha H1 e _ fun H2 e2 => ⟨a, ns, rfl, ex_t (e.trans e2) h, q H2 e2⟩
end
theorem Room.u65 {k : Nat} {A : Around} (r : Room k A) : A.units + 65 < cLine := by
  have := r.un
  omega
/-! ### rising, different -/
theorem rise_pairs : ∀ ns : List Int, ((List.range (ns.length - 1)).map fun i => decide (ns.getD i 0 ≤ ns.getD (i + 1) 0)).all id = rise ns
  | [] => rfl
  | [_] => rfl
  | a :: b :: r => by
    have ih := rise_pairs (b :: r)
    show ((List.range (r.length + 1)).map fun i => decide ((a :: b :: r).getD i 0 ≤ (a :: b :: r).getD (i + 1) 0)).all id = (decide (a ≤ b) && rise (b :: r))
    rw [List.range_succ_eq_map, List.map_cons, List.map_map, List.all_cons, ← ih]
    rfl
theorem rise_sorted : ∀ {ns : List Int}, rise ns = true → ns.Pairwise (· ≤ ·)
  | [], _ => .nil
  | [_], _ => List.pairwise_singleton _ _
  | a :: b :: r, h => by
    obtain ⟨h1, h2⟩ := Bool.and_eq_true_iff.mp (show (decide (a ≤ b) && rise (b :: r)) = true from h)
    have h1 := of_decide_eq_true h1
    have ih := rise_sorted h2
    refine .cons (fun x hx => ?_) ih
    rcases List.mem_cons.mp hx with rfl | hx
    · exact h1
    · exact Int.le_trans h1 ((List.pairwise_cons.mp ih).1 x hx)
theorem sorted_rise : ∀ {ns : List Int}, ns.Pairwise (· ≤ ·) → rise ns = true
  | [], _ => rfl
  | [_], _ => rfl
  | a :: b :: r, h => by
    obtain ⟨h1, h2⟩ := List.pairwise_cons.mp h
    show (decide (a ≤ b) && rise (b :: r)) = true
    rw [decide_eq_true (h1 b List.mem_cons_self), sorted_rise h2]
    rfl
theorem rise_eq {ns ms : List Int} (hp : ms.Perm ns) (hs : ms.Pairwise (· ≤ ·)) : decide (ns = ms) = rise ns := by
  rw [Bool.eq_iff_iff, decide_eq_true_iff]
  constructor
  · intro e
    rw [e]
    exact sorted_rise hs
  · intro h
    exact PySem.W.ksm_same hp.symm (rise_sorted h) hs
theorem eqv_ints : ∀ ns ms : List Int, PyData.eqvAll (ns.map PyData.int) (ms.map PyData.int) = decide (ns = ms)
  | [], [] => rfl
  | [], _ :: _ => rfl
  | _ :: _, [] => rfl
  | a :: ns, b :: ms => by
    show ((a == b) && PyData.eqvAll (ns.map PyData.int) (ms.map PyData.int)) = _
    rw [eqv_ints ns ms, Bool.eq_iff_iff]
    simp
theorem diff_after : ∀ ds : List PyData, ((List.range ds.length).map fun i => !(ds.drop (i + 1)).any fun z => PyData.eqv z (ds.getD i .none)).all id = diff ds
  | [] => rfl
  | d :: ds => by
    rw [List.length_cons, List.range_succ_eq_map, List.map_cons, List.map_map, List.all_cons]
    show ((!ds.any fun z => PyData.eqv z d) && _) = ((!ds.any fun z => PyData.eqv z d) && diff ds)
    rw [← diff_after ds]
    rfl
theorem diff_iff : ∀ ds : List PyData, diff ds = true ↔ ds.Pairwise fun x y => PyData.eqv x y = false
  | [] => ⟨fun _ => .nil, fun _ => rfl⟩
  | d :: ds => by
    rw [List.pairwise_cons, ← diff_iff ds]
    show ((!ds.any fun z => PyData.eqv z d) && diff ds) = true ↔ _
    rw [Bool.and_eq_true, Bool.not_eq_true', List.any_eq_false]
    constructor
    · rintro ⟨h1, h2⟩
      exact ⟨fun z hz => by rw [PySem.W.eqv_comm]; simpa using h1 z hz, h2⟩
    · rintro ⟨h1, h2⟩
      exact ⟨fun z hz => by rw [PySem.W.eqv_comm, h1 z hz]; decide, h2⟩
theorem diff_ahead (ds : List PyData) : ((List.range ds.length).map fun j => !(ds.take j).any fun z => PyData.eqv z (ds.getD j .none)).all id = diff ds := by
  rw [Bool.eq_iff_iff, diff_iff, List.all_map, List.all_eq_true, List.pairwise_iff_getElem]
  constructor
  · intro h i j hi hj hij
    have q := h j (List.mem_range.mpr hj)
    have q' : (!(ds.take j).any fun z => PyData.eqv z (ds.getD j .none)) = true := q
    rw [Bool.not_eq_true', List.any_eq_false] at q'
    have m : ds[i] ∈ ds.take j := List.mem_iff_getElem.mpr ⟨i, by rw [List.length_take]; omega, by rw [List.getElem_take]⟩
    have r := q' _ m
    rw [List.getD_eq_getElem?_getD, List.getElem?_eq_getElem hj] at r
    simpa using r
  · intro h j hj
    have hj := List.mem_range.mp hj
    show (!(ds.take j).any fun z => PyData.eqv z (ds.getD j .none)) = true
    rw [Bool.not_eq_true', List.any_eq_false]
    intro z hz
    obtain ⟨i, hi, rfl⟩ := List.mem_iff_getElem.mp hz
    rw [List.length_take] at hi
    rw [List.getD_eq_getElem?_getD, List.getElem?_eq_getElem hj, List.getElem_take]
    have q := h i j (by omega) hj (by omega)
    show ¬ PyData.eqv ds[i] ds[j] = true
    rw [q]
    decide
/-! ### the promises -/
def spHolds (K : PySem.W.Frag) (n : Nat) : Sp := fun vs H Q _ => ∃ (v u : V) (c : Cd) (k : Kd) (d : PyData), vs = [v, u] ∧ Vd K H v c.data ∧ OkC n c ∧ Vd K H u d ∧ Dk 20 d ∧ fitsC c k = true ∧ isk k d = true ∧ ∀ H', Same H H' → Q (.bl (holdsC c d)) H'
def spDiff (K : PySem.W.Frag) : Sp := fun vs H Q _ => ∃ (u : V) (ds : List PyData), vs = [u] ∧ Vd K H u (.tuple ds) ∧ Dk 20 (.tuple ds) ∧ ∀ H', Same H H' → Q (.bl (diff ds)) H'
theorem spHolds_0 {K : PySem.W.Frag} (vs : List V) (H : Hp) (Q : VK) (E : XK) : ¬ spHolds K 0 vs H Q E := fun h => by
  obtain ⟨_, _, _, _, _, _, _, h, _⟩ := h
  cases h
theorem holds_call {K : PySem.W.Frag} {H : Hp} {n : Nat} {v u : V} {c : Cd} {k : Kd} {d : PyData} (hv : Vd K H v c.data) (hc : OkC n c) (hu : Vd K H u d) (hd : Dk 20 d) (hf : fitsC c k = true) (hi : isk k d = true) : SpV (spHolds K n) [v, u] H (.bl (holdsC c d)) := fun H1 e Q q E =>
  ⟨v, u, c, k, d, rfl, hv.keep (Kt.same e), hc, hu.keep (Kt.same e), hd, hf, hi, fun H' e' => q H' e'⟩
theorem Vd.vds {K : PySem.W.Frag} {H : Hp} {a : Addr} {ds : List PyData} (h : Vd K H (.ref a) (.tuple ds)) : ∃ xs, SqT K H a xs ∧ Vds K H xs ds := by
  obtain ⟨xs, hs, hl, hi⟩ := h.get
  exact ⟨xs, hs, hl, hi⟩
theorem Vds.drop {K : PySem.W.Frag} {H : Hp} {xs : List V} {ds : List PyData} (h : Vds K H xs ds) (n : Nat) : Vds K H (xs.drop n) (ds.drop n) :=
  ⟨by rw [List.length_drop, List.length_drop, h.1], fun i v d h1 h2 => h.2 (n + i) v d (by rw [List.getElem?_drop] at h1; exact h1) (by rw [List.getElem?_drop] at h2; exact h2)⟩
theorem Vds.take {K : PySem.W.Frag} {H : Hp} {xs : List V} {ds : List PyData} (h : Vds K H xs ds) (n : Nat) : Vds K H (xs.take n) (ds.take n) :=
  ⟨by rw [List.length_take, List.length_take, h.1], fun i v d h1 h2 => by
    rw [List.getElem?_take] at h1 h2
    by_cases hi : i < n
    · rw [if_pos hi] at h1 h2
      exact h.2 i v d h1 h2
    · rw [if_neg hi] at h1
      cases h1⟩
theorem Dk.sub {n : Nat} {ds es : List PyData} (h : Dk n (.tuple ds)) (hl : es.length ≤ ds.length) (hs : ∀ e ∈ es, e ∈ ds) : Dk n (.tuple es) := by
  cases h with
  | tup h1 h2 => exact .tup (Nat.le_trans hl h1) fun e he => h2 e (hs e he)
theorem any_items {α : Type} (a0 : α) (p : α → Bool) (ds : List α) : ((List.range ds.length).map fun i => p (ds.getD i a0)).any id = ds.any p := by
  have h : ((List.range ds.length).map fun i => p (ds.getD i a0)) = ds.map p := by
    apply List.ext_getElem
    · simp
    · intro i h1 h2
      simp at h1
      simp [List.getD_eq_getElem?_getD, List.getElem?_eq_getElem h1]
  rw [h, List.any_map]
  rfl
theorem flat_bls (bs : List Bool) : (bs.map V.bl).all flatV = true := by
  rw [List.all_map, List.all_eq_true]
  exact fun _ _ => rfl
theorem in_false (bs : List Bool) : (!inV (.bl false) (bs.map V.bl)) = bs.all id := by
  unfold inV
  rw [List.any_map]
  induction bs with
  | nil => rfl
  | cons b bs ih =>
    rw [List.any_cons, List.all_cons, Bool.not_or, ih]
    cases b <;> rfl
theorem in_true (bs : List Bool) : inV (.bl true) (bs.map V.bl) = bs.any id := by
  unfold inV
  rw [List.any_map]
  induction bs with
  | nil => rfl
  | cons b bs ih =>
    rw [List.any_cons, List.any_cons, ih]
    cases b <;> rfl
theorem dp_ints {K : PySem.W.Frag} {H : Hp} : ∀ ns : List Int, DpAll K H (ns.map V.int) (ns.map PyData.int)
  | [] => .nil
  | n :: ns => .cons (.int n) (dp_ints ns)
theorem at_int {ns : List Int} {i : Nat} {x : V} (h : (ns.map V.int)[i]? = some x) : x = .int (ns.getD i 0) := by
  obtain ⟨m, hm, rfl⟩ := map_int h
  rw [List.getD_eq_getElem?_getD, hm]
  rfl
end Cr
namespace Cr
open PySem PySem.Spec PyProof.Rows L2 Evl CrT
/-! ### maps -/
inductive Mp where
  | plus (n : Int) | times (n : Int) | item (k : Int) | length | sum | sorted | reversed
def Mp.data : Mp → PyData
  | .plus n => .tuple [.str "plus", .int n]
  | .times n => .tuple [.str "times", .int n]
  | .item k => .tuple [.str "item", .int k]
  | .length => .tuple [.str "length"]
  | .sum => .tuple [.str "sum"]
  | .sorted => .tuple [.str "sorted"]
  | .reversed => .tuple [.str "reversed"]
def behind : Mp → Kd → Option Kd
  | .plus n, k => if k.isInt && (decide (-1000 ≤ n) && decide (n ≤ 1000)) then some .int else none
  | .times n, k => if k.isInt && (decide (-1000 ≤ n) && decide (n ≤ 1000)) then some .int else none
  | .item i, k => if decide (0 ≤ i) && decide (i < (k.parts.length : Int)) then some (k.parts.getD i.toNat .int) else none
  | .length, k => match k with | .lst _ => some .int | _ => none
  | .sum, k => match k with | .lst j => if j.isInt then some .int else none | _ => none
  | .sorted, k => match k with | .lst j => if j.isFlat then some (.lst j) else none | _ => none
  | .reversed, k => match k with | .lst j => some (.lst j) | _ => none
/-! ### generators -/
inductive Gn where
  | int (lo hi : Int) | pick (ws : List Str) | tuple (gs : List Gn) | list (g : Gn) (least most : Int) | one (gs : List Gn) | kept (g : Gn) (c : Cd) | turned (g : Gn) (m : Mp) | repeat_ (g h : Gn)
mutual
def Gn.data : Gn → PyData
  | .int lo hi => .tuple [.str "int", .int lo, .int hi]
  | .pick ws => .tuple [.str "pick", .tuple (ws.map PyData.str)]
  | .tuple gs => .tuple [.str "tuple", .tuple (gnAll gs)]
  | .list g least most => .tuple [.str "list", g.data, .int least, .int most]
  | .one gs => .tuple [.str "one", .tuple (gnAll gs)]
  | .kept g c => .tuple [.str "kept", g.data, c.data]
  | .turned g m => .tuple [.str "turned", g.data, m.data]
  | .repeat_ g h => .tuple [.str "repeat", g.data, h.data]
def gnAll : List Gn → List PyData
  | [] => []
  | g :: gs => g.data :: gnAll gs
end
theorem gnAll_map : ∀ gs : List Gn, gnAll gs = gs.map Gn.data
  | [] => by rw [gnAll]; rfl
  | g :: gs => by rw [gnAll, gnAll_map gs]; rfl
/-- depth and lengths alone -/
inductive OkG : Nat → Gn → Prop
  | int {n : Nat} (lo hi : Int) : OkG (n + 1) (.int lo hi)
  | pick {n : Nat} {ws : List Str} : ws.length ≤ 60 → (∀ w ∈ ws, SeqAt.shaped (.str w) = true ∧ w.length ≤ 1000) → OkG (n + 1) (.pick ws)
  | tuple {n : Nat} {gs : List Gn} : gs.length ≤ 60 → (∀ g ∈ gs, OkG n g) → OkG (n + 1) (.tuple gs)
  | list {n : Nat} {g : Gn} (a b : Int) : OkG n g → OkG (n + 1) (.list g a b)
  | one {n : Nat} {gs : List Gn} : gs.length ≤ 60 → (∀ g ∈ gs, OkG n g) → OkG (n + 1) (.one gs)
  | kept {n : Nat} {g : Gn} {c : Cd} : OkG n g → OkC 10 c → OkG (n + 1) (.kept g c)
  | turned {n : Nat} {g : Gn} (m : Mp) : OkG n g → OkG (n + 1) (.turned g m)
  | repeat_ {n : Nat} {g h : Gn} : OkG n g → OkG n h → OkG (n + 1) (.repeat_ g h)
theorem OkG.mono {n m : Nat} {g : Gn} (h : OkG n g) (hm : n ≤ m) : OkG m g := by
  induction h generalizing m with
  | int => obtain ⟨m', rfl⟩ : ∃ m', m = m' + 1 := ⟨m - 1, by omega⟩; exact .int _ _
  | pick h1 h2 => obtain ⟨m', rfl⟩ : ∃ m', m = m' + 1 := ⟨m - 1, by omega⟩; exact .pick h1 h2
  | tuple h1 _ ih => obtain ⟨m', rfl⟩ : ∃ m', m = m' + 1 := ⟨m - 1, by omega⟩; exact .tuple h1 fun g hg => ih g hg (by omega)
  | list a b _ ih => obtain ⟨m', rfl⟩ : ∃ m', m = m' + 1 := ⟨m - 1, by omega⟩; exact .list a b (ih (by omega))
  | one h1 _ ih => obtain ⟨m', rfl⟩ : ∃ m', m = m' + 1 := ⟨m - 1, by omega⟩; exact .one h1 fun g hg => ih g hg (by omega)
  | kept _ hc ih => obtain ⟨m', rfl⟩ : ∃ m', m = m' + 1 := ⟨m - 1, by omega⟩; exact .kept (ih (by omega)) hc
  | turned q _ ih => obtain ⟨m', rfl⟩ : ∃ m', m = m' + 1 := ⟨m - 1, by omega⟩; exact .turned q (ih (by omega))
  | repeat_ _ _ ih1 ih2 => obtain ⟨m', rfl⟩ : ∃ m', m = m' + 1 := ⟨m - 1, by omega⟩; exact .repeat_ (ih1 (by omega)) (ih2 (by omega))
/-- a generator without faults, and its kind -/
inductive GenK : Gn → Kd → Prop
  | int {lo hi : Int} : -1000 ≤ lo → lo ≤ hi → hi ≤ 1000 → GenK (.int lo hi) .int
  | pick {ws : List Str} : 0 < ws.length → ws.length ≤ 10 → ws.Nodup → (∀ w ∈ ws, isWord w = true) → GenK (.pick ws) .word
  | tuple {gs : List Gn} {ks : List Kd} : gs.length ≤ 4 → gs.length = ks.length → (∀ (i : Nat) g k, gs[i]? = some g → ks[i]? = some k → GenK g k) → GenK (.tuple gs) (.tup ks)
  | list {g : Gn} {k : Kd} {a b : Int} : GenK g k → 0 ≤ a → a ≤ b → b ≤ 6 → GenK (.list g a b) (.lst k)
  | one {gs : List Gn} {k : Kd} : 0 < gs.length → gs.length ≤ 4 → (∀ g ∈ gs, GenK g k) → GenK (.one gs) k
  | kept {g : Gn} {k : Kd} {c : Cd} : GenK g k → fitsC c k = true → GenK (.kept g c) k
  | turned {g : Gn} {k k' : Kd} {m : Mp} : GenK g k → behind m k = some k' → GenK (.turned g m) k'
  | repeat_ {g h : Gn} {k : Kd} : GenK g .int → GenK h k → GenK (.repeat_ g h) (.lst k)
/-! ### how many rows, at most -/
def powSum (c : Nat) : Nat → Nat → Nat
  | _, 0 => 0
  | a, n + 1 => c ^ a + powSum c (a + 1) n
mutual
def cntG : Gn → Nat
  | .int lo hi => (hi - lo + 1).toNat
  | .pick ws => ws.length
  | .tuple gs => cntMul gs
  | .list g a b => powSum (cntG g) a.toNat (b.toNat + 1 - a.toNat)
  | .one gs => cntAdd gs
  | .kept g _ => cntG g
  | .turned g _ => cntG g
  | .repeat_ g h => match g with
    | .int lo hi => powSum (cntG h) lo.toNat (hi.toNat + 1 - lo.toNat)
    | g => cntG g * (1 + cntG h) ^ 6
def cntMul : List Gn → Nat
  | [] => 1
  | g :: gs => cntG g * cntMul gs
def cntAdd : List Gn → Nat
  | [] => 0
  | g :: gs => cntG g + cntAdd gs
end
def baseK : Kd → Nat
  | .int => 4
  | .word => 4
  | .tup _ => 16
  | .lst j => 1 + baseK j + baseK j ^ 2
theorem cntAdd_le {m : Nat} : ∀ gs : List Gn, (∀ g ∈ gs, cntG g ≤ m) → cntAdd gs ≤ gs.length * m
  | [], _ => by rw [cntAdd]; exact Nat.zero_le _
  | g :: gs, h => by
    rw [cntAdd, List.length_cons, Nat.add_mul]
    have h1 := h g List.mem_cons_self
    have h2 := cntAdd_le gs fun g' h' => h g' (List.mem_cons_of_mem _ h')
    omega
theorem cntMul_le {m : Nat} : ∀ gs : List Gn, (∀ g ∈ gs, cntG g ≤ m) → cntMul gs ≤ m ^ gs.length
  | [], _ => by rw [cntMul]; exact Nat.le_refl _
  | g :: gs, h => by
    rw [cntMul, List.length_cons, Nat.pow_succ, Nat.mul_comm]
    exact Nat.mul_le_mul (cntMul_le gs fun g' h' => h g' (List.mem_cons_of_mem _ h')) (h g List.mem_cons_self)
theorem pow_up {n : Nat} (h : 0 < n) (b : Nat) : 2 ^ (n - 1) * b ≤ 2 ^ n * b := Nat.mul_le_mul_right _ (Nat.pow_le_pow_right (by decide) (by omega))
theorem one_le {n b : Nat} (h : 0 < n) {gs : List Gn} (h2 : gs.length ≤ 2) (hg : ∀ g ∈ gs, cntG g ≤ 2 ^ (n - 1) * b) : cntG (.one gs) ≤ 2 ^ n * b := by
  rw [cntG]
  refine Nat.le_trans (cntAdd_le gs hg) (Nat.le_trans (Nat.mul_le_mul_right _ h2) ?_)
  have e : (n - 1).succ = n := by omega
  rw [← Nat.mul_assoc, ← Nat.pow_succ', e]
  exact Nat.le_refl _
theorem four_le (n : Nat) {k : Nat} (h : k ≤ 4) : k ≤ 2 ^ n * 4 := Nat.le_trans h (Nat.le_mul_of_pos_left _ (Nat.pow_pos (by decide)))
theorem tup_le (n : Nat) {gs : List Gn} {ks : List Kd} (h2 : gs.length ≤ 2) (hg : ∀ g ∈ gs, cntG g ≤ 4) : cntG (.tuple gs) ≤ 2 ^ n * baseK (.tup ks) := by
  rw [cntG, baseK]
  refine Nat.le_trans (cntMul_le gs hg) (Nat.le_trans (Nat.pow_le_pow_right (by decide) h2) ?_)
  exact Nat.le_mul_of_pos_left _ (Nat.pow_pos (by decide))
theorem pow_le_two {c m : Nat} (h : m = 0 ∨ m = 1 ∨ m = 2) : c ^ m ≤ 1 + c + c ^ 2 := by
  rcases h with rfl | rfl | rfl
  · rw [Nat.pow_zero]; omega
  · rw [Nat.pow_one]; omega
  · omega
theorem powSum_le {c a n : Nat} (h : a + n ≤ 3) : powSum c a n ≤ 1 + c + c ^ 2 := by
  have z : ∀ a, powSum c a 0 = 0 := fun _ => by rw [powSum]
  have s : ∀ a n, powSum c a (n + 1) = c ^ a + powSum c (a + 1) n := fun _ _ => by rw [powSum]
  rcases (by omega : n = 0 ∨ n = 1 ∨ (n = 2 ∧ a = 0) ∨ (n = 2 ∧ a = 1) ∨ (n = 3 ∧ a = 0)) with rfl | rfl | ⟨rfl, rfl⟩ | ⟨rfl, rfl⟩ | ⟨rfl, rfl⟩
  · rw [z]; omega
  · rw [s, z]; have := pow_le_two (c := c) (m := a) (by omega); omega
  · rw [s, s, z]; simp only [Nat.zero_add, Nat.reduceAdd, Nat.pow_zero, Nat.pow_one]; omega
  · rw [s, s, z]; simp only [Nat.zero_add, Nat.reduceAdd, Nat.pow_zero, Nat.pow_one]; omega
  · rw [s, s, s, z]; simp only [Nat.zero_add, Nat.reduceAdd, Nat.pow_zero, Nat.pow_one]; omega
theorem two_up {n b c : Nat} (hn : n ≤ 2) (hc : c ≤ 2 ^ (n - 1) * b) : 1 + c + c ^ 2 ≤ 2 ^ n * (1 + b + b ^ 2) := by
  have h1 : c ^ 2 ≤ (2 ^ (n - 1) * b) ^ 2 := Nat.pow_le_pow_left hc 2
  rcases (by omega : n = 0 ∨ n = 1 ∨ n = 2) with rfl | rfl | rfl
  · simp at hc h1 ⊢; omega
  · simp at hc h1 ⊢; omega
  · simp [Nat.mul_pow] at hc h1 ⊢; omega
theorem base_up (n : Nat) {b c : Nat} (hc : c ≤ b) : 1 + c + c ^ 2 ≤ 2 ^ n * (1 + b + b ^ 2) := by
  have h1 : c ^ 2 ≤ b ^ 2 := Nat.pow_le_pow_left hc 2
  exact Nat.le_trans (show 1 + c + c ^ 2 ≤ 1 + b + b ^ 2 by omega) (Nat.le_mul_of_pos_left _ (Nat.pow_pos (by decide)))
theorem flat_base {k : Kd} (h : k.isFlat = true) : baseK k = 4 := by
  cases k <;> simp [Kd.isFlat] at h
  · rw [baseK]
  · rw [baseK]
/-- no part has more rows than M -/
inductive CapG (M : Nat) : Gn → Prop
  | int {lo hi : Int} : cntG (.int lo hi) ≤ M → CapG M (.int lo hi)
  | pick {ws : List Str} : cntG (.pick ws) ≤ M → CapG M (.pick ws)
  | tuple {gs : List Gn} : (∀ g ∈ gs, CapG M g) → cntG (.tuple gs) ≤ M → CapG M (.tuple gs)
  | list {g : Gn} {a b : Int} : CapG M g → cntG (.list g a b) ≤ M → CapG M (.list g a b)
  | one {gs : List Gn} : (∀ g ∈ gs, CapG M g) → cntG (.one gs) ≤ M → CapG M (.one gs)
  | kept {g : Gn} {c : Cd} : CapG M g → cntG (.kept g c) ≤ M → CapG M (.kept g c)
  | turned {g : Gn} {m : Mp} : CapG M g → cntG (.turned g m) ≤ M → CapG M (.turned g m)
  | repeat_ {g h : Gn} : CapG M g → CapG M h → cntG (.repeat_ g h) ≤ M → CapG M (.repeat_ g h)
theorem CapG.cnt {M : Nat} {g : Gn} (h : CapG M g) : cntG g ≤ M := by cases h <;> assumption
theorem CapG.mono {M M' : Nat} {g : Gn} (h : CapG M g) (hm : M ≤ M') : CapG M' g := by
  induction h with
  | int h => exact .int (Nat.le_trans h hm)
  | pick h => exact .pick (Nat.le_trans h hm)
  | tuple _ h ih => exact .tuple ih (Nat.le_trans h hm)
  | list _ h ih => exact .list ih (Nat.le_trans h hm)
  | one _ h ih => exact .one ih (Nat.le_trans h hm)
  | kept _ h ih => exact .kept ih (Nat.le_trans h hm)
  | turned _ h ih => exact .turned ih (Nat.le_trans h hm)
  | repeat_ _ _ h ih1 ih2 => exact .repeat_ ih1 ih2 (Nat.le_trans h hm)
theorem base_four : ∀ k : Kd, 4 ≤ baseK k
  | .int => by rw [baseK]; exact Nat.le_refl _
  | .word => by rw [baseK]; exact Nat.le_refl _
  | .tup _ => by rw [baseK]; decide
  | .lst j => by rw [baseK]; have := base_four j; omega
theorem base_lst (n : Nat) (j : Kd) : 2 ^ (n - 1) * baseK j ≤ 2 ^ n * baseK (.lst j) := by
  rw [baseK]
  refine Nat.mul_le_mul (Nat.pow_le_pow_right (by decide) (by omega)) ?_
  omega
theorem base_le {k : Kd} (hk : OkK 3 k) (hn : NeK k) : baseK k ≤ 463 := by
  have flat : ∀ {k : Kd}, k.isFlat = true → baseK k = 4 := fun h => flat_base h
  cases hn with
  | int => rw [baseK]; decide
  | word => rw [baseK]; decide
  | tup => rw [baseK]; decide
  | @lst j hj =>
    cases hk with
    | lst hk =>
      have h2 : baseK j ≤ 21 := by
        cases hj with
        | int => rw [baseK]; decide
        | word => rw [baseK]; decide
        | tup => rw [baseK]; decide
        | @lst i hi =>
          cases hk with
          | lst hk =>
            rw [baseK, flat (flat_of hk hi)]
            decide
      rw [baseK]
      have : baseK j ^ 2 ≤ 21 ^ 2 := Nat.pow_le_pow_left h2 2
      omega
/-! ### what the law's draws promise -/
def spLLimit2 (K : PySem.W.Frag) (N : Nat) : Sp := fun vs H Q _ => ∃ (b d : Addr) (u : V) (kd : Kd) (n m : Nat), vs = [.ref b, u, .int (n : Int)] ∧ Bx H b d ∧ Vd K H u kd.data ∧ OkK m kd ∧ NeK kd ∧ n + m ≤ N ∧ N ≤ 15 ∧ ∀ v c H', Mv b d H H' → Vd K H' v (Cd.data c) → OkC N c → fitsC c kd = true → Q v H'
theorem spLLimit2_0 {K : PySem.W.Frag} (vs : List V) (H : Hp) (Q : VK) (E : XK) : ¬ spLLimit2 K 0 vs H Q E := fun h => by
  obtain ⟨_, _, _, _, n, m, _, _, _, hk, _, hn, _⟩ := h
  have := hk.pos
  omega
def spLGen (K : PySem.W.Frag) (N : Nat) : Sp := fun vs H Q _ => ∃ (b d : Addr) (u : V) (kd : Kd) (n m : Nat), vs = [.ref b, u, .int (n : Int)] ∧ Bx H b d ∧ Vd K H u kd.data ∧ OkK m kd ∧ NeK kd ∧ n + m ≤ N ∧ n ≤ 2 ∧ m ≤ 4 ∧ ∀ v g H', Mv b d H H' → Vd K H' v (Gn.data g) → OkG (N + 1) g → GenK g kd → CapG (2 ^ n * baseK kd) g → Q v H'
theorem item_fits {j : Nat} {ks : List Kd} {c : Cd} (hj : j < ks.length) (h : fitsC c (ks.getD j .int) = true) : fitsC (.item (j : Int) c) (.tup ks) = true := by
  show ((decide ((0 : Int) ≤ (j : Int)) && decide ((j : Int) < (ks.length : Int))) && fitsC c (ks.getD (j : Int).toNat .int)) = true
  rw [decide_eq_true (show (0 : Int) ≤ (j : Int) by omega), decide_eq_true (show (j : Int) < (ks.length : Int) by omega), Int.toNat_natCast, h]
  rfl
theorem lst_int {k : Kd} (h : PyData.eqv (Kd.lst k).data (Kd.lst Kd.int).data = true) : k.isInt = true := by
  rw [Kd.data, Kd.data] at h
  have h' : (PyData.eqv (.str "list") (.str "list") && (PyData.eqv k.data Kd.int.data && true)) = true := h
  rw [Bool.and_true] at h'
  have h2 := (Bool.and_eq_true_iff.mp h').2
  rw [Kd.data, eqv_int] at h2
  exact h2
theorem len1 {a : V} : [a].length ≤ sizeLine := by show 1 ≤ sizeLine; decide
theorem len2 {a b : V} : [a, b].length ≤ sizeLine := by show 2 ≤ sizeLine; decide
theorem len3 {a b c : V} : [a, b, c].length ≤ sizeLine := by show 3 ≤ sizeLine; decide
theorem len4 {a b c d : V} : [a, b, c, d].length ≤ sizeLine := by show 4 ≤ sizeLine; decide
theorem flat_in (k : Kd) : ([.str "int", .str "word"] : List PyData).any (fun z => PyData.eqv z k.data) = k.isFlat := by
  have h1 : PyData.eqv (.str "int") k.data = k.isInt := by rw [PySem.W.eqv_comm, eqv_int]
  have h2 : PyData.eqv (.str "word") k.data = k.isWord := by rw [PySem.W.eqv_comm, eqv_word]
  show (PyData.eqv (.str "int") k.data || (PyData.eqv (.str "word") k.data || false)) = _
  rw [h1, h2]
  cases k <;> rfl
theorem shaped_flat : SeqAt.shaped (.list [.str "int", .str "word"]) = true := by decide +kernel
/-- a generator with its kind and the box, drawn -/
def spLSome (K : PySem.W.Frag) : Sp := fun vs H Q _ => ∃ (a : Addr) (ns : List Int) (k : Nat), vs = [.ref a, .int (k : Int)] ∧ SqL K H a (ns.map V.int) ∧
  ∀ p v u b d g kd H', Same H H' → H b = none → Bx H' b d → H' p = some (.tup [v, u, .ref b]) → Vd K H' v (Gn.data g) → Vd K H' u (Kd.data kd) → OkG 6 g → GenK g kd → OkK 3 kd → NeK kd → CapG (2 ^ 2 * baseK kd) g → Q (.ref p) H'
theorem same_of_mv {H H1 H' : Hp} {b d : Addr} (e : Same H H1) (hb : H b = none) (m : Mv b d H1 H') : Same H H' := fun a o h => m.1 a o (ne_of_none h hb) (e a o h)
/-- the kind of a generator without faults -/
def spKindOk (K : PySem.W.Frag) (N : Nat) : Sp := fun vs H Q _ => ∃ (v : V) (g : Gn) (kd : Kd), vs = [v] ∧ Vd K H v g.data ∧ OkG N g ∧ GenK g kd ∧ ∀ u H', Same H H' → Vd K H' u kd.data → Q u H'
end Cr
namespace Cr
open PySem PySem.Spec PyProof.Rows L2 Evl CrT
/-! ### what maps make of values -/
def intOf : PyData → Int
  | .int i => i
  | _ => 0
def sortD (ds : List PyData) : List PyData := ds.mergeSort (PySem.W.dataLe false id)
def turnD : Mp → PyData → PyData
  | .plus n, .int i => .int (i + n)
  | .times n, .int i => .int (i * n)
  | .item k, .tuple ds => ds.getD k.toNat .none
  | .length, .tuple ds => .int (ds.length : Int)
  | .sum, .tuple ds => .int (ds.map intOf).sum
  | .sorted, .tuple ds => .tuple (sortD ds)
  | .reversed, .tuple ds => .tuple ds.reverse
  | _, d => d
theorem sortD_perm (ds : List PyData) : (sortD ds).Perm ds := List.mergeSort_perm _ _
theorem sortD_length (ds : List PyData) : (sortD ds).length = ds.length := (sortD_perm ds).length_eq
theorem sortZ_snd {xs : List V} {ds : List PyData} (h : xs.length = ds.length) : (sortZ xs ds).map Prod.snd = sortD ds := by
  unfold sortZ sortD
  rw [PySem.W.sort_maps (r := PySem.W.dataLe false Prod.snd) (s := PySem.W.dataLe false id) Prod.snd (fun _ _ _ _ => rfl), zip_snd h]
section
variable {K : PySem.W.Frag} {H H' : Hp}
theorem Vds.zip {xs : List V} {ds : List PyData} (h : Vds K H xs ds) {z : V × PyData} (hz : z ∈ xs.zip ds) : Vd K H z.1 z.2 := by
  obtain ⟨i, hi⟩ := List.mem_iff_getElem?.mp hz
  rw [List.getElem?_zip_eq_some] at hi
  exact h.2 i z.1 z.2 hi.1 hi.2
theorem Vds.sorted {xs : List V} {ds : List PyData} (h : Vds K H xs ds) : Vds K H ((sortZ xs ds).map Prod.fst) (sortD ds) := by
  rw [← sortZ_snd h.1]
  refine ⟨by rw [List.length_map, List.length_map], fun i v d h1 h2 => ?_⟩
  rw [List.getElem?_map] at h1 h2
  cases e : (sortZ xs ds)[i]? with
  | none => rw [e] at h1; cases h1
  | some z =>
    rw [e] at h1 h2
    cases h1
    cases h2
    exact h.zip ((List.mergeSort_perm _ _).mem_iff.mp (List.mem_of_getElem? e))
theorem Vds.reverse {xs : List V} {ds : List PyData} (h : Vds K H xs ds) : Vds K H xs.reverse ds.reverse := by
  refine ⟨by rw [List.length_reverse, List.length_reverse, h.1], fun i v d h1 h2 => ?_⟩
  have hl := h.1
  by_cases hi : i < xs.length
  · rw [List.getElem?_reverse hi] at h1
    rw [List.getElem?_reverse (by omega), ← hl] at h2
    exact h.2 _ v d h1 h2
  · rw [List.getElem?_eq_none (by rw [List.length_reverse]; omega)] at h1
    cases h1
theorem Vds.dp {xs : List V} {ds : List PyData} (h : Vds K H xs ds) : DpAll K H xs ds := dpAll_of h.1 fun i v d h1 h2 => (h.2 i v d h1 h2).dp
theorem Vd.all {a : Addr} {ds : List PyData} (h : Vd K H (.ref a) (.tuple ds)) : ∃ xs, SqT K H a xs ∧ Vds K H xs ds := by
  obtain ⟨xs, h1, h2, h3⟩ := h.get
  exact ⟨xs, h1, h2, h3⟩
/-- lists of ints -/
theorem Vds.ints : ∀ {xs : List V} {ds : List PyData}, Vds K H xs ds → (∀ d ∈ ds, isk .int d = true) → xs = (ds.map intOf).map V.int
  | [], [], _, _ => rfl
  | [], _ :: _, h, _ => by have := h.1; simp at this
  | _ :: _, [], h, _ => by have := h.1; simp at this
  | x :: xs, d :: ds, h, q => by
    have h0 := h.2 0 x d rfl rfl
    have hd := q d List.mem_cons_self
    have t := Vds.ints (xs := xs) (ds := ds) ⟨by have := h.1; simpa using this, fun i v e h1 h2 => h.2 (i + 1) v e (by simpa using h1) (by simpa using h2)⟩ fun e he => q e (List.mem_cons_of_mem _ he)
    rw [t]
    cases d with
    | int i => cases h0.int_inv; rfl
    | _ => simp [isk] at hd
end
/-! ### values of one kind are alike -/
theorem alike_all_of {p : PyData → Bool} (f : ∀ d e, p d = true → p e = true → PySem.W.alike d e = true) : ∀ ds es : List PyData, ds.all p = true → es.all p = true → PySem.W.alikeAll ds es = true
  | [], _, _, _ => by simp [PySem.W.alikeAll]
  | _ :: _, [], _, _ => by simp [PySem.W.alikeAll]
  | d :: ds, e :: es, h, g => by
    rw [List.all_cons, Bool.and_eq_true] at h g
    rw [PySem.W.alikeAll, f d e h.1 g.1, alike_all_of f ds es h.2 g.2]
    rfl
mutual
theorem isk_alike : ∀ (k : Kd) (d e : PyData), isk k d = true → isk k e = true → PySem.W.alike d e = true
  | .int, d, e, h, g => by
    cases d <;> simp [isk] at h
    cases e <;> simp [isk] at g
    rfl
  | .word, d, e, h, g => by
    cases d <;> simp [isk] at h
    cases e <;> simp [isk] at g
    rfl
  | .lst k, d, e, h, g => by
    cases d <;> simp only [isk, Bool.false_eq_true] at h
    cases e <;> simp only [isk, Bool.false_eq_true] at g
    rw [PySem.W.alike]
    exact alike_all_of (isk_alike k) _ _ h g
  | .tup ks, d, e, h, g => by
    cases d <;> simp only [isk, Bool.false_eq_true] at h
    cases e <;> simp only [isk, Bool.false_eq_true] at g
    rw [PySem.W.alike]
    exact iskAll_alike ks _ _ h g
theorem iskAll_alike : ∀ (ks : List Kd) (ds es : List PyData), iskAll ks ds = true → iskAll ks es = true → PySem.W.alikeAll ds es = true
  | [], [], _, _, _ => by simp [PySem.W.alikeAll]
  | [], _ :: _, _, h, _ => by simp [iskAll] at h
  | _ :: _, [], _, _, _ => by simp [PySem.W.alikeAll]
  | _ :: _, _ :: _, [], _, _ => by simp [PySem.W.alikeAll]
  | k :: ks, d :: ds, e :: es, h, g => by
    rw [iskAll, Bool.and_eq_true] at h g
    rw [PySem.W.alikeAll, isk_alike k d e h.1 g.1, iskAll_alike ks ds es h.2 g.2]
    rfl
end
theorem all_of_perm {p : PyData → Bool} {ds es : List PyData} (h : ds.Perm es) (g : es.all p = true) : ds.all p = true := by
  rw [List.all_eq_true] at g ⊢
  exact fun d hd => g d (h.mem_iff.mp hd)
theorem behind_lst {m : Mp} {k k' : Kd} (h : behind m k = some k') (hm : m = .length ∨ m = .sum ∨ m = .sorted ∨ m = .reversed) : ∃ j, k = .lst j := by
  cases k with
  | lst j => exact ⟨j, rfl⟩
  | _ => rcases hm with rfl | rfl | rfl | rfl <;> simp [behind] at h
theorem behind_item {i : Int} {k k' : Kd} (h : behind (.item i) k = some k') : ∃ ks, k = .tup ks ∧ 0 ≤ i ∧ i.toNat < ks.length ∧ k' = ks.getD i.toNat .int := by
  have h' : (if decide (0 ≤ i) && decide (i < (k.parts.length : Int)) then some (k.parts.getD i.toNat .int) else none) = some k' := h
  by_cases c : (decide (0 ≤ i) && decide (i < (k.parts.length : Int))) = true
  · rw [if_pos c] at h'
    have c' := Bool.and_eq_true_iff.mp c
    have c1 := of_decide_eq_true c'.1
    have c2 := of_decide_eq_true c'.2
    cases h'
    cases k with
    | tup ks =>
      refine ⟨ks, rfl, c1, ?_, rfl⟩
      have : i < (ks.length : Int) := c2
      omega
    | _ => exact absurd c2 (by simp [Kd.parts]; omega)
  · rw [if_neg c] at h'
    cases h'
theorem behind_item0 {i : Int} {k : Kd} (h : k.parts = []) : behind (.item i) k = none := by
  show (if decide (0 ≤ i) && decide (i < (k.parts.length : Int)) then some (k.parts.getD i.toNat .int) else none) = none
  rw [h, if_neg]
  intro c
  have h1 := of_decide_eq_true (Bool.and_eq_true_iff.mp c).1
  have h2 := of_decide_eq_true (Bool.and_eq_true_iff.mp c).2
  simp at h2
  omega
theorem behind_num {n : Int} {k k' : Kd} {m : Mp} (hm : m = .plus n ∨ m = .times n) (h : behind m k = some k') : k = .int ∧ -1000 ≤ n ∧ n ≤ 1000 ∧ k' = .int := by
  have h' : (if k.isInt && (decide (-1000 ≤ n) && decide (n ≤ 1000)) then some Kd.int else none) = some k' := by
    rcases hm with rfl | rfl <;> exact h
  by_cases c : (k.isInt && (decide (-1000 ≤ n) && decide (n ≤ 1000))) = true
  · rw [if_pos c] at h'
    have c' := Bool.and_eq_true_iff.mp c
    have c2 := Bool.and_eq_true_iff.mp c'.2
    cases h'
    cases k with
    | int => exact ⟨rfl, of_decide_eq_true c2.1, of_decide_eq_true c2.2, rfl⟩
    | _ => exact absurd c'.1 (by simp [Kd.isInt])
  · rw [if_neg c] at h'
    cases h'
theorem turn_isk {m : Mp} {k k' : Kd} {d : PyData} (h : behind m k = some k') (hd : isk k d = true) : isk k' (turnD m d) = true := by
  cases m with
  | plus n =>
    obtain ⟨rfl, _, _, rfl⟩ := behind_num (.inl rfl) h
    cases d <;> simp [isk] at hd
    rfl
  | times n =>
    obtain ⟨rfl, _, _, rfl⟩ := behind_num (.inr rfl) h
    cases d <;> simp [isk] at hd
    rfl
  | item i =>
    obtain ⟨ks, rfl, _, hi, rfl⟩ := behind_item h
    cases d <;> simp only [isk, Bool.false_eq_true] at hd
    exact (iskAll_get hd).2 _ hi
  | length =>
    obtain ⟨j, rfl⟩ := behind_lst h (.inl rfl)
    cases d <;> simp only [isk, Bool.false_eq_true] at hd
    have h' : some Kd.int = some k' := h
    cases h'
    rfl
  | sum =>
    obtain ⟨j, rfl⟩ := behind_lst h (.inr (.inl rfl))
    cases d <;> simp only [isk, Bool.false_eq_true] at hd
    have h' : (if j.isInt then some Kd.int else none) = some k' := h
    split at h'
    · cases h'; rfl
    · cases h'
  | sorted =>
    obtain ⟨j, rfl⟩ := behind_lst h (.inr (.inr (.inl rfl)))
    cases d <;> simp only [isk, Bool.false_eq_true] at hd
    have h' : (if j.isFlat then some (Kd.lst j) else none) = some k' := h
    split at h'
    · cases h'
      rw [turnD]
      simp only [isk]
      exact all_of_perm (sortD_perm _) hd
    · cases h'
  | reversed =>
    obtain ⟨j, rfl⟩ := behind_lst h (.inr (.inr (.inr rfl)))
    cases d <;> simp only [isk, Bool.false_eq_true] at hd
    have h' : some (Kd.lst j) = some k' := h
    cases h'
    rw [turnD]
    simp only [isk]
    exact all_of_perm (List.reverse_perm _) hd
theorem turn_dk {m : Mp} {k k' : Kd} {d : PyData} {n : Nat} (h : behind m k = some k') (hd : isk k d = true) (hk : Dk n d) : Dk n (turnD m d) := by
  cases m with
  | plus i =>
    obtain ⟨rfl, _⟩ := behind_num (.inl rfl) h
    cases d <;> simp [isk] at hd
    exact .int _
  | times i =>
    obtain ⟨rfl, _⟩ := behind_num (.inr rfl) h
    cases d <;> simp [isk] at hd
    exact .int _
  | item i =>
    obtain ⟨ks, rfl, _, hi, rfl⟩ := behind_item h
    cases d <;> simp only [isk, Bool.false_eq_true] at hd
    have hl := (iskAll_get hd).1 ▸ hi
    cases hk with
    | tup h1 h2 =>
      exact (h2 _ (List.mem_of_getElem? (getD_at (a0 := PyData.none) hl))).mono (Nat.le_succ _)
  | length =>
    obtain ⟨j, rfl⟩ := behind_lst h (.inl rfl)
    cases d <;> simp only [isk, Bool.false_eq_true] at hd
    exact .int _
  | sum =>
    obtain ⟨j, rfl⟩ := behind_lst h (.inr (.inl rfl))
    cases d <;> simp only [isk, Bool.false_eq_true] at hd
    exact .int _
  | sorted =>
    obtain ⟨j, rfl⟩ := behind_lst h (.inr (.inr (.inl rfl)))
    cases d <;> simp only [isk, Bool.false_eq_true] at hd
    cases hk with
    | tup h1 h2 => exact .tup (by rw [sortD_length]; exact h1) fun e he => h2 e ((sortD_perm _).mem_iff.mp he)
  | reversed =>
    obtain ⟨j, rfl⟩ := behind_lst h (.inr (.inr (.inr rfl)))
    cases d <;> simp only [isk, Bool.false_eq_true] at hd
    cases hk with
    | tup h1 h2 => exact .tup (by rw [List.length_reverse]; exact h1) fun e he => h2 e (List.mem_reverse.mp he)
theorem flat_not {j : Kd} {d : PyData} (hj : j.isFlat = true) (hd : isk j d = true) : d ≠ .none ∧ ∀ xs, d ≠ .tuple xs := by
  cases j <;> simp [Kd.isFlat] at hj
  · cases d <;> simp [isk] at hd
    exact ⟨fun e => (nomatch e), fun _ e => (nomatch e)⟩
  · cases d <;> simp [isk] at hd
    exact ⟨fun e => (nomatch e), fun _ e => (nomatch e)⟩
theorem flat_depth {j : Kd} {d : PyData} (hj : j.isFlat = true) (hd : isk j d = true) : d.depth = 0 := by
  cases j <;> simp [Kd.isFlat] at hj
  · cases d <;> simp [isk] at hd
    rfl
  · cases d <;> simp [isk] at hd
    rfl
/-! ### promises -/
def spBehind (K : PySem.W.Frag) : Sp := fun vs H Q _ => ∃ (v u : V) (m : Mp) (k : Kd), vs = [v, u] ∧ Vd K H v m.data ∧ Vd K H u k.data ∧ OkK 10 k ∧
  ∀ r H', Same H H' → (∀ k', behind m k = some k' → Vd K H' r k'.data) → (behind m k = none → r = .non) → Q r H'
def spTurn (K : PySem.W.Frag) : Sp := fun vs H Q _ => ∃ (v u : V) (m : Mp) (d : PyData) (k k' : Kd), vs = [v, u] ∧ Vd K H v m.data ∧ Vd K H u d ∧ isk k d = true ∧ behind m k = some k' ∧ Dk 20 d ∧
  ∀ r H', Same H H' → Vd K H' r (turnD m d) → Q r H'
section
variable {K : PySem.W.Frag} {σ : L2.St} {H0 H H' : Hp} {te : TE} {tu tz : TS} {D : Ends}
/-- if e == 'x': not so; so -/
theorem skipE {x y : Str} (e0 : Same H0 H) (h : Ev te σ H (.str x)) (ne : decide (V.str x = V.str y) = false) (k : ∀ H1, Same H0 H1 → tz D σ H1) : tSeq (tIfS (tTest (tOp rEq te (tC (.str y)))) tu tNext) tz D σ H :=
  q_when (b := false) (et_is (et_test (ev_op h ev_c (rv_eq rfl))) ne) (fun h => Bool.noConfusion h) fun _ H1 e1 => k H1 (e0.trans e1)
theorem takeE {x y : Str} (e0 : Same H0 H) (h : Ev te σ H (.str x)) (eq : decide (V.str x = V.str y) = true) (k : ∀ H1, Same H0 H1 → tu { D with nx := tz D } σ H1) : tSeq (tIfS (tTest (tOp rEq te (tC (.str y)))) tu tNext) tz D σ H :=
  q_when (b := true) (et_is (et_test (ev_op h ev_c (rv_eq rfl))) eq) (fun _ H1 e1 => k H1 (e0.trans e1)) (fun h => Bool.noConfusion h)
theorem skipEL {x : Str} {ys : List V} {ta : TA} (e0 : Same H0 H) (h : Ev te σ H (.str x)) (hy : EvA ta σ H ys) (hl : ys.length ≤ 100000) (fl : ys.all flatV = true) (ne : inV (.str x) ys = false) (k : ∀ H1, Same H0 H1 → tz D σ H1) : tSeq (tIfS (tTest (tOp (rIn K false) te (tLst ta))) tu tNext) tz D σ H :=
  q_when (b := false) (et_is (et_test (ev_opL h (el_lst hy hl) fun p H1 hp e => rv_isL (sq_of hp) rfl fl)) ne) (fun h => Bool.noConfusion h) fun _ H1 e1 => k H1 (e0.trans e1)
theorem takeEL {x : Str} {ys : List V} {ta : TA} (e0 : Same H0 H) (h : Ev te σ H (.str x)) (hy : EvA ta σ H ys) (hl : ys.length ≤ 100000) (fl : ys.all flatV = true) (eq : inV (.str x) ys = true) (k : ∀ H1, Same H0 H1 → tu { D with nx := tz D } σ H1) : tSeq (tIfS (tTest (tOp (rIn K false) te (tLst ta))) tu tNext) tz D σ H :=
  q_when (b := true) (et_is (et_test (ev_opL h (el_lst hy hl) fun p H1 hp e => rv_isL (sq_of hp) rfl fl)) eq) (fun _ H1 e1 => k H1 (e0.trans e1)) (fun h => Bool.noConfusion h)
/-- the map's tuple: its name, what it holds -/
theorem Mp.name {v : V} {m : Mp} (h : Vd K H v m.data) : ∃ a x xs, v = .ref a ∧ SqT K H a (x :: xs) ∧ xs.length ≤ 1 := by
  cases m <;> (rw [Mp.data] at h; first | (obtain ⟨a, x, rfl, hs, _⟩ := h.g1; exact ⟨a, x, _, rfl, hs, by simp⟩) | (obtain ⟨a, x, y, rfl, hs, _⟩ := h.g2; exact ⟨a, x, _, rfl, hs, by simp⟩))
end
end Cr
/-! displays whose items may move the box -/
namespace Cr
open PySem PySem.Spec PyProof.Rows L2 Evl CrT
def EvB (K : PySem.W.Frag) (b d : Addr) (te : TE) (σ : L2.St) (H : Hp) (P : PyData → Prop) : Prop := ∀ H1, Mv b d H H1 → ∀ Q : VK, (∀ v e H2, Mv b d H1 H2 → Vd K H2 v e → P e → Q v H2) → te σ H1 Q
def EvBs (K : PySem.W.Frag) (b d : Addr) (ta : TA) (σ : L2.St) (H : Hp) (R : List PyData → Prop) : Prop := ∀ H1, Mv b d H H1 → ∀ Q : List V → Hp → Prop, (∀ vs es H2, Mv b d H1 H2 → Vds K H2 vs es → R es → Q vs H2) → ta σ H1 Q
section
variable {K : PySem.W.Frag} {σ : L2.St} {H H' : Hp} {te : TE} {ta : TA} {tu tz : TS} {D : Ends} {b d : Addr} {P P' : PyData → Prop} {R R' : List PyData → Prop}
theorem EvB.mono (h : EvB K b d te σ H P) (hp : ∀ e, P e → P' e) : EvB K b d te σ H P' := fun H1 m Q q => h H1 m Q fun v e H2 m2 hv he => q v e H2 m2 hv (hp e he)
theorem EvBs.mono (h : EvBs K b d ta σ H R) (hp : ∀ e, R e → R' e) : EvBs K b d ta σ H R' := fun H1 m Q q => h H1 m Q fun v e H2 m2 hv he => q v e H2 m2 hv (hp e he)
theorem evb_c {x : PyData} {v : V} (hv : ∀ H1, Vd K H1 v x) : EvB K b d (tC v) σ H (· = x) := fun H1 m Q q => q v x H1 (.refl m.2) (hv H1) rfl
theorem evb_int {i : Int} : EvB K b d (tC (.int i)) σ H (· = .int i) := evb_c fun _ => .int i
theorem evb_str {x : Str} : EvB K b d (tC (.str x)) σ H (· = .str x) := evb_c fun _ => .str x
theorem evb_neg {i : Int} : EvB K b d (tUn (rU fun i => .int (-i)) (tC (.int i))) σ H (· = .int (-i)) := fun H1 m Q q => ⟨i, rfl, q _ _ H1 (.refl m.2) (.int _) rfl⟩
theorem evb_var {i : Nat} {v : V} {e : PyData} (h : σ[i]? = some (some v)) (hb : Bx H b d) (hv : Vd K H v e) : EvB K b d (tVar i) σ H (· = e) := fun H1 m Q q => ⟨v, h, q v e H1 (.refl m.2) (hv.keep (m.kt hb)) rfl⟩
theorem evb_take {i : Nat} {n : Int} {E : XK} (h : σ[i]? = some (some (.ref b))) (hn : 0 < n) : EvB K b d (tCall spTake [] E (tCons (tVar i) (tCons (tC (.int n)) tNil))) σ H (fun e => ∃ r, e = .int r ∧ 0 ≤ r ∧ r < n) := fun H1 m Q q =>
  ⟨.ref b, h, b, d, n, rfl, m.2, hn, fun r H2 h0 h1 m2 => q _ _ H2 m2 (.int r) ⟨r, rfl, h0, h1⟩⟩
theorem evb_kind {i n N : Nat} {E : XK} (h : σ[i]? = some (some (.ref b))) (hn : n < N) : EvB K b d (tCall (spLKind2 K N) [] E (tCons (tVar i) (tCons (tC (.int (n : Int))) tNil))) σ H (fun e => ∃ kd, e = Kd.data kd ∧ OkK (n + 1) kd ∧ NeK kd) := fun H1 m Q q =>
  ⟨.ref b, h, b, d, n, rfl, m.2, hn, fun v kd H2 m2 hv hk hne => q v _ H2 m2 hv ⟨kd, rfl, hk, hne⟩⟩
theorem evb_limit {i j n N m0 : Nat} {E : XK} {u : V} {kd : Kd} (h : σ[i]? = some (some (.ref b))) (hj : σ[j]? = some (some u)) (hb : Bx H b d) (hu : Vd K H u kd.data) (hk : OkK m0 kd) (hne : NeK kd) (hn : n + m0 ≤ N) (hN : N ≤ 15) :
    EvB K b d (tCall (spLLimit2 K N) [] E (tCons (tVar i) (tCons (tVar j) (tCons (tC (.int (n : Int))) tNil)))) σ H (fun e => ∃ c, e = Cd.data c ∧ OkC N c ∧ fitsC c kd = true) := fun H1 m Q q =>
  ⟨.ref b, h, u, hj, b, d, u, kd, n, m0, rfl, m.2, hu.keep (m.kt hb), hk, hne, hn, hN, fun v c H2 m2 hv hc hf => q v _ H2 m2 hv ⟨c, rfl, hc, hf⟩⟩
theorem evb_nil : EvBs K b d tNil σ H (· = []) := fun H1 m Q q => q [] [] H1 (.refl m.2) .nil rfl
theorem evb_cons (hb : Bx H b d) (h : EvB K b d te σ H P) (hr : EvBs K b d ta σ H R) : EvBs K b d (tCons te ta) σ H (fun es => ∃ e es', es = e :: es' ∧ P e ∧ R es') := fun H1 m Q q =>
  h H1 m _ fun v e H2 m2 hv he => hr H2 (m.trans m2) _ fun vs es H3 m3 hvs hes => q (v :: vs) (e :: es) H3 (m2.trans m3) (.cons (hv.keep (m3.kt m2.2)) hvs) ⟨e, es, rfl, he, hes⟩
theorem evb_tup (h : EvBs K b d ta σ H R) (hl : ∀ es, R es → es.length ≤ 1000) : EvB K b d (tTup ta) σ H (fun e => ∃ es, e = .tuple es ∧ R es) := fun H1 m Q q =>
  h H1 m _ fun vs es H2 m2 hvs hes => ⟨Nat.le_of_lt (small1000 (by rw [hvs.1]; exact hl es hes)), fun p hp => q (.ref p) _ _ (m2.new hp) ((hvs.keep (Kt.new hp)).tup (.of upd_same)) ⟨es, rfl, hes⟩⟩
/-- texts ahead, then what moves -/
theorem evb_t1 {x : Str} : EvB K b d (tTup (tCons (tC (.str x)) tNil)) σ H (· = .tuple [.str x]) := fun H1 m Q q =>
  ⟨by show 1 ≤ sizeLine; decide, fun p hp => q (.ref p) _ _ ((Mv.refl m.2).new hp) (.t1 (.of upd_same) (.str x)) rfl⟩
theorem evb_t2 {x : Str} (h : EvB K b d te σ H P) : EvB K b d (tTup (tCons (tC (.str x)) (tCons te tNil))) σ H (fun e => ∃ z, e = .tuple [.str x, z] ∧ P z) := fun H1 m Q q =>
  h H1 m _ fun v e H2 m2 hv he => ⟨by show 2 ≤ sizeLine; decide, fun p hp => q (.ref p) _ _ (m2.new hp) (.t2 (.of upd_same) (.str x) (hv.keep (Kt.new hp))) ⟨e, rfl, he⟩⟩
theorem evb_t3 {x : Str} {tf : TE} (h : EvB K b d te σ H P) (h2 : EvB K b d tf σ H P') : EvB K b d (tTup (tCons (tC (.str x)) (tCons te (tCons tf tNil)))) σ H (fun e => ∃ z y, e = .tuple [.str x, z, y] ∧ P z ∧ P' y) := fun H1 m Q q =>
  h H1 m _ fun v e H2 m2 hv he => h2 H2 (m.trans m2) _ fun v3 e3 H3 m3 hv3 he3 => ⟨by show 3 ≤ sizeLine; decide, fun p hp => q (.ref p) _ _ ((m2.trans m3).new hp) (.t3 (.of upd_same) (.str x) ((hv.keep (m3.kt m2.2)).keep (Kt.new hp)) (hv3.keep (Kt.new hp))) ⟨e, e3, rfl, he, he3⟩⟩
/-- a value at hand -/
def tK (v : V) : TE := fun _ H Q => Q v H
theorem ev_k {v : V} : Ev (tK v) σ H v := fun H1 _ _ q => q H1 (Ex.refl H1)
theorem g_name {i : Nat} {v : V} {σ : L2.St} {H : Hp} {Q : L2.St → Hp → Prop} (h : Q (σ.set i (some v)) H) : gName i v σ H Q := h
theorem Mv.none {H1 : Hp} {p : Addr} (m : Mv b d H H1) (hp : H1 p = none) : H p = none := by
  cases e : H p with
  | none => rfl
  | some o =>
    have := m.1 p o (m.2.neb hp).1 e
    rw [hp] at this
    cases this
/-- all items of one sort -/
theorem evb_all0 : EvBs K b d tNil σ H (fun es => (∀ e ∈ es, P e) ∧ es.length = 0) := fun H1 m Q q => q [] [] H1 (.refl m.2) .nil ⟨fun _ h => (nomatch h), rfl⟩
theorem evb_all {n : Nat} (h : EvB K b d te σ H P') (hp : ∀ e, P' e → P e) (hr : EvBs K b d ta σ H (fun es => (∀ e ∈ es, P e) ∧ es.length = n)) : EvBs K b d (tCons te ta) σ H (fun es => (∀ e ∈ es, P e) ∧ es.length = n + 1) := fun H1 m Q q =>
  h H1 m _ fun v e H2 m2 hv he => hr H2 (m.trans m2) _ fun vs es H3 m3 hvs hes => q (v :: vs) (e :: es) H3 (m2.trans m3) (.cons (hv.keep (m3.kt m2.2)) hvs) ⟨fun x hx => by
    rcases List.mem_cons.mp hx with rfl | hx
    · exact hp _ he
    · exact hes.1 x hx, by rw [List.length_cons, hes.2]⟩
theorem q_asgB {i : Nat} (hb : Bx H b d) (h : EvBs K b d ta σ H R) (hl : ∀ es, R es → es.length ≤ 1000) (k : ∀ p vs es H1, H p = none → Mv b d H H1 → H1 p = some (.lst vs) → Vds K H1 vs es → R es → tz D (σ.set i (some (.ref p))) H1) : tSeq (tAsg (tLst ta) (gName i)) tz D σ H :=
  h H (.refl hb) _ fun vs es H2 m2 hvs hes => ⟨Nat.le_of_lt (small1000 (by rw [hvs.1]; exact hl es hes)), fun p hp => k p vs es _ (m2.none hp) (m2.new hp) upd_same (hvs.keep (Kt.new hp)) hes⟩
theorem q_catB {i j : Nat} {p0 : Addr} {xs0 : List V} {es0 : List PyData} (hb : Bx H b d) (hj : σ[j]? = some (some (.ref p0))) (h0 : H p0 = some (.lst xs0)) (hn : p0 ≠ b) (hv0 : Vds K H xs0 es0) (hl0 : es0.length ≤ 1000) (h : EvBs K b d ta σ H R) (hl : ∀ es, R es → es.length ≤ 1000)
    (k : ∀ p vs es H1, H p = none → Mv b d H H1 → H1 p = some (.lst (xs0 ++ vs)) → Vds K H1 (xs0 ++ vs) (es0 ++ es) → R es → tz D (σ.set i (some (.ref p))) H1) : tSeq (tAsg (tOp rCat (tVar j) (tLst ta)) (gName i)) tz D σ H :=
  ⟨.ref p0, hj, h H (.refl hb) _ fun vs es H2 m2 hvs hes => ⟨Nat.le_of_lt (small1000 (by rw [hvs.1]; exact hl es hes)), fun p hp => by
    have m3 := m2.new (o := .lst vs) hp
    have h3 : upd H2 p (.lst vs) p0 = some (.lst xs0) := m3.1 _ _ hn h0
    have l1 := hl es hes
    have l2 := hv0.1
    have l3 := hvs.1
    refine ⟨p0, p, xs0, vs, rfl, rfl, h3, upd_same, ?_, fun p2 hp2 => ?_⟩
    · exact Nat.le_trans (show xs0.length + vs.length ≤ 2000 by omega) (by decide)
    · exact k p2 vs es _ (m3.none hp2) (m3.new hp2) upd_same (((hv0.keep (m3.kt hb)).app (hvs.keep (Kt.new hp))).keep (Kt.new hp2)) hes⟩⟩
theorem s_forB {g : TG} (hb : Bx H b d) (h : EvBs K b d ta σ H R) (hl : ∀ es, R es → es.length ≤ 1000)
    (k : ∀ p vs es H1, H p = none → Mv b d H H1 → H1 p = some (.lst vs) → Vds K H1 vs es → R es → ∃ Pv : Nat → L2.St → Hp → Prop, Pv 0 σ H1 ∧ (∀ i σ' H', i ≤ vs.length → Pv i σ' H' → SqL K H' p vs) ∧
      (∀ i x σ' H', vs[i]? = some x → Pv i σ' H' → g x σ' H' fun σ2 H2 => tu { D with nx := Pv (i + 1), ct := Pv (i + 1), bk := D.nx } σ2 H2) ∧ (∀ σ' H', Pv vs.length σ' H' → D.nx σ' H')) : tFor (iList K (tLst ta)) g tu D σ H :=
  h H (.refl hb) _ fun vs es H2 m2 hvs hes => ⟨Nat.le_of_lt (small1000 (by rw [hvs.1]; exact hl es hes)), fun p hp => by
    obtain ⟨Pv, k1, k2, k3, k4⟩ := k p vs es _ (m2.none hp) (m2.new hp) upd_same (hvs.keep (Kt.new hp)) hes
    exact ⟨p, rfl, ⟨vs, sq_of upd_same⟩, for_list Pv k1 k2 k3 k4⟩⟩
end
/-! ### a kind or None -/
def dataO : Option Kd → PyData
  | none => .none
  | some k => k.data
theorem dpO {K : PySem.W.Frag} {H : Hp} {o : Option Kd} {r : V} (h1 : ∀ k', o = some k' → Vd K H r k'.data) (h2 : o = none → r = .non) : Dp K H r (dataO o) := by
  cases o with
  | none => rw [h2 rfl]; exact .non
  | some k => exact (h1 k rfl).dp
theorem behind_ok {m : Mp} {k k' : Kd} {n : Nat} (h : behind m k = some k') (hk : OkK n k) : OkK n k' := by
  have hp := hk.pos
  have hi : OkK n .int := by
    obtain ⟨n', rfl⟩ : ∃ n', n = n' + 1 := ⟨n - 1, by omega⟩
    exact .int
  cases m with
  | plus i => obtain ⟨_, _, _, rfl⟩ := behind_num (.inl rfl) h; exact hi
  | times i => obtain ⟨_, _, _, rfl⟩ := behind_num (.inr rfl) h; exact hi
  | item i =>
    obtain ⟨ks, rfl, _, hik, rfl⟩ := behind_item h
    cases hk with
    | tup h1 h2 => exact (h2 _ (List.mem_of_getElem? (getD_at (a0 := Kd.int) hik))).mono (by omega)
  | length =>
    obtain ⟨j, rfl⟩ := behind_lst h (.inl rfl)
    have h' : some Kd.int = some k' := h
    cases h'
    exact hi
  | sum =>
    obtain ⟨j, rfl⟩ := behind_lst h (.inr (.inl rfl))
    have h' : (if j.isInt then some Kd.int else none) = some k' := h
    split at h'
    · cases h'; exact hi
    · cases h'
  | sorted =>
    obtain ⟨j, rfl⟩ := behind_lst h (.inr (.inr (.inl rfl)))
    have h' : (if j.isFlat then some (Kd.lst j) else none) = some k' := h
    split at h'
    · cases h'; exact hk
    · cases h'
  | reversed =>
    obtain ⟨j, rfl⟩ := behind_lst h (.inr (.inr (.inr rfl)))
    have h' : some (Kd.lst j) = some k' := h
    cases h'
    exact hk
theorem shapedO {m : Mp} {k : Kd} {n : Nat} (hk : OkK n k) (hn : n ≤ 20) : SeqAt.shaped (dataO (behind m k)) = true := by
  cases e : behind m k with
  | none => decide +kernel
  | some k' => exact OkK.shaped (behind_ok e hk) hn
theorem ne_self {d : PyData} (h : SeqAt.shaped d = true) : (!PyData.eqv d d) = false := by
  rw [SeqAt.eqv_refl _ (SeqAt.canLay_of_shaped h)]
  rfl
end Cr
namespace Cr
open PySem PySem.Spec PyProof.Rows L2 Evl CrT
/-! ### parts, plain and merged generators -/
def partsG : Gn → List Gn
  | .int _ _ => []
  | .pick _ => []
  | .tuple gs => gs
  | .list g _ _ => [g]
  | .one gs => gs
  | .kept g _ => [g]
  | .turned g _ => [g]
  | .repeat_ g h => [g, h]
mutual
def plainG : Gn → Bool
  | .int _ _ => true
  | .pick _ => true
  | .tuple gs => plainAll gs
  | .list g _ _ => plainG g
  | .one gs => plainAll gs
  | .kept _ _ => false
  | .turned g _ => plainG g
  | .repeat_ _ _ => false
def plainAll : List Gn → Bool
  | [] => true
  | g :: gs => plainG g && plainAll gs
end
theorem plainAll_all : ∀ gs : List Gn, plainAll gs = gs.all plainG
  | [] => by rw [plainAll]; rfl
  | g :: gs => by rw [plainAll, plainAll_all gs]; rfl
def joinK : Gn → Cd → Gn
  | .kept g c', c => .kept g (.and_ c' c)
  | g, c => .kept g c
def joinT : Gn → Mp → Gn
  | .int a b, .plus n => if decide (-1000 ≤ a + n) && decide (b + n ≤ 1000) then .int (a + n) (b + n) else .turned (.int a b) (.plus n)
  | g, m => .turned g m
mutual
def mergeG : Gn → Gn
  | .int a b => .int a b
  | .pick ws => .pick ws
  | .tuple gs => .tuple (mergeAll gs)
  | .list g a b => .list (mergeG g) a b
  | .one gs => .one (mergeAll gs)
  | .kept g c => joinK (mergeG g) c
  | .turned g m => joinT (mergeG g) m
  | .repeat_ g h => .repeat_ (mergeG g) (mergeG h)
def mergeAll : List Gn → List Gn
  | [] => []
  | g :: gs => mergeG g :: mergeAll gs
end
theorem mergeAll_map : ∀ gs : List Gn, mergeAll gs = gs.map mergeG
  | [] => by rw [mergeAll]; rfl
  | g :: gs => by rw [mergeAll, mergeAll_map gs]; rfl
/-- as OkG, the depth of conditions told -/
inductive OkGk : Nat → Nat → Gn → Prop
  | int {k n : Nat} (lo hi : Int) : OkGk k (n + 1) (.int lo hi)
  | pick {k n : Nat} {ws : List Str} : ws.length ≤ 60 → (∀ w ∈ ws, SeqAt.shaped (.str w) = true ∧ w.length ≤ 1000) → OkGk k (n + 1) (.pick ws)
  | tuple {k n : Nat} {gs : List Gn} : gs.length ≤ 60 → (∀ g ∈ gs, OkGk k n g) → OkGk k (n + 1) (.tuple gs)
  | list {k n : Nat} {g : Gn} (a b : Int) : OkGk k n g → OkGk k (n + 1) (.list g a b)
  | one {k n : Nat} {gs : List Gn} : gs.length ≤ 60 → (∀ g ∈ gs, OkGk k n g) → OkGk k (n + 1) (.one gs)
  | kept {k n : Nat} {g : Gn} {c : Cd} : OkGk k n g → OkC k c → OkGk k (n + 1) (.kept g c)
  | turned {k n : Nat} {g : Gn} (m : Mp) : OkGk k n g → OkGk k (n + 1) (.turned g m)
  | repeat_ {k n : Nat} {g h : Gn} : OkGk k n g → OkGk k n h → OkGk k (n + 1) (.repeat_ g h)
theorem OkG.k {n : Nat} {g : Gn} (h : OkG n g) : OkGk 10 n g := by
  induction h with
  | int => exact .int _ _
  | pick h1 h2 => exact .pick h1 h2
  | tuple h1 _ ih => exact .tuple h1 ih
  | list a b _ ih => exact .list a b ih
  | one h1 _ ih => exact .one h1 ih
  | kept _ hc ih => exact .kept ih hc
  | turned m _ ih => exact .turned m ih
  | repeat_ _ _ ih1 ih2 => exact .repeat_ ih1 ih2
theorem OkGk.mono {k k' n m : Nat} {g : Gn} (h : OkGk k n g) (hk : k ≤ k') (hm : n ≤ m) : OkGk k' m g := by
  induction h generalizing m with
  | int => obtain ⟨m', rfl⟩ : ∃ m', m = m' + 1 := ⟨m - 1, by omega⟩; exact .int _ _
  | pick h1 h2 => obtain ⟨m', rfl⟩ : ∃ m', m = m' + 1 := ⟨m - 1, by omega⟩; exact .pick h1 h2
  | tuple h1 _ ih => obtain ⟨m', rfl⟩ : ∃ m', m = m' + 1 := ⟨m - 1, by omega⟩; exact .tuple h1 fun g hg => ih g hg (by omega)
  | list a b _ ih => obtain ⟨m', rfl⟩ : ∃ m', m = m' + 1 := ⟨m - 1, by omega⟩; exact .list a b (ih (by omega))
  | one h1 _ ih => obtain ⟨m', rfl⟩ : ∃ m', m = m' + 1 := ⟨m - 1, by omega⟩; exact .one h1 fun g hg => ih g hg (by omega)
  | kept _ hc ih => obtain ⟨m', rfl⟩ : ∃ m', m = m' + 1 := ⟨m - 1, by omega⟩; exact .kept (ih (by omega)) (hc.mono hk)
  | turned q _ ih => obtain ⟨m', rfl⟩ : ∃ m', m = m' + 1 := ⟨m - 1, by omega⟩; exact .turned q (ih (by omega))
  | repeat_ _ _ ih1 ih2 => obtain ⟨m', rfl⟩ : ∃ m', m = m' + 1 := ⟨m - 1, by omega⟩; exact .repeat_ (ih1 (by omega)) (ih2 (by omega))
theorem joinK_ok {k n : Nat} {g : Gn} {c : Cd} (hg : OkGk k n g) (hc : OkC k c) : OkGk (k + 1) (n + 1) (joinK g c) := by
  cases g with
  | kept g c' =>
    cases hg with
    | kept h1 h2 => exact .kept (h1.mono (by omega) (by omega)) (.and_ h2 hc)
  | _ => exact .kept (hg.mono (by omega) (by omega)) (hc.mono (by omega))
theorem joinT_ok {k n : Nat} {g : Gn} {m : Mp} (hg : OkGk k n g) : OkGk k (n + 1) (joinT g m) := by
  cases g with
  | int a b =>
    cases m with
    | plus i =>
      show OkGk k (n + 1) (if decide (-1000 ≤ a + i) && decide (b + i ≤ 1000) then .int (a + i) (b + i) else .turned (.int a b) (.plus i))
      split
      · exact .int _ _
      · exact .turned _ hg
    | _ => exact .turned _ hg
  | _ => exact .turned _ hg
theorem merge_ok {k n : Nat} {g : Gn} (h : OkGk k n g) : OkGk (k + n) n (mergeG g) := by
  induction h with
  | int => rw [mergeG]; exact .int _ _
  | pick h1 h2 => rw [mergeG]; exact .pick h1 h2
  | tuple h1 _ ih =>
    rw [mergeG, mergeAll_map]
    refine .tuple (by rw [List.length_map]; exact h1) fun g hg => ?_
    obtain ⟨g', hg', rfl⟩ := List.mem_map.mp hg
    exact (ih g' hg').mono (by omega) (Nat.le_refl _)
  | list a b _ ih => rw [mergeG]; exact .list a b (ih.mono (by omega) (Nat.le_refl _))
  | one h1 _ ih =>
    rw [mergeG, mergeAll_map]
    refine .one (by rw [List.length_map]; exact h1) fun g hg => ?_
    obtain ⟨g', hg', rfl⟩ := List.mem_map.mp hg
    exact (ih g' hg').mono (by omega) (Nat.le_refl _)
  | kept _ hc ih => rw [mergeG]; exact joinK_ok ih (hc.mono (Nat.le_add_right _ _))
  | turned m _ ih => rw [mergeG]; exact joinT_ok (ih.mono (by omega) (Nat.le_refl _))
  | repeat_ _ _ ih1 ih2 => rw [mergeG]; exact .repeat_ (ih1.mono (by omega) (Nat.le_refl _)) (ih2.mono (by omega) (Nat.le_refl _))
theorem dk_two {n : Nat} {x : Str} {a : PyData} (hx : SeqAt.shaped (.str x) = true := by decide +kernel) (hl : x.length ≤ 1000 := by decide +kernel) (ha : Dk n a) : Dk (n + 1) (.tuple [.str x, a]) := dk_t2 (.str hx hl) ha
theorem dk_list {n : Nat} {ds : List PyData} (hl : ds.length ≤ 60) (h : ∀ (i : Nat) d, ds[i]? = some d → Dk n d) : Dk (n + 1) (.tuple ds) := .tup hl fun d hd => by
  obtain ⟨i, hi⟩ := List.mem_iff_getElem?.mp hd
  exact h i d hi
theorem dk_t3 {n : Nat} {a b c : PyData} (ha : Dk n a) (hb : Dk n b) (hc : Dk n c) : Dk (n + 1) (.tuple [a, b, c]) := .tup (show 3 ≤ 60 by decide) fun d hd => by
  rcases List.mem_cons.mp hd with rfl | hd
  · exact ha
  · rcases List.mem_cons.mp hd with rfl | hd
    · exact hb
    · cases List.mem_singleton.mp hd
      exact hc
theorem dk_t4 {n : Nat} {a b c e : PyData} (ha : Dk n a) (hb : Dk n b) (hc : Dk n c) (he : Dk n e) : Dk (n + 1) (.tuple [a, b, c, e]) := .tup (show 4 ≤ 60 by decide) fun d hd => by
  rcases List.mem_cons.mp hd with rfl | hd
  · exact ha
  · rcases List.mem_cons.mp hd with rfl | hd
    · exact hb
    · rcases List.mem_cons.mp hd with rfl | hd
      · exact hc
      · cases List.mem_singleton.mp hd
        exact he
theorem dk_t1 {n : Nat} {a : PyData} (ha : Dk n a) : Dk (n + 1) (.tuple [a]) := .tup (show 1 ≤ 60 by decide) fun d hd => by
  cases List.mem_singleton.mp hd
  exact ha
theorem condDk {n : Nat} {c : Cd} (h : OkC n c) : Dk n c.data := by
  induction h with
  | atmost i => rw [Cd.data]; exact dk_t2 dk_str (.int _)
  | divides i => rw [Cd.data]; exact dk_t2 dk_str (.int _)
  | is h1 h2 => rw [Cd.data]; exact dk_t2 dk_str (.str h1 h2)
  | item i _ ih => rw [Cd.data]; exact dk_t3 dk_str (.int _) ih
  | every _ ih => rw [Cd.data]; exact dk_t2 dk_str ih
  | some_ _ ih => rw [Cd.data]; exact dk_t2 dk_str ih
  | size _ ih => rw [Cd.data]; exact dk_t2 dk_str ih
  | sum _ ih => rw [Cd.data]; exact dk_t2 dk_str ih
  | rising => rw [Cd.data]; exact dk_t1 dk_str
  | different => rw [Cd.data]; exact dk_t1 dk_str
  | not_ _ ih => rw [Cd.data]; exact dk_t2 dk_str ih
  | and_ _ _ ih1 ih2 => rw [Cd.data]; exact dk_t3 dk_str ih1 ih2
  | or_ _ _ ih1 ih2 => rw [Cd.data]; exact dk_t3 dk_str ih1 ih2
theorem mapDk (m : Mp) : Dk 1 m.data := by
  cases m <;> rw [Mp.data] <;> first | exact dk_t1 dk_str | exact dk_t2 dk_str (.int _)
theorem OkGk.dk {k n : Nat} {g : Gn} (h : OkGk k n g) : Dk (2 * n + k) g.data := by
  induction h with
  | int => rw [Gn.data]; exact (dk_t3 (n := 0) dk_str (.int _) (.int _)).mono (by omega)
  | pick h1 h2 =>
    rw [Gn.data]
    refine (dk_t2 (n := 1) dk_str (.tup (by rw [List.length_map]; exact h1) fun d hd => ?_)).mono (by omega)
    obtain ⟨w, hw, rfl⟩ := List.mem_map.mp hd
    exact .str (h2 w hw).1 (h2 w hw).2
  | @tuple n gs h1 _ ih =>
    rw [Gn.data, gnAll_map]
    refine (dk_t2 (n := 2 * n + k + 1) dk_str (.tup (by rw [List.length_map]; exact h1) fun d hd => ?_)).mono (by omega)
    obtain ⟨w, hw, rfl⟩ := List.mem_map.mp hd
    exact ih w hw
  | @list n g a b _ ih => rw [Gn.data]; exact (dk_t4 (n := 2 * n + k) dk_str ih (.int _) (.int _)).mono (by omega)
  | @one n gs h1 _ ih =>
    rw [Gn.data, gnAll_map]
    refine (dk_t2 (n := 2 * n + k + 1) dk_str (.tup (by rw [List.length_map]; exact h1) fun d hd => ?_)).mono (by omega)
    obtain ⟨w, hw, rfl⟩ := List.mem_map.mp hd
    exact ih w hw
  | @kept n g c _ hc ih => rw [Gn.data]; exact (dk_t3 (n := 2 * n + k) dk_str ih ((condDk hc).mono (by omega))).mono (by omega)
  | @turned n g m _ ih => rw [Gn.data]; exact (dk_t3 (n := 2 * n + k + 1) dk_str (ih.mono (by omega)) ((mapDk m).mono (by omega))).mono (by omega)
  | @repeat_ n g h _ _ ih1 ih2 => rw [Gn.data]; exact (dk_t3 (n := 2 * n + k) dk_str ih1 ih2).mono (by omega)
theorem OkGk.parts {k n : Nat} {g : Gn} (h : OkGk k (n + 1) g) : ∀ p ∈ partsG g, OkGk k n p := by
  intro p hp
  cases h with
  | int => cases hp
  | pick => cases hp
  | tuple _ h => exact h p hp
  | list _ _ h => cases List.mem_singleton.mp hp; exact h
  | one _ h => exact h p hp
  | kept h _ => cases List.mem_singleton.mp hp; exact h
  | turned _ h => cases List.mem_singleton.mp hp; exact h
  | repeat_ h1 h2 =>
    rcases List.mem_cons.mp hp with rfl | hp
    · exact h1
    · cases List.mem_singleton.mp hp
      exact h2
theorem OkGk.parts_len {k n : Nat} {g : Gn} (h : OkGk k n g) : (partsG g).length ≤ 60 := by
  cases h with
  | int => exact Nat.zero_le _
  | pick => exact Nat.zero_le _
  | tuple h _ => exact h
  | list => show 1 ≤ 60; decide
  | one h _ => exact h
  | kept => show 1 ≤ 60; decide
  | turned => show 1 ≤ 60; decide
  | repeat_ => show 2 ≤ 60; decide
def nameG : Gn → Str
  | .int _ _ => "int"
  | .pick _ => "pick"
  | .tuple _ => "tuple"
  | .list _ _ _ => "list"
  | .one _ => "one"
  | .kept _ _ => "kept"
  | .turned _ _ => "turned"
  | .repeat_ _ _ => "repeat"
theorem Gn.name {K : PySem.W.Frag} {H : Hp} {v : V} {g : Gn} (h : Vd K H v g.data) : ∃ a x xs, v = .ref a ∧ SqT K H a (x :: xs) ∧ x = .str (nameG g) := by
  cases g with
  | list g lo hi =>
    rw [Gn.data] at h
    obtain ⟨a, rfl⟩ := h.ref
    obtain ⟨xs, hs, hl, hat⟩ := h.get
    match xs, hl with
    | [x0, x1, x2, x3], _ => exact ⟨a, x0, _, rfl, hs, (hat 0 x0 _ rfl rfl).str_inv⟩
  | _ => rw [Gn.data] at h; first | (obtain ⟨a, x, y, rfl, hs, hx, _⟩ := h.g2; exact ⟨a, x, _, rfl, hs, hx.str_inv⟩) | (obtain ⟨a, x, y, z, rfl, hs, hx, _⟩ := h.g3; exact ⟨a, x, _, rfl, hs, hx.str_inv⟩)
theorem plain_eq (g : Gn) : plainG g = (!inV (.str (nameG g)) [.str "kept", .str "repeat"] && (partsG g).all plainG) := by
  cases g <;> simp only [plainG, partsG, nameG, plainAll_all, List.all_nil, List.all_cons, Bool.and_true]
  all_goals first | rfl | (rw [show inV (V.str _) [V.str "kept", V.str "repeat"] = false from by decide +kernel]; rfl) | (rw [show inV (V.str _) [V.str "kept", V.str "repeat"] = true from by decide +kernel]; rfl)
/-! ### promises -/
def spParts (K : PySem.W.Frag) : Sp := fun vs H Q _ => ∃ (v : V) (g : Gn) (k n : Nat), vs = [v] ∧ Vd K H v g.data ∧ OkGk k n g ∧
  ∀ p xs H', Same H H' → H p = none → H' p = some (.lst xs) → Vds K H' xs ((partsG g).map Gn.data) → Q (.ref p) H'
def spPlain (K : PySem.W.Frag) (n : Nat) : Sp := fun vs H Q _ => ∃ (v : V) (g : Gn) (k : Nat), vs = [v] ∧ Vd K H v g.data ∧ OkGk k n g ∧ 2 * n + k ≤ 60 ∧ ∀ H', Same H H' → Q (.bl (plainG g)) H'
def spMerged (K : PySem.W.Frag) (n : Nat) : Sp := fun vs H Q _ => ∃ (v : V) (g : Gn) (k : Nat), vs = [v] ∧ Vd K H v g.data ∧ OkGk k n g ∧ ∀ r H', Same H H' → Vd K H' r (mergeG g).data → Q r H'
theorem OkGk.pos {k n : Nat} {g : Gn} (h : OkGk k n g) : 0 < n := by cases h <;> omega
theorem spPlain_0 {K : PySem.W.Frag} (vs : List V) (H : Hp) (Q : VK) (E : XK) : ¬ spPlain K 0 vs H Q E := fun h => by
  obtain ⟨_, _, _, _, _, h, _⟩ := h
  exact absurd h.pos (by omega)
theorem spMerged_0 {K : PySem.W.Frag} (vs : List V) (H : Hp) (Q : VK) (E : XK) : ¬ spMerged K 0 vs H Q E := fun h => by
  obtain ⟨_, _, _, _, _, h, _⟩ := h
  exact absurd h.pos (by omega)
theorem plain_call {K : PySem.W.Frag} {H : Hp} {n k : Nat} {v : V} {g : Gn} (hv : Vd K H v g.data) (hg : OkGk k n g) (hn : 2 * n + k ≤ 60) : SpV (spPlain K n) [v] H (.bl (plainG g)) := fun H1 e Q q E =>
  ⟨v, g, k, rfl, hv.keep (Kt.same e), hg, hn, fun H' e' => q H' e'⟩
theorem plain_parts (g : Gn) : plainG g = (match g with | .kept _ _ => false | .repeat_ _ _ => false | g => (partsG g).all plainG) := by
  cases g <;> simp [plainG, partsG, plainAll_all]
theorem cut2 (x y : V) (rest : List V) : cutV (x :: y :: rest) (some 2) none = rest := by
  have h : HT.sIx (x :: y :: rest).length 0 (some 2) = 2 := by
    rw [show HT.sIx (x :: y :: rest).length 0 (some 2) = min 2 (x :: y :: rest).length from HT.sIx_nat _ 0 2, List.length_cons, List.length_cons]
    omega
  unfold cutV
  rw [h, HT.sIx_none]
  show List.take ((rest.length + 1 + 1) - 2) rest = rest
  exact List.take_of_length_le (by omega)
/-- (word, inner) + gen[2:] -/
theorem cat_rest {K : PySem.W.Frag} {σ : L2.St} {H : Hp} {a : Addr} {x y w r : V} {rest : List V} (hs : SqT K H a (x :: y :: rest)) (hne : rest ≠ []) (hl : rest.length ≤ 10) (h0 : σ[0]? = some (some (.ref a))) (h1 : σ[1]? = some (some w)) (h2 : σ[2]? = some (some r)) :
    EvU (tOp (rCatA K) (tTup (tCons (tVar 1) (tCons (tVar 2) tNil))) (tSl (rSlA K) (tVar 0) (tPart (tC (.int 2))) tNoPart)) σ H (w :: r :: rest) := fun H1 e Q q => by
  refine ⟨w, h1, r, h2, len2, fun p1 hp1 => ⟨.ref a, h0, 2, rfl, a, x :: y :: rest, rfl, ex_t (e.trans (same_new hp1)) hs, fun hw => ?_, fun _ p2 hp2 => ?_⟩⟩
  · have h := hw.1
    rw [show HT.sIx (x :: y :: rest).length 0 (some 2) = min 2 (x :: y :: rest).length from HT.sIx_nat _ 0 2, List.length_cons, List.length_cons] at h
    omega
  · rw [cut2] at *
    have s2 := same_new (o := .tup rest) hp2
    refine ⟨p1, p2, [w, r], rest, rfl, rfl, ex_t s2 (.of upd_same), .of upd_same, Nat.le_of_lt (small1000 (by show 2 + rest.length ≤ 1000; omega)), fun h => (nomatch h), fun _ h => absurd h hne, fun _ _ p3 hp3 => ?_⟩
    have s3 := (same_new (o := .tup [w, r]) hp1).trans s2
    exact q p3 _ (fresh_back s3 hp3) (s3.trans (same_new hp3)) upd_same
theorem kept_or (G : Gn) : (∃ g c, G = .kept g c) ∨ (nameG G ≠ "kept" ∧ ∀ c, joinK G c = .kept G c) := by
  cases G with
  | kept g c => exact .inl ⟨g, c, rfl⟩
  | _ => exact .inr ⟨by simp only [nameG]; decide +kernel, fun _ => rfl⟩
theorem int_or (G : Gn) : (∃ a b, G = .int a b) ∨ (nameG G ≠ "int" ∧ ∀ m, joinT G m = .turned G m) := by
  cases G with
  | int a b => exact .inl ⟨a, b, rfl⟩
  | _ => exact .inr ⟨by simp only [nameG]; decide +kernel, fun _ => rfl⟩
def nameM : Mp → Str
  | .plus _ => "plus"
  | .times _ => "times"
  | .item _ => "item"
  | .length => "length"
  | .sum => "sum"
  | .sorted => "sorted"
  | .reversed => "reversed"
theorem Mp.nameOf {K : PySem.W.Frag} {H : Hp} {v : V} {m : Mp} (h : Vd K H v m.data) : ∃ a x xs, v = .ref a ∧ SqT K H a (x :: xs) ∧ x = .str (nameM m) ∧ ∀ n, m = .plus n → xs = [.int n] := by
  cases m with
  | plus n =>
    rw [Mp.data] at h
    obtain ⟨a, x, y, rfl, hs, hx, hy⟩ := h.g2
    exact ⟨a, x, _, rfl, hs, hx.str_inv, fun k e => by cases e; rw [hy.int_inv]⟩
  | _ => rw [Mp.data] at h; first | (obtain ⟨a, x, y, rfl, hs, hx, _⟩ := h.g2; exact ⟨a, x, _, rfl, hs, hx.str_inv, fun _ e => nomatch e⟩) | (obtain ⟨a, x, rfl, hs, hx⟩ := h.g1; exact ⟨a, x, _, rfl, hs, hx.str_inv, fun _ e => nomatch e⟩)
theorem plus_or (m : Mp) : (∃ n, m = .plus n) ∨ (nameM m ≠ "plus" ∧ ∀ G, joinT G m = .turned G m) := by
  cases m with
  | plus n => exact .inl ⟨n, rfl⟩
  | _ => exact .inr ⟨by simp only [nameM]; decide +kernel, fun G => by cases G <;> rfl⟩
theorem str_ne {x y : Str} (h : x ≠ y) : decide (V.str x = V.str y) = false := decide_eq_false fun e => h (V.str.inj e)
end Cr
/-! all rows of a generator, with their values -/
namespace Cr
open PySem PySem.Spec PyProof.Rows L2 Evl CrT
abbrev VR := PyData × List Int
abbrev TR := List PyData × List Int
def rowD (r : List Int) : PyData := .tuple (r.map PyData.int)
def pairD (p : VR) : PyData := .tuple [p.1, rowD p.2]
def tupR (p : TR) : VR := (.tuple p.1, p.2)
/-- rows beside parts, with choices ahead of each part's row -/
def besideG (rows : List TR) (parts : List VR) (ahead : List Int) : List TR := rows.flatMap fun r => parts.map fun p => (r.1 ++ [p.1], r.2 ++ ahead ++ p.2)
/-- what evaluates to a new list of data -/
def EvLD (K : PySem.W.Frag) (te : TE) (σ : L2.St) (H : Hp) (ds : List PyData) : Prop := ∀ H1, Ex H H1 → ∀ Q : VK, (∀ p vs H2, H1 p = none → Ex H1 H2 → H2 p = some (.lst vs) → Vds K H2 vs ds → Q (.ref p) H2) → te σ H1 Q
section
variable {K : PySem.W.Frag} {σ : L2.St} {H H' : Hp} {te tl ta tb : TE} {tt : TT} {tz : TS} {D : Ends}
theorem evd_of {v : V} {d : PyData} (h : Ev te σ H v) (hv : Vd K H v d) : EvD K te σ H d := fun H1 e Q q => h H1 e _ fun H2 e2 => q v H2 e2 (hv.keep (Kt.same (e.trans e2)))
/-- tuples joined -/
theorem evd_cat {ds es : List PyData} (h1 : EvD K ta σ H (.tuple ds)) (h2 : EvD K tb σ H (.tuple es)) (hl : ds.length + es.length ≤ 1000) : EvD K (tOp (rCatA K) ta tb) σ H (.tuple (ds ++ es)) := fun H1 e Q q =>
  h1 H1 e _ fun v H2 e2 hv => h2 H2 (e.trans e2) _ fun w H3 e3 hw => by
    obtain ⟨a, rfl⟩ := hv.ref
    obtain ⟨b, rfl⟩ := hw.ref
    obtain ⟨xs, hxs, hxv⟩ := (hv.keep (Kt.same e3)).all
    obtain ⟨ys, hys, hyv⟩ := hw.all
    have l1 := hxv.1
    have l2 := hyv.1
    refine ⟨a, b, xs, ys, rfl, rfl, hxs, hys, Nat.le_of_lt (small1000 (by omega)), fun h => ?_, fun _ h => ?_, fun _ _ p hp => ?_⟩
    · subst h
      have e0 : ds = [] := List.eq_nil_of_length_eq_zero (by simpa using l1.symm)
      subst e0
      exact q _ H3 (e2.trans e3) hw
    · subst h
      have e0 : es = [] := List.eq_nil_of_length_eq_zero (by simpa using l2.symm)
      subst e0
      exact q _ H3 (e2.trans e3) (by rw [List.append_nil]; exact hv.keep (Kt.same e3))
    · exact q _ _ ((e2.trans e3).trans (Ex.new hp)) (((hxv.app hyv).keep (Kt.new hp)).tup (.of upd_same))
/-- a comprehension with two names over a list of pairs -/
theorem eld_lc2 {a : Addr} {xs : List V} {ps : List VR} {j1 j2 : Nat} {vs : List Nat} (b : VR → Bool) (f : VR → PyData) (h : Ev tl σ H (.ref a)) (hx : SqL K H a xs) (hps : Vds K H xs (ps.map pairD)) (hz : xs.length ≤ 40000)
    (hw : ∀ x y, wipe (((wipe σ vs).set j1 (some x)).set j2 (some y)) vs = wipe σ vs)
    (ht : ∀ (p : VR) (v r : V) H1, Ex H H1 → p ∈ ps → Vd K H1 v p.1 → Vd K H1 r (rowD p.2) → EvT tt (((wipe σ vs).set j1 (some v)).set j2 (some r)) H1 (b p))
    (he : ∀ (p : VR) (v r : V) H1, Ex H H1 → p ∈ ps → b p = true → Vd K H1 v p.1 → Vd K H1 r (rowD p.2) → EvD K te (((wipe σ vs).set j1 (some v)).set j2 (some r)) H1 (f p)) :
    EvLD K (tLc (iList K tl) (gTup K 2 (gCons (gName j1) (gCons (gName j2) gNil))) tt te vs) σ H ((ps.filter b).map f) := fun H0 e Q q => h H0 e _ fun H1 e1 => ⟨a, rfl, ⟨xs, ex_l (e.trans e1) hx⟩, fun Dl hD => by
  have hpl : xs.length = ps.length := by rw [hps.1, List.length_map]
  refine lc_list (K := K) (a := a) (xs := xs) (fun i H' => ∃ us : List V, H' Dl = some (.lst us) ∧ us.length ≤ i ∧ Vds K H' us (((ps.take i).filter b).map f) ∧ Same H1 H') ⟨[], upd_same, Nat.le_refl _, by rw [List.take_zero]; exact .nil, Ex.new hD⟩ (fun i H2 _ hP => ?_) (fun i z H2 hz2 hP => ?_) (fun H2 hP => ?_)
  · obtain ⟨_, _, _, _, s⟩ := hP
    exact ex_l ((e.trans e1).trans s) hx
  · obtain ⟨us, hDu, hul, hus, s⟩ := hP
    have hi : i < ps.length := by have := (List.getElem?_eq_some_iff.mp hz2).1; omega
    obtain ⟨p, hp⟩ : ∃ p, ps[i]? = some p := ⟨_, List.getElem?_eq_getElem hi⟩
    have hpm := List.mem_of_getElem? hp
    have hzp : Vd K H2 z (pairD p) := (hps.2 i z _ hz2 (by rw [List.getElem?_map, hp]; rfl)).keep (Kt.same ((e.trans e1).trans s))
    obtain ⟨c, v, r, rfl, hc, hv, hr⟩ := hzp.g2
    refine ⟨c, _, rfl, hc, rfl, v, _, rfl, r, _, rfl, rfl, hw _ _, ?_⟩
    refine ht p v r H2 ((e.trans e1).trans s) hpm hv hr H2 (Ex.refl _) _ fun H3 s3 => ?_
    have tk : ps.take (i + 1) = ps.take i ++ [p] := by rw [List.take_add_one, hp]; rfl
    cases hb : b p with
    | false =>
      refine ⟨us, s3 _ _ hDu, by omega, ?_, s.trans s3⟩
      rw [tk, List.filter_append, List.filter_cons, hb]
      simpa using hus.keep (Kt.same s3)
    | true =>
      refine he p v r H3 (((e.trans e1).trans s).trans s3) hpm hb (hv.keep (Kt.same s3)) (hr.keep (Kt.same s3)) H3 (Ex.refl _) _ fun y H4 s4 hy => ⟨us, (s3.trans s4) _ _ hDu, Nat.lt_of_lt_of_le (show us.length < 40001 by omega) (by decide), us ++ [y], upd_same, by rw [List.length_append]; show us.length + 1 ≤ i + 1; omega, ?_, same_mut ((s.trans s3).trans s4) hD⟩
      rw [tk, List.filter_append, List.map_append, List.filter_cons, hb]
      exact ((hus.keep (Kt.same (s3.trans s4))).snoc hy).keep (Kt.lst ((s3.trans s4) _ _ hDu))
  · obtain ⟨us, hDu, _, hus, s⟩ := hP
    rw [hpl, List.take_length] at hus
    exact q Dl us H2 (fresh_back e1 hD) (e1.trans s) hDu hus⟩
theorem evds_row {x y z : List Int} (h : EvD K te σ H (.tuple ((x.map PyData.int ++ y.map PyData.int) ++ z.map PyData.int))) : EvD K te σ H (rowD (x ++ y ++ z)) := by
  unfold rowD
  rw [List.map_append, List.map_append]
  exact h
theorem besideG_nil (parts : List VR) (ahead : List Int) : besideG [] parts ahead = [] := rfl
theorem besideG_snoc (rows : List TR) (r : TR) (parts : List VR) (ahead : List Int) : besideG (rows ++ [r]) parts ahead = besideG rows parts ahead ++ parts.map fun p => (r.1 ++ [p.1], r.2 ++ ahead ++ p.2) := by
  unfold besideG
  rw [List.flatMap_append, List.flatMap_singleton]
theorem besideG_length (rows : List TR) (parts : List VR) (ahead : List Int) : (besideG rows parts ahead).length = rows.length * parts.length := by
  induction rows with
  | nil => simp [besideG]
  | cons r rows ih =>
    have e : besideG (r :: rows) parts ahead = (parts.map fun p => (r.1 ++ [p.1], r.2 ++ ahead ++ p.2)) ++ besideG rows parts ahead := rfl
    rw [e, List.length_append, List.length_map, ih, List.length_cons, Nat.add_mul]
    omega
/-- found = found + [..] -/
theorem q_catD {i j : Nat} {p0 : Addr} {xs0 : List V} {es0 es : List PyData} (hj : σ[j]? = some (some (.ref p0))) (h0 : H p0 = some (.lst xs0)) (hv0 : Vds K H xs0 es0) (h : EvLD K te σ H es) (hl : es0.length + es.length ≤ 100000)
    (k : ∀ p vs H1, Same H H1 → H1 p = some (.lst (xs0 ++ vs)) → Vds K H1 (xs0 ++ vs) (es0 ++ es) → tz D (σ.set i (some (.ref p))) H1) : tSeq (tAsg (tOp rCat (tVar j) te) (gName i)) tz D σ H :=
  ⟨.ref p0, hj, h H (Ex.refl H) _ fun p vs H2 hp e2 h2 hvs => by
    have l2 := hv0.1
    have l3 := hvs.1
    exact ⟨p0, p, xs0, vs, rfl, rfl, e2 _ _ h0, h2, Nat.le_trans (show xs0.length + vs.length ≤ 100000 by omega) (by decide), fun p2 hp2 => k p2 vs _ (e2.trans (same_new hp2)) upd_same (((hv0.keep (Kt.same e2)).app hvs).keep (Kt.new hp2))⟩⟩
theorem s_catD {i j : Nat} {p0 : Addr} {xs0 : List V} {es0 es : List PyData} (hj : σ[j]? = some (some (.ref p0))) (h0 : H p0 = some (.lst xs0)) (hv0 : Vds K H xs0 es0) (h : EvLD K te σ H es) (hl : es0.length + es.length ≤ 100000)
    (k : ∀ p vs H1, Same H H1 → H1 p = some (.lst (xs0 ++ vs)) → Vds K H1 (xs0 ++ vs) (es0 ++ es) → D.nx (σ.set i (some (.ref p))) H1) : tAsg (tOp rCat (tVar j) te) (gName i) D σ H :=
  ⟨.ref p0, hj, h H (Ex.refl H) _ fun p vs H2 hp e2 h2 hvs => by
    have l2 := hv0.1
    have l3 := hvs.1
    exact ⟨p0, p, xs0, vs, rfl, rfl, e2 _ _ h0, h2, Nat.le_trans (show xs0.length + vs.length ≤ 100000 by omega) (by decide), fun p2 hp2 => k p2 vs _ (e2.trans (same_new hp2)) upd_same (((hv0.keep (Kt.same e2)).app hvs).keep (Kt.new hp2))⟩⟩
end
/-! ### promises -/
def spBeside (K : PySem.W.Frag) : Sp := fun vs H Q _ => ∃ (a b : Addr) (u : V) (xs ys : List V) (rows : List TR) (parts : List VR) (ahead : List Int), vs = [.ref a, .ref b, u] ∧ H a = some (.lst xs) ∧ H b = some (.lst ys) ∧
  Vds K H xs (rows.map fun r => pairD (tupR r)) ∧ Vds K H ys (parts.map pairD) ∧ Vd K H u (rowD ahead) ∧ rows.length * parts.length ≤ 40000 ∧ rows.length ≤ 40000 ∧ parts.length ≤ 40000 ∧
  (∀ r ∈ rows, r.1.length ≤ 100 ∧ r.2.length ≤ 300) ∧ (∀ p ∈ parts, p.2.length ≤ 300) ∧ ahead.length ≤ 100 ∧
  ∀ p zs H', Same H H' → H' p = some (.lst zs) → Vds K H' zs ((besideG rows parts ahead).map fun r => pairD (tupR r)) → Q (.ref p) H'
end Cr
/-! all exact rows of a generator, with their values, in the order of the law's own walk -/
namespace Cr
open PySem PySem.Spec PyProof.Rows L2 Evl CrT
def timesR (parts : List VR) (ahead : List Int) : Nat → List TR → List TR
  | 0, acc => acc
  | n + 1, acc => timesR parts ahead n (besideG acc parts ahead)
def listStep (parts : List VR) (a : Int) (s : List TR × List VR) (many : Nat) : List TR × List VR :=
  if (many : Int) < a then (besideG s.1 parts [], s.2) else (besideG s.1 parts [1], s.2 ++ s.1.map fun r => tupR (r.1, r.2 ++ [0]))
def listRows (parts : List VR) (a b : Int) : List VR :=
  ((List.range b.toNat).foldl (listStep parts a) ([([], [])], [])).2 ++ ((List.range b.toNat).foldl (listStep parts a) ([([], [])], [])).1.map tupR
def repeatRows (parts : List VR) (p : VR) : List VR :=
  match p.1 with
  | .int m => if decide (0 ≤ m) && decide (m ≤ 6) then (timesR parts [] m.toNat [([], p.2)]).map tupR else []
  | _ => []
mutual
def rowsOf : Gn → List VR
  | .int lo hi => (List.range (hi - lo + 1).toNat).map fun (c : Nat) => (PyData.int (lo + (c : Int)), [(c : Int)])
  | .pick ws => ws.zipIdx.map fun (w : Str × Nat) => (PyData.str w.1, [(w.2 : Int)])
  | .tuple gs => (rowsTup gs [([], [])]).map tupR
  | .list g a b => listRows (rowsOf g) a b
  | .one gs => rowsOne gs 0
  | .kept g c => (rowsOf g).filter fun p => holdsC c p.1
  | .turned g m => (rowsOf g).map fun p => (turnD m p.1, p.2)
  | .repeat_ g h => (rowsOf g).flatMap (repeatRows (rowsOf h))
def rowsTup : List Gn → List TR → List TR
  | [], acc => acc
  | g :: gs, acc => rowsTup gs (besideG acc (rowsOf g) [])
def rowsOne : List Gn → Nat → List VR
  | [], _ => []
  | g :: gs, c => (rowsOf g).map (fun p => (p.1, (c : Int) :: p.2)) ++ rowsOne gs (c + 1)
end
/-! ### the values are of the kind -/
theorem iskAll_snoc : ∀ {ks : List Kd} {ds : List PyData} {k : Kd} {d : PyData}, iskAll ks ds = true → isk k d = true → iskAll (ks ++ [k]) (ds ++ [d]) = true
  | [], [], k, d, _, h => by
    show iskAll [k] [d] = true
    rw [iskAll, h, iskAll]
    rfl
  | [], _ :: _, _, _, h, _ => by simp [iskAll] at h
  | _ :: _, [], _, _, h, _ => by simp [iskAll] at h
  | k' :: ks, d' :: ds, k, d, h, g => by
    rw [iskAll, Bool.and_eq_true] at h
    show iskAll (k' :: (ks ++ [k])) (d' :: (ds ++ [d])) = true
    rw [iskAll, h.1, iskAll_snoc h.2 g]
    rfl
theorem mem_beside {rows : List TR} {parts : List VR} {ahead : List Int} {x : TR} (h : x ∈ besideG rows parts ahead) : ∃ r ∈ rows, ∃ p ∈ parts, x = (r.1 ++ [p.1], r.2 ++ ahead ++ p.2) := by
  unfold besideG at h
  obtain ⟨r, hr, h⟩ := List.mem_flatMap.mp h
  obtain ⟨p, hp, rfl⟩ := List.mem_map.mp h
  exact ⟨r, hr, p, hp, rfl⟩
theorem tup_isk : ∀ (gs : List Gn) (ks done : List Kd) (acc : List TR), gs.length = ks.length → (∀ (i : Nat) g k, gs[i]? = some g → ks[i]? = some k → ∀ p ∈ rowsOf g, isk k p.1 = true) → (∀ r ∈ acc, iskAll done r.1 = true) → ∀ r ∈ rowsTup gs acc, iskAll (done ++ ks) r.1 = true
  | [], [], done, acc, _, _, h => by
    rw [rowsTup, List.append_nil]
    exact h
  | [], _ :: _, _, _, hl, _, _ => by simp at hl
  | _ :: _, [], _, _, hl, _, _ => by simp at hl
  | g :: gs, k :: ks, done, acc, hl, hg, h => by
    rw [rowsTup, show done ++ k :: ks = (done ++ [k]) ++ ks by simp]
    refine tup_isk gs ks (done ++ [k]) _ (by simpa using hl) (fun i g' k' h1 h2 => hg (i + 1) g' k' (by simpa using h1) (by simpa using h2)) fun r hr => ?_
    obtain ⟨r0, hr0, p, hp, rfl⟩ := mem_beside hr
    exact iskAll_snoc (h r0 hr0) (hg 0 g k rfl rfl p hp)
theorem all_snoc {p : PyData → Bool} {ds : List PyData} {d : PyData} (h : ds.all p = true) (g : p d = true) : (ds ++ [d]).all p = true := by
  rw [List.all_append, h, List.all_cons, g]
  rfl
theorem times_isk {parts : List VR} {ahead : List Int} {k : Kd} (hp : ∀ p ∈ parts, isk k p.1 = true) : ∀ (n : Nat) (acc : List TR), (∀ r ∈ acc, r.1.all (isk k) = true) → ∀ r ∈ timesR parts ahead n acc, r.1.all (isk k) = true
  | 0, acc, h => h
  | n + 1, acc, h => times_isk hp n _ fun r hr => by
    obtain ⟨r0, hr0, p, hpm, rfl⟩ := mem_beside hr
    exact all_snoc (h r0 hr0) (hp p hpm)
theorem step_isk {parts : List VR} {a : Int} {k : Kd} (hp : ∀ p ∈ parts, isk k p.1 = true) : ∀ (l : List Nat) (s : List TR × List VR), (∀ r ∈ s.1, r.1.all (isk k) = true) → (∀ p ∈ s.2, isk (.lst k) p.1 = true) → (∀ r ∈ (l.foldl (listStep parts a) s).1, r.1.all (isk k) = true) ∧ ∀ p ∈ (l.foldl (listStep parts a) s).2, isk (.lst k) p.1 = true
  | [], s, h1, h2 => ⟨h1, h2⟩
  | m :: l, s, h1, h2 => by
    rw [List.foldl_cons]
    have hb : ∀ ahead, ∀ r ∈ besideG s.1 parts ahead, r.1.all (isk k) = true := fun ahead r hr => by
      obtain ⟨r0, hr0, p, hpm, rfl⟩ := mem_beside hr
      exact all_snoc (h1 r0 hr0) (hp p hpm)
    refine step_isk hp l _ ?_ ?_
    · unfold listStep
      split
      · exact hb []
      · exact hb [1]
    · unfold listStep
      split
      · exact h2
      · intro p hpm
        rcases List.mem_append.mp hpm with h | h
        · exact h2 p h
        · obtain ⟨r, hr, rfl⟩ := List.mem_map.mp h
          show isk (.lst k) (.tuple r.1) = true
          rw [isk]
          exact h1 r hr
theorem list_isk {parts : List VR} {a b : Int} {k : Kd} (hp : ∀ p ∈ parts, isk k p.1 = true) : ∀ p ∈ listRows parts a b, isk (.lst k) p.1 = true := fun p h => by
  have s := step_isk (a := a) hp (List.range b.toNat) ([([], [])], []) (fun r hr => by cases List.mem_singleton.mp hr; rfl) (fun _ h => nomatch h)
  rcases List.mem_append.mp h with h | h
  · exact s.2 p h
  · obtain ⟨r, hr, rfl⟩ := List.mem_map.mp h
    show isk (.lst k) (.tuple r.1) = true
    rw [isk]
    exact s.1 r hr
theorem one_isk {k : Kd} : ∀ (gs : List Gn) (c : Nat), (∀ g ∈ gs, ∀ p ∈ rowsOf g, isk k p.1 = true) → ∀ p ∈ rowsOne gs c, isk k p.1 = true
  | [], _, _, _, h => by rw [rowsOne] at h; cases h
  | g :: gs, c, hg, p, h => by
    rw [rowsOne] at h
    rcases List.mem_append.mp h with h | h
    · obtain ⟨q, hq, rfl⟩ := List.mem_map.mp h
      exact hg g List.mem_cons_self q hq
    · exact one_isk gs (c + 1) (fun g' h' => hg g' (List.mem_cons_of_mem _ h')) p h
theorem rows_isk {g : Gn} {k : Kd} (h : GenK g k) : ∀ p ∈ rowsOf g, isk k p.1 = true := by
  induction h with
  | int => 
    intro p hp
    rw [rowsOf] at hp
    obtain ⟨c, _, rfl⟩ := List.mem_map.mp hp
    rfl
  | pick _ _ _ hw =>
    intro p hp
    rw [rowsOf] at hp
    obtain ⟨w, hwm, rfl⟩ := List.mem_map.mp hp
    exact hw w.1 (List.fst_mem_of_mem_zipIdx hwm)
  | tuple _ hl _ ih =>
    intro p hp
    rw [rowsOf] at hp
    obtain ⟨r, hr, rfl⟩ := List.mem_map.mp hp
    show isk (.tup _) (.tuple r.1) = true
    rw [isk]
    exact tup_isk _ _ [] _ hl ih (fun r hr => by cases List.mem_singleton.mp hr; rw [iskAll]) r hr
  | list _ _ _ _ ih =>
    rw [rowsOf]
    exact list_isk ih
  | one _ _ _ ih =>
    rw [rowsOf]
    exact one_isk _ 0 ih
  | kept _ _ ih =>
    intro p hp
    rw [rowsOf] at hp
    exact ih p (List.mem_filter.mp hp).1
  | turned _ hb ih =>
    intro p hp
    rw [rowsOf] at hp
    obtain ⟨q, hq, rfl⟩ := List.mem_map.mp hp
    exact turn_isk hb (ih q hq)
  | repeat_ _ _ ih1 ih2 =>
    intro p hp
    rw [rowsOf] at hp
    obtain ⟨q, hq, hp⟩ := List.mem_flatMap.mp hp
    unfold repeatRows at hp
    split at hp
    · split at hp
      · obtain ⟨r, hr, rfl⟩ := List.mem_map.mp hp
        show isk (.lst _) (.tuple r.1) = true
        rw [isk]
        exact times_isk ih2 _ _ (fun r hr => by cases List.mem_singleton.mp hr; rfl) r hr
      · cases hp
    · cases hp
end Cr
/-! outcomes of draws -/
namespace Cr
open PySem PySem.Spec PyProof.Rows L2 Evl CrT
inductive Out where
  | val (v : PyData) (used : Nat) | refused (used : Nat) | wrong (place : Nat) | short (place : Nat)
def Out.data : Out → PyData
  | .val v n => .tuple [.str "value", v, .int (n : Int)]
  | .refused n => .tuple [.str "refused", .int (n : Int)]
  | .wrong n => .tuple [.str "wrong", .int (n : Int)]
  | .short n => .tuple [.str "short", .int (n : Int)]
def Out.step (o : Out) (k : PyData → Nat → Out) : Out :=
  match o with
  | .val v n => k v n
  | o => o
def choice (row : List Int) (at_ : Nat) (bound : Int) (k : Int → Out) : Out :=
  if row.length ≤ at_ then .short row.length else if decide (0 ≤ row.getD at_ 0) && decide (row.getD at_ 0 ≤ bound) then k (row.getD at_ 0) else .wrong at_
def outTimes (f : Nat → Out) : Nat → Nat → List PyData → Out
  | 0, at_, acc => .val (.tuple acc) at_
  | n + 1, at_, acc => (f at_).step fun v n' => outTimes f n n' (acc ++ [v])
def outList (f : Nat → Out) (row : List Int) (a : Int) : Nat → Nat → Nat → List PyData → Out
  | 0, _, at_, acc => .val (.tuple acc) at_
  | n + 1, many, at_, acc =>
    if (many : Int) < a then (f at_).step fun v n' => outList f row a n (many + 1) n' (acc ++ [v])
    else choice row at_ 1 fun c => if c = 0 then .val (.tuple acc) (at_ + 1) else (f (at_ + 1)).step fun v n' => outList f row a n (many + 1) n' (acc ++ [v])
def outRepeat (f : Nat → Out) (v : PyData) (n : Nat) : Out :=
  match v with
  | .int m => if decide (0 ≤ m) && decide (m ≤ 6) then outTimes f m.toNat n [] else .refused n
  | _ => .refused n
mutual
def outG : Gn → List Int → Nat → Out
  | .int lo hi, row, at_ => choice row at_ (hi - lo) fun c => .val (.int (lo + c)) (at_ + 1)
  | .pick ws, row, at_ => choice row at_ ((ws.length : Int) - 1) fun c => .val (.str (ws.getD c.toNat "")) (at_ + 1)
  | .tuple gs, row, at_ => outSeq gs row at_ []
  | .list g a b, row, at_ => outList (outG g row) row a b.toNat 0 at_ []
  | .one gs, row, at_ => choice row at_ ((gs.length : Int) - 1) fun c => outPick gs c.toNat row (at_ + 1)
  | .kept g c, row, at_ => (outG g row at_).step fun v n => if holdsC c v then .val v n else .refused n
  | .turned g m, row, at_ => (outG g row at_).step fun v n => .val (turnD m v) n
  | .repeat_ g h, row, at_ => (outG g row at_).step (outRepeat (outG h row))
def outSeq : List Gn → List Int → Nat → List PyData → Out
  | [], _, at_, acc => .val (.tuple acc) at_
  | g :: gs, row, at_, acc => (outG g row at_).step fun v n => outSeq gs row n (acc ++ [v])
def outPick : List Gn → Nat → List Int → Nat → Out
  | [], _, _, _ => .short 0
  | g :: _, 0, row, at_ => outG g row at_
  | _ :: gs, n + 1, row, at_ => outPick gs n row at_
end
/-! ### values of outcomes are of the kind -/
def Out.good (k : Kd) (o : Out) : Prop := ∀ v n, o = .val v n → isk k v = true
theorem good_step {o : Out} {k k' : Kd} {f : PyData → Nat → Out} (h : o.good k) (hf : ∀ v n, isk k v = true → (f v n).good k') : (o.step f).good k' := by
  cases o with
  | val v n => exact hf v n (h v n rfl)
  | _ => exact fun v n e => nomatch e
theorem good_choice {row : List Int} {at_ : Nat} {b : Int} {k : Kd} {f : Int → Out} (h : ∀ c, 0 ≤ c → c ≤ b → (f c).good k) : (choice row at_ b f).good k := by
  unfold choice
  split
  · exact fun v n e => nomatch e
  · split
    · rename_i hc
      have h2 := Bool.and_eq_true_iff.mp hc
      exact h _ (of_decide_eq_true h2.1) (of_decide_eq_true h2.2)
    · exact fun v n e => nomatch e
theorem good_tup {k : Kd} {vs : List PyData} {n : Nat} (h : vs.all (isk k) = true) : (Out.val (.tuple vs) n).good (.lst k) := fun v m e => by
  cases e
  rw [isk]
  exact h
theorem good_times {f : Nat → Out} {k : Kd} (hf : ∀ n, (f n).good k) : ∀ (m n : Nat) (acc : List PyData), acc.all (isk k) = true → (outTimes f m n acc).good (.lst k)
  | 0, n, acc, h => good_tup h
  | m + 1, n, acc, h => good_step (hf n) fun v n' hv => good_times hf m n' _ (all_snoc h hv)
theorem good_list {f : Nat → Out} {row : List Int} {a : Int} {k : Kd} (hf : ∀ n, (f n).good k) : ∀ (m many n : Nat) (acc : List PyData), acc.all (isk k) = true → (outList f row a m many n acc).good (.lst k)
  | 0, _, n, acc, h => good_tup h
  | m + 1, many, n, acc, h => by
    rw [outList]
    split
    · exact good_step (hf n) fun v n' hv => good_list hf m (many + 1) n' _ (all_snoc h hv)
    · refine good_choice fun c _ _ => ?_
      split
      · exact good_tup h
      · exact good_step (hf (n + 1)) fun v n' hv => good_list hf m (many + 1) n' _ (all_snoc h hv)
theorem good_seq {row : List Int} : ∀ (gs : List Gn) (ks done : List Kd) (n : Nat) (acc : List PyData), gs.length = ks.length → (∀ (i : Nat) g k, gs[i]? = some g → ks[i]? = some k → ∀ n, (outG g row n).good k) → iskAll done acc = true → (outSeq gs row n acc).good (.tup (done ++ ks))
  | [], [], done, n, acc, _, _, h => by
    rw [outSeq, List.append_nil]
    exact fun v m e => by cases e; rw [isk]; exact h
  | [], _ :: _, _, _, _, hl, _, _ => by simp at hl
  | _ :: _, [], _, _, _, hl, _, _ => by simp at hl
  | g :: gs, k :: ks, done, n, acc, hl, hg, h => by
    rw [outSeq, show done ++ k :: ks = (done ++ [k]) ++ ks by simp]
    exact good_step (hg 0 g k rfl rfl n) fun v n' hv => good_seq gs ks (done ++ [k]) n' _ (by simpa using hl) (fun i g' k' h1 h2 => hg (i + 1) g' k' (by simpa using h1) (by simpa using h2)) (iskAll_snoc h hv)
theorem good_pick {row : List Int} {k : Kd} : ∀ (gs : List Gn) (c n : Nat), (∀ g ∈ gs, ∀ n, (outG g row n).good k) → (outPick gs c row n).good k
  | [], _, _, _ => by rw [outPick]; exact fun v n e => nomatch e
  | g :: _, 0, n, h => by rw [outPick]; exact h g List.mem_cons_self n
  | _ :: gs, c + 1, n, h => by rw [outPick]; exact good_pick gs c n fun g hg => h g (List.mem_cons_of_mem _ hg)
theorem out_good {g : Gn} {k : Kd} (h : GenK g k) (row : List Int) : ∀ n, (outG g row n).good k := by
  induction h with
  | int => intro n; rw [outG]; exact good_choice fun c _ _ v m e => by cases e; rfl
  | pick h0 _ _ hw =>
    intro n
    rw [outG]
    refine good_choice fun c c0 c1 v m e => ?_
    cases e
    rw [isk]
    exact hw _ (List.mem_of_getElem? (getD_at (a0 := ("" : Str)) (by omega)))
  | tuple _ hl _ ih => intro n; rw [outG]; exact good_seq _ _ [] n [] hl ih (by rw [iskAll])
  | list _ _ _ _ ih => intro n; rw [outG]; exact good_list ih _ _ _ _ rfl
  | one _ _ _ ih => intro n; rw [outG]; exact good_choice fun c _ _ => good_pick _ _ _ ih
  | kept _ _ ih =>
    intro n
    rw [outG]
    refine good_step (ih n) fun v m hv => ?_
    split
    · exact fun v' m' e => by cases e; exact hv
    · exact fun v' m' e => nomatch e
  | turned _ hb ih => intro n; rw [outG]; exact good_step (ih n) fun v m hv => fun v' m' e => by cases e; exact turn_isk hb hv
  | repeat_ _ _ ih1 ih2 =>
    intro n
    rw [outG]
    refine good_step (ih1 n) fun v m hv => ?_
    unfold outRepeat
    split
    · split
      · exact good_times ih2 _ _ _ rfl
      · exact fun v' m' e => nomatch e
    · exact fun v' m' e => nomatch e
/-! ### and not deep -/
def Out.sat (P : PyData → Prop) (o : Out) : Prop := ∀ v n, o = .val v n → P v
theorem sat_step {o : Out} {P P' : PyData → Prop} {f : PyData → Nat → Out} (h : o.sat P) (hf : ∀ v n, o = .val v n → P v → (f v n).sat P') : (o.step f).sat P' := by
  cases o with
  | val v n => exact hf v n rfl (h v n rfl)
  | _ => exact fun v n e => nomatch e
theorem sat_choice {row : List Int} {at_ : Nat} {b : Int} {P : PyData → Prop} {f : Int → Out} (h : ∀ c, 0 ≤ c → c ≤ b → (f c).sat P) : (choice row at_ b f).sat P := by
  unfold choice
  split
  · exact fun v n e => nomatch e
  · split
    · rename_i hc
      have h2 := Bool.and_eq_true_iff.mp hc
      exact h _ (of_decide_eq_true h2.1) (of_decide_eq_true h2.2)
    · exact fun v n e => nomatch e
theorem snoc_dk {d : Nat} {acc : List PyData} {v : PyData} (h : ∀ x ∈ acc, Dk d x) (hv : Dk d v) : ∀ x ∈ acc ++ [v], Dk d x := fun x hx => by
  rcases List.mem_append.mp hx with hx | hx
  · exact h x hx
  · cases List.mem_singleton.mp hx
    exact hv
theorem sat_times {f : Nat → Out} {d : Nat} (hf : ∀ n, (f n).sat (Dk d)) : ∀ (m n : Nat) (acc : List PyData), (∀ x ∈ acc, Dk d x) → acc.length + m ≤ 60 → (outTimes f m n acc).sat (Dk (d + 1))
  | 0, n, acc, h, hl => fun v k e => by cases e; exact .tup hl h
  | m + 1, n, acc, h, hl => sat_step (hf n) fun v n' _ hv => sat_times hf m n' _ (snoc_dk h hv) (by rw [List.length_append]; show acc.length + 1 + m ≤ 60; omega)
theorem sat_list {f : Nat → Out} {row : List Int} {a : Int} {d : Nat} (hf : ∀ n, (f n).sat (Dk d)) : ∀ (m many n : Nat) (acc : List PyData), (∀ x ∈ acc, Dk d x) → acc.length + m ≤ 60 → (outList f row a m many n acc).sat (Dk (d + 1))
  | 0, _, n, acc, h, hl => fun v k e => by cases e; exact .tup hl h
  | m + 1, many, n, acc, h, hl => by
    rw [outList]
    have hl' : ∀ v : PyData, (acc ++ [v]).length + m ≤ 60 := fun v => by rw [List.length_append]; show acc.length + 1 + m ≤ 60; omega
    split
    · exact sat_step (hf n) fun v n' _ hv => sat_list hf m (many + 1) n' _ (snoc_dk h hv) (hl' v)
    · refine sat_choice fun c _ _ => ?_
      split
      · exact fun v k e => by cases e; exact .tup (by omega) h
      · exact sat_step (hf (n + 1)) fun v n' _ hv => sat_list hf m (many + 1) n' _ (snoc_dk h hv) (hl' v)
theorem sat_seq {row : List Int} {d : Nat} : ∀ (gs : List Gn) (n : Nat) (acc : List PyData), (∀ g ∈ gs, ∀ n, (outG g row n).sat (Dk d)) → (∀ x ∈ acc, Dk d x) → acc.length + gs.length ≤ 60 → (outSeq gs row n acc).sat (Dk (d + 1))
  | [], n, acc, _, h, hl => by rw [outSeq]; exact fun v k e => by cases e; exact .tup hl h
  | g :: gs, n, acc, hg, h, hl => by
    rw [outSeq]
    exact sat_step (hg g List.mem_cons_self n) fun v n' _ hv => sat_seq gs n' _ (fun g' h' => hg g' (List.mem_cons_of_mem _ h')) (snoc_dk h hv) (by rw [List.length_append]; rw [List.length_cons] at hl; show acc.length + 1 + gs.length ≤ 60; omega)
theorem sat_pick {row : List Int} {P : PyData → Prop} : ∀ (gs : List Gn) (c n : Nat), (∀ g ∈ gs, ∀ n, (outG g row n).sat P) → (outPick gs c row n).sat P
  | [], _, _, _ => by rw [outPick]; exact fun v n e => nomatch e
  | g :: _, 0, n, h => by rw [outPick]; exact h g List.mem_cons_self n
  | _ :: gs, c + 1, n, h => by rw [outPick]; exact sat_pick gs c n fun g hg => h g (List.mem_cons_of_mem _ hg)
theorem Out.sat.mono {o : Out} {n m : Nat} (h : o.sat (Dk n)) (hm : n ≤ m) : o.sat (Dk m) := fun v k e => (h v k e).mono hm
theorem out_deep {g : Gn} {kd : Kd} (h : GenK g kd) (row : List Int) : ∀ (k n : Nat), OkGk k n g → ∀ i, (outG g row i).sat (Dk n) := by
  induction h with
  | int => intro k n _ i; rw [outG]; exact sat_choice fun c _ _ v m e => by cases e; exact .int _
  | @pick ws h0 _ _ hw =>
    intro k n ho i
    rw [outG]
    cases ho with
    | pick h1 h2 =>
      refine sat_choice fun c c0 c1 v m e => ?_
      cases e
      have hm : ws.getD c.toNat "" ∈ ws := List.mem_of_getElem? (getD_at (a0 := ("" : Str)) (by omega))
      exact .str (h2 _ hm).1 (h2 _ hm).2
  | tuple hl4 hl _ ih =>
    intro k n ho i
    rw [outG]
    cases ho with
    | tuple h1 h2 => 
      refine sat_seq _ i [] (fun g hg j => ?_) (fun _ h => nomatch h) (by simpa using h1)
      obtain ⟨t, ht⟩ := List.mem_iff_getElem?.mp hg
      have htl := (List.getElem?_eq_some_iff.mp ht).1
      exact ih t g _ ht (getD_at (a0 := Kd.int) (by omega)) k _ (h2 g hg) j
  | list _ h0 h1 h2 ih =>
    intro k n ho i
    rw [outG]
    cases ho with
    | list _ _ ho => exact sat_list (fun j => ih k _ ho j) _ _ _ _ (fun _ h => nomatch h) (by simp; omega)
  | one _ _ _ ih =>
    intro k n ho i
    rw [outG]
    cases ho with
    | one h1 h2 => exact sat_choice fun c _ _ => sat_pick _ _ _ fun g hg j => (ih g hg k _ (h2 g hg) j).mono (by omega)
  | kept _ _ ih =>
    intro k n ho i
    rw [outG]
    cases ho with
    | kept ho _ =>
      refine sat_step ((ih k _ ho i).mono (Nat.le_succ _)) fun v m _ hv => ?_
      split
      · exact fun v' m' e => by cases e; exact hv
      · exact fun v' m' e => nomatch e
  | turned hg hb ih =>
    intro k n ho i
    rw [outG]
    cases ho with
    | turned _ ho => exact sat_step ((ih k _ ho i).mono (Nat.le_succ _)) fun v m e hv => fun v' m' e' => by cases e'; exact turn_dk hb (out_good hg row i v m e) hv
  | repeat_ _ _ ih1 ih2 =>
    intro k n ho i
    rw [outG]
    cases ho with
    | repeat_ ho1 ho2 =>
      refine sat_step (ih1 k _ ho1 i) fun v m _ hv => ?_
      unfold outRepeat
      split
      · split
        · rename_i hc
          have h2 := of_decide_eq_true (Bool.and_eq_true_iff.mp hc).2
          exact sat_times (fun j => ih2 k _ ho2 j) _ _ _ (fun _ h => nomatch h) (by simp; omega)
        · exact fun v' m' e => nomatch e
      · exact fun v' m' e => nomatch e
/-! ### promises -/
def nameO : Out → Str
  | .val _ _ => "value"
  | .refused _ => "refused"
  | .wrong _ => "wrong"
  | .short _ => "short"
theorem Out.name {K : PySem.W.Frag} {H : Hp} {r : V} {o : Out} (h : Vd K H r o.data) : ∃ a x xs, r = .ref a ∧ SqT K H a (x :: xs) ∧ x = .str (nameO o) := by
  cases o <;> rw [Out.data] at h <;> first | (obtain ⟨a, x, y, rfl, hs, hx, _⟩ := h.g2; exact ⟨a, x, _, rfl, hs, hx.str_inv⟩) | (obtain ⟨a, x, y, z, rfl, hs, hx, _⟩ := h.g3; exact ⟨a, x, _, rfl, hs, hx.str_inv⟩)
theorem row_sq {K : PySem.W.Frag} {H : Hp} {u : V} {row : List Int} (h : Vd K H u (rowD row)) : ∃ b, u = .ref b ∧ SqT K H b (row.map V.int) := by
  unfold rowD at h
  obtain ⟨b, rfl⟩ := h.ref
  obtain ⟨xs, hs, hx⟩ := h.all
  refine ⟨b, rfl, ?_⟩
  have e := hx.ints fun d hd => by
    obtain ⟨i, _, rfl⟩ := List.mem_map.mp hd
    rfl
  rw [List.map_map, List.map_map, show (V.int ∘ intOf) ∘ PyData.int = V.int from rfl] at e
  rw [e] at hs
  exact hs
def spOut (K : PySem.W.Frag) (n : Nat) : Sp := fun vs H Q _ => ∃ (v u : V) (g : Gn) (kd : Kd) (row : List Int) (at_ k : Nat), vs = [v, u, .int (at_ : Int)] ∧ Vd K H v g.data ∧ Vd K H u (rowD row) ∧ OkGk k n g ∧ GenK g kd ∧ row.length ≤ 1000000 ∧ k ≤ 10 ∧ n ≤ 18 ∧
  ∀ r H', Same H H' → Vd K H' r (outG g row at_).data → Q r H'
def spListed (K : PySem.W.Frag) (n : Nat) : Sp := fun vs H Q _ => ∃ (v u : V) (g : Gn) (kd : Kd) (row : List Int) (at_ k : Nat) (a b : Int), vs = [v, u, .int (at_ : Int)] ∧ Vd K H v (Gn.list g a b).data ∧ Vd K H u (rowD row) ∧ OkGk k n g ∧ GenK g kd ∧ 0 ≤ a ∧ a ≤ b ∧ b ≤ 6 ∧ row.length ≤ 1000000 ∧ (k ≤ 10 ∧ n ≤ 18) ∧
  ∀ r H', Same H H' → Vd K H' r (outList (outG g row) row a b.toNat 0 at_ []).data → Q r H'
end Cr
/-! the law's walk through a row: its steps -/
namespace Cr
open PySem PySem.Spec PyProof.Rows L2 Evl CrT
abbrev lenR (K : PySem.W.Frag) : List V → Hp → VK → Prop := fun xs H Q => ∃ p ys, xs = [.ref p] ∧ (SqL K H p ys ∨ SqT K H p ys) ∧ Q (.int ys.length) H
abbrev geR : R2 := rI0 fun i j => .bl (decide (j ≤ i))
abbrev leR : R2 := rI0 fun i j => .bl (decide (i ≤ j))
section
variable {K : PySem.W.Frag} {σ : L2.St} {H H' : Hp} {te tb : TE} {tz : TS} {D : Ends}
/-- if told[0] != 'value': return told -/
theorem q_told {o : Out} {r : V} (hj : σ[5]? = some (some r)) (hr : Vd K H r o.data) (no : (∀ v n, o ≠ .val v n) → ∀ H1, Same H H1 → D.rt r H1)
    (yes : ∀ v n a x, o = .val v n → r = .ref a → SqT K H a [.str "value", x, .int (n : Int)] → Vd K H x v → ∀ H1, Same H H1 → tz D σ H1) :
    tSeq (tIfS (tTest (tOp rNe (tOp (rIxT K) (tVar 5) (tC (.int 0))) (tC (.str "value")))) (tRet (tVar 5)) tNext) tz D σ H := by
  cases ho : o with
  | val v n =>
    have hr' := hr
    rw [ho, Out.data] at hr'
    obtain ⟨a, x, y, z, rfl, hs, hx, hy, hz⟩ := hr'.g3
    cases hx.str_inv
    cases hz.int_inv
    exact q_when (b := false) (et_is (et_test (ev_op (ev_ixT (j := 0) (ev_var hj) ev_c hs rfl) ev_c (rv_ne rfl))) (by decide +kernel)) (fun h => Bool.noConfusion h) fun _ H1 e1 => yes v n a y ho rfl hs hy H1 e1
  | _ =>
    obtain ⟨a, x, xs, rfl, hs, hx⟩ := Out.name hr
    rw [ho] at hx
    cases hx
    exact q_when (b := true) (et_is (et_test (ev_op (ev_ixT (j := 0) (ev_var hj) ev_c hs rfl) ev_c (rv_ne rfl))) (by rw [str_ne (by simp only [nameO]; decide +kernel)]; rfl)) (fun _ H1 e1 => s_ret (ev_var hj) fun H2 e2 => no (fun v n e => by rw [ho] at e; cases e) H2 (e1.trans e2)) fun h => Bool.noConfusion h
/-- if at >= len(row): return ('short', len(row)); if not 0 <= row[at] <= bound: return ('wrong', at) -/
theorem q_choice {row : List Int} {b : Addr} {at_ : Nat} {bnd : Int} (h1 : σ[1]? = some (some (.ref b))) (h2 : σ[2]? = some (some (.int (at_ : Int)))) (hb : SqT K H b (row.map V.int)) (hbnd : ∀ H1, Same H H1 → Ev tb σ H1 (.int bnd))
    (fin : ∀ r H1 o, Same H H1 → Vd K H1 r (Out.data o) → (∀ k, choice row at_ bnd k = o) → D.rt r H1)
    (go : ∀ H1, Same H H1 → at_ < row.length → 0 ≤ row.getD at_ 0 → row.getD at_ 0 ≤ bnd → (∀ k, choice row at_ bnd k = k (row.getD at_ 0)) → tz D σ H1) :
    tSeq (tIfS (tTest (tOp geR (tVar 2) (tCB (lenR K) (tCons (tVar 1) tNil)))) (tRet (tTup (tCons (tC (.str "short")) (tCons (tCB (lenR K) (tCons (tVar 1) tNil)) tNil)))) tNext)
      (tSeq (tIfS (tNot (tTest (tChain leR leR (tC (.int 0)) (tOp (rIxT K) (tVar 1) (tVar 2)) tb))) (tRet (tTup (tCons (tC (.str "wrong")) (tCons (tVar 2) tNil)))) tNext) tz) D σ H := by
  have hlen : (row.map V.int).length = row.length := List.length_map _
  refine q_when (b := decide (row.length ≤ at_)) (et_is (et_test (ev_op (ev_var h2) (ev_lenT (ev_var h1) hb) rv_I0)) ?_) (fun hs H1 e1 => ?_) (fun hs H1 e1 => ?_)
  · rw [hlen]
    exact decide_eq_decide.mpr (by omega)
  · have hs' : row.length ≤ at_ := of_decide_eq_true hs
    refine s_retU (eu_tup (ea_cons ev_c (ea_cons (ev_lenT (ev_var h1) (ex_t e1 hb)) ea_nil)) (by show 2 ≤ 100000; decide)) fun p H2 hp e2 h2' => fin _ H2 (.short row.length) (e1.trans e2) ?_ (fun k => by unfold choice; rw [if_pos hs'])
    rw [Out.data]
    exact .t2 (.of h2') (.str _) (by rw [hlen]; exact .int _)
  · have hs' : at_ < row.length := by have := of_decide_eq_false hs; omega
    have hget : row[at_]? = some (row.getD at_ 0) := getD_at hs'
    have hx : ∀ H2, Same H1 H2 → Ev (tOp (rIxT K) (tVar 1) (tVar 2)) σ H2 (.int (row.getD at_ 0)) := fun H2 e2 => ev_ixT (ev_var h1) (ev_var h2) (ex_t (e1.trans e2) hb) (by rw [List.getElem?_map, hget]; rfl)
    refine q_when (b := !(decide (0 ≤ row.getD at_ 0) && decide (row.getD at_ 0 ≤ bnd))) (et_not (et_test (ev_chain ev_c (hx H1 (Ex.refl _)) (hbnd H1 e1) rv_I0 rv_I0))) (fun hc H2 e2 => ?_) (fun hc H2 e2 => ?_)
    · refine s_retU (eu_tup (ea_cons ev_c (ea_cons (ev_var h2) ea_nil)) (by show 2 ≤ 100000; decide)) fun p H3 hp e3 h3 => fin _ H3 (.wrong at_) ((e1.trans e2).trans e3) ?_ (fun k => ?_)
      · rw [Out.data]
        exact .t2 (.of h3) (.str _) (.int _)
      · unfold choice
        rw [if_neg (by omega), if_neg (fun h => by rw [h] at hc; cases hc)]
    · have hc' : (decide (0 ≤ row.getD at_ 0) && decide (row.getD at_ 0 ≤ bnd)) = true := by
        cases h : (decide (0 ≤ row.getD at_ 0) && decide (row.getD at_ 0 ≤ bnd)) with
        | true => rfl
        | false => rw [h] at hc; cases hc
      have hcc := Bool.and_eq_true_iff.mp hc'
      exact go H2 (e1.trans e2) hs' (of_decide_eq_true hcc.1) (of_decide_eq_true hcc.2) fun k => by unfold choice; rw [if_neg (by omega), if_pos hc']
/-- told = _law_outcome(gen[1], row, at); .. ; values = values + (told[1],); at = told[2] -/
def listedTail (K : PySem.W.Frag) (n : Nat) : TS := tSeq (tAsg (tCall (spOut K n) [] E0 (tCons (tOp (rIxT K) (tVar 0) (tC (.int 1))) (tCons (tVar 1) (tCons (tVar 2) tNil)))) (gName 5)) (tSeq (tIfS (tTest (tOp rNe (tOp (rIxT K) (tVar 5) (tC (.int 0))) (tC (.str "value")))) (tRet (tVar 5)) tNext)
  (tSeq (tAsg (tOp (rCatA K) (tVar 3) (tTup (tCons (tOp (rIxT K) (tVar 5) (tC (.int 1))) tNil))) (gName 3)) (tAsg (tOp (rIxT K) (tVar 5) (tC (.int 2))) (gName 2))))
theorem listed_tail {p b : Addr} {x0 x1 x2 x3 vals : V} {z4 z5 : Option V} {g : Gn} {kd : Kd} {row : List Int} {at_ k n : Nat} {acc : List PyData} (hs : SqT K H p [x0, x1, x2, x3]) (hx1 : Vd K H x1 g.data) (hu : Vd K H (.ref b) (rowD row)) (hvals : Vd K H vals (.tuple acc)) (hacc : acc.length ≤ 100)
    (hg : OkGk k n g) (hgk : GenK g kd) (hl : row.length ≤ 1000000) (hk : k ≤ 10) (hn : n ≤ 18)
    (no : (∀ v n, outG g row at_ ≠ .val v n) → ∀ r H1, Same H H1 → Vd K H1 r (outG g row at_).data → D.rt r H1)
    (yes : ∀ v m w r H1, outG g row at_ = .val v m → Same H H1 → Vd K H1 w (.tuple (acc ++ [v])) → D.nx [some (.ref p), some (.ref b), some (.int (m : Int)), some w, z4, some r] H1) :
    listedTail K n D [some (.ref p), some (.ref b), some (.int (at_ : Int)), some vals, z4, z5] H := by
  refine ⟨_, rfl, p, _, 1, x1, rfl, rfl, hs, rfl, _, rfl, _, rfl, x1, .ref b, g, kd, row, at_, k, rfl, hx1, hu, hg, hgk, hl, hk, hn, fun r H1 e1 hr => ?_⟩
  refine g_name ?_
  dsimp only
  refine q_told (K := K) (o := outG g row at_) (r := r) rfl hr (fun h H2 e2 => no h r H2 (e1.trans e2) (hr.keep (Kt.same e2))) (fun v m a x ho hra hsa hx H2 e2 => ?_)
  subst hra
  refine evd_cat (K := K) (ds := acc) (es := [v]) (evd_var rfl (hvals.keep (Kt.same (e1.trans e2)))) (evd_tup (evds_cons (evd_of (ev_ixT (j := 1) (ev_var rfl) ev_c (ex_t e2 hsa) rfl) (hx.keep (Kt.same e2))) evds_nil) (by show 1 ≤ 1000; decide)) (by show acc.length + 1 ≤ 1000; omega) H2 (Ex.refl _) _ fun w H3 e3 hw => ?_
  refine g_name ?_
  dsimp only
  refine ev_ixT (j := 2) (ev_var rfl) ev_c (ex_t (e2.trans e3) hsa) rfl H3 (Ex.refl _) _ fun H4 e4 => ?_
  exact yes v m w _ H4 ho (((e1.trans e2).trans e3).trans e4) (hw.keep (Kt.same e4))
/-- values = (); for part in parts: ..; return ('value', values, at) -/
def seqRest (K : PySem.W.Frag) (n : Nat) : TS := tSeq (tAsg (tTup tNil) (gName 7)) (tSeq (tFor (iList K (tVar 6)) (gName 8) (tSeq (tAsg (tCall (spOut K n) [] E0 (tCons (tVar 8) (tCons (tVar 1) (tCons (tVar 2) tNil)))) (gName 5))
  (tSeq (tIfS (tTest (tOp rNe (tOp (rIxT K) (tVar 5) (tC (.int 0))) (tC (.str "value")))) (tRet (tVar 5)) tNext) (tSeq (tAsg (tOp (rCatA K) (tVar 7) (tTup (tCons (tOp (rIxT K) (tVar 5) (tC (.int 1))) tNil))) (gName 7)) (tAsg (tOp (rIxT K) (tVar 5) (tC (.int 2))) (gName 2))))))
  (tRet (tTup (tCons (tC (.str "value")) (tCons (tVar 7) (tCons (tVar 2) tNil))))))
theorem step_no {o : Out} {f : PyData → Nat → Out} (h : ∀ v n, o ≠ .val v n) : o.step f = o := by
  cases o with
  | val v n => exact absurd rfl (h v n)
  | _ => rfl
theorem seq_rest {l c : Addr} {xs : List V} {z0 z3 z4 z5 z7 z8 : Option V} {gl : List Gn} {row : List Int} {at_ k n : Nat} (hl0 : H l = some (.lst xs)) (hxs : Vds K H xs (gl.map Gn.data)) (hu : Vd K H (.ref c) (rowD row)) (hgl : ∀ g ∈ gl, OkGk k n g ∧ ∃ kd, GenK g kd) (h60 : gl.length ≤ 60)
    (hl : row.length ≤ 1000000) (hk : k ≤ 10) (hn : n ≤ 18) (fin : ∀ r H1, Same H H1 → Vd K H1 r (outSeq gl row at_ []).data → D.rt r H1) :
    seqRest K n D [z0, some (.ref c), some (.int (at_ : Int)), z3, z4, z5, some (.ref l), z7, z8] H := by
  have hxl : xs.length = gl.length := by rw [hxs.1, List.length_map]
  refine q_asgU (eu_tup ea_nil (by decide)) fun p0 H1 hp0 e1 h1 => ?_
  refine q_forL (K := K) (xs := xs) (ev_var rfl) (.of (e1 _ _ hl0)) (fun i σ' H' => ∃ (z5 z8 : Option V) (at1 : Nat) (w : V) (acc : List PyData), σ' = [z0, some (.ref c), some (.int (at1 : Int)), z3, z4, z5, some (.ref l), some w, z8] ∧ Vd K H' w (.tuple acc) ∧ acc.length ≤ i ∧ Same H H' ∧ outSeq gl row at_ [] = outSeq (gl.drop i) row at1 acc)
    (fun H' e => ⟨_, _, at_, _, [], rfl, .t0 (.of (e _ _ h1)), by simp, e1.trans e, rfl⟩) (fun i σ' H' hi hP => ?_) (fun i x σ' H' hx hP => ?_) (fun σ' H' hP => ?_)
  · obtain ⟨_, _, _, _, _, rfl, _, _, e, _⟩ := hP
    exact .of (e _ _ hl0)
  · obtain ⟨z5, z8, at1, w, acc, rfl, hw, hal, e, hO⟩ := hP
    have hi : i < gl.length := by have := (List.getElem?_eq_some_iff.mp hx).1; omega
    obtain ⟨g, hgi⟩ : ∃ g, gl[i]? = some g := ⟨_, List.getElem?_eq_getElem hi⟩
    obtain ⟨hg, kd, hgk⟩ := hgl g (List.mem_of_getElem? hgi)
    have hxg : Vd K H' x g.data := (hxs.2 i x _ hx (by rw [List.getElem?_map, hgi]; rfl)).keep (Kt.same e)
    have hd : gl.drop i = g :: gl.drop (i + 1) := by
      have := List.getElem?_eq_some_iff.mp hgi
      rw [← this.2]
      exact List.drop_eq_getElem_cons hi
    rw [hd, outSeq] at hO
    refine g_name ?_
    try dsimp only
    refine ⟨_, rfl, _, rfl, _, rfl, x, .ref c, g, kd, row, at1, k, rfl, hxg, hu.keep (Kt.same e), hg, hgk, hl, hk, hn, fun r H2 e2 hr => ?_⟩
    refine g_name ?_
    try dsimp only
    refine q_told (K := K) (o := outG g row at1) (r := r) rfl hr (fun hno H3 e3 => ?_) (fun v m a y ho hra hsa hy H3 e3 => ?_)
    · rw [step_no hno] at hO
      exact fin r H3 ((e.trans e2).trans e3) (by rw [hO]; exact hr.keep (Kt.same e3))
    · subst hra
      refine evd_cat (K := K) (ds := acc) (es := [v]) (evd_var rfl (hw.keep (Kt.same (e2.trans e3)))) (evd_tup (evds_cons (evd_of (ev_ixT (j := 1) (ev_var rfl) ev_c (ex_t e3 hsa) rfl) (hy.keep (Kt.same e3))) evds_nil) (by show 1 ≤ 1000; decide)) (by show acc.length + 1 ≤ 1000; omega) H3 (Ex.refl _) _ fun w2 H4 e4 hw2 => ?_
      refine g_name ?_
      try dsimp only
      refine ev_ixT (j := 2) (ev_var rfl) ev_c (ex_t (e3.trans e4) hsa) rfl H4 (Ex.refl _) _ fun H5 e5 => ?_
      refine ⟨_, _, m, w2, acc ++ [v], rfl, hw2.keep (Kt.same e5), by rw [List.length_append]; show acc.length + 1 ≤ i + 1; omega, ((((e.trans e2).trans e3).trans e4).trans e5), ?_⟩
      rw [hO, ho]
      rfl
  · obtain ⟨z5, z8, at1, w, acc, rfl, hw, hal, e, hO⟩ := hP
    rw [hxl, List.drop_length, outSeq] at hO
    refine s_retU (eu_tup (ea_cons ev_c (ea_cons (ev_var rfl) (ea_cons (ev_var rfl) ea_nil))) (by show 3 ≤ 100000; decide)) fun p3 H6 hp3 e6 h6 => fin _ H6 (e.trans e6) ?_
    rw [hO, Out.data]
    exact .t3 (.of h6) (.str _) (hw.keep (Kt.same e6)) (.int _)
end
theorem outTimes_seq (h : Gn) (row : List Int) : ∀ (m n : Nat) (acc : List PyData), outTimes (outG h row) m n acc = outSeq (List.replicate m h) row n acc
  | 0, n, acc => by rw [outTimes, List.replicate_zero, outSeq]
  | m + 1, n, acc => by
    rw [outTimes, List.replicate_succ, outSeq]
    cases ho : outG h row n with
    | val v k => exact outTimes_seq h row m k _
    | _ => rfl
theorem outPick_get {row : List Int} {n : Nat} : ∀ {gs : List Gn} {i : Nat} {g : Gn}, gs[i]? = some g → outPick gs i row n = outG g row n
  | [], i, g, h => by simp at h
  | g' :: gs, 0, g, h => by cases h; rw [outPick]
  | g' :: gs, i + 1, g, h => by rw [outPick]; exact outPick_get (by simpa using h)
theorem rep_vds {K : PySem.W.Frag} {H : Hp} {z : V} {h : Gn} (hz : Vd K H z h.data) : ∀ m : Nat, Vds K H (List.replicate m [z]).flatten ((List.replicate m h).map Gn.data)
  | 0 => .nil
  | m + 1 => by
    rw [List.replicate_succ, List.replicate_succ, List.flatten_cons, List.map_cons]
    exact .cons hz (rep_vds hz m)
end Cr
/-! len(set(t)), t a tuple of texts of any length up to 1000 -/
namespace CrU
open PySem PySem.Spec PyProof.Rows
/-- how many different ones the first i are -/
def metN (ws : List Str) : Nat → Nat
  | 0 => 0
  | i + 1 => if (ws.take i).any (· == ws.getD i Str.empty) then metN ws i else metN ws i + 1
theorem metN_le (ws : List Str) : ∀ i, metN ws i ≤ i
  | 0 => Nat.le_refl _
  | i + 1 => by
    have := metN_le ws i
    unfold metN
    split <;> omega
theorem metN_full {ws : List Str} : ∀ i, i ≤ ws.length → (metN ws i = i ↔ (ws.take i).Nodup)
  | 0, _ => by simp [metN]
  | i + 1, h => by
    have ih := metN_full (ws := ws) i (by omega)
    have hl := metN_le ws i
    have e : ws.take (i + 1) = ws.take i ++ [ws.getD i Str.empty] := by
      rw [List.take_add_one, List.getElem?_eq_getElem (by omega), List.getD_eq_getElem?_getD, List.getElem?_eq_getElem (by omega)]
      rfl
    have hm : (ws.take i).any (· == ws.getD i Str.empty) = true ↔ ws.getD i Str.empty ∈ ws.take i := by
      rw [List.any_eq_true]
      exact ⟨fun ⟨y, hy, ey⟩ => by rw [← eq_of_beq ey]; exact hy, fun hy => ⟨_, hy, beq_self_eq_true _⟩⟩
    rw [e, List.nodup_append]
    unfold metN
    split
    · rename_i hc
      have hc := hm.mp hc
      exact ⟨fun h => absurd h (by omega), fun h => absurd rfl (h.2.2 _ hc _ (List.mem_singleton.mpr rfl))⟩
    · rename_i hc
      have hc : ws.getD i Str.empty ∉ ws.take i := fun hh => hc (hm.mpr hh)
      constructor
      · intro h
        exact ⟨ih.mp (by omega), List.nodup_cons.mpr ⟨by simp, List.nodup_nil⟩, fun a ha b hb e => hc (by rw [← List.mem_singleton.mp hb, ← e]; exact ha)⟩
      · intro h
        rw [ih.mpr h.1]
abbrev Wds (ws : List Str) (i : Nat) : Str → Bool := fun z => (ws.take i).any (· == z)
abbrev Bare (led : Bool) : Obj := { cls := .type "set", dict := none, data := .set #[] 0 (.fresh 0 0 led) }
section
variable {P : Program} {w : World} {A : Around} {R : Result → Shared → Prop} {J : Addr} {fp wr : List Addr} {G : Array GenState → Array GenState → Prop} {n : Nat} {Pv : Nat → Value → Prop} {St : Nat → Shared → Prop}
abbrev St1 (P : Program) (w : World) (h : Heap) (S : Addr) (ws : List Str) (i : Nat) : Prop := h.SetOf (PySem.strKind P w) S (Wds ws i) (metN ws i)
theorem st1_move {h h' : Heap} {S : Addr} {ws : List Str} {i : Nat} (x : St1 P w h S ws i) (k : ∀ o, h.get? S = some o → h'.get? S = some o) : St1 P w h' S ws i := by
  obtain ⟨o, es, ep, t, ho, r⟩ := x
  exact ⟨o, es, ep, t, k _ ho, r⟩
theorem grow (W : WalksS P w A.in1 J fp wr G n Pv St) (S : Addr) (hS : S ∉ fp) (ws : List Str) (hn : ws.length = n) (hb : n + 1 < scanBound) (hv : ∀ i v, Pv i v → ∃ t, v = .str (ws.getD i Str.empty) t) :
    ∀ (m i : Nat) (s : Shared), n - i = m → i ≤ n → St i s → St1 P w s.heap S ws i → (∀ s', Moved (S :: wr) G s s' → St1 P w s'.heap S ws n → R (.ok (.ret .none)) s') → codeAny (model P w) A (.builtin "set.update.loop" ⟨[.ref S, .ref J], []⟩) R s := by
  have hw : S ∉ wr := fun h => hS (W.sub _ h)
  have hmem : ∀ b ∈ wr, b ∈ S :: wr := fun b h => List.mem_cons_of_mem _ h
  intro m
  induction m with
  | zero =>
    intro i s hm hi st x fin
    obtain rfl : i = n := by omega
    refine codeAny_builtin PyProof.Rows.F.entry_set_update_loop ?_; rw [Around.under_plainId PyProof.Rows.F.plain_set_update_loop _]
    show wpAny _ A.in1 (pyNext (.ref J) >>= _) _ _ s
    exact wpAny_bind (W.done s _ _ st fun s' hm => (show wpAny _ A.in1 (ret Value.none) _ _ s' from wpAny_pure (fin s' (hm.mono hmem) (st1_move x fun o e => hm.heap S o hw e))))
  | succ m ih =>
    intro i s hm hi st x fin
    have hlt : i < n := by omega
    refine codeAny_builtin PyProof.Rows.F.entry_set_update_loop ?_; rw [Around.under_plainId PyProof.Rows.F.plain_set_update_loop _]
    show wpAny _ A.in1 (pyNext (.ref J) >>= _) _ _ s
    refine wpAny_bind (W.item i s _ _ hlt st fun v s' hp st' hmv => ?_)
    obtain ⟨t, rfl⟩ := hv i v hp
    have x' : St1 P w s'.heap S ws i := st1_move x fun o e => hmv.heap S o hw e
    show wpAny _ A.in1 (holding [Value.str (ws.getD i Str.empty) t] (setAdd S (.str (ws.getD i Str.empty) t)) >>= _) _ _ s'
    refine wpAny_bind (wpAny_holding ?_); unfold setAdd; refine wpAny_holding ?_
    refine wpAny_bind ((PySem.strKind P w).pyHash (k := ws.getD i Str.empty) (strKind_is _ _ _ _) ?_)
    refine wpAny_setAddHashed_of (knd := PySem.strKind P w) (s := { s' with toks := s'.toks + 1 }) (strKind_is _ _ _ _) rfl x' (by have := metN_le ws i; omega) fun h' sb x2 => ?_
    have x3 : St1 P w h' S ws (i + 1) := by
      refine SetOf_congr x2 (fun z => ?_) rfl
      show ((ws.take i).any (· == z) || decide (z = ws.getD i Str.empty)) = (ws.take (i + 1)).any (· == z)
      rw [List.take_add_one, List.getElem?_eq_getElem (show i < ws.length by omega), List.any_append, List.getD_eq_getElem?_getD, List.getElem?_eq_getElem (show i < ws.length by omega)]
      congr 1
      show decide (z = ws[i]) = ((ws[i] == z) || false)
      rw [Bool.or_false, Bool.eq_iff_iff, decide_eq_true_iff, beq_iff_eq]
      exact eq_comm
    refine wpAny_pure ⟨plainId_quiet PyProof.Rows.F.plain_set_update_loop _, ih (i + 1) _ (by omega) hlt (W.frame _ s' _ _ st' (Nat.le_succ _) fun b hb o e => ?_) x3 fun s2 hm2 x4 => ?_⟩
    · rw [sb.2 b fun h : b = S => hS (h ▸ hb)]; exact e
    · refine fin s2 (Moved.trans W.gtrans ((hmv.mono hmem).then_heap (Nat.le_succ _) fun b o hb e => ?_) hm2) x4
      rw [sb.2 b fun h : b = S => hb (h ▸ List.mem_cons_self)]; exact e
end
section
variable {P : Program} {w : World} {A : Around} {E : Value → Shared → Prop} {s : Shared}
set_option maxHeartbeats 3200000 in
theorem set_words {l : Addr} {its : Array Value} {ws : List Str} {Q : Value → Shared → Prop} (hc : A.handled = none) (hl : s.heap.IsTuple l its) (hi : PyProof.Rows.StrsAre its.toList ws) (hz : ws.length ≤ 1000)
    (fin : ∀ (h' : Heap) (tk : Nat), St1 P w h' s.heap.objs.size ws ws.length → (∀ b o, b < s.heap.objs.size → s.heap.get? b = some o → h'.get? b = some o) → Q (.ref s.heap.objs.size) { s with heap := h', toks := tk }) :
    wpAny (model P w) A (call (.type "set") [.ref l]) Q E s := by
  have F1 := PySem.F.called_set
  obtain ⟨c, tl, hmro⟩ := F1.mro
  have a1 := F1.made; have a2 := F1.sub
  refine wpAny_call (codeAny_of_tree ?_); show wpAny _ _ (callAny (.type "set") _) _ _ _
  refine wpAny_pure ⟨Code.quiet_builtin _ (by decide +kernel), codeAny_builtin PySem.F.entry_type_call ?_⟩; rw [Around.under_plain (weight_type_call_type "set" [.ref l] []) rfl]
  have a3 := F1.notType; have a4 := F1.canCreate; have a5 := PySem.F.typeCall_set_1 (.ref l)
  repeat (any_goals (first | assumption | wp_step))
  refine codeAny_mono (code_set_new_1 (.ref l) (E := E) (Q₁ := fun u t => ∃ led : Bool, u = .ref s.heap.objs.size ∧ t = { s with heap := s.heap.push (Bare led) }) fun led => ⟨led, rfl, rfl⟩) fun r t hr => ?_
  cases r with
  | error e => exact hr
  | ok f =>
    cases f with
    | ret u =>
      obtain ⟨led, rfl, rfl⟩ := hr
      have hS : (s.heap.push (Bare led)).get? s.heap.objs.size = some (Bare led) := Heap.get?_push_size _ rfl
      have hT : Shared.TypeIs { s with heap := s.heap.push (Bare led) } (.ref s.heap.objs.size) "set" := ⟨_, hS, rfl⟩
      have b1 := F1.init.lookup; have b2 := F1.init.bind (.ref s.heap.objs.size)
      repeat (any_goals (first | assumption | wp_step))
      refine codeAny_mono (codeAny_call_builtin (R := wants (fun r t => r = .none ∧ ∃ h' tk, t = { s with heap := h', toks := tk } ∧ St1 P w h' s.heap.objs.size ws ws.length ∧ (∀ b o, b < s.heap.objs.size → s.heap.get? b = some o → h'.get? b = some o)) E) F1.init.plain PySem.F.entry_set_init (check_set_init_1 hT ?_)) fun r2 t2 hr2 => ?_
      · obtain ⟨⟨oc, od, oda, osl⟩, ho, e1, nl, e2⟩ := hl
        simp only at e1 e2; subst e1; subst e2
        have ho' : (s.heap.push (Bare led)).get? l = some { cls := .type "tuple", dict := od, data := .seq its nl, slots := osl } := Heap.get?_push_of_some _ ho
        have c1 := PySem.F.sub_tuple_set; have c2 := PySem.F.sub_tuple_frozenset; have c3 : (Value.type "tuple" == Value.type "dict") = false := by decide
        have hl1 : (s.heap.push (Bare led)).IsTuple l its := ⟨_, ho', rfl, nl, rfl⟩
        unfold Builtin.«set.__init__» noKeywords Builtin.Frozenset.updateFrom; generalize hPI : pyIter = PI
        wp_walk
        subst hPI
        refine wpAny_pyIter_tuple hl1 (wpAny_bind (wpAny_runValue ?_))
        have lS : l < s.heap.objs.size := Heap.lt_size ho
        have hh : A.in1.in1.in1.handled = none := by simp [hc]
        have z1 : (s.heap.push (Bare led)).objs.size = s.heap.objs.size + 1 := Heap.size_push ..
        have d1 : l ≠ (s.heap.push (Bare led)).objs.size := by rw [z1]; exact Nat.ne_of_lt (Nat.lt_succ_of_lt lS)
        have d2 : s.heap.objs.size ∉ [(s.heap.push (Bare led)).objs.size, l] := by
          rw [z1]; intro h; rcases List.mem_cons.mp h with h | h
          · exact absurd h (Nat.ne_of_lt (Nat.lt_succ_self _))
          · exact absurd (List.mem_singleton.mp h) (Nat.ne_of_gt lS)
        have hsz : ws.length = its.size := by rw [← StrsAre.len_eq hi, Array.length_toList]
        refine grow ((Walks.tuple hh _ l d1 its).toS) s.heap.objs.size d2 ws hsz (by unfold scanBound; omega) (fun i v hv => SS.strs_at hi i v (by rw [Array.getElem?_toList]; exact hv)) (its.size - 0) 0 _ (by omega) (Nat.zero_le _) ⟨⟨_, Heap.get?_push_size _ rfl, rfl, rfl⟩, (hl1.push _)⟩ ?h0 ?hR
        case h0 =>
          have hg : ((s.heap.push (Bare led)).push { cls := .type "tuple_iterator", data := .fields #[.ref l, .int 0 0] }).get? s.heap.objs.size = some (Bare led) := Heap.get?_push_of_some _ hS
          exact PyProof.Rows.SetOf_congr ((PyProof.Rows.setObjOf_fresh (knd := PySem.strKind P w) led).setOf hg (by unfold scanBound; omega)) (fun z => by simp [Wds]) rfl
        case hR =>
          rintro ⟨h', g', d', tk', os'⟩ hm x
          obtain rfl : g' = s.gens := hm.gens
          obtain rfl : d' = s.drawn := hm.drawn
          obtain rfl : os' = s.os := hm.os
          show wpAny _ _ _ _ _ _
          refine wpAny_pure (show wpAny _ _ (ret Value.none) _ _ _ from ?_)
          rw [← hsz] at x
          refine wpAny_pure ⟨rfl, h', tk', rfl, x, fun b o hb e => hm.heap b o ?_ (Heap.get?_push_of_some _ (Heap.get?_push_of_some _ e))⟩
          intro h
          rcases List.mem_cons.mp h with h | h
          · exact absurd h (Nat.ne_of_lt hb)
          · have h := List.mem_singleton.mp h; rw [z1] at h; exact absurd h (Nat.ne_of_lt (Nat.lt_succ_of_lt hb))
      · cases r2 with
        | error e => exact hr2
        | ok f2 =>
          cases f2 with
          | ret u2 =>
            obtain ⟨rfl, h', tk, rfl, x, k⟩ := hr2
            repeat (any_goals (first | assumption | wp_step))
            exact fin _ _ x k
          | _ => exact hr2.elim
    | _ => exact hr.elim
end
section
open L2
def tLenW (K : PySem.W.Frag) (ta : TE) : TE := fun σ H Q => ta σ H fun x H1 => ∃ (l : Addr) (ws : List Str), x = .ref l ∧ SqT K H1 l (ws.map V.str) ∧ ws.length ≤ 1000 ∧ Q (.int (metN ws ws.length : Nat)) H1
theorem pe_lenW {X : Cx} {a : Expr} {ta : TE} {p p2 q pos : Pos} (hc : X.calm = true) (g1 : Gl X "len") (m1 : X.mg "len" = none) (g2 : Gl X "set") (m2 : X.mg "set" = none) (ha : PE X a ta) (na : starEach [a] X.env = (false, eval a X.env) :: starEach [] X.env := by rfl) :
    PE X (.Call (.Name "len" p) [.Call (.Name "set" p2) [a] [] q] [] pos) (tLenW X.K ta) := ⟨fun pins s σ H Q I h => by
  refine Call_ (ld_blt I g1 m1 boot_len (PyProof.Rows.callWith_builtin1 (PyProof.Rows.args_cons ?_ rfl) rfl rfl))
  refine Call_ (ld_blt I g2 m2 boot_set (PyProof.Rows.callWith_type1 (PyProof.Rows.args_cons (thn (ha.run pins s σ H _ I h) fun v s1 ⟨x, H1, I1, r1, l, ws, ex, hq, hz, q1⟩ => PyProof.Rows.args_nil ?_) na) na rfl))
  subst ex
  cases r1
  obtain ⟨its, rv, pl, hz'⟩ := I1.tuple hq
  have hl : its.length = ws.length := by rw [← rv.length, List.length_map]
  refine set_words (I1.ok.hd hc) pl (by simpa using strsAre_of rv) hz fun h' tk x k => PyProof.Rows.args_nil ?_
  obtain ⟨o, es, ep, t, ho, hex, hd, _, _, _, hf, hn⟩ := x
  have hm := metN_le ws ws.length
  have I2 : Inv X pins σ H1 { s1 with heap := h', toks := tk } := I1.kept fun b o e => k b o (Heap.lt_size e) e
  exact call_len_set ho hex hd hf (by rw [hn]; omega) ⟨.int (metN ws ws.length : Nat), H1, I2.tok _, ⟨_, by rw [hn]⟩, q1⟩⟩
end
end CrU
set_option maxRecDepth 10000000
/-! A reading and a function of data that it follows: slots hold data; lists of the def's own may grow. -/
namespace Sm
open PySem PySem.Spec PyProof.Rows L2 Evl
abbrev Atm := Addr → List (PyData × PyData) → Prop
/-- a value and its datum; no list of it is owned -/
inductive Fd (K : PySem.W.Frag) (A : Atm) (O : Addr → Prop) (H : Hp) : V → PyData → Prop
  | non : Fd K A O H .non .none
  | bl (b : Bool) : Fd K A O H (.bl b) (.bool b)
  | int (i : Int) : Fd K A O H (.int i) (.int i)
  | str (x : Str) : Fd K A O H (.str x) (.str x)
  | tup {a : Addr} {xs : List V} {ds : List PyData} : SqT K H a xs → xs.length = ds.length → (∀ (i : Nat) v d, xs[i]? = some v → ds[i]? = some d → Fd K A O H v d) → Fd K A O H (.ref a) (.tuple ds)
  | lst {a : Addr} {xs : List V} {ds : List PyData} : H a = some (.lst xs) → ¬ O a → xs.length = ds.length → (∀ (i : Nat) v d, xs[i]? = some v → ds[i]? = some d → Fd K A O H v d) → Fd K A O H (.ref a) (.list ds)
  | fn {f : Addr} {kvs : List (PyData × PyData)} : A f kvs → Fd K A O H (.ref f) (.dict kvs)
def Fds (K : PySem.W.Frag) (A : Atm) (O : Addr → Prop) (H : Hp) (xs : List V) (ds : List PyData) : Prop := xs.length = ds.length ∧ ∀ (i : Nat) v d, xs[i]? = some v → ds[i]? = some d → Fd K A O H v d
/-- what is not owned stays, and is not owned later -/
def Evo (O : Addr → Prop) (H : Hp) (O' : Addr → Prop) (H' : Hp) : Prop := ∀ a o, H a = some o → ¬ O a → H' a = some o ∧ ¬ O' a
def Owl (O : Addr → Prop) (H : Hp) : Prop := ∀ a, O a → ∃ xs, H a = some (.lst xs)
def Osn (O : Addr → Prop) (p : Addr) : Addr → Prop := fun a => a = p ∨ O a
section
variable {K : PySem.W.Frag} {A : Atm} {O O' O1 O2 : Addr → Prop} {H H' H1 H2 : Hp}
theorem Evo.refl : Evo O H O H := fun _ _ h n => ⟨h, n⟩
theorem Evo.trans (e : Evo O H O1 H1) (f : Evo O1 H1 O2 H2) : Evo O H O2 H2 := fun a o h n => f a o (e a o h n).1 (e a o h n).2
theorem Evo.same (e : Same H H') : Evo O H O H' := fun a o h n => ⟨e a o h, n⟩
theorem Owl.same (l : Owl O H) (e : Same H H') : Owl O H' := fun a h => by
  obtain ⟨xs, hx⟩ := l a h
  exact ⟨xs, e _ _ hx⟩
theorem Owl.none (l : Owl O H) {p : Addr} (h : H p = none) : ¬ O p := fun ho => by
  obtain ⟨xs, hx⟩ := l p ho
  rw [h] at hx
  cases hx
theorem sqT_evo (l : Owl O H) (e : Evo O H O' H') {a : Addr} {xs : List V} (h : SqT K H a xs) : SqT K H' a xs := by
  rcases h with (h | ⟨o, h⟩) | h
  · refine .inl (.inl (e a _ h fun ho => ?_).1)
    obtain ⟨ys, hy⟩ := l a ho
    rw [h] at hy
    cases hy
  · refine .inl (.inr ⟨o, (e a _ h fun ho => ?_).1⟩)
    obtain ⟨ys, hy⟩ := l a ho
    rw [h] at hy
    cases hy
  · exact .inr h
theorem Fd.evo (l : Owl O H) (e : Evo O H O' H') {v : V} {d : PyData} (h : Fd K A O H v d) : Fd K A O' H' v d := by
  induction h with
  | non => exact .non
  | bl b => exact .bl b
  | int i => exact .int i
  | str x => exact .str x
  | tup hs hl _ ih => exact .tup (sqT_evo l e hs) hl ih
  | lst hs ho hl _ ih => exact .lst (e _ _ hs ho).1 (e _ _ hs ho).2 hl ih
  | fn h => exact .fn h
theorem Fd.same (e : Same H H') {v : V} {d : PyData} (h : Fd K A O H v d) : Fd K A O H' v d := by
  induction h with
  | non => exact .non
  | bl b => exact .bl b
  | int i => exact .int i
  | str x => exact .str x
  | tup hs hl _ ih => exact .tup (ex_t e hs) hl ih
  | lst hs ho hl _ ih => exact .lst (e _ _ hs) ho hl ih
  | fn h => exact .fn h
/-- less is owned -/
theorem Fd.less (s : ∀ a, O' a → O a) {v : V} {d : PyData} (h : Fd K A O H v d) : Fd K A O' H v d := by
  induction h with
  | non => exact .non
  | bl b => exact .bl b
  | int i => exact .int i
  | str x => exact .str x
  | tup hs hl _ ih => exact .tup hs hl ih
  | lst hs ho hl _ ih => exact .lst hs (fun h => ho (s _ h)) hl ih
  | fn h => exact .fn h
/-- a new address is owned -/
theorem Fd.more {p : Addr} (hp : H p = none) {v : V} {d : PyData} (h : Fd K A O H v d) : Fd K A (Osn O p) H v d := by
  induction h with
  | non => exact .non
  | bl b => exact .bl b
  | int i => exact .int i
  | str x => exact .str x
  | tup hs hl _ ih => exact .tup hs hl ih
  | @lst a xs ds hs ho hl _ ih =>
    refine .lst hs (fun h => ?_) hl ih
    rcases h with h | h
    · rw [h, hp] at hs
      cases hs
    · exact ho h
  | fn h => exact .fn h
theorem Fds.evo (l : Owl O H) (e : Evo O H O' H') {vs : List V} {ds : List PyData} (h : Fds K A O H vs ds) : Fds K A O' H' vs ds := ⟨h.1, fun i v d a b => (h.2 i v d a b).evo l e⟩
theorem Fds.same (e : Same H H') {vs : List V} {ds : List PyData} (h : Fds K A O H vs ds) : Fds K A O H' vs ds := ⟨h.1, fun i v d a b => (h.2 i v d a b).same e⟩
theorem Fds.less (s : ∀ a, O' a → O a) {vs : List V} {ds : List PyData} (h : Fds K A O H vs ds) : Fds K A O' H vs ds := ⟨h.1, fun i v d a b => (h.2 i v d a b).less s⟩
theorem Fds.more {p : Addr} (hp : H p = none) {vs : List V} {ds : List PyData} (h : Fds K A O H vs ds) : Fds K A (Osn O p) H vs ds := ⟨h.1, fun i v d a b => (h.2 i v d a b).more hp⟩
theorem Fds.nil : Fds K A O H [] [] := ⟨rfl, fun i v d h _ => by simp at h⟩
theorem Fds.cons {vs : List V} {ds : List PyData} {v : V} {d : PyData} (hv : Fd K A O H v d) (h : Fds K A O H vs ds) : Fds K A O H (v :: vs) (d :: ds) := by
  refine ⟨by rw [List.length_cons, List.length_cons, h.1], fun i x e h1 h2 => ?_⟩
  match i with
  | 0 =>
    cases h1
    cases h2
    exact hv
  | i + 1 => exact h.2 i x e (by simpa using h1) (by simpa using h2)
theorem Fds.app {vs ws : List V} {ds es : List PyData} (h : Fds K A O H vs ds) (g : Fds K A O H ws es) : Fds K A O H (vs ++ ws) (ds ++ es) := by
  refine ⟨by rw [List.length_append, List.length_append, h.1, g.1], fun i x e h1 h2 => ?_⟩
  have hl := h.1
  by_cases hi : i < vs.length
  · rw [List.getElem?_append_left hi] at h1
    rw [List.getElem?_append_left (by omega)] at h2
    exact h.2 i x e h1 h2
  · rw [List.getElem?_append_right (by omega)] at h1
    rw [List.getElem?_append_right (by omega), ← hl] at h2
    exact g.2 _ x e h1 h2
theorem Fds.snoc {vs : List V} {ds : List PyData} {v : V} {d : PyData} (h : Fds K A O H vs ds) (hv : Fd K A O H v d) : Fds K A O H (vs ++ [v]) (ds ++ [d]) := h.app (.cons hv .nil)
theorem Fds.head {vs : List V} {d : PyData} {ds : List PyData} (h : Fds K A O H vs (d :: ds)) : ∃ v ws, vs = v :: ws ∧ Fd K A O H v d ∧ Fds K A O H ws ds := by
  match vs, h with
  | [], h => exact absurd h.1 (by simp)
  | v :: ws, h => exact ⟨v, ws, rfl, h.2 0 v d rfl rfl, by simpa using h.1, fun i x e h1 h2 => h.2 (i + 1) x e (by simpa using h1) (by simpa using h2)⟩
theorem Fds.nil_inv {vs : List V} (h : Fds K A O H vs []) : vs = [] := List.length_eq_zero_iff.mp h.1
theorem Fds.get {vs : List V} {ds : List PyData} (h : Fds K A O H vs ds) {i : Nat} {d : PyData} (hd : ds[i]? = some d) : ∃ v, vs[i]? = some v ∧ Fd K A O H v d := by
  have hi := (List.getElem?_eq_some_iff.mp hd).1
  have hi' : i < vs.length := by rw [h.1]; exact hi
  exact ⟨vs[i], List.getElem?_eq_getElem hi', h.2 i _ d (List.getElem?_eq_getElem hi') hd⟩
theorem Fds.get' {vs : List V} {ds : List PyData} (h : Fds K A O H vs ds) {i : Nat} {v : V} (hv : vs[i]? = some v) : ∃ d, ds[i]? = some d ∧ Fd K A O H v d := by
  have hi := (List.getElem?_eq_some_iff.mp hv).1
  have hi' : i < ds.length := by rw [← h.1]; exact hi
  exact ⟨ds[i], List.getElem?_eq_getElem hi', h.2 i v _ hv (List.getElem?_eq_getElem hi')⟩
theorem Fds.drop {vs : List V} {ds : List PyData} (n : Nat) (h : Fds K A O H vs ds) : Fds K A O H (vs.drop n) (ds.drop n) := ⟨by rw [List.length_drop, List.length_drop, h.1], fun i v d h1 h2 => h.2 (n + i) v d (by rw [← List.getElem?_drop]; exact h1) (by rw [← List.getElem?_drop]; exact h2)⟩
theorem Fds.take {vs : List V} {ds : List PyData} (n : Nat) (h : Fds K A O H vs ds) : Fds K A O H (vs.take n) (ds.take n) := ⟨by rw [List.length_take, List.length_take, h.1], fun i v d h1 h2 => by
  rw [List.getElem?_take] at h1 h2
  split at h1
  · rename_i hi
    rw [if_pos hi] at h2
    exact h.2 i v d h1 h2
  · cases h1⟩
theorem Fds.reverse {xs : List V} {ds : List PyData} (h : Fds K A O H xs ds) : Fds K A O H xs.reverse ds.reverse := by
  refine ⟨by rw [List.length_reverse, List.length_reverse, h.1], fun i v d h1 h2 => ?_⟩
  have hl := h.1
  by_cases hi : i < xs.length
  · rw [List.getElem?_reverse hi] at h1
    rw [List.getElem?_reverse (by omega), ← hl] at h2
    exact h.2 _ v d h1 h2
  · rw [List.getElem?_eq_none (by rw [List.length_reverse]; omega)] at h1
    cases h1
theorem Fds.tup {vs : List V} {ds : List PyData} {a : Addr} (h : Fds K A O H vs ds) (ha : SqT K H a vs) : Fd K A O H (.ref a) (.tuple ds) := .tup ha h.1 h.2
theorem Fds.lst {vs : List V} {ds : List PyData} {a : Addr} (h : Fds K A O H vs ds) (ha : H a = some (.lst vs)) (ho : ¬ O a) : Fd K A O H (.ref a) (.list ds) := .lst ha ho h.1 h.2
theorem Fd.tup_inv {v : V} {ds : List PyData} (h : Fd K A O H v (.tuple ds)) : ∃ a xs, v = .ref a ∧ SqT K H a xs ∧ Fds K A O H xs ds := by
  cases h with
  | tup hs hl q => exact ⟨_, _, rfl, hs, hl, q⟩
theorem Fd.lst_inv {v : V} {ds : List PyData} (h : Fd K A O H v (.list ds)) : ∃ a xs, v = .ref a ∧ H a = some (.lst xs) ∧ ¬ O a ∧ Fds K A O H xs ds := by
  cases h with
  | lst hs ho hl q => exact ⟨_, _, rfl, hs, ho, hl, q⟩
theorem Fd.int_inv {v : V} {i : Int} (h : Fd K A O H v (.int i)) : v = .int i := by cases h; rfl
theorem Fd.str_inv {v : V} {x : Str} (h : Fd K A O H v (.str x)) : v = .str x := by cases h; rfl
theorem Fd.bl_inv {v : V} {x : Bool} (h : Fd K A O H v (.bool x)) : v = .bl x := by cases h; rfl
theorem Fd.non_inv {v : V} (h : Fd K A O H v .none) : v = .non := by cases h; rfl
theorem dp_all : ∀ {vs : List V} {ds : List PyData}, vs.length = ds.length → (∀ (i : Nat) v d, vs[i]? = some v → ds[i]? = some d → Dp K H v d) → DpAll K H vs ds
  | [], [], _, _ => .nil
  | [], _ :: _, h, _ => by simp at h
  | _ :: _, [], h, _ => by simp at h
  | x :: xs, d :: ds, h, q => .cons (q 0 x d rfl rfl) (dp_all (by simpa using h) fun i v e h1 h2 => q (i + 1) v e (by simpa using h1) (by simpa using h2))
theorem lay_of_all : ∀ {ds : List PyData}, PyData.canLayAll0 ds = true → ∀ d ∈ ds, d.canLay0 = true
  | [], _, _, h => by cases h
  | d :: ds, h, e, he => by
    unfold PyData.canLayAll0 at h
    obtain ⟨h1, h2⟩ := Bool.and_eq_true_iff.mp h
    rcases List.mem_cons.mp he with rfl | he
    · exact h1
    · exact lay_of_all h2 e he
theorem Fd.dp {v : V} {d : PyData} (h : Fd K A O H v d) (hc : d.canLay0 = true) : Dp K H v d := by
  induction h with
  | non => exact .non
  | bl b => exact .bl b
  | int i => exact .int i
  | str x => exact .str x
  | tup hs hl _ ih => exact .tup hs (dp_all hl fun i v d h1 h2 => ih i v d h1 h2 (lay_of_all (by simpa [PyData.canLay0] using hc) d (List.mem_of_getElem? h2)))
  | lst hs _ hl _ ih => exact .lst (sq_of hs) (dp_all hl fun i v d h1 h2 => ih i v d h1 h2 (lay_of_all (by simpa [PyData.canLay0] using hc) d (List.mem_of_getElem? h2)))
  | fn h => simp [PyData.canLay0] at hc
theorem Fd.dps {v : V} {d : PyData} (h : Fd K A O H v d) (hc : SeqAt.shaped d = true) : Dp K H v d := h.dp (SeqAt.canLay_of_shaped hc)
/-- data without lists, bools and None -/
theorem Fd.of_vd {v : V} {d : PyData} (h : Cr.Vd K H v d) : Fd K A O H v d := by
  induction h with
  | int i => exact .int i
  | str x => exact .str x
  | tup hs hl _ ih => exact .tup hs hl ih
theorem Fds.of_vds {vs : List V} {ds : List PyData} (h : Cr.Vds K H vs ds) : Fds K A O H vs ds := ⟨h.1, fun i v d a b => .of_vd (h.2 i v d a b)⟩
mutual
def flatD : PyData → Bool
  | .int _ => true
  | .str _ => true
  | .tuple ds => flatDs ds
  | _ => false
def flatDs : List PyData → Bool
  | [] => true
  | d :: ds => flatD d && flatDs ds
end
theorem flatDs_mem : ∀ {ds : List PyData}, flatDs ds = true → ∀ d ∈ ds, flatD d = true
  | [], _, _, h => by cases h
  | d :: ds, h, e, he => by
    unfold flatDs at h
    obtain ⟨h1, h2⟩ := Bool.and_eq_true_iff.mp h
    rcases List.mem_cons.mp he with rfl | he
    · exact h1
    · exact flatDs_mem h2 e he
theorem flatDs_of : ∀ {ds : List PyData}, (∀ d ∈ ds, flatD d = true) → flatDs ds = true
  | [], _ => by unfold flatDs; rfl
  | d :: ds, h => by
    unfold flatDs
    rw [h d List.mem_cons_self, flatDs_of fun e he => h e (List.mem_cons_of_mem _ he)]
    rfl
theorem Fd.vd {v : V} {d : PyData} (h : Fd K A O H v d) (hc : flatD d = true) : Cr.Vd K H v d := by
  induction h with
  | non => simp [flatD] at hc
  | bl b => simp [flatD] at hc
  | int i => exact .int i
  | str x => exact .str x
  | tup hs hl _ ih => exact .tup hs hl fun i v d h1 h2 => ih i v d h1 h2 (flatDs_mem (by simpa [flatD] using hc) d (List.mem_of_getElem? h2))
  | lst => simp [flatD] at hc
  | fn h => simp [flatD] at hc
end
/-! ### slots -/
inductive Sl where
  | un | val (d : PyData) | own (ds : List PyData)
structure Rl (K : PySem.W.Frag) (A : Atm) (H0 : Hp) (O0 O : Addr → Prop) (σ : L2.St) (H : Hp) (ρ : List Sl) : Prop where
  len : σ.length = ρ.length
  val : ∀ (i : Nat) (d : PyData), ρ[i]? = some (Sl.val d) → ∃ v, σ[i]? = some (some v) ∧ Fd K A O H v d
  own : ∀ (i : Nat) (ds : List PyData), ρ[i]? = some (Sl.own ds) → ∃ p xs, σ[i]? = some (some (V.ref p)) ∧ O p ∧ H0 p = none ∧ H p = some (.lst xs) ∧ Fds K A O H xs ds
  inj : ∀ (i j : Nat) (ds es : List PyData) (p : Addr), ρ[i]? = some (Sl.own ds) → ρ[j]? = some (Sl.own es) → σ[i]? = some (some (V.ref p)) → σ[j]? = some (some (V.ref p)) → i = j
  owl : Owl O H
  frm : Same H0 H
  sub : ∀ a, O0 a → O a
  old : Owl O0 H0
section
variable {K : PySem.W.Frag} {A : Atm} {H0 : Hp} {O0 O O' : Addr → Prop} {σ σ' : L2.St} {H H' : Hp} {ρ ρ' : List Sl}
theorem Rl.same (r : Rl K A H0 O0 O σ H ρ) (e : Same H H') : Rl K A H0 O0 O σ H' ρ where
  len := r.len
  val := fun i d h => by
    obtain ⟨v, h1, h2⟩ := r.val i d h
    exact ⟨v, h1, h2.same e⟩
  own := fun i ds h => by
    obtain ⟨p, xs, h1, h2, h3, h4, h5⟩ := r.own i ds h
    exact ⟨p, xs, h1, h2, h3, e _ _ h4, h5.same e⟩
  inj := r.inj
  owl := r.owl.same e
  frm := r.frm.trans e
  sub := r.sub
  old := r.old
theorem Rl.old0 (r : Rl K A H0 O0 O σ H ρ) {p : Addr} (h : H0 p = none) : ¬ O0 p := r.old.none h
/-- a slot gets a value -/
theorem Rl.set (r : Rl K A H0 O0 O σ H ρ) (i : Nat) {v : V} {d : PyData} (h : Fd K A O H v d) : Rl K A H0 O0 O (σ.set i (some v)) H (ρ.set i (.val d)) where
  len := by rw [List.length_set, List.length_set, r.len]
  val := fun j e hj => by
    rw [List.getElem?_set] at hj ⊢
    by_cases hi : i = j
    · subst hi
      rw [if_pos rfl] at hj ⊢
      split at hj
      · rename_i hl
        cases hj
        rw [if_pos (by rw [r.len]; exact hl)]
        exact ⟨v, rfl, h⟩
      · cases hj
    · rw [if_neg hi] at hj ⊢
      exact r.val j e hj
  own := fun j es hj => by
    rw [List.getElem?_set] at hj ⊢
    by_cases hi : i = j
    · subst hi
      rw [if_pos rfl] at hj
      split at hj <;> cases hj
    · rw [if_neg hi] at hj ⊢
      exact r.own j es hj
  inj := fun j k ds es p hj hk sj sk => by
    have hij : i ≠ j := fun e => by
      subst e
      rw [List.getElem?_set, if_pos rfl] at hj
      split at hj <;> cases hj
    have hik : i ≠ k := fun e => by
      subst e
      rw [List.getElem?_set, if_pos rfl] at hk
      split at hk <;> cases hk
    rw [List.getElem?_set_ne hij] at hj sj
    rw [List.getElem?_set_ne hik] at hk sk
    exact r.inj j k ds es p hj hk sj sk
  owl := r.owl
  frm := r.frm
  sub := r.sub
  old := r.old
/-- a slot gets a list of its own -/
theorem Rl.setOwn (r : Rl K A H0 O0 O σ H ρ) (i : Nat) {p : Addr} {xs : List V} {ds : List PyData} (hp : H p = none) (e : Same H H') (hx : H' p = some (.lst xs)) (h : Fds K A (Osn O p) H' xs ds) :
    Rl K A H0 O0 (Osn O p) (σ.set i (some (.ref p))) H' (ρ.set i (.own ds)) where
  len := by rw [List.length_set, List.length_set, r.len]
  val := fun j e' hj => by
    rw [List.getElem?_set] at hj ⊢
    by_cases hi : i = j
    · subst hi
      rw [if_pos rfl] at hj
      split at hj <;> cases hj
    · rw [if_neg hi] at hj ⊢
      obtain ⟨v, h1, h2⟩ := r.val j e' hj
      exact ⟨v, h1, (h2.more hp).same e⟩
  own := fun j es hj => by
    rw [List.getElem?_set] at hj ⊢
    by_cases hi : i = j
    · subst hi
      rw [if_pos rfl] at hj ⊢
      split at hj
      · rename_i hl
        cases hj
        rw [if_pos (by rw [r.len]; exact hl)]
        exact ⟨p, xs, rfl, .inl rfl, r.frm.free hp, hx, h⟩
      · cases hj
    · rw [if_neg hi] at hj ⊢
      obtain ⟨q, ys, h1, h2, h3, h4, h5⟩ := r.own j es hj
      exact ⟨q, ys, h1, .inr h2, h3, e _ _ h4, (h5.more hp).same e⟩
  inj := fun j k es fs q hj hk sj sk => by
    have key : ∀ (j : Nat) (es : List PyData), (ρ.set i (Sl.own ds))[j]? = some (Sl.own es) → (σ.set i (some (V.ref p)))[j]? = some (some (V.ref q)) → (j = i ∧ q = p) ∨ (j ≠ i ∧ ρ[j]? = some (Sl.own es) ∧ σ[j]? = some (some (V.ref q)) ∧ q ≠ p) := fun j es hj sj => by
      by_cases hi : i = j
      · subst hi
        rw [List.getElem?_set, if_pos rfl] at sj
        split at sj
        · cases sj
          exact .inl ⟨rfl, rfl⟩
        · cases sj
      · rw [List.getElem?_set_ne hi] at hj sj
        refine .inr ⟨fun h => hi h.symm, hj, sj, fun h => ?_⟩
        obtain ⟨q', ys, h1, h2, h3, h4, h5⟩ := r.own j es hj
        rw [sj] at h1
        cases h1
        rw [h, hp] at h4
        cases h4
    rcases key j es hj sj with ⟨a1, a2⟩ | ⟨a1, a2, a3, a4⟩ <;> rcases key k fs hk sk with ⟨b1, b2⟩ | ⟨b1, b2, b3, b4⟩
    · rw [a1, b1]
    · exact absurd a2 b4
    · exact absurd b2 a4
    · exact r.inj j k es fs q a2 b2 a3 b3
  owl := fun a h => by
    rcases h with rfl | h
    · exact ⟨xs, hx⟩
    · exact r.owl.same e a h
  frm := r.frm.trans e
  sub := fun a h => .inr (r.sub a h)
  old := r.old
/-- an own list changes -/
theorem Rl.grow (r : Rl K A H0 O0 O σ H ρ) {i : Nat} {p : Addr} {ds es : List PyData} {xs ys : List V} (hi : ρ[i]? = some (.own ds)) (hs : σ[i]? = some (some (V.ref p))) (hx : H p = some (.lst xs)) (h : Fds K A O H ys es) :
    Rl K A H0 O0 O σ (upd H p (.lst ys)) (ρ.set i (.own es)) ∧ Evo O H O (upd H p (.lst ys)) := by
  obtain ⟨p', xs', s1, s2, s3, s4, s5⟩ := r.own i ds hi
  rw [hs] at s1
  cases s1
  have ev : Evo O H O (upd H p (.lst ys)) := fun a o ha hn => ⟨by
    rw [upd_ne (fun e => by subst e; exact hn s2)]
    exact ha, hn⟩
  refine ⟨⟨by rw [List.length_set, r.len], fun j d hj => ?_, fun j fs hj => ?_, fun j k fs gs q hj hk sj sk => ?_, fun a ha => ?_, fun a o ha => ?_, r.sub, r.old⟩, ev⟩
  · rw [List.getElem?_set] at hj
    by_cases hij : i = j
    · subst hij
      rw [if_pos rfl] at hj
      split at hj <;> cases hj
    · rw [if_neg hij] at hj
      obtain ⟨v, h1, h2⟩ := r.val j d hj
      exact ⟨v, h1, h2.evo r.owl ev⟩
  · rw [List.getElem?_set] at hj
    by_cases hij : i = j
    · subst hij
      rw [if_pos rfl] at hj
      split at hj
      · cases hj
        exact ⟨p, ys, hs, s2, s3, upd_same, h.evo r.owl ev⟩
      · cases hj
    · rw [if_neg hij] at hj
      obtain ⟨q, zs, h1, h2, h3, h4, h5⟩ := r.own j fs hj
      have hqp : q ≠ p := fun e => by
        subst e
        exact hij (r.inj i j ds fs q hi hj hs h1)
      exact ⟨q, zs, h1, h2, h3, by rw [upd_ne hqp]; exact h4, h5.evo r.owl ev⟩
  · have key : ∀ (j : Nat) (fs : List PyData), (ρ.set i (Sl.own es))[j]? = some (Sl.own fs) → ∃ gs, ρ[j]? = some (Sl.own gs) := fun j fs hj => by
      by_cases hij : i = j
      · subst hij
        exact ⟨ds, hi⟩
      · rw [List.getElem?_set_ne hij] at hj
        exact ⟨fs, hj⟩
    obtain ⟨f1, h1⟩ := key j fs hj
    obtain ⟨g1, h2⟩ := key k gs hk
    exact r.inj j k f1 g1 q h1 h2 sj sk
  · by_cases hap : a = p
    · subst hap
      exact ⟨ys, upd_same⟩
    · rw [upd_ne hap]
      exact r.owl a ha
  · have hap : a ≠ p := fun e => by
      subst e
      rw [s3] at ha
      cases ha
    rw [upd_ne hap]
    exact r.frm a o ha
/-- an own list is given away -/
def frz (i : Nat) (ρ : List Sl) : List Sl := match ρ[i]? with
  | some (.own ds) => ρ.set i (.val (.list ds))
  | _ => ρ
theorem Rl.frz (r : Rl K A H0 O0 O σ H ρ) (i : Nat) : ∃ O', Rl K A H0 O0 O' σ H (frz i ρ) ∧ Evo O H O' H ∧ ∀ a, O' a → O a := by
  unfold Sm.frz
  split
  · rename_i ds hi
    obtain ⟨p, xs, s1, s2, s3, s4, s5⟩ := r.own i ds hi
    have hl : i < σ.length := (List.getElem?_eq_some_iff.mp s1).1
    refine ⟨fun a => O a ∧ a ≠ p, ⟨by rw [List.length_set, r.len], fun j d hj => ?_, fun j fs hj => ?_, fun j k fs gs q hj hk sj sk => ?_, fun a ha => r.owl a ha.1, r.frm, fun a ha => ⟨r.sub a ha, fun e => r.old0 s3 (e ▸ ha)⟩, r.old⟩, fun a o ha hn => ⟨ha, fun h => hn h.1⟩, fun a h => h.1⟩
    · rw [List.getElem?_set] at hj
      by_cases hij : i = j
      · subst hij
        rw [if_pos rfl] at hj
        split at hj
        · cases hj
          exact ⟨_, s1, (s5.less fun a h => h.1).lst s4 fun h => h.2 rfl⟩
        · cases hj
      · rw [if_neg hij] at hj
        obtain ⟨v, h1, h2⟩ := r.val j d hj
        exact ⟨v, h1, h2.less fun a h => h.1⟩
    · rw [List.getElem?_set] at hj
      by_cases hij : i = j
      · subst hij
        rw [if_pos rfl] at hj
        split at hj <;> cases hj
      · rw [if_neg hij] at hj
        obtain ⟨q, zs, h1, h2, h3, h4, h5⟩ := r.own j fs hj
        have hqp : q ≠ p := fun e => by
          subst e
          exact hij (r.inj i j ds fs q hi hj s1 h1)
        exact ⟨q, zs, h1, ⟨h2, hqp⟩, h3, h4, h5.less fun a h => h.1⟩
    · have key : ∀ (j : Nat) (fs : List PyData), (ρ.set i (Sl.val (.list ds)))[j]? = some (Sl.own fs) → ρ[j]? = some (Sl.own fs) := fun j fs hj => by
        by_cases hij : i = j
        · subst hij
          rw [List.getElem?_set, if_pos rfl] at hj
          split at hj <;> cases hj
        · rw [List.getElem?_set_ne hij] at hj
          exact hj
      exact r.inj j k fs gs q (key j fs hj) (key k gs hk) sj sk
  · exact ⟨O, r, .refl, fun _ h => h⟩
/-- one more address is owned -/
theorem Rl.osn (r : Rl K A H0 O0 O σ H ρ) {p : Addr} {xs : List V} (hp : H p = none) (e : Same H H') (hx : H' p = some (.lst xs)) : Rl K A H0 O0 (Osn O p) σ H' ρ where
  len := r.len
  val := fun i d h => by
    obtain ⟨v, h1, h2⟩ := r.val i d h
    exact ⟨v, h1, (h2.more hp).same e⟩
  own := fun i ds h => by
    obtain ⟨q, xs, h1, h2, h3, h4, h5⟩ := r.own i ds h
    exact ⟨q, xs, h1, .inr h2, h3, e _ _ h4, (h5.more hp).same e⟩
  inj := r.inj
  owl := fun a h => by
    rcases h with rfl | h
    · exact ⟨xs, hx⟩
    · exact r.owl.same e a h
  frm := r.frm.trans e
  sub := fun a h => .inr (r.sub a h)
  old := r.old
end
end Sm
set_option maxRecDepth 10000000
namespace Sm
open PySem PySem.Spec PyProof.Rows L2 Evl
abbrev FE := List Sl → Option PyData
abbrev FT := List Sl → Option Bool
abbrev FA := List Sl → Option (List PyData)
abbrev FO := List Sl → Option (Option Int)
abbrev F1 := PyData → Option PyData
abbrev F2 := PyData → PyData → Option PyData
abbrev Fn := List PyData → Option PyData
section
variable (K : PySem.W.Frag) (A : Atm)
def SE (t : TE) (f : FE) : Prop := ∀ {H0 : Hp} {O0 O : Addr → Prop} {σ : L2.St} {H : Hp} {ρ : List Sl}, Rl K A H0 O0 O σ H ρ → ∀ d, f ρ = some d → ∀ Q : VK, (∀ v H', Same H H' → Fd K A O H' v d → Q v H') → t σ H Q
def ST (t : TT) (f : FT) : Prop := ∀ {H0 : Hp} {O0 O : Addr → Prop} {σ : L2.St} {H : Hp} {ρ : List Sl}, Rl K A H0 O0 O σ H ρ → ∀ b, f ρ = some b → ∀ Q : Bool → Hp → Prop, (∀ H', Same H H' → Q b H') → t σ H Q
def SA (t : TA) (f : FA) : Prop := ∀ {H0 : Hp} {O0 O : Addr → Prop} {σ : L2.St} {H : Hp} {ρ : List Sl}, Rl K A H0 O0 O σ H ρ → ∀ ds, f ρ = some ds → ∀ Q : List V → Hp → Prop, (∀ vs H', Same H H' → Fds K A O H' vs ds → Q vs H') → t σ H Q
def SL (t : TE) (f : FA) : Prop := ∀ {H0 : Hp} {O0 O : Addr → Prop} {σ : L2.St} {H : Hp} {ρ : List Sl}, Rl K A H0 O0 O σ H ρ → ∀ ds, f ρ = some ds → ∀ Q : VK, (∀ p xs H', H p = none → Same H H' → H' p = some (.lst xs) → Fds K A (Osn O p) H' xs ds → Q (.ref p) H') → t σ H Q
def SO (t : TO) (f : FO) : Prop := ∀ {H0 : Hp} {O0 O : Addr → Prop} {σ : L2.St} {H : Hp} {ρ : List Sl}, Rl K A H0 O0 O σ H ρ → ∀ o, f ρ = some o → ∀ Q : Option Int → Hp → Prop, (∀ H', Same H H' → Q o H') → t σ H Q
def RD (r : R2) (g : F2) : Prop := ∀ {O : Addr → Prop} {H : Hp} {x y : V} {a b : PyData}, Owl O H → Fd K A O H x a → Fd K A O H y b → ∀ c, g a b = some c → ∀ Q : VK, (∀ v H', Same H H' → Fd K A O H' v c → Q v H') → r x y H Q
def RDL (r : R2) (g : PyData → PyData → Option (List PyData)) : Prop := ∀ {O : Addr → Prop} {H : Hp} {x y : V} {a b : PyData}, Owl O H → Fd K A O H x a → Fd K A O H y b → ∀ ds, g a b = some ds → ∀ Q : VK, (∀ p xs H', H p = none → Same H H' → H' p = some (.lst xs) → Fds K A (Osn O p) H' xs ds → Q (.ref p) H') → r x y H Q
def RU1 (r : V → Hp → VK → Prop) (g : F1) : Prop := ∀ {O : Addr → Prop} {H : Hp} {x : V} {a : PyData}, Owl O H → Fd K A O H x a → ∀ c, g a = some c → ∀ Q : VK, (∀ v H', Same H H' → Fd K A O H' v c → Q v H') → r x H Q
def RDs (r : List V → Hp → VK → Prop) (g : Fn) : Prop := ∀ {O : Addr → Prop} {H : Hp} {xs : List V} {ds : List PyData}, Owl O H → Fds K A O H xs ds → ∀ c, g ds = some c → ∀ Q : VK, (∀ v H', Same H H' → Fd K A O H' v c → Q v H') → r xs H Q
def RDsL (r : List V → Hp → VK → Prop) (g : List PyData → Option (List PyData)) : Prop := ∀ {O : Addr → Prop} {H : Hp} {xs : List V} {ds : List PyData}, Owl O H → Fds K A O H xs ds → ∀ es, g ds = some es → ∀ Q : VK, (∀ p ys H', H p = none → Same H H' → H' p = some (.lst ys) → Fds K A (Osn O p) H' ys es → Q (.ref p) H') → r xs H Q
end
def fVar (i : Nat) : FE := fun ρ => match ρ[i]? with
  | some (.val d) => some d
  | _ => none
def fC (d : PyData) : FE := fun _ => some d
def fOp (g : F2) (fa fb : FE) : FE := fun ρ => (fa ρ).bind fun a => (fb ρ).bind fun b => g a b
def fOpL (g : PyData → PyData → Option (List PyData)) (fa fb : FE) : FA := fun ρ => (fa ρ).bind fun a => (fb ρ).bind fun b => g a b
def fUn (g : F1) (fa : FE) : FE := fun ρ => (fa ρ).bind g
def fNil : FA := fun _ => some []
def fCons (fe : FE) (fr : FA) : FA := fun ρ => (fe ρ).bind fun a => (fr ρ).bind fun r => some (a :: r)
def asB : PyData → Option Bool
  | .bool b => some b
  | _ => none
def fB (fe : FE) : FT := fun ρ => (fe ρ).bind asB
def fAnd (a b : FT) : FT := fun ρ => (a ρ).bind fun x => if x then b ρ else some false
def fOr (a b : FT) : FT := fun ρ => (a ρ).bind fun x => if x then some true else b ρ
def fNot (a : FT) : FT := fun ρ => (a ρ).bind fun x => some (!x)
def fAndV (a b : FE) : FE := fun ρ => (a ρ).bind fun x => (asB x).bind fun x => if x then b ρ else some (.bool false)
def fOrV (a b : FE) : FE := fun ρ => (a ρ).bind fun x => (asB x).bind fun x => if x then some (.bool true) else b ρ
def fNotV (a : FE) : FE := fun ρ => (a ρ).bind fun x => (asB x).bind fun x => some (.bool (!x))
def fIf (t : FT) (a b : FE) : FE := fun ρ => (t ρ).bind fun x => if x then a ρ else b ρ
def fChain (g g' : F2) (a b c : FE) : FE := fun ρ => (a ρ).bind fun x => (b ρ).bind fun y => (g x y).bind fun z => (asB z).bind fun z => if z then (c ρ).bind fun w => g' y w else some (.bool false)
def lim {α : Type} (n : Nat) (x : α) : Option α := if n ≤ 10000000 then some x else none
def fTup (fs : FA) : FE := fun ρ => (fs ρ).bind fun ds => lim ds.length (.tuple ds)
def fLst (fs : FA) : FA := fun ρ => (fs ρ).bind fun ds => lim ds.length ds
def fNoPart : FO := fun _ => some none
def fPart (fe : FE) : FO := fun ρ => (fe ρ).bind fun d => match d with
  | .int i => some (some i)
  | _ => none
def fSl (g : PyData → Option Int → Option Int → Option PyData) (fe : FE) (fl fh : FO) : FE := fun ρ => (fe ρ).bind fun d => (fl ρ).bind fun l => (fh ρ).bind fun h => g d l h
def fCall (fn : Fn) (fa : FA) : FE := fun ρ => (fa ρ).bind fn
def fCallL (fn : List PyData → Option (List PyData)) (fa : FA) : FA := fun ρ => (fa ρ).bind fn
theorem lim_some {α : Type} {n : Nat} {x y : α} (h : lim n x = some y) : n ≤ 10000000 ∧ x = y := by
  unfold lim at h
  split at h
  · rename_i hn
    exact ⟨hn, Option.some.inj h⟩
  · cases h
section
variable {K : PySem.W.Frag} {A : Atm} {ta tb tc te : TE} {fa fb fc fe : FE} {tt tu : TT} {ft fu : FT} {tas : TA} {fas : FA} {r r' : R2} {g g' : F2}
theorem bind_some' {α β : Type} {o : Option α} {f : α → Option β} {y : β} (h : o.bind f = some y) : ∃ x, o = some x ∧ f x = some y := Option.bind_eq_some_iff.mp h
theorem se_var (i : Nat) : SE K A (tVar i) (fVar i) := fun r d h Q q => by
  unfold fVar at h
  split at h
  · rename_i e hi
    cases h
    obtain ⟨v, h1, h2⟩ := r.val i d hi
    exact ⟨v, h1, q v _ (.refl _) h2⟩
  · cases h
theorem se_c {v : V} {d : PyData} (h : ∀ O H, Fd K A O H v d) : SE K A (tC v) (fC d) := fun r e he Q q => by
  cases he
  exact q v _ (.refl _) (h _ _)
theorem se_int {i : Int} : SE K A (tC (.int i)) (fC (.int i)) := se_c fun _ _ => .int i
theorem se_str {x : Str} : SE K A (tC (.str x)) (fC (.str x)) := se_c fun _ _ => .str x
theorem se_bl {b : Bool} : SE K A (tC (.bl b)) (fC (.bool b)) := se_c fun _ _ => .bl b
theorem se_non : SE K A (tC .non) (fC .none) := se_c fun _ _ => .non
theorem se_op (ha : SE K A ta fa) (hb : SE K A tb fb) (hr : RD K A r g) : SE K A (tOp r ta tb) (fOp g fa fb) := fun R d h Q q => by
  obtain ⟨a, h1, h⟩ := bind_some' h
  obtain ⟨b, h2, h⟩ := bind_some' h
  refine ha R a h1 _ fun x H1 e1 hx => hb (R.same e1) b h2 _ fun y H2 e2 hy => ?_
  exact hr (R.owl.same (e1.trans e2)) (hx.same e2) hy d h Q fun v H3 e3 hv => q v H3 ((e1.trans e2).trans e3) hv
theorem sl_op {r : R2} {g : PyData → PyData → Option (List PyData)} (ha : SE K A ta fa) (hb : SE K A tb fb) (hr : RDL K A r g) : SL K A (tOp r ta tb) (fOpL g fa fb) := fun R d h Q q => by
  obtain ⟨a, h1, h⟩ := bind_some' h
  obtain ⟨b, h2, h⟩ := bind_some' h
  refine ha R a h1 _ fun x H1 e1 hx => hb (R.same e1) b h2 _ fun y H2 e2 hy => ?_
  exact hr (R.owl.same (e1.trans e2)) (hx.same e2) hy d h Q fun p xs H3 hp e3 hq hv => q p xs H3 ((e1.trans e2).free hp) ((e1.trans e2).trans e3) hq hv
theorem se_un {r : V → Hp → VK → Prop} {g : F1} (ha : SE K A ta fa) (hr : RU1 K A r g) : SE K A (tUn r ta) (fUn g fa) := fun R d h Q q => by
  obtain ⟨a, h1, h⟩ := bind_some' h
  exact ha R a h1 _ fun x H1 e1 hx => hr (R.owl.same e1) hx d h Q fun v H2 e2 hv => q v H2 (e1.trans e2) hv
theorem sa_nil : SA K A tNil fNil := fun R ds h Q q => by
  cases h
  exact q [] _ (.refl _) .nil
theorem sa_cons (ha : SE K A ta fa) (hr : SA K A tas fas) : SA K A (tCons ta tas) (fCons fa fas) := fun R d h Q q => by
  obtain ⟨a, h1, h⟩ := bind_some' h
  obtain ⟨ds, h2, h⟩ := bind_some' h
  cases h
  exact ha R a h1 _ fun x H1 e1 hx => hr (R.same e1) ds h2 _ fun vs H2 e2 hvs => q _ H2 (e1.trans e2) (.cons (hx.same e2) hvs)
theorem st_B (h : SE K A te fe) : ST K A (tB te) (fB fe) := fun R b hb Q q => by
  obtain ⟨d, h1, h2⟩ := bind_some' hb
  cases d <;> try cases h2
  exact h R _ h1 _ fun v H1 e1 hv => ⟨b, hv.bl_inv, q H1 e1⟩
theorem st_test (h : SE K A te fe) : ST K A (tTest te) (fB fe) := fun R b hb Q q => by
  obtain ⟨d, h1, h2⟩ := bind_some' hb
  cases d <;> try cases h2
  exact h R _ h1 _ fun v H1 e1 hv => ⟨b, hv.bl_inv, q H1 e1⟩
theorem st_and (h : ST K A tt ft) (h' : ST K A tu fu) : ST K A (tAnd tt tu) (fAnd ft fu) := fun R b hb Q q => by
  obtain ⟨x, h1, h2⟩ := bind_some' hb
  refine h R x h1 _ fun H1 e1 => ?_
  cases x with
  | true => exact iteT (h' (R.same e1) b h2 Q fun H2 e2 => q H2 (e1.trans e2))
  | false =>
    cases h2
    exact iteF (q H1 e1)
theorem st_or (h : ST K A tt ft) (h' : ST K A tu fu) : ST K A (tOr tt tu) (fOr ft fu) := fun R b hb Q q => by
  obtain ⟨x, h1, h2⟩ := bind_some' hb
  refine h R x h1 _ fun H1 e1 => ?_
  cases x with
  | false => exact iteF (h' (R.same e1) b h2 Q fun H2 e2 => q H2 (e1.trans e2))
  | true =>
    cases h2
    exact iteT (q H1 e1)
theorem st_not (h : ST K A tt ft) : ST K A (tNot tt) (fNot ft) := fun R b hb Q q => by
  obtain ⟨x, h1, h2⟩ := bind_some' hb
  cases h2
  exact h R x h1 _ fun H1 e1 => q H1 e1
theorem st_yes : ST K A tYes (fun _ => some true) := fun R b hb Q q => by
  cases hb
  exact q _ (.refl _)
theorem asB_some {d : PyData} {b : Bool} (h : asB d = some b) : d = .bool b := by
  cases d <;> first | (cases h; rfl) | cases h
theorem se_and (ha : SE K A ta fa) (hb : SE K A tb fb) : SE K A (tAndV ta tb) (fAndV fa fb) := fun R d h Q q => by
  obtain ⟨x, h1, h⟩ := bind_some' h
  obtain ⟨c, h2, h⟩ := bind_some' h
  cases asB_some h2
  refine ha R _ h1 _ fun v H1 e1 hv => ⟨c, hv.bl_inv, ?_⟩
  cases c with
  | true => exact iteT (hb (R.same e1) d h Q fun v H2 e2 hv => q v H2 (e1.trans e2) hv)
  | false =>
    cases h
    exact iteF (q _ H1 e1 (.bl _))
theorem se_or (ha : SE K A ta fa) (hb : SE K A tb fb) : SE K A (tOrV ta tb) (fOrV fa fb) := fun R d h Q q => by
  obtain ⟨x, h1, h⟩ := bind_some' h
  obtain ⟨c, h2, h⟩ := bind_some' h
  cases asB_some h2
  refine ha R _ h1 _ fun v H1 e1 hv => ⟨c, hv.bl_inv, ?_⟩
  cases c with
  | false => exact iteF (hb (R.same e1) d h Q fun v H2 e2 hv => q v H2 (e1.trans e2) hv)
  | true =>
    cases h
    exact iteT (q _ H1 e1 (.bl _))
theorem se_one (h : SE K A te fe) : SE K A te fe := h
theorem se_not (ha : SE K A ta fa) : SE K A (tNotV ta) (fNotV fa) := fun R d h Q q => by
  obtain ⟨x, h1, h⟩ := bind_some' h
  obtain ⟨c, h2, h⟩ := bind_some' h
  cases asB_some h2
  cases h
  exact ha R _ h1 _ fun v H1 e1 hv => ⟨c, hv.bl_inv, q _ H1 e1 (.bl _)⟩
theorem se_if (ht : ST K A tt ft) (ha : SE K A ta fa) (hb : SE K A tb fb) : SE K A (tIf tt ta tb) (fIf ft fa fb) := fun R d h Q q => by
  obtain ⟨x, h1, h⟩ := bind_some' h
  refine ht R x h1 _ fun H1 e1 => ?_
  cases x with
  | true => exact iteT (ha (R.same e1) d h Q fun v H2 e2 hv => q v H2 (e1.trans e2) hv)
  | false => exact iteF (hb (R.same e1) d h Q fun v H2 e2 hv => q v H2 (e1.trans e2) hv)
theorem se_chain (ha : SE K A ta fa) (hb : SE K A tb fb) (hc : SE K A tc fc) (hr : RD K A r g) (hr' : RD K A r' g') : SE K A (tChain r r' ta tb tc) (fChain g g' fa fb fc) := fun R d h Q q => by
  obtain ⟨x, h1, h⟩ := bind_some' h
  obtain ⟨y, h2, h⟩ := bind_some' h
  obtain ⟨z, h3, h⟩ := bind_some' h
  obtain ⟨c, h4, h⟩ := bind_some' h
  cases asB_some h4
  refine ha R x h1 _ fun vx H1 e1 hx => hb (R.same e1) y h2 _ fun vy H2 e2 hy => hr (R.owl.same (e1.trans e2)) (hx.same e2) hy _ h3 _ fun vz H3 e3 hz => ⟨c, hz.bl_inv, ?_⟩
  have e13 := (e1.trans e2).trans e3
  cases c with
  | true =>
    refine iteT ?_
    have h : ((fc _).bind fun w => g' y w) = some d := h
    obtain ⟨w, h5, h⟩ := bind_some' h
    exact hc (R.same e13) w h5 _ fun vw H4 e4 hw => hr' (R.owl.same (e13.trans e4)) (hy.same (e3.trans e4)) hw d h Q fun v H5 e5 hv => q v H5 ((e13.trans e4).trans e5) hv
  | false =>
    cases h
    exact iteF (q _ H3 e13 (.bl _))
theorem sz100 {n : Nat} (h : n ≤ 10000000) : n ≤ sizeLine := Nat.le_trans h (by decide)
theorem se_tup (h : SA K A tas fas) : SE K A (tTup tas) (fTup fas) := fun R d hd Q q => by
  obtain ⟨ds, h1, h2⟩ := bind_some' hd
  obtain ⟨h3, rfl⟩ := lim_some h2
  exact h R ds h1 _ fun vs H1 e1 hvs => ⟨sz100 (by rw [hvs.1]; exact h3), fun p hp => q _ _ (e1.trans (Cr.same_new hp)) ((hvs.same (Cr.same_new hp)).tup (.of upd_same))⟩
theorem sl_lst (h : SA K A tas fas) : SL K A (tLst tas) (fLst fas) := fun R d hd Q q => by
  obtain ⟨ds, h1, h2⟩ := bind_some' hd
  obtain ⟨h3, rfl⟩ := lim_some h2
  exact h R ds h1 _ fun vs H1 e1 hvs => ⟨sz100 (by rw [hvs.1]; exact h3), fun p hp => q p vs _ (e1.free hp) (e1.trans (Cr.same_new hp)) upd_same ((hvs.more hp).same (Cr.same_new hp))⟩
/-- a new list as a value -/
def fV (f : FA) : FE := fun ρ => (f ρ).bind fun ds => some (.list ds)
theorem se_l (h : SL K A te fas) : SE K A te (fV fas) := fun R d hd Q q => by
  obtain ⟨ds, h1, h2⟩ := bind_some' hd
  cases h2
  exact h R ds h1 _ fun p xs H1 hp e1 hx hxs => q _ H1 e1 ((hxs.less fun a h => .inr h).lst hx (R.owl.none hp))
theorem so_none : SO K A tNoPart fNoPart := fun R o h Q q => by
  cases h
  exact q _ (.refl _)
theorem so_some (h : SE K A te fe) : SO K A (tPart te) (fPart fe) := fun R o ho Q q => by
  obtain ⟨d, h1, h2⟩ := bind_some' ho
  cases d <;> try cases h2
  exact h R _ h1 _ fun v H1 e1 hv => ⟨_, hv.int_inv, q H1 e1⟩
def RS (K : PySem.W.Frag) (A : Atm) (r : V → Option Int → Option Int → Hp → VK → Prop) (g : PyData → Option Int → Option Int → Option PyData) : Prop := ∀ {O : Addr → Prop} {H : Hp} {x : V} {a : PyData}, Owl O H → Fd K A O H x a → ∀ lo hi c, g a lo hi = some c → ∀ Q : VK, (∀ v H', Same H H' → Fd K A O H' v c → Q v H') → r x lo hi H Q
theorem se_sl {r : V → Option Int → Option Int → Hp → VK → Prop} {g : PyData → Option Int → Option Int → Option PyData} {tl th : TO} {fl fh : FO} (h : SE K A te fe) (hl : SO K A tl fl) (hh : SO K A th fh) (hr : RS K A r g) : SE K A (tSl r te tl th) (fSl g fe fl fh) := fun R d hd Q q => by
  obtain ⟨a, h1, hd⟩ := bind_some' hd
  obtain ⟨l, h2, hd⟩ := bind_some' hd
  obtain ⟨u, h3, hd⟩ := bind_some' hd
  exact h R a h1 _ fun x H1 e1 hx => hl (R.same e1) l h2 _ fun H2 e2 => hh (R.same (e1.trans e2)) u h3 _ fun H3 e3 =>
    hr (R.owl.same ((e1.trans e2).trans e3)) (hx.same (e2.trans e3)) l u d hd Q fun v H4 e4 hv => q v H4 (((e1.trans e2).trans e3).trans e4) hv
/-- a built-in's call -/
theorem se_cb {r : List V → Hp → VK → Prop} {gn : Fn} (h : SA K A tas fas) (hr : RDs K A r gn) : SE K A (tCB r tas) (fCall gn fas) := fun R d hd Q q => by
  obtain ⟨ds, h1, h2⟩ := bind_some' hd
  exact h R ds h1 _ fun vs H1 e1 hvs => hr (R.owl.same e1) hvs d h2 Q fun v H2 e2 hv => q v H2 (e1.trans e2) hv
theorem sl_cb {r : List V → Hp → VK → Prop} {gn : List PyData → Option (List PyData)} (h : SA K A tas fas) (hr : RDsL K A r gn) : SL K A (tCB r tas) (fCallL gn fas) := fun R d hd Q q => by
  obtain ⟨ds, h1, h2⟩ := bind_some' hd
  exact h R ds h1 _ fun vs H1 e1 hvs => hr (R.owl.same e1) hvs d h2 Q fun p xs H2 hp e2 hx hv => q p xs H2 (e1.free hp) (e1.trans e2) hx hv
/-- the promise of a def that follows a function of data -/
def spF (K : PySem.W.Frag) (A : Atm) (fn : Fn) : Sp := fun vs H Q _ => ∃ (O : Addr → Prop) (ds : List PyData) (r : PyData), Owl O H ∧ Fds K A O H vs ds ∧ fn ds = some r ∧ ∀ v H', Same H H' → Fd K A O H' v r → Q v H'
theorem se_call {E : XK} {fn : Fn} (h : SA K A tas fas) : SE K A (tCall (spF K A fn) [] E tas) (fCall fn fas) := fun {H0 O0 O σ H ρ} R d hd Q q => by
  obtain ⟨ds, h1, h2⟩ := bind_some' hd
  exact h R ds h1 _ fun vs H1 e1 hvs => ⟨O, ds, d, R.owl.same e1, by rw [List.append_nil]; exact hvs, h2, fun v H2 e2 hv => q v H2 (e1.trans e2) hv⟩
end
end Sm
set_option maxRecDepth 10000000
namespace Sm
open PySem PySem.Spec PyProof.Rows L2 Evl
/-! ### statements -/
inductive Fl where
  | nx | bk | ct | rt (d : PyData)
abbrev FS := List Sl → Option (Fl × List Sl)
def Post (K : PySem.W.Frag) (A : Atm) (H0 : Hp) (O0 O : Addr → Prop) (H : Hp) (D : Ends) (o : Fl × List Sl) : Prop := match o.1 with
  | .nx => ∀ σ' H' O', Rl K A H0 O0 O' σ' H' o.2 → Evo O H O' H' → D.nx σ' H'
  | .bk => ∀ σ' H' O', Rl K A H0 O0 O' σ' H' o.2 → Evo O H O' H' → D.bk σ' H'
  | .ct => ∀ σ' H' O', Rl K A H0 O0 O' σ' H' o.2 → Evo O H O' H' → D.ct σ' H'
  | .rt d => ∀ v H', Same H0 H' → Fd K A O0 H' v d → D.rt v H'
def SS (K : PySem.W.Frag) (A : Atm) (t : TS) (f : FS) : Prop := ∀ {H0 : Hp} {O0 O : Addr → Prop} {σ : L2.St} {H : Hp} {ρ : List Sl}, Rl K A H0 O0 O σ H ρ → ∀ o, f ρ = some o → ∀ D : Ends, Post K A H0 O0 O H D o → t D σ H
def SG (K : PySem.W.Frag) (A : Atm) (g : TG) (f : PyData → List Sl → Option (List Sl)) (ws : List Nat) : Prop := ∀ {H0 : Hp} {O0 O : Addr → Prop} {σ : L2.St} {H : Hp} {ρ : List Sl} {v : V} {d : PyData}, Rl K A H0 O0 O σ H ρ → Fd K A O H v d → ∀ ρ', f d ρ = some ρ' → ∀ Q : L2.St → Hp → Prop, (∀ σ', Rl K A H0 O0 O σ' H ρ' → σ'.length = σ.length → (∀ i, i ∉ ws → σ'[i]? = σ[i]?) → (∀ (i : Nat) (es : List PyData), ρ'[i]? = some (Sl.own es) → ρ[i]? = some (Sl.own es) ∧ i ∉ ws) → Q σ' H) → g v σ H Q
def SGs (K : PySem.W.Frag) (A : Atm) (g : TGs) (f : List PyData → List Sl → Option (List Sl)) (ws : List Nat) : Prop := ∀ {H0 : Hp} {O0 O : Addr → Prop} {σ : L2.St} {H : Hp} {ρ : List Sl} {vs : List V} {ds : List PyData}, Rl K A H0 O0 O σ H ρ → Fds K A O H vs ds → ∀ ρ', f ds ρ = some ρ' → ∀ Q : L2.St → Hp → Prop, (∀ σ', Rl K A H0 O0 O σ' H ρ' → σ'.length = σ.length → (∀ i, i ∉ ws → σ'[i]? = σ[i]?) → (∀ (i : Nat) (es : List PyData), ρ'[i]? = some (Sl.own es) → ρ[i]? = some (Sl.own es) ∧ i ∉ ws) → Q σ' H) → g vs σ H Q
def gS (i : Nat) : PyData → List Sl → Option (List Sl) := fun d ρ => some (ρ.set i (.val d))
def gT (n : Nat) (f : List PyData → List Sl → Option (List Sl)) : PyData → List Sl → Option (List Sl) := fun d ρ => match d with
  | .tuple ds => if ds.length = n then f ds ρ else none
  | _ => none
def gN : List PyData → List Sl → Option (List Sl) := fun ds ρ => match ds with
  | [] => some ρ
  | _ => none
def gC (f : PyData → List Sl → Option (List Sl)) (g : List PyData → List Sl → Option (List Sl)) : List PyData → List Sl → Option (List Sl) := fun ds ρ => match ds with
  | d :: ds => (f d ρ).bind fun ρ1 => g ds ρ1
  | [] => none
def fNext : FS := fun ρ => some (.nx, ρ)
def fThen (o : Option (Fl × List Sl)) (g : FS) : Option (Fl × List Sl) := match o with
  | some (.nx, ρ') => g ρ'
  | o => o
def fSeq (f g : FS) : FS := fun ρ => fThen (f ρ) g
def fRet (fe : FE) : FS := fun ρ => (fe ρ).bind fun d => some (.rt d, ρ)
def fIfS (t : FT) (f g : FS) : FS := fun ρ => (t ρ).bind fun b => if b then f ρ else g ρ
def fAsg (fe : FE) (g : PyData → List Sl → Option (List Sl)) : FS := fun ρ => (fe ρ).bind fun d => (g d ρ).bind fun ρ' => some (.nx, ρ')
def fOwn (i : Nat) (fa : FA) : FS := fun ρ => (fa ρ).bind fun ds => some (.nx, ρ.set i (.own ds))
def fApp (i : Nat) (fe : FE) : FS := fun ρ => match ρ[i]? with
  | some (.own ds) => (fe ρ).bind fun d => (lim (ds.length + 1) (ds ++ [d])).bind fun es => some (.nx, ρ.set i (.own es))
  | _ => none
def fExt (i : Nat) (fe : FE) : FS := fun ρ => match ρ[i]? with
  | some (.own ds) => (fe ρ).bind fun d => match d with
    | .list zs => (lim (ds.length + zs.length) (ds ++ zs)).bind fun es => some (.nx, ρ.set i (.own es))
    | _ => none
  | _ => none
def fBrk : FS := fun ρ => some (.bk, ρ)
def fCnt : FS := fun ρ => some (.ct, ρ)
def fDrop (fe : FE) : FS := fun ρ => (fe ρ).bind fun _ => some (.nx, ρ)
def fFrz (i : Nat) (f : FS) : FS := fun ρ => f (frz i ρ)
/-- one turn and the rest -/
def fTurn (o : Option (Fl × List Sl)) (g : List Sl → Option (Fl × List Sl)) : Option (Fl × List Sl) := match o with
  | some (.nx, ρ) => g ρ
  | some (.ct, ρ) => g ρ
  | some (.bk, ρ) => some (.nx, ρ)
  | some (.rt d, ρ) => some (.rt d, ρ)
  | none => none
def fLoop (g : PyData → List Sl → Option (List Sl)) (b : FS) : List PyData → List Sl → Option (Fl × List Sl)
  | [], ρ => some (.nx, ρ)
  | d :: ds, ρ => (g d ρ).bind fun ρ1 => fTurn (b ρ1) (fLoop g b ds)
def fFor (fi : FA) (g : PyData → List Sl → Option (List Sl)) (b : FS) : FS := fun ρ => (fi ρ).bind fun ds => fLoop g b ds ρ
def fWhile (t : FT) (b : FS) : Nat → List Sl → Option (Fl × List Sl)
  | 0, _ => none
  | n + 1, ρ => (t ρ).bind fun x => if x then fTurn (b ρ) (fWhile t b n) else some (.nx, ρ)
section
variable {K : PySem.W.Frag} {A : Atm} {H0 : Hp} {O0 O O' : Addr → Prop} {H H' : Hp} {te : TE} {fe : FE} {tt : TT} {ft : FT} {fas : FA} {t u : TS} {f g : FS} {D D' : Ends} {o : Fl × List Sl}
theorem Post.evo (e : Evo O H O' H') (p : Post K A H0 O0 O H D o) : Post K A H0 O0 O' H' D o := by
  obtain ⟨fl, ρ⟩ := o
  cases fl with
  | nx => exact fun σ' H'' O'' r ev => p σ' H'' O'' r (e.trans ev)
  | bk => exact fun σ' H'' O'' r ev => p σ' H'' O'' r (e.trans ev)
  | ct => exact fun σ' H'' O'' r ev => p σ' H'' O'' r (e.trans ev)
  | rt d => exact p
theorem ss_next : SS K A tNext fNext := fun r o h D p => by
  cases h
  exact p _ _ _ r .refl
theorem ss_seq (h1 : SS K A t f) (h2 : SS K A u g) : SS K A (tSeq t u) (fSeq f g) := fun {H0 O0 O σ H ρ} r o h D p => by
  have h : fThen (f ρ) g = some o := h
  cases e : f ρ with
  | none => rw [e] at h; cases h
  | some o1 =>
    rw [e] at h
    obtain ⟨fl, ρ1⟩ := o1
    cases fl with
    | nx => exact h1 r _ e _ fun σ' H' O' r' ev => h2 r' o h D (p.evo ev)
    | bk => cases h; exact h1 r _ e _ p
    | ct => cases h; exact h1 r _ e _ p
    | rt d => cases h; exact h1 r _ e _ p
theorem ss_ret (h : SE K A te fe) : SS K A (tRet te) (fRet fe) := fun r o ho D p => by
  obtain ⟨d, h1, h2⟩ := bind_some' ho
  cases h2
  exact h r d h1 _ fun v H' e hv => p v H' (r.frm.trans e) (hv.less r.sub)
theorem ss_if (ht : ST K A tt ft) (h1 : SS K A t f) (h2 : SS K A u g) : SS K A (tIfS tt t u) (fIfS ft f g) := fun {H0 O0 O σ H ρ} r o ho D p => by
  obtain ⟨b, hb, h⟩ := bind_some' ho
  refine ht r b hb _ fun H1 e1 => ?_
  cases b with
  | true => exact iteT (h1 (r.same e1) o (by simpa using h) D (p.evo (.same e1)))
  | false => exact iteF (h2 (r.same e1) o (by simpa using h) D (p.evo (.same e1)))
theorem ss_asg {tg : TG} {gg : PyData → List Sl → Option (List Sl)} {ws : List Nat} (h : SE K A te fe) (hg : SG K A tg gg ws) : SS K A (tAsg te tg) (fAsg fe gg) := fun r o ho D p => by
  obtain ⟨d, h1, h2⟩ := bind_some' ho
  obtain ⟨ρ', h3, h4⟩ := bind_some' h2
  cases h4
  exact h r d h1 _ fun v H1 e1 hv => hg (r.same e1) hv ρ' h3 _ fun σ' r' _ _ _ => p σ' H1 _ r' (.same e1)
theorem ss_own {i : Nat} (h : SL K A te fas) : SS K A (tAsg te (gName i)) (fOwn i fas) := fun {H0 O0 O σ H ρ} r o ho D p => by
  obtain ⟨ds, h1, h2⟩ := bind_some' ho
  cases h2
  refine h r ds h1 _ fun q xs H1 hq e1 hx hxs => ?_
  have p' : ∀ σ' H' O', Rl K A H0 O0 O' σ' H' (ρ.set i (.own ds)) → Evo O H O' H' → D.nx σ' H' := p
  refine p' (σ.set i (some (.ref q))) H1 (Osn O q) (r.setOwn i hq e1 hx hxs) fun a o ha hn => ⟨e1 _ _ ha, fun h => ?_⟩
  rcases h with h | h
  · rw [h, hq] at ha
    cases ha
  · exact hn h
theorem ss_app {i : Nat} (h : SE K A te fe) : SS K A (tDrop (tBM K "list" rAppend (tVar i) (tCons te tNil))) (fApp i fe) := fun {H0 O0 O σ H ρ} r o ho D p => by
  have ho : (match ρ[i]? with
    | some (.own ds) => (fe ρ).bind fun d => (lim (ds.length + 1) (ds ++ [d])).bind fun es => some (.nx, ρ.set i (.own es))
    | _ => none) = some o := ho
  split at ho
  · rename_i ds hi
    obtain ⟨d, h1, h2⟩ := bind_some' ho
    obtain ⟨es, h3, h4⟩ := bind_some' h2
    cases h4
    obtain ⟨h5, rfl⟩ := lim_some h3
    obtain ⟨q, xs, s1, s2, s3, s4, s5⟩ := r.own i ds hi
    refine ⟨_, s1, .inl ⟨rfl, xs, sq_of s4⟩, h r d h1 _ fun v H1 e1 hv => ?_⟩
    have hx : H1 q = some (.lst xs) := e1 _ _ s4
    refine ⟨q, xs, v, rfl, rfl, hx, Nat.lt_of_lt_of_le (Nat.lt_succ_self _) (sz100 (by rw [s5.1]; exact h5)), ?_⟩
    obtain ⟨r', ev⟩ := (r.same e1).grow hi s1 hx ((s5.same e1).snoc hv)
    exact p σ _ O r' ((Evo.same e1).trans ev)
  · cases ho
theorem ss_ext {i : Nat} (h : SE K A te fe) : SS K A (tDrop (tBM K "list" rExtend (tVar i) (tCons te tNil))) (fExt i fe) := fun {H0 O0 O σ H ρ} r o ho D p => by
  have ho : (match ρ[i]? with
    | some (.own ds) => (fe ρ).bind fun d => match d with
      | .list zs => (lim (ds.length + zs.length) (ds ++ zs)).bind fun es => some (.nx, ρ.set i (.own es))
      | _ => none
    | _ => none) = some o := ho
  split at ho
  · rename_i ds hi
    obtain ⟨d, h1, h2⟩ := bind_some' ho
    cases d <;> try cases h2
    rename_i zs
    obtain ⟨es, h3, h4⟩ := bind_some' h2
    cases h4
    obtain ⟨h5, rfl⟩ := lim_some h3
    obtain ⟨q, xs, s1, s2, s3, s4, s5⟩ := r.own i ds hi
    refine ⟨_, s1, .inl ⟨rfl, xs, sq_of s4⟩, h r _ h1 _ fun v H1 e1 hv => ?_⟩
    obtain ⟨b, ys, rfl, hb, hnb, hys⟩ := hv.lst_inv
    have hx : H1 q = some (.lst xs) := e1 _ _ s4
    refine ⟨q, b, xs, ys, rfl, rfl, hx, hb, sz100 (by rw [s5.1, hys.1]; exact h5), ?_⟩
    obtain ⟨r', ev⟩ := (r.same e1).grow hi s1 hx ((s5.same e1).app hys)
    exact p σ _ O r' ((Evo.same e1).trans ev)
  · cases ho
theorem ss_brk : SS K A tBreak fBrk := fun r o h D p => by
  cases h
  exact p _ _ _ r .refl
theorem ss_cnt : SS K A tCont fCnt := fun r o h D p => by
  cases h
  exact p _ _ _ r .refl
theorem ss_drop (h : SE K A te fe) : SS K A (tDrop te) (fDrop fe) := fun r o ho D p => by
  obtain ⟨d, h1, h2⟩ := bind_some' ho
  cases h2
  exact h r d h1 _ fun v H1 e1 _ => p _ H1 _ (r.same e1) (.same e1)
theorem ss_never : SS K A tNever (fun _ => none) := fun r o h => nomatch h
theorem ss_frz (i : Nat) (h : SS K A t f) : SS K A t (fFrz i f) := fun r o ho D p => by
  obtain ⟨O', r', ev, _⟩ := r.frz i
  exact h r' o ho D (p.evo ev)
theorem sg_name (i : Nat) : SG K A (gName i) (gS i) [i] := fun {H0 O0 O σ H ρ v d} r hv ρ' h Q q => by
  cases h
  refine q (σ.set i (some v)) (r.set i hv) (List.length_set ..) (fun j hj => ?_) fun j es hj => ?_
  · rw [List.getElem?_set_ne]
    intro e
    exact hj (by simp [e])
  · have hij : i ≠ j := fun e => by
      subst e
      rw [List.getElem?_set, if_pos rfl] at hj
      split at hj <;> cases hj
    rw [List.getElem?_set_ne hij] at hj
    exact ⟨hj, by simpa using fun e => hij e.symm⟩
theorem sgs_nil : SGs K A gNil gN [] := fun {H0 O0 O σ H ρ vs ds} r hv ρ' h Q q => by
  unfold gN at h
  split at h
  · cases h
    exact ⟨hv.nil_inv, q σ r rfl (fun _ _ => rfl) fun _ _ h => ⟨h, by simp⟩⟩
  · cases h
theorem sgs_cons {g1 : TG} {f1 : PyData → List Sl → Option (List Sl)} {gs : TGs} {fs : List PyData → List Sl → Option (List Sl)} {w1 ws : List Nat} (h1 : SG K A g1 f1 w1) (h2 : SGs K A gs fs ws) : SGs K A (gCons g1 gs) (gC f1 fs) (w1 ++ ws) := fun {H0 O0 O σ H ρ vs ds} r hv ρ' h Q q => by
  unfold gC at h
  split at h
  · rename_i d ds
    obtain ⟨ρ1, h3, h4⟩ := bind_some' h
    obtain ⟨v, ws', rfl, hv1, hvs⟩ := hv.head
    exact ⟨v, ws', rfl, h1 r hv1 ρ1 h3 _ fun σ1 r1 l1 k1 o1 => h2 r1 hvs ρ' h4 _ fun σ2 r2 l2 k2 o2 => q σ2 r2 (l2.trans l1) (fun i hi => (k2 i fun h => hi (List.mem_append.mpr (.inr h))).trans (k1 i fun h => hi (List.mem_append.mpr (.inl h)))) fun i es h => by
      obtain ⟨a1, a2⟩ := o2 i es h
      obtain ⟨b1, b2⟩ := o1 i es a1
      exact ⟨b1, fun h => (List.mem_append.mp h).elim b2 a2⟩⟩
  · cases h
theorem sg_tup {gs : TGs} {fs : List PyData → List Sl → Option (List Sl)} {ws : List Nat} (n : Nat) (h : SGs K A gs fs ws) : SG K A (gTup K n gs) (gT n fs) ws := fun {H0 O0 O σ H ρ v d} r hv ρ' hρ Q q => by
  unfold gT at hρ
  split at hρ
  · rename_i ds
    split at hρ
    · rename_i hl
      obtain ⟨a, xs, rfl, hs, hxs⟩ := hv.tup_inv
      exact ⟨a, xs, rfl, hs, by rw [hxs.1, hl], h r hxs ρ' hρ Q q⟩
    · cases hρ
  · cases hρ
/-! ### what is walked -/
def Wk (K : PySem.W.Frag) (A : Atm) (O : Addr → Prop) (H : Hp) (J : It) (ds : List PyData) : Prop := ∃ (G : Hp → Prop) (Y : Nat → Hp → V → Hp → Prop), Walk J ds.length G Y ∧ ∀ O' H', Owl O' H' → Evo O H O' H' → G H' ∧ ∀ i x H2, i < ds.length → Y i H' x H2 → Same H' H2 ∧ ∃ d, ds[i]? = some d ∧ Fd K A O' H2 x d
def SI (K : PySem.W.Frag) (A : Atm) (wi : TI) (f : FA) : Prop := ∀ {H0 : Hp} {O0 O : Addr → Prop} {σ : L2.St} {H : Hp} {ρ : List Sl}, Rl K A H0 O0 O σ H ρ → ∀ ds, f ρ = some ds → ∀ R : It → Hp → Prop, (∀ J H', Same H H' → Wk K A O H' J ds → R J H') → wi σ H R
theorem ss_for {wi : TI} {fi : FA} {tg : TG} {gg : PyData → List Sl → Option (List Sl)} {ws : List Nat} {tb : TS} {fb : FS} (hi : SI K A wi fi) (hg : SG K A tg gg ws) (hb : SS K A tb fb) : SS K A (tFor wi tg tb) (fFor fi gg fb) := fun {H0 O0 O σ H ρ} r o ho D p => by
  obtain ⟨ds, h1, h2⟩ := bind_some' ho
  refine hi r ds h1 _ fun J H1 e1 wk => ?_
  obtain ⟨G, Y, w, hw⟩ := wk
  refine for_it w (D := D) (fun i σ' H' => ∃ O' ρ', Rl K A H0 O0 O' σ' H' ρ' ∧ Evo O H1 O' H' ∧ fLoop gg fb (ds.drop i) ρ' = some o) ⟨O, ρ, r.same e1, .refl, h2⟩ (fun i σ' H' _ hP => ?_) (fun i x σ' H' H2 hi hP hy => ?_) (fun σ' H' hP => ?_)
  · obtain ⟨O', ρ', r', ev, _⟩ := hP
    exact (hw O' H' r'.owl ev).1
  · obtain ⟨O', ρ', r', ev, hl⟩ := hP
    obtain ⟨e2, d, hd, hx⟩ := (hw O' H' r'.owl ev).2 i x H2 hi hy
    have hdr : ds.drop i = d :: ds.drop (i + 1) := by
      obtain ⟨hlt, rfl⟩ := List.getElem?_eq_some_iff.mp hd
      exact List.drop_eq_getElem_cons hlt
    rw [hdr] at hl
    obtain ⟨ρ1, h3, h4⟩ := bind_some' hl
    refine hg (r'.same e2) hx ρ1 h3 _ fun σ2 r2 _ _ _ => ?_
    cases e : fb ρ1 with
    | none => rw [e] at h4; cases h4
    | some o1 =>
      rw [e] at h4
      obtain ⟨fl, ρ2⟩ := o1
      have ev2 : Evo O H1 O' H2 := ev.trans (.same e2)
      cases fl with
      | nx => exact hb r2 _ e _ fun σ3 H3 O3 r3 ev3 => ⟨O3, ρ2, r3, ev2.trans ev3, h4⟩
      | ct => exact hb r2 _ e _ fun σ3 H3 O3 r3 ev3 => ⟨O3, ρ2, r3, ev2.trans ev3, h4⟩
      | bk =>
        cases h4
        exact hb r2 _ e _ fun σ3 H3 O3 r3 ev3 => p σ3 H3 O3 r3 ((Evo.same e1).trans (ev2.trans ev3))
      | rt d' =>
        cases h4
        exact hb r2 _ e _ p
  · obtain ⟨O', ρ', r', ev, hl⟩ := hP
    rw [List.drop_length] at hl
    cases hl
    exact p σ' H' O' r' ((Evo.same e1).trans ev)
theorem ss_while {tb : TS} {fb : FS} (n : Nat) (ht : ST K A tt ft) (hb : SS K A tb fb) : SS K A (tWhile tt tb) (fun ρ => fWhile ft fb n ρ) := fun {H0 O0 O σ H ρ} r o ho D p => by
  refine ⟨fun m σ' H' => ∃ O' ρ', Rl K A H0 O0 O' σ' H' ρ' ∧ Evo O H O' H' ∧ fWhile ft fb m ρ' = some o, ⟨n, O, ρ, r, .refl, ho⟩, fun m σ' H' hP => ?_⟩
  obtain ⟨O', ρ', r', ev, hl⟩ := hP
  cases m with
  | zero => cases hl
  | succ m =>
    have hl : ((ft ρ').bind fun x => if x then fTurn (fb ρ') (fWhile ft fb m) else some (.nx, ρ')) = some o := hl
    obtain ⟨b, hb1, h4⟩ := bind_some' hl
    refine ht r' b hb1 _ fun H1 e1 => ?_
    cases b with
    | false =>
      cases h4
      exact iteF (p σ' H1 O' (r'.same e1) (ev.trans (.same e1)))
    | true =>
      refine iteT ?_
      have h4 : fTurn (fb ρ') (fWhile ft fb m) = some o := h4
      refine ⟨fun σ2 H2 => ∃ O2 ρ2, Rl K A H0 O0 O2 σ2 H2 ρ2 ∧ Evo O H O2 H2 ∧ fWhile ft fb m ρ2 = some o, fun σ2 H2 hN => ⟨m, Nat.lt_succ_self _, hN⟩, ?_⟩
      cases e : fb ρ' with
      | none => rw [e] at h4; cases h4
      | some o1 =>
        rw [e] at h4
        obtain ⟨fl, ρ2⟩ := o1
        have ev2 : Evo O H O' H1 := ev.trans (.same e1)
        cases fl with
        | nx => exact hb (r'.same e1) _ e _ fun σ3 H3 O3 r3 ev3 => ⟨O3, ρ2, r3, ev2.trans ev3, h4⟩
        | ct => exact hb (r'.same e1) _ e _ fun σ3 H3 O3 r3 ev3 => ⟨O3, ρ2, r3, ev2.trans ev3, h4⟩
        | bk =>
          cases h4
          exact hb (r'.same e1) _ e _ fun σ3 H3 O3 r3 ev3 => p σ3 H3 O3 r3 (ev2.trans ev3)
        | rt d' =>
          cases h4
          exact hb (r'.same e1) _ e _ p
end
/-! ### comprehensions -/
def wpS (ρ : List Sl) : List Nat → List Sl
  | [] => ρ
  | v :: vs => (wpS ρ vs).set v .un
def compM (step : PyData → Option (Option PyData)) : List PyData → Option (List PyData)
  | [] => some []
  | d :: ds => (step d).bind fun o => (compM step ds).bind fun r => some (match o with
    | some y => y :: r
    | none => r)
def cStep (g : PyData → List Sl → Option (List Sl)) (t : FT) (e : FE) (ρ : List Sl) : PyData → Option (Option PyData) := fun d => (g d ρ).bind fun ρ1 => (t ρ1).bind fun b => if b then (e ρ1).bind fun y => some (some y) else some none
def fComp (fi : FA) (g : PyData → List Sl → Option (List Sl)) (t : FT) (e : FE) (vs : List Nat) : FA := fun ρ => (fi ρ).bind fun ds => (compM (cStep g t e (wpS ρ vs)) ds).bind fun r => lim r.length r
theorem wipe_ext {σ σ' : L2.St} : ∀ {vs : List Nat}, σ'.length = σ.length → (∀ i, i ∉ vs → σ'[i]? = σ[i]?) → wipe σ' vs = wipe σ vs
  | [], _, h => List.ext_getElem? fun i => h i (by simp)
  | v :: vs, hl, h => by
    have key : ∀ (τ : L2.St) (us : List Nat) (i : Nat), (wipe τ us)[i]? = if i ∈ us then (if i < τ.length then some none else none) else τ[i]? := by
      intro τ us i
      induction us with
      | nil => simp [wipe]
      | cons u us ih =>
        unfold wipe
        rw [List.getElem?_set, wipe_length]
        by_cases hu : u = i
        · subst hu
          simp
        · rw [if_neg hu, ih]
          have : (i ∈ u :: us) ↔ i ∈ us := by
            rw [List.mem_cons]
            exact ⟨fun h => h.resolve_left fun e => hu e.symm, .inr⟩
          simp only [this]
    refine List.ext_getElem? fun i => ?_
    rw [key, key, hl]
    split
    · rfl
    · rename_i hi
      exact h i hi
theorem wipe_wipe (σ : L2.St) (vs : List Nat) : wipe (wipe σ vs) vs = wipe σ vs := wipe_ext (wipe_length σ vs) fun i hi => by
  have key : ∀ (us : List Nat), i ∉ us → (wipe σ us)[i]? = σ[i]? := by
    intro us
    induction us with
    | nil => intro _; rfl
    | cons u us ih =>
      intro hi
      unfold wipe
      rw [List.getElem?_set_ne (fun e => hi (by simp [e])), ih fun h => hi (List.mem_cons_of_mem _ h)]
  exact key vs hi
section
variable {K : PySem.W.Frag} {A : Atm} {H0 : Hp} {O0 O O' : Addr → Prop} {σ : L2.St} {ρ : List Sl} {H H' : Hp} {te : TE} {fe : FE} {tt : TT} {ft : FT}
theorem Rl.un (r : Rl K A H0 O0 O σ H ρ) (i : Nat) : Rl K A H0 O0 O (σ.set i none) H (ρ.set i .un) where
  len := by rw [List.length_set, List.length_set, r.len]
  val := fun j e hj => by
    rw [List.getElem?_set] at hj ⊢
    by_cases hi : i = j
    · subst hi
      rw [if_pos rfl] at hj
      split at hj <;> cases hj
    · rw [if_neg hi] at hj ⊢
      exact r.val j e hj
  own := fun j es hj => by
    rw [List.getElem?_set] at hj ⊢
    by_cases hi : i = j
    · subst hi
      rw [if_pos rfl] at hj
      split at hj <;> cases hj
    · rw [if_neg hi] at hj ⊢
      exact r.own j es hj
  inj := fun j k ds es p hj hk sj sk => by
    have hij : i ≠ j := fun e => by
      subst e
      rw [List.getElem?_set, if_pos rfl] at hj
      split at hj <;> cases hj
    have hik : i ≠ k := fun e => by
      subst e
      rw [List.getElem?_set, if_pos rfl] at hk
      split at hk <;> cases hk
    rw [List.getElem?_set_ne hij] at hj sj
    rw [List.getElem?_set_ne hik] at hk sk
    exact r.inj j k ds es p hj hk sj sk
  owl := r.owl
  frm := r.frm
  sub := r.sub
  old := r.old
theorem wpS_own {i : Nat} {es : List PyData} : ∀ {vs : List Nat}, (wpS ρ vs)[i]? = some (Sl.own es) → ρ[i]? = some (Sl.own es)
  | [], h => h
  | v :: vs, h => by
    have h : ((wpS ρ vs).set v Sl.un)[i]? = some (Sl.own es) := h
    have hvi : v ≠ i := fun e => by
      subst e
      rw [List.getElem?_set, if_pos rfl] at h
      split at h <;> cases h
    rw [List.getElem?_set_ne hvi] at h
    exact wpS_own h
theorem Rl.wipe (r : Rl K A H0 O0 O σ H ρ) : ∀ vs, Rl K A H0 O0 O (L2.wipe σ vs) H (wpS ρ vs)
  | [] => r
  | v :: vs => (r.wipe vs).un v
theorem compM_le {step : PyData → Option (Option PyData)} : ∀ {ds rs : List PyData}, compM step ds = some rs → rs.length ≤ ds.length
  | [], rs, h => by cases h; exact Nat.le_refl _
  | d :: ds, rs, h => by
    obtain ⟨o, h1, h2⟩ := bind_some' h
    obtain ⟨r, h3, h4⟩ := bind_some' h2
    have := compM_le h3
    cases o with
    | none =>
      have h4 : some r = some rs := h4
      cases h4
      rw [List.length_cons]
      omega
    | some y =>
      have h4 : some (y :: r) = some rs := h4
      cases h4
      rw [List.length_cons, List.length_cons]
      omega
theorem sl_lc {wi : TI} {fi : FA} {tg : TG} {gg : PyData → List Sl → Option (List Sl)} {ws vs : List Nat} (hi : SI K A wi fi) (hg : SG K A tg gg ws) (hsub : ∀ i ∈ ws, i ∈ vs) (ht : ST K A tt ft) (he : SE K A te fe) : SL K A (tLc wi tg tt te vs) (fComp fi gg ft fe vs) := fun {H0 O0 O σ H ρ} r rs hr Q q => by
  obtain ⟨ds, h1, h2⟩ := bind_some' hr
  obtain ⟨rs', h3, h4⟩ := bind_some' h2
  obtain ⟨h5, rfl⟩ := lim_some h4
  refine hi r ds h1 _ fun J H1 e1 wk Dl hD => ?_
  obtain ⟨G, Y, w, hw⟩ := wk
  have r1 := (r.same e1).wipe vs
  refine lc_it w (D := Dl) (fun i H' => ∃ acc done rest, Same H1 H' ∧ H' Dl = some (.lst acc) ∧ Fds K A (Osn O Dl) H' acc done ∧ compM (cStep gg ft fe (wpS ρ vs)) (ds.drop i) = some rest ∧ rs' = done ++ rest) ⟨[], [], rs', Cr.same_new hD, upd_same, .nil, h3, rfl⟩ (fun i H' _ hP => ?_) (fun i x H' H2 hi' hP hy => ?_) (fun H' hP => ?_)
  · obtain ⟨acc, done, rest, e, _⟩ := hP
    exact (hw O H' (r1.owl.same e) (.same e)).1
  · obtain ⟨acc, done, rest, e, hDl, hacc, hc, hrs⟩ := hP
    have r2 := r1.osn hD e hDl
    have ev : Evo O H1 (Osn O Dl) H' := fun a o ha hn => ⟨e _ _ ha, fun h => by
      rcases h with h | h
      · rw [h, hD] at ha
        cases ha
      · exact hn h⟩
    obtain ⟨e2, d, hd, hx⟩ := (hw (Osn O Dl) H' r2.owl ev).2 i x H2 hi' hy
    have hdr : ds.drop i = d :: ds.drop (i + 1) := by
      obtain ⟨hlt, rfl⟩ := List.getElem?_eq_some_iff.mp hd
      exact List.drop_eq_getElem_cons hlt
    rw [hdr] at hc
    obtain ⟨o, hs1, hs2⟩ := bind_some' hc
    obtain ⟨rr, hs3, hs4⟩ := bind_some' hs2
    obtain ⟨ρ1, hs5, hs6⟩ := bind_some' hs1
    obtain ⟨b, hs7, hs8⟩ := bind_some' hs6
    refine hg (r2.same e2) hx ρ1 hs5 _ fun σ2 r3 l3 k3 _ => ⟨?_, ht r3 b hs7 _ fun H3 e3 => ?_⟩
    · rw [wipe_ext (σ := L2.wipe σ vs) (by rw [l3]) (fun i hi => k3 i fun h => hi (hsub i h)), wipe_wipe]
    · cases b with
      | true =>
        obtain ⟨y, hy1, hy2⟩ := bind_some' (show ((fe ρ1).bind fun y => some (some y)) = some o from hs8)
        cases hy2
        cases hs4
        refine iteT (he (r3.same e3) y hy1 _ fun v H4 e4 hv => ?_)
        have e24 := (e2.trans e3).trans e4
        have hD4 : H4 Dl = some (.lst acc) := e24 _ _ hDl
        have hacc4 := hacc.same e24
        have ho4 : Owl (Osn O Dl) H4 := r2.owl.same e24
        have ev4 : Evo (Osn O Dl) H4 (Osn O Dl) (upd H4 Dl (.lst (acc ++ [v]))) := fun a o ha hn => ⟨by
          rw [upd_ne (fun e => hn (.inl e))]
          exact ha, hn⟩
        refine ⟨acc, hD4, ?_, acc ++ [v], done ++ [y], rr, ?_, upd_same, (hacc4.snoc hv).evo ho4 ev4, hs3, by rw [hrs]; simp⟩
        · have h6 : acc.length = done.length := hacc.1
          have h7 : (done ++ y :: rr).length ≤ 10000000 := by rw [← hrs]; exact h5
          rw [List.length_append, List.length_cons] at h7
          exact Nat.lt_of_lt_of_le (show acc.length < 10000000 by omega) (by decide)
        · exact Cr.same_mut (e.trans e24) hD
      | false =>
        cases hs8
        cases hs4
        exact iteF ⟨acc, done, rr, e.trans (e2.trans e3), (e2.trans e3) _ _ hDl, hacc.same (e2.trans e3), hs3, hrs⟩
  · obtain ⟨acc, done, rest, e, hDl, hacc, hc, hrs⟩ := hP
    rw [List.drop_length] at hc
    cases hc
    rw [List.append_nil] at hrs
    subst hrs
    exact q Dl acc H' (e1.free hD) (e1.trans e) hDl hacc
end
/-! ### a def's body -/
def runF (n k : Nat) (f : FS) : Fn := fun ds => if ds.length = k then match f (ds.map Sl.val ++ List.replicate (n - k) Sl.un) with
    | some (.rt d, _) => some d
    | some (.nx, _) => some .none
    | _ => none
  else none
theorem body_ok {K : PySem.W.Frag} {A : Atm} {N : List Str} {k : Nat} {t : TS} {f : FS} (h : SS K A t f) {vs : List V} {H : Hp} {Q : VK} {E : XK} (hs : spF K A (runF N.length k f) vs H Q E) : t { nx := fun _ H' => Q .non H', rt := Q } (L2.start N vs) H := by
  obtain ⟨O, ds, r, ho, hds, hr, q⟩ := hs
  unfold runF at hr
  split at hr
  · rename_i hk
    have R : Rl K A H O O (L2.start N vs) H (ds.map Sl.val ++ List.replicate (N.length - k) Sl.un) := by
      have hl : vs.length = ds.length := hds.1
      have key : ∀ i, (ds.map Sl.val ++ List.replicate (N.length - k) Sl.un)[i]? = if i < ds.length then ds[i]?.map Sl.val else if i - ds.length < N.length - k then some .un else none := fun i => by
        by_cases hi : i < ds.length
        · rw [if_pos hi, List.getElem?_append_left (by rw [List.length_map]; exact hi), List.getElem?_map]
        · rw [if_neg hi, List.getElem?_append_right (by rw [List.length_map]; omega), List.length_map, List.getElem?_replicate]
      refine ⟨?_, fun i d hi => ?_, fun i es hi => ?_, fun i j es fs p hi => ?_, ho, .refl _, fun _ h => h, ho⟩
      · unfold L2.start
        rw [List.length_append, List.length_map, List.length_replicate, List.length_append, List.length_map, List.length_replicate, hl, hk]
      · rw [key] at hi
        split at hi
        · rename_i hlt
          obtain ⟨d', hd, e⟩ := Option.map_eq_some_iff.mp hi
          cases e
          obtain ⟨v, h1, h2⟩ := hds.get hd
          refine ⟨v, ?_, h2⟩
          unfold L2.start
          rw [List.getElem?_append_left (by rw [List.length_map, hl]; exact hlt), List.getElem?_map, h1]
          rfl
        · split at hi <;> cases hi
      · rw [key] at hi
        split at hi
        · obtain ⟨d', hd, e⟩ := Option.map_eq_some_iff.mp hi
          cases e
        · split at hi <;> cases hi
      · rw [key] at hi
        split at hi
        · obtain ⟨d', hd, e⟩ := Option.map_eq_some_iff.mp hi
          cases e
        · split at hi <;> cases hi
    split at hr
    · rename_i d _ e
      cases hr
      exact h R _ e _ fun v H' s hv => q v H' s hv
    · rename_i _ e
      cases hr
      exact h R _ e _ fun σ' H' O' r' _ => q .non H' r'.frm .non
    · cases hr
  · cases hr
theorem body_len {K : PySem.W.Frag} {A : Atm} {n k : Nat} {f : FS} {vs : List V} {H : Hp} {Q : VK} {E : XK} (hs : spF K A (runF n k f) vs H Q E) : vs.length = k := by
  obtain ⟨O, ds, r, ho, hds, hr, q⟩ := hs
  unfold runF at hr
  split at hr
  · rename_i hk
    rw [hds.1, hk]
  · cases hr
end Sm
set_option maxRecDepth 10000000
/-! operators, built-ins and walks, each with its function of data -/
namespace Sm
open PySem PySem.Spec PyProof.Rows L2 Evl CrT Cr
/-! ### rules joined -/
section
variable {X : Cx}
theorem opr_or {f : Value → Value → Sem Value} {r r' : R2} (h : OpR X f r) (h' : OpR X f r') : OpR X f (fun x y H Q => r x y H Q ∨ r' x y H Q) := fun pins s σ H x y v u Q I rx ry q => by
  rcases q with q | q
  · exact h pins s σ H x y v u Q I rx ry q
  · exact h' pins s σ H x y v u Q I rx ry q
theorem cr_or {f : Value} {r r' : List V → Hp → VK → Prop} (h : CallR X f r) (h' : CallR X f r') : CallR X f (fun xs H Q => r xs H Q ∨ r' xs H Q) := fun pins s σ H xs us Q I rx q => by
  rcases q with q | q
  · exact h pins s σ H xs us Q I rx q
  · exact h' pins s σ H xs us Q I rx q
theorem pi_or {tg e : Expr} {w w' : TI} (h : PI X tg e w) (h' : PI X tg e w') : PI X tg e (fun σ H R => w σ H R ∨ w' σ H R) := ⟨fun pins s σ H R I q => by
  rcases q with q | q
  · exact h.run pins s σ H R I q
  · exact h'.run pins s σ H R I q⟩
def rStrCat : R2 := fun x y H Q => ∃ i j, x = .str i ∧ y = .str j ∧ i.length + j.length ≤ sizeLine ∧ Q (.str (i ++ j)) H
def rAddX (K : PySem.W.Frag) : R2 := fun x y H Q => rI0 (fun i j => .int (i + j)) x y H Q ∨ rCatA K x y H Q ∨ rCat x y H Q ∨ rStrCat x y H Q
theorem op_addX : OpR X (binaryOp .Add) (rAddX X.K) := opr_or op_add (opr_or op_catA (opr_or op_cat op_add_str))
def rMulX : R2 := fun x y H Q => rI CMul (fun i j => .int (i * j)) x y H Q ∨ rI CMulW (fun i j => .int (i * j)) x y H Q ∨ rRep x y H Q
theorem op_mulX : OpR X (binaryOp .Mult) rMulX := opr_or op_mul (opr_or op_mulW op_rep)
def rEqX (K : PySem.W.Frag) : R2 := fun x y H Q => rEq x y H Q ∨ rEqD K x y H Q
def rNeX (K : PySem.W.Frag) : R2 := fun x y H Q => rNe x y H Q ∨ rNeD K x y H Q
theorem op_eqX (hu : X.A.units + 64 < cLine) : OpR X (compareOp .Eq) (rEqX X.K) := opr_or op_eq (op_eqD hu)
theorem op_neX (hu : X.A.units + 64 < cLine) : OpR X (compareOp .NotEq) (rNeX X.K) := opr_or op_ne (op_neD hu)
def rLeS : R2 := fun x y H Q => ∃ i j, x = .str i ∧ y = .str j ∧ Q (.bl (!decide (j.cps.toList < i.cps.toList))) H
def rLeX : R2 := fun x y H Q => rI0 (fun i j => .bl (decide (i ≤ j))) x y H Q ∨ rLeS x y H Q
theorem op_leX : OpR X (compareOp .LtE) rLeX := opr_or op_le op_le_str
def rInX (K : PySem.W.Frag) : R2 := fun x y H Q => rIn K false x y H Q ∨ rInTup K false x y H Q ∨ rInD K x y H Q
def rNiX (K : PySem.W.Frag) : R2 := fun x y H Q => rIn K true x y H Q ∨ rInTup K true x y H Q ∨ rNotInD K x y H Q
theorem op_inX (hu : X.A.units + 65 < cLine) : OpR X (compareOp .In) (rInX X.K) := opr_or op_in_seq (opr_or (op_inTup hu) (op_inD hu))
theorem op_niX (hu : X.A.units + 65 < cLine) : OpR X (compareOp .NotIn) (rNiX X.K) := opr_or op_notIn_seq (opr_or (op_notInTup hu) (op_notInD hu))
def rSlX (K : PySem.W.Frag) : V → Option Int → Option Int → Hp → VK → Prop := fun x lo hi H Q => rSlA K x lo hi H Q ∨ rSlL K x lo hi H Q ∨ rSlS x lo hi H Q
theorem sl_X : SlR X (rSlX X.K) := sl_tupA.or (sl_list.or sl_str)
def rAllX (K : PySem.W.Frag) := rAll K
def rLenX (K : PySem.W.Frag) : List V → Hp → VK → Prop := fun xs H Q => ∃ x n, xs = [x] ∧ LenV K x H n ∧ Q (.int (n : Int)) H
theorem cr_lenX : CallR X (.builtin "len") (rLenX X.K) := call_len
def rSumX (K : PySem.W.Frag) : List V → Hp → VK → Prop := fun xs H Q => rSum K xs H Q ∨ rSumT K xs H Q
theorem cr_sumX (hc : X.calm = true) : CallR X (.builtin "sum") (rSumX X.K) := cr_or (cr_sum hc) (cr_sumT hc)
def rTupO (K : PySem.W.Frag) : List V → Hp → VK → Prop := fun xs H Q => ∃ p ys, xs = [.ref p] ∧ ((SqL K H p ys ∧ ∀ l, H l = none → Q (.ref l) (upd H l (.tup ys))) ∨ (SqT K H p ys ∧ Q (.ref p) H))
theorem cr_tupO : CallR X (.type "tuple") (rTupO X.K) := call_tuple_of
def rLstO (K : PySem.W.Frag) : List V → Hp → VK → Prop := fun xs H Q => ∃ p ys, xs = [.ref p] ∧ (SqL K H p ys ∨ SqT K H p ys) ∧ ∀ l, H l = none → Q (.ref l) (upd H l (.lst ys))
theorem cr_lstO : CallR X (.type "list") (rLstO X.K) := call_list_of
def iSeq (K : PySem.W.Frag) (te : TE) : TI := fun σ H R => iList K te σ H R ∨ iTup K te σ H R ∨ iStr te σ H R
theorem pi_seq {tg e : Expr} {te : TE} (he : PE X e te) : PI X tg e (iSeq X.K te) := pi_or (pi_list he) (pi_or (pi_tup he) (pi_str he))
def iEnu (K : PySem.W.Frag) (ta : TA) : TI := fun σ H R => iEnum K ta σ H R ∨ iEnumT K ta σ H R
end
/-! ### their functions of data -/
def gAdd : F2
  | .int i, .int j => some (.int (i + j))
  | .tuple xs, .tuple ys => (lim (xs.length + ys.length) (.tuple (xs ++ ys)))
  | .list xs, .list ys => (lim (xs.length + ys.length) (.list (xs ++ ys)))
  | .str x, .str y => (lim (x.length + y.length) (.str (x ++ y)))
  | _, _ => none
def gSub : F2
  | .int i, .int j => some (.int (i - j))
  | _, _ => none
def gMul : F2
  | .int i, .int j => if (i.natAbs < 18446744073709551616 ∨ j.natAbs < 18446744073709551616) ∨ i.natAbs.log2 + j.natAbs.log2 < 1000000 then some (.int (i * j)) else none
  | .list xs, .int k => if k.toNat ≤ 10000000 ∧ -10000000 ≤ k then lim (xs.length * k.toNat) (.list (List.replicate k.toNat xs).flatten) else none
  | _, _ => none
def gMod : F2
  | .int i, .int j => if 0 < j then some (.int (i % j)) else none
  | _, _ => none
def gDiv : F2
  | .int i, .int j => if 0 < j ∧ j.natAbs.log2 < 9000 then some (.int (i / j)) else none
  | _, _ => none
def gNeg : F1
  | .int i => some (.int (-i))
  | _ => none
def eqD (a b : PyData) : Option Bool := match a, b with
  | .int i, .int j => some (decide (i = j))
  | .str x, .str y => some (decide (x = y))
  | .int _, .str _ => some false
  | .str _, .int _ => some false
  | a, b => if SeqAt.shaped a && SeqAt.shaped b then some (PyData.eqv a b) else none
def gEq : F2 := fun a b => (eqD a b).bind fun x => some (.bool x)
def gNe : F2 := fun a b => (eqD a b).bind fun x => some (.bool (!x))
def gLt : F2
  | .int i, .int j => some (.bool (decide (i < j)))
  | _, _ => none
def gLe : F2
  | .int i, .int j => some (.bool (decide (i ≤ j)))
  | .str x, .str y => some (.bool (!decide (y.cps.toList < x.cps.toList)))
  | _, _ => none
def gGt : F2
  | .int i, .int j => some (.bool (decide (j < i)))
  | _, _ => none
def gGe : F2
  | .int i, .int j => some (.bool (decide (j ≤ i)))
  | _, _ => none
def gIsN : F2
  | a, .none => some (.bool (match a with | .none => true | _ => false))
  | _, _ => none
def gNotN : F2
  | a, .none => some (.bool (match a with | .none => false | _ => true))
  | _, _ => none
def fl : PyData → Bool
  | .int _ => true
  | .str _ => true
  | _ => false
def eqF : PyData → PyData → Bool
  | .int a, .int b => decide (a = b)
  | .str a, .str b => decide (a = b)
  | _, _ => false
def inD (a b : PyData) : Option Bool := match b with
  | .tuple ds => if fl a && ds.all fl then some (ds.any fun z => eqF z a) else if SeqAt.shaped a && SeqAt.shaped (.tuple ds) then some (ds.any fun z => PyData.eqv z a) else none
  | .list ds => if fl a && ds.all fl then some (ds.any fun z => eqF z a) else if SeqAt.shaped a && SeqAt.shaped (.list ds) then some (ds.any fun z => PyData.eqv z a) else none
  | _ => none
def gIn : F2 := fun a b => (inD a b).bind fun x => some (.bool x)
def gNi : F2 := fun a b => (inD a b).bind fun x => some (.bool (!x))
def gIx : F2
  | .tuple ds, .int i => atI ds i
  | .list ds, .int i => atI ds i
  | .str z, .int i => (lim z.length z).bind fun z => (atI z.cps.toList i).bind fun c => some (.str ⟨#[c]⟩)
  | _, _ => none
def cutD {α : Type} (xs : List α) (lo hi : Option Int) : List α := (xs.drop (HT.sIx xs.length 0 lo)).take (HT.sIx xs.length xs.length hi - HT.sIx xs.length 0 lo)
def gSl (d : PyData) (lo hi : Option Int) : Option PyData := match d with
  | .tuple ds => some (.tuple (cutD ds lo hi))
  | .list ds => some (.list (cutD ds lo hi))
  | .str z => (lim z.length z).bind fun z => some (.str (cutS z lo hi))
  | _ => none
def gRev : F1
  | .tuple ds => some (.tuple ds.reverse)
  | _ => none
def gLen : Fn
  | [.tuple ds] => some (.int ds.length)
  | [.list ds] => some (.int ds.length)
  | [.str z] => lim z.length (.int z.length)
  | _ => none
def allB : List PyData → Option Bool
  | [] => some true
  | .bool b :: ds => (allB ds).bind fun r => some (b && r)
  | _ => none
def anyB : List PyData → Option Bool
  | [] => some false
  | .bool b :: ds => (anyB ds).bind fun r => some (b || r)
  | _ => none
def sumI : List PyData → Option Int
  | [] => some 0
  | .int i :: ds => (sumI ds).bind fun r => some (i + r)
  | _ => none
def gAll : Fn
  | [.list ds] => (allB ds).bind fun b => some (.bool b)
  | _ => none
def gAny : Fn
  | [.list ds] => (anyB ds).bind fun b => some (.bool b)
  | _ => none
def gSum : Fn
  | [.list ds] => (sumI ds).bind fun i => some (.int i)
  | [.tuple ds] => (sumI ds).bind fun i => some (.int i)
  | _ => none
def gTuple : Fn
  | [.list ds] => some (.tuple ds)
  | [.tuple ds] => some (.tuple ds)
  | _ => none
def gList : List PyData → Option (List PyData)
  | [.list ds] => some ds
  | [.tuple ds] => some ds
  | _ => none
def gMax : Fn
  | [.int i, .int j] => some (.int (if j > i then j else i))
  | _ => none
def gMin : Fn
  | [.int i, .int j] => some (.int (if j < i then j else i))
  | _ => none
def tyO : PyData → Option String
  | .int _ => some "int"
  | .str _ => some "str"
  | .tuple _ => some "tuple"
  | .bool _ => some "bool"
  | _ => none
def gIsi (n : String) : Fn
  | [d] => (tyO d).bind fun t => (kitB t n).bind fun b => some (.bool b)
  | _ => none
section
variable {K : PySem.W.Frag} {A : Atm}
theorem rd_add : RD K A (rAddX K) gAdd := fun {O H x y a b} ho hx hy c hc Q q => by
  cases a <;> cases b <;> try cases hc
  · cases hx.int_inv; cases hy.int_inv
    exact .inl ⟨_, _, rfl, rfl, q _ _ (.refl _) (.int _)⟩
  · cases hx.str_inv; cases hy.str_inv
    obtain ⟨h1, rfl⟩ := lim_some hc
    exact .inr (.inr (.inr ⟨_, _, rfl, rfl, sz100 h1, q _ _ (.refl _) (.str _)⟩))
  · obtain ⟨h1, rfl⟩ := lim_some hc
    obtain ⟨p, xs, rfl, hp, hnp, hxs⟩ := hx.lst_inv
    obtain ⟨p2, ys, rfl, hp2, hnp2, hys⟩ := hy.lst_inv
    exact .inr (.inr (.inl ⟨p, p2, xs, ys, rfl, rfl, hp, hp2, sz100 (by rw [hxs.1, hys.1]; exact h1), fun l hl => q _ _ (Cr.same_new hl) (((hxs.app hys).same (Cr.same_new hl)).lst upd_same (ho.none hl))⟩))
  · obtain ⟨h1, rfl⟩ := lim_some hc
    obtain ⟨p, xs, rfl, hp, hxs⟩ := hx.tup_inv
    obtain ⟨p2, ys, rfl, hp2, hys⟩ := hy.tup_inv
    refine .inr (.inl ⟨p, p2, xs, ys, rfl, rfl, hp, hp2, sz100 (by rw [hxs.1, hys.1]; exact h1), fun e => ?_, fun _ e => ?_, fun _ _ l hl => ?_⟩)
    · subst e
      exact q _ _ (.refl _) ((by simpa using hxs.app hys : Fds K A O H ys _).tup hp2)
    · subst e
      exact q _ _ (.refl _) ((by simpa using hxs.app hys : Fds K A O H xs _).tup hp)
    · exact q _ _ (Cr.same_new hl) (((hxs.app hys).same (Cr.same_new hl)).tup (.of upd_same))
theorem rd_sub : RD K A (rI0 fun i j => .int (i - j)) gSub := fun {O H x y a b} ho hx hy c hc Q q => by
  cases a <;> cases b <;> cases hc
  cases hx.int_inv; cases hy.int_inv
  exact ⟨_, _, rfl, rfl, q _ _ (.refl _) (.int _)⟩
theorem rd_mul : RD K A rMulX gMul := fun {O H x y a b} ho hx hy c hc Q q => by
  cases a <;> cases b <;> try cases hc
  · rename_i i j
    have hc : (if (i.natAbs < 18446744073709551616 ∨ j.natAbs < 18446744073709551616) ∨ i.natAbs.log2 + j.natAbs.log2 < 1000000 then some (PyData.int (i * j)) else none) = some c := hc
    split at hc
    · rename_i hw
      cases hc
      cases hx.int_inv; cases hy.int_inv
      rcases hw with (hw | hw) | hw
      · exact .inl ⟨_, _, rfl, rfl, .inl ⟨by omega, by omega⟩, q _ _ (.refl _) (.int _)⟩
      · exact .inl ⟨_, _, rfl, rfl, .inr ⟨by omega, by omega⟩, q _ _ (.refl _) (.int _)⟩
      · exact .inr (.inl ⟨_, _, rfl, rfl, hw, q _ _ (.refl _) (.int _)⟩)
    · cases hc
  · rename_i xs k
    have hc : (if k.toNat ≤ 10000000 ∧ -10000000 ≤ k then lim (xs.length * k.toNat) (PyData.list (List.replicate k.toNat xs).flatten) else none) = some c := hc
    split at hc
    · rename_i hk
      obtain ⟨h1, rfl⟩ := lim_some hc
      obtain ⟨p, ys, rfl, hp, hnp, hys⟩ := hx.lst_inv
      cases hy.int_inv
      have hr : ∀ (n : Nat) H', Same H H' → Fds K A O H' (List.replicate n ys).flatten (List.replicate n xs).flatten := fun n H' s => by
        induction n with
        | zero => exact .nil
        | succ n ih =>
          rw [List.replicate_succ, List.replicate_succ, List.flatten_cons, List.flatten_cons]
          exact (hys.same s).app ih
      refine .inr (.inr ⟨p, k, ys, rfl, rfl, hp, by omega, by omega, sz100 (by rw [hys.1]; exact h1), fun l hl => q _ _ (Cr.same_new hl) ((hr _ _ (Cr.same_new hl)).lst upd_same (ho.none hl))⟩)
    · cases hc
theorem rd_mod : RD K A (rI (fun _ j => 0 < j) fun i j => .int (i % j)) gMod := fun {O H x y a b} ho hx hy c hc Q q => by
  cases a <;> cases b <;> try cases hc
  rename_i i j
  have hc : (if 0 < j then some (PyData.int (i % j)) else none) = some c := hc
  split at hc
  · cases hc
    cases hx.int_inv; cases hy.int_inv
    exact ⟨_, _, rfl, rfl, by assumption, q _ _ (.refl _) (.int _)⟩
  · cases hc
theorem rd_div : RD K A (rI CDivW fun i j => .int (i / j)) gDiv := fun {O H x y a b} ho hx hy c hc Q q => by
  cases a <;> cases b <;> try cases hc
  rename_i i j
  have hc : (if 0 < j ∧ j.natAbs.log2 < 9000 then some (PyData.int (i / j)) else none) = some c := hc
  split at hc
  · rename_i hw
    cases hc
    cases hx.int_inv; cases hy.int_inv
    exact ⟨_, _, rfl, rfl, hw, q _ _ (.refl _) (.int _)⟩
  · cases hc
theorem ru_neg1 : RU1 K A (rU fun i => .int (-i)) gNeg := fun {O H x a} ho hx c hc Q q => by
  cases a <;> cases hc
  cases hx.int_inv
  exact ⟨_, rfl, q _ _ (.refl _) (.int _)⟩
theorem eqD_cases {O : Addr → Prop} {H : Hp} {x y : V} {a b : PyData} {r : Bool} (hx : Fd K A O H x a) (hy : Fd K A O H y b) (h : eqD a b = some r) : (scal x y = true ∧ r = decide (x = y)) ∨ (Dp K H x a ∧ Dp K H y b ∧ SeqAt.shaped a = true ∧ SeqAt.shaped b = true ∧ r = PyData.eqv a b) := by
  unfold eqD at h
  split at h
  · cases h; cases hx.int_inv; cases hy.int_inv
    exact .inl ⟨rfl, decide_eq_decide.mpr ⟨fun e => by rw [e], fun e => V.int.inj e⟩⟩
  · cases h; cases hx.str_inv; cases hy.str_inv
    exact .inl ⟨rfl, decide_eq_decide.mpr ⟨fun e => by rw [e], fun e => V.str.inj e⟩⟩
  · cases h; cases hx.int_inv; cases hy.str_inv
    exact .inl ⟨rfl, (decide_eq_false fun e => nomatch e).symm⟩
  · cases h; cases hx.str_inv; cases hy.int_inv
    exact .inl ⟨rfl, (decide_eq_false fun e => nomatch e).symm⟩
  · split at h
    · rename_i hs
      cases h
      obtain ⟨s1, s2⟩ := Bool.and_eq_true_iff.mp hs
      exact .inr ⟨hx.dps s1, hy.dps s2, s1, s2, rfl⟩
    · cases h
theorem rd_eq : RD K A (rEqX K) gEq := fun {O H x y a b} ho hx hy c hc Q q => by
  obtain ⟨r, h1, h2⟩ := bind_some' hc
  cases h2
  rcases eqD_cases hx hy h1 with ⟨s, rfl⟩ | ⟨d1, d2, s1, s2, rfl⟩
  · exact .inl ⟨s, q _ _ (.refl _) (.bl _)⟩
  · exact .inr ⟨a, b, d1, d2, s1, s2, q _ _ (.refl _) (.bl _)⟩
theorem rd_ne : RD K A (rNeX K) gNe := fun {O H x y a b} ho hx hy c hc Q q => by
  obtain ⟨r, h1, h2⟩ := bind_some' hc
  cases h2
  rcases eqD_cases hx hy h1 with ⟨s, rfl⟩ | ⟨d1, d2, s1, s2, rfl⟩
  · exact .inl ⟨s, q _ _ (.refl _) (.bl _)⟩
  · exact .inr ⟨a, b, d1, d2, s1, s2, q _ _ (.refl _) (.bl _)⟩
theorem rd_lt : RD K A (rI0 fun i j => .bl (decide (i < j))) gLt := fun {O H x y a b} ho hx hy c hc Q q => by
  cases a <;> cases b <;> cases hc
  cases hx.int_inv; cases hy.int_inv
  exact ⟨_, _, rfl, rfl, q _ _ (.refl _) (.bl _)⟩
theorem rd_le : RD K A rLeX gLe := fun {O H x y a b} ho hx hy c hc Q q => by
  cases a <;> cases b <;> cases hc
  · cases hx.int_inv; cases hy.int_inv
    exact .inl ⟨_, _, rfl, rfl, q _ _ (.refl _) (.bl _)⟩
  · cases hx.str_inv; cases hy.str_inv
    exact .inr ⟨_, _, rfl, rfl, q _ _ (.refl _) (.bl _)⟩
theorem rd_gt : RD K A (rI0 fun i j => .bl (decide (j < i))) gGt := fun {O H x y a b} ho hx hy c hc Q q => by
  cases a <;> cases b <;> cases hc
  cases hx.int_inv; cases hy.int_inv
  exact ⟨_, _, rfl, rfl, q _ _ (.refl _) (.bl _)⟩
theorem rd_ge : RD K A (rI0 fun i j => .bl (decide (j ≤ i))) gGe := fun {O H x y a b} ho hx hy c hc Q q => by
  cases a <;> cases b <;> cases hc
  cases hx.int_inv; cases hy.int_inv
  exact ⟨_, _, rfl, rfl, q _ _ (.refl _) (.bl _)⟩
theorem rd_isN : RD K A (fun x y H Q => y = .non ∧ Q (.bl (decide (x = .non))) H) gIsN := fun {O H x y a b} ho hx hy c hc Q q => by
  cases b <;> try (cases a <;> cases hc; done)
  refine ⟨hy.non_inv, ?_⟩
  cases hx <;> (have hc := Option.some.inj hc; subst hc; exact q _ _ (.refl _) (.bl _))
theorem rd_notN : RD K A (fun x y H Q => y = .non ∧ Q (.bl (!decide (x = .non))) H) gNotN := fun {O H x y a b} ho hx hy c hc Q q => by
  cases b <;> try (cases a <;> cases hc; done)
  refine ⟨hy.non_inv, ?_⟩
  cases hx <;> (have hc := Option.some.inj hc; subst hc; exact q _ _ (.refl _) (.bl _))
theorem fl_v {O : Addr → Prop} {H : Hp} {x : V} {a : PyData} (h : Fd K A O H x a) (hf : fl a = true) : flatV x = true := by
  cases h <;> first | rfl | cases hf
theorem eqF_v {O : Addr → Prop} {H : Hp} {x y : V} {a b : PyData} (hx : Fd K A O H x a) (hy : Fd K A O H y b) (ha : fl a = true) (hb : fl b = true) : eqV x y = eqF a b := by
  cases hx <;> cases ha <;> cases hy <;> cases hb <;> first | rfl | (simp only [eqV, eqF]; rw [Bool.eq_iff_iff]; simp)
theorem fl_all {O : Addr → Prop} {H : Hp} : ∀ {ds : List PyData} {xs : List V}, Fds K A O H xs ds → ds.all fl = true → xs.all flatV = true
  | [], xs, h, _ => by rw [h.nil_inv]; rfl
  | d :: ds, xs, h, hf => by
    obtain ⟨v, ws, rfl, h1, h2⟩ := h.head
    obtain ⟨f1, f2⟩ := Bool.and_eq_true_iff.mp hf
    show (flatV v && ws.all flatV) = true
    rw [fl_v h1 f1, fl_all h2 f2]
    rfl
theorem in_v {O : Addr → Prop} {H : Hp} {x : V} {a : PyData} (hx : Fd K A O H x a) (hf : fl a = true) : ∀ {ds : List PyData} {xs : List V}, Fds K A O H xs ds → ds.all fl = true → inV x xs = ds.any fun z => eqF z a
  | [], xs, h, _ => by rw [h.nil_inv]; rfl
  | d :: ds, xs, h, hd => by
    obtain ⟨v, ws, rfl, h1, h2⟩ := h.head
    obtain ⟨f1, f2⟩ := Bool.and_eq_true_iff.mp hd
    show (eqV v x || inV x ws) = (eqF d a || ds.any fun z => eqF z a)
    rw [eqF_v h1 hx f1 hf, in_v hx hf h2 f2]
theorem inD_cases {O : Addr → Prop} {H : Hp} {x y : V} {a b : PyData} {r : Bool} (hx : Fd K A O H x a) (hy : Fd K A O H y b) (h : inD a b = some r) :
    (∃ p xs, y = .ref p ∧ (SqL K H p xs ∨ SqT K H p xs) ∧ flatV x = true ∧ xs.all flatV = true ∧ r = inV x xs) ∨ (∃ ds, b = .tuple ds ∧ Dp K H x a ∧ Dp K H y (.tuple ds) ∧ SeqAt.shaped a = true ∧ SeqAt.shaped (.tuple ds) = true ∧ r = ds.any fun z => PyData.eqv z a) ∨
    (∃ ds, b = .list ds ∧ Dp K H x a ∧ Dp K H y (.list ds) ∧ SeqAt.shaped a = true ∧ SeqAt.shaped (.list ds) = true ∧ r = ds.any fun z => PyData.eqv z a) := by
  unfold inD at h
  split at h
  · rename_i ds
    obtain ⟨p, xs, rfl, hp, hxs⟩ := hy.tup_inv
    split at h
    · rename_i hf
      obtain ⟨f1, f2⟩ := Bool.and_eq_true_iff.mp hf
      cases h
      exact .inl ⟨p, xs, rfl, .inr hp, fl_v hx f1, fl_all hxs f2, (in_v hx f1 hxs f2).symm⟩
    · split at h
      · rename_i hs
        obtain ⟨s1, s2⟩ := Bool.and_eq_true_iff.mp hs
        cases h
        exact .inr (.inl ⟨ds, rfl, hx.dps s1, hy.dps s2, s1, s2, rfl⟩)
      · cases h
  · rename_i ds
    obtain ⟨p, xs, rfl, hp, hnp, hxs⟩ := hy.lst_inv
    split at h
    · rename_i hf
      obtain ⟨f1, f2⟩ := Bool.and_eq_true_iff.mp hf
      cases h
      exact .inl ⟨p, xs, rfl, .inl (sq_of hp), fl_v hx f1, fl_all hxs f2, (in_v hx f1 hxs f2).symm⟩
    · split at h
      · rename_i hs
        obtain ⟨s1, s2⟩ := Bool.and_eq_true_iff.mp hs
        cases h
        exact .inr (.inr ⟨ds, rfl, hx.dps s1, hy.dps s2, s1, s2, rfl⟩)
      · cases h
  · cases h
theorem rd_in : RD K A (rInX K) gIn := fun {O H x y a b} ho hx hy c hc Q q => by
  obtain ⟨r, h1, h2⟩ := bind_some' hc
  cases h2
  rcases inD_cases hx hy h1 with ⟨p, xs, rfl, hs, f1, f2, rfl⟩ | ⟨ds, rfl, d1, d2, s1, s2, rfl⟩ | ⟨ds, rfl, d1, d2, s1, s2, rfl⟩
  · exact .inl ⟨p, xs, rfl, hs, f1, f2, q _ _ (.refl _) (.bl _)⟩
  · exact .inr (.inl ⟨a, ds, d1, d2, s1, s2, q _ _ (.refl _) (.bl _)⟩)
  · exact .inr (.inr ⟨a, ds, d1, d2, s1, s2, q _ _ (.refl _) (.bl _)⟩)
theorem rd_ni : RD K A (rNiX K) gNi := fun {O H x y a b} ho hx hy c hc Q q => by
  obtain ⟨r, h1, h2⟩ := bind_some' hc
  cases h2
  rcases inD_cases hx hy h1 with ⟨p, xs, rfl, hs, f1, f2, rfl⟩ | ⟨ds, rfl, d1, d2, s1, s2, rfl⟩ | ⟨ds, rfl, d1, d2, s1, s2, rfl⟩
  · exact .inl ⟨p, xs, rfl, hs, f1, f2, q _ _ (.refl _) (.bl _)⟩
  · exact .inr (.inl ⟨a, ds, d1, d2, s1, s2, q _ _ (.refl _) (.bl _)⟩)
  · exact .inr (.inr ⟨a, ds, d1, d2, s1, s2, q _ _ (.refl _) (.bl _)⟩)
theorem atI_get {O : Addr → Prop} {H : Hp} {xs : List V} {ds : List PyData} {i : Int} {c : PyData} (h : Fds K A O H xs ds) (hc : atI ds i = some c) : ∃ v, atI xs i = some v ∧ Fd K A O H v c := by
  unfold atI at hc ⊢
  rw [h.1]
  obtain ⟨j, h1, h2⟩ := Option.bind_eq_some_iff.mp hc
  obtain ⟨v, h3, h4⟩ := h.get h2
  exact ⟨v, by rw [h1]; exact h3, h4⟩
theorem rd_ix : RD K A (rIx K) gIx := fun {O H x y a b} ho hx hy c hc Q q => by
  cases a <;> cases b <;> try cases hc
  · rename_i z i
    cases hx.str_inv; cases hy.int_inv
    obtain ⟨z', h1, h2⟩ := bind_some' (show ((lim z.length z).bind fun z => (atI z.cps.toList i).bind fun c => some (PyData.str ⟨#[c]⟩)) = some c from hc)
    obtain ⟨h3, rfl⟩ := lim_some h1
    obtain ⟨cc, h4, h5⟩ := bind_some' h2
    cases h5
    exact .inr (.inr ⟨z, i, cc, rfl, rfl, sz100 h3, h4, q _ _ (.refl _) (.str _)⟩)
  · cases hy.int_inv
    obtain ⟨p, xs, rfl, hp, hnp, hxs⟩ := hx.lst_inv
    obtain ⟨v, h1, h2⟩ := atI_get hxs hc
    exact .inl ⟨p, xs, _, v, rfl, rfl, sq_of hp, h1, q _ _ (.refl _) h2⟩
  · cases hy.int_inv
    obtain ⟨p, xs, rfl, hp, hxs⟩ := hx.tup_inv
    obtain ⟨v, h1, h2⟩ := atI_get hxs hc
    exact .inr (.inl ⟨p, xs, _, v, rfl, rfl, hp, h1, q _ _ (.refl _) h2⟩)
theorem fds_cut {O : Addr → Prop} {H : Hp} {xs : List V} {ds : List PyData} (h : Fds K A O H xs ds) (lo hi : Option Int) : Fds K A O H (cutV xs lo hi) (cutD ds lo hi) := by
  unfold cutV cutD
  rw [h.1]
  exact (h.drop _).take _
theorem rs_sl : RS K A (rSlX K) gSl := fun {O H x a} ho hx lo hi c hc Q q => by
  cases a <;> try cases hc
  · rename_i z
    cases hx.str_inv
    obtain ⟨z', h1, h2⟩ := bind_some' (show ((lim z.length z).bind fun z => some (PyData.str (cutS z lo hi))) = some c from hc)
    obtain ⟨h3, rfl⟩ := lim_some h1
    cases h2
    exact .inr (.inr ⟨z, rfl, sz100 h3, q _ _ (.refl _) (.str _)⟩)
  · obtain ⟨p, xs, rfl, hp, hnp, hxs⟩ := hx.lst_inv
    exact .inr (.inl ⟨p, xs, rfl, sq_of hp, fun l hl => q _ _ (Cr.same_new hl) (((fds_cut hxs lo hi).same (Cr.same_new hl)).lst upd_same (ho.none hl))⟩)
  · obtain ⟨p, xs, rfl, hp, hxs⟩ := hx.tup_inv
    refine .inl ⟨p, xs, rfl, hp, fun hw => ?_, fun hw l hl => q _ _ (Cr.same_new hl) (((fds_cut hxs lo hi).same (Cr.same_new hl)).tup (.of upd_same))⟩
    have e : cutV xs lo hi = xs := by
      unfold cutV
      rw [hw.1, hw.2]
      show List.take (xs.length - 0) xs = xs
      exact List.take_of_length_le (by omega)
    have := fds_cut hxs lo hi
    rw [e] at this
    exact q _ _ (.refl _) (this.tup hp)
theorem se_rev {te : TE} {fe : FE} (h : SE K A te fe) : SE K A (tRevT K te) (fUn gRev fe) := fun R d hd Q q => by
  obtain ⟨a, h1, h2⟩ := bind_some' hd
  cases a <;> cases h2
  refine h R _ h1 _ fun v H1 e1 hv => ?_
  obtain ⟨p, xs, rfl, hp, hxs⟩ := hv.tup_inv
  exact ⟨p, xs, rfl, hp, fun l hl => q _ _ (e1.trans (Cr.same_new hl)) ((hxs.reverse.same (Cr.same_new hl)).tup (.of upd_same))⟩
theorem one_inv {O : Addr → Prop} {H : Hp} {xs : List V} {d : PyData} (h : Fds K A O H xs [d]) : ∃ v, xs = [v] ∧ Fd K A O H v d := by
  obtain ⟨v, ws, rfl, h1, h2⟩ := h.head
  rw [h2.nil_inv]
  exact ⟨v, rfl, h1⟩
theorem rc_len : RDs K A (rLenX K) gLen := fun {O H xs ds} ho hx c hc Q q => by
  unfold gLen at hc
  split at hc
  · cases hc
    obtain ⟨v, rfl, hv⟩ := one_inv hx
    obtain ⟨p, ys, rfl, hp, hys⟩ := hv.tup_inv
    exact ⟨_, _, rfl, .inr ⟨ys, hp, hys.1.symm⟩, q _ _ (.refl _) (.int _)⟩
  · cases hc
    obtain ⟨v, rfl, hv⟩ := one_inv hx
    obtain ⟨p, ys, rfl, hp, hnp, hys⟩ := hv.lst_inv
    exact ⟨_, _, rfl, .inl ⟨ys, sq_of hp, hys.1.symm⟩, q _ _ (.refl _) (.int _)⟩
  · obtain ⟨h1, rfl⟩ := lim_some hc
    obtain ⟨v, rfl, hv⟩ := one_inv hx
    cases hv.str_inv
    exact ⟨_, _, rfl, ⟨sz100 h1, rfl⟩, q _ _ (.refl _) (.int _)⟩
  · cases hc
theorem allB_v {O : Addr → Prop} {H : Hp} : ∀ {ds : List PyData} {xs : List V} {b : Bool}, Fds K A O H xs ds → allB ds = some b → ∃ bs : List Bool, xs = bs.map V.bl ∧ bs.all id = b
  | [], xs, b, h, hb => by cases hb; exact ⟨[], by rw [h.nil_inv]; rfl, rfl⟩
  | d :: ds, xs, b, h, hb => by
    cases d <;> try cases hb
    obtain ⟨r, h1, h2⟩ := bind_some' hb
    cases h2
    obtain ⟨v, ws, rfl, h3, h4⟩ := h.head
    obtain ⟨bs, rfl, h5⟩ := allB_v h4 h1
    cases h3.bl_inv
    exact ⟨_ :: bs, rfl, by rw [List.all_cons, h5]; rfl⟩
theorem anyB_v {O : Addr → Prop} {H : Hp} : ∀ {ds : List PyData} {xs : List V} {b : Bool}, Fds K A O H xs ds → anyB ds = some b → ∃ bs : List Bool, xs = bs.map V.bl ∧ bs.any id = b
  | [], xs, b, h, hb => by cases hb; exact ⟨[], by rw [h.nil_inv]; rfl, rfl⟩
  | d :: ds, xs, b, h, hb => by
    cases d <;> try cases hb
    obtain ⟨r, h1, h2⟩ := bind_some' hb
    cases h2
    obtain ⟨v, ws, rfl, h3, h4⟩ := h.head
    obtain ⟨bs, rfl, h5⟩ := anyB_v h4 h1
    cases h3.bl_inv
    exact ⟨_ :: bs, rfl, by rw [List.any_cons, h5]; rfl⟩
theorem sumI_v {O : Addr → Prop} {H : Hp} : ∀ {ds : List PyData} {xs : List V} {b : Int}, Fds K A O H xs ds → sumI ds = some b → ∃ bs : List Int, xs = bs.map V.int ∧ bs.sum = b
  | [], xs, b, h, hb => by cases hb; exact ⟨[], by rw [h.nil_inv]; rfl, rfl⟩
  | d :: ds, xs, b, h, hb => by
    cases d <;> try cases hb
    obtain ⟨r, h1, h2⟩ := bind_some' hb
    cases h2
    obtain ⟨v, ws, rfl, h3, h4⟩ := h.head
    obtain ⟨bs, rfl, h5⟩ := sumI_v h4 h1
    cases h3.int_inv
    exact ⟨_ :: bs, rfl, by rw [List.sum_cons, h5]⟩
theorem rc_all : RDs K A (rAll K) gAll := fun {O H xs ds} ho hx c hc Q q => by
  unfold gAll at hc
  split at hc
  · obtain ⟨b, h1, h2⟩ := bind_some' hc
    cases h2
    obtain ⟨v, rfl, hv⟩ := one_inv hx
    obtain ⟨p, ys, rfl, hp, hnp, hys⟩ := hv.lst_inv
    obtain ⟨bs, rfl, rfl⟩ := allB_v hys h1
    exact ⟨p, bs, rfl, sq_of hp, q _ _ (.refl _) (.bl _)⟩
  · cases hc
theorem rc_any : RDs K A (rAny K) gAny := fun {O H xs ds} ho hx c hc Q q => by
  unfold gAny at hc
  split at hc
  · obtain ⟨b, h1, h2⟩ := bind_some' hc
    cases h2
    obtain ⟨v, rfl, hv⟩ := one_inv hx
    obtain ⟨p, ys, rfl, hp, hnp, hys⟩ := hv.lst_inv
    obtain ⟨bs, rfl, rfl⟩ := anyB_v hys h1
    exact ⟨p, bs, rfl, sq_of hp, q _ _ (.refl _) (.bl _)⟩
  · cases hc
theorem rc_sum : RDs K A (rSumX K) gSum := fun {O H xs ds} ho hx c hc Q q => by
  unfold gSum at hc
  split at hc
  · obtain ⟨b, h1, h2⟩ := bind_some' hc
    cases h2
    obtain ⟨v, rfl, hv⟩ := one_inv hx
    obtain ⟨p, ys, rfl, hp, hnp, hys⟩ := hv.lst_inv
    obtain ⟨bs, rfl, rfl⟩ := sumI_v hys h1
    exact .inl ⟨p, bs, rfl, sq_of hp, q _ _ (.refl _) (.int _)⟩
  · obtain ⟨b, h1, h2⟩ := bind_some' hc
    cases h2
    obtain ⟨v, rfl, hv⟩ := one_inv hx
    obtain ⟨p, ys, rfl, hp, hys⟩ := hv.tup_inv
    obtain ⟨bs, rfl, rfl⟩ := sumI_v hys h1
    exact .inr ⟨p, bs, rfl, hp, q _ _ (.refl _) (.int _)⟩
  · cases hc
theorem rc_tuple : RDs K A (rTupO K) gTuple := fun {O H xs ds} ho hx c hc Q q => by
  unfold gTuple at hc
  split at hc
  · cases hc
    obtain ⟨v, rfl, hv⟩ := one_inv hx
    obtain ⟨p, ys, rfl, hp, hnp, hys⟩ := hv.lst_inv
    exact ⟨p, ys, rfl, .inl ⟨sq_of hp, fun l hl => q _ _ (Cr.same_new hl) ((hys.same (Cr.same_new hl)).tup (.of upd_same))⟩⟩
  · cases hc
    obtain ⟨v, rfl, hv⟩ := one_inv hx
    obtain ⟨p, ys, rfl, hp, hys⟩ := hv.tup_inv
    exact ⟨p, ys, rfl, .inr ⟨hp, q _ _ (.refl _) (hys.tup hp)⟩⟩
  · cases hc
theorem rc_list : RDsL K A (rLstO K) gList := fun {O H xs ds} ho hx es hc Q q => by
  unfold gList at hc
  split at hc
  · cases hc
    obtain ⟨v, rfl, hv⟩ := one_inv hx
    obtain ⟨p, ys, rfl, hp, hnp, hys⟩ := hv.lst_inv
    exact ⟨p, ys, rfl, .inl (sq_of hp), fun l hl => q l ys _ hl (Cr.same_new hl) upd_same ((hys.more hl).same (Cr.same_new hl))⟩
  · cases hc
    obtain ⟨v, rfl, hv⟩ := one_inv hx
    obtain ⟨p, ys, rfl, hp, hys⟩ := hv.tup_inv
    exact ⟨p, ys, rfl, .inr hp, fun l hl => q l ys _ hl (Cr.same_new hl) upd_same ((hys.more hl).same (Cr.same_new hl))⟩
  · cases hc
theorem rc_max : RDs K A rMax2 gMax := fun {O H xs ds} ho hx c hc Q q => by
  unfold gMax at hc
  split at hc
  · cases hc
    obtain ⟨v, ws, rfl, h1, h2⟩ := hx.head
    obtain ⟨u, rfl, h3⟩ := one_inv h2
    cases h1.int_inv; cases h3.int_inv
    exact ⟨_, _, rfl, q _ _ (.refl _) (.int _)⟩
  · cases hc
/-- len of a slot, own or not -/
def fLenV (i : Nat) : FE := fun ρ => match ρ[i]? with
  | some (.val d) => gLen [d]
  | some (.own ds) => some (.int ds.length)
  | _ => none
theorem se_lenV (i : Nat) : SE K A (tCB (rLenX K) (tCons (tVar i) tNil)) (fLenV i) := fun {H0 O0 O σ H ρ} R d hd Q q => by
  unfold fLenV at hd
  split at hd
  · rename_i d' hi
    obtain ⟨v, h1, h2⟩ := R.val i d' hi
    exact ⟨v, h1, rc_len R.owl (.cons h2 .nil) d hd Q q⟩
  · rename_i ds hi
    cases hd
    obtain ⟨p, xs, s1, s2, s3, s4, s5⟩ := R.own i ds hi
    exact ⟨_, s1, _, _, rfl, .inl ⟨xs, sq_of s4, s5.1.symm⟩, q _ _ (.refl _) (.int _)⟩
  · cases hd
/-- isinstance of data and a built-in class -/
theorem se_isi {te : TE} {fe : FE} {n : String} (h : SE K A te fe) : SE K A (tCB (rIsi K) (tCons te (tCons (tC (.ty n)) tNil))) (fCall (gIsi n) (fCons fe fNil)) := fun {H0 O0 O σ H ρ} R d hd Q q => by
  obtain ⟨ds, h1, h2⟩ := bind_some' hd
  obtain ⟨a, h3, h4⟩ := bind_some' h1
  cases h4
  obtain ⟨t, h5, h6⟩ := bind_some' (show ((tyO a).bind fun t => (kitB t n).bind fun b => some (PyData.bool b)) = some d from h2)
  obtain ⟨c, h7, h8⟩ := bind_some' h6
  cases h8
  refine h R a h3 _ fun v H1 e1 hv => ?_
  have ht : TyX K H1 v (.type t) := by
    cases hv with
    | int i => cases h5; exact .base (.int i)
    | str i => cases h5; exact .base (.str i)
    | bl i => cases h5; exact .base (.bl i)
    | tup hs _ _ =>
      cases h5
      rcases hs with (hs | ⟨o, hs⟩) | ⟨o, its, n, hk, hc, _⟩
      · exact .base (.tup hs)
      · exact .fTuple hs
      · exact .kTuple hk hc
    | non => cases h5
    | lst => cases h5
    | fn => cases h5
  exact ⟨v, .ty n, _, _, c, rfl, .ty n, ht, kit_ty h7, q _ _ e1 (.bl _)⟩
end
/-! ### walks -/
def fSeqI (fe : FE) : FA := fun ρ => (fe ρ).bind fun d => match d with
  | .list ds => some ds
  | .tuple ds => some ds
  | .str z => some (z.cps.toList.map fun c => .str ⟨#[c]⟩)
  | _ => none
def rngD (lo : Int) (n : Nat) : List PyData := (List.range n).map fun (i : Nat) => PyData.int (lo + (i : Int))
def fRng1 (fa : FA) : FA := fun ρ => (fa ρ).bind fun ds => match ds with
  | [.int n] => if -10000000 ≤ n ∧ n ≤ 10000000 then some (rngD 0 n.toNat) else none
  | _ => none
def fRng2 (fa : FA) : FA := fun ρ => (fa ρ).bind fun ds => match ds with
  | [.int a, .int b] => if (-10000000 ≤ a ∧ a ≤ 10000000) ∧ (-10000000 ≤ b ∧ b ≤ 10000000) then some (rngD a (b - a).toNat) else none
  | _ => none
def enuD : Nat → List PyData → List PyData
  | _, [] => []
  | i, d :: ds => .tuple [.int i, d] :: enuD (i + 1) ds
def fEnu (fa : FA) : FA := fun ρ => (fa ρ).bind fun ds => match ds with
  | [.list ds] => some (enuD 0 ds)
  | [.tuple ds] => some (enuD 0 ds)
  | _ => none
def zipD : List PyData → List PyData → List PyData
  | d :: ds, e :: es => .tuple [d, e] :: zipD ds es
  | _, _ => []
def fZip (fa : FA) : FA := fun ρ => (fa ρ).bind fun ds => match ds with
  | [.list ds, .list es] => some (zipD ds es)
  | [.tuple ds, .tuple es] => some (zipD ds es)
  | _ => none
section
variable {K : PySem.W.Frag} {A : Atm} {te : TE} {fe : FE} {ta : TA} {fa : FA}
theorem wk_list {O : Addr → Prop} {H : Hp} {p : Addr} {xs : List V} {ds : List PyData} (hp : H p = some (.lst xs)) (hn : ¬ O p) (h : Fds K A O H xs ds) (ho : Owl O H) : Wk K A O H (Itl K p) ds := by
  refine ⟨_, _, h.1 ▸ walk_list (xs := xs), fun O' H' ho' ev => ⟨sq_of (ev _ _ hp hn).1, fun i x H2 hi hy => ?_⟩⟩
  obtain ⟨rfl, hx⟩ := hy
  obtain ⟨d, hd, hv⟩ := h.get' hx
  exact ⟨.refl _, d, hd, hv.evo ho ev⟩
theorem wk_tup {O : Addr → Prop} {H : Hp} {p : Addr} {xs : List V} {ds : List PyData} (hp : SqT K H p xs) (h : Fds K A O H xs ds) (ho : Owl O H) : Wk K A O H (Itt K p) ds := by
  refine ⟨_, _, h.1 ▸ walk_tup (xs := xs), fun O' H' ho' ev => ⟨sqT_evo ho ev hp, fun i x H2 hi hy => ?_⟩⟩
  obtain ⟨rfl, hx⟩ := hy
  obtain ⟨d, hd, hv⟩ := h.get' hx
  exact ⟨.refl _, d, hd, hv.evo ho ev⟩
theorem si_seq (h : SE K A te fe) : SI K A (iSeq K te) (fSeqI fe) := fun R ds hds Rr q => by
  obtain ⟨d, h1, h2⟩ := bind_some' hds
  cases d <;> try cases h2
  · refine .inr (.inr (h R _ h1 _ fun v H1 e1 hv => ⟨_, hv.str_inv, q _ _ e1 ?_⟩))
    rename_i z
    refine ⟨_, _, by rw [List.length_map, Array.length_toList]; exact walk_str (z := z), fun O' H' ho' ev => ⟨trivial, fun i x H2 hi hy => ?_⟩⟩
    obtain ⟨rfl, c, hc, rfl⟩ := hy
    exact ⟨.refl _, .str ⟨#[c]⟩, by rw [List.getElem?_map, Array.getElem?_toList, hc]; rfl, .str _⟩
  · refine .inl (h R _ h1 _ fun v H1 e1 hv => ?_)
    obtain ⟨p, xs, rfl, hp, hnp, hxs⟩ := hv.lst_inv
    exact ⟨p, rfl, ⟨xs, sq_of hp⟩, q _ _ e1 (wk_list hp hnp hxs (R.owl.same e1))⟩
  · refine .inr (.inl (h R _ h1 _ fun v H1 e1 hv => ?_))
    obtain ⟨p, xs, rfl, hp, hxs⟩ := hv.tup_inv
    exact ⟨p, rfl, ⟨xs, hp⟩, q _ _ e1 (wk_tup hp hxs (R.owl.same e1))⟩
theorem wk_rng {O : Addr → Prop} {H : Hp} (lo : Int) (n : Nat) : Wk K A O H (Itr lo n) (rngD lo n) := by
  refine ⟨_, _, by unfold rngD; rw [List.length_map, List.length_range]; exact walk_range (lo := lo) (n := n), fun O' H' ho' ev => ⟨trivial, fun i x H2 hi hy => ?_⟩⟩
  obtain ⟨rfl, rfl⟩ := hy
  unfold rngD at hi ⊢
  rw [List.length_map, List.length_range] at hi
  exact ⟨.refl _, .int (lo + i), by rw [List.getElem?_map, List.getElem?_range hi]; rfl, .int _⟩
theorem si_rng1 (h : SA K A ta fa) : SI K A (iRng1 ta) (fRng1 fa) := fun R ds hds Rr q => by
  obtain ⟨es, h1, h2⟩ := bind_some' hds
  split at h2
  · rename_i n
    split at h2
    · cases h2
      refine h R _ h1 _ fun vs H1 e1 hvs => ?_
      obtain ⟨v, rfl, hv⟩ := one_inv hvs
      cases hv.int_inv
      exact ⟨n, rfl, by omega, by omega, q _ _ e1 (wk_rng 0 n.toNat)⟩
    · cases h2
  · cases h2
theorem si_rng2 (h : SA K A ta fa) : SI K A (iRng2 ta) (fRng2 fa) := fun R ds hds Rr q => by
  obtain ⟨es, h1, h2⟩ := bind_some' hds
  split at h2
  · rename_i a b
    split at h2
    · cases h2
      refine h R _ h1 _ fun vs H1 e1 hvs => ?_
      obtain ⟨v, ws, rfl, hv, hws⟩ := hvs.head
      obtain ⟨u, rfl, hu⟩ := one_inv hws
      cases hv.int_inv; cases hu.int_inv
      exact ⟨a, b, rfl, ⟨by omega, by omega, by omega, by omega⟩, q _ _ e1 (wk_rng a (b - a).toNat)⟩
    · cases h2
  · cases h2
theorem enu_get : ∀ (k : Nat) (ds : List PyData) (i : Nat) (d : PyData), ds[i]? = some d → (enuD k ds)[i]? = some (.tuple [.int ((k + i : Nat) : Int), d])
  | _, [], i, d, h => by simp at h
  | k, e :: ds, 0, d, h => by cases h; rfl
  | k, e :: ds, i + 1, d, h => by
    show (enuD (k + 1) ds)[i]? = _
    rw [enu_get (k + 1) ds i d (by simpa using h), show k + 1 + i = k + (i + 1) by omega]
theorem enu_len : ∀ (k : Nat) (ds : List PyData), (enuD k ds).length = ds.length
  | _, [] => rfl
  | k, d :: ds => by show (enuD (k + 1) ds).length + 1 = _; rw [enu_len]; rfl
theorem zip_get : ∀ (ds es : List PyData) (i : Nat) (d e : PyData), ds[i]? = some d → es[i]? = some e → (zipD ds es)[i]? = some (.tuple [d, e])
  | [], _, i, d, e, h, _ => by simp at h
  | _ :: _, [], i, d, e, _, h => by simp at h
  | a :: ds, b :: es, 0, d, e, h, h' => by cases h; cases h'; rfl
  | a :: ds, b :: es, i + 1, d, e, h, h' => by
    show (zipD ds es)[i]? = _
    exact zip_get ds es i d e (by simpa using h) (by simpa using h')
theorem zip_len : ∀ (ds es : List PyData), (zipD ds es).length = min ds.length es.length
  | [], es => by simp [zipD]
  | _ :: _, [] => by simp [zipD]
  | a :: ds, b :: es => by show (zipD ds es).length + 1 = _; rw [zip_len]; simp
theorem si_enu (h : SA K A ta fa) : SI K A (iEnu K ta) (fEnu fa) := fun {H0 O0 O σ H ρ} R ds hds Rr q => by
  obtain ⟨es, h1, h2⟩ := bind_some' hds
  split at h2
  · rename_i ds'
    cases h2
    refine .inl (h R _ h1 _ fun vs H1 e1 hvs => ?_)
    obtain ⟨v, rfl, hv⟩ := one_inv hvs
    obtain ⟨p, xs, rfl, hp, hnp, hxs⟩ := hv.lst_inv
    refine ⟨p, xs, rfl, sq_of hp, q _ _ e1 ⟨_, _, by rw [enu_len, ← hxs.1]; exact walk_enum (xs := xs), fun O' H' ho' ev => ⟨sq_of (ev _ _ hp hnp).1, fun i x H2 hi hy => ?_⟩⟩⟩
    obtain ⟨T, a, b, rfl, hT, rfl, f1, f2⟩ := hy
    cases f1
    obtain ⟨d, hd, hb⟩ := hxs.get' f2
    refine ⟨Cr.same_new hT, _, by rw [enu_get 0 ds' i d hd, Nat.zero_add], ?_⟩
    exact (Fds.cons (.int _) (.cons ((hb.evo (R.owl.same e1) ev).same (Cr.same_new hT)) .nil)).tup (.of upd_same)
  · rename_i ds'
    cases h2
    refine .inr (h R _ h1 _ fun vs H1 e1 hvs => ?_)
    obtain ⟨v, rfl, hv⟩ := one_inv hvs
    obtain ⟨p, xs, rfl, hp, hxs⟩ := hv.tup_inv
    refine ⟨p, xs, rfl, hp, q _ _ e1 ⟨_, _, by rw [enu_len, ← hxs.1]; exact walk_enumT (xs := xs), fun O' H' ho' ev => ⟨sqT_evo (R.owl.same e1) ev hp, fun i x H2 hi hy => ?_⟩⟩⟩
    obtain ⟨T, a, b, rfl, hT, rfl, f1, f2⟩ := hy
    cases f1
    obtain ⟨d, hd, hb⟩ := hxs.get' f2
    refine ⟨Cr.same_new hT, _, by rw [enu_get 0 ds' i d hd, Nat.zero_add], ?_⟩
    exact (Fds.cons (.int _) (.cons ((hb.evo (R.owl.same e1) ev).same (Cr.same_new hT)) .nil)).tup (.of upd_same)
  · cases h2
theorem si_zip (h : SA K A ta fa) : SI K A (RZ.iZipA K ta) (fZip fa) := fun {H0 O0 O σ H ρ} R ds hds Rr q => by
  obtain ⟨es, h1, h2⟩ := bind_some' hds
  split at h2
  · rename_i ds1 ds2
    cases h2
    refine h R _ h1 _ fun vs H1 e1 hvs => ?_
    obtain ⟨v, ws, rfl, hv, hws⟩ := hvs.head
    obtain ⟨u, rfl, hu⟩ := one_inv hws
    obtain ⟨p, xs, rfl, hp, hnp, hxs⟩ := hv.lst_inv
    obtain ⟨p2, ys, rfl, hp2, hnp2, hys⟩ := hu.lst_inv
    refine ⟨p, p2, xs, ys, rfl, .inl ⟨sq_of hp, sq_of hp2, q _ _ e1 ⟨_, _, walk_zip (xs := xs) (ys := ys) (by rw [zip_len, hxs.1, hys.1]), fun O' H' ho' ev => ⟨⟨sq_of (ev _ _ hp hnp).1, sq_of (ev _ _ hp2 hnp2).1⟩, fun i x H2 hi hy => ?_⟩⟩⟩⟩
    obtain ⟨T, a, b, rfl, hT, rfl, f1, f2⟩ := hy
    obtain ⟨d, hd, ha⟩ := hxs.get' f1
    obtain ⟨e, he, hb⟩ := hys.get' f2
    refine ⟨Cr.same_new hT, _, zip_get ds1 ds2 i d e hd he, ?_⟩
    exact (Fds.cons ((ha.evo (R.owl.same e1) ev).same (Cr.same_new hT)) (.cons ((hb.evo (R.owl.same e1) ev).same (Cr.same_new hT)) .nil)).tup (.of upd_same)
  · rename_i ds1 ds2
    cases h2
    refine h R _ h1 _ fun vs H1 e1 hvs => ?_
    obtain ⟨v, ws, rfl, hv, hws⟩ := hvs.head
    obtain ⟨u, rfl, hu⟩ := one_inv hws
    obtain ⟨p, xs, rfl, hp, hxs⟩ := hv.tup_inv
    obtain ⟨p2, ys, rfl, hp2, hys⟩ := hu.tup_inv
    refine ⟨p, p2, xs, ys, rfl, .inr ⟨hp, hp2, q _ _ e1 ⟨_, _, Cr.walk_zipT (xs := xs) (ys := ys) (by rw [zip_len, hxs.1, hys.1]), fun O' H' ho' ev => ⟨⟨sqT_evo (R.owl.same e1) ev hp, sqT_evo (R.owl.same e1) ev hp2⟩, fun i x H2 hi hy => ?_⟩⟩⟩⟩
    obtain ⟨T, a, b, rfl, hT, rfl, f1, f2⟩ := hy
    obtain ⟨d, hd, ha⟩ := hxs.get' f1
    obtain ⟨e, he, hb⟩ := hys.get' f2
    refine ⟨Cr.same_new hT, _, zip_get ds1 ds2 i d e hd he, ?_⟩
    exact (Fds.cons ((ha.evo (R.owl.same e1) ev).same (Cr.same_new hT)) (.cons ((hb.evo (R.owl.same e1) ev).same (Cr.same_new hT)) .nil)).tup (.of upd_same)
  · cases h2
end
end Sm
set_option maxRecDepth 10000000
/-! stars, in-place sums, comprehensions with two clauses, sorted -/
namespace Sm
open PySem PySem.Spec PyProof.Rows L2 Evl CrT Cr
def fStar (fe : FE) (fr : FA) : FA := fun ρ => (fe ρ).bind fun a => match a with
  | .tuple ds => (fr ρ).bind fun r => some (ds ++ r)
  | .list ds => (fr ρ).bind fun r => some (ds ++ r)
  | _ => none
def fAug (i : Nat) (fe : FE) : FS := fun ρ => match ρ[i]? with
  | some (.val (.int a)) => (fe ρ).bind fun d => match d with
    | .int b => some (.nx, ρ.set i (.val (.int (a + b))))
    | _ => none
  | _ => none
section
variable {K : PySem.W.Frag} {A : Atm} {te : TE} {fe : FE} {tas : TA} {fas : FA}
theorem sa_star (ha : SE K A te fe) (hr : SA K A tas fas) : SA K A (StX.tStar K te tas) (fStar fe fas) := fun R ds h Q q => by
  obtain ⟨a, h1, h⟩ := bind_some' h
  cases a <;> try cases h
  · obtain ⟨r, h2, h3⟩ := bind_some' h
    cases h3
    refine ha R _ h1 _ fun v H1 e1 hv => ?_
    obtain ⟨p, xs, rfl, hp, hnp, hxs⟩ := hv.lst_inv
    exact ⟨p, xs, rfl, .inr (sq_of hp), hr (R.same e1) r h2 _ fun vs H2 e2 hvs => q _ H2 (e1.trans e2) ((hxs.same e2).app hvs)⟩
  · obtain ⟨r, h2, h3⟩ := bind_some' h
    cases h3
    refine ha R _ h1 _ fun v H1 e1 hv => ?_
    obtain ⟨p, xs, rfl, hp, hxs⟩ := hv.tup_inv
    exact ⟨p, xs, rfl, .inl hp, hr (R.same e1) r h2 _ fun vs H2 e2 hvs => q _ H2 (e1.trans e2) ((hxs.same e2).app hvs)⟩
theorem ss_aug {i : Nat} (h : SE K A te fe) : SS K A (tAug i te (ipI fun i j => i + j)) (fAug i fe) := fun {H0 O0 O σ H ρ} r o ho D p => by
  unfold fAug at ho
  split at ho
  · rename_i a hi
    obtain ⟨d, h1, h2⟩ := bind_some' ho
    cases d <;> try cases h2
    rename_i b
    obtain ⟨v, s1, s2⟩ := r.val i _ hi
    cases s2.int_inv
    refine ⟨_, s1, h r _ h1 _ fun u H1 e1 hu => ?_⟩
    exact ⟨a, b, rfl, hu.int_inv, p _ H1 O ((r.same e1).set i (.int _)) (.same e1)⟩
  · cases ho
/-! ### two clauses -/
def cStep2 (g : PyData → List Sl → Option (List Sl)) (t : FT) (fi : FA) (g1 : PyData → List Sl → Option (List Sl)) (t1 : FT) (e : FE) (vs1 : List Nat) (ρ : List Sl) : PyData → Option (List PyData) := fun d => (g d ρ).bind fun ρ1 => (t ρ1).bind fun b => if b then (fi ρ1).bind fun ds => compM (cStep g1 t1 e (wpS ρ1 vs1)) ds else some []
def catM (step : PyData → Option (List PyData)) : List PyData → Option (List PyData)
  | [] => some []
  | d :: ds => (step d).bind fun xs => (catM step ds).bind fun r => some (xs ++ r)
def fComp2 (fi : FA) (g : PyData → List Sl → Option (List Sl)) (t : FT) (fi1 : FA) (g1 : PyData → List Sl → Option (List Sl)) (t1 : FT) (e : FE) (vs vs1 : List Nat) : FA := fun ρ => (fi ρ).bind fun ds => (catM (cStep2 g t fi1 g1 t1 e vs1 (wpS ρ vs)) ds).bind fun r => lim r.length r
theorem sl_lc2 {wi wi1 : TI} {fi fi1 : FA} {tg tg1 : TG} {gg gg1 : PyData → List Sl → Option (List Sl)} {ws ws1 vs vs1 : List Nat} {tt tt1 : TT} {ft ft1 : FT} (hi : SI K A wi fi) (hg : SG K A tg gg ws) (hsub : ∀ i ∈ ws, i ∈ vs) (ht : ST K A tt ft) (hi1 : SI K A wi1 fi1) (hg1 : SG K A tg1 gg1 ws1) (hsub1 : ∀ i ∈ ws1, i ∈ vs1) (hvv : ∀ i ∈ vs1, i ∈ vs) (ht1 : ST K A tt1 ft1) (he : SE K A te fe) : SL K A (tLc2 wi tg tt wi1 tg1 tt1 te vs vs1) (fComp2 fi gg ft fi1 gg1 ft1 fe vs vs1) := fun {H0 O0 O σ H ρ} r rs hr Q q => by
  obtain ⟨ds, h1, h2⟩ := bind_some' hr
  obtain ⟨rs', h3, h4⟩ := bind_some' h2
  obtain ⟨h5, rfl⟩ := lim_some h4
  refine hi r ds h1 _ fun J H1 e1 wk Dl hD => ?_
  obtain ⟨G, Y, w, hw⟩ := wk
  have r1 := (r.same e1).wipe vs
  -- what holds between the turns: done is made, rest is to come
  let Pv : Nat → Hp → Prop := fun i H' => ∃ acc done rst, Same H1 H' ∧ H' Dl = some (.lst acc) ∧ Fds K A (Osn O Dl) H' acc done ∧ catM (cStep2 gg ft fi1 gg1 ft1 fe vs1 (wpS ρ vs)) (ds.drop i) = some rst ∧ rs' = done ++ rst
  have hP0 : Pv 0 (upd H1 Dl (.lst [])) := ⟨[], [], rs', same_new hD, upd_same, .nil, h3, rfl⟩
  refine ⟨fun i m H => m = ds.length - i ∧ i ≤ ds.length ∧ Pv i H, ⟨ds.length, by simp, Nat.zero_le _, hP0⟩, ?_⟩
  rintro i m H' ⟨rfl, hile, hP⟩
  obtain ⟨acc, done, rst, e, hDl, hacc, hc, hrs⟩ := hP
  have r2 := r1.osn hD e hDl
  have ev : Evo O H1 (Osn O Dl) H' := fun a o ha hn => ⟨e _ _ ha, fun h => by
    rcases h with h | h
    · rw [h, hD] at ha
      cases ha
    · exact hn h⟩
  by_cases hlt : i < ds.length
  · refine .inr ⟨w.goes i H' hlt (hw _ H' r2.owl ev).1, Pv (i + 1), fun H'' p => ⟨ds.length - (i + 1), by omega, rfl, hlt, p⟩, fun x H2 hy => ?_⟩
    obtain ⟨e2, d, hd, hx⟩ := (hw (Osn O Dl) H' r2.owl ev).2 i x H2 hlt (w.yields i H' x H2 hlt (hw _ H' r2.owl ev).1 hy)
    have hdr : ds.drop i = d :: ds.drop (i + 1) := by
      obtain ⟨hlt, rfl⟩ := List.getElem?_eq_some_iff.mp hd
      exact List.drop_eq_getElem_cons hlt
    rw [hdr] at hc
    obtain ⟨ys, hs1, hs2⟩ := bind_some' hc
    obtain ⟨rr, hs3, hs4⟩ := bind_some' hs2
    cases hs4
    obtain ⟨ρ1, hs5, hs6⟩ := bind_some' hs1
    obtain ⟨b, hs7, hs8⟩ := bind_some' hs6
    refine hg (r2.same e2) hx ρ1 hs5 _ fun σ2 r3 l3 k3 o3 => ⟨?_, ht r3 b hs7 _ fun H3 e3 => ?_⟩
    · rw [wipe_ext (σ := L2.wipe σ vs) (by rw [l3]) (fun i hi => k3 i fun h => hi (hsub i h)), wipe_wipe]
    · cases b with
      | false =>
        cases hs8
        exact iteF ⟨acc, done, rr, e.trans (e2.trans e3), (e2.trans e3) _ _ hDl, hacc.same (e2.trans e3), hs3, by rw [hrs]; simp⟩
      | true =>
        have hs8 : ((fi1 ρ1).bind fun ds => compM (cStep gg1 ft1 fe (wpS ρ1 vs1)) ds) = some ys := hs8
        obtain ⟨es, hs9, hs10⟩ := bind_some' hs8
        refine iteT (hi1 (r3.same e3) es hs9 _ fun J1 H4 e4 wk1 => ?_)
        obtain ⟨G1, Y1, w1, hw1⟩ := wk1
        have r4 := (r3.same (e3.trans e4)).wipe vs1
        have e24 := (e2.trans e3).trans e4
        have hD4 : H4 Dl = some (.lst acc) := e24 _ _ hDl
        -- within: the list grows from acc
        let Pw : Nat → Hp → Prop := fun j H5 => ∃ acc' mid rst', (∀ a o, a ≠ Dl → H4 a = some o → H5 a = some o) ∧ H5 Dl = some (.lst acc') ∧ Fds K A (Osn O Dl) H5 acc' (done ++ mid) ∧ compM (cStep gg1 ft1 fe (wpS ρ1 vs1)) (es.drop j) = some rst' ∧ ys = mid ++ rst'
        refine ⟨fun j k H5 => k = es.length - j ∧ j ≤ es.length ∧ Pw j H5, ⟨es.length, by simp, Nat.zero_le _, acc, [], ys, fun _ _ _ h => h, hD4, by rw [List.append_nil]; exact hacc.same e24, hs10, rfl⟩, ?_⟩
        rintro j k H5 ⟨rfl, hjle, hQ⟩
        obtain ⟨acc', mid, rst', f5, hD5, hacc5, hc5, hys⟩ := hQ
        have ev5 : Evo (Osn O Dl) H4 (Osn O Dl) H5 := fun a o ha hn => ⟨f5 a o (fun h => hn (.inl h)) ha, hn⟩
        have s15 : Same H1 H5 := fun a o ha => f5 a o (fun h => by rw [h, hD] at ha; cases ha) (e24 _ _ (e _ _ ha))
        have ho5 : Owl (Osn O Dl) H5 := fun a h => by
          rcases h with rfl | h
          · exact ⟨_, hD5⟩
          · obtain ⟨zs, hz⟩ := r1.owl a h
            exact ⟨zs, s15 _ _ hz⟩
        have r5 : Rl K A H0 O0 (Osn O Dl) (L2.wipe σ2 vs1) H5 (wpS ρ1 vs1) := ⟨r4.len, fun i d h => by
            obtain ⟨v, a1, a2⟩ := r4.val i d h
            exact ⟨v, a1, a2.evo r4.owl ev5⟩, fun i es h => by
            obtain ⟨p, xs, a1, a2, a3, a4, a5⟩ := r4.own i es h
            obtain ⟨g1, g2⟩ := o3 i es (wpS_own h)
            obtain ⟨p', xs', b1, b2, b3, b4, b5⟩ := r1.own i es g1
            have hs2 := (wipe_some a1).1
            rw [k3 i g2, b1] at hs2
            cases hs2
            have hpD : p ≠ Dl := fun hp => by
              rw [hp, hD] at b4
              cases b4
            exact ⟨p, xs, a1, a2, a3, f5 _ _ hpD a4, a5.evo r4.owl ev5⟩, r4.inj, ho5, r1.frm.trans s15, r4.sub, r4.old⟩
        have ev5' : Evo O H1 (Osn O Dl) H5 := fun a o ha hn => ⟨s15 _ _ ha, fun h => by
          rcases h with h | h
          · rw [h, hD] at ha
            cases ha
          · exact hn h⟩
        by_cases hlt1 : j < es.length
        · refine .inr ⟨w1.goes j H5 hlt1 (hw1 _ H5 ho5 ev5).1, Pw (j + 1), fun H'' p => ⟨es.length - (j + 1), by omega, rfl, hlt1, p⟩, fun x1 H6 hy1 => ?_⟩
          obtain ⟨e6, d1, hd1, hx1⟩ := (hw1 (Osn O Dl) H5 ho5 ev5).2 j x1 H6 hlt1 (w1.yields j H5 x1 H6 hlt1 (hw1 _ H5 ho5 ev5).1 hy1)
          have hdr1 : es.drop j = d1 :: es.drop (j + 1) := by
            obtain ⟨hlt, rfl⟩ := List.getElem?_eq_some_iff.mp hd1
            exact List.drop_eq_getElem_cons hlt
          rw [hdr1] at hc5
          obtain ⟨o', hs1', hs2'⟩ := bind_some' hc5
          obtain ⟨rr', hs3', hs4'⟩ := bind_some' hs2'
          obtain ⟨ρ2, hs5', hs6'⟩ := bind_some' hs1'
          obtain ⟨b', hs7', hs8'⟩ := bind_some' hs6'
          refine hg1 (r5.same e6) hx1 ρ2 hs5' _ fun σ3 r6 l6 k6 _ => ⟨?_, ht1 r6 b' hs7' _ fun H7 e7 => ?_⟩
          · rw [wipe_ext (σ := L2.wipe σ2 vs1) (by rw [l6]) (fun i hi => k6 i fun h => hi (hsub1 i h)), wipe_wipe]
          · have keep : ∀ H8, Same H5 H8 → ∀ a o, a ≠ Dl → H4 a = some o → H8 a = some o := fun H8 s a o ha h => s _ _ (f5 a o ha h)
            cases b' with
            | true =>
              obtain ⟨y, hy1', hy2'⟩ := bind_some' (show ((fe ρ2).bind fun y => some (some y)) = some o' from hs8')
              cases hy2'
              cases hs4'
              refine iteT (he (r6.same e7) y hy1' _ fun v H8 e8 hv => ?_)
              have e58 := (e6.trans e7).trans e8
              have hD8 : H8 Dl = some (.lst acc') := e58 _ _ hD5
              have hacc8 := hacc5.same e58
              have ho8 : Owl (Osn O Dl) H8 := ho5.same e58
              have ev8 : Evo (Osn O Dl) H8 (Osn O Dl) (upd H8 Dl (.lst (acc' ++ [v]))) := fun a o ha hn => ⟨by
                rw [upd_ne (fun e => hn (.inl e))]
                exact ha, hn⟩
              refine ⟨acc', hD8, ?_, acc' ++ [v], mid ++ [y], rr', fun a o ha h => by rw [upd_ne ha]; exact keep H8 e58 a o ha h, upd_same, ?_, hs3', by rw [hys]; simp⟩
              · have h6 : acc'.length = (done ++ mid).length := hacc5.1
                have h7 : (done ++ (mid ++ y :: rr') ++ rr).length ≤ 10000000 := by rw [← hys, List.append_assoc, ← hrs]; exact h5
                simp only [List.length_append, List.length_cons] at h6 h7
                exact Nat.lt_of_lt_of_le (show acc'.length < 10000000 by omega) (by decide)
              · rw [← List.append_assoc]
                exact (hacc8.snoc hv).evo ho8 ev8
            | false =>
              cases hs8'
              cases hs4'
              exact iteF ⟨acc', mid, rr', fun a o ha h => keep H7 (e6.trans e7) a o ha h, (e6.trans e7) _ _ hD5, hacc5.same (e6.trans e7), hs3', hys⟩
        · have ej : j = es.length := by omega
          subst ej
          rw [List.drop_length] at hc5
          cases hc5
          rw [List.append_nil] at hys
          subst hys
          exact .inl ⟨w1.stops H5 (hw1 _ H5 ho5 ev5).1, acc', done ++ ys, rr, s15, hD5, hacc5, hs3, by rw [hrs]; simp⟩
  · have ei : i = ds.length := by omega
    subst ei
    rw [List.drop_length] at hc
    cases hc
    rw [List.append_nil] at hrs
    subst hrs
    exact .inl ⟨w.stops H' (hw _ H' r2.owl ev).1, q Dl acc H' (e1.free hD) (e1.trans e) hDl hacc⟩
end
end Sm
set_option maxRecDepth 10000000
/-! reckoning with the functions of data -/
namespace Sm
open PySem PySem.Spec PyProof.Rows L2 Evl CrT Cr
theorem charNat {c d : Char} (h : c.toNat = d.toNat) : c = d := by
  apply Char.ext
  exact UInt32.toNat_inj.mp h
theorem strEq (a b : String) : (Str.ofString a = Str.ofString b) = (a = b) := by
  apply propext
  constructor
  · intro h
    rw [Str.ofString_eq_toList, Str.ofString_eq_toList] at h
    injection h with h
    injection h with h
    have h2 : ∀ {l m : List Char}, l.map Char.toNat = m.map Char.toNat → l = m := by
      intro l
      induction l with
      | nil => intro m h; cases m <;> simp at h ⊢
      | cons x l ih =>
        intro m h
        cases m with
        | nil => simp at h
        | cons y m =>
          simp only [List.map_cons, List.cons.injEq] at h
          rw [charNat h.1, ih h.2]
    exact String.toList_inj.mp (h2 h)
  · intro h
    rw [h]
def resF (o : Option (Fl × List Sl)) : Option PyData := match o with
  | some (.rt d, _) => some d
  | some (.nx, _) => some .none
  | _ => none
theorem run_1 {n : Nat} {f : FS} {a : PyData} : runF n 1 f [a] = resF (f (.val a :: List.replicate (n - 1) .un)) := rfl
theorem run_2 {n : Nat} {f : FS} {a b : PyData} : runF n 2 f [a, b] = resF (f (.val a :: .val b :: List.replicate (n - 2) .un)) := rfl
theorem run_3 {n : Nat} {f : FS} {a b c : PyData} : runF n 3 f [a, b, c] = resF (f (.val a :: .val b :: .val c :: List.replicate (n - 3) .un)) := rfl
theorem run_4 {n : Nat} {f : FS} {a b c d : PyData} : runF n 4 f [a, b, c, d] = resF (f (.val a :: .val b :: .val c :: .val d :: List.replicate (n - 4) .un)) := rfl
theorem ix0 {a : PyData} {as : List PyData} : atI (a :: as) 0 = some a := atI_nat (j := 0) rfl
theorem ix1 {a b : PyData} {as : List PyData} : atI (a :: b :: as) 1 = some b := atI_nat (j := 1) rfl
theorem ix2 {a b c : PyData} {as : List PyData} : atI (a :: b :: c :: as) 2 = some c := atI_nat (j := 2) rfl
theorem ix3 {a b c d : PyData} {as : List PyData} : atI (a :: b :: c :: d :: as) 3 = some d := atI_nat (j := 3) rfl
theorem lim_ok {α : Type} {n : Nat} {x : α} (h : n ≤ 10000000) : lim n x = some x := if_pos h
theorem then_nx {ρ : List Sl} {g : FS} : fThen (some (.nx, ρ)) g = g ρ := rfl
theorem then_rt {d : PyData} {ρ : List Sl} {g : FS} : fThen (some (.rt d, ρ)) g = some (.rt d, ρ) := rfl
theorem then_bk {ρ : List Sl} {g : FS} : fThen (some (.bk, ρ)) g = some (.bk, ρ) := rfl
theorem then_ct {ρ : List Sl} {g : FS} : fThen (some (.ct, ρ)) g = some (.ct, ρ) := rfl
theorem turn_nx {ρ : List Sl} {g : List Sl → Option (Fl × List Sl)} : fTurn (some (.nx, ρ)) g = g ρ := rfl
theorem turn_ct {ρ : List Sl} {g : List Sl → Option (Fl × List Sl)} : fTurn (some (.ct, ρ)) g = g ρ := rfl
theorem turn_bk {ρ : List Sl} {g : List Sl → Option (Fl × List Sl)} : fTurn (some (.bk, ρ)) g = some (.nx, ρ) := rfl
theorem turn_rt {d : PyData} {ρ : List Sl} {g : List Sl → Option (Fl × List Sl)} : fTurn (some (.rt d, ρ)) g = some (.rt d, ρ) := rfl
theorem res_rt {d : PyData} {ρ : List Sl} : resF (some (.rt d, ρ)) = some d := rfl
theorem asB_b {b : Bool} : asB (.bool b) = some b := rfl
theorem while_s {t : FT} {b : FS} {n : Nat} {ρ : List Sl} : fWhile t b (n + 1) ρ = (t ρ).bind fun x => if x then fTurn (b ρ) (fWhile t b n) else some (.nx, ρ) := rfl
theorem loop_n {g : PyData → List Sl → Option (List Sl)} {b : FS} {ρ : List Sl} : fLoop g b [] ρ = some (.nx, ρ) := rfl
theorem loop_c {g : PyData → List Sl → Option (List Sl)} {b : FS} {d : PyData} {ds : List PyData} {ρ : List Sl} : fLoop g b (d :: ds) ρ = (g d ρ).bind fun ρ1 => fTurn (b ρ1) (fLoop g b ds) := rfl
theorem gIx_t {ds : List PyData} {i : Int} : gIx (.tuple ds) (.int i) = atI ds i := rfl
theorem gIx_l {ds : List PyData} {i : Int} : gIx (.list ds) (.int i) = atI ds i := rfl
theorem gAdd_i {i j : Int} : gAdd (.int i) (.int j) = some (.int (i + j)) := rfl
theorem gSub_i {i j : Int} : gSub (.int i) (.int j) = some (.int (i - j)) := rfl
theorem gAdd_t {xs ys : List PyData} : gAdd (.tuple xs) (.tuple ys) = lim (xs.length + ys.length) (.tuple (xs ++ ys)) := rfl
theorem gAdd_l {xs ys : List PyData} : gAdd (.list xs) (.list ys) = lim (xs.length + ys.length) (.list (xs ++ ys)) := rfl
theorem gLt_i {i j : Int} : gLt (.int i) (.int j) = some (.bool (decide (i < j))) := rfl
theorem gLe_i {i j : Int} : gLe (.int i) (.int j) = some (.bool (decide (i ≤ j))) := rfl
theorem gGt_i {i j : Int} : gGt (.int i) (.int j) = some (.bool (decide (j < i))) := rfl
theorem gGe_i {i j : Int} : gGe (.int i) (.int j) = some (.bool (decide (j ≤ i))) := rfl
theorem eq_i {i j : Int} : gEq (.int i) (.int j) = some (.bool (decide (i = j))) := rfl
theorem eq_s {x y : Str} : gEq (.str x) (.str y) = some (.bool (decide (x = y))) := rfl
theorem ne_i {i j : Int} : gNe (.int i) (.int j) = some (.bool (!decide (i = j))) := rfl
theorem ne_s {x y : Str} : gNe (.str x) (.str y) = some (.bool (!decide (x = y))) := rfl
theorem gLen_t {ds : List PyData} : gLen [.tuple ds] = some (.int ds.length) := rfl
theorem gLen_l {ds : List PyData} : gLen [.list ds] = some (.int ds.length) := rfl
theorem gTup_l {ds : List PyData} : gTuple [.list ds] = some (.tuple ds) := rfl
theorem gTup_t {ds : List PyData} : gTuple [.tuple ds] = some (.tuple ds) := rfl
theorem gIn_t {x : Str} {ds : List PyData} (h : ds.all fl = true) : gIn (.str x) (.tuple ds) = some (.bool (ds.any fun z => eqF z (.str x))) := by
  show (inD _ _).bind _ = _
  unfold inD
  simp only [fl, h, Bool.and_self, if_true, Option.bind_some]
theorem gIn_l {x : Str} {ds : List PyData} (h : ds.all fl = true) : gIn (.str x) (.list ds) = some (.bool (ds.any fun z => eqF z (.str x))) := by
  show (inD _ _).bind _ = _
  unfold inD
  simp only [fl, h, Bool.and_self, if_true, Option.bind_some]
theorem gNi_l {x : Str} {ds : List PyData} (h : ds.all fl = true) : gNi (.str x) (.list ds) = some (.bool (!ds.any fun z => eqF z (.str x))) := by
  show (inD _ _).bind _ = _
  unfold inD
  simp only [fl, h, Bool.and_self, if_true, Option.bind_some]
end Sm
set_option maxRecDepth 10000000
/-! sorted; defs whose promise was shown otherwise -/
namespace Sm
open PySem PySem.Spec PyProof.Rows L2 Evl CrT Cr
def SortOk (ds : List PyData) : Prop := (PySem.W.AllAlike ds ∧ PySem.W.Sortable ds ∧ ∀ d ∈ ds, d.depth ≤ 60) ∧ ds.all (fun d => d.canLay0) = true
open Classical in
noncomputable def gSorted : List PyData → Option (List PyData)
  | [.list ds] => if SortOk ds then some (sortD ds) else none
  | [.tuple ds] => if SortOk ds then some (sortD ds) else none
  | _ => none
theorem gSorted_t {ds : List PyData} (h : SortOk ds) : gSorted [.tuple ds] = some (sortD ds) := if_pos h
theorem gSorted_l {ds : List PyData} (h : SortOk ds) : gSorted [.list ds] = some (sortD ds) := if_pos h
section
variable {K : PySem.W.Frag} {A : Atm} {O : Addr → Prop} {H : Hp}
theorem fds_sorted {xs : List V} {ds : List PyData} (h : Fds K A O H xs ds) : Fds K A O H ((sortZ xs ds).map Prod.fst) (sortD ds) := by
  rw [← sortZ_snd h.1]
  refine ⟨by rw [List.length_map, List.length_map], fun i v d h1 h2 => ?_⟩
  rw [List.getElem?_map] at h1 h2
  cases e : (sortZ xs ds)[i]? with
  | none => rw [e] at h1; cases h1
  | some z =>
    rw [e] at h1 h2
    cases h1
    cases h2
    have hz : z ∈ xs.zip ds := (List.mergeSort_perm _ _).mem_iff.mp (List.mem_of_getElem? e)
    obtain ⟨j, hj⟩ := List.mem_iff_getElem?.mp hz
    rw [List.getElem?_zip_eq_some] at hj
    exact h.2 j z.1 z.2 hj.1 hj.2
theorem fds_dp {xs : List V} {ds : List PyData} (h : Fds K A O H xs ds) (hc : ds.all (fun d => d.canLay0) = true) : DpAll K H xs ds := dp_all h.1 fun i v d h1 h2 => (h.2 i v d h1 h2).dp (List.all_eq_true.mp hc d (List.mem_of_getElem? h2))
theorem rc_sorted : RDsL K A (rSortedD K) gSorted := fun {O H xs ds} ho hx es hc Q q => by
  unfold gSorted at hc
  split at hc
  · split at hc
    · rename_i hs
      cases hc
      obtain ⟨v, rfl, hv⟩ := one_inv hx
      obtain ⟨p, ys, rfl, hp, hnp, hys⟩ := hv.lst_inv
      exact ⟨p, ys, _, rfl, .inl (sq_of hp), fds_dp hys hs.2, hs.1.1, hs.1.2.1, hs.1.2.2, fun l hl => q l _ _ hl (same_new hl) upd_same (((fds_sorted hys).more hl).same (same_new hl))⟩
    · cases hc
  · split at hc
    · rename_i hs
      cases hc
      obtain ⟨v, rfl, hv⟩ := one_inv hx
      obtain ⟨p, ys, rfl, hp, hys⟩ := hv.tup_inv
      exact ⟨p, ys, _, rfl, .inr hp, fds_dp hys hs.2, hs.1.1, hs.1.2.1, hs.1.2.2, fun l hl => q l _ _ hl (same_new hl) upd_same (((fds_sorted hys).more hl).same (same_new hl))⟩
    · cases hc
  · cases hc
end
/-! ### relations as functions -/
open Classical in
noncomputable def fnOf (R : List PyData → PyData → Prop) : Fn := fun ds => if h : ∃ r, R ds r then some h.choose else none
theorem fnOf_eq {R : List PyData → PyData → Prop} {ds : List PyData} {r : PyData} (hu : ∀ r', R ds r' → r' = r) (h : R ds r) : fnOf R ds = some r := by
  unfold fnOf
  have hx : ∃ r, R ds r := ⟨r, h⟩
  rw [dif_pos hx]
  exact congrArg some (hu _ hx.choose_spec)
theorem fnOf_inv {R : List PyData → PyData → Prop} {ds : List PyData} {r : PyData} (h : fnOf R ds = some r) : R ds r := by
  unfold fnOf at h
  split at h
  · rename_i hx
    cases h
    exact hx.choose_spec
  · cases h
end Sm
set_option maxRecDepth 10000000
/-! flat data; promises changed into one another -/
namespace Sm
open PySem PySem.Spec PyProof.Rows L2 Evl CrT Cr
abbrev A0 : Atm := fun _ _ => False
abbrev O0 : Addr → Prop := fun _ => False
theorem owl0 {H : Hp} : Owl O0 H := fun _ h => h.elim
theorem flat_kd {n : Nat} {k : Kd} (h : OkK n k) : flatD k.data = true := by
  induction h with
  | int => rw [Kd.data]; rfl
  | word => rw [Kd.data]; rfl
  | lst _ ih => rw [Kd.data]; simp [flatD, flatDs, ih]
  | tup _ _ ih =>
    rw [Kd.data, dataAll_map]
    have : flatDs (List.map Kd.data _) = true := flatDs_of fun d hd => by
      obtain ⟨k, hk, rfl⟩ := List.mem_map.mp hd
      exact ih k hk
    simp [flatD, flatDs, this]
mutual
theorem flat_isk : ∀ (k : Kd) (d : PyData), isk k d = true → flatD d = true
  | .int, d, h => by
    obtain ⟨i, rfl⟩ := isk_int h
    rfl
  | .word, d, h => by
    obtain ⟨i, rfl⟩ := isk_word h
    rfl
  | .lst k, d, h => by
    obtain ⟨ds, rfl, hd⟩ := isk_lst h
    rw [flatD]
    exact flatDs_of fun d hd' => flat_isk k d (hd d hd')
  | .tup ks, d, h => by
    obtain ⟨ds, rfl, hd⟩ := isk_tup h
    rw [flatD]
    exact flat_iskAll ks ds hd
theorem flat_iskAll : ∀ (ks : List Kd) (ds : List PyData), iskAll ks ds = true → flatDs ds = true
  | [], [], _ => by rw [flatDs]
  | [], _ :: _, h => by simp [iskAll] at h
  | _ :: _, [], h => by simp [iskAll] at h
  | k :: ks, d :: ds, h => by
    rw [iskAll] at h
    obtain ⟨h1, h2⟩ := Bool.and_eq_true_iff.mp h
    rw [flatDs, flat_isk k d h1, flat_iskAll ks ds h2]
    rfl
end
theorem flat_cd (c : Cd) : flatD c.data = true := by
  induction c <;> rw [Cd.data] <;> simp_all [flatD, flatDs]
theorem flat_mp (m : Mp) : flatD m.data = true := by
  cases m <;> rw [Mp.data] <;> simp [flatD, flatDs]
theorem flat_gn {k n : Nat} {g : Gn} (h : OkGk k n g) : flatD g.data = true := by
  induction h with
  | int => rw [Gn.data]; rfl
  | pick => 
    rw [Gn.data]
    have : ∀ ws : List Str, flatDs (ws.map PyData.str) = true := fun ws => flatDs_of fun d hd => by
      obtain ⟨w, _, rfl⟩ := List.mem_map.mp hd
      rfl
    simp [flatD, flatDs, this]
  | @tuple n gs _ _ ih =>
    rw [Gn.data, gnAll_map]
    have : flatDs (gs.map Gn.data) = true := flatDs_of fun d hd => by
      obtain ⟨g, hg, rfl⟩ := List.mem_map.mp hd
      exact ih g hg
    simp [flatD, flatDs, this]
  | list a b _ ih => rw [Gn.data]; simp [flatD, flatDs, ih]
  | @one n gs _ _ ih =>
    rw [Gn.data, gnAll_map]
    have : flatDs (gs.map Gn.data) = true := flatDs_of fun d hd => by
      obtain ⟨g, hg, rfl⟩ := List.mem_map.mp hd
      exact ih g hg
    simp [flatD, flatDs, this]
  | @kept n g c _ _ ih => rw [Gn.data]; simp [flatD, flatDs, ih, flat_cd c]
  | @turned n g m _ ih => rw [Gn.data]; simp [flatD, flatDs, ih, flat_mp m]
  | repeat_ _ _ ih1 ih2 => rw [Gn.data]; simp [flatD, flatDs, ih1, ih2]
def clMono {P : Program} {w : World} {K : PySem.W.Frag} {mg : Str → Option Value} {base : Heap} {x : Str} {ps : List Str} {k l : Nat} {sp : Sp} (c : Cl P w K mg base x ps k sp) (h : k ≤ l) : Cl P w K mg base x ps l sp := ⟨c.f, c.fd, c.ok.mono h, c.b, c.kp, c.m⟩
def clImp {P : Program} {w : World} {K : PySem.W.Frag} {mg : Str → Option Value} {base : Heap} {x : Str} {ps : List Str} {k : Nat} {sp sp' : Sp} (c : Cl P w K mg base x ps k sp) (h : ∀ vs H Q E, sp' vs H Q E → sp vs H Q E) : Cl P w K mg base x ps k sp' := ⟨c.f, c.fd, c.ok.imp h, c.b, c.kp, c.m⟩
end Sm
/-! tests of three links; len(set(t)) -/
namespace Sm
open PySem PySem.Spec PyProof.Rows L2 Evl CrT Cr CrU
def tChain3 (r r' r2 : R2) (ta tb tc td : TE) : TT := fun σ H Q => ta σ H fun x H1 => tb σ H1 fun y H2 => r x y H2 fun z H3 => ∃ k, z = .bl k ∧
  (if k = true then tc σ H3 fun u H4 => r' y u H4 fun z' H5 => ∃ k', z' = .bl k' ∧ (if k' = true then td σ H5 fun v H6 => r2 u v H6 fun z2 H7 => ∃ k2, z2 = .bl k2 ∧ Q k2 H7 else Q false H5) else Q false H3)
theorem pt_chain3 {X : Cx} {a b c d : Expr} {ta tb tc td : TE} {pos : Pos} {op op' op2 : CmpOp} {r r' r2 : R2} (ho : OpR X (compareOp op) r) (ho' : OpR X (compareOp op') r') (ho2 : OpR X (compareOp op2) r2) (ha : PE X a ta) (hb : PE X b tb) (hc : PE X c tc) (hd : PE X d td)
    (hm : lastMarks [op, op', op2] [b, c, d] = false := by with_unfolding_all rfl) : PT X (.Compare a [op, op', op2] [b, c, d] pos) (tChain3 r r' r2 ta tb tc td) := ⟨fun pins s σ H Q I h => by
  refine isTrue_chain (thn (ha.run pins s σ H _ I h) fun v s1 ⟨x, H1, I1, q1r, q1⟩ => test_link (thn (hb.run pins s1 σ H1 _ I1 q1) fun u s2 ⟨y, H2, I2, q2r, q2⟩ => thn (ho pins s2 σ H2 x y v u _ I2 q1r q2r q2) fun cv s3 ⟨z, H3, I3, q3r, k, e, q3⟩ => ?_)) hm
  subst e; cases q3r
  refine wpAny_truthy_bool ?_
  cases k with
  | false => exact ite_ff ⟨H3, I3, q3⟩
  | true =>
    refine ite_tt (test_link (thn (hc.run pins s3 σ H3 _ I3 q3) fun w s4 ⟨z4, H4, I4, q4r, q4⟩ => thn (ho' pins s4 σ H4 y z4 u w _ I4 q2r q4r q4) fun cv2 s5 ⟨z5, H5, I5, q5r, k2, e2, q5⟩ => ?_))
    subst e2; cases q5r
    refine wpAny_truthy_bool ?_
    cases k2 with
    | false => exact ite_ff ⟨H5, I5, q5⟩
    | true =>
      refine ite_tt (test_last (thn (hd.run pins s5 σ H5 _ I5 q5) fun w' s6 ⟨z6, H6, I6, q6r, q6⟩ => thn (ho2 pins s6 σ H6 z4 z6 w w' _ I6 q4r q6r q6) fun cv3 s7 ⟨z7, H7, I7, q7r, k3, e3, q7⟩ => ?_))
      subst e3; cases q7r
      exact wpAny_truthy_bool ⟨H7, I7, q7⟩⟩
def fChain3 (g g' g2 : F2) (a b c d : FE) : FT := fun ρ => (a ρ).bind fun x => (b ρ).bind fun y => (g x y).bind fun z => (asB z).bind fun z => if z then (c ρ).bind fun u => (g' y u).bind fun z => (asB z).bind fun z => if z then (d ρ).bind fun v => (g2 u v).bind asB else some false else some false
theorem st_chain3 {K : PySem.W.Frag} {A : Atm} {ta tb tc td : TE} {fa fb fc fd : FE} {r r' r2 : R2} {g g' g2 : F2} (ha : SE K A ta fa) (hb : SE K A tb fb) (hc : SE K A tc fc) (hd : SE K A td fd) (hr : RD K A r g) (hr' : RD K A r' g') (hr2 : RD K A r2 g2) : ST K A (tChain3 r r' r2 ta tb tc td) (fChain3 g g' g2 fa fb fc fd) := fun R d h Q q => by
  obtain ⟨x, h1, h⟩ := bind_some' h
  obtain ⟨y, h2, h⟩ := bind_some' h
  obtain ⟨z, h3, h⟩ := bind_some' h
  obtain ⟨c, h4, h⟩ := bind_some' h
  cases asB_some h4
  refine ha R x h1 _ fun vx H1 e1 hx => hb (R.same e1) y h2 _ fun vy H2 e2 hy => hr (R.owl.same (e1.trans e2)) (hx.same e2) hy _ h3 _ fun vz H3 e3 hz => ⟨c, hz.bl_inv, ?_⟩
  have e13 := (e1.trans e2).trans e3
  cases c with
  | false =>
    have h : some false = some d := h
    cases h
    exact iteF (q H3 e13)
  | true =>
    refine iteT ?_
    have h : ((fc _).bind fun u => (g' y u).bind fun z => (asB z).bind fun z => if z = true then (fd _).bind fun v => (g2 u v).bind asB else some false) = some d := h
    obtain ⟨u, h5, h⟩ := bind_some' h
    obtain ⟨z', h6, h⟩ := bind_some' h
    obtain ⟨c2, h7, h⟩ := bind_some' h
    cases asB_some h7
    refine hc (R.same e13) u h5 _ fun vu H4 e4 hu => hr' (R.owl.same (e13.trans e4)) (hy.same (e3.trans e4)) hu _ h6 _ fun vz' H5 e5 hz' => ⟨c2, hz'.bl_inv, ?_⟩
    have e15 := (e13.trans e4).trans e5
    cases c2 with
    | false =>
      have h : some false = some d := h
      cases h
      exact iteF (q H5 e15)
    | true =>
      refine iteT ?_
      have h : ((fd _).bind fun v => (g2 u v).bind asB) = some d := h
      obtain ⟨v, h8, h⟩ := bind_some' h
      obtain ⟨z2, h9, h10⟩ := bind_some' h
      cases asB_some h10
      exact hd (R.same e15) v h8 _ fun vv H6 e6 hv => hr2 (R.owl.same (e15.trans e6)) (hu.same (e5.trans e6)) hv _ h9 _ fun vz2 H7 e7 hz2 => ⟨d, hz2.bl_inv, q H7 ((e15.trans e6).trans e7)⟩
def strsOf : List PyData → Option (List Str)
  | [] => some []
  | .str s :: ds => (strsOf ds).bind fun r => some (s :: r)
  | _ => none
theorem strsOf_map : ∀ ws : List Str, strsOf (ws.map .str) = some ws
  | [] => rfl
  | w :: ws => by
    show (strsOf (ws.map .str)).bind _ = _
    rw [strsOf_map ws]
    rfl
def gLenW : F1
  | .tuple ds => (strsOf ds).bind fun ws => if ws.length ≤ 1000 then some (.int (metN ws ws.length : Nat)) else none
  | _ => none
theorem strsOf_v {K : PySem.W.Frag} {A : Atm} {O : Addr → Prop} {H : Hp} : ∀ {ds : List PyData} {xs : List V} {ws : List Str}, Fds K A O H xs ds → strsOf ds = some ws → xs = ws.map V.str
  | [], xs, ws, h, hw => by cases hw; rw [h.nil_inv]; rfl
  | d :: ds, xs, ws, h, hw => by
    cases d <;> try cases hw
    obtain ⟨r, h1, h2⟩ := bind_some' hw
    cases h2
    obtain ⟨v, vs, rfl, h3, h4⟩ := h.head
    rw [strsOf_v h4 h1, h3.str_inv]
    rfl
theorem se_lenW {K : PySem.W.Frag} {A : Atm} {te : TE} {fe : FE} (h : SE K A te fe) : SE K A (tLenW K te) (fUn gLenW fe) := fun R d hd Q q => by
  obtain ⟨a, h1, h2⟩ := bind_some' hd
  cases a <;> try cases h2
  obtain ⟨ws, h3, h4⟩ := bind_some' h2
  split at h4
  · rename_i hz
    cases h4
    refine h R _ h1 _ fun v H1 e1 hv => ?_
    obtain ⟨p, xs, rfl, hp, hxs⟩ := hv.tup_inv
    rw [strsOf_v hxs h3] at hp
    exact ⟨p, ws, rfl, hp, hz, q _ _ e1 (.int _)⟩
  · cases h4
theorem pa_starK {X : Cx} (K : PySem.W.Frag) {e : Expr} {es : List Expr} {p : Pos} {te : TE} {t : TA} (he : PE X e te) (hr : PA X es t) (hK : X.K = K := by rfl) (hs : starEach (.Starred e p :: es) X.env = (true, eval e X.env) :: starEach es X.env := by rfl) : PA X (.Starred e p :: es) (StX.tStar K te t) := by
  subst hK
  exact StX.pa_star he hr hs
end Sm
set_option maxRecDepth 10000000
/-! readings that take from boxes: what follows for every draw -/
namespace Sm
open PySem PySem.Spec PyProof.Rows L2 Evl CrT Cr
/-! ### data without functions and boxes -/
mutual
def noA : PyData → Bool
  | .tuple ds => noAs ds
  | .list ds => noAs ds
  | .int _ => true
  | .str _ => true
  | .bool _ => true
  | .none => true
  | _ => false
def noAs : List PyData → Bool
  | [] => true
  | d :: ds => noA d && noAs ds
end
theorem noAs_mem : ∀ {ds : List PyData}, noAs ds = true → ∀ d ∈ ds, noA d = true
  | [], _, _, h => by cases h
  | d :: ds, h, e, he => by
    unfold noAs at h
    obtain ⟨h1, h2⟩ := Bool.and_eq_true_iff.mp h
    rcases List.mem_cons.mp he with rfl | he
    · exact h1
    · exact noAs_mem h2 e he
theorem noAs_of : ∀ {ds : List PyData}, (∀ d ∈ ds, noA d = true) → noAs ds = true
  | [], _ => by unfold noAs; rfl
  | d :: ds, h => by
    unfold noAs
    rw [h d List.mem_cons_self, noAs_of fun e he => h e (List.mem_cons_of_mem _ he)]
    rfl
mutual
theorem noA_flat : ∀ d : PyData, flatD d = true → noA d = true
  | .int _, _ => by rw [noA]
  | .str _, _ => by rw [noA]
  | .tuple ds, h => by
    rw [noA]
    rw [flatD] at h
    exact noA_flats ds h
  | .list _, h => by simp [flatD] at h
  | .bool _, h => by simp [flatD] at h
  | .none, h => by simp [flatD] at h
  | .dict _, h => by simp [flatD] at h
theorem noA_flats : ∀ ds : List PyData, flatDs ds = true → noAs ds = true
  | [], _ => by unfold noAs; rfl
  | d :: ds, h => by
    unfold flatDs at h
    obtain ⟨h1, h2⟩ := Bool.and_eq_true_iff.mp h
    unfold noAs
    rw [noA_flat d h1, noA_flats ds h2]
    rfl
end
section
variable {K : PySem.W.Frag} {A A' : Atm} {O O' : Addr → Prop} {H H' : Hp}
theorem Fd.amo (m : ∀ f kvs, A f kvs → A' f kvs) {v : V} {d : PyData} (h : Fd K A O H v d) : Fd K A' O H v d := by
  induction h with
  | non => exact .non
  | bl b => exact .bl b
  | int i => exact .int i
  | str x => exact .str x
  | tup hs hl _ ih => exact .tup hs hl ih
  | lst hs ho hl _ ih => exact .lst hs ho hl ih
  | fn h => exact .fn (m _ _ h)
theorem Fd.up {v : V} {d : PyData} (h : Fd K A0 O H v d) : Fd K A O H v d := h.amo fun _ _ h => h.elim
theorem Fd.noa {v : V} {d : PyData} (h : Fd K A O H v d) (hn : noA d = true) : Fd K A0 O H v d := by
  induction h with
  | non => exact .non
  | bl b => exact .bl b
  | int i => exact .int i
  | str x => exact .str x
  | tup hs hl _ ih => exact .tup hs hl fun i v d h1 h2 => ih i v d h1 h2 (noAs_mem (by simpa [noA] using hn) d (List.mem_of_getElem? h2))
  | lst hs ho hl _ ih => exact .lst hs ho hl fun i v d h1 h2 => ih i v d h1 h2 (noAs_mem (by simpa [noA] using hn) d (List.mem_of_getElem? h2))
  | fn h => simp [noA] at hn
theorem Fds.noa {vs : List V} {ds : List PyData} (h : Fds K A O H vs ds) (hn : noAs ds = true) : Fds K A0 O H vs ds := ⟨h.1, fun i v d a b => (h.2 i v d a b).noa (noAs_mem hn d (List.mem_of_getElem? b))⟩
end
/-- a call of a def that knows no boxes -/
def fCall0 (fn : Fn) (fa : FA) : FE := fun ρ => (fa ρ).bind fun ds => if noAs ds then fn ds else none
section
variable {K : PySem.W.Frag} {A : Atm}
theorem se_call0 {E : XK} {fn : Fn} {tas : TA} {fas : FA} (h : SA K A tas fas) : SE K A (tCall (spF K A0 fn) [] E tas) (fCall0 fn fas) := fun {H0 O0 O σ H ρ} R d hd Q q => by
  obtain ⟨ds, h1, h2⟩ := bind_some' hd
  split at h2
  · rename_i hn
    exact h R ds h1 _ fun vs H1 e1 hvs => ⟨O, ds, d, R.owl.same e1, by rw [List.append_nil]; exact hvs.noa hn, h2, fun v H2 e2 hv => q v H2 (e1.trans e2) hv.up⟩
  · cases h2
end
/-! ### boxes -/
def tagB (k : Nat) : List (PyData × PyData) := [(.int k, .int 0)]
def Abx (a : Addr) (bs : List Addr) : Atm := fun f kvs => (kvs = [] ∧ f = a) ∨ ∃ k : Nat, kvs = tagB k ∧ bs[k]? = some f
def ownS (σ : L2.St) (ρ : List Sl) (q : Addr) : Prop := ∃ (j : Nat) (es : List PyData), ρ[j]? = some (Sl.own es) ∧ σ[j]? = some (some (V.ref q))
structure RW (K : PySem.W.Frag) (a : Addr) (ns : List Int) (bs : List Addr) (H0 : Hp) (O0 O : Addr → Prop) (σ : L2.St) (H : Hp) (ρ : List Sl) : Prop where
  r : Rl K (Abx a bs) H0 O0 O σ H ρ
  scr : SqL K H0 a (ns.map V.int)
  box : ∀ b ∈ bs, O b ∧ H0 b = none ∧ ¬ ownS σ ρ b ∧ ∃ d, Bx H b d ∧ ¬ ownS σ ρ d
def WM (bs : List Addr) (H H' : Hp) : Prop := (∀ c o, c ∉ bs → H c = some o → H' c = some o) ∧ ∀ b d, b ∈ bs → Bx H b d → Bx H' b d
section
variable {K : PySem.W.Frag} {a : Addr} {ns : List Int} {bs : List Addr} {H0 : Hp} {O0 O O' : Addr → Prop} {σ σ' : L2.St} {H H1 H' : Hp} {ρ ρ' : List Sl}
theorem WM.same (e : Same H H') : WM bs H H' := ⟨fun c o _ h => e c o h, fun b d _ h => h.same e⟩
theorem WM.refl : WM bs H H := .same (.refl _)
theorem WM.trans (m : WM bs H H1) (n : WM bs H1 H') : WM bs H H' := ⟨fun c o hc h => n.1 c o hc (m.1 c o hc h), fun b d hb h => n.2 b d hb (m.2 b d hb h)⟩
theorem bx_uni {b d d' : Addr} (h : Bx H b d) (h' : Bx H b d') : d = d' := by
  obtain ⟨ns, i, h1, h2, h3⟩ := h
  obtain ⟨ms, j, g1, g2, g3⟩ := h'
  rw [h1] at g1
  injection g1 with g1
  injection g1 with g1
  injection g1 with g1 _
  injection g1
theorem bx_apart {b d b' d' : Addr} (h : Bx H b d) (h' : Bx H b' d') : d' ≠ b := fun e => by
  subst e
  obtain ⟨ns, i, h1, h2, h3⟩ := h
  obtain ⟨ms, j, g1, g2, g3⟩ := h'
  rw [h1] at g2
  injection g2 with g2
  injection g2 with g2
  match ms with
  | [] => cases g2
  | m :: ms => injection g2 with g2 _; cases g2
theorem WM.mv {b d : Addr} (hb : Bx H b d) (m : Mv b d H H') (hbm : b ∈ bs) : WM bs H H' := ⟨fun c o hc h => m.1 c o (fun e => hc (e ▸ hbm)) h, fun b' d' hb' h' => by
  by_cases e : b' = b
  · subst e
    rw [bx_uni h' hb]
    exact m.2
  · obtain ⟨ms, j, g1, g2, g3⟩ := h'
    exact ⟨ms, j, m.1 _ _ e g1, m.1 _ _ (bx_apart hb ⟨ms, j, g1, g2, g3⟩) g2, g3⟩⟩
theorem RW.evo (w : RW K a ns bs H0 O0 O σ H ρ) (m : WM bs H H') : Evo O H O H' := fun c o h n => ⟨m.1 c o (fun hc => n (w.box c hc).1) h, n⟩
theorem RW.wm (w : RW K a ns bs H0 O0 O σ H ρ) (m : WM bs H H') : RW K a ns bs H0 O0 O σ H' ρ where
  r := {
    len := w.r.len
    val := fun i d h => by
      obtain ⟨v, h1, h2⟩ := w.r.val i d h
      exact ⟨v, h1, h2.evo w.r.owl (w.evo m)⟩
    own := fun i ds h => by
      obtain ⟨p, xs, h1, h2, h3, h4, h5⟩ := w.r.own i ds h
      exact ⟨p, xs, h1, h2, h3, m.1 _ _ (fun hp => (w.box p hp).2.2.1 ⟨i, ds, h, h1⟩) h4, h5.evo w.r.owl (w.evo m)⟩
    inj := w.r.inj
    owl := fun c hc => by
      by_cases hb : c ∈ bs
      · obtain ⟨_, _, _, d, h, _⟩ := w.box c hb
        obtain ⟨ms, j, g1, _⟩ := m.2 c d hb h
        exact ⟨_, g1⟩
      · obtain ⟨xs, hx⟩ := w.r.owl c hc
        exact ⟨xs, m.1 c _ hb hx⟩
    frm := fun c o h => m.1 c o (fun hc => by rw [(w.box c hc).2.1] at h; cases h) (w.r.frm c o h)
    sub := w.r.sub
    old := w.r.old }
  scr := w.scr
  box := fun b hb => by
    obtain ⟨h1, h2, h3, d, h4, h5⟩ := w.box b hb
    exact ⟨h1, h2, h3, d, m.2 b d hb h4, h5⟩
theorem RW.scrH (w : RW K a ns bs H0 O0 O σ H ρ) : SqL K H a (ns.map V.int) := w.r.frm.seq w.scr
open Classical in
/-- the heap that pure statements leave alone: all but the lists of one's own -/
noncomputable def keepH (σ : L2.St) (ρ : List Sl) (H : Hp) : Hp := fun c => if ownS σ ρ c then none else H c
theorem keep_some {c : Addr} {o : HO} (h : keepH σ ρ H c = some o) : H c = some o := by
  unfold keepH at h
  split at h
  · cases h
  · exact h
theorem keep_of {c : Addr} (h : ¬ ownS σ ρ c) : keepH σ ρ H c = H c := if_neg h
theorem RW.lift (w : RW K a ns bs H0 O0 O σ H ρ) : Rl K (Abx a bs) (keepH σ ρ H) (fun c => O0 c ∨ c ∈ bs) O σ H ρ where
  len := w.r.len
  val := w.r.val
  own := fun i ds h => by
    obtain ⟨p, xs, h1, h2, h3, h4, h5⟩ := w.r.own i ds h
    exact ⟨p, xs, h1, h2, if_pos ⟨i, ds, h, h1⟩, h4, h5⟩
  inj := w.r.inj
  owl := w.r.owl
  frm := fun c o h => keep_some h
  sub := fun c h => by
    rcases h with h | h
    · exact w.r.sub c h
    · exact (w.box c h).1
  old := fun c h => by
    rcases h with h | h
    · obtain ⟨xs, hx⟩ := w.r.old c h
      refine ⟨xs, ?_⟩
      rw [keep_of fun ⟨j, es, h1, h2⟩ => by
        obtain ⟨p, ys, g1, g2, g3, _⟩ := w.r.own j es h1
        rw [h2] at g1
        cases g1
        rw [hx] at g3
        cases g3]
      exact w.r.frm c _ hx
    · obtain ⟨_, _, h3, d, ⟨ms, j, g1, _⟩, _⟩ := w.box c h
      exact ⟨_, (keep_of h3).trans g1⟩
theorem RW.back (w : RW K a ns bs H0 O0 O σ H ρ) (r : Rl K (Abx a bs) (keepH σ ρ H) (fun c => O0 c ∨ c ∈ bs) O' σ' H' ρ') : RW K a ns bs H0 O0 O' σ' H' ρ' := by
  have out : ∀ c, H c ≠ none → ¬ ownS σ ρ c → ¬ ownS σ' ρ' c := fun c h1 h2 ⟨j, es, g1, g2⟩ => by
    obtain ⟨p, xs, k1, k2, k3, _⟩ := r.own j es g1
    rw [g2] at k1
    cases k1
    rw [keep_of h2] at k3
    exact h1 k3
  refine ⟨⟨r.len, r.val, fun i ds h => ?_, r.inj, r.owl, fun c o h => ?_, fun c h => r.sub c (.inl h), w.r.old⟩, w.scr, fun b hb => ?_⟩
  · obtain ⟨p, xs, h1, h2, h3, h4, h5⟩ := r.own i ds h
    refine ⟨p, xs, h1, h2, ?_, h4, h5⟩
    by_cases ho : ownS σ ρ p
    · obtain ⟨j, es, g1, g2⟩ := ho
      obtain ⟨q, ys, k1, k2, k3, _⟩ := w.r.own j es g1
      rw [g2] at k1
      cases k1
      exact k3
    · rw [keep_of ho] at h3
      exact w.r.frm.free h3
  · refine r.frm c o ?_
    rw [keep_of fun ⟨j, es, h1, h2⟩ => by
      obtain ⟨p, ys, g1, g2, g3, _⟩ := w.r.own j es h1
      rw [h2] at g1
      cases g1
      rw [h] at g3
      cases g3]
    exact w.r.frm c o h
  · obtain ⟨h1, h2, h3, d, h4, h5⟩ := w.box b hb
    obtain ⟨ms, j, g1, g2, g3⟩ := h4
    refine ⟨r.sub b (.inr hb), h2, out b (by rw [g1]; exact fun h => nomatch h) h3, d, ⟨ms, j, r.frm _ _ ((keep_of h3).trans g1), r.frm _ _ ((keep_of h5).trans g2), g3⟩, out d (by rw [g2]; exact fun h => nomatch h) h5⟩
theorem RW.frm' (w : RW K a ns bs H0 O0 O σ H ρ) (e : Same (keepH σ ρ H) H') : Same H0 H' := fun c o h => by
  refine e c o ?_
  rw [keep_of fun ⟨j, es, h1, h2⟩ => by
    obtain ⟨p, ys, g1, g2, g3, _⟩ := w.r.own j es h1
    rw [h2] at g1
    cases g1
    rw [h] at g3
    cases g3]
  exact w.r.frm c o h
theorem abx_more {b : Addr} : ∀ f kvs, Abx a bs f kvs → Abx a (bs ++ [b]) f kvs := fun f kvs h => by
  rcases h with h | ⟨k, h1, h2⟩
  · exact .inl h
  · exact .inr ⟨k, h1, by rw [List.getElem?_append_left (List.getElem?_eq_some_iff.mp h2).1]; exact h2⟩
def noOwn : List Sl → Bool
  | [] => true
  | .own _ :: _ => false
  | _ :: l => noOwn l
theorem noOwn_no : ∀ {ρ : List Sl}, noOwn ρ = true → ∀ (j : Nat) (es : List PyData), ρ[j]? ≠ some (Sl.own es)
  | [], _, j, es => by simp
  | .un :: l, h, 0, es => by simp
  | .val _ :: l, h, 0, es => by simp
  | .un :: l, h, j + 1, es => by simpa using noOwn_no (ρ := l) h j es
  | .val _ :: l, h, j + 1, es => by simpa using noOwn_no (ρ := l) h j es
  | .own _ :: l, h, _, _ => by cases h
/-- a new box -/
theorem RW.more (w : RW K a ns bs H0 O0 O σ H ρ) (hn : noOwn ρ = true) {b d : Addr} (e : Same H H') (hb : H b = none) (hB : Bx H' b d) : RW K a ns (bs ++ [b]) H0 O0 (Osn O b) σ H' ρ := by
  have no : ∀ c, ¬ ownS σ ρ c := fun c ⟨j, es, h, _⟩ => noOwn_no hn j es h
  refine ⟨⟨w.r.len, fun i d' h => ?_, fun i ds h => (noOwn_no hn i ds h).elim, w.r.inj, fun c h => ?_, w.r.frm.trans e, fun c h => .inr (w.r.sub c h), w.r.old⟩, w.scr, fun c hc => ?_⟩
  · obtain ⟨v, h1, h2⟩ := w.r.val i d' h
    exact ⟨v, h1, ((h2.more hb).same e).amo abx_more⟩
  · rcases h with rfl | h
    · obtain ⟨ms, j, g1, _⟩ := hB
      exact ⟨_, g1⟩
    · obtain ⟨xs, hx⟩ := w.r.owl c h
      exact ⟨xs, e _ _ hx⟩
  · rcases List.mem_append.mp hc with hc | hc
    · obtain ⟨h1, h2, h3, d', h4, h5⟩ := w.box c hc
      exact ⟨.inr h1, h2, h3, d', h4.same e, h5⟩
    · cases List.mem_singleton.mp hc
      exact ⟨.inl rfl, w.r.frm.free hb, no _, d, hB, no _⟩
theorem evo_more {b : Addr} (e : Same H H') (hb : H b = none) : Evo O H (Osn O b) H' := fun c o h n => ⟨e c o h, fun h' => by
  rcases h' with rfl | h'
  · rw [h] at hb; cases hb
  · exact n h'⟩
end
/-! ### expressions -/
abbrev WE := List Sl → (PyData → Prop) → Prop
abbrev WA := List Sl → (List PyData → Prop) → Prop
def SW (K : PySem.W.Frag) (t : TE) (w : WE) : Prop := ∀ {a : Addr} {ns : List Int} {bs : List Addr} {H0 : Hp} {O0 O : Addr → Prop} {σ : L2.St} {H : Hp} {ρ : List Sl}, RW K a ns bs H0 O0 O σ H ρ → ∀ Q, w ρ Q → ∀ Q' : VK, (∀ v d H', WM bs H H' → Fd K (Abx a bs) O H' v d → Q d → Q' v H') → t σ H Q'
def SWs (K : PySem.W.Frag) (t : TA) (w : WA) : Prop := ∀ {a : Addr} {ns : List Int} {bs : List Addr} {H0 : Hp} {O0 O : Addr → Prop} {σ : L2.St} {H : Hp} {ρ : List Sl}, RW K a ns bs H0 O0 O σ H ρ → ∀ Q, w ρ Q → ∀ Q' : List V → Hp → Prop, (∀ vs ds H', WM bs H H' → Fds K (Abx a bs) O H' vs ds → Q ds → Q' vs H') → t σ H Q'
def wOf (fe : FE) : WE := fun ρ Q => ∃ d, fe ρ = some d ∧ Q d
def wsOf (fa : FA) : WA := fun ρ Q => ∃ ds, fa ρ = some ds ∧ Q ds
def wsNil : WA := fun _ Q => Q []
def wsCons (we : WE) (wr : WA) : WA := fun ρ Q => we ρ fun d => wr ρ fun ds => Q (d :: ds)
def wOp (g : F2) (wa wb : WE) : WE := fun ρ Q => wa ρ fun x => wb ρ fun y => ∃ c, g x y = some c ∧ Q c
def wTup (wa : WA) : WE := fun ρ Q => wa ρ fun ds => ds.length ≤ 10000000 ∧ Q (.tuple ds)
def wLst (wa : WA) : WE := fun ρ Q => wa ρ fun ds => ds.length ≤ 10000000 ∧ Q (.list ds)
def wCall (fn : Fn) (wa : WA) : WE := fun ρ Q => wa ρ fun ds => ∃ d, fn ds = some d ∧ Q d
def wCall0 (fn : Fn) (wa : WA) : WE := fun ρ Q => wa ρ fun ds => noAs ds = true ∧ ∃ d, fn ds = some d ∧ Q d
def wTake (wa : WA) : WE := fun ρ Q => wa ρ fun ds => ∃ (k : Nat) (m : Int), ds = [.dict (tagB k), .int m] ∧ 0 < m ∧ ∀ r : Int, 0 ≤ r → r < m → Q (.int r)
section
variable {K : PySem.W.Frag} {ta tb te : TE} {wa wb we : WE} {tas : TA} {was : WA}
theorem sw_of {fe : FE} (h : ∀ A, SE K A te fe) : SW K te (wOf fe) := fun {a ns bs H0 O0 O σ H ρ} w Q hQ Q' q => by
  obtain ⟨d, h1, h2⟩ := hQ
  exact h (Abx a bs) w.r d h1 Q' fun v H' e hv => q v d H' (.same e) hv h2
theorem sws_of {fa : FA} (h : ∀ A, SA K A tas fa) : SWs K tas (wsOf fa) := fun {a ns bs H0 O0 O σ H ρ} w Q hQ Q' q => by
  obtain ⟨ds, h1, h2⟩ := hQ
  exact h (Abx a bs) w.r ds h1 Q' fun vs H' e hv => q vs ds H' (.same e) hv h2
theorem sws_nil : SWs K tNil wsNil := fun w Q hQ Q' q => q [] [] _ .refl .nil hQ
theorem sws_cons (h1 : SW K ta wa) (h2 : SWs K tas was) : SWs K (tCons ta tas) (wsCons wa was) := fun {a ns bs H0 O0 O σ H ρ} w Q hQ Q' q => by
  refine h1 w _ hQ _ fun x d H1 m1 hx hQ1 => ?_
  have w1 := w.wm m1
  refine h2 w1 _ hQ1 _ fun vs ds H2 m2 hvs hQ2 => ?_
  exact q _ _ H2 (m1.trans m2) (.cons (hx.evo w1.r.owl (w1.evo m2)) hvs) hQ2
theorem sw_op {r : R2} {g : F2} (h1 : SW K ta wa) (h2 : SW K tb wb) (hr : ∀ A, RD K A r g) : SW K (tOp r ta tb) (wOp g wa wb) := fun {a ns bs H0 O0 O σ H ρ} w Q hQ Q' q => by
  refine h1 w _ hQ _ fun x d H1 m1 hx hQ1 => ?_
  have w1 := w.wm m1
  refine h2 w1 _ hQ1 _ fun y e H2 m2 hy hQ2 => ?_
  obtain ⟨c, hc, hQ3⟩ := hQ2
  have w2 := w1.wm m2
  exact hr (Abx a bs) w2.r.owl (hx.evo w1.r.owl (w1.evo m2)) hy c hc _ fun v H3 e3 hv => q v c H3 ((m1.trans m2).trans (.same e3)) hv hQ3
theorem sw_tup (h : SWs K tas was) : SW K (tTup tas) (wTup was) := fun {a ns bs H0 O0 O σ H ρ} w Q hQ Q' q => by
  refine h w _ hQ _ fun vs ds H1 m1 hvs hQ1 => ?_
  obtain ⟨hl, hQ2⟩ := hQ1
  exact ⟨sz100 (by rw [hvs.1]; exact hl), fun p hp => q _ _ _ (m1.trans (.same (Cr.same_new hp))) ((hvs.same (Cr.same_new hp)).tup (.of upd_same)) hQ2⟩
theorem sw_lst (h : SWs K tas was) : SW K (tLst tas) (wLst was) := fun {a ns bs H0 O0 O σ H ρ} w Q hQ Q' q => by
  refine h w _ hQ _ fun vs ds H1 m1 hvs hQ1 => ?_
  obtain ⟨hl, hQ2⟩ := hQ1
  exact ⟨sz100 (by rw [hvs.1]; exact hl), fun p hp => q _ _ _ (m1.trans (.same (Cr.same_new hp))) ((hvs.same (Cr.same_new hp)).lst upd_same ((w.wm m1).r.owl.none hp)) hQ2⟩
theorem sw_cb {r : List V → Hp → VK → Prop} {gn : Fn} (h : SWs K tas was) (hr : ∀ A, RDs K A r gn) : SW K (tCB r tas) (wCall gn was) := fun {a ns bs H0 O0 O σ H ρ} w Q hQ Q' q => by
  refine h w _ hQ _ fun vs ds H1 m1 hvs hQ1 => ?_
  obtain ⟨d, h1, hQ2⟩ := hQ1
  exact hr (Abx a bs) (w.wm m1).r.owl hvs d h1 _ fun v H2 e2 hv => q v d H2 (m1.trans (.same e2)) hv hQ2
theorem sw_call0 {E : XK} {fn : Fn} (h : SWs K tas was) : SW K (tCall (spF K A0 fn) [] E tas) (wCall0 fn was) := fun {a ns bs H0 O0 O σ H ρ} w Q hQ Q' q => by
  refine h w _ hQ _ fun vs ds H1 m1 hvs hQ1 => ?_
  obtain ⟨hn, d, h1, hQ2⟩ := hQ1
  exact ⟨O, ds, d, (w.wm m1).r.owl, by rw [List.append_nil]; exact hvs.noa hn, h1, fun v H2 e2 hv => q v d H2 (m1.trans (.same e2)) hv.up hQ2⟩
theorem abx_box {a : Addr} {bs : List Addr} {f : Addr} {k : Nat} (h : Abx a bs f (tagB k)) : bs[k]? = some f := by
  rcases h with ⟨h, _⟩ | ⟨j, h1, h2⟩
  · cases h
  · unfold tagB at h1
    injection h1 with h1 _
    injection h1 with h1 _
    injection h1 with h1
    rw [Int.ofNat_inj.mp h1]
    exact h2
theorem sw_take {E : XK} (h : SWs K tas was) : SW K (tCall spTake [] E tas) (wTake was) := fun {a ns bs H0 O0 O σ H ρ} w Q hQ Q' q => by
  refine h w _ hQ _ fun vs ds H1 m1 hvs hQ1 => ?_
  obtain ⟨k, m, rfl, hm, hQ2⟩ := hQ1
  obtain ⟨v, ws, rfl, h1, h2⟩ := hvs.head
  obtain ⟨u, rfl, h3⟩ := one_inv h2
  cases h3.int_inv
  cases h1 with
  | fn hA =>
    have hbm := List.mem_of_getElem? (abx_box hA)
    obtain ⟨_, _, _, d, hB, _⟩ := (w.wm m1).box _ hbm
    exact ⟨_, d, m, rfl, hB, hm, fun r H2 h0 hr hv => q _ _ H2 (m1.trans (.mv hB hv hbm)) (.int r) (hQ2 r h0 hr)⟩
/-! ### comprehensions -/
def wList (g : PyData → List Sl → Option (List Sl)) (we : WE) (ρ : List Sl) : List PyData → (List PyData → Prop) → Prop
  | [], Q => Q []
  | d :: ds, Q => ∃ ρ1, g d ρ = some ρ1 ∧ we ρ1 fun y => wList g we ρ ds fun r => Q (y :: r)
def SIW (K : PySem.W.Frag) (wi : TI) (w : WA) : Prop := ∀ {a : Addr} {ns : List Int} {bs : List Addr} {H0 : Hp} {O0 O : Addr → Prop} {σ : L2.St} {H : Hp} {ρ : List Sl}, RW K a ns bs H0 O0 O σ H ρ → ∀ Q, w ρ Q → ∀ R : It → Hp → Prop, (∀ J ds H', WM bs H H' → Wk K (Abx a bs) O H' J ds → Q ds → R J H') → wi σ H R
theorem siw_of {wi : TI} {fi : FA} (h : ∀ A, SI K A wi fi) : SIW K wi (wsOf fi) := fun {a ns bs H0 O0 O σ H ρ} w Q hQ R q => by
  obtain ⟨ds, h1, h2⟩ := hQ
  exact h (Abx a bs) w.r ds h1 R fun J H1 e1 wk => q J ds H1 (.same e1) wk h2
def wRng1 (wa : WA) : WA := fun ρ Q => wa ρ fun ds => ∃ n : Int, ds = [.int n] ∧ -10000000 ≤ n ∧ n ≤ 10000000 ∧ Q (rngD 0 n.toNat)
theorem siw_rng1 (h : SWs K tas was) : SIW K (iRng1 tas) (wRng1 was) := fun {a ns bs H0 O0 O σ H ρ} w Q hQ R q => by
  refine h w _ hQ _ fun vs ds H1 m1 hvs hQ1 => ?_
  obtain ⟨n, rfl, h1, h2, hQ2⟩ := hQ1
  obtain ⟨v, rfl, hv⟩ := one_inv hvs
  cases hv.int_inv
  exact ⟨n, rfl, by omega, by omega, q _ _ _ m1 (wk_rng 0 n.toNat) hQ2⟩
theorem wList_mono {g : PyData → List Sl → Option (List Sl)} {we : WE} {ρ : List Sl} (hm : ∀ ρ Q Q', (∀ d, Q d → Q' d) → we ρ Q → we ρ Q') : ∀ ds Q Q', (∀ r, Q r → Q' r) → wList g we ρ ds Q → wList g we ρ ds Q'
  | [], Q, Q', h, hq => h _ hq
  | d :: ds, Q, Q', h, ⟨ρ1, h1, h2⟩ => ⟨ρ1, h1, hm _ _ _ (fun y hy => wList_mono hm ds _ _ (fun r hr => h _ hr) hy) h2⟩
def wComp (wi : WA) (g : PyData → List Sl → Option (List Sl)) (we : WE) (vs : List Nat) : WE := fun ρ Q => wi ρ fun ds => ds.length ≤ 10000000 ∧ wList g we (wpS ρ vs) ds fun r => Q (.list r)
end
section
variable {K : PySem.W.Frag} {a : Addr} {ns : List Int} {bs : List Addr} {H0 : Hp} {O0 O O' : Addr → Prop} {σ σ' : L2.St} {H H1 H' : Hp} {ρ ρ' : List Sl}
theorem own_wipe {q : Addr} : ∀ {vs : List Nat}, ownS (L2.wipe σ vs) (wpS ρ vs) q → ownS σ ρ q
  | [], h => h
  | v :: vs, ⟨j, es, h1, h2⟩ => by
    refine own_wipe (vs := vs) ?_
    have h1 : ((wpS ρ vs).set v Sl.un)[j]? = some (Sl.own es) := h1
    have h2 : ((L2.wipe σ vs).set v none)[j]? = some (some (V.ref q)) := h2
    have hv : v ≠ j := fun e => by
      subst e
      rw [List.getElem?_set, if_pos rfl] at h1
      split at h1 <;> cases h1
    rw [List.getElem?_set_ne hv] at h1 h2
    exact ⟨j, es, h1, h2⟩
theorem RW.wipe (w : RW K a ns bs H0 O0 O σ H ρ) (vs : List Nat) : RW K a ns bs H0 O0 O (L2.wipe σ vs) H (wpS ρ vs) where
  r := w.r.wipe vs
  scr := w.scr
  box := fun b hb => by
    obtain ⟨h1, h2, h3, d, h4, h5⟩ := w.box b hb
    exact ⟨h1, h2, fun h => h3 (own_wipe h), d, h4, fun h => h5 (own_wipe h)⟩
theorem RW.osn (w : RW K a ns bs H0 O0 O σ H ρ) {p : Addr} {xs : List V} (hp : H p = none) (e : Same H H') (hx : H' p = some (.lst xs)) : RW K a ns bs H0 O0 (Osn O p) σ H' ρ where
  r := w.r.osn hp e hx
  scr := w.scr
  box := fun b hb => by
    obtain ⟨h1, h2, h3, d, h4, h5⟩ := w.box b hb
    exact ⟨.inr h1, h2, h3, d, h4.same e, h5⟩
theorem RW.osw (w : RW K a ns bs H0 O0 O σ H ρ) {p : Addr} {xs : List V} (hp : H p = none) (m : WM bs H H') (hx : H' p = some (.lst xs)) : RW K a ns bs H0 O0 (Osn O p) σ H' ρ := by
  have hb : ∀ b ∈ bs, b ≠ p := fun b hb e => by
    obtain ⟨_, _, _, d, ⟨ms, j, g1, _⟩, _⟩ := w.box b hb
    rw [e, hp] at g1
    cases g1
  refine (w.osn (H' := upd H p (.lst xs)) hp (Cr.same_new hp) upd_same).wm ⟨fun c o hc h => ?_, fun b d hbm h => ?_⟩
  · by_cases e : c = p
    · subst e
      rw [upd_same] at h
      cases h
      exact hx
    · rw [upd_ne e] at h
      exact m.1 c o hc h
  · obtain ⟨_, _, _, d1, hB1, _⟩ := w.box b hbm
    have hd : d = d1 := bx_uni h (hB1.same (Cr.same_new hp))
    subst hd
    exact m.2 b d hbm hB1
theorem sw_lc {wi : TI} {ww : WA} {tg : TG} {gg : PyData → List Sl → Option (List Sl)} {ws vs : List Nat} {te : TE} {we : WE} (hi : SIW K wi ww) (hg : ∀ A, SG K A tg gg ws) (hsub : ∀ i ∈ ws, i ∈ vs) (he : SW K te we) : SW K (tLc wi tg tYes te vs) (wComp ww gg we vs) := fun {a ns bs H0 O0 O σ H ρ} w Q hQ Q' q => by
  refine hi w _ hQ _ fun J ds H1 m1 wk hQ1 => ?_
  obtain ⟨hlen, hQ1⟩ := hQ1
  obtain ⟨G, Y, wl, hw⟩ := wk
  have w0 := w.wm m1
  have w1 := w0.wipe vs
  intro Dl hD
  have hbD : Dl ∉ bs := fun hb => by
    obtain ⟨_, _, _, d, ⟨ms, j, g1, _⟩, _⟩ := w1.box Dl hb
    rw [hD] at g1
    cases g1
  have evo : ∀ {H'}, WM bs H1 H' → Evo O H1 (Osn O Dl) H' := fun m c o hc hn => ⟨(w1.evo m c o hc hn).1, fun h => by
    rcases h with h | h
    · rw [h, hD] at hc
      cases hc
    · exact hn h⟩
  refine lc_it wl (D := Dl) (fun i H' => ∃ acc done, WM bs H1 H' ∧ H' Dl = some (.lst acc) ∧ Fds K (Abx a bs) (Osn O Dl) H' acc done ∧ done.length = i ∧ wList gg we (wpS ρ vs) (ds.drop i) fun r => Q (.list (done ++ r))) ⟨[], [], .same (Cr.same_new hD), upd_same, .nil, rfl, hQ1⟩ (fun i H' _ hP => ?_) (fun i x H' H2 hi' hP hy => ?_) (fun H' hP => ?_)
  · obtain ⟨acc, done, m, hDl, _⟩ := hP
    exact (hw (Osn O Dl) H' (w1.osw hD m hDl).r.owl (evo m)).1
  · obtain ⟨acc, done, m, hDl, hacc, hdl, hc⟩ := hP
    have w2 := w1.osw hD m hDl
    obtain ⟨e2, d, hd, hx⟩ := (hw (Osn O Dl) H' w2.r.owl (evo m)).2 i x H2 hi' hy
    have hdr : ds.drop i = d :: ds.drop (i + 1) := by
      obtain ⟨hlt, rfl⟩ := List.getElem?_eq_some_iff.mp hd
      exact List.drop_eq_getElem_cons hlt
    have hlt := (List.getElem?_eq_some_iff.mp hd).1
    rw [hdr] at hc
    obtain ⟨ρ1, h3, h4⟩ := hc
    have w3 := w2.wm (.same e2)
    refine hg (Abx a bs) w3.lift hx ρ1 h3 _ fun σ2 r3 l3 k3 _ => ⟨?_, ?_⟩
    · rw [wipe_ext (σ := L2.wipe σ vs) (by rw [l3]) (fun i hi => k3 i fun h => hi (hsub i h)), wipe_wipe]
    · dsimp only [tYes]
      rw [if_pos rfl]
      refine he (w3.back r3) _ h4 _ fun v y H4 m4 hv hQ2 => ?_
      have m24 : WM bs H' H4 := (WM.same e2).trans m4
      have hD4 : H4 Dl = some (.lst acc) := m24.1 _ _ hbD hDl
      have hacc4 : Fds K (Abx a bs) (Osn O Dl) H4 acc done := hacc.evo w2.r.owl (w2.evo m24)
      have ev4 : Evo (Osn O Dl) H4 (Osn O Dl) (upd H4 Dl (.lst (acc ++ [v]))) := fun c o ha hn => ⟨by
        rw [upd_ne (fun e => hn (.inl e))]
        exact ha, hn⟩
      have w4 := w2.wm m24
      refine ⟨acc, hD4, ?_, acc ++ [v], done ++ [y], ?_, upd_same, (hacc4.snoc hv).evo w4.r.owl ev4, by rw [List.length_append, hdl]; rfl, ?_⟩
      · have h6 : acc.length = done.length := hacc.1
        exact Nat.lt_of_lt_of_le (show acc.length < 10000000 by omega) (by decide)
      · have m14 := m.trans m24
        refine ⟨fun c o hc h => ?_, fun b d hb h => ?_⟩
        · have hne : c ≠ Dl := fun e => by
            subst e
            rw [hD] at h
            cases h
          rw [upd_ne hne]
          exact m14.1 c o hc h
        · obtain ⟨ms, j, g1, g2, g3⟩ := h
          have n1 : b ≠ Dl := fun e => hbD (e ▸ hb)
          have n2 : d ≠ Dl := fun e => by
            subst e
            rw [hD] at g2
            cases g2
          obtain ⟨ms', j', k1, k2, k3⟩ := m14.2 b d hb ⟨ms, j, g1, g2, g3⟩
          exact ⟨ms', j', by rw [upd_ne n1]; exact k1, by rw [upd_ne n2]; exact k2, k3⟩
      · simpa using hQ2
  · obtain ⟨acc, done, m, hDl, hacc, hdl, hc⟩ := hP
    rw [List.drop_length] at hc
    have hc : Q (.list (done ++ [])) := hc
    rw [List.append_nil] at hc
    exact q _ _ H' (m1.trans m) ((hacc.less fun a h => .inr h).lst hDl (w0.r.owl.none hD)) hc
end
/-! ### statements -/
abbrev WS := Nat → List Sl → (Fl → Nat → List Sl → Prop) → Prop
def Ext (bs bs' : List Addr) : Prop := ∃ t, bs' = bs ++ t
theorem Ext.refl {bs : List Addr} : Ext bs bs := ⟨[], (List.append_nil _).symm⟩
theorem Ext.trans {bs bs1 bs2 : List Addr} (h : Ext bs bs1) (g : Ext bs1 bs2) : Ext bs bs2 := by
  obtain ⟨t, rfl⟩ := h
  obtain ⟨u, rfl⟩ := g
  exact ⟨t ++ u, List.append_assoc _ _ _⟩
def PostW (K : PySem.W.Frag) (a : Addr) (ns : List Int) (bs : List Addr) (H0 : Hp) (O0 O : Addr → Prop) (H : Hp) (D : Ends) (fl : Fl) (n : Nat) (ρ' : List Sl) : Prop := match fl with
  | .nx => ∀ bs' σ' H' O', Ext bs bs' → bs'.length = n → RW K a ns bs' H0 O0 O' σ' H' ρ' → Evo O H O' H' → D.nx σ' H'
  | .bk => ∀ bs' σ' H' O', Ext bs bs' → bs'.length = n → RW K a ns bs' H0 O0 O' σ' H' ρ' → Evo O H O' H' → D.bk σ' H'
  | .ct => ∀ bs' σ' H' O', Ext bs bs' → bs'.length = n → RW K a ns bs' H0 O0 O' σ' H' ρ' → Evo O H O' H' → D.ct σ' H'
  | .rt d => ∀ bs' v H', Ext bs bs' → Same H0 H' → Fd K (Abx a bs') O0 H' v d → D.rt v H'
def SSw (K : PySem.W.Frag) (t : TS) (w : WS) : Prop := ∀ {a : Addr} {ns : List Int} {bs : List Addr} {H0 : Hp} {O0 O : Addr → Prop} {σ : L2.St} {H : Hp} {ρ : List Sl}, RW K a ns bs H0 O0 O σ H ρ → ∀ Q, w bs.length ρ Q → ∀ D : Ends, (∀ fl n ρ', Q fl n ρ' → PostW K a ns bs H0 O0 O H D fl n ρ') → t D σ H
def wSt (f : FS) : WS := fun n ρ Q => ∃ o, f ρ = some o ∧ Q o.1 n o.2
def wSeq (w1 w2 : WS) : WS := fun n ρ Q => w1 n ρ fun fl n' ρ' => match fl with
  | .nx => w2 n' ρ' Q
  | fl => Q fl n' ρ'
def wIf (t : FT) (w1 w2 : WS) : WS := fun n ρ Q => ∃ b, t ρ = some b ∧ if b then w1 n ρ Q else w2 n ρ Q
def wAsg (we : WE) (g : PyData → List Sl → Option (List Sl)) : WS := fun n ρ Q => we ρ fun d => ∃ ρ1, g d ρ = some ρ1 ∧ Q .nx n ρ1
def wLoop (g : PyData → List Sl → Option (List Sl)) (wb : WS) : List PyData → WS
  | [], n, ρ, Q => Q .nx n ρ
  | d :: ds, n, ρ, Q => ∃ ρ1, g d ρ = some ρ1 ∧ wb n ρ1 fun fl n2 ρ2 => match fl with
    | .nx => wLoop g wb ds n2 ρ2 Q
    | .ct => wLoop g wb ds n2 ρ2 Q
    | .bk => Q .nx n2 ρ2
    | .rt d => Q (.rt d) n2 ρ2
def wFor (wi : WA) (g : PyData → List Sl → Option (List Sl)) (wb : WS) : WS := fun n ρ Q => wi ρ fun ds => wLoop g wb ds n ρ Q
section
variable {K : PySem.W.Frag} {a : Addr} {ns : List Int} {bs bs' : List Addr} {H0 : Hp} {O0 O O' : Addr → Prop} {H H' : Hp} {D : Ends} {t u : TS} {w1 w2 : WS}
theorem PostW.evo {fl : Fl} {n : Nat} {ρ' : List Sl} (x : Ext bs bs') (e : Evo O H O' H') (p : PostW K a ns bs H0 O0 O H D fl n ρ') : PostW K a ns bs' H0 O0 O' H' D fl n ρ' := by
  cases fl with
  | nx => exact fun b2 σ2 H2 O2 x2 l2 r2 e2 => p b2 σ2 H2 O2 (x.trans x2) l2 r2 (e.trans e2)
  | bk => exact fun b2 σ2 H2 O2 x2 l2 r2 e2 => p b2 σ2 H2 O2 (x.trans x2) l2 r2 (e.trans e2)
  | ct => exact fun b2 σ2 H2 O2 x2 l2 r2 e2 => p b2 σ2 H2 O2 (x.trans x2) l2 r2 (e.trans e2)
  | rt d => exact fun b2 v H2 x2 s2 hv => p b2 v H2 (x.trans x2) s2 hv
theorem ssw_of {f : FS} (h : ∀ A, SS K A t f) : SSw K t (wSt f) := fun {a ns bs H0 O0 O σ H ρ} w Q hQ D p => by
  obtain ⟨⟨fl, ρ'⟩, h1, h2⟩ := hQ
  have hp := p fl bs.length ρ' h2
  refine h (Abx a bs) w.lift (fl, ρ') h1 D ?_
  cases fl with
  | nx => exact fun σ' H' O' r e => hp bs σ' H' O' .refl rfl (w.back r) e
  | bk => exact fun σ' H' O' r e => hp bs σ' H' O' .refl rfl (w.back r) e
  | ct => exact fun σ' H' O' r e => hp bs σ' H' O' .refl rfl (w.back r) e
  | rt d => exact fun v H' s hv => hp bs v H' .refl (w.frm' s) (hv.less fun c hc => .inl hc)
theorem ssw_seq (h1 : SSw K t w1) (h2 : SSw K u w2) : SSw K (tSeq t u) (wSeq w1 w2) := fun {a ns bs H0 O0 O σ H ρ} w Q hQ D p => by
  refine h1 w _ hQ _ fun fl n ρ' hq => ?_
  cases fl with
  | nx => exact fun bs' σ' H' O' x l r e => h2 r Q (by rw [l]; exact hq) D fun fl2 n2 ρ2 hq2 => (p fl2 n2 ρ2 hq2).evo x e
  | bk => exact p .bk n ρ' hq
  | ct => exact p .ct n ρ' hq
  | rt d => exact p (.rt d) n ρ' hq
theorem ssw_if {tt : TT} {ft : FT} (ht : ∀ A, ST K A tt ft) (h1 : SSw K t w1) (h2 : SSw K u w2) : SSw K (tIfS tt t u) (wIf ft w1 w2) := fun {a ns bs H0 O0 O σ H ρ} w Q hQ D p => by
  obtain ⟨b, hb, hQ⟩ := hQ
  refine ht (Abx a bs) w.r b hb _ fun H1 e1 => ?_
  have w1' := w.wm (.same e1)
  cases b with
  | true => exact iteT (h1 w1' Q hQ D fun fl n ρ' hq => (p fl n ρ' hq).evo .refl (.same e1))
  | false => exact iteF (h2 w1' Q (by simpa using hQ) D fun fl n ρ' hq => (p fl n ρ' hq).evo .refl (.same e1))
theorem ssw_asg {te : TE} {we : WE} {tg : TG} {gg : PyData → List Sl → Option (List Sl)} {ws : List Nat} (he : SW K te we) (hg : ∀ A, SG K A tg gg ws) : SSw K (tAsg te tg) (wAsg we gg) := fun {a ns bs H0 O0 O σ H ρ} w Q hQ D p => by
  refine he w _ hQ _ fun v d H1 m1 hv hQ1 => ?_
  obtain ⟨ρ1, h1, h2⟩ := hQ1
  have w1 := w.wm m1
  exact hg (Abx a bs) w1.lift hv ρ1 h1 _ fun σ' r _ _ _ => p .nx _ ρ1 h2 bs σ' H1 O .refl rfl (w1.back r) (w.evo m1)
theorem ssw_for {wi : TI} {ww : WA} {tg : TG} {gg : PyData → List Sl → Option (List Sl)} {ws : List Nat} (hi : SIW K wi ww) (hg : ∀ A, SG K A tg gg ws) (hb : SSw K t w1) : SSw K (tFor wi tg t) (wFor ww gg w1) := fun {a ns bs H0 O0 O σ H ρ} w Q hQ D p => by
  refine hi w _ hQ _ fun J ds H1 m1 wk hQ1 => ?_
  obtain ⟨G, Y, wl, hw⟩ := wk
  refine for_it wl (D := D) (fun i σ' H' => ∃ bs' O' ρ', Ext bs bs' ∧ RW K a ns bs' H0 O0 O' σ' H' ρ' ∧ Evo O H1 O' H' ∧ wLoop gg w1 (ds.drop i) bs'.length ρ' Q) ⟨bs, O, ρ, .refl, w.wm m1, .refl, hQ1⟩ (fun i σ' H' _ hP => ?_) (fun i x σ' H' H2 hi hP hy => ?_) (fun σ' H' hP => ?_)
  · obtain ⟨bs', O', ρ', _, r', ev, _⟩ := hP
    exact (hw O' H' r'.r.owl ev).1
  · obtain ⟨bs', O', ρ', x', r', ev, hl⟩ := hP
    obtain ⟨e2, d, hd, hx⟩ := (hw O' H' r'.r.owl ev).2 i x H2 hi hy
    have hdr : ds.drop i = d :: ds.drop (i + 1) := by
      obtain ⟨hlt, rfl⟩ := List.getElem?_eq_some_iff.mp hd
      exact List.drop_eq_getElem_cons hlt
    rw [hdr] at hl
    obtain ⟨ρ1, h3, h4⟩ := hl
    have r2 := r'.wm (.same e2)
    have hx' : Fd K (Abx a bs') O' H2 x d := hx.amo fun f kvs h => by
      obtain ⟨t, rfl⟩ := x'
      rcases h with h | ⟨k, h1, h2⟩
      · exact .inl h
      · exact .inr ⟨k, h1, by rw [List.getElem?_append_left (List.getElem?_eq_some_iff.mp h2).1]; exact h2⟩
    refine hg (Abx a bs') r2.lift hx' ρ1 h3 _ fun σ2 r3 _ _ _ => ?_
    have ev2 : Evo O H1 O' H2 := ev.trans (.same e2)
    refine hb (r2.back r3) _ h4 _ fun fl n2 ρ2 hq => ?_
    cases fl with
    | nx => exact fun b3 σ3 H3 O3 x3 l3 r3 ev3 => ⟨b3, O3, ρ2, x'.trans x3, r3, ev2.trans ev3, by rw [l3]; exact hq⟩
    | ct => exact fun b3 σ3 H3 O3 x3 l3 r3 ev3 => ⟨b3, O3, ρ2, x'.trans x3, r3, ev2.trans ev3, by rw [l3]; exact hq⟩
    | bk => exact fun b3 σ3 H3 O3 x3 l3 r3 ev3 => p .nx n2 ρ2 hq b3 σ3 H3 O3 (x'.trans x3) l3 r3 ((w.evo m1).trans (ev2.trans ev3))
    | rt d' => exact fun b3 v H3 x3 s3 hv => p (.rt d') n2 ρ2 hq b3 v H3 (x'.trans x3) s3 hv
  · obtain ⟨bs', O', ρ', x', r', ev, hl⟩ := hP
    rw [List.drop_length] at hl
    exact p .nx _ ρ' hl bs' σ' H' O' x' rfl r' ((w.evo m1).trans ev)
/-! ### new boxes -/
def wBox (wa : WA) (i : Nat) : WS := fun n ρ Q => noOwn ρ = true ∧ wa ρ fun ds => ∃ k : Nat, ds = [.dict [], .int (k : Int)] ∧ Q .nx (n + 1) (ρ.set i (.val (.dict (tagB n))))
theorem abx_scr {f : Addr} (h : Abx a bs f []) : f = a := by
  rcases h with ⟨_, h⟩ | ⟨j, h1, _⟩
  · exact h
  · cases h1
theorem ssw_box {E : XK} {tas : TA} {was : WA} {i : Nat} (h : SWs K tas was) : SSw K (tAsg (tCall (spBox K) [] E tas) (gName i)) (wBox was i) := fun {a ns bs H0 O0 O σ H ρ} w Q hQ D p => by
  obtain ⟨hn, hQ⟩ := hQ
  refine h w _ hQ _ fun vs ds H1 m1 hvs hQ1 => ?_
  obtain ⟨k, rfl, hQ2⟩ := hQ1
  obtain ⟨v, ws, rfl, h1, h2⟩ := hvs.head
  obtain ⟨u, rfl, h3⟩ := one_inv h2
  cases h3.int_inv
  cases h1 with
  | @fn f kvs hA =>
    cases abx_scr hA
    have w1 := w.wm m1
    refine ⟨_, ns, k, rfl, w1.scrH, fun b d H2 e2 hb hB => ?_⟩
    have w2 := w1.more hn e2 hb hB
    have hv : Fd K (Abx a (bs ++ [b])) (Osn O b) H2 (.ref b) (.dict (tagB bs.length)) := .fn (.inr ⟨bs.length, rfl, by simp⟩)
    exact sg_name (K := K) (A := Abx a (bs ++ [b])) i w2.lift hv _ rfl _ fun σ' r _ _ _ => p .nx _ _ hQ2 _ σ' H2 (Osn O b) ⟨[b], rfl⟩ (by simp) (w2.back r) ((w.evo m1).trans (evo_more e2 hb))
/-- a generator with its kind and its box -/
def wSome (wa : WA) (i j k : Nat) : WS := fun n ρ Q => noOwn ρ = true ∧ wa ρ fun ds => ∃ m : Nat, ds = [.dict [], .int (m : Int)] ∧ ∀ g kd, OkG 6 g → GenK g kd → OkK 3 kd → NeK kd → CapG (2 ^ 2 * baseK kd) g →
  Q .nx (n + 1) (((ρ.set i (.val g.data)).set j (.val kd.data)).set k (.val (.dict (tagB n))))
theorem ssw_some {E : XK} {tas : TA} {was : WA} {i j k : Nat} (h : SWs K tas was) : SSw K (tAsg (tCall (spLSome K) [] E tas) (gTup K 3 (gCons (gName i) (gCons (gName j) (gCons (gName k) gNil))))) (wSome was i j k) := fun {a ns bs H0 O0 O σ H ρ} w Q hQ D p => by
  obtain ⟨hn, hQ⟩ := hQ
  refine h w _ hQ _ fun vs ds H1 m1 hvs hQ1 => ?_
  obtain ⟨m, rfl, hQ2⟩ := hQ1
  obtain ⟨v, ws, rfl, h1, h2⟩ := hvs.head
  obtain ⟨u, rfl, h3⟩ := one_inv h2
  cases h3.int_inv
  cases h1 with
  | @fn f kvs hA =>
    cases abx_scr hA
    have w1 := w.wm m1
    refine ⟨_, ns, m, rfl, w1.scrH, fun q v u b d g kd H2 e2 hb hB hq hv hu hg hgk hk hne hcap => ?_⟩
    have w2 := w1.more hn e2 hb hB
    have hbx : Fd K (Abx a (bs ++ [b])) (Osn O b) H2 (.ref b) (.dict (tagB bs.length)) := .fn (.inr ⟨bs.length, rfl, by simp⟩)
    have ht : Fd K (Abx a (bs ++ [b])) (Osn O b) H2 (.ref q) (.tuple [g.data, kd.data, .dict (tagB bs.length)]) := (Fds.cons (.of_vd hv) (.cons (.of_vd hu) (.cons hbx .nil))).tup (.inl (.inl hq))
    exact sg_tup (K := K) (A := Abx a (bs ++ [b])) 3 (sgs_cons (sg_name i) (sgs_cons (sg_name j) (sgs_cons (sg_name k) sgs_nil))) w2.lift ht _ rfl _ fun σ' r _ _ _ => p .nx _ _ (hQ2 g kd hg hgk hk hne hcap) _ σ' H2 (Osn O b) ⟨[b], rfl⟩ (by simp) (w2.back r) ((w.evo m1).trans (evo_more e2 hb))
end
end Sm
set_option maxRecDepth 10000000
/-! a law's turns -/
namespace Sm
open PySem PySem.Spec PyProof.Rows L2 Evl CrT Cr
abbrev WO := List Sl → (Option Int → Prop) → Prop
def SOW (K : PySem.W.Frag) (t : TO) (w : WO) : Prop := ∀ {a : Addr} {ns : List Int} {bs : List Addr} {H0 : Hp} {O0 O : Addr → Prop} {σ : L2.St} {H : Hp} {ρ : List Sl}, RW K a ns bs H0 O0 O σ H ρ → ∀ Q, w ρ Q → ∀ Q' : Option Int → Hp → Prop, (∀ o H', WM bs H H' → Q o → Q' o H') → t σ H Q'
def wNoPart : WO := fun _ Q => Q none
def wPart (we : WE) : WO := fun ρ Q => we ρ fun d => ∃ i, d = .int i ∧ Q (some i)
def wSl (g : PyData → Option Int → Option Int → Option PyData) (we : WE) (wl wh : WO) : WE := fun ρ Q => we ρ fun d => wl ρ fun l => wh ρ fun u => ∃ c, g d l u = some c ∧ Q c
theorem sow_none {K : PySem.W.Frag} : SOW K tNoPart wNoPart := fun w Q hQ Q' q => q none _ .refl hQ
theorem sow_some {K : PySem.W.Frag} {te : TE} {we : WE} (h : SW K te we) : SOW K (tPart te) (wPart we) := fun w Q hQ Q' q => by
  refine h w _ hQ _ fun v d H1 m1 hv hQ1 => ?_
  obtain ⟨i, rfl, hQ2⟩ := hQ1
  exact ⟨_, hv.int_inv, q _ H1 m1 hQ2⟩
theorem sw_sl {K : PySem.W.Frag} {te : TE} {we : WE} {tl th : TO} {wl wh : WO} {r : V → Option Int → Option Int → Hp → VK → Prop} {g : PyData → Option Int → Option Int → Option PyData} (h : SW K te we) (hl : SOW K tl wl) (hh : SOW K th wh) (hr : ∀ A, RS K A r g) : SW K (tSl r te tl th) (wSl g we wl wh) := fun {a ns bs H0 O0 O σ H ρ} w Q hQ Q' q => by
  refine h w _ hQ _ fun x d H1 m1 hx hQ1 => ?_
  have w1 := w.wm m1
  refine hl w1 _ hQ1 _ fun l H2 m2 hQ2 => ?_
  have w2 := w1.wm m2
  refine hh w2 _ hQ2 _ fun u H3 m3 hQ3 => ?_
  have w3 := w2.wm m3
  obtain ⟨c, hc, hQ4⟩ := hQ3
  exact hr (Abx a bs) w3.r.owl ((hx.evo w1.r.owl (w1.evo m2)).evo w2.r.owl (w2.evo m3)) l u c hc _ fun v H4 e4 hv => q v c H4 (((m1.trans m2).trans m3).trans (.same e4)) hv hQ4
def LInv (K : PySem.W.Frag) (a : Addr) (ns : List Int) (N : Nat) (σ : L2.St) (H : Hp) : Prop := σ.length = N ∧ σ[0]? = some (some (V.ref a)) ∧ SqL K H a (ns.map V.int)
def QL (N : Nat) : Fl → Nat → List Sl → Prop := fun fl _ ρ' => (match fl with
  | .nx => True
  | .ct => True
  | _ => False) ∧ ρ'.length = N ∧ ρ'[0]? = some (.val (.dict []))
def rho0 (N : Nat) (i : Int) : List Sl := .val (.dict []) :: .val (.int i) :: List.replicate (N - 2) .un
section
variable {K : PySem.W.Frag} {a : Addr} {ns : List Int} {N : Nat} {σ : L2.St} {H : Hp}
theorem rw_start (inv : LInv K a ns N σ H) (hN : 2 ≤ N) (i : Int) : RW K a ns [] H O0 O0 (σ.set 1 (some (.int i))) H (rho0 N i) := by
  obtain ⟨h1, h2, h3⟩ := inv
  refine ⟨⟨by unfold rho0; rw [List.length_set, h1, List.length_cons, List.length_cons, List.length_replicate]; omega, fun j d hj => ?_, fun j ds hj => ?_, fun j k ds es p hj => ?_, owl0, .refl _, fun _ h => h, owl0⟩, h3, fun b hb => nomatch hb⟩
  · match j with
    | 0 =>
      cases hj
      exact ⟨_, by rw [List.getElem?_set_ne (by decide)]; exact h2, .fn (.inl ⟨rfl, rfl⟩)⟩
    | 1 =>
      cases hj
      exact ⟨.int i, by rw [List.getElem?_set, if_pos rfl, if_pos (by omega)], .int i⟩
    | j + 2 =>
      have hj : (List.replicate (N - 2) Sl.un)[j]? = some (Sl.val d) := hj
      rw [List.getElem?_replicate] at hj
      split at hj <;> cases hj
  all_goals
    match j with
    | 0 => cases hj
    | 1 => cases hj
    | j + 2 =>
      have hj : (List.replicate (N - 2) Sl.un)[j]? = some (Sl.own ds) := hj
      rw [List.getElem?_replicate] at hj
      split at hj <;> cases hj
theorem law_step {tb : TS} {wb : WS} {D : Ends} {i : Int} (hb : SSw K tb wb) (inv : LInv K a ns N σ H) (hN : 2 ≤ N) (hw : wb 0 (rho0 N i) (QL N)) (hnx : ∀ σ' H', LInv K a ns N σ' H' → D.nx σ' H') (hct : ∀ σ' H', LInv K a ns N σ' H' → D.ct σ' H') : gName 1 (.int i) σ H fun σ2 H2 => tb D σ2 H2 := by
  have w := rw_start inv hN i
  have fin : ∀ {bs' σ' H' O' ρ'}, RW K a ns bs' H O0 O' σ' H' ρ' → ρ'.length = N → ρ'[0]? = some (Sl.val (.dict [])) → LInv K a ns N σ' H' := fun r l h => by
    obtain ⟨v, h1, h2⟩ := r.r.val 0 _ h
    cases h2 with
    | fn hA =>
      cases abx_scr hA
      exact ⟨by rw [r.r.len, l], h1, r.scrH⟩
  refine hb w (QL N) hw D fun fl n ρ' hq => ?_
  obtain ⟨hfl, hl, h0⟩ := hq
  cases fl with
  | nx => exact fun bs' σ' H' O' _ _ r _ => hnx σ' H' (fin r hl h0)
  | ct => exact fun bs' σ' H' O' _ _ r _ => hct σ' H' (fin r hl h0)
  | bk => exact hfl.elim
  | rt d => exact hfl.elim
end
end Sm
namespace Fb
open PySem PySem.Spec PyProof.Rows L2 Evl CrT Cr Sm
def b_kinds_in_tuple : FS :=
      (fSeq (fIfS (fAnd (fB (fCall (gIsi "tuple") (fCons (fVar 0) fNil))) (fB (fOp gEq (fOp gIx (fVar 0) (fC (.int 0))) (fC (.str "tuple"))))) (fRet (fOp gIx (fVar 0) (fC (.int 1)))) fNext)
      (fRet (fTup fNil)))
def b_kind_in_list : FS :=
      (fSeq (fIfS (fAnd (fB (fCall (gIsi "tuple") (fCons (fVar 0) fNil))) (fB (fOp gEq (fOp gIx (fVar 0) (fC (.int 0))) (fC (.str "list"))))) (fRet (fOp gIx (fVar 0) (fC (.int 1)))) fNext)
      (fRet (fC .none)))
def b_kind_behind (f_kinds_in_tuple : Fn) (f_kind_in_list : Fn) : FS :=
      (fSeq (fAsg (fOp gIx (fVar 0) (fC (.int 0))) (gS 2))
      (fSeq (fIfS (fB (fOp gIn (fVar 2) (fTup (fCons (fC (.str "plus")) (fCons (fC (.str "times")) fNil))))) (fRet (fIf (fAnd (fB (fOp gEq (fVar 1) (fC (.str "int")))) (fB (fChain gLe gLe (fUn gNeg (fC (.int 1000))) (fOp gIx (fVar 0) (fC (.int 1))) (fC (.int 1000))))) (fC (.str "int")) (fC .none))) fNext)
      (fSeq (fIfS (fB (fOp gEq (fVar 2) (fC (.str "item")))) (fSeq (fAsg (fCall f_kinds_in_tuple (fCons (fVar 1) fNil)) (gS 3))
        (fRet (fIf (fB (fChain gLe gLt (fC (.int 0)) (fOp gIx (fVar 0) (fC (.int 1))) (fLenV 3))) (fOp gIx (fVar 3) (fOp gIx (fVar 0) (fC (.int 1)))) (fC .none)))) fNext)
      (fSeq (fAsg (fCall f_kind_in_list (fCons (fVar 1) fNil)) (gS 4))
      (fSeq (fIfS (fB (fOp gIsN (fVar 4) (fC .none))) (fRet (fC .none)) fNext)
      (fSeq (fIfS (fB (fOp gEq (fVar 2) (fC (.str "length")))) (fRet (fC (.str "int"))) fNext)
      (fSeq (fIfS (fB (fOp gEq (fVar 2) (fC (.str "sum")))) (fRet (fIf (fB (fOp gEq (fVar 4) (fC (.str "int")))) (fC (.str "int")) (fC .none))) fNext)
      (fSeq (fIfS (fB (fOp gEq (fVar 2) (fC (.str "sorted")))) (fRet (fIf (fB (fOp gIn (fVar 4) (fTup (fCons (fC (.str "int")) (fCons (fC (.str "word")) fNil))))) (fVar 1) (fC .none))) fNext)
      (fRet (fVar 1))))))))))
noncomputable section
def b_turn : FS :=
      (fSeq (fAsg (fOp gIx (fVar 0) (fC (.int 0))) (gS 2))
      (fSeq (fIfS (fB (fOp gEq (fVar 2) (fC (.str "plus")))) (fRet (fOp gAdd (fVar 1) (fOp gIx (fVar 0) (fC (.int 1))))) fNext)
      (fSeq (fIfS (fB (fOp gEq (fVar 2) (fC (.str "times")))) (fRet (fOp gMul (fVar 1) (fOp gIx (fVar 0) (fC (.int 1))))) fNext)
      (fSeq (fIfS (fB (fOp gEq (fVar 2) (fC (.str "item")))) (fRet (fOp gIx (fVar 1) (fOp gIx (fVar 0) (fC (.int 1))))) fNext)
      (fSeq (fIfS (fB (fOp gEq (fVar 2) (fC (.str "length")))) (fRet (fLenV 1)) fNext)
      (fSeq (fIfS (fB (fOp gEq (fVar 2) (fC (.str "sum")))) (fRet (fCall gSum (fCons (fVar 1) fNil))) fNext)
      (fSeq (fIfS (fB (fOp gEq (fVar 2) (fC (.str "sorted")))) (fRet (fCall gTuple (fCons (fV (fCallL gSorted (fCons (fVar 1) fNil))) fNil))) fNext)
      (fRet (fUn gRev (fVar 1))))))))))
end
end Fb
namespace Fb
open PySem PySem.Spec PyProof.Rows L2 Evl CrT Cr Sm
def D_kit : Fn := runF 1 1 b_kinds_in_tuple
def D_kil : Fn := runF 1 1 b_kind_in_list
def listedK : Kd → Option Kd
  | .lst j => some j
  | _ => none
theorem isi_s (x : Str) : gIsi "tuple" [.str x] = some (.bool false) := by simp only [gIsi, tyO, Option.bind_some, k_st]
theorem isi_t (ds : List PyData) : gIsi "tuple" [.tuple ds] = some (.bool true) := by simp only [gIsi, tyO, Option.bind_some, k_tt]
theorem isi_i (i : Int) : gIsi "tuple" [.int i] = some (.bool false) := by simp only [gIsi, tyO, Option.bind_some, k_it]
theorem m_kit (k : Kd) : D_kit [k.data] = some (.tuple (dataAll k.parts)) := by
  unfold D_kit
  cases k <;> simp only [fSeq, fIfS, fRet, fAsg, fOwn, fApp, fExt, fBrk, fCnt, fDrop, fFrz, frz, fNext, fFor, fB, fAnd, fOr, fNot, fAndV, fOrV, fNotV, fIf, fChain, fOp, fUn, fVar, fC, fTup, fLst, fV, fCons, fNil, fCall, fCallL, fLenV, fSl, fPart, fNoPart, fStar, fAug, gS, gT, gN, gC, fSeqI, run_1, run_2, run_3, run_4, ix0, ix1, ix2, ix3, then_nx, then_rt, then_bk, then_ct, turn_nx, turn_ct, turn_bk, turn_rt, res_rt, asB_b, gIx_t, gIx_l, gAdd_i, gSub_i, gLt_i, gLe_i, gGt_i, gGe_i, eq_i, eq_s, ne_i, ne_s, gLen_t, gLen_l, gTup_l, gTup_t, strEq, Option.bind_some, List.getElem?_cons_zero, List.getElem?_cons_succ, List.set_cons_zero, List.set_cons_succ, List.replicate_succ, List.replicate_zero, Nat.reduceSub, Nat.reduceAdd, if_true, if_false, decide_true, decide_false, Bool.not_true, Bool.not_false, Bool.false_eq_true, String.reduceEq, reduceIte, List.length_cons, List.length_nil, Nat.reduceLeDiff, lim, b_kinds_in_tuple, Kd.data, Kd.parts, dataAll, isi_s, isi_t]
theorem m_kil (k : Kd) : D_kil [k.data] = some (match listedK k with | none => .none | some j => j.data) := by
  unfold D_kil
  cases k <;> simp only [fSeq, fIfS, fRet, fAsg, fOwn, fApp, fExt, fBrk, fCnt, fDrop, fFrz, frz, fNext, fFor, fB, fAnd, fOr, fNot, fAndV, fOrV, fNotV, fIf, fChain, fOp, fUn, fVar, fC, fTup, fLst, fV, fCons, fNil, fCall, fCallL, fLenV, fSl, fPart, fNoPart, fStar, fAug, gS, gT, gN, gC, fSeqI, run_1, run_2, run_3, run_4, ix0, ix1, ix2, ix3, then_nx, then_rt, then_bk, then_ct, turn_nx, turn_ct, turn_bk, turn_rt, res_rt, asB_b, gIx_t, gIx_l, gAdd_i, gSub_i, gLt_i, gLe_i, gGt_i, gGe_i, eq_i, eq_s, ne_i, ne_s, gLen_t, gLen_l, gTup_l, gTup_t, strEq, Option.bind_some, List.getElem?_cons_zero, List.getElem?_cons_succ, List.set_cons_zero, List.set_cons_succ, List.replicate_succ, List.replicate_zero, Nat.reduceSub, Nat.reduceAdd, if_true, if_false, decide_true, decide_false, Bool.not_true, Bool.not_false, Bool.false_eq_true, String.reduceEq, reduceIte, List.length_cons, List.length_nil, Nat.reduceLeDiff, lim, b_kind_in_list, Kd.data, listedK, isi_s, isi_t]
def D_behind : Fn := runF 5 2 (b_kind_behind D_kit D_kil)
theorem eq_int (k : Kd) (h : ∃ n, OkK n k ∧ n ≤ 20) : gEq k.data (.str "int") = some (.bool k.isInt) := by
  obtain ⟨n, hk, hn⟩ := h
  have hs := OkK.shaped hk hn
  have e := eqv_int k
  cases k with
  | int => rw [Kd.data]; simp only [eq_s, decide_true, Kd.isInt]
  | word => rw [Kd.data]; simp only [fSeq, fIfS, fRet, fAsg, fOwn, fApp, fExt, fBrk, fCnt, fDrop, fFrz, frz, fNext, fFor, fB, fAnd, fOr, fNot, fAndV, fOrV, fNotV, fIf, fChain, fOp, fUn, fVar, fC, fTup, fLst, fV, fCons, fNil, fCall, fCallL, fLenV, fSl, fPart, fNoPart, fStar, fAug, gS, gT, gN, gC, fSeqI, run_1, run_2, run_3, run_4, ix0, ix1, ix2, ix3, then_nx, then_rt, then_bk, then_ct, turn_nx, turn_ct, turn_bk, turn_rt, res_rt, asB_b, gIx_t, gIx_l, gAdd_i, gSub_i, gLt_i, gLe_i, gGt_i, gGe_i, eq_i, eq_s, ne_i, ne_s, gLen_t, gLen_l, gTup_l, gTup_t, strEq, Option.bind_some, List.getElem?_cons_zero, List.getElem?_cons_succ, List.set_cons_zero, List.set_cons_succ, List.replicate_succ, List.replicate_zero, Nat.reduceSub, Nat.reduceAdd, if_true, if_false, decide_true, decide_false, Bool.not_true, Bool.not_false, Bool.false_eq_true, String.reduceEq, reduceIte, List.length_cons, List.length_nil, Nat.reduceLeDiff, lim, Kd.isInt]
  | lst j =>
    rw [Kd.data] at hs e ⊢
    show (eqD _ _).bind _ = _
    unfold eqD
    simp only [hs, shaped_int, e, Bool.and_self, if_true, Option.bind_some]
  | tup ks =>
    rw [Kd.data] at hs e ⊢
    show (eqD _ _).bind _ = _
    unfold eqD
    simp only [hs, shaped_int, e, Bool.and_self, if_true, Option.bind_some]
theorem any2 (x : Str) (a b : Str) : ([.str a, .str b] : List PyData).any (fun z => eqF z (.str x)) = (decide (a = x) || decide (b = x)) := by simp [eqF]
theorem dataAll_get {ks : List Kd} {i : Nat} (h : i < ks.length) : atI (dataAll ks) (i : Int) = some (ks.getD i .int).data := by
  apply atI_nat
  rw [dataAll_map, List.getElem?_map, getD_at (a0 := Kd.int) h]
  rfl
theorem kd_int : Kd.int.data = .str "int" := by rw [Kd.data]
theorem isN_kd (j : Kd) : gIsN j.data .none = some (.bool false) := by cases j <;> rfl
theorem lst_ok {j : Kd} (h : ∃ n, OkK n (.lst j) ∧ n ≤ 20) : ∃ n, OkK n j ∧ n ≤ 20 := by
  obtain ⟨n, hk, hn⟩ := h
  cases hk with
  | lst h => exact ⟨_, h, by omega⟩
theorem in_flat (k : Kd) (h : ∃ n, OkK n k ∧ n ≤ 20) : gIn k.data (.tuple [.str "int", .str "word"]) = some (.bool k.isFlat) := by
  obtain ⟨n, hk, hn⟩ := h
  have hs := OkK.shaped hk hn
  have e := flat_in k
  have sf : SeqAt.shaped (.tuple [.str "int", .str "word"]) = true := by decide +kernel
  cases k with
  | int => rw [Kd.data]; simp only [fSeq, fIfS, fRet, fAsg, fOwn, fApp, fExt, fBrk, fCnt, fDrop, fFrz, frz, fNext, fFor, fB, fAnd, fOr, fNot, fAndV, fOrV, fNotV, fIf, fChain, fOp, fUn, fVar, fC, fTup, fLst, fV, fCons, fNil, fCall, fCallL, fLenV, fSl, fPart, fNoPart, fStar, fAug, gS, gT, gN, gC, fSeqI, run_1, run_2, run_3, run_4, ix0, ix1, ix2, ix3, then_nx, then_rt, then_bk, then_ct, turn_nx, turn_ct, turn_bk, turn_rt, res_rt, asB_b, gIx_t, gIx_l, gAdd_i, gSub_i, gLt_i, gLe_i, gGt_i, gGe_i, eq_i, eq_s, ne_i, ne_s, gLen_t, gLen_l, gTup_l, gTup_t, strEq, Option.bind_some, List.getElem?_cons_zero, List.getElem?_cons_succ, List.set_cons_zero, List.set_cons_succ, List.replicate_succ, List.replicate_zero, Nat.reduceSub, Nat.reduceAdd, if_true, if_false, decide_true, decide_false, Bool.not_true, Bool.not_false, Bool.false_eq_true, String.reduceEq, reduceIte, List.length_cons, List.length_nil, Nat.reduceLeDiff, lim, gIn_t, List.all_cons, List.all_nil, fl, Bool.and_self, any2, Bool.or_false, Kd.isFlat]
  | word => rw [Kd.data]; simp only [fSeq, fIfS, fRet, fAsg, fOwn, fApp, fExt, fBrk, fCnt, fDrop, fFrz, frz, fNext, fFor, fB, fAnd, fOr, fNot, fAndV, fOrV, fNotV, fIf, fChain, fOp, fUn, fVar, fC, fTup, fLst, fV, fCons, fNil, fCall, fCallL, fLenV, fSl, fPart, fNoPart, fStar, fAug, gS, gT, gN, gC, fSeqI, run_1, run_2, run_3, run_4, ix0, ix1, ix2, ix3, then_nx, then_rt, then_bk, then_ct, turn_nx, turn_ct, turn_bk, turn_rt, res_rt, asB_b, gIx_t, gIx_l, gAdd_i, gSub_i, gLt_i, gLe_i, gGt_i, gGe_i, eq_i, eq_s, ne_i, ne_s, gLen_t, gLen_l, gTup_l, gTup_t, strEq, Option.bind_some, List.getElem?_cons_zero, List.getElem?_cons_succ, List.set_cons_zero, List.set_cons_succ, List.replicate_succ, List.replicate_zero, Nat.reduceSub, Nat.reduceAdd, if_true, if_false, decide_true, decide_false, Bool.not_true, Bool.not_false, Bool.false_eq_true, String.reduceEq, reduceIte, List.length_cons, List.length_nil, Nat.reduceLeDiff, lim, gIn_t, List.all_cons, List.all_nil, fl, Bool.and_self, any2, Bool.or_true, Kd.isFlat]
  | lst j =>
    rw [Kd.data] at hs e ⊢
    show (inD _ _).bind _ = _
    unfold inD
    simp only [fl, hs, sf, e, Bool.and_self, Bool.false_and, Bool.false_eq_true, if_false, if_true, Option.bind_some]
  | tup ks =>
    rw [Kd.data] at hs e ⊢
    show (inD _ _).bind _ = _
    unfold inD
    simp only [fl, hs, sf, e, Bool.and_self, Bool.false_and, Bool.false_eq_true, if_false, if_true, Option.bind_some]
theorem m_behind (m : Mp) (k : Kd) (h : ∃ n, OkK n k ∧ n ≤ 20) : D_behind [m.data, k.data] = some (match behind m k with | none => .none | some j => j.data) := by
  unfold D_behind
  have hi := eq_int k h
  have t1 := m_kit k
  have t2 := m_kil k
  cases m with
  | plus n =>
    cases e : k.isInt <;> by_cases h1 : -1000 ≤ n <;> by_cases h2 : n ≤ 1000
    all_goals
      rw [e] at hi
      simp only [fSeq, fIfS, fRet, fAsg, fOwn, fApp, fExt, fBrk, fCnt, fDrop, fFrz, frz, fNext, fFor, fB, fAnd, fOr, fNot, fAndV, fOrV, fNotV, fIf, fChain, fOp, fUn, fVar, fC, fTup, fLst, fV, fCons, fNil, fCall, fCallL, fLenV, fSl, fPart, fNoPart, fStar, fAug, gS, gT, gN, gC, fSeqI, run_1, run_2, run_3, run_4, ix0, ix1, ix2, ix3, then_nx, then_rt, then_bk, then_ct, turn_nx, turn_ct, turn_bk, turn_rt, res_rt, asB_b, gIx_t, gIx_l, gAdd_i, gSub_i, gLt_i, gLe_i, gGt_i, gGe_i, eq_i, eq_s, ne_i, ne_s, gLen_t, gLen_l, gTup_l, gTup_t, strEq, Option.bind_some, List.getElem?_cons_zero, List.getElem?_cons_succ, List.set_cons_zero, List.set_cons_succ, List.replicate_succ, List.replicate_zero, Nat.reduceSub, Nat.reduceAdd, if_true, if_false, decide_true, decide_false, Bool.not_true, Bool.not_false, Bool.false_eq_true, String.reduceEq, reduceIte, List.length_cons, List.length_nil, Nat.reduceLeDiff, lim, b_kind_behind, Mp.data, behind, hi, e, h1, h2, gIn_t, gIn_l, List.all_cons, List.all_nil, fl, Bool.and_self, any2, Bool.or_true, Bool.or_false, Bool.true_or, Bool.false_or, Bool.and_true, Bool.and_false, Bool.false_and, Bool.true_and, gNeg, Kd.data]
  | times n =>
    cases e : k.isInt <;> by_cases h1 : -1000 ≤ n <;> by_cases h2 : n ≤ 1000
    all_goals
      rw [e] at hi
      simp only [fSeq, fIfS, fRet, fAsg, fOwn, fApp, fExt, fBrk, fCnt, fDrop, fFrz, frz, fNext, fFor, fB, fAnd, fOr, fNot, fAndV, fOrV, fNotV, fIf, fChain, fOp, fUn, fVar, fC, fTup, fLst, fV, fCons, fNil, fCall, fCallL, fLenV, fSl, fPart, fNoPart, fStar, fAug, gS, gT, gN, gC, fSeqI, run_1, run_2, run_3, run_4, ix0, ix1, ix2, ix3, then_nx, then_rt, then_bk, then_ct, turn_nx, turn_ct, turn_bk, turn_rt, res_rt, asB_b, gIx_t, gIx_l, gAdd_i, gSub_i, gLt_i, gLe_i, gGt_i, gGe_i, eq_i, eq_s, ne_i, ne_s, gLen_t, gLen_l, gTup_l, gTup_t, strEq, Option.bind_some, List.getElem?_cons_zero, List.getElem?_cons_succ, List.set_cons_zero, List.set_cons_succ, List.replicate_succ, List.replicate_zero, Nat.reduceSub, Nat.reduceAdd, if_true, if_false, decide_true, decide_false, Bool.not_true, Bool.not_false, Bool.false_eq_true, String.reduceEq, reduceIte, List.length_cons, List.length_nil, Nat.reduceLeDiff, lim, b_kind_behind, Mp.data, behind, hi, e, h1, h2, gIn_t, gIn_l, List.all_cons, List.all_nil, fl, Bool.and_self, any2, Bool.or_true, Bool.or_false, Bool.true_or, Bool.false_or, Bool.and_true, Bool.and_false, Bool.false_and, Bool.true_and, gNeg, Kd.data]
  | item i =>
    have hl : (dataAll k.parts).length = k.parts.length := by rw [dataAll_map, List.length_map]
    by_cases h1 : 0 ≤ i <;> by_cases h2 : i < (k.parts.length : Int)
    · obtain ⟨j, rfl⟩ := Int.eq_ofNat_of_zero_le h1
      have hg := dataAll_get (show j < k.parts.length by omega)
      simp only [fSeq, fIfS, fRet, fAsg, fOwn, fApp, fExt, fBrk, fCnt, fDrop, fFrz, frz, fNext, fFor, fB, fAnd, fOr, fNot, fAndV, fOrV, fNotV, fIf, fChain, fOp, fUn, fVar, fC, fTup, fLst, fV, fCons, fNil, fCall, fCallL, fLenV, fSl, fPart, fNoPart, fStar, fAug, gS, gT, gN, gC, fSeqI, run_1, run_2, run_3, run_4, ix0, ix1, ix2, ix3, then_nx, then_rt, then_bk, then_ct, turn_nx, turn_ct, turn_bk, turn_rt, res_rt, asB_b, gIx_t, gIx_l, gAdd_i, gSub_i, gLt_i, gLe_i, gGt_i, gGe_i, eq_i, eq_s, ne_i, ne_s, gLen_t, gLen_l, gTup_l, gTup_t, strEq, Option.bind_some, List.getElem?_cons_zero, List.getElem?_cons_succ, List.set_cons_zero, List.set_cons_succ, List.replicate_succ, List.replicate_zero, Nat.reduceSub, Nat.reduceAdd, if_true, if_false, decide_true, decide_false, Bool.not_true, Bool.not_false, Bool.false_eq_true, String.reduceEq, reduceIte, List.length_cons, List.length_nil, Nat.reduceLeDiff, lim, b_kind_behind, Mp.data, behind, t1, hl, hg, h1, h2, gIn_t, gIn_l, List.all_cons, List.all_nil, fl, Bool.and_self, any2, Bool.or_true, Bool.or_false, Bool.true_or, Bool.false_or, Bool.and_true, Bool.and_false, Bool.false_and, Bool.true_and, Kd.data, Int.toNat_natCast]
    all_goals simp only [fSeq, fIfS, fRet, fAsg, fOwn, fApp, fExt, fBrk, fCnt, fDrop, fFrz, frz, fNext, fFor, fB, fAnd, fOr, fNot, fAndV, fOrV, fNotV, fIf, fChain, fOp, fUn, fVar, fC, fTup, fLst, fV, fCons, fNil, fCall, fCallL, fLenV, fSl, fPart, fNoPart, fStar, fAug, gS, gT, gN, gC, fSeqI, run_1, run_2, run_3, run_4, ix0, ix1, ix2, ix3, then_nx, then_rt, then_bk, then_ct, turn_nx, turn_ct, turn_bk, turn_rt, res_rt, asB_b, gIx_t, gIx_l, gAdd_i, gSub_i, gLt_i, gLe_i, gGt_i, gGe_i, eq_i, eq_s, ne_i, ne_s, gLen_t, gLen_l, gTup_l, gTup_t, strEq, Option.bind_some, List.getElem?_cons_zero, List.getElem?_cons_succ, List.set_cons_zero, List.set_cons_succ, List.replicate_succ, List.replicate_zero, Nat.reduceSub, Nat.reduceAdd, if_true, if_false, decide_true, decide_false, Bool.not_true, Bool.not_false, Bool.false_eq_true, String.reduceEq, reduceIte, List.length_cons, List.length_nil, Nat.reduceLeDiff, lim, b_kind_behind, Mp.data, behind, t1, hl, h1, h2, gIn_t, gIn_l, List.all_cons, List.all_nil, fl, Bool.and_self, any2, Bool.or_true, Bool.or_false, Bool.true_or, Bool.false_or, Bool.and_true, Bool.and_false, Bool.false_and, Bool.true_and, Kd.data]
  | length =>
    cases k with
    | lst j =>
      have t2 : D_kil [(Kd.lst j).data] = some j.data := t2
      simp only [fSeq, fIfS, fRet, fAsg, fOwn, fApp, fExt, fBrk, fCnt, fDrop, fFrz, frz, fNext, fFor, fB, fAnd, fOr, fNot, fAndV, fOrV, fNotV, fIf, fChain, fOp, fUn, fVar, fC, fTup, fLst, fV, fCons, fNil, fCall, fCallL, fLenV, fSl, fPart, fNoPart, fStar, fAug, gS, gT, gN, gC, fSeqI, run_1, run_2, run_3, run_4, ix0, ix1, ix2, ix3, then_nx, then_rt, then_bk, then_ct, turn_nx, turn_ct, turn_bk, turn_rt, res_rt, asB_b, gIx_t, gIx_l, gAdd_i, gSub_i, gLt_i, gLe_i, gGt_i, gGe_i, eq_i, eq_s, ne_i, ne_s, gLen_t, gLen_l, gTup_l, gTup_t, strEq, Option.bind_some, List.getElem?_cons_zero, List.getElem?_cons_succ, List.set_cons_zero, List.set_cons_succ, List.replicate_succ, List.replicate_zero, Nat.reduceSub, Nat.reduceAdd, if_true, if_false, decide_true, decide_false, Bool.not_true, Bool.not_false, Bool.false_eq_true, String.reduceEq, reduceIte, List.length_cons, List.length_nil, Nat.reduceLeDiff, lim, gIn_t, gIn_l, List.all_cons, List.all_nil, fl, Bool.and_self, any2, Bool.or_true, Bool.or_false, Bool.true_or, Bool.false_or, Bool.and_true, Bool.and_false, Bool.false_and, Bool.true_and, b_kind_behind, Mp.data, behind, t2, isN_kd, kd_int]
    | _ => simp only [fSeq, fIfS, fRet, fAsg, fOwn, fApp, fExt, fBrk, fCnt, fDrop, fFrz, frz, fNext, fFor, fB, fAnd, fOr, fNot, fAndV, fOrV, fNotV, fIf, fChain, fOp, fUn, fVar, fC, fTup, fLst, fV, fCons, fNil, fCall, fCallL, fLenV, fSl, fPart, fNoPart, fStar, fAug, gS, gT, gN, gC, fSeqI, run_1, run_2, run_3, run_4, ix0, ix1, ix2, ix3, then_nx, then_rt, then_bk, then_ct, turn_nx, turn_ct, turn_bk, turn_rt, res_rt, asB_b, gIx_t, gIx_l, gAdd_i, gSub_i, gLt_i, gLe_i, gGt_i, gGe_i, eq_i, eq_s, ne_i, ne_s, gLen_t, gLen_l, gTup_l, gTup_t, strEq, Option.bind_some, List.getElem?_cons_zero, List.getElem?_cons_succ, List.set_cons_zero, List.set_cons_succ, List.replicate_succ, List.replicate_zero, Nat.reduceSub, Nat.reduceAdd, if_true, if_false, decide_true, decide_false, Bool.not_true, Bool.not_false, Bool.false_eq_true, String.reduceEq, reduceIte, List.length_cons, List.length_nil, Nat.reduceLeDiff, lim, gIn_t, gIn_l, List.all_cons, List.all_nil, fl, Bool.and_self, any2, Bool.or_true, Bool.or_false, Bool.true_or, Bool.false_or, Bool.and_true, Bool.and_false, Bool.false_and, Bool.true_and, b_kind_behind, Mp.data, behind, t2, listedK, gIsN]
  | sum =>
    cases k with
    | lst j =>
      have t2 : D_kil [(Kd.lst j).data] = some j.data := t2
      have hj := eq_int j (lst_ok h)
      cases e : j.isInt <;> (rw [e] at hj; simp only [fSeq, fIfS, fRet, fAsg, fOwn, fApp, fExt, fBrk, fCnt, fDrop, fFrz, frz, fNext, fFor, fB, fAnd, fOr, fNot, fAndV, fOrV, fNotV, fIf, fChain, fOp, fUn, fVar, fC, fTup, fLst, fV, fCons, fNil, fCall, fCallL, fLenV, fSl, fPart, fNoPart, fStar, fAug, gS, gT, gN, gC, fSeqI, run_1, run_2, run_3, run_4, ix0, ix1, ix2, ix3, then_nx, then_rt, then_bk, then_ct, turn_nx, turn_ct, turn_bk, turn_rt, res_rt, asB_b, gIx_t, gIx_l, gAdd_i, gSub_i, gLt_i, gLe_i, gGt_i, gGe_i, eq_i, eq_s, ne_i, ne_s, gLen_t, gLen_l, gTup_l, gTup_t, strEq, Option.bind_some, List.getElem?_cons_zero, List.getElem?_cons_succ, List.set_cons_zero, List.set_cons_succ, List.replicate_succ, List.replicate_zero, Nat.reduceSub, Nat.reduceAdd, if_true, if_false, decide_true, decide_false, Bool.not_true, Bool.not_false, Bool.false_eq_true, String.reduceEq, reduceIte, List.length_cons, List.length_nil, Nat.reduceLeDiff, lim, gIn_t, gIn_l, List.all_cons, List.all_nil, fl, Bool.and_self, any2, Bool.or_true, Bool.or_false, Bool.true_or, Bool.false_or, Bool.and_true, Bool.and_false, Bool.false_and, Bool.true_and, b_kind_behind, Mp.data, behind, t2, isN_kd, hj, e, kd_int])
    | _ => simp only [fSeq, fIfS, fRet, fAsg, fOwn, fApp, fExt, fBrk, fCnt, fDrop, fFrz, frz, fNext, fFor, fB, fAnd, fOr, fNot, fAndV, fOrV, fNotV, fIf, fChain, fOp, fUn, fVar, fC, fTup, fLst, fV, fCons, fNil, fCall, fCallL, fLenV, fSl, fPart, fNoPart, fStar, fAug, gS, gT, gN, gC, fSeqI, run_1, run_2, run_3, run_4, ix0, ix1, ix2, ix3, then_nx, then_rt, then_bk, then_ct, turn_nx, turn_ct, turn_bk, turn_rt, res_rt, asB_b, gIx_t, gIx_l, gAdd_i, gSub_i, gLt_i, gLe_i, gGt_i, gGe_i, eq_i, eq_s, ne_i, ne_s, gLen_t, gLen_l, gTup_l, gTup_t, strEq, Option.bind_some, List.getElem?_cons_zero, List.getElem?_cons_succ, List.set_cons_zero, List.set_cons_succ, List.replicate_succ, List.replicate_zero, Nat.reduceSub, Nat.reduceAdd, if_true, if_false, decide_true, decide_false, Bool.not_true, Bool.not_false, Bool.false_eq_true, String.reduceEq, reduceIte, List.length_cons, List.length_nil, Nat.reduceLeDiff, lim, gIn_t, gIn_l, List.all_cons, List.all_nil, fl, Bool.and_self, any2, Bool.or_true, Bool.or_false, Bool.true_or, Bool.false_or, Bool.and_true, Bool.and_false, Bool.false_and, Bool.true_and, b_kind_behind, Mp.data, behind, t2, listedK, gIsN]
  | sorted =>
    cases k with
    | lst j =>
      have t2 : D_kil [(Kd.lst j).data] = some j.data := t2
      have hj := in_flat j (lst_ok h)
      cases e : j.isFlat <;> (rw [e] at hj; simp only [fSeq, fIfS, fRet, fAsg, fOwn, fApp, fExt, fBrk, fCnt, fDrop, fFrz, frz, fNext, fFor, fB, fAnd, fOr, fNot, fAndV, fOrV, fNotV, fIf, fChain, fOp, fUn, fVar, fC, fTup, fLst, fV, fCons, fNil, fCall, fCallL, fLenV, fSl, fPart, fNoPart, fStar, fAug, gS, gT, gN, gC, fSeqI, run_1, run_2, run_3, run_4, ix0, ix1, ix2, ix3, then_nx, then_rt, then_bk, then_ct, turn_nx, turn_ct, turn_bk, turn_rt, res_rt, asB_b, gIx_t, gIx_l, gAdd_i, gSub_i, gLt_i, gLe_i, gGt_i, gGe_i, eq_i, eq_s, ne_i, ne_s, gLen_t, gLen_l, gTup_l, gTup_t, strEq, Option.bind_some, List.getElem?_cons_zero, List.getElem?_cons_succ, List.set_cons_zero, List.set_cons_succ, List.replicate_succ, List.replicate_zero, Nat.reduceSub, Nat.reduceAdd, if_true, if_false, decide_true, decide_false, Bool.not_true, Bool.not_false, Bool.false_eq_true, String.reduceEq, reduceIte, List.length_cons, List.length_nil, Nat.reduceLeDiff, lim, gIn_t, gIn_l, List.all_cons, List.all_nil, fl, Bool.and_self, any2, Bool.or_true, Bool.or_false, Bool.true_or, Bool.false_or, Bool.and_true, Bool.and_false, Bool.false_and, Bool.true_and, b_kind_behind, Mp.data, behind, t2, isN_kd, hj, e, kd_int])
    | _ => simp only [fSeq, fIfS, fRet, fAsg, fOwn, fApp, fExt, fBrk, fCnt, fDrop, fFrz, frz, fNext, fFor, fB, fAnd, fOr, fNot, fAndV, fOrV, fNotV, fIf, fChain, fOp, fUn, fVar, fC, fTup, fLst, fV, fCons, fNil, fCall, fCallL, fLenV, fSl, fPart, fNoPart, fStar, fAug, gS, gT, gN, gC, fSeqI, run_1, run_2, run_3, run_4, ix0, ix1, ix2, ix3, then_nx, then_rt, then_bk, then_ct, turn_nx, turn_ct, turn_bk, turn_rt, res_rt, asB_b, gIx_t, gIx_l, gAdd_i, gSub_i, gLt_i, gLe_i, gGt_i, gGe_i, eq_i, eq_s, ne_i, ne_s, gLen_t, gLen_l, gTup_l, gTup_t, strEq, Option.bind_some, List.getElem?_cons_zero, List.getElem?_cons_succ, List.set_cons_zero, List.set_cons_succ, List.replicate_succ, List.replicate_zero, Nat.reduceSub, Nat.reduceAdd, if_true, if_false, decide_true, decide_false, Bool.not_true, Bool.not_false, Bool.false_eq_true, String.reduceEq, reduceIte, List.length_cons, List.length_nil, Nat.reduceLeDiff, lim, gIn_t, gIn_l, List.all_cons, List.all_nil, fl, Bool.and_self, any2, Bool.or_true, Bool.or_false, Bool.true_or, Bool.false_or, Bool.and_true, Bool.and_false, Bool.false_and, Bool.true_and, b_kind_behind, Mp.data, behind, t2, listedK, gIsN]
  | reversed =>
    cases k with
    | lst j =>
      have t2 : D_kil [(Kd.lst j).data] = some j.data := t2
      simp only [fSeq, fIfS, fRet, fAsg, fOwn, fApp, fExt, fBrk, fCnt, fDrop, fFrz, frz, fNext, fFor, fB, fAnd, fOr, fNot, fAndV, fOrV, fNotV, fIf, fChain, fOp, fUn, fVar, fC, fTup, fLst, fV, fCons, fNil, fCall, fCallL, fLenV, fSl, fPart, fNoPart, fStar, fAug, gS, gT, gN, gC, fSeqI, run_1, run_2, run_3, run_4, ix0, ix1, ix2, ix3, then_nx, then_rt, then_bk, then_ct, turn_nx, turn_ct, turn_bk, turn_rt, res_rt, asB_b, gIx_t, gIx_l, gAdd_i, gSub_i, gLt_i, gLe_i, gGt_i, gGe_i, eq_i, eq_s, ne_i, ne_s, gLen_t, gLen_l, gTup_l, gTup_t, strEq, Option.bind_some, List.getElem?_cons_zero, List.getElem?_cons_succ, List.set_cons_zero, List.set_cons_succ, List.replicate_succ, List.replicate_zero, Nat.reduceSub, Nat.reduceAdd, if_true, if_false, decide_true, decide_false, Bool.not_true, Bool.not_false, Bool.false_eq_true, String.reduceEq, reduceIte, List.length_cons, List.length_nil, Nat.reduceLeDiff, lim, gIn_t, gIn_l, List.all_cons, List.all_nil, fl, Bool.and_self, any2, Bool.or_true, Bool.or_false, Bool.true_or, Bool.false_or, Bool.and_true, Bool.and_false, Bool.false_and, Bool.true_and, b_kind_behind, Mp.data, behind, t2, isN_kd, kd_int]
    | _ => simp only [fSeq, fIfS, fRet, fAsg, fOwn, fApp, fExt, fBrk, fCnt, fDrop, fFrz, frz, fNext, fFor, fB, fAnd, fOr, fNot, fAndV, fOrV, fNotV, fIf, fChain, fOp, fUn, fVar, fC, fTup, fLst, fV, fCons, fNil, fCall, fCallL, fLenV, fSl, fPart, fNoPart, fStar, fAug, gS, gT, gN, gC, fSeqI, run_1, run_2, run_3, run_4, ix0, ix1, ix2, ix3, then_nx, then_rt, then_bk, then_ct, turn_nx, turn_ct, turn_bk, turn_rt, res_rt, asB_b, gIx_t, gIx_l, gAdd_i, gSub_i, gLt_i, gLe_i, gGt_i, gGe_i, eq_i, eq_s, ne_i, ne_s, gLen_t, gLen_l, gTup_l, gTup_t, strEq, Option.bind_some, List.getElem?_cons_zero, List.getElem?_cons_succ, List.set_cons_zero, List.set_cons_succ, List.replicate_succ, List.replicate_zero, Nat.reduceSub, Nat.reduceAdd, if_true, if_false, decide_true, decide_false, Bool.not_true, Bool.not_false, Bool.false_eq_true, String.reduceEq, reduceIte, List.length_cons, List.length_nil, Nat.reduceLeDiff, lim, gIn_t, gIn_l, List.all_cons, List.all_nil, fl, Bool.and_self, any2, Bool.or_true, Bool.or_false, Bool.true_or, Bool.false_or, Bool.and_true, Bool.and_false, Bool.false_and, Bool.true_and, b_kind_behind, Mp.data, behind, t2, listedK, gIsN]
noncomputable def D_turn : Fn := runF 3 2 b_turn
theorem sumI_int : ∀ ns : List Int, sumI (ns.map PyData.int) = some ns.sum
  | [] => rfl
  | n :: ns => by
    show (sumI (ns.map PyData.int)).bind _ = _
    rw [sumI_int ns, List.sum_cons]
    rfl
theorem flat_sort {j : Kd} {ds : List PyData} (hj : j.isFlat = true) (h : ∀ d ∈ ds, isk j d = true) (hd : Dk 20 (.tuple ds)) : SortOk ds := by
  refine ⟨⟨fun d hd e he => isk_alike j d e (h d hd) (h e he), .inr fun d hd => flat_not hj (h d hd), fun d hd => by rw [flat_depth hj (h d hd)]; omega⟩, List.all_eq_true.mpr fun d he => ?_⟩
  exact (hd.item.2 d he).lay.1
theorem m_turn {m : Mp} {k k' : Kd} {d : PyData} (hb : behind m k = some k') (hi : isk k d = true) (hd : Dk 20 d) : D_turn [m.data, d] = some (turnD m d) := by
  unfold D_turn
  cases m with
  | plus n =>
    obtain ⟨rfl, h1, h2, rfl⟩ := behind_num (.inl rfl) hb
    obtain ⟨i, rfl⟩ := isk_int hi
    simp only [fSeq, fIfS, fRet, fAsg, fOwn, fApp, fExt, fBrk, fCnt, fDrop, fFrz, frz, fNext, fFor, fB, fAnd, fOr, fNot, fAndV, fOrV, fNotV, fIf, fChain, fOp, fUn, fVar, fC, fTup, fLst, fV, fCons, fNil, fCall, fCallL, fLenV, fSl, fPart, fNoPart, fStar, fAug, gS, gT, gN, gC, fSeqI, run_1, run_2, run_3, run_4, ix0, ix1, ix2, ix3, then_nx, then_rt, then_bk, then_ct, turn_nx, turn_ct, turn_bk, turn_rt, res_rt, asB_b, gIx_t, gIx_l, gAdd_i, gSub_i, gLt_i, gLe_i, gGt_i, gGe_i, eq_i, eq_s, ne_i, ne_s, gLen_t, gLen_l, gTup_l, gTup_t, strEq, Option.bind_some, List.getElem?_cons_zero, List.getElem?_cons_succ, List.set_cons_zero, List.set_cons_succ, List.replicate_succ, List.replicate_zero, Nat.reduceSub, Nat.reduceAdd, if_true, if_false, decide_true, decide_false, Bool.not_true, Bool.not_false, Bool.false_eq_true, String.reduceEq, reduceIte, List.length_cons, List.length_nil, Nat.reduceLeDiff, lim, b_turn, Mp.data, turnD]
  | times n =>
    obtain ⟨rfl, h1, h2, rfl⟩ := behind_num (.inr rfl) hb
    obtain ⟨i, rfl⟩ := isk_int hi
    have hm : gMul (.int i) (.int n) = some (.int (i * n)) := if_pos (.inl (.inr (by omega)))
    simp only [fSeq, fIfS, fRet, fAsg, fOwn, fApp, fExt, fBrk, fCnt, fDrop, fFrz, frz, fNext, fFor, fB, fAnd, fOr, fNot, fAndV, fOrV, fNotV, fIf, fChain, fOp, fUn, fVar, fC, fTup, fLst, fV, fCons, fNil, fCall, fCallL, fLenV, fSl, fPart, fNoPart, fStar, fAug, gS, gT, gN, gC, fSeqI, run_1, run_2, run_3, run_4, ix0, ix1, ix2, ix3, then_nx, then_rt, then_bk, then_ct, turn_nx, turn_ct, turn_bk, turn_rt, res_rt, asB_b, gIx_t, gIx_l, gAdd_i, gSub_i, gLt_i, gLe_i, gGt_i, gGe_i, eq_i, eq_s, ne_i, ne_s, gLen_t, gLen_l, gTup_l, gTup_t, strEq, Option.bind_some, List.getElem?_cons_zero, List.getElem?_cons_succ, List.set_cons_zero, List.set_cons_succ, List.replicate_succ, List.replicate_zero, Nat.reduceSub, Nat.reduceAdd, if_true, if_false, decide_true, decide_false, Bool.not_true, Bool.not_false, Bool.false_eq_true, String.reduceEq, reduceIte, List.length_cons, List.length_nil, Nat.reduceLeDiff, lim, b_turn, Mp.data, turnD, hm]
  | item j =>
    obtain ⟨ks, rfl, hj, hk, rfl⟩ := behind_item hb
    obtain ⟨ds, rfl, hds⟩ := isk_tup hi
    obtain ⟨i, rfl⟩ := Int.eq_ofNat_of_zero_le hj
    obtain ⟨hl, hat⟩ := iskAll_get hds
    have hil : i < ds.length := by rw [← hl]; simpa using hk
    have e : atI ds (i : Int) = some (ds.getD i .none) := atI_nat (getD_at hil)
    simp only [fSeq, fIfS, fRet, fAsg, fOwn, fApp, fExt, fBrk, fCnt, fDrop, fFrz, frz, fNext, fFor, fB, fAnd, fOr, fNot, fAndV, fOrV, fNotV, fIf, fChain, fOp, fUn, fVar, fC, fTup, fLst, fV, fCons, fNil, fCall, fCallL, fLenV, fSl, fPart, fNoPart, fStar, fAug, gS, gT, gN, gC, fSeqI, run_1, run_2, run_3, run_4, ix0, ix1, ix2, ix3, then_nx, then_rt, then_bk, then_ct, turn_nx, turn_ct, turn_bk, turn_rt, res_rt, asB_b, gIx_t, gIx_l, gAdd_i, gSub_i, gLt_i, gLe_i, gGt_i, gGe_i, eq_i, eq_s, ne_i, ne_s, gLen_t, gLen_l, gTup_l, gTup_t, strEq, Option.bind_some, List.getElem?_cons_zero, List.getElem?_cons_succ, List.set_cons_zero, List.set_cons_succ, List.replicate_succ, List.replicate_zero, Nat.reduceSub, Nat.reduceAdd, if_true, if_false, decide_true, decide_false, Bool.not_true, Bool.not_false, Bool.false_eq_true, String.reduceEq, reduceIte, List.length_cons, List.length_nil, Nat.reduceLeDiff, lim, b_turn, Mp.data, turnD, e, Int.toNat_natCast]
  | length =>
    obtain ⟨j, rfl⟩ := behind_lst hb (.inl rfl)
    obtain ⟨ds, rfl, hds⟩ := isk_lst hi
    simp only [fSeq, fIfS, fRet, fAsg, fOwn, fApp, fExt, fBrk, fCnt, fDrop, fFrz, frz, fNext, fFor, fB, fAnd, fOr, fNot, fAndV, fOrV, fNotV, fIf, fChain, fOp, fUn, fVar, fC, fTup, fLst, fV, fCons, fNil, fCall, fCallL, fLenV, fSl, fPart, fNoPart, fStar, fAug, gS, gT, gN, gC, fSeqI, run_1, run_2, run_3, run_4, ix0, ix1, ix2, ix3, then_nx, then_rt, then_bk, then_ct, turn_nx, turn_ct, turn_bk, turn_rt, res_rt, asB_b, gIx_t, gIx_l, gAdd_i, gSub_i, gLt_i, gLe_i, gGt_i, gGe_i, eq_i, eq_s, ne_i, ne_s, gLen_t, gLen_l, gTup_l, gTup_t, strEq, Option.bind_some, List.getElem?_cons_zero, List.getElem?_cons_succ, List.set_cons_zero, List.set_cons_succ, List.replicate_succ, List.replicate_zero, Nat.reduceSub, Nat.reduceAdd, if_true, if_false, decide_true, decide_false, Bool.not_true, Bool.not_false, Bool.false_eq_true, String.reduceEq, reduceIte, List.length_cons, List.length_nil, Nat.reduceLeDiff, lim, b_turn, Mp.data, turnD]
  | sum =>
    obtain ⟨j, rfl⟩ := behind_lst hb (.inr (.inl rfl))
    have hj : j = .int := by
      have h' : (if j.isInt then some Kd.int else none) = some k' := hb
      split at h'
      · rename_i hi; exact isInt_of hi
      · cases h'
    subst hj
    obtain ⟨ds, rfl, hds⟩ := isk_lst hi
    have e : gSum [.tuple ds] = some (.int (ds.map intOf).sum) := by
      have e1 : ds = (ds.map intOf).map PyData.int := ints_of hds
      show (sumI ds).bind _ = _
      rw [show sumI ds = some (ds.map intOf).sum from by
        conv => lhs; rw [e1]
        exact sumI_int _]
      rfl
    simp only [fSeq, fIfS, fRet, fAsg, fOwn, fApp, fExt, fBrk, fCnt, fDrop, fFrz, frz, fNext, fFor, fB, fAnd, fOr, fNot, fAndV, fOrV, fNotV, fIf, fChain, fOp, fUn, fVar, fC, fTup, fLst, fV, fCons, fNil, fCall, fCallL, fLenV, fSl, fPart, fNoPart, fStar, fAug, gS, gT, gN, gC, fSeqI, run_1, run_2, run_3, run_4, ix0, ix1, ix2, ix3, then_nx, then_rt, then_bk, then_ct, turn_nx, turn_ct, turn_bk, turn_rt, res_rt, asB_b, gIx_t, gIx_l, gAdd_i, gSub_i, gLt_i, gLe_i, gGt_i, gGe_i, eq_i, eq_s, ne_i, ne_s, gLen_t, gLen_l, gTup_l, gTup_t, strEq, Option.bind_some, List.getElem?_cons_zero, List.getElem?_cons_succ, List.set_cons_zero, List.set_cons_succ, List.replicate_succ, List.replicate_zero, Nat.reduceSub, Nat.reduceAdd, if_true, if_false, decide_true, decide_false, Bool.not_true, Bool.not_false, Bool.false_eq_true, String.reduceEq, reduceIte, List.length_cons, List.length_nil, Nat.reduceLeDiff, lim, b_turn, Mp.data, turnD, e]
  | sorted =>
    obtain ⟨j, rfl⟩ := behind_lst hb (.inr (.inr (.inl rfl)))
    have hj : j.isFlat = true := by
      have h' : (if j.isFlat then some (Kd.lst j) else none) = some k' := hb
      split at h'
      · assumption
      · cases h'
    obtain ⟨ds, rfl, hds⟩ := isk_lst hi
    have e := gSorted_t (flat_sort hj hds hd)
    simp only [fSeq, fIfS, fRet, fAsg, fOwn, fApp, fExt, fBrk, fCnt, fDrop, fFrz, frz, fNext, fFor, fB, fAnd, fOr, fNot, fAndV, fOrV, fNotV, fIf, fChain, fOp, fUn, fVar, fC, fTup, fLst, fV, fCons, fNil, fCall, fCallL, fLenV, fSl, fPart, fNoPart, fStar, fAug, gS, gT, gN, gC, fSeqI, run_1, run_2, run_3, run_4, ix0, ix1, ix2, ix3, then_nx, then_rt, then_bk, then_ct, turn_nx, turn_ct, turn_bk, turn_rt, res_rt, asB_b, gIx_t, gIx_l, gAdd_i, gSub_i, gLt_i, gLe_i, gGt_i, gGe_i, eq_i, eq_s, ne_i, ne_s, gLen_t, gLen_l, gTup_l, gTup_t, strEq, Option.bind_some, List.getElem?_cons_zero, List.getElem?_cons_succ, List.set_cons_zero, List.set_cons_succ, List.replicate_succ, List.replicate_zero, Nat.reduceSub, Nat.reduceAdd, if_true, if_false, decide_true, decide_false, Bool.not_true, Bool.not_false, Bool.false_eq_true, String.reduceEq, reduceIte, List.length_cons, List.length_nil, Nat.reduceLeDiff, lim, b_turn, Mp.data, turnD, e]
  | reversed =>
    obtain ⟨j, rfl⟩ := behind_lst hb (.inr (.inr (.inr rfl)))
    obtain ⟨ds, rfl, hds⟩ := isk_lst hi
    simp only [fSeq, fIfS, fRet, fAsg, fOwn, fApp, fExt, fBrk, fCnt, fDrop, fFrz, frz, fNext, fFor, fB, fAnd, fOr, fNot, fAndV, fOrV, fNotV, fIf, fChain, fOp, fUn, fVar, fC, fTup, fLst, fV, fCons, fNil, fCall, fCallL, fLenV, fSl, fPart, fNoPart, fStar, fAug, gS, gT, gN, gC, fSeqI, run_1, run_2, run_3, run_4, ix0, ix1, ix2, ix3, then_nx, then_rt, then_bk, then_ct, turn_nx, turn_ct, turn_bk, turn_rt, res_rt, asB_b, gIx_t, gIx_l, gAdd_i, gSub_i, gLt_i, gLe_i, gGt_i, gGe_i, eq_i, eq_s, ne_i, ne_s, gLen_t, gLen_l, gTup_l, gTup_t, strEq, Option.bind_some, List.getElem?_cons_zero, List.getElem?_cons_succ, List.set_cons_zero, List.set_cons_succ, List.replicate_succ, List.replicate_zero, Nat.reduceSub, Nat.reduceAdd, if_true, if_false, decide_true, decide_false, Bool.not_true, Bool.not_false, Bool.false_eq_true, String.reduceEq, reduceIte, List.length_cons, List.length_nil, Nat.reduceLeDiff, lim, b_turn, Mp.data, turnD, gRev]
end Fb
namespace Fb
open PySem PySem.Spec PyProof.Rows L2 Evl CrT Cr Sm
theorem behind_sp {K : PySem.W.Frag} : ∀ vs H Q E, spBehind K vs H Q E → spF K A0 D_behind vs H Q E := fun vs H Q E h => by
  obtain ⟨v, u, m, k, rfl, hv, hu, hk, q⟩ := h
  refine ⟨O0, _, _, owl0, .cons (.of_vd hv) (.cons (.of_vd hu) .nil), m_behind m k ⟨10, hk, by decide⟩, fun r H' s hr => q r H' s (fun k' e => ?_) fun e => ?_⟩
  · rw [e] at hr
    exact hr.vd (flat_kd (behind_ok e hk))
  · rw [e] at hr
    exact hr.non_inv
theorem turn_sp {K : PySem.W.Frag} : ∀ vs H Q E, spTurn K vs H Q E → spF K A0 D_turn vs H Q E := fun vs H Q E h => by
  obtain ⟨v, u, m, d, k, k', rfl, hv, hu, hi, hb, hd, q⟩ := h
  exact ⟨O0, _, _, owl0, .cons (.of_vd hv) (.cons (.of_vd hu) .nil), m_turn hb hi hd, fun r H' s hr => q r H' s (hr.vd (flat_isk k' _ (turn_isk hb hi)))⟩
end Fb
namespace Fb
open PySem PySem.Spec PyProof.Rows L2 Evl CrT Cr Sm
def b_parts_in : FS :=
      (fSeq (fAsg (fOp gIx (fVar 0) (fC (.int 0))) (gS 1))
      (fSeq (fIfS (fB (fOp gIn (fVar 1) (fTup (fCons (fC (.str "tuple")) (fCons (fC (.str "one")) fNil))))) (fRet (fOp gIx (fVar 0) (fC (.int 1)))) fNext)
      (fSeq (fIfS (fB (fOp gIn (fVar 1) (fTup (fCons (fC (.str "list")) (fCons (fC (.str "kept")) (fCons (fC (.str "turned")) fNil)))))) (fRet (fTup (fCons (fOp gIx (fVar 0) (fC (.int 1))) fNil))) fNext)
      (fSeq (fIfS (fB (fOp gEq (fVar 1) (fC (.str "repeat")))) (fRet (fTup (fCons (fOp gIx (fVar 0) (fC (.int 1))) (fCons (fOp gIx (fVar 0) (fC (.int 2))) fNil)))) fNext)
      (fRet (fTup fNil))))))
def b_merged (f_merged : Fn) (f_parts_in : Fn) (f__merged_kept : Fn) (f__merged_turned : Fn) : FS :=
      (fSeq (fAsg (fOp gIx (fVar 0) (fC (.int 0))) (gS 1))
      (fSeq (fAsg (fV (fComp (fSeqI (fCall f_parts_in (fCons (fVar 0) fNil))) (gS 3) (fun _ => some true) (fCall f_merged (fCons (fVar 3) fNil)) [3])) (gS 2))
      (fSeq (fIfS (fB (fOp gIn (fVar 1) (fTup (fCons (fC (.str "tuple")) (fCons (fC (.str "one")) fNil))))) (fRet (fTup (fCons (fVar 1) (fCons (fCall gTuple (fCons (fVar 2) fNil)) fNil)))) fNext)
      (fSeq (fIfS (fB (fOp gEq (fVar 1) (fC (.str "list")))) (fRet (fTup (fCons (fC (.str "list")) (fCons (fOp gIx (fVar 2) (fC (.int 0))) (fCons (fOp gIx (fVar 0) (fC (.int 2))) (fCons (fOp gIx (fVar 0) (fC (.int 3))) fNil)))))) fNext)
      (fSeq (fIfS (fB (fOp gEq (fVar 1) (fC (.str "kept")))) (fRet (fCall f__merged_kept (fCons (fOp gIx (fVar 2) (fC (.int 0))) (fCons (fOp gIx (fVar 0) (fC (.int 2))) fNil)))) fNext)
      (fSeq (fIfS (fB (fOp gEq (fVar 1) (fC (.str "turned")))) (fRet (fCall f__merged_turned (fCons (fOp gIx (fVar 2) (fC (.int 0))) (fCons (fOp gIx (fVar 0) (fC (.int 2))) fNil)))) fNext)
      (fSeq (fIfS (fB (fOp gEq (fVar 1) (fC (.str "repeat")))) (fRet (fTup (fCons (fC (.str "repeat")) (fCons (fOp gIx (fVar 2) (fC (.int 0))) (fCons (fOp gIx (fVar 2) (fC (.int 1))) fNil))))) fNext)
      (fRet (fVar 0)))))))))
def b__merged_kept : FS :=
      (fSeq (fIfS (fB (fOp gEq (fOp gIx (fVar 0) (fC (.int 0))) (fC (.str "kept")))) (fRet (fTup (fCons (fC (.str "kept")) (fCons (fOp gIx (fVar 0) (fC (.int 1))) (fCons (fTup (fCons (fC (.str "and")) (fCons (fOp gIx (fVar 0) (fC (.int 2))) (fCons (fVar 1) fNil)))) fNil))))) fNext)
      (fRet (fTup (fCons (fC (.str "kept")) (fCons (fVar 0) (fCons (fVar 1) fNil))))))
def b__merged_turned : FS :=
      (fSeq (fIfS (fAnd (fB (fOp gEq (fOp gIx (fVar 0) (fC (.int 0))) (fC (.str "int")))) (fB (fOp gEq (fOp gIx (fVar 1) (fC (.int 0))) (fC (.str "plus"))))) (fSeq (fAsg (fV (fComp (fSeqI (fSl gSl (fVar 0) (fPart (fC (.int 1))) fNoPart)) (gS 3) (fun _ => some true) (fOp gAdd (fVar 3) (fOp gIx (fVar 1) (fC (.int 1)))) [3])) (gS 2))
        (fIfS (fB (fCall gAll (fCons (fV (fComp (fSeqI (fVar 2)) (gS 3) (fun _ => some true) (fChain gLe gLe (fUn gNeg (fC (.int 1000))) (fVar 3) (fC (.int 1000))) [3])) fNil))) (fRet (fTup (fCons (fC (.str "int")) (fStar (fVar 2) fNil)))) fNext)) fNext)
      (fRet (fTup (fCons (fC (.str "turned")) (fCons (fVar 0) (fCons (fVar 1) fNil))))))
def b_is_plain (f_is_plain : Fn) (f_parts_in : Fn) : FS :=
      (fSeq (fIfS (fB (fOp gIn (fOp gIx (fVar 0) (fC (.int 0))) (fTup (fCons (fC (.str "kept")) (fCons (fC (.str "repeat")) fNil))))) (fRet (fC (.bool false))) fNext)
      (fRet (fCall gAll (fCons (fV (fComp (fSeqI (fCall f_parts_in (fCons (fVar 0) fNil))) (gS 1) (fun _ => some true) (fCall f_is_plain (fCons (fVar 1) fNil)) [1])) fNil))))
end Fb
namespace Fb
open PySem PySem.Spec PyProof.Rows L2 Evl CrT Cr Sm
theorem compM_map {α : Type} {step : PyData → Option (Option PyData)} {f φ : α → PyData} : ∀ {l : List α}, (∀ a ∈ l, step (f a) = some (some (φ a))) → compM step (l.map f) = some (l.map φ)
  | [], _ => rfl
  | a :: l, h => by
    show (step (f a)).bind _ = _
    rw [h a List.mem_cons_self, Option.bind_some, compM_map fun b hb => h b (List.mem_cons_of_mem _ hb)]
    rfl
theorem fComp_map {α : Type} {fi : FA} {g : PyData → List Sl → Option (List Sl)} {t : FT} {e : FE} {vs : List Nat} {ρ : List Sl} {l : List α} {f φ : α → PyData} (hi : fi ρ = some (l.map f)) (hl : l.length ≤ 10000000) (hs : ∀ a ∈ l, cStep g t e (Sm.wpS ρ vs) (f a) = some (some (φ a))) : fComp fi g t e vs ρ = some (l.map φ) := by
  unfold fComp
  rw [hi, Option.bind_some, compM_map hs, Option.bind_some]
  exact if_pos (by rw [List.length_map]; exact hl)
/-! ### bounds in order -/
inductive LeG : Gn → Prop
  | int {lo hi : Int} : lo ≤ hi → LeG (.int lo hi)
  | pick {ws : List Str} : LeG (.pick ws)
  | tuple {gs : List Gn} : (∀ g ∈ gs, LeG g) → LeG (.tuple gs)
  | list {g : Gn} {a b : Int} : LeG g → LeG (.list g a b)
  | one {gs : List Gn} : (∀ g ∈ gs, LeG g) → LeG (.one gs)
  | kept {g : Gn} {c : Cd} : LeG g → LeG (.kept g c)
  | turned {g : Gn} {m : Mp} : LeG g → LeG (.turned g m)
  | repeat_ {g h : Gn} : LeG g → LeG h → LeG (.repeat_ g h)
theorem leG_of {g : Gn} {k : Kd} (h : GenK g k) : LeG g := by
  induction h with
  | int _ h _ => exact .int h
  | pick => exact .pick
  | @tuple gs ks _ hl _ ih =>
    refine .tuple fun g hg => ?_
    obtain ⟨i, hi⟩ := List.mem_iff_getElem?.mp hg
    have hlt := (List.getElem?_eq_some_iff.mp hi).1
    exact ih i g _ hi (List.getElem?_eq_getElem (by omega))
  | list _ _ _ _ ih => exact .list ih
  | one _ _ _ ih => exact .one ih
  | kept _ _ ih => exact .kept ih
  | turned _ _ ih => exact .turned ih
  | repeat_ _ _ ih1 ih2 => exact .repeat_ ih1 ih2
theorem leG_merge {g : Gn} (h : LeG g) : LeG (mergeG g) := by
  induction h with
  | int h => rw [mergeG]; exact .int h
  | pick => rw [mergeG]; exact .pick
  | tuple _ ih =>
    rw [mergeG, mergeAll_map]
    refine .tuple fun g hg => ?_
    obtain ⟨g', h1, rfl⟩ := List.mem_map.mp hg
    exact ih g' h1
  | list _ ih => rw [mergeG]; exact .list ih
  | one _ ih =>
    rw [mergeG, mergeAll_map]
    refine .one fun g hg => ?_
    obtain ⟨g', h1, rfl⟩ := List.mem_map.mp hg
    exact ih g' h1
  | @kept g c _ ih =>
    rw [mergeG]
    rcases kept_or (mergeG g) with ⟨g', c', e⟩ | ⟨_, e⟩
    · rw [e] at ih ⊢
      cases ih with
      | kept h => exact .kept h
    · rw [e]; exact .kept ih
  | @turned g m _ ih =>
    rw [mergeG]
    rcases int_or (mergeG g) with ⟨a, b, e⟩ | ⟨_, e⟩
    · rw [e] at ih ⊢
      cases ih with
      | int h =>
        rcases plus_or m with ⟨n, rfl⟩ | ⟨_, e2⟩
        · show LeG (if decide (-1000 ≤ a + n) && decide (b + n ≤ 1000) then .int (a + n) (b + n) else .turned (.int a b) (.plus n))
          split
          · exact .int (by omega)
          · exact .turned (.int h)
        · rw [e2]; exact .turned (.int h)
    · rw [e]; exact .turned ih
  | repeat_ _ _ ih1 ih2 => rw [mergeG]; exact .repeat_ ih1 ih2
/-! ### the program's defs -/
def D_parts : Fn := runF 2 1 b_parts_in
theorem m_parts (g : Gn) : D_parts [g.data] = some (.tuple ((partsG g).map Gn.data)) := by
  unfold D_parts
  cases g <;> simp only [fSeq, fIfS, fRet, fAsg, fOwn, fApp, fExt, fBrk, fCnt, fDrop, fFrz, frz, fNext, fFor, fB, fAnd, fOr, fNot, fAndV, fOrV, fNotV, fIf, fChain, fOp, fUn, fVar, fC, fTup, fLst, fV, fCons, fNil, fCall, fCallL, fLenV, fSl, fPart, fNoPart, fStar, fAug, gS, gT, gN, gC, fSeqI, run_1, run_2, run_3, run_4, ix0, ix1, ix2, ix3, then_nx, then_rt, then_bk, then_ct, turn_nx, turn_ct, turn_bk, turn_rt, res_rt, asB_b, gIx_t, gIx_l, gAdd_i, gSub_i, gLt_i, gLe_i, gGt_i, gGe_i, eq_i, eq_s, ne_i, ne_s, gLen_t, gLen_l, gTup_l, gTup_t, strEq, Option.bind_some, List.getElem?_cons_zero, List.getElem?_cons_succ, List.set_cons_zero, List.set_cons_succ, List.replicate_succ, List.replicate_zero, Nat.reduceSub, Nat.reduceAdd, if_true, if_false, decide_true, decide_false, Bool.not_true, Bool.not_false, Bool.false_eq_true, String.reduceEq, reduceIte, List.length_cons, List.length_nil, Nat.reduceLeDiff, lim, gIn_t, gIn_l, gNi_l, List.all_cons, List.all_nil, fl, Bool.and_self, eqF, List.any_cons, List.any_nil, Bool.or_true, Bool.or_false, Bool.true_or, Bool.false_or, Bool.and_true, Bool.and_false, Bool.false_and, Bool.true_and, b_parts_in, Gn.data, partsG, gnAll_map, List.map_cons, List.map_nil]
def D_mkept : Fn := runF 2 2 b__merged_kept
def D_mturned : Fn := runF 4 2 b__merged_turned
def D_merged : Nat → Fn
  | 0 => fun _ => none
  | n + 1 => runF 4 1 (b_merged (D_merged n) D_parts D_mkept D_mturned)
def D_plain : Nat → Fn
  | 0 => fun _ => none
  | n + 1 => runF 2 1 (b_is_plain (D_plain n) D_parts)
theorem m_mkept (g : Gn) (c : Cd) : D_mkept [g.data, c.data] = some (joinK g c).data := by
  unfold D_mkept
  cases g <;> simp only [fSeq, fIfS, fRet, fAsg, fOwn, fApp, fExt, fBrk, fCnt, fDrop, fFrz, frz, fNext, fFor, fB, fAnd, fOr, fNot, fAndV, fOrV, fNotV, fIf, fChain, fOp, fUn, fVar, fC, fTup, fLst, fV, fCons, fNil, fCall, fCallL, fLenV, fSl, fPart, fNoPart, fStar, fAug, gS, gT, gN, gC, fSeqI, run_1, run_2, run_3, run_4, ix0, ix1, ix2, ix3, then_nx, then_rt, then_bk, then_ct, turn_nx, turn_ct, turn_bk, turn_rt, res_rt, asB_b, gIx_t, gIx_l, gAdd_i, gSub_i, gLt_i, gLe_i, gGt_i, gGe_i, eq_i, eq_s, ne_i, ne_s, gLen_t, gLen_l, gTup_l, gTup_t, strEq, Option.bind_some, List.getElem?_cons_zero, List.getElem?_cons_succ, List.set_cons_zero, List.set_cons_succ, List.replicate_succ, List.replicate_zero, Nat.reduceSub, Nat.reduceAdd, if_true, if_false, decide_true, decide_false, Bool.not_true, Bool.not_false, Bool.false_eq_true, String.reduceEq, reduceIte, List.length_cons, List.length_nil, Nat.reduceLeDiff, lim, b__merged_kept, Gn.data, Cd.data, joinK]
theorem m_mturned {g : Gn} (hg : LeG g) (m : Mp) : D_mturned [g.data, m.data] = some (joinT g m).data := by
  unfold D_mturned
  cases g with
  | int a b =>
    cases hg with
    | int hab =>
    cases m with
    | plus n =>
      have hsl : gSl (.tuple [.str "int", .int a, .int b]) (some 1) none = some (.tuple [.int a, .int b]) := by rfl
      by_cases h1 : -1000 ≤ a + n <;> by_cases h2 : b + n ≤ 1000
      · have h3 : a + n ≤ 1000 := by omega
        have h4 : -1000 ≤ b + n := by omega
        simp only [fSeq, fIfS, fRet, fAsg, fOwn, fApp, fExt, fBrk, fCnt, fDrop, fFrz, frz, fNext, fFor, fB, fAnd, fOr, fNot, fAndV, fOrV, fNotV, fIf, fChain, fOp, fUn, fVar, fC, fTup, fLst, fV, fCons, fNil, fCall, fCallL, fLenV, fSl, fPart, fNoPart, fStar, fAug, gS, gT, gN, gC, fSeqI, run_1, run_2, run_3, run_4, ix0, ix1, ix2, ix3, then_nx, then_rt, then_bk, then_ct, turn_nx, turn_ct, turn_bk, turn_rt, res_rt, asB_b, gIx_t, gIx_l, gAdd_i, gSub_i, gLt_i, gLe_i, gGt_i, gGe_i, eq_i, eq_s, ne_i, ne_s, gLen_t, gLen_l, gTup_l, gTup_t, strEq, Option.bind_some, List.getElem?_cons_zero, List.getElem?_cons_succ, List.set_cons_zero, List.set_cons_succ, List.replicate_succ, List.replicate_zero, Nat.reduceSub, Nat.reduceAdd, if_true, if_false, decide_true, decide_false, Bool.not_true, Bool.not_false, Bool.false_eq_true, String.reduceEq, reduceIte, List.length_cons, List.length_nil, Nat.reduceLeDiff, lim, b__merged_turned, Gn.data, Mp.data, joinT, hsl, fComp, compM, cStep, Sm.wpS, gNeg, h1, h2, h3, h4, gAll, Sm.allB, Bool.and_self, List.cons_append, List.nil_append]
      · have h4 : -1000 ≤ b + n := by omega
        by_cases h3 : a + n ≤ 1000 <;> simp only [fSeq, fIfS, fRet, fAsg, fOwn, fApp, fExt, fBrk, fCnt, fDrop, fFrz, frz, fNext, fFor, fB, fAnd, fOr, fNot, fAndV, fOrV, fNotV, fIf, fChain, fOp, fUn, fVar, fC, fTup, fLst, fV, fCons, fNil, fCall, fCallL, fLenV, fSl, fPart, fNoPart, fStar, fAug, gS, gT, gN, gC, fSeqI, run_1, run_2, run_3, run_4, ix0, ix1, ix2, ix3, then_nx, then_rt, then_bk, then_ct, turn_nx, turn_ct, turn_bk, turn_rt, res_rt, asB_b, gIx_t, gIx_l, gAdd_i, gSub_i, gLt_i, gLe_i, gGt_i, gGe_i, eq_i, eq_s, ne_i, ne_s, gLen_t, gLen_l, gTup_l, gTup_t, strEq, Option.bind_some, List.getElem?_cons_zero, List.getElem?_cons_succ, List.set_cons_zero, List.set_cons_succ, List.replicate_succ, List.replicate_zero, Nat.reduceSub, Nat.reduceAdd, if_true, if_false, decide_true, decide_false, Bool.not_true, Bool.not_false, Bool.false_eq_true, String.reduceEq, reduceIte, List.length_cons, List.length_nil, Nat.reduceLeDiff, lim, b__merged_turned, Gn.data, Mp.data, joinT, hsl, fComp, compM, cStep, Sm.wpS, gNeg, h1, h2, h3, h4, gAll, Sm.allB, Bool.and_self, Bool.and_false, Bool.false_and, Bool.and_true]
      · have h3 : a + n ≤ 1000 := by omega
        by_cases h4 : -1000 ≤ b + n <;> simp only [fSeq, fIfS, fRet, fAsg, fOwn, fApp, fExt, fBrk, fCnt, fDrop, fFrz, frz, fNext, fFor, fB, fAnd, fOr, fNot, fAndV, fOrV, fNotV, fIf, fChain, fOp, fUn, fVar, fC, fTup, fLst, fV, fCons, fNil, fCall, fCallL, fLenV, fSl, fPart, fNoPart, fStar, fAug, gS, gT, gN, gC, fSeqI, run_1, run_2, run_3, run_4, ix0, ix1, ix2, ix3, then_nx, then_rt, then_bk, then_ct, turn_nx, turn_ct, turn_bk, turn_rt, res_rt, asB_b, gIx_t, gIx_l, gAdd_i, gSub_i, gLt_i, gLe_i, gGt_i, gGe_i, eq_i, eq_s, ne_i, ne_s, gLen_t, gLen_l, gTup_l, gTup_t, strEq, Option.bind_some, List.getElem?_cons_zero, List.getElem?_cons_succ, List.set_cons_zero, List.set_cons_succ, List.replicate_succ, List.replicate_zero, Nat.reduceSub, Nat.reduceAdd, if_true, if_false, decide_true, decide_false, Bool.not_true, Bool.not_false, Bool.false_eq_true, String.reduceEq, reduceIte, List.length_cons, List.length_nil, Nat.reduceLeDiff, lim, b__merged_turned, Gn.data, Mp.data, joinT, hsl, fComp, compM, cStep, Sm.wpS, gNeg, h1, h2, h3, h4, gAll, Sm.allB, Bool.and_self, Bool.and_false, Bool.false_and, Bool.and_true]
      · by_cases h3 : a + n ≤ 1000 <;> by_cases h4 : -1000 ≤ b + n <;> simp only [fSeq, fIfS, fRet, fAsg, fOwn, fApp, fExt, fBrk, fCnt, fDrop, fFrz, frz, fNext, fFor, fB, fAnd, fOr, fNot, fAndV, fOrV, fNotV, fIf, fChain, fOp, fUn, fVar, fC, fTup, fLst, fV, fCons, fNil, fCall, fCallL, fLenV, fSl, fPart, fNoPart, fStar, fAug, gS, gT, gN, gC, fSeqI, run_1, run_2, run_3, run_4, ix0, ix1, ix2, ix3, then_nx, then_rt, then_bk, then_ct, turn_nx, turn_ct, turn_bk, turn_rt, res_rt, asB_b, gIx_t, gIx_l, gAdd_i, gSub_i, gLt_i, gLe_i, gGt_i, gGe_i, eq_i, eq_s, ne_i, ne_s, gLen_t, gLen_l, gTup_l, gTup_t, strEq, Option.bind_some, List.getElem?_cons_zero, List.getElem?_cons_succ, List.set_cons_zero, List.set_cons_succ, List.replicate_succ, List.replicate_zero, Nat.reduceSub, Nat.reduceAdd, if_true, if_false, decide_true, decide_false, Bool.not_true, Bool.not_false, Bool.false_eq_true, String.reduceEq, reduceIte, List.length_cons, List.length_nil, Nat.reduceLeDiff, lim, b__merged_turned, Gn.data, Mp.data, joinT, hsl, fComp, compM, cStep, Sm.wpS, gNeg, h1, h2, h3, h4, gAll, Sm.allB, Bool.and_self, Bool.and_false, Bool.false_and, Bool.and_true]
    | _ => simp only [fSeq, fIfS, fRet, fAsg, fOwn, fApp, fExt, fBrk, fCnt, fDrop, fFrz, frz, fNext, fFor, fB, fAnd, fOr, fNot, fAndV, fOrV, fNotV, fIf, fChain, fOp, fUn, fVar, fC, fTup, fLst, fV, fCons, fNil, fCall, fCallL, fLenV, fSl, fPart, fNoPart, fStar, fAug, gS, gT, gN, gC, fSeqI, run_1, run_2, run_3, run_4, ix0, ix1, ix2, ix3, then_nx, then_rt, then_bk, then_ct, turn_nx, turn_ct, turn_bk, turn_rt, res_rt, asB_b, gIx_t, gIx_l, gAdd_i, gSub_i, gLt_i, gLe_i, gGt_i, gGe_i, eq_i, eq_s, ne_i, ne_s, gLen_t, gLen_l, gTup_l, gTup_t, strEq, Option.bind_some, List.getElem?_cons_zero, List.getElem?_cons_succ, List.set_cons_zero, List.set_cons_succ, List.replicate_succ, List.replicate_zero, Nat.reduceSub, Nat.reduceAdd, if_true, if_false, decide_true, decide_false, Bool.not_true, Bool.not_false, Bool.false_eq_true, String.reduceEq, reduceIte, List.length_cons, List.length_nil, Nat.reduceLeDiff, lim, b__merged_turned, Gn.data, Mp.data, joinT]
  | _ => simp only [fSeq, fIfS, fRet, fAsg, fOwn, fApp, fExt, fBrk, fCnt, fDrop, fFrz, frz, fNext, fFor, fB, fAnd, fOr, fNot, fAndV, fOrV, fNotV, fIf, fChain, fOp, fUn, fVar, fC, fTup, fLst, fV, fCons, fNil, fCall, fCallL, fLenV, fSl, fPart, fNoPart, fStar, fAug, gS, gT, gN, gC, fSeqI, run_1, run_2, run_3, run_4, ix0, ix1, ix2, ix3, then_nx, then_rt, then_bk, then_ct, turn_nx, turn_ct, turn_bk, turn_rt, res_rt, asB_b, gIx_t, gIx_l, gAdd_i, gSub_i, gLt_i, gLe_i, gGt_i, gGe_i, eq_i, eq_s, ne_i, ne_s, gLen_t, gLen_l, gTup_l, gTup_t, strEq, Option.bind_some, List.getElem?_cons_zero, List.getElem?_cons_succ, List.set_cons_zero, List.set_cons_succ, List.replicate_succ, List.replicate_zero, Nat.reduceSub, Nat.reduceAdd, if_true, if_false, decide_true, decide_false, Bool.not_true, Bool.not_false, Bool.false_eq_true, String.reduceEq, reduceIte, List.length_cons, List.length_nil, Nat.reduceLeDiff, lim, b__merged_turned, Gn.data, Mp.data, joinT]
theorem leG_parts {g : Gn} (hle : LeG g) : ∀ p ∈ partsG g, LeG p := fun p hp => by
  cases hle with
  | int => cases hp
  | pick => cases hp
  | tuple hh => exact hh p hp
  | list hh => cases List.mem_singleton.mp hp; exact hh
  | one hh => exact hh p hp
  | kept hh => cases List.mem_singleton.mp hp; exact hh
  | turned hh => cases List.mem_singleton.mp hp; exact hh
  | repeat_ h1 h2 =>
    rcases List.mem_cons.mp hp with rfl | hp
    · exact h1
    · cases List.mem_singleton.mp hp; exact h2
theorem m_merged : ∀ (n : Nat) {k : Nat} {g : Gn}, OkGk k n g → LeG g → D_merged n [g.data] = some (mergeG g).data
  | 0, k, g, h, _ => absurd h.pos (by omega)
  | n + 1, k, g, h, hle => by
    have ih : ∀ p ∈ partsG g, D_merged n [p.data] = some (mergeG p).data := fun p hp => m_merged n (h.parts p hp) (leG_parts hle p hp)
    have hpl := h.parts_len
    have hp := m_parts g
    unfold D_merged
    have hc : ∀ (ρ : List Sl), ρ[0]? = some (.val g.data) → 3 < ρ.length → fComp (fSeqI (fCall D_parts (fCons (fVar 0) fNil))) (gS 3) (fun _ => some true) (fCall (D_merged n) (fCons (fVar 3) fNil)) [3] ρ = some ((partsG g).map fun p => (mergeG p).data) := fun ρ h0 h3 => by
      refine fComp_map (l := partsG g) (f := Gn.data) ?_ (by omega) fun p hpm => ?_
      · simp only [fSeq, fIfS, fRet, fAsg, fOwn, fApp, fExt, fBrk, fCnt, fDrop, fFrz, frz, fNext, fFor, fB, fAnd, fOr, fNot, fAndV, fOrV, fNotV, fIf, fChain, fOp, fUn, fVar, fC, fTup, fLst, fV, fCons, fNil, fCall, fCallL, fLenV, fSl, fPart, fNoPart, fStar, fAug, gS, gT, gN, gC, fSeqI, run_1, run_2, run_3, run_4, ix0, ix1, ix2, ix3, then_nx, then_rt, then_bk, then_ct, turn_nx, turn_ct, turn_bk, turn_rt, res_rt, asB_b, gIx_t, gIx_l, gAdd_i, gSub_i, gLt_i, gLe_i, gGt_i, gGe_i, eq_i, eq_s, ne_i, ne_s, gLen_t, gLen_l, gTup_l, gTup_t, strEq, Option.bind_some, List.getElem?_cons_zero, List.getElem?_cons_succ, List.set_cons_zero, List.set_cons_succ, List.replicate_succ, List.replicate_zero, Nat.reduceSub, Nat.reduceAdd, if_true, if_false, decide_true, decide_false, Bool.not_true, Bool.not_false, Bool.false_eq_true, String.reduceEq, reduceIte, List.length_cons, List.length_nil, Nat.reduceLeDiff, lim, h0, hp]
      · have e3 : ((Sm.wpS ρ [3]).set 3 (.val p.data))[3]? = some (Sl.val p.data) := by
          rw [List.getElem?_set_self]
          show 3 < (ρ.set 3 .un).length
          rw [List.length_set]; exact h3
        simp only [fSeq, fIfS, fRet, fAsg, fOwn, fApp, fExt, fBrk, fCnt, fDrop, fFrz, frz, fNext, fFor, fB, fAnd, fOr, fNot, fAndV, fOrV, fNotV, fIf, fChain, fOp, fUn, fVar, fC, fTup, fLst, fV, fCons, fNil, fCall, fCallL, fLenV, fSl, fPart, fNoPart, fStar, fAug, gS, gT, gN, gC, fSeqI, run_1, run_2, run_3, run_4, ix0, ix1, ix2, ix3, then_nx, then_rt, then_bk, then_ct, turn_nx, turn_ct, turn_bk, turn_rt, res_rt, asB_b, gIx_t, gIx_l, gAdd_i, gSub_i, gLt_i, gLe_i, gGt_i, gGe_i, eq_i, eq_s, ne_i, ne_s, gLen_t, gLen_l, gTup_l, gTup_t, strEq, Option.bind_some, List.getElem?_cons_zero, List.getElem?_cons_succ, List.set_cons_zero, List.set_cons_succ, List.replicate_succ, List.replicate_zero, Nat.reduceSub, Nat.reduceAdd, if_true, if_false, decide_true, decide_false, Bool.not_true, Bool.not_false, Bool.false_eq_true, String.reduceEq, reduceIte, List.length_cons, List.length_nil, Nat.reduceLeDiff, lim, cStep, e3, ih p hpm]
    have hc1 := hc [.val g.data, .val (.str (nameG g)), .un, .un] rfl (by show 3 < 4; decide)
    cases g with
    | int a b =>
      simp only [Gn.data, nameG, partsG, List.map_nil] at hc1
      simp only [fSeq, fIfS, fRet, fAsg, fOwn, fApp, fExt, fBrk, fCnt, fDrop, fFrz, frz, fNext, fFor, fB, fAnd, fOr, fNot, fAndV, fOrV, fNotV, fIf, fChain, fOp, fUn, fVar, fC, fTup, fLst, fV, fCons, fNil, fCall, fCallL, fLenV, fSl, fPart, fNoPart, fStar, fAug, gS, gT, gN, gC, fSeqI, run_1, run_2, run_3, run_4, ix0, ix1, ix2, ix3, then_nx, then_rt, then_bk, then_ct, turn_nx, turn_ct, turn_bk, turn_rt, res_rt, asB_b, gIx_t, gIx_l, gAdd_i, gSub_i, gLt_i, gLe_i, gGt_i, gGe_i, eq_i, eq_s, ne_i, ne_s, gLen_t, gLen_l, gTup_l, gTup_t, strEq, Option.bind_some, List.getElem?_cons_zero, List.getElem?_cons_succ, List.set_cons_zero, List.set_cons_succ, List.replicate_succ, List.replicate_zero, Nat.reduceSub, Nat.reduceAdd, if_true, if_false, decide_true, decide_false, Bool.not_true, Bool.not_false, Bool.false_eq_true, String.reduceEq, reduceIte, List.length_cons, List.length_nil, Nat.reduceLeDiff, lim, gIn_t, gIn_l, gNi_l, List.all_cons, List.all_nil, fl, Bool.and_self, eqF, List.any_cons, List.any_nil, Bool.or_true, Bool.or_false, Bool.true_or, Bool.false_or, Bool.and_true, Bool.and_false, Bool.false_and, Bool.true_and, b_merged, hc1, Gn.data, mergeG]
    | pick ws =>
      simp only [Gn.data, nameG, partsG, List.map_nil] at hc1
      simp only [fSeq, fIfS, fRet, fAsg, fOwn, fApp, fExt, fBrk, fCnt, fDrop, fFrz, frz, fNext, fFor, fB, fAnd, fOr, fNot, fAndV, fOrV, fNotV, fIf, fChain, fOp, fUn, fVar, fC, fTup, fLst, fV, fCons, fNil, fCall, fCallL, fLenV, fSl, fPart, fNoPart, fStar, fAug, gS, gT, gN, gC, fSeqI, run_1, run_2, run_3, run_4, ix0, ix1, ix2, ix3, then_nx, then_rt, then_bk, then_ct, turn_nx, turn_ct, turn_bk, turn_rt, res_rt, asB_b, gIx_t, gIx_l, gAdd_i, gSub_i, gLt_i, gLe_i, gGt_i, gGe_i, eq_i, eq_s, ne_i, ne_s, gLen_t, gLen_l, gTup_l, gTup_t, strEq, Option.bind_some, List.getElem?_cons_zero, List.getElem?_cons_succ, List.set_cons_zero, List.set_cons_succ, List.replicate_succ, List.replicate_zero, Nat.reduceSub, Nat.reduceAdd, if_true, if_false, decide_true, decide_false, Bool.not_true, Bool.not_false, Bool.false_eq_true, String.reduceEq, reduceIte, List.length_cons, List.length_nil, Nat.reduceLeDiff, lim, gIn_t, gIn_l, gNi_l, List.all_cons, List.all_nil, fl, Bool.and_self, eqF, List.any_cons, List.any_nil, Bool.or_true, Bool.or_false, Bool.true_or, Bool.false_or, Bool.and_true, Bool.and_false, Bool.false_and, Bool.true_and, b_merged, hc1, Gn.data, mergeG]
    | tuple gs =>
      simp only [Gn.data, nameG, partsG, gnAll_map] at hc1
      simp only [fSeq, fIfS, fRet, fAsg, fOwn, fApp, fExt, fBrk, fCnt, fDrop, fFrz, frz, fNext, fFor, fB, fAnd, fOr, fNot, fAndV, fOrV, fNotV, fIf, fChain, fOp, fUn, fVar, fC, fTup, fLst, fV, fCons, fNil, fCall, fCallL, fLenV, fSl, fPart, fNoPart, fStar, fAug, gS, gT, gN, gC, fSeqI, run_1, run_2, run_3, run_4, ix0, ix1, ix2, ix3, then_nx, then_rt, then_bk, then_ct, turn_nx, turn_ct, turn_bk, turn_rt, res_rt, asB_b, gIx_t, gIx_l, gAdd_i, gSub_i, gLt_i, gLe_i, gGt_i, gGe_i, eq_i, eq_s, ne_i, ne_s, gLen_t, gLen_l, gTup_l, gTup_t, strEq, Option.bind_some, List.getElem?_cons_zero, List.getElem?_cons_succ, List.set_cons_zero, List.set_cons_succ, List.replicate_succ, List.replicate_zero, Nat.reduceSub, Nat.reduceAdd, if_true, if_false, decide_true, decide_false, Bool.not_true, Bool.not_false, Bool.false_eq_true, String.reduceEq, reduceIte, List.length_cons, List.length_nil, Nat.reduceLeDiff, lim, gIn_t, gIn_l, gNi_l, List.all_cons, List.all_nil, fl, Bool.and_self, eqF, List.any_cons, List.any_nil, Bool.or_true, Bool.or_false, Bool.true_or, Bool.false_or, Bool.and_true, Bool.and_false, Bool.false_and, Bool.true_and, b_merged, hc1, Gn.data, mergeG, gnAll_map, mergeAll_map, List.map_map, Function.comp_def]
    | one gs =>
      simp only [Gn.data, nameG, partsG, gnAll_map] at hc1
      simp only [fSeq, fIfS, fRet, fAsg, fOwn, fApp, fExt, fBrk, fCnt, fDrop, fFrz, frz, fNext, fFor, fB, fAnd, fOr, fNot, fAndV, fOrV, fNotV, fIf, fChain, fOp, fUn, fVar, fC, fTup, fLst, fV, fCons, fNil, fCall, fCallL, fLenV, fSl, fPart, fNoPart, fStar, fAug, gS, gT, gN, gC, fSeqI, run_1, run_2, run_3, run_4, ix0, ix1, ix2, ix3, then_nx, then_rt, then_bk, then_ct, turn_nx, turn_ct, turn_bk, turn_rt, res_rt, asB_b, gIx_t, gIx_l, gAdd_i, gSub_i, gLt_i, gLe_i, gGt_i, gGe_i, eq_i, eq_s, ne_i, ne_s, gLen_t, gLen_l, gTup_l, gTup_t, strEq, Option.bind_some, List.getElem?_cons_zero, List.getElem?_cons_succ, List.set_cons_zero, List.set_cons_succ, List.replicate_succ, List.replicate_zero, Nat.reduceSub, Nat.reduceAdd, if_true, if_false, decide_true, decide_false, Bool.not_true, Bool.not_false, Bool.false_eq_true, String.reduceEq, reduceIte, List.length_cons, List.length_nil, Nat.reduceLeDiff, lim, gIn_t, gIn_l, gNi_l, List.all_cons, List.all_nil, fl, Bool.and_self, eqF, List.any_cons, List.any_nil, Bool.or_true, Bool.or_false, Bool.true_or, Bool.false_or, Bool.and_true, Bool.and_false, Bool.false_and, Bool.true_and, b_merged, hc1, Gn.data, mergeG, gnAll_map, mergeAll_map, List.map_map, Function.comp_def]
    | list g a b =>
      simp only [Gn.data, nameG, partsG, List.map_cons, List.map_nil] at hc1
      simp only [fSeq, fIfS, fRet, fAsg, fOwn, fApp, fExt, fBrk, fCnt, fDrop, fFrz, frz, fNext, fFor, fB, fAnd, fOr, fNot, fAndV, fOrV, fNotV, fIf, fChain, fOp, fUn, fVar, fC, fTup, fLst, fV, fCons, fNil, fCall, fCallL, fLenV, fSl, fPart, fNoPart, fStar, fAug, gS, gT, gN, gC, fSeqI, run_1, run_2, run_3, run_4, ix0, ix1, ix2, ix3, then_nx, then_rt, then_bk, then_ct, turn_nx, turn_ct, turn_bk, turn_rt, res_rt, asB_b, gIx_t, gIx_l, gAdd_i, gSub_i, gLt_i, gLe_i, gGt_i, gGe_i, eq_i, eq_s, ne_i, ne_s, gLen_t, gLen_l, gTup_l, gTup_t, strEq, Option.bind_some, List.getElem?_cons_zero, List.getElem?_cons_succ, List.set_cons_zero, List.set_cons_succ, List.replicate_succ, List.replicate_zero, Nat.reduceSub, Nat.reduceAdd, if_true, if_false, decide_true, decide_false, Bool.not_true, Bool.not_false, Bool.false_eq_true, String.reduceEq, reduceIte, List.length_cons, List.length_nil, Nat.reduceLeDiff, lim, gIn_t, gIn_l, gNi_l, List.all_cons, List.all_nil, fl, Bool.and_self, eqF, List.any_cons, List.any_nil, Bool.or_true, Bool.or_false, Bool.true_or, Bool.false_or, Bool.and_true, Bool.and_false, Bool.false_and, Bool.true_and, b_merged, hc1, Gn.data, mergeG]
    | kept g c =>
      simp only [Gn.data, nameG, partsG, List.map_cons, List.map_nil] at hc1
      simp only [fSeq, fIfS, fRet, fAsg, fOwn, fApp, fExt, fBrk, fCnt, fDrop, fFrz, frz, fNext, fFor, fB, fAnd, fOr, fNot, fAndV, fOrV, fNotV, fIf, fChain, fOp, fUn, fVar, fC, fTup, fLst, fV, fCons, fNil, fCall, fCallL, fLenV, fSl, fPart, fNoPart, fStar, fAug, gS, gT, gN, gC, fSeqI, run_1, run_2, run_3, run_4, ix0, ix1, ix2, ix3, then_nx, then_rt, then_bk, then_ct, turn_nx, turn_ct, turn_bk, turn_rt, res_rt, asB_b, gIx_t, gIx_l, gAdd_i, gSub_i, gLt_i, gLe_i, gGt_i, gGe_i, eq_i, eq_s, ne_i, ne_s, gLen_t, gLen_l, gTup_l, gTup_t, strEq, Option.bind_some, List.getElem?_cons_zero, List.getElem?_cons_succ, List.set_cons_zero, List.set_cons_succ, List.replicate_succ, List.replicate_zero, Nat.reduceSub, Nat.reduceAdd, if_true, if_false, decide_true, decide_false, Bool.not_true, Bool.not_false, Bool.false_eq_true, String.reduceEq, reduceIte, List.length_cons, List.length_nil, Nat.reduceLeDiff, lim, gIn_t, gIn_l, gNi_l, List.all_cons, List.all_nil, fl, Bool.and_self, eqF, List.any_cons, List.any_nil, Bool.or_true, Bool.or_false, Bool.true_or, Bool.false_or, Bool.and_true, Bool.and_false, Bool.false_and, Bool.true_and, b_merged, hc1, Gn.data, mergeG, m_mkept]
    | turned g m =>
      have ihm := m_mturned (leG_merge (leG_parts hle g (List.mem_singleton.mpr rfl))) m
      simp only [Gn.data, nameG, partsG, List.map_cons, List.map_nil] at hc1
      simp only [fSeq, fIfS, fRet, fAsg, fOwn, fApp, fExt, fBrk, fCnt, fDrop, fFrz, frz, fNext, fFor, fB, fAnd, fOr, fNot, fAndV, fOrV, fNotV, fIf, fChain, fOp, fUn, fVar, fC, fTup, fLst, fV, fCons, fNil, fCall, fCallL, fLenV, fSl, fPart, fNoPart, fStar, fAug, gS, gT, gN, gC, fSeqI, run_1, run_2, run_3, run_4, ix0, ix1, ix2, ix3, then_nx, then_rt, then_bk, then_ct, turn_nx, turn_ct, turn_bk, turn_rt, res_rt, asB_b, gIx_t, gIx_l, gAdd_i, gSub_i, gLt_i, gLe_i, gGt_i, gGe_i, eq_i, eq_s, ne_i, ne_s, gLen_t, gLen_l, gTup_l, gTup_t, strEq, Option.bind_some, List.getElem?_cons_zero, List.getElem?_cons_succ, List.set_cons_zero, List.set_cons_succ, List.replicate_succ, List.replicate_zero, Nat.reduceSub, Nat.reduceAdd, if_true, if_false, decide_true, decide_false, Bool.not_true, Bool.not_false, Bool.false_eq_true, String.reduceEq, reduceIte, List.length_cons, List.length_nil, Nat.reduceLeDiff, lim, gIn_t, gIn_l, gNi_l, List.all_cons, List.all_nil, fl, Bool.and_self, eqF, List.any_cons, List.any_nil, Bool.or_true, Bool.or_false, Bool.true_or, Bool.false_or, Bool.and_true, Bool.and_false, Bool.false_and, Bool.true_and, b_merged, hc1, Gn.data, mergeG, ihm]
    | repeat_ g h =>
      simp only [Gn.data, nameG, partsG, List.map_cons, List.map_nil] at hc1
      simp only [fSeq, fIfS, fRet, fAsg, fOwn, fApp, fExt, fBrk, fCnt, fDrop, fFrz, frz, fNext, fFor, fB, fAnd, fOr, fNot, fAndV, fOrV, fNotV, fIf, fChain, fOp, fUn, fVar, fC, fTup, fLst, fV, fCons, fNil, fCall, fCallL, fLenV, fSl, fPart, fNoPart, fStar, fAug, gS, gT, gN, gC, fSeqI, run_1, run_2, run_3, run_4, ix0, ix1, ix2, ix3, then_nx, then_rt, then_bk, then_ct, turn_nx, turn_ct, turn_bk, turn_rt, res_rt, asB_b, gIx_t, gIx_l, gAdd_i, gSub_i, gLt_i, gLe_i, gGt_i, gGe_i, eq_i, eq_s, ne_i, ne_s, gLen_t, gLen_l, gTup_l, gTup_t, strEq, Option.bind_some, List.getElem?_cons_zero, List.getElem?_cons_succ, List.set_cons_zero, List.set_cons_succ, List.replicate_succ, List.replicate_zero, Nat.reduceSub, Nat.reduceAdd, if_true, if_false, decide_true, decide_false, Bool.not_true, Bool.not_false, Bool.false_eq_true, String.reduceEq, reduceIte, List.length_cons, List.length_nil, Nat.reduceLeDiff, lim, gIn_t, gIn_l, gNi_l, List.all_cons, List.all_nil, fl, Bool.and_self, eqF, List.any_cons, List.any_nil, Bool.or_true, Bool.or_false, Bool.true_or, Bool.false_or, Bool.and_true, Bool.and_false, Bool.false_and, Bool.true_and, b_merged, hc1, Gn.data, mergeG]
theorem allB_map {α : Type} (f : α → Bool) : ∀ l : List α, Sm.allB (l.map fun a => .bool (f a)) = some (l.all f)
  | [] => rfl
  | a :: l => by
    show (Sm.allB (l.map fun a => .bool (f a))).bind _ = _
    rw [allB_map f l]
    rfl
theorem m_plain : ∀ (n : Nat) {k : Nat} {g : Gn}, OkGk k n g → D_plain n [g.data] = some (.bool (plainG g))
  | 0, k, g, h => absurd h.pos (by omega)
  | n + 1, k, g, h => by
    have ih : ∀ p ∈ partsG g, D_plain n [p.data] = some (.bool (plainG p)) := fun p hp => m_plain n (h.parts p hp)
    have hpl := h.parts_len
    have hp := m_parts g
    have hn := plain_eq g
    have hc : fComp (fSeqI (fCall D_parts (fCons (fVar 0) fNil))) (gS 1) (fun _ => some true) (fCall (D_plain n) (fCons (fVar 1) fNil)) [1] [.val g.data, .un] = some ((partsG g).map fun p => .bool (plainG p)) := by
      refine fComp_map (l := partsG g) (f := Gn.data) ?_ (by omega) fun p hpm => ?_
      · simp only [fSeq, fIfS, fRet, fAsg, fOwn, fApp, fExt, fBrk, fCnt, fDrop, fFrz, frz, fNext, fFor, fB, fAnd, fOr, fNot, fAndV, fOrV, fNotV, fIf, fChain, fOp, fUn, fVar, fC, fTup, fLst, fV, fCons, fNil, fCall, fCallL, fLenV, fSl, fPart, fNoPart, fStar, fAug, gS, gT, gN, gC, fSeqI, run_1, run_2, run_3, run_4, ix0, ix1, ix2, ix3, then_nx, then_rt, then_bk, then_ct, turn_nx, turn_ct, turn_bk, turn_rt, res_rt, asB_b, gIx_t, gIx_l, gAdd_i, gSub_i, gLt_i, gLe_i, gGt_i, gGe_i, eq_i, eq_s, ne_i, ne_s, gLen_t, gLen_l, gTup_l, gTup_t, strEq, Option.bind_some, List.getElem?_cons_zero, List.getElem?_cons_succ, List.set_cons_zero, List.set_cons_succ, List.replicate_succ, List.replicate_zero, Nat.reduceSub, Nat.reduceAdd, if_true, if_false, decide_true, decide_false, Bool.not_true, Bool.not_false, Bool.false_eq_true, String.reduceEq, reduceIte, List.length_cons, List.length_nil, Nat.reduceLeDiff, lim, hp]
      · simp only [fSeq, fIfS, fRet, fAsg, fOwn, fApp, fExt, fBrk, fCnt, fDrop, fFrz, frz, fNext, fFor, fB, fAnd, fOr, fNot, fAndV, fOrV, fNotV, fIf, fChain, fOp, fUn, fVar, fC, fTup, fLst, fV, fCons, fNil, fCall, fCallL, fLenV, fSl, fPart, fNoPart, fStar, fAug, gS, gT, gN, gC, fSeqI, run_1, run_2, run_3, run_4, ix0, ix1, ix2, ix3, then_nx, then_rt, then_bk, then_ct, turn_nx, turn_ct, turn_bk, turn_rt, res_rt, asB_b, gIx_t, gIx_l, gAdd_i, gSub_i, gLt_i, gLe_i, gGt_i, gGe_i, eq_i, eq_s, ne_i, ne_s, gLen_t, gLen_l, gTup_l, gTup_t, strEq, Option.bind_some, List.getElem?_cons_zero, List.getElem?_cons_succ, List.set_cons_zero, List.set_cons_succ, List.replicate_succ, List.replicate_zero, Nat.reduceSub, Nat.reduceAdd, if_true, if_false, decide_true, decide_false, Bool.not_true, Bool.not_false, Bool.false_eq_true, String.reduceEq, reduceIte, List.length_cons, List.length_nil, Nat.reduceLeDiff, lim, cStep, Sm.wpS, ih p hpm]
    have ha : gAll [.list ((partsG g).map fun p => .bool (plainG p))] = some (.bool ((partsG g).all plainG)) := by
      show (Sm.allB _).bind _ = _
      rw [allB_map]
      rfl
    rw [hn]
    unfold D_plain
    cases g <;> (simp only [Gn.data] at hc; simp only [fSeq, fIfS, fRet, fAsg, fOwn, fApp, fExt, fBrk, fCnt, fDrop, fFrz, frz, fNext, fFor, fB, fAnd, fOr, fNot, fAndV, fOrV, fNotV, fIf, fChain, fOp, fUn, fVar, fC, fTup, fLst, fV, fCons, fNil, fCall, fCallL, fLenV, fSl, fPart, fNoPart, fStar, fAug, gS, gT, gN, gC, fSeqI, run_1, run_2, run_3, run_4, ix0, ix1, ix2, ix3, then_nx, then_rt, then_bk, then_ct, turn_nx, turn_ct, turn_bk, turn_rt, res_rt, asB_b, gIx_t, gIx_l, gAdd_i, gSub_i, gLt_i, gLe_i, gGt_i, gGe_i, eq_i, eq_s, ne_i, ne_s, gLen_t, gLen_l, gTup_l, gTup_t, strEq, Option.bind_some, List.getElem?_cons_zero, List.getElem?_cons_succ, List.set_cons_zero, List.set_cons_succ, List.replicate_succ, List.replicate_zero, Nat.reduceSub, Nat.reduceAdd, if_true, if_false, decide_true, decide_false, Bool.not_true, Bool.not_false, Bool.false_eq_true, String.reduceEq, reduceIte, List.length_cons, List.length_nil, Nat.reduceLeDiff, lim, gIn_t, gIn_l, gNi_l, List.all_cons, List.all_nil, fl, Bool.and_self, eqF, List.any_cons, List.any_nil, Bool.or_true, Bool.or_false, Bool.true_or, Bool.false_or, Bool.and_true, Bool.and_false, Bool.false_and, Bool.true_and, b_is_plain, Gn.data, nameG, inV, eqV, hc, ha] <;> first | rfl | decide | skip)
end Fb
namespace Fb
open PySem PySem.Spec PyProof.Rows L2 Evl CrT Cr Sm
mutual
theorem kd_inj : ∀ k j : Kd, k.data = j.data → k = j
  | .int, j, h => by
    cases j <;> simp only [Kd.data, PyData.str.injEq, strEq, String.reduceEq, reduceCtorEq] at h ⊢
  | .word, j, h => by
    cases j <;> simp only [Kd.data, PyData.str.injEq, strEq, String.reduceEq, reduceCtorEq] at h ⊢
  | .lst k, j, h => by
    cases j with
    | lst j =>
      simp only [Kd.data, PyData.tuple.injEq, List.cons.injEq, and_true, true_and] at h
      rw [kd_inj k j h]
    | _ => simp only [Kd.data, PyData.tuple.injEq, PyData.str.injEq, List.cons.injEq, strEq, String.reduceEq, reduceCtorEq, false_and] at h
  | .tup ks, j, h => by
    cases j with
    | tup js =>
      simp only [Kd.data, PyData.tuple.injEq, List.cons.injEq, and_true, true_and] at h
      rw [kds_inj ks js h]
    | _ => simp only [Kd.data, PyData.tuple.injEq, PyData.str.injEq, List.cons.injEq, strEq, String.reduceEq, reduceCtorEq, false_and] at h
theorem kds_inj : ∀ ks js : List Kd, dataAll ks = dataAll js → ks = js
  | [], [], _ => rfl
  | [], _ :: _, h => by simp [dataAll] at h
  | _ :: _, [], h => by simp [dataAll] at h
  | k :: ks, j :: js, h => by
    simp only [dataAll, List.cons.injEq] at h
    rw [kd_inj k j h.1, kds_inj ks js h.2]
end
theorem cd_inj : ∀ c d : Cd, c.data = d.data → c = d := by
  intro c
  induction c with
  | item i c ih => 
    intro d h
    cases d <;> simp only [Cd.data, PyData.tuple.injEq, PyData.str.injEq, PyData.int.injEq, List.cons.injEq, strEq, String.reduceEq, reduceCtorEq, false_and, and_false, and_true, true_and] at h
    obtain ⟨rfl, h⟩ := h
    rw [ih _ h]
  | and_ c1 c2 ih1 ih2 =>
    intro d h
    cases d <;> simp only [Cd.data, PyData.tuple.injEq, PyData.str.injEq, PyData.int.injEq, List.cons.injEq, strEq, String.reduceEq, reduceCtorEq, false_and, and_false, and_true, true_and] at h
    rw [ih1 _ h.1, ih2 _ h.2]
  | or_ c1 c2 ih1 ih2 =>
    intro d h
    cases d <;> simp only [Cd.data, PyData.tuple.injEq, PyData.str.injEq, PyData.int.injEq, List.cons.injEq, strEq, String.reduceEq, reduceCtorEq, false_and, and_false, and_true, true_and] at h
    rw [ih1 _ h.1, ih2 _ h.2]
  | atmost | divides | is =>
    intro d h
    cases d <;> simp only [Cd.data, PyData.tuple.injEq, PyData.str.injEq, PyData.int.injEq, List.cons.injEq, strEq, String.reduceEq, reduceCtorEq, false_and, and_false, and_true, true_and] at h
    rw [h]
  | rising | different =>
    intro d h
    cases d <;> first | rfl | simp only [Cd.data, PyData.tuple.injEq, PyData.str.injEq, PyData.int.injEq, List.cons.injEq, strEq, String.reduceEq, reduceCtorEq, false_and, and_false, and_true, true_and] at h
  | _ c ih =>
    intro d h
    cases d <;> simp only [Cd.data, PyData.tuple.injEq, PyData.str.injEq, PyData.int.injEq, List.cons.injEq, strEq, String.reduceEq, reduceCtorEq, false_and, and_false, and_true, true_and] at h
    rw [ih _ h]
/-! ### fits and holds, shown otherwise -/
def RFits : List PyData → PyData → Prop := fun ds r => ∃ c k, ds = [Cd.data c, Kd.data k] ∧ OkC 10 c ∧ OkK 10 k ∧ r = .bool (fitsC c k)
noncomputable def D_fits : Fn := fnOf RFits
theorem m_fits {c : Cd} {k : Kd} (hc : OkC 10 c) (hk : OkK 10 k) : D_fits [c.data, k.data] = some (.bool (fitsC c k)) := fnOf_eq (fun r h => by
  obtain ⟨c', k', e, _, _, rfl⟩ := h
  injection e with e1 e
  injection e with e2 _
  rw [cd_inj _ _ e1, kd_inj _ _ e2]) ⟨c, k, rfl, hc, hk, rfl⟩
theorem fits_sp {K : PySem.W.Frag} {A : Atm} : ∀ vs H Q E, spF K A D_fits vs H Q E → spFits K 10 vs H Q E := fun vs H Q E h => by
  obtain ⟨O, ds, r, ho, hds, hr, q⟩ := h
  obtain ⟨c, k, rfl, hc, hk, rfl⟩ := fnOf_inv hr
  obtain ⟨v, ws, rfl, h1, h2⟩ := hds.head
  obtain ⟨u, rfl, h3⟩ := one_inv h2
  exact ⟨v, u, c, k, rfl, h1.vd (flat_cd c), hc, h3.vd (flat_kd hk), hk, fun H' s => q _ H' s (.bl _)⟩
def RHolds : List PyData → PyData → Prop := fun ds r => ∃ c k v, ds = [Cd.data c, v] ∧ OkC 10 c ∧ fitsC c k = true ∧ isk k v = true ∧ Dk 20 v ∧ r = .bool (holdsC c v)
noncomputable def D_holds : Fn := fnOf RHolds
theorem m_holds {c : Cd} {k : Kd} {v : PyData} (hc : OkC 10 c) (hf : fitsC c k = true) (hi : isk k v = true) (hd : Dk 20 v) : D_holds [c.data, v] = some (.bool (holdsC c v)) := fnOf_eq (fun r h => by
  obtain ⟨c', k', v', e, _, _, _, _, rfl⟩ := h
  injection e with e1 e
  injection e with e2 _
  rw [cd_inj _ _ e1, e2]) ⟨c, k, v, rfl, hc, hf, hi, hd, rfl⟩
theorem holds_sp {K : PySem.W.Frag} {A : Atm} : ∀ vs H Q E, spF K A D_holds vs H Q E → spHolds K 10 vs H Q E := fun vs H Q E h => by
  obtain ⟨O, ds, r, ho, hds, hr, q⟩ := h
  obtain ⟨c, k, x, rfl, hc, hf, hi, hd, rfl⟩ := fnOf_inv hr
  obtain ⟨v, ws, rfl, h1, h2⟩ := hds.head
  obtain ⟨u, rfl, h3⟩ := one_inv h2
  exact ⟨v, u, c, k, x, rfl, h1.vd (flat_cd c), hc, h3.vd (flat_isk k x hi), hd, hf, hi, fun H' s => q _ H' s (.bl _)⟩
end Fb
namespace Fb
open PySem PySem.Spec PyProof.Rows L2 Evl CrT Cr Sm
def b_choose : FS :=
      (fSeq (fIfS (fB (fOp gGe (fVar 1) (fLenV 0))) (fRet (fTup (fCons (fC (.str "short")) (fCons (fLenV 0) fNil)))) fNext)
      (fSeq (fIfS (fNot (fB (fChain gLe gLe (fC (.int 0)) (fOp gIx (fVar 0) (fVar 1)) (fVar 2)))) (fRet (fTup (fCons (fC (.str "wrong")) (fCons (fVar 1) fNil)))) fNext)
      (fRet (fTup (fCons (fC (.str "value")) (fCons (fOp gIx (fVar 0) (fVar 1)) (fCons (fOp gAdd (fVar 1) (fC (.int 1))) fNil)))))))
def b__draw_int (f_choose : Fn) : FS :=
      (fSeq (fAsg (fVar 0) (gT 3 (gC (gS 3) (gC (gS 4) (gC (gS 5) gN)))))
      (fSeq (fAsg (fCall f_choose (fCons (fVar 1) (fCons (fVar 2) (fCons (fOp gSub (fVar 5) (fVar 4)) fNil)))) (gS 6))
      (fSeq (fIfS (fB (fOp gNe (fOp gIx (fVar 6) (fC (.int 0))) (fC (.str "value")))) (fRet (fVar 6)) fNext)
      (fRet (fTup (fCons (fC (.str "value")) (fCons (fOp gAdd (fVar 4) (fOp gIx (fVar 6) (fC (.int 1)))) (fCons (fOp gIx (fVar 6) (fC (.int 2))) fNil))))))))
def b__draw_pick (f_choose : Fn) : FS :=
      (fSeq (fAsg (fOp gIx (fVar 0) (fC (.int 1))) (gS 3))
      (fSeq (fAsg (fCall f_choose (fCons (fVar 1) (fCons (fVar 2) (fCons (fOp gSub (fLenV 3) (fC (.int 1))) fNil)))) (gS 4))
      (fSeq (fIfS (fB (fOp gNe (fOp gIx (fVar 4) (fC (.int 0))) (fC (.str "value")))) (fRet (fVar 4)) fNext)
      (fRet (fTup (fCons (fC (.str "value")) (fCons (fOp gIx (fVar 3) (fOp gIx (fVar 4) (fC (.int 1)))) (fCons (fOp gIx (fVar 4) (fC (.int 2))) fNil))))))))
def b__draw_each (f_draw_from : Fn) : FS :=
      (fSeq (fOwn 3 (fLst fNil))
      (fSeq (fFor (fSeqI (fVar 0)) (gS 4) (fSeq (fAsg (fCall f_draw_from (fCons (fVar 4) (fCons (fVar 1) (fCons (fVar 2) fNil)))) (gS 5))
        (fSeq (fIfS (fB (fOp gNe (fOp gIx (fVar 5) (fC (.int 0))) (fC (.str "value")))) (fRet (fVar 5)) fNext)
        (fSeq (fApp 3 (fOp gIx (fVar 5) (fC (.int 1))))
        (fAsg (fOp gIx (fVar 5) (fC (.int 2))) (gS 2))))))
      (fFrz 3 (fRet (fTup (fCons (fC (.str "value")) (fCons (fCall gTuple (fCons (fVar 3) fNil)) (fCons (fVar 2) fNil))))))))
def b__draw_list (f_choose : Fn) (f_draw_from : Fn) : FS :=
      (fSeq (fAsg (fVar 0) (gT 4 (gC (gS 3) (gC (gS 4) (gC (gS 5) (gC (gS 6) gN))))))
      (fSeq (fOwn 7 (fLst fNil))
      (fSeq (fWhile (fB (fOp gLt (fLenV 7) (fVar 6))) (fSeq (fIfS (fB (fOp gGe (fLenV 7) (fVar 5))) (fSeq (fAsg (fCall f_choose (fCons (fVar 1) (fCons (fVar 2) (fCons (fC (.int 1)) fNil)))) (gS 8))
          (fSeq (fIfS (fB (fOp gNe (fOp gIx (fVar 8) (fC (.int 0))) (fC (.str "value")))) (fRet (fVar 8)) fNext)
          (fSeq (fAsg (fOp gIx (fVar 8) (fC (.int 2))) (gS 2))
          (fIfS (fB (fOp gEq (fOp gIx (fVar 8) (fC (.int 1))) (fC (.int 0)))) fBrk fNext)))) fNext)
        (fSeq (fAsg (fCall f_draw_from (fCons (fVar 4) (fCons (fVar 1) (fCons (fVar 2) fNil)))) (gS 8))
        (fSeq (fIfS (fB (fOp gNe (fOp gIx (fVar 8) (fC (.int 0))) (fC (.str "value")))) (fRet (fVar 8)) fNext)
        (fSeq (fApp 7 (fOp gIx (fVar 8) (fC (.int 1))))
        (fAsg (fOp gIx (fVar 8) (fC (.int 2))) (gS 2)))))) 1000)
      (fFrz 7 (fRet (fTup (fCons (fC (.str "value")) (fCons (fCall gTuple (fCons (fVar 7) fNil)) (fCons (fVar 2) fNil)))))))))
def b__draw_one (f_choose : Fn) (f_draw_from : Fn) : FS :=
      (fSeq (fAsg (fOp gIx (fVar 0) (fC (.int 1))) (gS 3))
      (fSeq (fAsg (fCall f_choose (fCons (fVar 1) (fCons (fVar 2) (fCons (fOp gSub (fLenV 3) (fC (.int 1))) fNil)))) (gS 4))
      (fSeq (fIfS (fB (fOp gNe (fOp gIx (fVar 4) (fC (.int 0))) (fC (.str "value")))) (fRet (fVar 4)) fNext)
      (fRet (fCall f_draw_from (fCons (fOp gIx (fVar 3) (fOp gIx (fVar 4) (fC (.int 1)))) (fCons (fVar 1) (fCons (fOp gIx (fVar 4) (fC (.int 2))) fNil))))))))
def b__draw_kept (f_draw_from : Fn) (f_holds : Fn) : FS :=
      (fSeq (fAsg (fVar 0) (gT 3 (gC (gS 3) (gC (gS 4) (gC (gS 5) gN)))))
      (fSeq (fAsg (fCall f_draw_from (fCons (fVar 4) (fCons (fVar 1) (fCons (fVar 2) fNil)))) (gS 6))
      (fSeq (fIfS (fOr (fB (fOp gNe (fOp gIx (fVar 6) (fC (.int 0))) (fC (.str "value")))) (fB (fCall f_holds (fCons (fVar 5) (fCons (fOp gIx (fVar 6) (fC (.int 1))) fNil))))) (fRet (fVar 6)) fNext)
      (fRet (fTup (fCons (fC (.str "refused")) (fCons (fOp gIx (fVar 6) (fC (.int 2))) fNil)))))))
def b__draw_turned (f_draw_from : Fn) (f_turn : Fn) : FS :=
      (fSeq (fAsg (fVar 0) (gT 3 (gC (gS 3) (gC (gS 4) (gC (gS 5) gN)))))
      (fSeq (fAsg (fCall f_draw_from (fCons (fVar 4) (fCons (fVar 1) (fCons (fVar 2) fNil)))) (gS 6))
      (fSeq (fIfS (fB (fOp gNe (fOp gIx (fVar 6) (fC (.int 0))) (fC (.str "value")))) (fRet (fVar 6)) fNext)
      (fRet (fTup (fCons (fC (.str "value")) (fCons (fCall f_turn (fCons (fVar 5) (fCons (fOp gIx (fVar 6) (fC (.int 1))) fNil))) (fCons (fOp gIx (fVar 6) (fC (.int 2))) fNil))))))))
def b__draw_repeat (f_draw_from : Fn) (f__draw_each : Fn) : FS :=
      (fSeq (fAsg (fVar 0) (gT 3 (gC (gS 3) (gC (gS 4) (gC (gS 5) gN)))))
      (fSeq (fAsg (fCall f_draw_from (fCons (fVar 4) (fCons (fVar 1) (fCons (fVar 2) fNil)))) (gS 6))
      (fSeq (fIfS (fB (fOp gNe (fOp gIx (fVar 6) (fC (.int 0))) (fC (.str "value")))) (fRet (fVar 6)) fNext)
      (fSeq (fAsg (fOp gIx (fVar 6) (fC (.int 1))) (gS 7))
      (fSeq (fIfS (fNot (fB (fChain gLe gLe (fC (.int 0)) (fVar 7) (fC (.int 6))))) (fRet (fTup (fCons (fC (.str "refused")) (fCons (fOp gIx (fVar 6) (fC (.int 2))) fNil)))) fNext)
      (fRet (fCall f__draw_each (fCons (fOp gMul (fV (fLst (fCons (fVar 5) fNil))) (fVar 7)) (fCons (fVar 1) (fCons (fOp gIx (fVar 6) (fC (.int 2))) fNil))))))))))
def b_draw_from (f__draw_int : Fn) (f__draw_pick : Fn) (f__draw_each : Fn) (f__draw_list : Fn) (f__draw_one : Fn) (f__draw_kept : Fn) (f__draw_turned : Fn) (f__draw_repeat : Fn) : FS :=
      (fSeq (fAsg (fOp gIx (fVar 0) (fC (.int 0))) (gS 3))
      (fSeq (fIfS (fB (fOp gEq (fVar 3) (fC (.str "int")))) (fRet (fCall f__draw_int (fCons (fVar 0) (fCons (fVar 1) (fCons (fVar 2) fNil))))) fNext)
      (fSeq (fIfS (fB (fOp gEq (fVar 3) (fC (.str "pick")))) (fRet (fCall f__draw_pick (fCons (fVar 0) (fCons (fVar 1) (fCons (fVar 2) fNil))))) fNext)
      (fSeq (fIfS (fB (fOp gEq (fVar 3) (fC (.str "tuple")))) (fRet (fCall f__draw_each (fCons (fOp gIx (fVar 0) (fC (.int 1))) (fCons (fVar 1) (fCons (fVar 2) fNil))))) fNext)
      (fSeq (fIfS (fB (fOp gEq (fVar 3) (fC (.str "list")))) (fRet (fCall f__draw_list (fCons (fVar 0) (fCons (fVar 1) (fCons (fVar 2) fNil))))) fNext)
      (fSeq (fIfS (fB (fOp gEq (fVar 3) (fC (.str "one")))) (fRet (fCall f__draw_one (fCons (fVar 0) (fCons (fVar 1) (fCons (fVar 2) fNil))))) fNext)
      (fSeq (fIfS (fB (fOp gEq (fVar 3) (fC (.str "kept")))) (fRet (fCall f__draw_kept (fCons (fVar 0) (fCons (fVar 1) (fCons (fVar 2) fNil))))) fNext)
      (fSeq (fIfS (fB (fOp gEq (fVar 3) (fC (.str "turned")))) (fRet (fCall f__draw_turned (fCons (fVar 0) (fCons (fVar 1) (fCons (fVar 2) fNil))))) fNext)
      (fRet (fCall f__draw_repeat (fCons (fVar 0) (fCons (fVar 1) (fCons (fVar 2) fNil)))))))))))))
def b_draw (f_draw_from : Fn) : FS :=
      (fRet (fCall f_draw_from (fCons (fVar 0) (fCons (fVar 1) (fCons (fC (.int 0)) fNil)))))
end Fb
namespace Fb
open PySem PySem.Spec PyProof.Rows L2 Evl CrT Cr Sm
/-! ### outcomes -/
theorem atI_row {row : List Int} {n : Nat} (h : n < row.length) : atI (row.map PyData.int) (n : Int) = some (.int (row.getD n 0)) := by
  apply atI_nat
  rw [List.getElem?_map, List.getElem?_eq_getElem h, List.getD_eq_getElem?_getD, List.getElem?_eq_getElem h]
  rfl
def D_choose : Fn := runF 3 3 b_choose
def chO (row : List Int) (n : Nat) (b : Int) : Out := choice row n b fun c => .val (.int c) (n + 1)
theorem m_choose (row : List Int) (n : Nat) (b : Int) : D_choose [rowD row, .int n, .int b] = some (chO row n b).data := by
  unfold chO choice D_choose
  by_cases h : row.length ≤ n
  · have h' : (row.length : Int) ≤ (n : Int) := by omega
    rw [if_pos h]
    simp only [fSeq, fIfS, fRet, fAsg, fOwn, fApp, fExt, fBrk, fCnt, fDrop, fFrz, frz, fNext, fFor, fB, fAnd, fOr, fNot, fAndV, fOrV, fNotV, fIf, fChain, fOp, fUn, fVar, fC, fTup, fLst, fV, fCons, fNil, fCall, fCallL, fLenV, fSl, fPart, fNoPart, fStar, fAug, gS, gT, gN, gC, fSeqI, run_1, run_2, run_3, run_4, ix0, ix1, ix2, ix3, then_nx, then_rt, then_bk, then_ct, turn_nx, turn_ct, turn_bk, turn_rt, res_rt, asB_b, gIx_t, gIx_l, gAdd_i, gSub_i, gLt_i, gLe_i, gGt_i, gGe_i, eq_i, eq_s, ne_i, ne_s, gLen_t, gLen_l, gTup_l, gTup_t, strEq, Option.bind_some, List.getElem?_cons_zero, List.getElem?_cons_succ, List.set_cons_zero, List.set_cons_succ, List.replicate_succ, List.replicate_zero, Nat.reduceSub, Nat.reduceAdd, if_true, if_false, decide_true, decide_false, Bool.not_true, Bool.not_false, Bool.false_eq_true, String.reduceEq, reduceIte, List.length_cons, List.length_nil, Nat.reduceLeDiff, lim, b_choose, rowD, List.length_map, h', Out.data]
  · have h' : ¬ ((row.length : Int) ≤ (n : Int)) := by omega
    rw [if_neg h]
    have e := atI_row (show n < row.length by omega)
    generalize row.getD n 0 = c at e ⊢
    by_cases h1 : 0 ≤ c <;> by_cases h2 : c ≤ b
    all_goals simp only [fSeq, fIfS, fRet, fAsg, fOwn, fApp, fExt, fBrk, fCnt, fDrop, fFrz, frz, fNext, fFor, fB, fAnd, fOr, fNot, fAndV, fOrV, fNotV, fIf, fChain, fOp, fUn, fVar, fC, fTup, fLst, fV, fCons, fNil, fCall, fCallL, fLenV, fSl, fPart, fNoPart, fStar, fAug, gS, gT, gN, gC, fSeqI, run_1, run_2, run_3, run_4, ix0, ix1, ix2, ix3, then_nx, then_rt, then_bk, then_ct, turn_nx, turn_ct, turn_bk, turn_rt, res_rt, asB_b, gIx_t, gIx_l, gAdd_i, gSub_i, gLt_i, gLe_i, gGt_i, gGe_i, eq_i, eq_s, ne_i, ne_s, gLen_t, gLen_l, gTup_l, gTup_t, strEq, Option.bind_some, List.getElem?_cons_zero, List.getElem?_cons_succ, List.set_cons_zero, List.set_cons_succ, List.replicate_succ, List.replicate_zero, Nat.reduceSub, Nat.reduceAdd, if_true, if_false, decide_true, decide_false, Bool.not_true, Bool.not_false, Bool.false_eq_true, String.reduceEq, reduceIte, List.length_cons, List.length_nil, Nat.reduceLeDiff, lim, b_choose, rowD, List.length_map, h', e, h1, h2, Out.data, Bool.and_true, Bool.and_false, Int.natCast_add, Int.cast_ofNat_Int]
theorem cho_step (row : List Int) (n : Nat) (b : Int) (k : Int → Out) : (∃ c, chO row n b = .val (.int c) (n + 1) ∧ choice row n b k = k c ∧ 0 ≤ c ∧ c ≤ b) ∨ ((∀ v m, chO row n b ≠ .val v m) ∧ choice row n b k = chO row n b) := by
  unfold chO choice
  split
  · exact .inr ⟨(fun v m e => by cases e), rfl⟩
  · split
    · rename_i h
      obtain ⟨h1, h2⟩ := Bool.and_eq_true_iff.mp h
      exact .inl ⟨_, rfl, rfl, of_decide_eq_true h1, of_decide_eq_true h2⟩
    · exact .inr ⟨(fun v m e => by cases e), rfl⟩
theorem out_name (o : Out) : ∃ (nm : Str) (rest : List PyData), o.data = .tuple (.str nm :: rest) ∧ ((∃ v m, o = .val v m) ∨ (∀ v m, o ≠ .val v m) ∧ decide (nm = "value") = false) := by
  cases o with
  | val v m => exact ⟨_, _, rfl, .inl ⟨_, _, rfl⟩⟩
  | refused m => exact ⟨_, _, rfl, .inr ⟨(fun v m e => by cases e), by decide +kernel⟩⟩
  | wrong m => exact ⟨_, _, rfl, .inr ⟨(fun v m e => by cases e), by decide +kernel⟩⟩
  | short m => exact ⟨_, _, rfl, .inr ⟨(fun v m e => by cases e), by decide +kernel⟩⟩
def D_int : Fn := runF 7 3 (b__draw_int D_choose)
def D_pick : Fn := runF 5 3 (b__draw_pick D_choose)
theorem m_int (lo hi : Int) (row : List Int) (n : Nat) : D_int [(Gn.int lo hi).data, rowD row, .int n] = some (outG (.int lo hi) row n).data := by
  unfold D_int
  rw [outG]
  have hc := m_choose row n (hi - lo)
  rcases cho_step row n (hi - lo) fun c => .val (.int (lo + c)) (n + 1) with ⟨c, e1, e2, _, _⟩ | ⟨e1, e2⟩
  · rw [e2]
    rw [e1] at hc
    simp only [fSeq, fIfS, fRet, fAsg, fOwn, fApp, fExt, fBrk, fCnt, fDrop, fFrz, frz, fNext, fFor, fB, fAnd, fOr, fNot, fAndV, fOrV, fNotV, fIf, fChain, fOp, fUn, fVar, fC, fTup, fLst, fV, fCons, fNil, fCall, fCallL, fLenV, fSl, fPart, fNoPart, fStar, fAug, gS, gT, gN, gC, fSeqI, run_1, run_2, run_3, run_4, ix0, ix1, ix2, ix3, then_nx, then_rt, then_bk, then_ct, turn_nx, turn_ct, turn_bk, turn_rt, res_rt, asB_b, gIx_t, gIx_l, gAdd_i, gSub_i, gLt_i, gLe_i, gGt_i, gGe_i, eq_i, eq_s, ne_i, ne_s, gLen_t, gLen_l, gTup_l, gTup_t, strEq, Option.bind_some, List.getElem?_cons_zero, List.getElem?_cons_succ, List.set_cons_zero, List.set_cons_succ, List.replicate_succ, List.replicate_zero, Nat.reduceSub, Nat.reduceAdd, if_true, if_false, decide_true, decide_false, Bool.not_true, Bool.not_false, Bool.false_eq_true, String.reduceEq, reduceIte, List.length_cons, List.length_nil, Nat.reduceLeDiff, lim, b__draw_int, Gn.data, hc, Out.data]
  · rw [e2]
    obtain ⟨nm, rest, e3, ⟨v, m, e4⟩ | ⟨_, e5⟩⟩ := out_name (chO row n (hi - lo))
    · exact absurd e4 (e1 v m)
    · rw [e3] at hc ⊢
      simp only [fSeq, fIfS, fRet, fAsg, fOwn, fApp, fExt, fBrk, fCnt, fDrop, fFrz, frz, fNext, fFor, fB, fAnd, fOr, fNot, fAndV, fOrV, fNotV, fIf, fChain, fOp, fUn, fVar, fC, fTup, fLst, fV, fCons, fNil, fCall, fCallL, fLenV, fSl, fPart, fNoPart, fStar, fAug, gS, gT, gN, gC, fSeqI, run_1, run_2, run_3, run_4, ix0, ix1, ix2, ix3, then_nx, then_rt, then_bk, then_ct, turn_nx, turn_ct, turn_bk, turn_rt, res_rt, asB_b, gIx_t, gIx_l, gAdd_i, gSub_i, gLt_i, gLe_i, gGt_i, gGe_i, eq_i, eq_s, ne_i, ne_s, gLen_t, gLen_l, gTup_l, gTup_t, strEq, Option.bind_some, List.getElem?_cons_zero, List.getElem?_cons_succ, List.set_cons_zero, List.set_cons_succ, List.replicate_succ, List.replicate_zero, Nat.reduceSub, Nat.reduceAdd, if_true, if_false, decide_true, decide_false, Bool.not_true, Bool.not_false, Bool.false_eq_true, String.reduceEq, reduceIte, List.length_cons, List.length_nil, Nat.reduceLeDiff, lim, b__draw_int, Gn.data, hc, e5]
theorem m_pick {ws : List Str} (hw : 0 < ws.length) (row : List Int) (n : Nat) : D_pick [(Gn.pick ws).data, rowD row, .int n] = some (outG (.pick ws) row n).data := by
  unfold D_pick
  rw [outG]
  have hc := m_choose row n ((ws.length : Int) - 1)
  rcases cho_step row n ((ws.length : Int) - 1) fun c => .val (.str (ws.getD c.toNat "")) (n + 1) with ⟨c, e1, e2, h0, h1⟩ | ⟨e1, e2⟩
  · rw [e2]
    rw [e1] at hc
    obtain ⟨j, rfl⟩ := Int.eq_ofNat_of_zero_le h0
    have hj : j < ws.length := by omega
    have e0 := getD_at (ds := ws) (a0 := ("" : Str)) hj
    have e : atI (ws.map PyData.str) (j : Int) = some (.str (ws.getD j "")) := atI_nat (by rw [List.getElem?_map, e0]; rfl)
    simp only [fSeq, fIfS, fRet, fAsg, fOwn, fApp, fExt, fBrk, fCnt, fDrop, fFrz, frz, fNext, fFor, fB, fAnd, fOr, fNot, fAndV, fOrV, fNotV, fIf, fChain, fOp, fUn, fVar, fC, fTup, fLst, fV, fCons, fNil, fCall, fCallL, fLenV, fSl, fPart, fNoPart, fStar, fAug, gS, gT, gN, gC, fSeqI, run_1, run_2, run_3, run_4, ix0, ix1, ix2, ix3, then_nx, then_rt, then_bk, then_ct, turn_nx, turn_ct, turn_bk, turn_rt, res_rt, asB_b, gIx_t, gIx_l, gAdd_i, gSub_i, gLt_i, gLe_i, gGt_i, gGe_i, eq_i, eq_s, ne_i, ne_s, gLen_t, gLen_l, gTup_l, gTup_t, strEq, Option.bind_some, List.getElem?_cons_zero, List.getElem?_cons_succ, List.set_cons_zero, List.set_cons_succ, List.replicate_succ, List.replicate_zero, Nat.reduceSub, Nat.reduceAdd, if_true, if_false, decide_true, decide_false, Bool.not_true, Bool.not_false, Bool.false_eq_true, String.reduceEq, reduceIte, List.length_cons, List.length_nil, Nat.reduceLeDiff, lim, b__draw_pick, Gn.data, List.length_map, hc, Out.data, e, Int.toNat_natCast]
  · rw [e2]
    obtain ⟨nm, rest, e3, ⟨v, m, e4⟩ | ⟨_, e5⟩⟩ := out_name (chO row n ((ws.length : Int) - 1))
    · exact absurd e4 (e1 v m)
    · rw [e3] at hc ⊢
      simp only [fSeq, fIfS, fRet, fAsg, fOwn, fApp, fExt, fBrk, fCnt, fDrop, fFrz, frz, fNext, fFor, fB, fAnd, fOr, fNot, fAndV, fOrV, fNotV, fIf, fChain, fOp, fUn, fVar, fC, fTup, fLst, fV, fCons, fNil, fCall, fCallL, fLenV, fSl, fPart, fNoPart, fStar, fAug, gS, gT, gN, gC, fSeqI, run_1, run_2, run_3, run_4, ix0, ix1, ix2, ix3, then_nx, then_rt, then_bk, then_ct, turn_nx, turn_ct, turn_bk, turn_rt, res_rt, asB_b, gIx_t, gIx_l, gAdd_i, gSub_i, gLt_i, gLe_i, gGt_i, gGe_i, eq_i, eq_s, ne_i, ne_s, gLen_t, gLen_l, gTup_l, gTup_t, strEq, Option.bind_some, List.getElem?_cons_zero, List.getElem?_cons_succ, List.set_cons_zero, List.set_cons_succ, List.replicate_succ, List.replicate_zero, Nat.reduceSub, Nat.reduceAdd, if_true, if_false, decide_true, decide_false, Bool.not_true, Bool.not_false, Bool.false_eq_true, String.reduceEq, reduceIte, List.length_cons, List.length_nil, Nat.reduceLeDiff, lim, b__draw_pick, Gn.data, List.length_map, hc, e5]
def D_each (d : Fn) : Fn := runF 6 3 (b__draw_each d)
def D_list (d : Fn) : Fn := runF 9 3 (b__draw_list D_choose d)
def D_one (d : Fn) : Fn := runF 5 3 (b__draw_one D_choose d)
def D_kept (d hol : Fn) : Fn := runF 7 3 (b__draw_kept d hol)
def D_turned (d trn : Fn) : Fn := runF 7 3 (b__draw_turned d trn)
def D_repeat (d : Fn) : Fn := runF 8 3 (b__draw_repeat d (D_each d))
def D_from (hol trn : Fn) : Nat → Fn
  | 0 => fun _ => none
  | n + 1 => runF 4 3 (b_draw_from D_int D_pick (D_each (D_from hol trn n)) (D_list (D_from hol trn n)) (D_one (D_from hol trn n)) (D_kept (D_from hol trn n) hol) (D_turned (D_from hol trn n) trn) (D_repeat (D_from hol trn n)))
/-- what a draw of g answers -/
def Follows (d : Fn) (row : List Int) (g : Gn) : Prop := ∀ n : Nat, d [g.data, rowD row, .int n] = some (outG g row n).data
theorem each_loop {d : Fn} {row : List Int} {G : Sl} : ∀ (gs : List Gn) (acc : List PyData) (n : Nat) (z4 z5 : Sl), (∀ g ∈ gs, Follows d row g) → acc.length + gs.length ≤ 1000 →
    resF (fThen (fLoop (gS 4) (fSeq (fAsg (fCall d (fCons (fVar 4) (fCons (fVar 1) (fCons (fVar 2) fNil)))) (gS 5)) (fSeq (fIfS (fB (fOp gNe (fOp gIx (fVar 5) (fC (.int 0))) (fC (.str "value")))) (fRet (fVar 5)) fNext) (fSeq (fApp 3 (fOp gIx (fVar 5) (fC (.int 1)))) (fAsg (fOp gIx (fVar 5) (fC (.int 2))) (gS 2))))) (gs.map Gn.data) [G, .val (rowD row), .val (.int n), .own acc, z4, z5])
      (fFrz 3 (fRet (fTup (fCons (fC (.str "value")) (fCons (fCall gTuple (fCons (fVar 3) fNil)) (fCons (fVar 2) fNil))))))) = some (outSeq gs row n acc).data
  | [], acc, n, z4, z5, _, _ => by
    rw [outSeq]
    simp only [fSeq, fIfS, fRet, fAsg, fOwn, fApp, fExt, fBrk, fCnt, fDrop, fFrz, frz, fNext, fFor, fB, fAnd, fOr, fNot, fAndV, fOrV, fNotV, fIf, fChain, fOp, fUn, fVar, fC, fTup, fLst, fV, fCons, fNil, fCall, fCallL, fLenV, fSl, fPart, fNoPart, fStar, fAug, gS, gT, gN, gC, fSeqI, run_1, run_2, run_3, run_4, ix0, ix1, ix2, ix3, then_nx, then_rt, then_bk, then_ct, turn_nx, turn_ct, turn_bk, turn_rt, res_rt, asB_b, gIx_t, gIx_l, gAdd_i, gSub_i, gLt_i, gLe_i, gGt_i, gGe_i, eq_i, eq_s, ne_i, ne_s, gLen_t, gLen_l, gTup_l, gTup_t, strEq, Option.bind_some, List.getElem?_cons_zero, List.getElem?_cons_succ, List.set_cons_zero, List.set_cons_succ, List.replicate_succ, List.replicate_zero, Nat.reduceSub, Nat.reduceAdd, if_true, if_false, decide_true, decide_false, Bool.not_true, Bool.not_false, Bool.false_eq_true, String.reduceEq, reduceIte, List.length_cons, List.length_nil, Nat.reduceLeDiff, lim, List.map_nil, loop_n, Out.data]
  | g :: gs, acc, n, z4, z5, h, hl => by
    have hd := h g List.mem_cons_self n
    rw [outSeq]
    cases ho : outG g row n with
    | val v m =>
      rw [ho] at hd
      have ih := each_loop (G := G) gs (acc ++ [v]) m (.val g.data) (.val (Out.val v m).data) (fun g' h' => h g' (List.mem_cons_of_mem _ h')) (by rw [List.length_append, List.length_cons, List.length_nil]; rw [List.length_cons] at hl; omega)
      have hz : acc.length + 1 ≤ 10000000 := by rw [List.length_cons] at hl; omega
      rw [Out.step, ← ih]
      simp only [fSeq, fIfS, fRet, fAsg, fOwn, fApp, fExt, fBrk, fCnt, fDrop, fFrz, frz, fNext, fFor, fB, fAnd, fOr, fNot, fAndV, fOrV, fNotV, fIf, fChain, fOp, fUn, fVar, fC, fTup, fLst, fV, fCons, fNil, fCall, fCallL, fLenV, fSl, fPart, fNoPart, fStar, fAug, gS, gT, gN, gC, fSeqI, run_1, run_2, run_3, run_4, ix0, ix1, ix2, ix3, then_nx, then_rt, then_bk, then_ct, turn_nx, turn_ct, turn_bk, turn_rt, res_rt, asB_b, gIx_t, gIx_l, gAdd_i, gSub_i, gLt_i, gLe_i, gGt_i, gGe_i, eq_i, eq_s, ne_i, ne_s, gLen_t, gLen_l, gTup_l, gTup_t, strEq, Option.bind_some, List.getElem?_cons_zero, List.getElem?_cons_succ, List.set_cons_zero, List.set_cons_succ, List.replicate_succ, List.replicate_zero, Nat.reduceSub, Nat.reduceAdd, if_true, if_false, decide_true, decide_false, Bool.not_true, Bool.not_false, Bool.false_eq_true, String.reduceEq, reduceIte, List.length_cons, List.length_nil, Nat.reduceLeDiff, lim, List.map_cons, loop_c, hd, Out.data, hz]
    | _ =>
      rw [ho] at hd
      rw [step_no (by intro v m e; cases e)]
      simp only [fSeq, fIfS, fRet, fAsg, fOwn, fApp, fExt, fBrk, fCnt, fDrop, fFrz, frz, fNext, fFor, fB, fAnd, fOr, fNot, fAndV, fOrV, fNotV, fIf, fChain, fOp, fUn, fVar, fC, fTup, fLst, fV, fCons, fNil, fCall, fCallL, fLenV, fSl, fPart, fNoPart, fStar, fAug, gS, gT, gN, gC, fSeqI, run_1, run_2, run_3, run_4, ix0, ix1, ix2, ix3, then_nx, then_rt, then_bk, then_ct, turn_nx, turn_ct, turn_bk, turn_rt, res_rt, asB_b, gIx_t, gIx_l, gAdd_i, gSub_i, gLt_i, gLe_i, gGt_i, gGe_i, eq_i, eq_s, ne_i, ne_s, gLen_t, gLen_l, gTup_l, gTup_t, strEq, Option.bind_some, List.getElem?_cons_zero, List.getElem?_cons_succ, List.set_cons_zero, List.set_cons_succ, List.replicate_succ, List.replicate_zero, Nat.reduceSub, Nat.reduceAdd, if_true, if_false, decide_true, decide_false, Bool.not_true, Bool.not_false, Bool.false_eq_true, String.reduceEq, reduceIte, List.length_cons, List.length_nil, Nat.reduceLeDiff, lim, List.map_cons, loop_c, hd, Out.data]
theorem m_each {d : Fn} {row : List Int} {gs : List Gn} (h : ∀ g ∈ gs, Follows d row g) (hl : gs.length ≤ 1000) (n : Nat) : D_each d [.tuple (gs.map Gn.data), rowD row, .int n] = some (outSeq gs row n []).data := by
  have e := each_loop (G := .val (.tuple (gs.map Gn.data))) gs [] n .un .un h (by simpa using hl)
  unfold D_each
  rw [← e]
  simp only [fSeq, fIfS, fRet, fAsg, fOwn, fApp, fExt, fBrk, fCnt, fDrop, fFrz, frz, fNext, fFor, fB, fAnd, fOr, fNot, fAndV, fOrV, fNotV, fIf, fChain, fOp, fUn, fVar, fC, fTup, fLst, fV, fCons, fNil, fCall, fCallL, fLenV, fSl, fPart, fNoPart, fStar, fAug, gS, gT, gN, gC, fSeqI, run_1, run_2, run_3, run_4, ix0, ix1, ix2, ix3, then_nx, then_rt, then_bk, then_ct, turn_nx, turn_ct, turn_bk, turn_rt, res_rt, asB_b, gIx_t, gIx_l, gAdd_i, gSub_i, gLt_i, gLe_i, gGt_i, gGe_i, eq_i, eq_s, ne_i, ne_s, gLen_t, gLen_l, gTup_l, gTup_t, strEq, Option.bind_some, List.getElem?_cons_zero, List.getElem?_cons_succ, List.set_cons_zero, List.set_cons_succ, List.replicate_succ, List.replicate_zero, Nat.reduceSub, Nat.reduceAdd, if_true, if_false, decide_true, decide_false, Bool.not_true, Bool.not_false, Bool.false_eq_true, String.reduceEq, reduceIte, List.length_cons, List.length_nil, Nat.reduceLeDiff, lim, b__draw_each]
theorem m_eachL {d : Fn} {row : List Int} {gs : List Gn} (h : ∀ g ∈ gs, Follows d row g) (hl : gs.length ≤ 1000) (n : Nat) : D_each d [.list (gs.map Gn.data), rowD row, .int n] = some (outSeq gs row n []).data := by
  have e := each_loop (G := .val (.list (gs.map Gn.data))) gs [] n .un .un h (by simpa using hl)
  unfold D_each
  rw [← e]
  simp only [fSeq, fIfS, fRet, fAsg, fOwn, fApp, fExt, fBrk, fCnt, fDrop, fFrz, frz, fNext, fFor, fB, fAnd, fOr, fNot, fAndV, fOrV, fNotV, fIf, fChain, fOp, fUn, fVar, fC, fTup, fLst, fV, fCons, fNil, fCall, fCallL, fLenV, fSl, fPart, fNoPart, fStar, fAug, gS, gT, gN, gC, fSeqI, run_1, run_2, run_3, run_4, ix0, ix1, ix2, ix3, then_nx, then_rt, then_bk, then_ct, turn_nx, turn_ct, turn_bk, turn_rt, res_rt, asB_b, gIx_t, gIx_l, gAdd_i, gSub_i, gLt_i, gLe_i, gGt_i, gGe_i, eq_i, eq_s, ne_i, ne_s, gLen_t, gLen_l, gTup_l, gTup_t, strEq, Option.bind_some, List.getElem?_cons_zero, List.getElem?_cons_succ, List.set_cons_zero, List.set_cons_succ, List.replicate_succ, List.replicate_zero, Nat.reduceSub, Nat.reduceAdd, if_true, if_false, decide_true, decide_false, Bool.not_true, Bool.not_false, Bool.false_eq_true, String.reduceEq, reduceIte, List.length_cons, List.length_nil, Nat.reduceLeDiff, lim, b__draw_each]
def lstCond : FT := (fB (fOp gLt (fLenV 7) (fVar 6)))
def lstBody (d : Fn) : FS := (fSeq (fIfS (fB (fOp gGe (fLenV 7) (fVar 5))) (fSeq (fAsg (fCall D_choose (fCons (fVar 1) (fCons (fVar 2) (fCons (fC (.int 1)) fNil)))) (gS 8))
          (fSeq (fIfS (fB (fOp gNe (fOp gIx (fVar 8) (fC (.int 0))) (fC (.str "value")))) (fRet (fVar 8)) fNext)
          (fSeq (fAsg (fOp gIx (fVar 8) (fC (.int 2))) (gS 2))
          (fIfS (fB (fOp gEq (fOp gIx (fVar 8) (fC (.int 1))) (fC (.int 0)))) fBrk fNext)))) fNext)
        (fSeq (fAsg (fCall d (fCons (fVar 4) (fCons (fVar 1) (fCons (fVar 2) fNil)))) (gS 8))
        (fSeq (fIfS (fB (fOp gNe (fOp gIx (fVar 8) (fC (.int 0))) (fC (.str "value")))) (fRet (fVar 8)) fNext)
        (fSeq (fApp 7 (fOp gIx (fVar 8) (fC (.int 1))))
        (fAsg (fOp gIx (fVar 8) (fC (.int 2))) (gS 2))))))
def lstTail : FS := (fFrz 7 (fRet (fTup (fCons (fC (.str "value")) (fCons (fCall gTuple (fCons (fVar 7) fNil)) (fCons (fVar 2) fNil))))))
theorem list_loop {d : Fn} {row : List Int} {g : Gn} {G z3 : Sl} {a : Int} {mx : Nat} (h : Follows d row g) (hm : mx ≤ 6) : ∀ (rem fuel : Nat) (acc : List PyData) (n : Nat) (z8 : Sl), acc.length + rem = mx → rem < fuel →
    resF (fThen (fWhile lstCond (lstBody d) fuel [G, .val (rowD row), .val (.int n), z3, .val g.data, .val (.int a), .val (.int mx), .own acc, z8]) lstTail) = some (outList (outG g row) row a rem acc.length n acc).data
  | 0, fuel + 1, acc, n, z8, hl, _ => by
    have e : (acc.length : Int) = (mx : Int) := by omega
    rw [outList]
    simp only [fSeq, fIfS, fRet, fAsg, fOwn, fApp, fExt, fBrk, fCnt, fDrop, fFrz, frz, fNext, fFor, fB, fAnd, fOr, fNot, fAndV, fOrV, fNotV, fIf, fChain, fOp, fUn, fVar, fC, fTup, fLst, fV, fCons, fNil, fCall, fCallL, fLenV, fSl, fPart, fNoPart, fStar, fAug, gS, gT, gN, gC, fSeqI, run_1, run_2, run_3, run_4, ix0, ix1, ix2, ix3, then_nx, then_rt, then_bk, then_ct, turn_nx, turn_ct, turn_bk, turn_rt, res_rt, asB_b, gIx_t, gIx_l, gAdd_i, gSub_i, gLt_i, gLe_i, gGt_i, gGe_i, eq_i, eq_s, ne_i, ne_s, gLen_t, gLen_l, gTup_l, gTup_t, strEq, Option.bind_some, List.getElem?_cons_zero, List.getElem?_cons_succ, List.set_cons_zero, List.set_cons_succ, List.replicate_succ, List.replicate_zero, Nat.reduceSub, Nat.reduceAdd, if_true, if_false, decide_true, decide_false, Bool.not_true, Bool.not_false, Bool.false_eq_true, String.reduceEq, reduceIte, List.length_cons, List.length_nil, Nat.reduceLeDiff, lim, while_s, lstCond, lstTail, e, Int.lt_irrefl, Out.data]
  | rem + 1, fuel + 1, acc, n, z8, hl, hf => by
    have e : ((acc.length : Int) < (mx : Int)) := by omega
    have hz : acc.length + 1 ≤ 10000000 := by omega
    rw [outList]
    have hd := h n
    by_cases ha : (acc.length : Int) < a
    · have ha' : ¬ (a ≤ (acc.length : Int)) := by omega
      rw [if_pos ha]
      cases ho : outG g row n with
      | val v m =>
        rw [ho] at hd
        have ih := list_loop (G := G) (z3 := z3) (a := a) h hm rem fuel (acc ++ [v]) m (.val (Out.val v m).data) (by rw [List.length_append, List.length_cons, List.length_nil]; omega) (by omega)
        rw [List.length_append, List.length_cons, List.length_nil] at ih
        rw [Out.step, ← ih]
        simp only [fSeq, fIfS, fRet, fAsg, fOwn, fApp, fExt, fBrk, fCnt, fDrop, fFrz, frz, fNext, fFor, fB, fAnd, fOr, fNot, fAndV, fOrV, fNotV, fIf, fChain, fOp, fUn, fVar, fC, fTup, fLst, fV, fCons, fNil, fCall, fCallL, fLenV, fSl, fPart, fNoPart, fStar, fAug, gS, gT, gN, gC, fSeqI, run_1, run_2, run_3, run_4, ix0, ix1, ix2, ix3, then_nx, then_rt, then_bk, then_ct, turn_nx, turn_ct, turn_bk, turn_rt, res_rt, asB_b, gIx_t, gIx_l, gAdd_i, gSub_i, gLt_i, gLe_i, gGt_i, gGe_i, eq_i, eq_s, ne_i, ne_s, gLen_t, gLen_l, gTup_l, gTup_t, strEq, Option.bind_some, List.getElem?_cons_zero, List.getElem?_cons_succ, List.set_cons_zero, List.set_cons_succ, List.replicate_succ, List.replicate_zero, Nat.reduceSub, Nat.reduceAdd, if_true, if_false, decide_true, decide_false, Bool.not_true, Bool.not_false, Bool.false_eq_true, String.reduceEq, reduceIte, List.length_cons, List.length_nil, Nat.reduceLeDiff, lim, while_s, lstCond, lstBody, e, ha', hd, Out.data, hz]
      | _ =>
        rw [ho] at hd
        rw [step_no (by intro v m e; cases e)]
        simp only [fSeq, fIfS, fRet, fAsg, fOwn, fApp, fExt, fBrk, fCnt, fDrop, fFrz, frz, fNext, fFor, fB, fAnd, fOr, fNot, fAndV, fOrV, fNotV, fIf, fChain, fOp, fUn, fVar, fC, fTup, fLst, fV, fCons, fNil, fCall, fCallL, fLenV, fSl, fPart, fNoPart, fStar, fAug, gS, gT, gN, gC, fSeqI, run_1, run_2, run_3, run_4, ix0, ix1, ix2, ix3, then_nx, then_rt, then_bk, then_ct, turn_nx, turn_ct, turn_bk, turn_rt, res_rt, asB_b, gIx_t, gIx_l, gAdd_i, gSub_i, gLt_i, gLe_i, gGt_i, gGe_i, eq_i, eq_s, ne_i, ne_s, gLen_t, gLen_l, gTup_l, gTup_t, strEq, Option.bind_some, List.getElem?_cons_zero, List.getElem?_cons_succ, List.set_cons_zero, List.set_cons_succ, List.replicate_succ, List.replicate_zero, Nat.reduceSub, Nat.reduceAdd, if_true, if_false, decide_true, decide_false, Bool.not_true, Bool.not_false, Bool.false_eq_true, String.reduceEq, reduceIte, List.length_cons, List.length_nil, Nat.reduceLeDiff, lim, while_s, lstCond, lstBody, e, ha', hd, Out.data]
    · have ha' : a ≤ (acc.length : Int) := by omega
      rw [if_neg ha]
      have hc := m_choose row n 1
      rcases cho_step row n 1 (fun c => if c = 0 then Out.val (.tuple acc) (n + 1) else (outG g row (n + 1)).step fun v n' => outList (outG g row) row a rem (acc.length + 1) n' (acc ++ [v])) with ⟨c, e1, e2, h0, h1⟩ | ⟨e1, e2⟩
      · rw [e2]
        rw [e1] at hc
        rcases (by omega : c = 0 ∨ c = 1) with rfl | rfl
        · simp only [fSeq, fIfS, fRet, fAsg, fOwn, fApp, fExt, fBrk, fCnt, fDrop, fFrz, frz, fNext, fFor, fB, fAnd, fOr, fNot, fAndV, fOrV, fNotV, fIf, fChain, fOp, fUn, fVar, fC, fTup, fLst, fV, fCons, fNil, fCall, fCallL, fLenV, fSl, fPart, fNoPart, fStar, fAug, gS, gT, gN, gC, fSeqI, run_1, run_2, run_3, run_4, ix0, ix1, ix2, ix3, then_nx, then_rt, then_bk, then_ct, turn_nx, turn_ct, turn_bk, turn_rt, res_rt, asB_b, gIx_t, gIx_l, gAdd_i, gSub_i, gLt_i, gLe_i, gGt_i, gGe_i, eq_i, eq_s, ne_i, ne_s, gLen_t, gLen_l, gTup_l, gTup_t, strEq, Option.bind_some, List.getElem?_cons_zero, List.getElem?_cons_succ, List.set_cons_zero, List.set_cons_succ, List.replicate_succ, List.replicate_zero, Nat.reduceSub, Nat.reduceAdd, if_true, if_false, decide_true, decide_false, Bool.not_true, Bool.not_false, Bool.false_eq_true, String.reduceEq, reduceIte, List.length_cons, List.length_nil, Nat.reduceLeDiff, lim, while_s, lstCond, lstBody, lstTail, e, ha', hc, Out.data, Int.natCast_add, Int.cast_ofNat_Int]
        · have hd1 := h (n + 1)
          rw [show ((n + 1 : Nat) : Int) = (n : Int) + 1 by omega] at hd1
          rw [if_neg (by decide)]
          have h10 : decide ((1 : Int) = 0) = false := by decide
          cases ho : outG g row (n + 1) with
          | val v m =>
            rw [ho] at hd1
            have ih := list_loop (G := G) (z3 := z3) (a := a) h hm rem fuel (acc ++ [v]) m (.val (Out.val v m).data) (by rw [List.length_append, List.length_cons, List.length_nil]; omega) (by omega)
            rw [List.length_append, List.length_cons, List.length_nil] at ih
            rw [Out.step, ← ih]
            simp only [fSeq, fIfS, fRet, fAsg, fOwn, fApp, fExt, fBrk, fCnt, fDrop, fFrz, frz, fNext, fFor, fB, fAnd, fOr, fNot, fAndV, fOrV, fNotV, fIf, fChain, fOp, fUn, fVar, fC, fTup, fLst, fV, fCons, fNil, fCall, fCallL, fLenV, fSl, fPart, fNoPart, fStar, fAug, gS, gT, gN, gC, fSeqI, run_1, run_2, run_3, run_4, ix0, ix1, ix2, ix3, then_nx, then_rt, then_bk, then_ct, turn_nx, turn_ct, turn_bk, turn_rt, res_rt, asB_b, gIx_t, gIx_l, gAdd_i, gSub_i, gLt_i, gLe_i, gGt_i, gGe_i, eq_i, eq_s, ne_i, ne_s, gLen_t, gLen_l, gTup_l, gTup_t, strEq, Option.bind_some, List.getElem?_cons_zero, List.getElem?_cons_succ, List.set_cons_zero, List.set_cons_succ, List.replicate_succ, List.replicate_zero, Nat.reduceSub, Nat.reduceAdd, if_true, if_false, decide_true, decide_false, Bool.not_true, Bool.not_false, Bool.false_eq_true, String.reduceEq, reduceIte, List.length_cons, List.length_nil, Nat.reduceLeDiff, lim, while_s, lstCond, lstBody, e, ha', hc, h10, hd1, Out.data, hz, Int.natCast_add, Int.cast_ofNat_Int]
          | _ =>
            rw [ho] at hd1
            rw [step_no (by intro v m e; cases e)]
            simp only [fSeq, fIfS, fRet, fAsg, fOwn, fApp, fExt, fBrk, fCnt, fDrop, fFrz, frz, fNext, fFor, fB, fAnd, fOr, fNot, fAndV, fOrV, fNotV, fIf, fChain, fOp, fUn, fVar, fC, fTup, fLst, fV, fCons, fNil, fCall, fCallL, fLenV, fSl, fPart, fNoPart, fStar, fAug, gS, gT, gN, gC, fSeqI, run_1, run_2, run_3, run_4, ix0, ix1, ix2, ix3, then_nx, then_rt, then_bk, then_ct, turn_nx, turn_ct, turn_bk, turn_rt, res_rt, asB_b, gIx_t, gIx_l, gAdd_i, gSub_i, gLt_i, gLe_i, gGt_i, gGe_i, eq_i, eq_s, ne_i, ne_s, gLen_t, gLen_l, gTup_l, gTup_t, strEq, Option.bind_some, List.getElem?_cons_zero, List.getElem?_cons_succ, List.set_cons_zero, List.set_cons_succ, List.replicate_succ, List.replicate_zero, Nat.reduceSub, Nat.reduceAdd, if_true, if_false, decide_true, decide_false, Bool.not_true, Bool.not_false, Bool.false_eq_true, String.reduceEq, reduceIte, List.length_cons, List.length_nil, Nat.reduceLeDiff, lim, while_s, lstCond, lstBody, e, ha', hc, h10, hd1, Out.data, Int.natCast_add, Int.cast_ofNat_Int]
      · rw [e2]
        obtain ⟨nm, rest, e3, ⟨v, m, e4⟩ | ⟨_, e5⟩⟩ := out_name (chO row n 1)
        · exact absurd e4 (e1 v m)
        · rw [e3] at hc ⊢
          simp only [fSeq, fIfS, fRet, fAsg, fOwn, fApp, fExt, fBrk, fCnt, fDrop, fFrz, frz, fNext, fFor, fB, fAnd, fOr, fNot, fAndV, fOrV, fNotV, fIf, fChain, fOp, fUn, fVar, fC, fTup, fLst, fV, fCons, fNil, fCall, fCallL, fLenV, fSl, fPart, fNoPart, fStar, fAug, gS, gT, gN, gC, fSeqI, run_1, run_2, run_3, run_4, ix0, ix1, ix2, ix3, then_nx, then_rt, then_bk, then_ct, turn_nx, turn_ct, turn_bk, turn_rt, res_rt, asB_b, gIx_t, gIx_l, gAdd_i, gSub_i, gLt_i, gLe_i, gGt_i, gGe_i, eq_i, eq_s, ne_i, ne_s, gLen_t, gLen_l, gTup_l, gTup_t, strEq, Option.bind_some, List.getElem?_cons_zero, List.getElem?_cons_succ, List.set_cons_zero, List.set_cons_succ, List.replicate_succ, List.replicate_zero, Nat.reduceSub, Nat.reduceAdd, if_true, if_false, decide_true, decide_false, Bool.not_true, Bool.not_false, Bool.false_eq_true, String.reduceEq, reduceIte, List.length_cons, List.length_nil, Nat.reduceLeDiff, lim, while_s, lstCond, lstBody, e, ha', hc, e5]
theorem m_list {d : Fn} {row : List Int} {g : Gn} {a b : Int} (h : Follows d row g) (h0 : 0 ≤ a) (hab : a ≤ b) (hb : b ≤ 6) (n : Nat) : D_list d [(Gn.list g a b).data, rowD row, .int n] = some (outG (.list g a b) row n).data := by
  obtain ⟨mx, rfl⟩ := Int.eq_ofNat_of_zero_le (show 0 ≤ b by omega)
  have e := list_loop (G := .val (Gn.list g a mx).data) (z3 := .val (.str "list")) (a := a) (mx := mx) h (by omega) mx 1000 [] n .un (by simp) (by omega)
  unfold D_list
  rw [outG, Int.toNat_natCast]
  rw [show ([] : List PyData).length = 0 from rfl] at e
  rw [← e]
  simp only [fSeq, fIfS, fRet, fAsg, fOwn, fApp, fExt, fBrk, fCnt, fDrop, fFrz, frz, fNext, fFor, fB, fAnd, fOr, fNot, fAndV, fOrV, fNotV, fIf, fChain, fOp, fUn, fVar, fC, fTup, fLst, fV, fCons, fNil, fCall, fCallL, fLenV, fSl, fPart, fNoPart, fStar, fAug, gS, gT, gN, gC, fSeqI, run_1, run_2, run_3, run_4, ix0, ix1, ix2, ix3, then_nx, then_rt, then_bk, then_ct, turn_nx, turn_ct, turn_bk, turn_rt, res_rt, asB_b, gIx_t, gIx_l, gAdd_i, gSub_i, gLt_i, gLe_i, gGt_i, gGe_i, eq_i, eq_s, ne_i, ne_s, gLen_t, gLen_l, gTup_l, gTup_t, strEq, Option.bind_some, List.getElem?_cons_zero, List.getElem?_cons_succ, List.set_cons_zero, List.set_cons_succ, List.replicate_succ, List.replicate_zero, Nat.reduceSub, Nat.reduceAdd, if_true, if_false, decide_true, decide_false, Bool.not_true, Bool.not_false, Bool.false_eq_true, String.reduceEq, reduceIte, List.length_cons, List.length_nil, Nat.reduceLeDiff, lim, b__draw_list, lstCond, lstBody, lstTail, Gn.data]
theorem m_one {d : Fn} {row : List Int} {gs : List Gn} (h : ∀ g ∈ gs, Follows d row g) (h0 : 0 < gs.length) (n : Nat) : D_one d [(Gn.one gs).data, rowD row, .int n] = some (outG (.one gs) row n).data := by
  unfold D_one
  rw [outG]
  have hc := m_choose row n ((gs.length : Int) - 1)
  rcases cho_step row n ((gs.length : Int) - 1) fun c => outPick gs c.toNat row (n + 1) with ⟨c, e1, e2, h0, h1⟩ | ⟨e1, e2⟩
  · rw [e2]
    rw [e1] at hc
    obtain ⟨j, rfl⟩ := Int.eq_ofNat_of_zero_le h0
    have hj : j < gs.length := by omega
    have e0 : gs[j]? = some gs[j] := List.getElem?_eq_getElem hj
    have e : atI (gs.map Gn.data) (j : Int) = some gs[j].data := atI_nat (by rw [List.getElem?_map, e0]; rfl)
    have hd := h gs[j] (List.getElem_mem hj) (n + 1)
    rw [show ((n + 1 : Nat) : Int) = (n : Int) + 1 by omega] at hd
    rw [Int.toNat_natCast, outPick_get e0]
    generalize (outG gs[j] row (n + 1)).data = r at hd ⊢
    simp only [fSeq, fIfS, fRet, fAsg, fOwn, fApp, fExt, fBrk, fCnt, fDrop, fFrz, frz, fNext, fFor, fB, fAnd, fOr, fNot, fAndV, fOrV, fNotV, fIf, fChain, fOp, fUn, fVar, fC, fTup, fLst, fV, fCons, fNil, fCall, fCallL, fLenV, fSl, fPart, fNoPart, fStar, fAug, gS, gT, gN, gC, fSeqI, run_1, run_2, run_3, run_4, ix0, ix1, ix2, ix3, then_nx, then_rt, then_bk, then_ct, turn_nx, turn_ct, turn_bk, turn_rt, res_rt, asB_b, gIx_t, gIx_l, gAdd_i, gSub_i, gLt_i, gLe_i, gGt_i, gGe_i, eq_i, eq_s, ne_i, ne_s, gLen_t, gLen_l, gTup_l, gTup_t, strEq, Option.bind_some, List.getElem?_cons_zero, List.getElem?_cons_succ, List.set_cons_zero, List.set_cons_succ, List.replicate_succ, List.replicate_zero, Nat.reduceSub, Nat.reduceAdd, if_true, if_false, decide_true, decide_false, Bool.not_true, Bool.not_false, Bool.false_eq_true, String.reduceEq, reduceIte, List.length_cons, List.length_nil, Nat.reduceLeDiff, lim, b__draw_one, Gn.data, gnAll_map, List.length_map, hc, Out.data, e, Int.natCast_add, Int.cast_ofNat_Int, hd]
  · rw [e2]
    obtain ⟨nm, rest, e3, ⟨v, m, e4⟩ | ⟨_, e5⟩⟩ := out_name (chO row n ((gs.length : Int) - 1))
    · exact absurd e4 (e1 v m)
    · rw [e3] at hc ⊢
      simp only [fSeq, fIfS, fRet, fAsg, fOwn, fApp, fExt, fBrk, fCnt, fDrop, fFrz, frz, fNext, fFor, fB, fAnd, fOr, fNot, fAndV, fOrV, fNotV, fIf, fChain, fOp, fUn, fVar, fC, fTup, fLst, fV, fCons, fNil, fCall, fCallL, fLenV, fSl, fPart, fNoPart, fStar, fAug, gS, gT, gN, gC, fSeqI, run_1, run_2, run_3, run_4, ix0, ix1, ix2, ix3, then_nx, then_rt, then_bk, then_ct, turn_nx, turn_ct, turn_bk, turn_rt, res_rt, asB_b, gIx_t, gIx_l, gAdd_i, gSub_i, gLt_i, gLe_i, gGt_i, gGe_i, eq_i, eq_s, ne_i, ne_s, gLen_t, gLen_l, gTup_l, gTup_t, strEq, Option.bind_some, List.getElem?_cons_zero, List.getElem?_cons_succ, List.set_cons_zero, List.set_cons_succ, List.replicate_succ, List.replicate_zero, Nat.reduceSub, Nat.reduceAdd, if_true, if_false, decide_true, decide_false, Bool.not_true, Bool.not_false, Bool.false_eq_true, String.reduceEq, reduceIte, List.length_cons, List.length_nil, Nat.reduceLeDiff, lim, b__draw_one, Gn.data, gnAll_map, List.length_map, hc, e5]
theorem m_kept {d hol : Fn} {row : List Int} {g : Gn} {c : Cd} (h : Follows d row g) (hh : ∀ n v m, outG g row n = .val v m → hol [c.data, v] = some (.bool (holdsC c v))) (n : Nat) : D_kept d hol [(Gn.kept g c).data, rowD row, .int n] = some (outG (.kept g c) row n).data := by
  unfold D_kept
  rw [outG]
  have hd := h n
  cases ho : outG g row n with
  | val v m =>
    rw [ho] at hd
    have e := hh n v m ho
    rw [Out.step]
    cases hv : holdsC c v <;> (rw [hv] at e; simp only [fSeq, fIfS, fRet, fAsg, fOwn, fApp, fExt, fBrk, fCnt, fDrop, fFrz, frz, fNext, fFor, fB, fAnd, fOr, fNot, fAndV, fOrV, fNotV, fIf, fChain, fOp, fUn, fVar, fC, fTup, fLst, fV, fCons, fNil, fCall, fCallL, fLenV, fSl, fPart, fNoPart, fStar, fAug, gS, gT, gN, gC, fSeqI, run_1, run_2, run_3, run_4, ix0, ix1, ix2, ix3, then_nx, then_rt, then_bk, then_ct, turn_nx, turn_ct, turn_bk, turn_rt, res_rt, asB_b, gIx_t, gIx_l, gAdd_i, gSub_i, gLt_i, gLe_i, gGt_i, gGe_i, eq_i, eq_s, ne_i, ne_s, gLen_t, gLen_l, gTup_l, gTup_t, strEq, Option.bind_some, List.getElem?_cons_zero, List.getElem?_cons_succ, List.set_cons_zero, List.set_cons_succ, List.replicate_succ, List.replicate_zero, Nat.reduceSub, Nat.reduceAdd, if_true, if_false, decide_true, decide_false, Bool.not_true, Bool.not_false, Bool.false_eq_true, String.reduceEq, reduceIte, List.length_cons, List.length_nil, Nat.reduceLeDiff, lim, b__draw_kept, Gn.data, hd, Out.data, e])
  | _ =>
    rw [ho] at hd
    rw [step_no (by intro v m e; cases e)]
    simp only [fSeq, fIfS, fRet, fAsg, fOwn, fApp, fExt, fBrk, fCnt, fDrop, fFrz, frz, fNext, fFor, fB, fAnd, fOr, fNot, fAndV, fOrV, fNotV, fIf, fChain, fOp, fUn, fVar, fC, fTup, fLst, fV, fCons, fNil, fCall, fCallL, fLenV, fSl, fPart, fNoPart, fStar, fAug, gS, gT, gN, gC, fSeqI, run_1, run_2, run_3, run_4, ix0, ix1, ix2, ix3, then_nx, then_rt, then_bk, then_ct, turn_nx, turn_ct, turn_bk, turn_rt, res_rt, asB_b, gIx_t, gIx_l, gAdd_i, gSub_i, gLt_i, gLe_i, gGt_i, gGe_i, eq_i, eq_s, ne_i, ne_s, gLen_t, gLen_l, gTup_l, gTup_t, strEq, Option.bind_some, List.getElem?_cons_zero, List.getElem?_cons_succ, List.set_cons_zero, List.set_cons_succ, List.replicate_succ, List.replicate_zero, Nat.reduceSub, Nat.reduceAdd, if_true, if_false, decide_true, decide_false, Bool.not_true, Bool.not_false, Bool.false_eq_true, String.reduceEq, reduceIte, List.length_cons, List.length_nil, Nat.reduceLeDiff, lim, b__draw_kept, Gn.data, hd, Out.data]
theorem m_turnedG {d trn : Fn} {row : List Int} {g : Gn} {m : Mp} (h : Follows d row g) (hh : ∀ n v k, outG g row n = .val v k → trn [m.data, v] = some (turnD m v)) (n : Nat) : D_turned d trn [(Gn.turned g m).data, rowD row, .int n] = some (outG (.turned g m) row n).data := by
  unfold D_turned
  rw [outG]
  have hd := h n
  cases ho : outG g row n with
  | val v k =>
    rw [ho] at hd
    have e := hh n v k ho
    rw [Out.step]
    simp only [fSeq, fIfS, fRet, fAsg, fOwn, fApp, fExt, fBrk, fCnt, fDrop, fFrz, frz, fNext, fFor, fB, fAnd, fOr, fNot, fAndV, fOrV, fNotV, fIf, fChain, fOp, fUn, fVar, fC, fTup, fLst, fV, fCons, fNil, fCall, fCallL, fLenV, fSl, fPart, fNoPart, fStar, fAug, gS, gT, gN, gC, fSeqI, run_1, run_2, run_3, run_4, ix0, ix1, ix2, ix3, then_nx, then_rt, then_bk, then_ct, turn_nx, turn_ct, turn_bk, turn_rt, res_rt, asB_b, gIx_t, gIx_l, gAdd_i, gSub_i, gLt_i, gLe_i, gGt_i, gGe_i, eq_i, eq_s, ne_i, ne_s, gLen_t, gLen_l, gTup_l, gTup_t, strEq, Option.bind_some, List.getElem?_cons_zero, List.getElem?_cons_succ, List.set_cons_zero, List.set_cons_succ, List.replicate_succ, List.replicate_zero, Nat.reduceSub, Nat.reduceAdd, if_true, if_false, decide_true, decide_false, Bool.not_true, Bool.not_false, Bool.false_eq_true, String.reduceEq, reduceIte, List.length_cons, List.length_nil, Nat.reduceLeDiff, lim, b__draw_turned, Gn.data, hd, Out.data, e]
  | _ =>
    rw [ho] at hd
    rw [step_no (by intro v m e; cases e)]
    simp only [fSeq, fIfS, fRet, fAsg, fOwn, fApp, fExt, fBrk, fCnt, fDrop, fFrz, frz, fNext, fFor, fB, fAnd, fOr, fNot, fAndV, fOrV, fNotV, fIf, fChain, fOp, fUn, fVar, fC, fTup, fLst, fV, fCons, fNil, fCall, fCallL, fLenV, fSl, fPart, fNoPart, fStar, fAug, gS, gT, gN, gC, fSeqI, run_1, run_2, run_3, run_4, ix0, ix1, ix2, ix3, then_nx, then_rt, then_bk, then_ct, turn_nx, turn_ct, turn_bk, turn_rt, res_rt, asB_b, gIx_t, gIx_l, gAdd_i, gSub_i, gLt_i, gLe_i, gGt_i, gGe_i, eq_i, eq_s, ne_i, ne_s, gLen_t, gLen_l, gTup_l, gTup_t, strEq, Option.bind_some, List.getElem?_cons_zero, List.getElem?_cons_succ, List.set_cons_zero, List.set_cons_succ, List.replicate_succ, List.replicate_zero, Nat.reduceSub, Nat.reduceAdd, if_true, if_false, decide_true, decide_false, Bool.not_true, Bool.not_false, Bool.false_eq_true, String.reduceEq, reduceIte, List.length_cons, List.length_nil, Nat.reduceLeDiff, lim, b__draw_turned, Gn.data, hd, Out.data]
theorem m_repeat {d : Fn} {row : List Int} {g h : Gn} (hg : Follows d row g) (hh : Follows d row h) (hi : ∀ n v k, outG g row n = .val v k → ∃ i : Int, v = .int i) (n : Nat) : D_repeat d [(Gn.repeat_ g h).data, rowD row, .int n] = some (outG (.repeat_ g h) row n).data := by
  unfold D_repeat
  rw [outG]
  have hd := hg n
  cases ho : outG g row n with
  | val v k =>
    rw [ho] at hd
    obtain ⟨i, rfl⟩ := hi n v k ho
    rw [Out.step, outRepeat]
    by_cases h1 : 0 ≤ i <;> by_cases h2 : i ≤ 6
    · obtain ⟨j, rfl⟩ := Int.eq_ofNat_of_zero_le h1
      have he := m_eachL (d := d) (row := row) (gs := List.replicate j h) (fun g' hg' => by rw [(List.mem_replicate.mp hg').2]; exact hh) (by rw [List.length_replicate]; omega) k
      rw [List.map_replicate] at he
      have hm : gMul (.list [h.data]) (.int (j : Int)) = some (.list (List.replicate j h.data)) := by
        show (if (j : Int).toNat ≤ 10000000 ∧ -10000000 ≤ (j : Int) then lim ([h.data].length * (j : Int).toNat) (PyData.list (List.replicate (j : Int).toNat [h.data]).flatten) else none) = _
        rw [if_pos ⟨by omega, by omega⟩, lim_ok (by simp; omega)]
        congr 2
        rw [Int.toNat_natCast]
        clear he hd ho h1 h2
        induction j with
        | zero => rfl
        | succ j ih => rw [List.replicate_succ, List.flatten_cons, ih, List.replicate_succ]; rfl
      rw [Int.toNat_natCast, outTimes_seq]
      simp only [fSeq, fIfS, fRet, fAsg, fOwn, fApp, fExt, fBrk, fCnt, fDrop, fFrz, frz, fNext, fFor, fB, fAnd, fOr, fNot, fAndV, fOrV, fNotV, fIf, fChain, fOp, fUn, fVar, fC, fTup, fLst, fV, fCons, fNil, fCall, fCallL, fLenV, fSl, fPart, fNoPart, fStar, fAug, gS, gT, gN, gC, fSeqI, run_1, run_2, run_3, run_4, ix0, ix1, ix2, ix3, then_nx, then_rt, then_bk, then_ct, turn_nx, turn_ct, turn_bk, turn_rt, res_rt, asB_b, gIx_t, gIx_l, gAdd_i, gSub_i, gLt_i, gLe_i, gGt_i, gGe_i, eq_i, eq_s, ne_i, ne_s, gLen_t, gLen_l, gTup_l, gTup_t, strEq, Option.bind_some, List.getElem?_cons_zero, List.getElem?_cons_succ, List.set_cons_zero, List.set_cons_succ, List.replicate_succ, List.replicate_zero, Nat.reduceSub, Nat.reduceAdd, if_true, if_false, decide_true, decide_false, Bool.not_true, Bool.not_false, Bool.false_eq_true, String.reduceEq, reduceIte, List.length_cons, List.length_nil, Nat.reduceLeDiff, lim, b__draw_repeat, Gn.data, hd, Out.data, h1, h2, hm, he, Bool.and_self]
    all_goals simp only [fSeq, fIfS, fRet, fAsg, fOwn, fApp, fExt, fBrk, fCnt, fDrop, fFrz, frz, fNext, fFor, fB, fAnd, fOr, fNot, fAndV, fOrV, fNotV, fIf, fChain, fOp, fUn, fVar, fC, fTup, fLst, fV, fCons, fNil, fCall, fCallL, fLenV, fSl, fPart, fNoPart, fStar, fAug, gS, gT, gN, gC, fSeqI, run_1, run_2, run_3, run_4, ix0, ix1, ix2, ix3, then_nx, then_rt, then_bk, then_ct, turn_nx, turn_ct, turn_bk, turn_rt, res_rt, asB_b, gIx_t, gIx_l, gAdd_i, gSub_i, gLt_i, gLe_i, gGt_i, gGe_i, eq_i, eq_s, ne_i, ne_s, gLen_t, gLen_l, gTup_l, gTup_t, strEq, Option.bind_some, List.getElem?_cons_zero, List.getElem?_cons_succ, List.set_cons_zero, List.set_cons_succ, List.replicate_succ, List.replicate_zero, Nat.reduceSub, Nat.reduceAdd, if_true, if_false, decide_true, decide_false, Bool.not_true, Bool.not_false, Bool.false_eq_true, String.reduceEq, reduceIte, List.length_cons, List.length_nil, Nat.reduceLeDiff, lim, b__draw_repeat, Gn.data, hd, Out.data, h1, h2, Bool.and_true, Bool.and_false, Bool.and_self]
  | _ =>
    rw [ho] at hd
    rw [step_no (by intro v m e; cases e)]
    simp only [fSeq, fIfS, fRet, fAsg, fOwn, fApp, fExt, fBrk, fCnt, fDrop, fFrz, frz, fNext, fFor, fB, fAnd, fOr, fNot, fAndV, fOrV, fNotV, fIf, fChain, fOp, fUn, fVar, fC, fTup, fLst, fV, fCons, fNil, fCall, fCallL, fLenV, fSl, fPart, fNoPart, fStar, fAug, gS, gT, gN, gC, fSeqI, run_1, run_2, run_3, run_4, ix0, ix1, ix2, ix3, then_nx, then_rt, then_bk, then_ct, turn_nx, turn_ct, turn_bk, turn_rt, res_rt, asB_b, gIx_t, gIx_l, gAdd_i, gSub_i, gLt_i, gLe_i, gGt_i, gGe_i, eq_i, eq_s, ne_i, ne_s, gLen_t, gLen_l, gTup_l, gTup_t, strEq, Option.bind_some, List.getElem?_cons_zero, List.getElem?_cons_succ, List.set_cons_zero, List.set_cons_succ, List.replicate_succ, List.replicate_zero, Nat.reduceSub, Nat.reduceAdd, if_true, if_false, decide_true, decide_false, Bool.not_true, Bool.not_false, Bool.false_eq_true, String.reduceEq, reduceIte, List.length_cons, List.length_nil, Nat.reduceLeDiff, lim, b__draw_repeat, Gn.data, hd, Out.data]
/-- what is asked of holds and turn -/
def HolOk (hol : Fn) : Prop := ∀ c k v, OkC 10 c → fitsC c k = true → isk k v = true → Dk 20 v → hol [c.data, v] = some (.bool (holdsC c v))
def TrnOk (trn : Fn) : Prop := ∀ m k k' v, behind m k = some k' → isk k v = true → Dk 20 v → trn [m.data, v] = some (turnD m v)
theorem m_from {hol trn : Fn} (hh : HolOk hol) (ht : TrnOk trn) (row : List Int) : ∀ (n : Nat) {g : Gn} {kd : Kd}, OkGk 10 n g → n ≤ 18 → GenK g kd → Follows (D_from hol trn n) row g
  | 0, g, kd, h, _, _ => absurd h.pos (by omega)
  | n + 1, g, kd, h, hn, hk => fun i => by
    have hp := h.parts
    have good := out_good hk row
    unfold D_from
    cases hk with
    | @int lo hi a b c =>
      have e := m_int lo hi row i
      generalize (outG (.int lo hi) row i).data = r at e ⊢
      simp only [Gn.data] at e
      simp only [fSeq, fIfS, fRet, fAsg, fOwn, fApp, fExt, fBrk, fCnt, fDrop, fFrz, frz, fNext, fFor, fB, fAnd, fOr, fNot, fAndV, fOrV, fNotV, fIf, fChain, fOp, fUn, fVar, fC, fTup, fLst, fV, fCons, fNil, fCall, fCallL, fLenV, fSl, fPart, fNoPart, fStar, fAug, gS, gT, gN, gC, fSeqI, run_1, run_2, run_3, run_4, ix0, ix1, ix2, ix3, then_nx, then_rt, then_bk, then_ct, turn_nx, turn_ct, turn_bk, turn_rt, res_rt, asB_b, gIx_t, gIx_l, gAdd_i, gSub_i, gLt_i, gLe_i, gGt_i, gGe_i, eq_i, eq_s, ne_i, ne_s, gLen_t, gLen_l, gTup_l, gTup_t, strEq, Option.bind_some, List.getElem?_cons_zero, List.getElem?_cons_succ, List.set_cons_zero, List.set_cons_succ, List.replicate_succ, List.replicate_zero, Nat.reduceSub, Nat.reduceAdd, if_true, if_false, decide_true, decide_false, Bool.not_true, Bool.not_false, Bool.false_eq_true, String.reduceEq, reduceIte, List.length_cons, List.length_nil, Nat.reduceLeDiff, lim, b_draw_from, Gn.data, e]
    | @pick ws a b c dd =>
      have e := m_pick a row i
      generalize (outG (.pick ws) row i).data = r at e ⊢
      simp only [Gn.data] at e
      simp only [fSeq, fIfS, fRet, fAsg, fOwn, fApp, fExt, fBrk, fCnt, fDrop, fFrz, frz, fNext, fFor, fB, fAnd, fOr, fNot, fAndV, fOrV, fNotV, fIf, fChain, fOp, fUn, fVar, fC, fTup, fLst, fV, fCons, fNil, fCall, fCallL, fLenV, fSl, fPart, fNoPart, fStar, fAug, gS, gT, gN, gC, fSeqI, run_1, run_2, run_3, run_4, ix0, ix1, ix2, ix3, then_nx, then_rt, then_bk, then_ct, turn_nx, turn_ct, turn_bk, turn_rt, res_rt, asB_b, gIx_t, gIx_l, gAdd_i, gSub_i, gLt_i, gLe_i, gGt_i, gGe_i, eq_i, eq_s, ne_i, ne_s, gLen_t, gLen_l, gTup_l, gTup_t, strEq, Option.bind_some, List.getElem?_cons_zero, List.getElem?_cons_succ, List.set_cons_zero, List.set_cons_succ, List.replicate_succ, List.replicate_zero, Nat.reduceSub, Nat.reduceAdd, if_true, if_false, decide_true, decide_false, Bool.not_true, Bool.not_false, Bool.false_eq_true, String.reduceEq, reduceIte, List.length_cons, List.length_nil, Nat.reduceLeDiff, lim, b_draw_from, Gn.data, e]
    | @tuple gs ks h4 hl hat =>
      have e := m_each (d := D_from hol trn n) (row := row) (gs := gs) (fun g hg => by
        obtain ⟨j, hj⟩ := List.mem_iff_getElem?.mp hg
        have hlt := (List.getElem?_eq_some_iff.mp hj).1
        exact m_from hh ht row n (hp g hg) (by omega) (hat j g _ hj (List.getElem?_eq_getElem (by omega)))) (by omega) i
      rw [outG]
      generalize (outSeq gs row i []).data = r at e ⊢
      simp only [fSeq, fIfS, fRet, fAsg, fOwn, fApp, fExt, fBrk, fCnt, fDrop, fFrz, frz, fNext, fFor, fB, fAnd, fOr, fNot, fAndV, fOrV, fNotV, fIf, fChain, fOp, fUn, fVar, fC, fTup, fLst, fV, fCons, fNil, fCall, fCallL, fLenV, fSl, fPart, fNoPart, fStar, fAug, gS, gT, gN, gC, fSeqI, run_1, run_2, run_3, run_4, ix0, ix1, ix2, ix3, then_nx, then_rt, then_bk, then_ct, turn_nx, turn_ct, turn_bk, turn_rt, res_rt, asB_b, gIx_t, gIx_l, gAdd_i, gSub_i, gLt_i, gLe_i, gGt_i, gGe_i, eq_i, eq_s, ne_i, ne_s, gLen_t, gLen_l, gTup_l, gTup_t, strEq, Option.bind_some, List.getElem?_cons_zero, List.getElem?_cons_succ, List.set_cons_zero, List.set_cons_succ, List.replicate_succ, List.replicate_zero, Nat.reduceSub, Nat.reduceAdd, if_true, if_false, decide_true, decide_false, Bool.not_true, Bool.not_false, Bool.false_eq_true, String.reduceEq, reduceIte, List.length_cons, List.length_nil, Nat.reduceLeDiff, lim, b_draw_from, Gn.data, gnAll_map, e]
    | @list g k a b hg h0 hab hb =>
      have e := m_list (m_from hh ht row n (hp g (List.mem_singleton.mpr rfl)) (by omega) hg) h0 hab hb i
      generalize (outG (.list g a b) row i).data = r at e ⊢
      simp only [Gn.data] at e
      simp only [fSeq, fIfS, fRet, fAsg, fOwn, fApp, fExt, fBrk, fCnt, fDrop, fFrz, frz, fNext, fFor, fB, fAnd, fOr, fNot, fAndV, fOrV, fNotV, fIf, fChain, fOp, fUn, fVar, fC, fTup, fLst, fV, fCons, fNil, fCall, fCallL, fLenV, fSl, fPart, fNoPart, fStar, fAug, gS, gT, gN, gC, fSeqI, run_1, run_2, run_3, run_4, ix0, ix1, ix2, ix3, then_nx, then_rt, then_bk, then_ct, turn_nx, turn_ct, turn_bk, turn_rt, res_rt, asB_b, gIx_t, gIx_l, gAdd_i, gSub_i, gLt_i, gLe_i, gGt_i, gGe_i, eq_i, eq_s, ne_i, ne_s, gLen_t, gLen_l, gTup_l, gTup_t, strEq, Option.bind_some, List.getElem?_cons_zero, List.getElem?_cons_succ, List.set_cons_zero, List.set_cons_succ, List.replicate_succ, List.replicate_zero, Nat.reduceSub, Nat.reduceAdd, if_true, if_false, decide_true, decide_false, Bool.not_true, Bool.not_false, Bool.false_eq_true, String.reduceEq, reduceIte, List.length_cons, List.length_nil, Nat.reduceLeDiff, lim, b_draw_from, Gn.data, e]
    | @one gs k h0 h4 hat =>
      have e := m_one (gs := gs) (fun g hg => m_from hh ht row n (hp g hg) (by omega) (hat g hg)) h0 i
      generalize (outG (.one gs) row i).data = r at e ⊢
      simp only [Gn.data] at e
      simp only [fSeq, fIfS, fRet, fAsg, fOwn, fApp, fExt, fBrk, fCnt, fDrop, fFrz, frz, fNext, fFor, fB, fAnd, fOr, fNot, fAndV, fOrV, fNotV, fIf, fChain, fOp, fUn, fVar, fC, fTup, fLst, fV, fCons, fNil, fCall, fCallL, fLenV, fSl, fPart, fNoPart, fStar, fAug, gS, gT, gN, gC, fSeqI, run_1, run_2, run_3, run_4, ix0, ix1, ix2, ix3, then_nx, then_rt, then_bk, then_ct, turn_nx, turn_ct, turn_bk, turn_rt, res_rt, asB_b, gIx_t, gIx_l, gAdd_i, gSub_i, gLt_i, gLe_i, gGt_i, gGe_i, eq_i, eq_s, ne_i, ne_s, gLen_t, gLen_l, gTup_l, gTup_t, strEq, Option.bind_some, List.getElem?_cons_zero, List.getElem?_cons_succ, List.set_cons_zero, List.set_cons_succ, List.replicate_succ, List.replicate_zero, Nat.reduceSub, Nat.reduceAdd, if_true, if_false, decide_true, decide_false, Bool.not_true, Bool.not_false, Bool.false_eq_true, String.reduceEq, reduceIte, List.length_cons, List.length_nil, Nat.reduceLeDiff, lim, b_draw_from, Gn.data, e]
    | @kept g k c hg hf =>
      have hc : OkC 10 c := by cases h with | kept _ hc => exact hc
      have hgo : OkGk 10 n g := hp g (List.mem_singleton.mpr rfl)
      have e := m_kept (d := D_from hol trn n) (c := c) (m_from hh ht row n hgo (by omega) hg) (hol := hol) (fun j v m ho => hh c kd v hc hf (out_good hg row j v m ho) ((out_deep hg row 10 n hgo j v m ho).mono (by omega))) i
      generalize (outG (.kept g c) row i).data = r at e ⊢
      simp only [Gn.data] at e
      simp only [fSeq, fIfS, fRet, fAsg, fOwn, fApp, fExt, fBrk, fCnt, fDrop, fFrz, frz, fNext, fFor, fB, fAnd, fOr, fNot, fAndV, fOrV, fNotV, fIf, fChain, fOp, fUn, fVar, fC, fTup, fLst, fV, fCons, fNil, fCall, fCallL, fLenV, fSl, fPart, fNoPart, fStar, fAug, gS, gT, gN, gC, fSeqI, run_1, run_2, run_3, run_4, ix0, ix1, ix2, ix3, then_nx, then_rt, then_bk, then_ct, turn_nx, turn_ct, turn_bk, turn_rt, res_rt, asB_b, gIx_t, gIx_l, gAdd_i, gSub_i, gLt_i, gLe_i, gGt_i, gGe_i, eq_i, eq_s, ne_i, ne_s, gLen_t, gLen_l, gTup_l, gTup_t, strEq, Option.bind_some, List.getElem?_cons_zero, List.getElem?_cons_succ, List.set_cons_zero, List.set_cons_succ, List.replicate_succ, List.replicate_zero, Nat.reduceSub, Nat.reduceAdd, if_true, if_false, decide_true, decide_false, Bool.not_true, Bool.not_false, Bool.false_eq_true, String.reduceEq, reduceIte, List.length_cons, List.length_nil, Nat.reduceLeDiff, lim, b_draw_from, Gn.data, e]
    | @turned g k k' m hg hf =>
      have hgo : OkGk 10 n g := hp g (List.mem_singleton.mpr rfl)
      have e := m_turnedG (d := D_from hol trn n) (m := m) (m_from hh ht row n hgo (by omega) hg) (trn := trn) (fun j v mm ho => ht m k kd v hf (out_good hg row j v mm ho) ((out_deep hg row 10 n hgo j v mm ho).mono (by omega))) i
      generalize (outG (.turned g m) row i).data = r at e ⊢
      simp only [Gn.data] at e
      simp only [fSeq, fIfS, fRet, fAsg, fOwn, fApp, fExt, fBrk, fCnt, fDrop, fFrz, frz, fNext, fFor, fB, fAnd, fOr, fNot, fAndV, fOrV, fNotV, fIf, fChain, fOp, fUn, fVar, fC, fTup, fLst, fV, fCons, fNil, fCall, fCallL, fLenV, fSl, fPart, fNoPart, fStar, fAug, gS, gT, gN, gC, fSeqI, run_1, run_2, run_3, run_4, ix0, ix1, ix2, ix3, then_nx, then_rt, then_bk, then_ct, turn_nx, turn_ct, turn_bk, turn_rt, res_rt, asB_b, gIx_t, gIx_l, gAdd_i, gSub_i, gLt_i, gLe_i, gGt_i, gGe_i, eq_i, eq_s, ne_i, ne_s, gLen_t, gLen_l, gTup_l, gTup_t, strEq, Option.bind_some, List.getElem?_cons_zero, List.getElem?_cons_succ, List.set_cons_zero, List.set_cons_succ, List.replicate_succ, List.replicate_zero, Nat.reduceSub, Nat.reduceAdd, if_true, if_false, decide_true, decide_false, Bool.not_true, Bool.not_false, Bool.false_eq_true, String.reduceEq, reduceIte, List.length_cons, List.length_nil, Nat.reduceLeDiff, lim, b_draw_from, Gn.data, e]
    | @repeat_ g h' k hg hk' =>
      have e := m_repeat (m_from hh ht row n (hp g (by simp [partsG])) (by omega) hg) (m_from hh ht row n (hp h' (by simp [partsG])) (by omega) hk') (fun j v m ho => isk_int (out_good hg row j v m ho)) i
      generalize (outG (.repeat_ g h') row i).data = r at e ⊢
      simp only [Gn.data] at e
      simp only [fSeq, fIfS, fRet, fAsg, fOwn, fApp, fExt, fBrk, fCnt, fDrop, fFrz, frz, fNext, fFor, fB, fAnd, fOr, fNot, fAndV, fOrV, fNotV, fIf, fChain, fOp, fUn, fVar, fC, fTup, fLst, fV, fCons, fNil, fCall, fCallL, fLenV, fSl, fPart, fNoPart, fStar, fAug, gS, gT, gN, gC, fSeqI, run_1, run_2, run_3, run_4, ix0, ix1, ix2, ix3, then_nx, then_rt, then_bk, then_ct, turn_nx, turn_ct, turn_bk, turn_rt, res_rt, asB_b, gIx_t, gIx_l, gAdd_i, gSub_i, gLt_i, gLe_i, gGt_i, gGe_i, eq_i, eq_s, ne_i, ne_s, gLen_t, gLen_l, gTup_l, gTup_t, strEq, Option.bind_some, List.getElem?_cons_zero, List.getElem?_cons_succ, List.set_cons_zero, List.set_cons_succ, List.replicate_succ, List.replicate_zero, Nat.reduceSub, Nat.reduceAdd, if_true, if_false, decide_true, decide_false, Bool.not_true, Bool.not_false, Bool.false_eq_true, String.reduceEq, reduceIte, List.length_cons, List.length_nil, Nat.reduceLeDiff, lim, b_draw_from, Gn.data, e]
def D_draw (d : Fn) : Fn := runF 2 2 (b_draw d)
theorem m_draw {d : Fn} {row : List Int} {g : Gn} (h : Follows d row g) : D_draw d [g.data, rowD row] = some (outG g row 0).data := by
  have e := h 0
  unfold D_draw
  generalize (outG g row 0).data = r at e ⊢
  have e : d [g.data, rowD row, .int 0] = some r := e
  simp only [fSeq, fIfS, fRet, fAsg, fOwn, fApp, fExt, fBrk, fCnt, fDrop, fFrz, frz, fNext, fFor, fB, fAnd, fOr, fNot, fAndV, fOrV, fNotV, fIf, fChain, fOp, fUn, fVar, fC, fTup, fLst, fV, fCons, fNil, fCall, fCallL, fLenV, fSl, fPart, fNoPart, fStar, fAug, gS, gT, gN, gC, fSeqI, run_1, run_2, run_3, run_4, ix0, ix1, ix2, ix3, then_nx, then_rt, then_bk, then_ct, turn_nx, turn_ct, turn_bk, turn_rt, res_rt, asB_b, gIx_t, gIx_l, gAdd_i, gSub_i, gLt_i, gLe_i, gGt_i, gGe_i, eq_i, eq_s, ne_i, ne_s, gLen_t, gLen_l, gTup_l, gTup_t, strEq, Option.bind_some, List.getElem?_cons_zero, List.getElem?_cons_succ, List.set_cons_zero, List.set_cons_succ, List.replicate_succ, List.replicate_zero, Nat.reduceSub, Nat.reduceAdd, if_true, if_false, decide_true, decide_false, Bool.not_true, Bool.not_false, Bool.false_eq_true, String.reduceEq, reduceIte, List.length_cons, List.length_nil, Nat.reduceLeDiff, lim, b_draw, e]
end Fb
namespace Fb
open PySem PySem.Spec PyProof.Rows L2 Evl CrT Cr Sm
def b__law_all (f__law_all : Fn) (f__law_holds : Fn) (f__law_turn : Fn) (f__law_beside : Fn) : FS :=
      (fSeq (fAsg (fOp gIx (fVar 0) (fC (.int 0))) (gS 1))
      (fSeq (fIfS (fB (fOp gEq (fVar 1) (fC (.str "int")))) (fRet (fV (fComp (fRng1 (fCons (fOp gAdd (fOp gSub (fOp gIx (fVar 0) (fC (.int 2))) (fOp gIx (fVar 0) (fC (.int 1)))) (fC (.int 1))) fNil)) (gS 3) (fun _ => some true) (fTup (fCons (fOp gAdd (fOp gIx (fVar 0) (fC (.int 1))) (fVar 3)) (fCons (fTup (fCons (fVar 3) fNil)) fNil))) [3]))) fNext)
      (fSeq (fIfS (fB (fOp gEq (fVar 1) (fC (.str "pick")))) (fRet (fV (fComp (fRng1 (fCons (fCall gLen (fCons (fOp gIx (fVar 0) (fC (.int 1))) fNil)) fNil)) (gS 3) (fun _ => some true) (fTup (fCons (fOp gIx (fOp gIx (fVar 0) (fC (.int 1))) (fVar 3)) (fCons (fTup (fCons (fVar 3) fNil)) fNil))) [3]))) fNext)
      (fSeq (fIfS (fB (fOp gEq (fVar 1) (fC (.str "one")))) (fSeq (fAsg (fV (fLst fNil)) (gS 2))
        (fSeq (fFor (fRng1 (fCons (fCall gLen (fCons (fOp gIx (fVar 0) (fC (.int 1))) fNil)) fNil)) (gS 3) (fAsg (fOp gAdd (fVar 2) (fV (fComp (fSeqI (fCall f__law_all (fCons (fOp gIx (fOp gIx (fVar 0) (fC (.int 1))) (fVar 3)) fNil))) (gT 2 (gC (gS 10) (gC (gS 7) gN))) (fun _ => some true) (fTup (fCons (fVar 10) (fCons (fOp gAdd (fTup (fCons (fVar 3) fNil)) (fVar 7)) fNil))) [10, 7]))) (gS 2)))
        (fRet (fVar 2)))) fNext)
      (fSeq (fIfS (fB (fOp gEq (fVar 1) (fC (.str "kept")))) (fRet (fV (fComp (fSeqI (fCall f__law_all (fCons (fOp gIx (fVar 0) (fC (.int 1))) fNil))) (gT 2 (gC (gS 10) (gC (gS 7) gN))) (fB (fCall f__law_holds (fCons (fOp gIx (fVar 0) (fC (.int 2))) (fCons (fVar 10) fNil)))) (fTup (fCons (fVar 10) (fCons (fVar 7) fNil))) [10, 7]))) fNext)
      (fSeq (fIfS (fB (fOp gEq (fVar 1) (fC (.str "turned")))) (fRet (fV (fComp (fSeqI (fCall f__law_all (fCons (fOp gIx (fVar 0) (fC (.int 1))) fNil))) (gT 2 (gC (gS 10) (gC (gS 7) gN))) (fun _ => some true) (fTup (fCons (fCall f__law_turn (fCons (fOp gIx (fVar 0) (fC (.int 2))) (fCons (fVar 10) fNil))) (fCons (fVar 7) fNil))) [10, 7]))) fNext)
      (fSeq (fIfS (fB (fOp gEq (fVar 1) (fC (.str "tuple")))) (fSeq (fAsg (fV (fLst (fCons (fTup (fCons (fTup fNil) (fCons (fTup fNil) fNil))) fNil))) (gS 2))
        (fSeq (fFor (fSeqI (fOp gIx (fVar 0) (fC (.int 1)))) (gS 4) (fAsg (fCall f__law_beside (fCons (fVar 2) (fCons (fCall f__law_all (fCons (fVar 4) fNil)) (fCons (fTup fNil) fNil)))) (gS 2)))
        (fRet (fVar 2)))) fNext)
      (fSeq (fIfS (fB (fOp gEq (fVar 1) (fC (.str "repeat")))) (fSeq (fAsg (fV (fLst fNil)) (gS 2))
        (fSeq (fAsg (fCall f__law_all (fCons (fOp gIx (fVar 0) (fC (.int 2))) fNil)) (gS 5))
        (fSeq (fFor (fSeqI (fCall f__law_all (fCons (fOp gIx (fVar 0) (fC (.int 1))) fNil))) (gT 2 (gC (gS 6) (gC (gS 7) gN))) (fIfS (fB (fChain gLe gLe (fC (.int 0)) (fVar 6) (fC (.int 6)))) (fSeq (fAsg (fV (fLst (fCons (fTup (fCons (fTup fNil) (fCons (fVar 7) fNil))) fNil))) (gS 8))
            (fSeq (fFor (fRng1 (fCons (fVar 6) fNil)) (gS 9) (fAsg (fCall f__law_beside (fCons (fVar 8) (fCons (fVar 5) (fCons (fTup fNil) fNil)))) (gS 8)))
            (fAsg (fOp gAdd (fVar 2) (fVar 8)) (gS 2)))) fNext))
        (fRet (fVar 2))))) fNext)
      (fSeq (fAsg (fCall f__law_all (fCons (fOp gIx (fVar 0) (fC (.int 1))) fNil)) (gS 5))
      (fSeq (fAsg (fV (fLst (fCons (fTup (fCons (fTup fNil) (fCons (fTup fNil) fNil))) fNil))) (gS 8))
      (fSeq (fAsg (fV (fLst fNil)) (gS 2))
      (fSeq (fFor (fRng1 (fCons (fOp gIx (fVar 0) (fC (.int 3))) fNil)) (gS 6) (fIfS (fB (fOp gLt (fVar 6) (fOp gIx (fVar 0) (fC (.int 2))))) (fAsg (fCall f__law_beside (fCons (fVar 8) (fCons (fVar 5) (fCons (fTup fNil) fNil)))) (gS 8)) (fSeq (fAsg (fOp gAdd (fVar 2) (fV (fComp (fSeqI (fVar 8)) (gT 2 (gC (gS 10) (gC (gS 7) gN))) (fun _ => some true) (fTup (fCons (fVar 10) (fCons (fOp gAdd (fVar 7) (fTup (fCons (fC (.int 0)) fNil))) fNil))) [10, 7]))) (gS 2))
          (fAsg (fCall f__law_beside (fCons (fVar 8) (fCons (fVar 5) (fCons (fTup (fCons (fC (.int 1)) fNil)) fNil)))) (gS 8)))))
      (fRet (fOp gAdd (fVar 2) (fVar 8)))))))))))))))
def b__law_beside : FS :=
      (fSeq (fAsg (fV (fLst fNil)) (gS 3))
      (fSeq (fFor (fSeqI (fVar 0)) (gT 2 (gC (gS 4) (gC (gS 5) gN))) (fAsg (fOp gAdd (fVar 3) (fV (fComp (fSeqI (fVar 1)) (gT 2 (gC (gS 6) (gC (gS 7) gN))) (fun _ => some true) (fTup (fCons (fOp gAdd (fVar 4) (fTup (fCons (fVar 6) fNil))) (fCons (fOp gAdd (fOp gAdd (fVar 5) (fVar 2)) (fVar 7)) fNil))) [6, 7]))) (gS 3)))
      (fRet (fVar 3))))
end Fb
namespace Fb
open PySem PySem.Spec PyProof.Rows L2 Evl CrT Cr Sm
/-! ### how many rows -/
theorem beside_len (rows : List TR) (parts : List VR) (ahead : List Int) : (besideG rows parts ahead).length = rows.length * parts.length := by
  unfold besideG
  induction rows with
  | nil => simp
  | cons r rows ih => rw [List.flatMap_cons, List.length_append, ih, List.length_map, List.length_cons, Nat.succ_mul, Nat.add_comm]
theorem cnt_pos {g : Gn} {k : Kd} (h : GenK g k) : 0 < cntG g := by
  induction h with
  | int h1 h2 h3 => rw [cntG]; omega
  | pick h0 => rw [cntG]; exact h0
  | @tuple gs ks h4 hl _ ih =>
    rw [cntG]
    have : ∀ (l : List Gn), (∀ g ∈ l, 0 < cntG g) → 0 < cntMul l := by
      intro l
      induction l with
      | nil => intro _; rw [cntMul]; decide
      | cons g l ihl => intro h; rw [cntMul]; exact Nat.mul_pos (h g List.mem_cons_self) (ihl fun x hx => h x (List.mem_cons_of_mem _ hx))
    refine this gs fun g hg => ?_
    obtain ⟨i, hi⟩ := List.mem_iff_getElem?.mp hg
    have hlt := (List.getElem?_eq_some_iff.mp hi).1
    exact ih i g _ hi (List.getElem?_eq_getElem (by omega))
  | @list g k a b hg h0 hab hb ih =>
    rw [cntG]
    obtain ⟨m, hm⟩ : ∃ m, b.toNat + 1 - a.toNat = m + 1 := ⟨b.toNat - a.toNat, by omega⟩
    rw [hm, powSum]
    exact Nat.lt_of_lt_of_le (Nat.pow_pos ih) (Nat.le_add_right _ _)
  | @one gs k h0 _ _ ih =>
    rw [cntG]
    match gs, h0 with
    | g :: gs, _ => rw [cntAdd]; exact Nat.lt_of_lt_of_le (ih g List.mem_cons_self) (Nat.le_add_right _ _)
  | kept _ _ ih => rw [cntG]; exact ih
  | turned _ _ ih => rw [cntG]; exact ih
  | @repeat_ g h k hg hh ih1 ih2 =>
    cases hg with
    | @int lo hi h1 h2 h3 =>
      rw [cntG]
      obtain ⟨m, hm⟩ : ∃ m, hi.toNat + 1 - lo.toNat = m + 1 := ⟨hi.toNat - lo.toNat, by omega⟩
      rw [hm, powSum]
      exact Nat.lt_of_lt_of_le (Nat.pow_pos ih2) (Nat.le_add_right _ _)
    | kept | turned | one => 
      rw [cntG]
      · exact Nat.mul_pos ih1 (Nat.pow_pos (by omega))
      · intro _ _ e; cases e
theorem pow_le_sum {c : Nat} (hc : 0 < c) : ∀ (n a m : Nat), a ≤ m → m < a + n → c ^ m ≤ powSum c a n
  | 0, a, m, h1, h2 => by omega
  | n + 1, a, m, h1, h2 => by
    rw [powSum]
    by_cases h : m = a
    · subst h; exact Nat.le_add_right _ _
    · exact Nat.le_trans (pow_le_sum hc n (a + 1) m (by omega) (by omega)) (Nat.le_add_left _ _)
theorem pow_sum_le {c : Nat} (hc : 0 < c) (n a m : Nat) (hm : m ≤ a + n) : m ≤ a → c ^ m ≤ c ^ a := fun h => Nat.pow_le_pow_right hc h
/-! ### the law's rows as data -/
def prD (p : VR) : PyData := .tuple [p.1, rowD p.2]
def trD (r : TR) : PyData := prD (tupR r)
def D_beside : Fn := runF 8 3 b__law_beside
theorem beside_loop {parts : List VR} {ahead : List Int} {R : Sl} (ha : ahead.length ≤ 1) (hp : ∀ p ∈ parts, p.2.length ≤ 1000000) (hpl : parts.length ≤ 10000000) : ∀ (rows done : List TR) (z4 z5 : Sl), (∀ r ∈ rows, r.1.length ≤ 1000000 ∧ r.2.length ≤ 1000000) → done.length + rows.length * parts.length ≤ 10000000 →
    resF (fThen (fLoop (gT 2 (gC (gS 4) (gC (gS 5) gN))) (fAsg (fOp gAdd (fVar 3) (fV (fComp (fSeqI (fVar 1)) (gT 2 (gC (gS 6) (gC (gS 7) gN))) (fun _ => some true) (fTup (fCons (fOp gAdd (fVar 4) (fTup (fCons (fVar 6) fNil))) (fCons (fOp gAdd (fOp gAdd (fVar 5) (fVar 2)) (fVar 7)) fNil))) [6, 7]))) (gS 3)) (rows.map trD) [R, .val (.list (parts.map prD)), .val (rowD ahead), .val (.list (done.map trD)), z4, z5, .un, .un]) (fRet (fVar 3))) = some (.list ((done ++ besideG rows parts ahead).map trD))
  | [], done, z4, z5, _, _ => by
    simp only [fSeq, fIfS, fRet, fAsg, fOwn, fApp, fExt, fBrk, fCnt, fDrop, fFrz, frz, fNext, fFor, fB, fAnd, fOr, fNot, fAndV, fOrV, fNotV, fIf, fChain, fOp, fUn, fVar, fC, fTup, fLst, fV, fCons, fNil, fCall, fCallL, fLenV, fSl, fPart, fNoPart, fStar, fAug, gS, gT, gN, gC, fSeqI, run_1, run_2, run_3, run_4, ix0, ix1, ix2, ix3, then_nx, then_rt, then_bk, then_ct, turn_nx, turn_ct, turn_bk, turn_rt, res_rt, asB_b, gIx_t, gIx_l, gAdd_i, gSub_i, gLt_i, gLe_i, gGt_i, gGe_i, eq_i, eq_s, ne_i, ne_s, gLen_t, gLen_l, gTup_l, gTup_t, strEq, Option.bind_some, List.getElem?_cons_zero, List.getElem?_cons_succ, List.set_cons_zero, List.set_cons_succ, List.replicate_succ, List.replicate_zero, Nat.reduceSub, Nat.reduceAdd, if_true, if_false, decide_true, decide_false, Bool.not_true, Bool.not_false, Bool.false_eq_true, String.reduceEq, reduceIte, List.length_cons, List.length_nil, Nat.reduceLeDiff, lim, List.map_nil, loop_n, besideG, List.flatMap_nil, List.append_nil]
  | r :: rows, done, z4, z5, h, hl => by
    obtain ⟨hr1, hr2⟩ := h r List.mem_cons_self
    rw [List.length_cons, Nat.succ_mul] at hl
    have ih := beside_loop (R := R) (ahead := ahead) ha hp hpl rows (done ++ parts.map fun p => (r.1 ++ [p.1], r.2 ++ ahead ++ p.2)) (.val (.tuple r.1)) (.val (rowD r.2)) (fun x hx => h x (List.mem_cons_of_mem _ hx)) (by rw [List.length_append, List.length_map]; omega)
    have hc : fComp (fSeqI (fVar 1)) (gT 2 (gC (gS 6) (gC (gS 7) gN))) (fun _ => some true) (fTup (fCons (fOp gAdd (fVar 4) (fTup (fCons (fVar 6) fNil))) (fCons (fOp gAdd (fOp gAdd (fVar 5) (fVar 2)) (fVar 7)) fNil))) [6, 7] [R, .val (.list (parts.map prD)), .val (rowD ahead), .val (.list (done.map trD)), .val (.tuple r.1), .val (rowD r.2), .un, .un] = some (parts.map fun p => trD (r.1 ++ [p.1], r.2 ++ ahead ++ p.2)) := by
      refine fComp_map (l := parts) (f := prD) (by simp only [fSeq, fIfS, fRet, fAsg, fOwn, fApp, fExt, fBrk, fCnt, fDrop, fFrz, frz, fNext, fFor, fB, fAnd, fOr, fNot, fAndV, fOrV, fNotV, fIf, fChain, fOp, fUn, fVar, fC, fTup, fLst, fV, fCons, fNil, fCall, fCallL, fLenV, fSl, fPart, fNoPart, fStar, fAug, gS, gT, gN, gC, fSeqI, run_1, run_2, run_3, run_4, ix0, ix1, ix2, ix3, then_nx, then_rt, then_bk, then_ct, turn_nx, turn_ct, turn_bk, turn_rt, res_rt, asB_b, gIx_t, gIx_l, gAdd_i, gSub_i, gLt_i, gLe_i, gGt_i, gGe_i, eq_i, eq_s, ne_i, ne_s, gLen_t, gLen_l, gTup_l, gTup_t, strEq, Option.bind_some, List.getElem?_cons_zero, List.getElem?_cons_succ, List.set_cons_zero, List.set_cons_succ, List.replicate_succ, List.replicate_zero, Nat.reduceSub, Nat.reduceAdd, if_true, if_false, decide_true, decide_false, Bool.not_true, Bool.not_false, Bool.false_eq_true, String.reduceEq, reduceIte, List.length_cons, List.length_nil, Nat.reduceLeDiff, lim]) hpl fun p hpm => ?_
      have h1 := hp p hpm
      have e1 : r.1.length + 1 ≤ 10000000 := by omega
      have e2 : r.2.length + ahead.length ≤ 10000000 := by omega
      have e3 : r.2.length + ahead.length + p.2.length ≤ 10000000 := by omega
      simp only [fSeq, fIfS, fRet, fAsg, fOwn, fApp, fExt, fBrk, fCnt, fDrop, fFrz, frz, fNext, fFor, fB, fAnd, fOr, fNot, fAndV, fOrV, fNotV, fIf, fChain, fOp, fUn, fVar, fC, fTup, fLst, fV, fCons, fNil, fCall, fCallL, fLenV, fSl, fPart, fNoPart, fStar, fAug, gS, gT, gN, gC, fSeqI, run_1, run_2, run_3, run_4, ix0, ix1, ix2, ix3, then_nx, then_rt, then_bk, then_ct, turn_nx, turn_ct, turn_bk, turn_rt, res_rt, asB_b, gIx_t, gIx_l, gAdd_i, gSub_i, gLt_i, gLe_i, gGt_i, gGe_i, eq_i, eq_s, ne_i, ne_s, gLen_t, gLen_l, gTup_l, gTup_t, strEq, Option.bind_some, List.getElem?_cons_zero, List.getElem?_cons_succ, List.set_cons_zero, List.set_cons_succ, List.replicate_succ, List.replicate_zero, Nat.reduceSub, Nat.reduceAdd, if_true, if_false, decide_true, decide_false, Bool.not_true, Bool.not_false, Bool.false_eq_true, String.reduceEq, reduceIte, List.length_cons, List.length_nil, Nat.reduceLeDiff, lim, cStep, Sm.wpS, prD, rowD, trD, tupR, gAdd_t, e1, e2, e3, List.length_map, List.length_append, List.map_append]
    have hz : done.length + parts.length ≤ 10000000 := by omega
    rw [besideG, List.flatMap_cons, ← List.append_assoc]
    rw [besideG] at ih
    rw [← ih]
    rw [List.map_cons, loop_c]
    simp only [fSeq, fIfS, fRet, fAsg, fOwn, fApp, fExt, fBrk, fCnt, fDrop, fFrz, frz, fNext, fFor, fB, fAnd, fOr, fNot, fAndV, fOrV, fNotV, fIf, fChain, fOp, fUn, fVar, fC, fTup, fLst, fV, fCons, fNil, fCall, fCallL, fLenV, fSl, fPart, fNoPart, fStar, fAug, gS, gT, gN, gC, fSeqI, run_1, run_2, run_3, run_4, ix0, ix1, ix2, ix3, then_nx, then_rt, then_bk, then_ct, turn_nx, turn_ct, turn_bk, turn_rt, res_rt, asB_b, gIx_t, gIx_l, gAdd_i, gSub_i, gLt_i, gLe_i, gGt_i, gGe_i, eq_i, eq_s, ne_i, ne_s, gLen_t, gLen_l, gTup_l, gTup_t, strEq, Option.bind_some, List.getElem?_cons_zero, List.getElem?_cons_succ, List.set_cons_zero, List.set_cons_succ, List.replicate_succ, List.replicate_zero, Nat.reduceSub, Nat.reduceAdd, if_true, if_false, decide_true, decide_false, Bool.not_true, Bool.not_false, Bool.false_eq_true, String.reduceEq, reduceIte, List.length_cons, List.length_nil, Nat.reduceLeDiff, lim, trD, tupR, prD] at hc ⊢
    simp only [hc, fSeq, fIfS, fRet, fAsg, fOwn, fApp, fExt, fBrk, fCnt, fDrop, fFrz, frz, fNext, fFor, fB, fAnd, fOr, fNot, fAndV, fOrV, fNotV, fIf, fChain, fOp, fUn, fVar, fC, fTup, fLst, fV, fCons, fNil, fCall, fCallL, fLenV, fSl, fPart, fNoPart, fStar, fAug, gS, gT, gN, gC, fSeqI, run_1, run_2, run_3, run_4, ix0, ix1, ix2, ix3, then_nx, then_rt, then_bk, then_ct, turn_nx, turn_ct, turn_bk, turn_rt, res_rt, asB_b, gIx_t, gIx_l, gAdd_i, gSub_i, gLt_i, gLe_i, gGt_i, gGe_i, eq_i, eq_s, ne_i, ne_s, gLen_t, gLen_l, gTup_l, gTup_t, strEq, Option.bind_some, List.getElem?_cons_zero, List.getElem?_cons_succ, List.set_cons_zero, List.set_cons_succ, List.replicate_succ, List.replicate_zero, Nat.reduceSub, Nat.reduceAdd, if_true, if_false, decide_true, decide_false, Bool.not_true, Bool.not_false, Bool.false_eq_true, String.reduceEq, reduceIte, List.length_cons, List.length_nil, Nat.reduceLeDiff, lim, gAdd_l, hz, List.length_map, List.map_append, List.map_map, Function.comp_def]
    rfl
theorem m_beside {rows : List TR} {parts : List VR} {ahead : List Int} (ha : ahead.length ≤ 1) (hp : ∀ p ∈ parts, p.2.length ≤ 1000000) (hpl : parts.length ≤ 10000000) (h : ∀ r ∈ rows, r.1.length ≤ 1000000 ∧ r.2.length ≤ 1000000) (hl : rows.length * parts.length ≤ 10000000) :
    D_beside [.list (rows.map trD), .list (parts.map prD), rowD ahead] = some (.list ((besideG rows parts ahead).map trD)) := by
  have e := beside_loop (R := .val (.list (rows.map trD))) ha hp hpl rows [] .un .un h (by simpa using hl)
  rw [List.nil_append] at e
  unfold D_beside
  rw [← e]
  simp only [fSeq, fIfS, fRet, fAsg, fOwn, fApp, fExt, fBrk, fCnt, fDrop, fFrz, frz, fNext, fFor, fB, fAnd, fOr, fNot, fAndV, fOrV, fNotV, fIf, fChain, fOp, fUn, fVar, fC, fTup, fLst, fV, fCons, fNil, fCall, fCallL, fLenV, fSl, fPart, fNoPart, fStar, fAug, gS, gT, gN, gC, fSeqI, run_1, run_2, run_3, run_4, ix0, ix1, ix2, ix3, then_nx, then_rt, then_bk, then_ct, turn_nx, turn_ct, turn_bk, turn_rt, res_rt, asB_b, gIx_t, gIx_l, gAdd_i, gSub_i, gLt_i, gLe_i, gGt_i, gGe_i, eq_i, eq_s, ne_i, ne_s, gLen_t, gLen_l, gTup_l, gTup_t, strEq, Option.bind_some, List.getElem?_cons_zero, List.getElem?_cons_succ, List.set_cons_zero, List.set_cons_succ, List.replicate_succ, List.replicate_zero, Nat.reduceSub, Nat.reduceAdd, if_true, if_false, decide_true, decide_false, Bool.not_true, Bool.not_false, Bool.false_eq_true, String.reduceEq, reduceIte, List.length_cons, List.length_nil, Nat.reduceLeDiff, lim, b__law_beside, List.map_nil]
/-! ### bounds of rows -/
def Lens (a b : Nat) (rows : List TR) : Prop := ∀ r ∈ rows, r.1.length ≤ a ∧ r.2.length ≤ b
theorem beside_lens {a b L : Nat} {rows : List TR} {parts : List VR} {ahead : List Int} (h : Lens a b rows) (hp : ∀ p ∈ parts, p.2.length ≤ L) : Lens (a + 1) (b + ahead.length + L) (besideG rows parts ahead) := fun r hr => by
  obtain ⟨r0, h0, p, hpm, rfl⟩ := mem_beside hr
  obtain ⟨h1, h2⟩ := h r0 h0
  have h3 := hp p hpm
  refine ⟨?_, ?_⟩
  · simp only [List.length_append, List.length_cons, List.length_nil]; omega
  · simp only [List.length_append]; omega
theorem times_lens {L : Nat} {parts : List VR} {ahead : List Int} (hp : ∀ p ∈ parts, p.2.length ≤ L) : ∀ (n a b : Nat) (acc : List TR), Lens a b acc → Lens (a + n) (b + n * (ahead.length + L)) (timesR parts ahead n acc)
  | 0, a, b, acc, h => by simpa [timesR] using h
  | n + 1, a, b, acc, h => by
    have ih := times_lens (ahead := ahead) hp n _ _ _ (beside_lens (ahead := ahead) h hp)
    rw [timesR]
    refine fun r hr => ?_
    obtain ⟨h1, h2⟩ := ih r hr
    rw [Nat.succ_mul]
    exact ⟨by omega, by omega⟩
theorem times_count {parts : List VR} {ahead : List Int} : ∀ (n : Nat) (acc : List TR), (timesR parts ahead n acc).length = acc.length * parts.length ^ n
  | 0, acc => by rw [timesR, Nat.pow_zero, Nat.mul_one]
  | n + 1, acc => by rw [timesR, times_count n, beside_len, Nat.pow_succ, Nat.mul_assoc, Nat.mul_comm parts.length]
theorem tup_lens {L : Nat} : ∀ (gs : List Gn) (a b : Nat) (acc : List TR), (∀ g ∈ gs, ∀ p ∈ rowsOf g, p.2.length ≤ L) → Lens a b acc → Lens (a + gs.length) (b + gs.length * L) (rowsTup gs acc)
  | [], a, b, acc, _, h => by simpa [rowsTup] using h
  | g :: gs, a, b, acc, hg, h => by
    have ih := tup_lens gs _ _ _ (fun g' h' => hg g' (List.mem_cons_of_mem _ h')) (beside_lens (ahead := []) h (hg g List.mem_cons_self))
    rw [rowsTup]
    refine fun r hr => ?_
    obtain ⟨h1, h2⟩ := ih r hr
    rw [List.length_nil] at h2
    rw [List.length_cons, Nat.succ_mul]
    exact ⟨by omega, by omega⟩
theorem step_lens {L : Nat} {parts : List VR} {a : Int} (hp : ∀ p ∈ parts, p.2.length ≤ L) : ∀ (l : List Nat) (m B : Nat) (s : List TR × List VR), Lens m (m * (L + 1)) s.1 → (∀ p ∈ s.2, p.2.length ≤ B) → (m + l.length) * (L + 1) + 1 ≤ B → Lens (m + l.length) ((m + l.length) * (L + 1)) (l.foldl (listStep parts a) s).1 ∧ ∀ p ∈ (l.foldl (listStep parts a) s).2, p.2.length ≤ B
  | [], m, B, s, h1, h2, _ => ⟨h1, h2⟩
  | x :: l, m, B, s, h1, h2, hB => by
    rw [List.foldl_cons]
    have e : m + (x :: l).length = (m + 1) + l.length := by rw [List.length_cons]; omega
    rw [e] at hB ⊢
    have hm : (m + 1) * (L + 1) = m * (L + 1) + (L + 1) := Nat.succ_mul _ _
    have hmono : (m + 1) * (L + 1) ≤ (m + 1 + l.length) * (L + 1) := Nat.mul_le_mul_right _ (by omega)
    refine step_lens hp l (m + 1) B _ ?_ ?_ hB
    · unfold listStep
      split
      · exact fun r hr => by
          obtain ⟨q1, q2⟩ := beside_lens (ahead := []) h1 hp r hr
          rw [List.length_nil] at q2
          exact ⟨q1, by omega⟩
      · exact fun r hr => by
          obtain ⟨q1, q2⟩ := beside_lens (ahead := [1]) h1 hp r hr
          rw [List.length_cons, List.length_nil] at q2
          exact ⟨q1, by omega⟩
    · unfold listStep
      split
      · exact h2
      · intro p hpm
        rcases List.mem_append.mp hpm with h | h
        · exact h2 p h
        · obtain ⟨r, hr, rfl⟩ := List.mem_map.mp h
          have := (h1 r hr).2
          show (r.2 ++ [0]).length ≤ B
          rw [List.length_append, List.length_cons, List.length_nil]
          omega
theorem one_lens {L : Nat} : ∀ (gs : List Gn) (c : Nat), (∀ g ∈ gs, ∀ p ∈ rowsOf g, p.2.length ≤ L) → ∀ p ∈ rowsOne gs c, p.2.length ≤ L + 1
  | [], _, _, p, h => by rw [rowsOne] at h; cases h
  | g :: gs, c, hg, p, h => by
    rw [rowsOne] at h
    rcases List.mem_append.mp h with h | h
    · obtain ⟨q, hq, rfl⟩ := List.mem_map.mp h
      have := hg g List.mem_cons_self q hq
      show ((c : Int) :: q.2).length ≤ L + 1
      rw [List.length_cons]
      omega
    · exact one_lens gs (c + 1) (fun g' h' => hg g' (List.mem_cons_of_mem _ h')) p h
theorem seven_pos (n : Nat) : 1 ≤ 7 ^ n := Nat.pow_pos (by decide)
theorem rows_len {g : Gn} {kd : Kd} (h : GenK g kd) : ∀ k n, OkGk k n g → ∀ p ∈ rowsOf g, p.2.length + 1 ≤ 2 * 7 ^ n := by
  induction h with
  | int =>
    intro k n ho p hp
    rw [rowsOf] at hp
    obtain ⟨c, _, rfl⟩ := List.mem_map.mp hp
    have := seven_pos n
    show 1 + 1 ≤ _
    omega
  | pick =>
    intro k n ho p hp
    rw [rowsOf] at hp
    obtain ⟨c, _, rfl⟩ := List.mem_map.mp hp
    have := seven_pos n
    show 1 + 1 ≤ _
    omega
  | @tuple gs ks h4 hl _ ih =>
    intro k n ho p hp
    rw [rowsOf] at hp
    obtain ⟨r, hr, rfl⟩ := List.mem_map.mp hp
    cases ho with
    | @tuple n' _ h1 h2 =>
      have h := tup_lens (L := 2 * 7 ^ n' - 1) gs 0 0 [([], [])] (fun g hg p hp => by
        obtain ⟨i, hi⟩ := List.mem_iff_getElem?.mp hg
        have hlt := (List.getElem?_eq_some_iff.mp hi).1
        have := ih i g _ hi (List.getElem?_eq_getElem (by omega)) k _ (h2 g hg) p hp
        omega) (fun r hr => by cases List.mem_singleton.mp hr; exact ⟨Nat.le_refl _, Nat.le_refl _⟩) r hr
      have hq : gs.length * (2 * 7 ^ n' - 1) ≤ 4 * (2 * 7 ^ n' - 1) := Nat.mul_le_mul_right _ h4
      have := seven_pos n'
      show r.2.length + 1 ≤ _
      rw [Nat.pow_succ]
      omega
  | @list g k' a b _ h0 hab hb ih =>
    intro k n ho p hp
    cases ho with
    | @list n' _ _ _ ho =>
      have hL : ∀ p ∈ rowsOf g, p.2.length ≤ 2 * 7 ^ n' - 1 := fun p hp => by have := ih k _ ho p hp; omega
      have s7 := seven_pos n'
      have st := step_lens (a := a) hL (List.range b.toNat) 0 (b.toNat * (2 * 7 ^ n' - 1 + 1) + 1) ([([], [])], []) (fun r hr => by cases List.mem_singleton.mp hr; exact ⟨Nat.le_refl _, Nat.zero_le _⟩) (fun _ h => nomatch h) (by rw [List.length_range, Nat.zero_add]; exact Nat.le_refl _)
      have hq : b.toNat * (2 * 7 ^ n' - 1 + 1) ≤ 6 * (2 * 7 ^ n' - 1 + 1) := Nat.mul_le_mul_right _ (by omega)
      rw [rowsOf, listRows] at hp
      rw [Nat.pow_succ]
      rcases List.mem_append.mp hp with h | h
      · have := st.2 p h
        omega
      · obtain ⟨r, hr, rfl⟩ := List.mem_map.mp h
        have := (st.1 r hr).2
        rw [List.length_range, Nat.zero_add] at this
        show r.2.length + 1 ≤ _
        omega
  | @one gs k' _ _ _ ih =>
    intro k n ho p hp
    cases ho with
    | @one n' _ h1 h2 =>
      rw [rowsOf] at hp
      have := one_lens (L := 2 * 7 ^ n' - 1) gs 0 (fun g hg p hp => by have := ih g hg k _ (h2 g hg) p hp; omega) p hp
      have := seven_pos n'
      rw [Nat.pow_succ]
      omega
  | @kept g k' c _ _ ih =>
    intro k n ho p hp
    cases ho with
    | @kept n' _ _ ho _ =>
      rw [rowsOf] at hp
      have := ih k _ ho p (List.mem_filter.mp hp).1
      rw [Nat.pow_succ]
      omega
  | @turned g k' k2 m _ _ ih =>
    intro k n ho p hp
    cases ho with
    | @turned n' _ _ ho =>
      rw [rowsOf] at hp
      obtain ⟨q, hq, rfl⟩ := List.mem_map.mp hp
      have := ih k _ ho q hq
      show q.2.length + 1 ≤ _
      rw [Nat.pow_succ]
      omega
  | @repeat_ g h k' _ _ ih1 ih2 =>
    intro k n ho p hp
    cases ho with
    | @repeat_ n' _ _ ho1 ho2 =>
      rw [rowsOf] at hp
      obtain ⟨q, hq, hp⟩ := List.mem_flatMap.mp hp
      have hg := ih1 k _ ho1 q hq
      have hL : ∀ p ∈ rowsOf h, p.2.length ≤ 2 * 7 ^ n' - 1 := fun p hp => by have := ih2 k _ ho2 p hp; omega
      unfold repeatRows at hp
      split at hp
      · rename_i m _
        split at hp
        · rename_i hc
          have hm := of_decide_eq_true (Bool.and_eq_true_iff.mp hc).2
          obtain ⟨r, hr, rfl⟩ := List.mem_map.mp hp
          have hb := (times_lens (ahead := []) hL m.toNat 0 q.2.length [([], q.2)] (fun r hr => by cases List.mem_singleton.mp hr; exact ⟨Nat.le_refl _, Nat.le_refl _⟩) r hr).2
          rw [List.length_nil, Nat.zero_add] at hb
          have hq2 : m.toNat * (2 * 7 ^ n' - 1) ≤ 6 * (2 * 7 ^ n' - 1) := Nat.mul_le_mul_right _ (by omega)
          have := seven_pos n'
          show r.2.length + 1 ≤ _
          rw [Nat.pow_succ]
          omega
        · cases hp
      · cases hp
end Fb
namespace Fb
open PySem PySem.Spec PyProof.Rows L2 Evl CrT Cr Sm
/-! ### never more rows than counted -/
theorem powSum_snoc (c : Nat) : ∀ (n a : Nat), powSum c a (n + 1) = powSum c a n + c ^ (a + n)
  | 0, a => by simp [powSum]
  | n + 1, a => by
    have e : a + 1 + n = a + (n + 1) := by omega
    rw [powSum, powSum_snoc c n (a + 1), powSum, e]
    exact (Nat.add_assoc _ _ _).symm
theorem powSum_mono {c c' : Nat} (h : c ≤ c') : ∀ (n a : Nat), powSum c a n ≤ powSum c' a n
  | 0, a => by rw [powSum, powSum]; exact Nat.le_refl _
  | n + 1, a => by rw [powSum, powSum]; exact Nat.add_le_add (Nat.pow_le_pow_left h a) (powSum_mono h n (a + 1))
theorem powSum_more (c : Nat) {n m : Nat} (h : n ≤ m) (a : Nat) : powSum c a n ≤ powSum c a m := by
  induction h with
  | refl => exact Nat.le_refl _
  | step _ ih => rw [powSum_snoc]; exact Nat.le_trans ih (Nat.le_add_right _ _)
theorem tup_count : ∀ (gs : List Gn) (acc : List TR), (∀ g ∈ gs, (rowsOf g).length ≤ cntG g) → (rowsTup gs acc).length ≤ acc.length * cntMul gs
  | [], acc, _ => by rw [rowsTup, cntMul, Nat.mul_one]; exact Nat.le_refl _
  | g :: gs, acc, h => by
    rw [rowsTup, cntMul]
    refine Nat.le_trans (tup_count gs _ fun g' h' => h g' (List.mem_cons_of_mem _ h')) ?_
    rw [beside_len, ← Nat.mul_assoc]
    exact Nat.mul_le_mul_right _ (Nat.mul_le_mul_left _ (h g List.mem_cons_self))
theorem one_count : ∀ (gs : List Gn) (c : Nat), (∀ g ∈ gs, (rowsOf g).length ≤ cntG g) → (rowsOne gs c).length ≤ cntAdd gs
  | [], _, _ => by rw [rowsOne]; exact Nat.zero_le _
  | g :: gs, c, h => by
    rw [rowsOne, cntAdd, List.length_append, List.length_map]
    exact Nat.add_le_add (h g List.mem_cons_self) (one_count gs (c + 1) fun g' h' => h g' (List.mem_cons_of_mem _ h'))
theorem step_count (parts : List VR) (a : Int) (h0 : 0 ≤ a) : ∀ m : Nat, (((List.range m).foldl (listStep parts a) ([([], [])], [])).1.length = parts.length ^ m) ∧ ((List.range m).foldl (listStep parts a) ([([], [])], [])).2.length = powSum parts.length a.toNat (m - a.toNat)
  | 0 => ⟨by simp, by simp [powSum]⟩
  | m + 1 => by
    obtain ⟨h1, h2⟩ := step_count parts a h0 m
    rw [List.range_succ, List.foldl_append, List.foldl_cons, List.foldl_nil]
    generalize (List.range m).foldl (listStep parts a) ([([], [])], []) = s at h1 h2 ⊢
    unfold listStep
    split
    · rename_i hlt
      refine ⟨by rw [beside_len, h1, Nat.pow_succ], ?_⟩
      have e1 : m - a.toNat = 0 := by omega
      have e2 : m + 1 - a.toNat = 0 := by omega
      rw [h2, e1, e2]
    · rename_i hlt
      refine ⟨by rw [beside_len, h1, Nat.pow_succ], ?_⟩
      have e1 : m + 1 - a.toNat = (m - a.toNat) + 1 := by omega
      have e2 : a.toNat + (m - a.toNat) = m := by omega
      rw [List.length_append, List.length_map, h2, h1, e1, powSum_snoc, e2]
theorem list_count {parts : List VR} {a b : Int} (h0 : 0 ≤ a) (hab : a ≤ b) : (listRows parts a b).length = powSum parts.length a.toNat (b.toNat + 1 - a.toNat) := by
  obtain ⟨h1, h2⟩ := step_count parts a h0 b.toNat
  unfold listRows
  have e1 : b.toNat + 1 - a.toNat = (b.toNat - a.toNat) + 1 := by omega
  have e2 : a.toNat + (b.toNat - a.toNat) = b.toNat := by omega
  rw [List.length_append, List.length_map, h1, h2, e1, powSum_snoc, e2]
theorem rep_count {parts : List VR} {m : Int} {row : List Int} : (repeatRows parts (.int m, row)).length ≤ if 0 ≤ m then parts.length ^ m.toNat else 0 := by
  unfold repeatRows
  show (if decide (0 ≤ m) && decide (m ≤ 6) then (timesR parts [] m.toNat [([], row)]).map tupR else []).length ≤ _
  split
  · rename_i hc
    have h2 := Bool.and_eq_true_iff.mp hc
    rw [if_pos (of_decide_eq_true h2.1), List.length_map, times_count]
    simp
  · exact Nat.zero_le _
theorem rep_any {parts : List VR} {p : VR} : (repeatRows parts p).length ≤ (1 + parts.length) ^ 6 := by
  unfold repeatRows
  split
  · split
    · rename_i hc
      have h2 := of_decide_eq_true (Bool.and_eq_true_iff.mp hc).2
      rw [List.length_map, times_count]
      simp only [List.length_cons, List.length_nil, Nat.zero_add, Nat.one_mul]
      exact Nat.le_trans (Nat.pow_le_pow_left (by omega) _) (Nat.pow_le_pow_right (by omega) (by omega))
    · exact Nat.zero_le _
  · exact Nat.zero_le _
theorem rep_ints {parts : List VR} {c : Nat} (hc : parts.length ≤ c) (lo : Int) : ∀ N : Nat, (((List.range N).map fun (x : Nat) => (PyData.int (lo + (x : Int)), [(x : Int)])).flatMap (repeatRows parts)).length ≤ powSum c lo.toNat ((lo + N).toNat - lo.toNat)
  | 0 => by simp
  | N + 1 => by
    have ih := rep_ints hc lo N
    rw [List.range_succ, List.map_append, List.flatMap_append, List.length_append]
    have hr : (repeatRows parts (PyData.int (lo + (N : Int)), [(N : Int)])).length ≤ if 0 ≤ lo + (N : Int) then parts.length ^ (lo + (N : Int)).toNat else 0 := rep_count
    simp only [List.map_cons, List.map_nil, List.flatMap_cons, List.flatMap_nil, List.append_nil]
    by_cases h : 0 ≤ lo + (N : Int)
    · rw [if_pos h] at hr
      have e1 : (lo + (N + 1 : Nat)).toNat - lo.toNat = ((lo + N).toNat - lo.toNat) + 1 := by omega
      have e2 : lo.toNat + ((lo + N).toNat - lo.toNat) = (lo + N).toNat := by omega
      rw [e1, powSum_snoc, e2]
      exact Nat.add_le_add ih (Nat.le_trans hr (Nat.pow_le_pow_left hc _))
    · rw [if_neg h] at hr
      have e1 : (lo + (N + 1 : Nat)).toNat - lo.toNat = (lo + N).toNat - lo.toNat := by omega
      rw [e1]
      omega
theorem flat_len {α β : Type} {f : α → List β} {B : Nat} : ∀ (l : List α), (∀ a ∈ l, (f a).length ≤ B) → (l.flatMap f).length ≤ l.length * B
  | [], _ => by simp
  | a :: l, h => by
    rw [List.flatMap_cons, List.length_append, List.length_cons, Nat.succ_mul]
    have h1 := h a List.mem_cons_self
    have h2 := flat_len l fun b hb => h b (List.mem_cons_of_mem _ hb)
    omega
theorem rows_cnt {g : Gn} {kd : Kd} (h : GenK g kd) : (rowsOf g).length ≤ cntG g := by
  induction h with
  | int => rw [rowsOf, cntG, List.length_map, List.length_range]; exact Nat.le_refl _
  | pick => rw [rowsOf, cntG, List.length_map, List.length_zipIdx]; exact Nat.le_refl _
  | @tuple gs ks h4 hl _ ih =>
    rw [rowsOf, cntG, List.length_map]
    have h := tup_count gs [([], [])] fun g hg => by
      obtain ⟨i, hi⟩ := List.mem_iff_getElem?.mp hg
      have hlt := (List.getElem?_eq_some_iff.mp hi).1
      exact ih i g _ hi (List.getElem?_eq_getElem (by omega))
    simpa using h
  | @list g k a b hg h0 hab hb ih =>
    rw [rowsOf, cntG, list_count h0 hab]
    exact powSum_mono ih _ _
  | one _ _ _ ih => rw [rowsOf, cntG]; exact one_count _ 0 ih
  | kept _ _ ih => rw [rowsOf, cntG]; exact Nat.le_trans (List.length_filter_le _ _) ih
  | turned _ _ ih => rw [rowsOf, cntG, List.length_map]; exact ih
  | @repeat_ g h k hg hh ih1 ih2 =>
    rw [rowsOf]
    cases hg with
    | @int lo hi h1 h2 h3 =>
      rw [cntG, rowsOf]
      have e := rep_ints ih2 lo (hi - lo + 1).toNat
      exact Nat.le_trans e (powSum_more _ (by omega) _)
    | kept | turned | one =>
      rw [cntG]
      · refine Nat.le_trans (flat_len _ fun p _ => rep_any) ?_
        exact Nat.mul_le_mul ih1 (Nat.pow_le_pow_left (by omega) _)
      · intro _ _ e; cases e
/-! ### the values are not deep -/
def Deep (d : Nat) (rows : List TR) : Prop := ∀ r ∈ rows, ∀ x ∈ r.1, Dk d x
theorem beside_deep {d : Nat} {rows : List TR} {parts : List VR} {ahead : List Int} (h : Deep d rows) (hp : ∀ p ∈ parts, Dk d p.1) : Deep d (besideG rows parts ahead) := fun r hr => by
  obtain ⟨r0, h0, p, hpm, rfl⟩ := mem_beside hr
  exact snoc_dk (h r0 h0) (hp p hpm)
theorem times_deep {d : Nat} {parts : List VR} {ahead : List Int} (hp : ∀ p ∈ parts, Dk d p.1) : ∀ (n : Nat) (acc : List TR), Deep d acc → Deep d (timesR parts ahead n acc)
  | 0, acc, h => h
  | n + 1, acc, h => times_deep hp n _ (beside_deep h hp)
theorem tup_deep {d : Nat} : ∀ (gs : List Gn) (acc : List TR), (∀ g ∈ gs, ∀ p ∈ rowsOf g, Dk d p.1) → Deep d acc → Deep d (rowsTup gs acc)
  | [], acc, _, h => by rw [rowsTup]; exact h
  | g :: gs, acc, hg, h => by
    rw [rowsTup]
    exact tup_deep gs _ (fun g' h' => hg g' (List.mem_cons_of_mem _ h')) (beside_deep h (hg g List.mem_cons_self))
theorem step_deep {d : Nat} {parts : List VR} {a : Int} (hp : ∀ p ∈ parts, Dk d p.1) : ∀ (l : List Nat) (m : Nat) (s : List TR × List VR), Deep d s.1 → (∀ r ∈ s.1, r.1.length ≤ m) → m + l.length ≤ 60 → (∀ p ∈ s.2, Dk (d + 1) p.1) → Deep d (l.foldl (listStep parts a) s).1 ∧ (∀ r ∈ (l.foldl (listStep parts a) s).1, r.1.length ≤ 60) ∧ ∀ p ∈ (l.foldl (listStep parts a) s).2, Dk (d + 1) p.1
  | [], m, s, h1, h2, hm, h3 => ⟨h1, fun r hr => by have := h2 r hr; rw [List.length_nil] at hm; show r.1.length ≤ 60; omega, h3⟩
  | x :: l, m, s, h1, h2, hm, h3 => by
    rw [List.foldl_cons]
    rw [List.length_cons] at hm
    have hb : ∀ ahead, ∀ r ∈ besideG s.1 parts ahead, r.1.length ≤ m + 1 := fun ahead r hr => by
      obtain ⟨r0, h0, p, hpm, rfl⟩ := mem_beside hr
      have := h2 r0 h0
      rw [List.length_append, List.length_cons, List.length_nil]
      omega
    refine step_deep hp l (m + 1) _ ?_ ?_ (by omega) ?_
    · unfold listStep
      split
      · exact beside_deep h1 hp
      · exact beside_deep h1 hp
    · unfold listStep
      split
      · exact hb []
      · exact hb [1]
    · unfold listStep
      split
      · exact h3
      · intro p hpm
        rcases List.mem_append.mp hpm with h | h
        · exact h3 p h
        · obtain ⟨r, hr, rfl⟩ := List.mem_map.mp h
          exact .tup (by have := h2 r hr; show r.1.length ≤ 60; omega) (h1 r hr)
theorem one_deep {d : Nat} : ∀ (gs : List Gn) (c : Nat), (∀ g ∈ gs, ∀ p ∈ rowsOf g, Dk d p.1) → ∀ p ∈ rowsOne gs c, Dk d p.1
  | [], _, _, p, h => by rw [rowsOne] at h; cases h
  | g :: gs, c, hg, p, h => by
    rw [rowsOne] at h
    rcases List.mem_append.mp h with h | h
    · obtain ⟨q, hq, rfl⟩ := List.mem_map.mp h
      exact hg g List.mem_cons_self q hq
    · exact one_deep gs (c + 1) (fun g' h' => hg g' (List.mem_cons_of_mem _ h')) p h
theorem rows_deep {g : Gn} {kd : Kd} (h : GenK g kd) : ∀ (k n : Nat), OkGk k n g → ∀ p ∈ rowsOf g, Dk n p.1 := by
  induction h with
  | int =>
    intro k n ho p hp
    rw [rowsOf] at hp
    obtain ⟨c, _, rfl⟩ := List.mem_map.mp hp
    exact .int _
  | @pick ws h0 _ _ hw =>
    intro k n ho p hp
    rw [rowsOf] at hp
    obtain ⟨w, hwm, rfl⟩ := List.mem_map.mp hp
    cases ho with
    | pick h1 h2 =>
      have hm : w.1 ∈ ws := List.fst_mem_of_mem_zipIdx hwm
      exact .str (h2 _ hm).1 (h2 _ hm).2
  | @tuple gs ks h4 hl _ ih =>
    intro k n ho p hp
    rw [rowsOf] at hp
    obtain ⟨r, hr, rfl⟩ := List.mem_map.mp hp
    cases ho with
    | @tuple n' _ h1 h2 =>
      have hg : ∀ g ∈ gs, ∀ p ∈ rowsOf g, Dk n' p.1 := fun g hg => by
        obtain ⟨i, hi⟩ := List.mem_iff_getElem?.mp hg
        have hlt := (List.getElem?_eq_some_iff.mp hi).1
        exact ih i g _ hi (List.getElem?_eq_getElem (by omega)) k _ (h2 g hg)
      have hd := tup_deep gs [([], [])] hg (fun r hr => by cases List.mem_singleton.mp hr; exact fun _ h => nomatch h) r hr
      have hlen : ∀ (gs : List Gn) (m : Nat) (acc : List TR), (∀ r ∈ acc, r.1.length ≤ m) → ∀ r ∈ rowsTup gs acc, r.1.length ≤ m + gs.length := by
        intro gs
        induction gs with
        | nil => intro m acc h r hr; rw [rowsTup] at hr; exact h r hr
        | cons g gs ihg =>
          intro m acc h r hr
          rw [rowsTup] at hr
          have := ihg (m + 1) _ (fun r hr => by
            obtain ⟨r0, h0, p, hpm, rfl⟩ := mem_beside hr
            have := h r0 h0
            rw [List.length_append, List.length_cons, List.length_nil]
            omega) r hr
          rw [List.length_cons]
          omega
      have := hlen gs 0 [([], [])] (fun r hr => by cases List.mem_singleton.mp hr; exact Nat.le_refl _) r hr
      exact .tup (by show r.1.length ≤ 60; omega) hd
  | @list g k' a b hg h0 hab hb ih =>
    intro k n ho p hp
    cases ho with
    | @list n' _ _ _ ho =>
      obtain ⟨s1, s2, s3⟩ := step_deep (a := a) (ih k _ ho) (List.range b.toNat) 0 ([([], [])], []) (fun r hr => by cases List.mem_singleton.mp hr; exact fun _ h => nomatch h) (fun r hr => by cases List.mem_singleton.mp hr; exact Nat.le_refl _) (by rw [List.length_range]; omega) (fun _ h => nomatch h)
      rw [rowsOf, listRows] at hp
      rcases List.mem_append.mp hp with h | h
      · exact s3 p h
      · obtain ⟨r, hr, rfl⟩ := List.mem_map.mp h
        exact .tup (s2 r hr) (s1 r hr)
  | one _ _ _ ih =>
    intro k n ho p hp
    rw [rowsOf] at hp
    cases ho with
    | one h1 h2 => exact (one_deep _ 0 (fun g hg p hp => ih g hg k _ (h2 g hg) p hp) p hp).mono (by omega)
  | kept _ _ ih =>
    intro k n ho p hp
    rw [rowsOf] at hp
    cases ho with
    | kept ho _ => exact (ih k _ ho p (List.mem_filter.mp hp).1).mono (by omega)
  | turned hg hb ih =>
    intro k n ho p hp
    rw [rowsOf] at hp
    obtain ⟨q, hq, rfl⟩ := List.mem_map.mp hp
    cases ho with
    | turned _ ho => exact turn_dk hb (rows_isk hg q hq) ((ih k _ ho q hq).mono (by omega))
  | @repeat_ g' h' _ _ _ ih1 ih2 =>
    intro k n ho p hp
    rw [rowsOf] at hp
    obtain ⟨q, hq, hp⟩ := List.mem_flatMap.mp hp
    cases ho with
    | repeat_ ho1 ho2 =>
      unfold repeatRows at hp
      split at hp
      · rename_i m _
        split at hp
        · rename_i hc
          have h2 := of_decide_eq_true (Bool.and_eq_true_iff.mp hc).2
          obtain ⟨r, hr, rfl⟩ := List.mem_map.mp hp
          have hd := times_deep (ahead := []) (ih2 k _ ho2) m.toNat [([], q.2)] (fun r hr => by cases List.mem_singleton.mp hr; exact fun _ h => nomatch h) r hr
          have hlen : ∀ (n m : Nat) (acc : List TR), (∀ r ∈ acc, r.1.length ≤ m) → ∀ r ∈ timesR (rowsOf h') [] n acc, r.1.length ≤ m + n := by
            intro n
            induction n with
            | zero => intro m acc h r hr; exact h r hr
            | succ n ihn =>
              intro m acc h r hr
              rw [timesR] at hr
              have := ihn (m + 1) _ (fun r hr => by
                obtain ⟨r0, h0, p, hpm, rfl⟩ := mem_beside hr
                have := h r0 h0
                rw [List.length_append, List.length_cons, List.length_nil]
                omega) r hr
              omega
          have := hlen m.toNat 0 [([], q.2)] (fun r hr => by cases List.mem_singleton.mp hr; exact Nat.le_refl _) r hr
          exact .tup (by show r.1.length ≤ 60; omega) hd
        · cases hp
      · cases hp
end Fb
namespace Fb
open PySem PySem.Spec PyProof.Rows L2 Evl CrT Cr Sm
theorem compM_filter {α : Type} {step : PyData → Option (Option PyData)} {f φ : α → PyData} {p : α → Bool} : ∀ {l : List α}, (∀ a ∈ l, step (f a) = some (if p a then some (φ a) else none)) → compM step (l.map f) = some ((l.filter p).map φ)
  | [], _ => rfl
  | a :: l, h => by
    show (step (f a)).bind _ = _
    rw [h a List.mem_cons_self, Option.bind_some, compM_filter fun b hb => h b (List.mem_cons_of_mem _ hb), Option.bind_some, List.filter_cons]
    cases p a <;> rfl
theorem fComp_filter {α : Type} {fi : FA} {g : PyData → List Sl → Option (List Sl)} {t : FT} {e : FE} {vs : List Nat} {ρ : List Sl} {l : List α} {f φ : α → PyData} {p : α → Bool} (hi : fi ρ = some (l.map f)) (hl : l.length ≤ 10000000) (hs : ∀ a ∈ l, cStep g t e (Sm.wpS ρ vs) (f a) = some (if p a then some (φ a) else none)) : fComp fi g t e vs ρ = some ((l.filter p).map φ) := by
  unfold fComp
  rw [hi, Option.bind_some, compM_filter hs, Option.bind_some]
  exact if_pos (by rw [List.length_map]; exact Nat.le_trans (List.length_filter_le _ _) hl)
theorem at_nat {α : Type} {f : α → PyData} {l : List α} {j : Nat} {a : α} (h : l[j]? = some a) : atI (l.map f) ((0 : Int) + (j : Int)) = some (f a) := by
  rw [Int.zero_add]
  exact atI_nat (by rw [List.getElem?_map, h]; rfl)
def D_all (hol trn : Fn) : Nat → Fn
  | 0 => fun _ => none
  | n + 1 => runF 11 1 (b__law_all (D_all hol trn n) hol trn D_beside)
def AllOk (d : Fn) (g : Gn) : Prop := d [g.data] = some (.list ((rowsOf g).map prD))
variable {d hol trn : Fn}
theorem m_aint (lo hi : Int) (h1 : -1000 ≤ lo) (h2 : lo ≤ hi) (h3 : hi ≤ 1000) : runF 11 1 (b__law_all d hol trn D_beside) [(Gn.int lo hi).data] = some (.list ((rowsOf (.int lo hi)).map prD)) := by
  have hc : fComp (fRng1 (fCons (fOp gAdd (fOp gSub (fOp gIx (fVar 0) (fC (.int 2))) (fOp gIx (fVar 0) (fC (.int 1)))) (fC (.int 1))) fNil)) (gS 3) (fun _ => some true) (fTup (fCons (fOp gAdd (fOp gIx (fVar 0) (fC (.int 1))) (fVar 3)) (fCons (fTup (fCons (fVar 3) fNil)) fNil))) [3] [.val (Gn.int lo hi).data, .val (.str "int"), .un, .un, .un, .un, .un, .un, .un, .un, .un] = some ((List.range (hi - lo + 1).toNat).map fun (c : Nat) => prD (PyData.int (lo + (c : Int)), [(c : Int)])) := by
    refine fComp_map (l := List.range (hi - lo + 1).toNat) (f := fun (i : Nat) => PyData.int (0 + (i : Int))) ?_ (by rw [List.length_range]; omega) fun c _ => ?_
    · have hz : -10000000 ≤ hi - lo + 1 ∧ hi - lo + 1 ≤ 10000000 := by omega
      simp only [fSeq, fIfS, fRet, fAsg, fOwn, fApp, fExt, fBrk, fCnt, fDrop, fFrz, frz, fNext, fFor, fB, fAnd, fOr, fNot, fAndV, fOrV, fNotV, fIf, fChain, fOp, fUn, fVar, fC, fTup, fLst, fV, fCons, fNil, fCall, fCallL, fLenV, fSl, fPart, fNoPart, fStar, fAug, gS, gT, gN, gC, fSeqI, run_1, run_2, run_3, run_4, ix0, ix1, ix2, ix3, then_nx, then_rt, then_bk, then_ct, turn_nx, turn_ct, turn_bk, turn_rt, res_rt, asB_b, gIx_t, gIx_l, gAdd_i, gSub_i, gLt_i, gLe_i, gGt_i, gGe_i, eq_i, eq_s, ne_i, ne_s, gLen_t, gLen_l, gTup_l, gTup_t, strEq, Option.bind_some, List.getElem?_cons_zero, List.getElem?_cons_succ, List.set_cons_zero, List.set_cons_succ, List.replicate_succ, List.replicate_zero, Nat.reduceSub, Nat.reduceAdd, if_true, if_false, decide_true, decide_false, Bool.not_true, Bool.not_false, Bool.false_eq_true, String.reduceEq, reduceIte, List.length_cons, List.length_nil, Nat.reduceLeDiff, lim, fRng1, Gn.data, hz, rngD, and_self]
    · simp only [fSeq, fIfS, fRet, fAsg, fOwn, fApp, fExt, fBrk, fCnt, fDrop, fFrz, frz, fNext, fFor, fB, fAnd, fOr, fNot, fAndV, fOrV, fNotV, fIf, fChain, fOp, fUn, fVar, fC, fTup, fLst, fV, fCons, fNil, fCall, fCallL, fLenV, fSl, fPart, fNoPart, fStar, fAug, gS, gT, gN, gC, fSeqI, run_1, run_2, run_3, run_4, ix0, ix1, ix2, ix3, then_nx, then_rt, then_bk, then_ct, turn_nx, turn_ct, turn_bk, turn_rt, res_rt, asB_b, gIx_t, gIx_l, gAdd_i, gSub_i, gLt_i, gLe_i, gGt_i, gGe_i, eq_i, eq_s, ne_i, ne_s, gLen_t, gLen_l, gTup_l, gTup_t, strEq, Option.bind_some, List.getElem?_cons_zero, List.getElem?_cons_succ, List.set_cons_zero, List.set_cons_succ, List.replicate_succ, List.replicate_zero, Nat.reduceSub, Nat.reduceAdd, if_true, if_false, decide_true, decide_false, Bool.not_true, Bool.not_false, Bool.false_eq_true, String.reduceEq, reduceIte, List.length_cons, List.length_nil, Nat.reduceLeDiff, lim, cStep, Sm.wpS, Gn.data, prD, rowD, Int.zero_add, List.map_cons, List.map_nil]
  simp only [Gn.data] at hc
  rw [rowsOf, List.map_map, Function.comp_def]
  simp only [fSeq, fIfS, fRet, fAsg, fOwn, fApp, fExt, fBrk, fCnt, fDrop, fFrz, frz, fNext, fFor, fB, fAnd, fOr, fNot, fAndV, fOrV, fNotV, fIf, fChain, fOp, fUn, fVar, fC, fTup, fLst, fV, fCons, fNil, fCall, fCallL, fLenV, fSl, fPart, fNoPart, fStar, fAug, gS, gT, gN, gC, fSeqI, run_1, run_2, run_3, run_4, ix0, ix1, ix2, ix3, then_nx, then_rt, then_bk, then_ct, turn_nx, turn_ct, turn_bk, turn_rt, res_rt, asB_b, gIx_t, gIx_l, gAdd_i, gSub_i, gLt_i, gLe_i, gGt_i, gGe_i, eq_i, eq_s, ne_i, ne_s, gLen_t, gLen_l, gTup_l, gTup_t, strEq, Option.bind_some, List.getElem?_cons_zero, List.getElem?_cons_succ, List.set_cons_zero, List.set_cons_succ, List.replicate_succ, List.replicate_zero, Nat.reduceSub, Nat.reduceAdd, if_true, if_false, decide_true, decide_false, Bool.not_true, Bool.not_false, Bool.false_eq_true, String.reduceEq, reduceIte, List.length_cons, List.length_nil, Nat.reduceLeDiff, lim, b__law_all, Gn.data, hc]
theorem m_apick {ws : List Str} (h1 : ws.length ≤ 10) : runF 11 1 (b__law_all d hol trn D_beside) [(Gn.pick ws).data] = some (.list ((rowsOf (.pick ws)).map prD)) := by
  have hc : fComp (fRng1 (fCons (fCall gLen (fCons (fOp gIx (fVar 0) (fC (.int 1))) fNil)) fNil)) (gS 3) (fun _ => some true) (fTup (fCons (fOp gIx (fOp gIx (fVar 0) (fC (.int 1))) (fVar 3)) (fCons (fTup (fCons (fVar 3) fNil)) fNil))) [3] [.val (Gn.pick ws).data, .val (.str "pick"), .un, .un, .un, .un, .un, .un, .un, .un, .un] = some (ws.zipIdx.map fun (w : Str × Nat) => prD (PyData.str w.1, [(w.2 : Int)])) := by
    refine fComp_map (l := ws.zipIdx) (f := fun (w : Str × Nat) => PyData.int (0 + (w.2 : Int))) ?_ (by rw [List.length_zipIdx]; omega) fun w hw => ?_
    · have hz : -10000000 ≤ (ws.length : Int) ∧ (ws.length : Int) ≤ 10000000 := by omega
      have e : ws.zipIdx.map (fun (w : Str × Nat) => PyData.int (0 + (w.2 : Int))) = rngD 0 ws.length := by
        unfold rngD
        rw [List.range_eq_range', ← List.zipIdx_map_snd 0 ws, List.map_map]
        rfl
      rw [e]
      simp only [fSeq, fIfS, fRet, fAsg, fOwn, fApp, fExt, fBrk, fCnt, fDrop, fFrz, frz, fNext, fFor, fB, fAnd, fOr, fNot, fAndV, fOrV, fNotV, fIf, fChain, fOp, fUn, fVar, fC, fTup, fLst, fV, fCons, fNil, fCall, fCallL, fLenV, fSl, fPart, fNoPart, fStar, fAug, gS, gT, gN, gC, fSeqI, run_1, run_2, run_3, run_4, ix0, ix1, ix2, ix3, then_nx, then_rt, then_bk, then_ct, turn_nx, turn_ct, turn_bk, turn_rt, res_rt, asB_b, gIx_t, gIx_l, gAdd_i, gSub_i, gLt_i, gLe_i, gGt_i, gGe_i, eq_i, eq_s, ne_i, ne_s, gLen_t, gLen_l, gTup_l, gTup_t, strEq, Option.bind_some, List.getElem?_cons_zero, List.getElem?_cons_succ, List.set_cons_zero, List.set_cons_succ, List.replicate_succ, List.replicate_zero, Nat.reduceSub, Nat.reduceAdd, if_true, if_false, decide_true, decide_false, Bool.not_true, Bool.not_false, Bool.false_eq_true, String.reduceEq, reduceIte, List.length_cons, List.length_nil, Nat.reduceLeDiff, lim, fRng1, Gn.data, List.length_map, hz, and_self, Int.toNat_natCast]
    · have hw' : ws[w.2]? = some w.1 := by
        have h := List.mem_zipIdx hw
        rw [List.getElem?_eq_getElem (by omega)]
        simp [h.2.2]
      have ha : atI (ws.map PyData.str) (0 + (w.2 : Int)) = some (.str w.1) := at_nat hw'
      simp only [fSeq, fIfS, fRet, fAsg, fOwn, fApp, fExt, fBrk, fCnt, fDrop, fFrz, frz, fNext, fFor, fB, fAnd, fOr, fNot, fAndV, fOrV, fNotV, fIf, fChain, fOp, fUn, fVar, fC, fTup, fLst, fV, fCons, fNil, fCall, fCallL, fLenV, fSl, fPart, fNoPart, fStar, fAug, gS, gT, gN, gC, fSeqI, run_1, run_2, run_3, run_4, ix0, ix1, ix2, ix3, then_nx, then_rt, then_bk, then_ct, turn_nx, turn_ct, turn_bk, turn_rt, res_rt, asB_b, gIx_t, gIx_l, gAdd_i, gSub_i, gLt_i, gLe_i, gGt_i, gGe_i, eq_i, eq_s, ne_i, ne_s, gLen_t, gLen_l, gTup_l, gTup_t, strEq, Option.bind_some, List.getElem?_cons_zero, List.getElem?_cons_succ, List.set_cons_zero, List.set_cons_succ, List.replicate_succ, List.replicate_zero, Nat.reduceSub, Nat.reduceAdd, if_true, if_false, decide_true, decide_false, Bool.not_true, Bool.not_false, Bool.false_eq_true, String.reduceEq, reduceIte, List.length_cons, List.length_nil, Nat.reduceLeDiff, lim, cStep, Sm.wpS, Gn.data, prD, rowD, List.map_cons, List.map_nil, ha]
      simp only [Int.zero_add]
  simp only [Gn.data] at hc
  rw [rowsOf, List.map_map, Function.comp_def]
  simp only [fSeq, fIfS, fRet, fAsg, fOwn, fApp, fExt, fBrk, fCnt, fDrop, fFrz, frz, fNext, fFor, fB, fAnd, fOr, fNot, fAndV, fOrV, fNotV, fIf, fChain, fOp, fUn, fVar, fC, fTup, fLst, fV, fCons, fNil, fCall, fCallL, fLenV, fSl, fPart, fNoPart, fStar, fAug, gS, gT, gN, gC, fSeqI, run_1, run_2, run_3, run_4, ix0, ix1, ix2, ix3, then_nx, then_rt, then_bk, then_ct, turn_nx, turn_ct, turn_bk, turn_rt, res_rt, asB_b, gIx_t, gIx_l, gAdd_i, gSub_i, gLt_i, gLe_i, gGt_i, gGe_i, eq_i, eq_s, ne_i, ne_s, gLen_t, gLen_l, gTup_l, gTup_t, strEq, Option.bind_some, List.getElem?_cons_zero, List.getElem?_cons_succ, List.set_cons_zero, List.set_cons_succ, List.replicate_succ, List.replicate_zero, Nat.reduceSub, Nat.reduceAdd, if_true, if_false, decide_true, decide_false, Bool.not_true, Bool.not_false, Bool.false_eq_true, String.reduceEq, reduceIte, List.length_cons, List.length_nil, Nat.reduceLeDiff, lim, b__law_all, Gn.data, hc]
end Fb
namespace Fb
open PySem PySem.Spec PyProof.Rows L2 Evl CrT Cr Sm
variable {d hol trn : Fn}
theorem ret_skip {o : Option (Fl × List Sl)} {g : FS} {e : FE} {r : PyData} (h : resF (fThen o (fRet e)) = some r) : resF (fThen (fThen o (fRet e)) g) = some r := by
  match o, h with
  | some (.nx, ρ), h =>
    have h : resF (fRet e ρ) = some r := h
    show resF (fThen (fRet e ρ) g) = some r
    unfold fRet at h ⊢
    cases he : e ρ with
    | none => rw [he] at h; cases h
    | some x => rw [he] at h; exact h
  | some (.rt _, ρ), h => exact h
def oneBody (d : Fn) : FS := (fAsg (fOp gAdd (fVar 2) (fV (fComp (fSeqI (fCall d (fCons (fOp gIx (fOp gIx (fVar 0) (fC (.int 1))) (fVar 3)) fNil))) (gT 2 (gC (gS 10) (gC (gS 7) gN))) (fun _ => some true) (fTup (fCons (fVar 10) (fCons (fOp gAdd (fTup (fCons (fVar 3) fNil)) (fVar 7)) fNil))) [10, 7]))) (gS 2))
theorem one_loop {gs0 : List Gn} (hd : ∀ g ∈ gs0, AllOk d g) (hL : ∀ g ∈ gs0, ∀ p ∈ rowsOf g, p.2.length ≤ 1000000) (hC : ∀ g ∈ gs0, (rowsOf g).length ≤ 10000000) : ∀ (suf pre : List Gn) (done : List VR) (z3 : Sl), gs0 = pre ++ suf → done.length + (rowsOne suf pre.length).length ≤ 10000000 →
    resF (fThen (fLoop (gS 3) (oneBody d) ((List.range' pre.length suf.length).map fun (i : Nat) => PyData.int (0 + (i : Int))) [.val (.tuple [.str "one", .tuple (gs0.map Gn.data)]), .val (.str "one"), .val (.list (done.map prD)), z3, .un, .un, .un, .un, .un, .un, .un]) (fRet (fVar 2))) = some (.list ((done ++ rowsOne suf pre.length).map prD))
  | [], pre, done, z3, _, _ => by
    simp only [fSeq, fIfS, fRet, fAsg, fOwn, fApp, fExt, fBrk, fCnt, fDrop, fFrz, frz, fNext, fFor, fB, fAnd, fOr, fNot, fAndV, fOrV, fNotV, fIf, fChain, fOp, fUn, fVar, fC, fTup, fLst, fV, fCons, fNil, fCall, fCallL, fLenV, fSl, fPart, fNoPart, fStar, fAug, gS, gT, gN, gC, fSeqI, run_1, run_2, run_3, run_4, ix0, ix1, ix2, ix3, then_nx, then_rt, then_bk, then_ct, turn_nx, turn_ct, turn_bk, turn_rt, res_rt, asB_b, gIx_t, gIx_l, gAdd_i, gSub_i, gLt_i, gLe_i, gGt_i, gGe_i, eq_i, eq_s, ne_i, ne_s, gLen_t, gLen_l, gTup_l, gTup_t, strEq, Option.bind_some, List.getElem?_cons_zero, List.getElem?_cons_succ, List.set_cons_zero, List.set_cons_succ, List.replicate_succ, List.replicate_zero, Nat.reduceSub, Nat.reduceAdd, if_true, if_false, decide_true, decide_false, Bool.not_true, Bool.not_false, Bool.false_eq_true, String.reduceEq, reduceIte, List.length_cons, List.length_nil, Nat.reduceLeDiff, lim, List.range'_zero, List.map_nil, loop_n, rowsOne, List.append_nil]
  | g :: suf, pre, done, z3, he, hl => by
    have hg : g ∈ gs0 := by rw [he]; simp
    have ha : atI (gs0.map Gn.data) ((0 : Int) + (pre.length : Int)) = some g.data := at_nat (by rw [he]; simp)
    rw [rowsOne, List.length_append, List.length_map] at hl
    have hp : (pre ++ [g]).length = pre.length + 1 := by simp
    have ih := one_loop hd hL hC suf (pre ++ [g]) (done ++ (rowsOf g).map fun p => (p.1, (pre.length : Int) :: p.2)) (.val (.int (0 + (pre.length : Int)))) (by rw [he]; simp) (by rw [hp, List.length_append, List.length_map]; omega)
    have hdg : d [g.data] = _ := hd g hg
    have hc : fComp (fSeqI (fCall d (fCons (fOp gIx (fOp gIx (fVar 0) (fC (.int 1))) (fVar 3)) fNil))) (gT 2 (gC (gS 10) (gC (gS 7) gN))) (fun _ => some true) (fTup (fCons (fVar 10) (fCons (fOp gAdd (fTup (fCons (fVar 3) fNil)) (fVar 7)) fNil))) [10, 7] [.val (.tuple [.str "one", .tuple (gs0.map Gn.data)]), .val (.str "one"), .val (.list (done.map prD)), .val (.int (0 + (pre.length : Int))), .un, .un, .un, .un, .un, .un, .un] = some ((rowsOf g).map fun p => prD (p.1, (pre.length : Int) :: p.2)) := by
      refine fComp_map (l := rowsOf g) (f := prD) (by simp only [fSeq, fIfS, fRet, fAsg, fOwn, fApp, fExt, fBrk, fCnt, fDrop, fFrz, frz, fNext, fFor, fB, fAnd, fOr, fNot, fAndV, fOrV, fNotV, fIf, fChain, fOp, fUn, fVar, fC, fTup, fLst, fV, fCons, fNil, fCall, fCallL, fLenV, fSl, fPart, fNoPart, fStar, fAug, gS, gT, gN, gC, fSeqI, run_1, run_2, run_3, run_4, ix0, ix1, ix2, ix3, then_nx, then_rt, then_bk, then_ct, turn_nx, turn_ct, turn_bk, turn_rt, res_rt, asB_b, gIx_t, gIx_l, gAdd_i, gSub_i, gLt_i, gLe_i, gGt_i, gGe_i, eq_i, eq_s, ne_i, ne_s, gLen_t, gLen_l, gTup_l, gTup_t, strEq, Option.bind_some, List.getElem?_cons_zero, List.getElem?_cons_succ, List.set_cons_zero, List.set_cons_succ, List.replicate_succ, List.replicate_zero, Nat.reduceSub, Nat.reduceAdd, if_true, if_false, decide_true, decide_false, Bool.not_true, Bool.not_false, Bool.false_eq_true, String.reduceEq, reduceIte, List.length_cons, List.length_nil, Nat.reduceLeDiff, lim, ha, hdg]) (hC g hg) fun p hpm => ?_
      have h1 := hL g hg p hpm
      have e1 : 1 + p.2.length ≤ 10000000 := by omega
      simp only [fSeq, fIfS, fRet, fAsg, fOwn, fApp, fExt, fBrk, fCnt, fDrop, fFrz, frz, fNext, fFor, fB, fAnd, fOr, fNot, fAndV, fOrV, fNotV, fIf, fChain, fOp, fUn, fVar, fC, fTup, fLst, fV, fCons, fNil, fCall, fCallL, fLenV, fSl, fPart, fNoPart, fStar, fAug, gS, gT, gN, gC, fSeqI, run_1, run_2, run_3, run_4, ix0, ix1, ix2, ix3, then_nx, then_rt, then_bk, then_ct, turn_nx, turn_ct, turn_bk, turn_rt, res_rt, asB_b, gIx_t, gIx_l, gAdd_i, gSub_i, gLt_i, gLe_i, gGt_i, gGe_i, eq_i, eq_s, ne_i, ne_s, gLen_t, gLen_l, gTup_l, gTup_t, strEq, Option.bind_some, List.getElem?_cons_zero, List.getElem?_cons_succ, List.set_cons_zero, List.set_cons_succ, List.replicate_succ, List.replicate_zero, Nat.reduceSub, Nat.reduceAdd, if_true, if_false, decide_true, decide_false, Bool.not_true, Bool.not_false, Bool.false_eq_true, String.reduceEq, reduceIte, List.length_cons, List.length_nil, Nat.reduceLeDiff, lim, cStep, Sm.wpS, prD, rowD, gAdd_t, Nat.zero_add, e1, List.length_map, List.map_cons, List.cons_append, List.nil_append, Int.zero_add]
    have hz : done.length + (rowsOf g).length ≤ 10000000 := by omega
    rw [rowsOne, ← List.append_assoc]
    rw [hp] at ih
    rw [← ih]
    rw [List.length_cons, List.range'_succ, List.map_cons, loop_c]
    simp only [fSeq, fIfS, fRet, fAsg, fOwn, fApp, fExt, fBrk, fCnt, fDrop, fFrz, frz, fNext, fFor, fB, fAnd, fOr, fNot, fAndV, fOrV, fNotV, fIf, fChain, fOp, fUn, fVar, fC, fTup, fLst, fV, fCons, fNil, fCall, fCallL, fLenV, fSl, fPart, fNoPart, fStar, fAug, gS, gT, gN, gC, fSeqI, run_1, run_2, run_3, run_4, ix0, ix1, ix2, ix3, then_nx, then_rt, then_bk, then_ct, turn_nx, turn_ct, turn_bk, turn_rt, res_rt, asB_b, gIx_t, gIx_l, gAdd_i, gSub_i, gLt_i, gLe_i, gGt_i, gGe_i, eq_i, eq_s, ne_i, ne_s, gLen_t, gLen_l, gTup_l, gTup_t, strEq, Option.bind_some, List.getElem?_cons_zero, List.getElem?_cons_succ, List.set_cons_zero, List.set_cons_succ, List.replicate_succ, List.replicate_zero, Nat.reduceSub, Nat.reduceAdd, if_true, if_false, decide_true, decide_false, Bool.not_true, Bool.not_false, Bool.false_eq_true, String.reduceEq, reduceIte, List.length_cons, List.length_nil, Nat.reduceLeDiff, lim, oneBody, hc, gAdd_l, hz, List.length_map, List.map_append, List.map_map, Function.comp_def]
theorem m_aone {gs : List Gn} (h4 : gs.length ≤ 4) (hd : ∀ g ∈ gs, AllOk d g) (hL : ∀ g ∈ gs, ∀ p ∈ rowsOf g, p.2.length ≤ 1000000) (hC : ∀ g ∈ gs, (rowsOf g).length ≤ 10000000) (hl : (rowsOne gs 0).length ≤ 10000000) : runF 11 1 (b__law_all d hol trn D_beside) [(Gn.one gs).data] = some (.list ((rowsOf (.one gs)).map prD)) := by
  have e := one_loop hd hL hC gs [] [] .un rfl (by simpa using hl)
  have hz : -10000000 ≤ (gs.length : Int) ∧ (gs.length : Int) ≤ 10000000 := by omega
  rw [rowsOf]
  rw [List.nil_append] at e
  simp only [fSeq, fIfS, fRet, fAsg, fOwn, fApp, fExt, fBrk, fCnt, fDrop, fFrz, frz, fNext, fFor, fB, fAnd, fOr, fNot, fAndV, fOrV, fNotV, fIf, fChain, fOp, fUn, fVar, fC, fTup, fLst, fV, fCons, fNil, fCall, fCallL, fLenV, fSl, fPart, fNoPart, fStar, fAug, gS, gT, gN, gC, fSeqI, run_1, run_2, run_3, run_4, ix0, ix1, ix2, ix3, then_nx, then_rt, then_bk, then_ct, turn_nx, turn_ct, turn_bk, turn_rt, res_rt, asB_b, gIx_t, gIx_l, gAdd_i, gSub_i, gLt_i, gLe_i, gGt_i, gGe_i, eq_i, eq_s, ne_i, ne_s, gLen_t, gLen_l, gTup_l, gTup_t, strEq, Option.bind_some, List.getElem?_cons_zero, List.getElem?_cons_succ, List.set_cons_zero, List.set_cons_succ, List.replicate_succ, List.replicate_zero, Nat.reduceSub, Nat.reduceAdd, if_true, if_false, decide_true, decide_false, Bool.not_true, Bool.not_false, Bool.false_eq_true, String.reduceEq, reduceIte, List.length_cons, List.length_nil, Nat.reduceLeDiff, lim, b__law_all, Gn.data, gnAll_map, fRng1, rngD, List.length_map, hz, and_self, Int.toNat_natCast, List.range_eq_range', List.map_nil]
  exact ret_skip e
theorem m_akept {g : Gn} {c : Cd} (hd : AllOk d g) (hC : (rowsOf g).length ≤ 10000000) (hh : ∀ p ∈ rowsOf g, hol [c.data, p.1] = some (.bool (holdsC c p.1))) : runF 11 1 (b__law_all d hol trn D_beside) [(Gn.kept g c).data] = some (.list ((rowsOf (.kept g c)).map prD)) := by
  have hdg : d [g.data] = _ := hd
  have hc : fComp (fSeqI (fCall d (fCons (fOp gIx (fVar 0) (fC (.int 1))) fNil))) (gT 2 (gC (gS 10) (gC (gS 7) gN))) (fB (fCall hol (fCons (fOp gIx (fVar 0) (fC (.int 2))) (fCons (fVar 10) fNil)))) (fTup (fCons (fVar 10) (fCons (fVar 7) fNil))) [10, 7] [.val (Gn.kept g c).data, .val (.str "kept"), .un, .un, .un, .un, .un, .un, .un, .un, .un] = some (((rowsOf g).filter fun p => holdsC c p.1).map prD) := by
    refine fComp_filter (l := rowsOf g) (f := prD) (by simp only [fSeq, fIfS, fRet, fAsg, fOwn, fApp, fExt, fBrk, fCnt, fDrop, fFrz, frz, fNext, fFor, fB, fAnd, fOr, fNot, fAndV, fOrV, fNotV, fIf, fChain, fOp, fUn, fVar, fC, fTup, fLst, fV, fCons, fNil, fCall, fCallL, fLenV, fSl, fPart, fNoPart, fStar, fAug, gS, gT, gN, gC, fSeqI, run_1, run_2, run_3, run_4, ix0, ix1, ix2, ix3, then_nx, then_rt, then_bk, then_ct, turn_nx, turn_ct, turn_bk, turn_rt, res_rt, asB_b, gIx_t, gIx_l, gAdd_i, gSub_i, gLt_i, gLe_i, gGt_i, gGe_i, eq_i, eq_s, ne_i, ne_s, gLen_t, gLen_l, gTup_l, gTup_t, strEq, Option.bind_some, List.getElem?_cons_zero, List.getElem?_cons_succ, List.set_cons_zero, List.set_cons_succ, List.replicate_succ, List.replicate_zero, Nat.reduceSub, Nat.reduceAdd, if_true, if_false, decide_true, decide_false, Bool.not_true, Bool.not_false, Bool.false_eq_true, String.reduceEq, reduceIte, List.length_cons, List.length_nil, Nat.reduceLeDiff, lim, Gn.data, hdg]) hC fun p hpm => ?_
    have h1 := hh p hpm
    simp only [fSeq, fIfS, fRet, fAsg, fOwn, fApp, fExt, fBrk, fCnt, fDrop, fFrz, frz, fNext, fFor, fB, fAnd, fOr, fNot, fAndV, fOrV, fNotV, fIf, fChain, fOp, fUn, fVar, fC, fTup, fLst, fV, fCons, fNil, fCall, fCallL, fLenV, fSl, fPart, fNoPart, fStar, fAug, gS, gT, gN, gC, fSeqI, run_1, run_2, run_3, run_4, ix0, ix1, ix2, ix3, then_nx, then_rt, then_bk, then_ct, turn_nx, turn_ct, turn_bk, turn_rt, res_rt, asB_b, gIx_t, gIx_l, gAdd_i, gSub_i, gLt_i, gLe_i, gGt_i, gGe_i, eq_i, eq_s, ne_i, ne_s, gLen_t, gLen_l, gTup_l, gTup_t, strEq, Option.bind_some, List.getElem?_cons_zero, List.getElem?_cons_succ, List.set_cons_zero, List.set_cons_succ, List.replicate_succ, List.replicate_zero, Nat.reduceSub, Nat.reduceAdd, if_true, if_false, decide_true, decide_false, Bool.not_true, Bool.not_false, Bool.false_eq_true, String.reduceEq, reduceIte, List.length_cons, List.length_nil, Nat.reduceLeDiff, lim, cStep, Sm.wpS, prD, rowD, Gn.data, h1]
    cases holdsC c p.1 <;> rfl
  simp only [Gn.data] at hc
  rw [rowsOf]
  simp only [fSeq, fIfS, fRet, fAsg, fOwn, fApp, fExt, fBrk, fCnt, fDrop, fFrz, frz, fNext, fFor, fB, fAnd, fOr, fNot, fAndV, fOrV, fNotV, fIf, fChain, fOp, fUn, fVar, fC, fTup, fLst, fV, fCons, fNil, fCall, fCallL, fLenV, fSl, fPart, fNoPart, fStar, fAug, gS, gT, gN, gC, fSeqI, run_1, run_2, run_3, run_4, ix0, ix1, ix2, ix3, then_nx, then_rt, then_bk, then_ct, turn_nx, turn_ct, turn_bk, turn_rt, res_rt, asB_b, gIx_t, gIx_l, gAdd_i, gSub_i, gLt_i, gLe_i, gGt_i, gGe_i, eq_i, eq_s, ne_i, ne_s, gLen_t, gLen_l, gTup_l, gTup_t, strEq, Option.bind_some, List.getElem?_cons_zero, List.getElem?_cons_succ, List.set_cons_zero, List.set_cons_succ, List.replicate_succ, List.replicate_zero, Nat.reduceSub, Nat.reduceAdd, if_true, if_false, decide_true, decide_false, Bool.not_true, Bool.not_false, Bool.false_eq_true, String.reduceEq, reduceIte, List.length_cons, List.length_nil, Nat.reduceLeDiff, lim, b__law_all, Gn.data, hc]
theorem m_aturned {g : Gn} {m : Mp} (hd : AllOk d g) (hC : (rowsOf g).length ≤ 10000000) (hh : ∀ p ∈ rowsOf g, trn [m.data, p.1] = some (turnD m p.1)) : runF 11 1 (b__law_all d hol trn D_beside) [(Gn.turned g m).data] = some (.list ((rowsOf (.turned g m)).map prD)) := by
  have hdg : d [g.data] = _ := hd
  have hc : fComp (fSeqI (fCall d (fCons (fOp gIx (fVar 0) (fC (.int 1))) fNil))) (gT 2 (gC (gS 10) (gC (gS 7) gN))) (fun _ => some true) (fTup (fCons (fCall trn (fCons (fOp gIx (fVar 0) (fC (.int 2))) (fCons (fVar 10) fNil))) (fCons (fVar 7) fNil))) [10, 7] [.val (Gn.turned g m).data, .val (.str "turned"), .un, .un, .un, .un, .un, .un, .un, .un, .un] = some ((rowsOf g).map fun p => prD (turnD m p.1, p.2)) := by
    refine fComp_map (l := rowsOf g) (f := prD) (by simp only [fSeq, fIfS, fRet, fAsg, fOwn, fApp, fExt, fBrk, fCnt, fDrop, fFrz, frz, fNext, fFor, fB, fAnd, fOr, fNot, fAndV, fOrV, fNotV, fIf, fChain, fOp, fUn, fVar, fC, fTup, fLst, fV, fCons, fNil, fCall, fCallL, fLenV, fSl, fPart, fNoPart, fStar, fAug, gS, gT, gN, gC, fSeqI, run_1, run_2, run_3, run_4, ix0, ix1, ix2, ix3, then_nx, then_rt, then_bk, then_ct, turn_nx, turn_ct, turn_bk, turn_rt, res_rt, asB_b, gIx_t, gIx_l, gAdd_i, gSub_i, gLt_i, gLe_i, gGt_i, gGe_i, eq_i, eq_s, ne_i, ne_s, gLen_t, gLen_l, gTup_l, gTup_t, strEq, Option.bind_some, List.getElem?_cons_zero, List.getElem?_cons_succ, List.set_cons_zero, List.set_cons_succ, List.replicate_succ, List.replicate_zero, Nat.reduceSub, Nat.reduceAdd, if_true, if_false, decide_true, decide_false, Bool.not_true, Bool.not_false, Bool.false_eq_true, String.reduceEq, reduceIte, List.length_cons, List.length_nil, Nat.reduceLeDiff, lim, Gn.data, hdg]) hC fun p hpm => ?_
    have h1 := hh p hpm
    simp only [fSeq, fIfS, fRet, fAsg, fOwn, fApp, fExt, fBrk, fCnt, fDrop, fFrz, frz, fNext, fFor, fB, fAnd, fOr, fNot, fAndV, fOrV, fNotV, fIf, fChain, fOp, fUn, fVar, fC, fTup, fLst, fV, fCons, fNil, fCall, fCallL, fLenV, fSl, fPart, fNoPart, fStar, fAug, gS, gT, gN, gC, fSeqI, run_1, run_2, run_3, run_4, ix0, ix1, ix2, ix3, then_nx, then_rt, then_bk, then_ct, turn_nx, turn_ct, turn_bk, turn_rt, res_rt, asB_b, gIx_t, gIx_l, gAdd_i, gSub_i, gLt_i, gLe_i, gGt_i, gGe_i, eq_i, eq_s, ne_i, ne_s, gLen_t, gLen_l, gTup_l, gTup_t, strEq, Option.bind_some, List.getElem?_cons_zero, List.getElem?_cons_succ, List.set_cons_zero, List.set_cons_succ, List.replicate_succ, List.replicate_zero, Nat.reduceSub, Nat.reduceAdd, if_true, if_false, decide_true, decide_false, Bool.not_true, Bool.not_false, Bool.false_eq_true, String.reduceEq, reduceIte, List.length_cons, List.length_nil, Nat.reduceLeDiff, lim, cStep, Sm.wpS, prD, rowD, Gn.data, h1]
  simp only [Gn.data] at hc
  rw [rowsOf, List.map_map, Function.comp_def]
  simp only [fSeq, fIfS, fRet, fAsg, fOwn, fApp, fExt, fBrk, fCnt, fDrop, fFrz, frz, fNext, fFor, fB, fAnd, fOr, fNot, fAndV, fOrV, fNotV, fIf, fChain, fOp, fUn, fVar, fC, fTup, fLst, fV, fCons, fNil, fCall, fCallL, fLenV, fSl, fPart, fNoPart, fStar, fAug, gS, gT, gN, gC, fSeqI, run_1, run_2, run_3, run_4, ix0, ix1, ix2, ix3, then_nx, then_rt, then_bk, then_ct, turn_nx, turn_ct, turn_bk, turn_rt, res_rt, asB_b, gIx_t, gIx_l, gAdd_i, gSub_i, gLt_i, gLe_i, gGt_i, gGe_i, eq_i, eq_s, ne_i, ne_s, gLen_t, gLen_l, gTup_l, gTup_t, strEq, Option.bind_some, List.getElem?_cons_zero, List.getElem?_cons_succ, List.set_cons_zero, List.set_cons_succ, List.replicate_succ, List.replicate_zero, Nat.reduceSub, Nat.reduceAdd, if_true, if_false, decide_true, decide_false, Bool.not_true, Bool.not_false, Bool.false_eq_true, String.reduceEq, reduceIte, List.length_cons, List.length_nil, Nat.reduceLeDiff, lim, b__law_all, Gn.data, hc]
/-! ### tuples -/
theorem big_lens {a b : Nat} {rows : List TR} (h : Lens a b rows) (ha : a ≤ 1000000) (hb : b ≤ 1000000) : ∀ r ∈ rows, r.1.length ≤ 1000000 ∧ r.2.length ≤ 1000000 := fun r hr => by
  obtain ⟨h1, h2⟩ := h r hr
  exact ⟨by omega, by omega⟩
def tupBody (d : Fn) : FS := (fAsg (fCall D_beside (fCons (fVar 2) (fCons (fCall d (fCons (fVar 4) fNil)) (fCons (fTup fNil) fNil)))) (gS 2))
theorem tup_loop {L : Nat} {R : Sl} : ∀ (gs : List Gn) (a b : Nat) (acc : List TR) (z4 : Sl), (∀ g ∈ gs, AllOk d g ∧ (∀ p ∈ rowsOf g, p.2.length ≤ L) ∧ (rowsOf g).length ≤ cntG g ∧ 0 < cntG g ∧ cntG g ≤ 10000000) → Lens a b acc → a + gs.length ≤ 1000000 → b + gs.length * L ≤ 1000000 → L ≤ 1000000 → acc.length * cntMul gs ≤ 10000000 →
    resF (fThen (fLoop (gS 4) (tupBody d) (gs.map Gn.data) [R, .val (.str "tuple"), .val (.list (acc.map trD)), .un, z4, .un, .un, .un, .un, .un, .un]) (fRet (fVar 2))) = some (.list ((rowsTup gs acc).map trD))
  | [], a, b, acc, z4, _, _, _, _, _, _ => by
    simp only [fSeq, fIfS, fRet, fAsg, fOwn, fApp, fExt, fBrk, fCnt, fDrop, fFrz, frz, fNext, fFor, fB, fAnd, fOr, fNot, fAndV, fOrV, fNotV, fIf, fChain, fOp, fUn, fVar, fC, fTup, fLst, fV, fCons, fNil, fCall, fCallL, fLenV, fSl, fPart, fNoPart, fStar, fAug, gS, gT, gN, gC, fSeqI, run_1, run_2, run_3, run_4, ix0, ix1, ix2, ix3, then_nx, then_rt, then_bk, then_ct, turn_nx, turn_ct, turn_bk, turn_rt, res_rt, asB_b, gIx_t, gIx_l, gAdd_i, gSub_i, gLt_i, gLe_i, gGt_i, gGe_i, eq_i, eq_s, ne_i, ne_s, gLen_t, gLen_l, gTup_l, gTup_t, strEq, Option.bind_some, List.getElem?_cons_zero, List.getElem?_cons_succ, List.set_cons_zero, List.set_cons_succ, List.replicate_succ, List.replicate_zero, Nat.reduceSub, Nat.reduceAdd, if_true, if_false, decide_true, decide_false, Bool.not_true, Bool.not_false, Bool.false_eq_true, String.reduceEq, reduceIte, List.length_cons, List.length_nil, Nat.reduceLeDiff, lim, List.map_nil, loop_n, rowsTup]
  | g :: gs, a, b, acc, z4, hg, hl, ha, hb, hL, hm => by
    obtain ⟨g1, g2, g3, g4, g5⟩ := hg g List.mem_cons_self
    rw [List.length_cons] at ha hb
    rw [Nat.succ_mul] at hb
    rw [cntMul] at hm
    have hpos : ∀ (l : List Gn), (∀ g ∈ l, 0 < cntG g) → 0 < cntMul l := by
      intro l
      induction l with
      | nil => intro _; rw [cntMul]; decide
      | cons g l ihl => intro h; rw [cntMul]; exact Nat.mul_pos (h g List.mem_cons_self) (ihl fun x hx => h x (List.mem_cons_of_mem _ hx))
    have hgs := hpos gs fun x hx => (hg x (List.mem_cons_of_mem _ hx)).2.2.2.1
    have m1 : acc.length * (rowsOf g).length ≤ acc.length * (cntG g * cntMul gs) := Nat.mul_le_mul_left _ (Nat.le_trans g3 (Nat.le_mul_of_pos_right _ hgs))
    have m2 : acc.length * (rowsOf g).length * cntMul gs ≤ acc.length * (cntG g * cntMul gs) := by
      rw [Nat.mul_assoc]
      exact Nat.mul_le_mul_left _ (Nat.mul_le_mul_right _ g3)
    have hbl := beside_lens (ahead := []) hl g2
    have ih := tup_loop (R := R) gs (a + 1) (b + ([] : List Int).length + L) (besideG acc (rowsOf g) []) (.val g.data) (fun x hx => hg x (List.mem_cons_of_mem _ hx)) hbl (by omega) (by rw [List.length_nil]; omega) hL (by rw [beside_len]; omega)
    have hb2 := m_beside (rows := acc) (parts := rowsOf g) (ahead := []) (Nat.zero_le _) (fun p hp => by have := g2 p hp; omega) (by omega) (big_lens hl (by omega) (by omega)) (by omega)
    have hdg : d [g.data] = _ := g1
    simp only [rowD, List.map_nil] at hb2
    rw [rowsTup, ← ih, List.map_cons, loop_c]
    simp only [fSeq, fIfS, fRet, fAsg, fOwn, fApp, fExt, fBrk, fCnt, fDrop, fFrz, frz, fNext, fFor, fB, fAnd, fOr, fNot, fAndV, fOrV, fNotV, fIf, fChain, fOp, fUn, fVar, fC, fTup, fLst, fV, fCons, fNil, fCall, fCallL, fLenV, fSl, fPart, fNoPart, fStar, fAug, gS, gT, gN, gC, fSeqI, run_1, run_2, run_3, run_4, ix0, ix1, ix2, ix3, then_nx, then_rt, then_bk, then_ct, turn_nx, turn_ct, turn_bk, turn_rt, res_rt, asB_b, gIx_t, gIx_l, gAdd_i, gSub_i, gLt_i, gLe_i, gGt_i, gGe_i, eq_i, eq_s, ne_i, ne_s, gLen_t, gLen_l, gTup_l, gTup_t, strEq, Option.bind_some, List.getElem?_cons_zero, List.getElem?_cons_succ, List.set_cons_zero, List.set_cons_succ, List.replicate_succ, List.replicate_zero, Nat.reduceSub, Nat.reduceAdd, if_true, if_false, decide_true, decide_false, Bool.not_true, Bool.not_false, Bool.false_eq_true, String.reduceEq, reduceIte, List.length_cons, List.length_nil, Nat.reduceLeDiff, lim, tupBody, hdg, hb2]
theorem m_atuple {L : Nat} {gs : List Gn} (h4 : gs.length ≤ 4) (hL : L ≤ 100000) (hg : ∀ g ∈ gs, AllOk d g ∧ (∀ p ∈ rowsOf g, p.2.length ≤ L) ∧ (rowsOf g).length ≤ cntG g ∧ 0 < cntG g ∧ cntG g ≤ 10000000) (hm : cntMul gs ≤ 10000000) : runF 11 1 (b__law_all d hol trn D_beside) [(Gn.tuple gs).data] = some (.list ((rowsOf (.tuple gs)).map prD)) := by
  have hq : gs.length * L ≤ 4 * L := Nat.mul_le_mul_right _ h4
  have e := tup_loop (L := L) (R := .val (Gn.tuple gs).data) gs 0 0 [([], [])] .un hg (fun r hr => by cases List.mem_singleton.mp hr; exact ⟨Nat.le_refl _, Nat.le_refl _⟩) (by omega) (by omega) (by omega) (by simpa using hm)
  rw [rowsOf, List.map_map]
  simp only [Gn.data, gnAll_map, List.map_cons, List.map_nil, trD, prD, tupR, rowD] at e
  simp only [fSeq, fIfS, fRet, fAsg, fOwn, fApp, fExt, fBrk, fCnt, fDrop, fFrz, frz, fNext, fFor, fB, fAnd, fOr, fNot, fAndV, fOrV, fNotV, fIf, fChain, fOp, fUn, fVar, fC, fTup, fLst, fV, fCons, fNil, fCall, fCallL, fLenV, fSl, fPart, fNoPart, fStar, fAug, gS, gT, gN, gC, fSeqI, run_1, run_2, run_3, run_4, ix0, ix1, ix2, ix3, then_nx, then_rt, then_bk, then_ct, turn_nx, turn_ct, turn_bk, turn_rt, res_rt, asB_b, gIx_t, gIx_l, gAdd_i, gSub_i, gLt_i, gLe_i, gGt_i, gGe_i, eq_i, eq_s, ne_i, ne_s, gLen_t, gLen_l, gTup_l, gTup_t, strEq, Option.bind_some, List.getElem?_cons_zero, List.getElem?_cons_succ, List.set_cons_zero, List.set_cons_succ, List.replicate_succ, List.replicate_zero, Nat.reduceSub, Nat.reduceAdd, if_true, if_false, decide_true, decide_false, Bool.not_true, Bool.not_false, Bool.false_eq_true, String.reduceEq, reduceIte, List.length_cons, List.length_nil, Nat.reduceLeDiff, lim, b__law_all, Gn.data, gnAll_map]
  exact ret_skip e
end Fb
namespace Fb
open PySem PySem.Spec PyProof.Rows L2 Evl CrT Cr Sm
variable {d hol trn : Fn}
/-! ### repeats -/
def timBody : FS := (fAsg (fCall D_beside (fCons (fVar 8) (fCons (fVar 5) (fCons (fTup fNil) fNil)))) (gS 8))
theorem tim_loop {L : Nat} {parts : List VR} {R F m0 r0 : Sl} {z3 z4 z10 : Sl} (hp : ∀ p ∈ parts, p.2.length ≤ L) (hpl : parts.length ≤ 10000000) (hL : L ≤ 1000000) : ∀ (l : List Nat) (a b : Nat) (acc : List TR) (z9 : Sl), Lens a b acc → a + l.length ≤ 1000000 → b + l.length * L ≤ 1000000 → (parts.length = 0 ∨ acc.length * parts.length ^ l.length ≤ 10000000) →
    ∃ z, fLoop (gS 9) timBody (l.map fun (i : Nat) => PyData.int (0 + (i : Int))) [R, .val (.str "repeat"), F, z3, z4, .val (.list (parts.map prD)), m0, r0, .val (.list (acc.map trD)), z9, z10] = some (.nx, [R, .val (.str "repeat"), F, z3, z4, .val (.list (parts.map prD)), m0, r0, .val (.list ((timesR parts [] l.length acc).map trD)), z, z10])
  | [], a, b, acc, z9, _, _, _, _ => ⟨z9, by simp only [List.map_nil, loop_n, List.length_nil, timesR]⟩
  | x :: l, a, b, acc, z9, hl, ha, hb, hm => by
    rw [List.length_cons] at ha hb hm
    rw [Nat.succ_mul] at hb
    have m1 : acc.length * parts.length ≤ 10000000 := by
      rcases hm with hm | hm
      · rw [hm]; omega
      · by_cases h0 : parts.length = 0
        · rw [h0]; omega
        · refine Nat.le_trans (Nat.mul_le_mul_left _ ?_) hm
          rw [Nat.pow_succ]
          exact Nat.le_mul_of_pos_left _ (Nat.pow_pos (by omega))
    have m2 : parts.length = 0 ∨ (besideG acc parts []).length * parts.length ^ l.length ≤ 10000000 := by
      rcases hm with hm | hm
      · exact .inl hm
      · refine .inr ?_
        rw [beside_len, Nat.mul_assoc, Nat.mul_comm parts.length, ← Nat.pow_succ]
        exact hm
    have hbl := beside_lens (ahead := []) hl hp
    obtain ⟨z, ih⟩ := tim_loop (R := R) (F := F) (m0 := m0) (r0 := r0) (z3 := z3) (z4 := z4) (z10 := z10) hp hpl hL l (a + 1) (b + ([] : List Int).length + L) (besideG acc parts []) (.val (.int (0 + (x : Int)))) hbl (by omega) (by rw [List.length_nil]; omega) m2
    have hb2 := m_beside (rows := acc) (parts := parts) (ahead := []) (Nat.zero_le _) (fun p h => by have := hp p h; omega) hpl (big_lens hl (by omega) (by omega)) m1
    simp only [rowD, List.map_nil] at hb2
    refine ⟨z, ?_⟩
    rw [List.length_cons, timesR, ← ih, List.map_cons, loop_c]
    simp only [fSeq, fIfS, fRet, fAsg, fOwn, fApp, fExt, fBrk, fCnt, fDrop, fFrz, frz, fNext, fFor, fB, fAnd, fOr, fNot, fAndV, fOrV, fNotV, fIf, fChain, fOp, fUn, fVar, fC, fTup, fLst, fV, fCons, fNil, fCall, fCallL, fLenV, fSl, fPart, fNoPart, fStar, fAug, gS, gT, gN, gC, fSeqI, run_1, run_2, run_3, run_4, ix0, ix1, ix2, ix3, then_nx, then_rt, then_bk, then_ct, turn_nx, turn_ct, turn_bk, turn_rt, res_rt, asB_b, gIx_t, gIx_l, gAdd_i, gSub_i, gLt_i, gLe_i, gGt_i, gGe_i, eq_i, eq_s, ne_i, ne_s, gLen_t, gLen_l, gTup_l, gTup_t, strEq, Option.bind_some, List.getElem?_cons_zero, List.getElem?_cons_succ, List.set_cons_zero, List.set_cons_succ, List.replicate_succ, List.replicate_zero, Nat.reduceSub, Nat.reduceAdd, if_true, if_false, decide_true, decide_false, Bool.not_true, Bool.not_false, Bool.false_eq_true, String.reduceEq, reduceIte, List.length_cons, List.length_nil, Nat.reduceLeDiff, lim, timBody, hb2]
def repBody : FS := (fIfS (fB (fChain gLe gLe (fC (.int 0)) (fVar 6) (fC (.int 6)))) (fSeq (fAsg (fV (fLst (fCons (fTup (fCons (fTup fNil) (fCons (fVar 7) fNil))) fNil))) (gS 8))
            (fSeq (fFor (fRng1 (fCons (fVar 6) fNil)) (gS 9) (fAsg (fCall D_beside (fCons (fVar 8) (fCons (fVar 5) (fCons (fTup fNil) fNil)))) (gS 8)))
            (fAsg (fOp gAdd (fVar 2) (fVar 8)) (gS 2)))) fNext)
theorem rep_loop {L : Nat} {parts : List VR} {R : Sl} (hp : ∀ p ∈ parts, p.2.length ≤ L) (hpl : parts.length ≤ 10000000) (hL : L ≤ 100000) : ∀ (l : List VR) (done : List VR) (z6 z7 z8 z9 : Sl), (∀ p ∈ l, (∃ m, p.1 = .int m) ∧ p.2.length ≤ L) → done.length + (l.flatMap (repeatRows parts)).length ≤ 10000000 →
    resF (fThen (fLoop (gT 2 (gC (gS 6) (gC (gS 7) gN))) repBody (l.map prD) [R, .val (.str "repeat"), .val (.list (done.map prD)), .un, .un, .val (.list (parts.map prD)), z6, z7, z8, z9, .un]) (fRet (fVar 2))) = some (.list ((done ++ l.flatMap (repeatRows parts)).map prD))
  | [], done, z6, z7, z8, z9, _, _ => by
    simp only [fSeq, fIfS, fRet, fAsg, fOwn, fApp, fExt, fBrk, fCnt, fDrop, fFrz, frz, fNext, fFor, fB, fAnd, fOr, fNot, fAndV, fOrV, fNotV, fIf, fChain, fOp, fUn, fVar, fC, fTup, fLst, fV, fCons, fNil, fCall, fCallL, fLenV, fSl, fPart, fNoPart, fStar, fAug, gS, gT, gN, gC, fSeqI, run_1, run_2, run_3, run_4, ix0, ix1, ix2, ix3, then_nx, then_rt, then_bk, then_ct, turn_nx, turn_ct, turn_bk, turn_rt, res_rt, asB_b, gIx_t, gIx_l, gAdd_i, gSub_i, gLt_i, gLe_i, gGt_i, gGe_i, eq_i, eq_s, ne_i, ne_s, gLen_t, gLen_l, gTup_l, gTup_t, strEq, Option.bind_some, List.getElem?_cons_zero, List.getElem?_cons_succ, List.set_cons_zero, List.set_cons_succ, List.replicate_succ, List.replicate_zero, Nat.reduceSub, Nat.reduceAdd, if_true, if_false, decide_true, decide_false, Bool.not_true, Bool.not_false, Bool.false_eq_true, String.reduceEq, reduceIte, List.length_cons, List.length_nil, Nat.reduceLeDiff, lim, List.map_nil, loop_n, List.flatMap_nil, List.append_nil]
  | (v, row) :: l, done, z6, z7, z8, z9, hl, hm => by
    obtain ⟨⟨m, hv⟩, hrow⟩ := hl (v, row) List.mem_cons_self
    have hv : v = .int m := hv
    subst hv
    rw [List.flatMap_cons, List.length_append] at hm
    rw [List.flatMap_cons, ← List.append_assoc]
    by_cases hc : 0 ≤ m ∧ m ≤ 6
    · have hc' : (decide (0 ≤ m) && decide (m ≤ 6)) = true := by rw [decide_eq_true hc.1, decide_eq_true hc.2]; rfl
      have hrr : repeatRows parts (.int m, row) = (timesR parts [] m.toNat [([], row)]).map tupR := by
        unfold repeatRows
        exact if_pos hc'
      have hrow : row.length ≤ L := hrow
      have hq : m.toNat * L ≤ 6 * L := Nat.mul_le_mul_right _ (by omega)
      have hlen : (repeatRows parts (.int m, row)).length = parts.length ^ m.toNat := by
        rw [hrr, List.length_map, times_count]
        simp
      rw [hlen] at hm
      obtain ⟨z, e⟩ := tim_loop (L := L) (R := R) (F := .val (.list (done.map prD))) (m0 := .val (.int m)) (r0 := .val (rowD row)) (z3 := .un) (z4 := .un) (z10 := .un) hp hpl (by omega) (List.range m.toNat) 0 row.length [([], row)] z9 (fun r hr => by cases List.mem_singleton.mp hr; exact ⟨Nat.le_refl _, Nat.le_refl _⟩) (by rw [List.length_range]; omega) (by rw [List.length_range]; omega) (.inr (by rw [List.length_range]; simp; omega))
      rw [List.length_range] at e
      have ih := rep_loop (R := R) hp hpl hL l (done ++ repeatRows parts (.int m, row)) (.val (.int m)) (.val (rowD row)) (.val (.list ((timesR parts [] m.toNat [([], row)]).map trD))) z (fun p h => hl p (List.mem_cons_of_mem _ h)) (by rw [List.length_append, hlen]; omega)
      have hz : done.length + (timesR parts [] m.toNat [([], row)]).length ≤ 10000000 := by
        rw [times_count]
        simp only [List.length_cons, List.length_nil, Nat.zero_add, Nat.one_mul]
        omega
      have hmz : -10000000 ≤ m ∧ m ≤ 10000000 := by omega
      have etr : (timesR parts [] m.toNat [([], row)]).map trD = (repeatRows parts (.int m, row)).map prD := by
        rw [hrr, List.map_map]
        rfl
      rw [etr] at e ih
      have hz2 : done.length + (repeatRows parts (.int m, row)).length ≤ 10000000 := by rw [hlen]; omega
      simp only [trD, prD, tupR, rowD, List.map_cons, List.map_nil, timBody] at e
      rw [← ih, List.map_cons, loop_c]
      simp only [fSeq, fIfS, fRet, fAsg, fOwn, fApp, fExt, fBrk, fCnt, fDrop, fFrz, frz, fNext, fFor, fB, fAnd, fOr, fNot, fAndV, fOrV, fNotV, fIf, fChain, fOp, fUn, fVar, fC, fTup, fLst, fV, fCons, fNil, fCall, fCallL, fLenV, fSl, fPart, fNoPart, fStar, fAug, gS, gT, gN, gC, fSeqI, run_1, run_2, run_3, run_4, ix0, ix1, ix2, ix3, then_nx, then_rt, then_bk, then_ct, turn_nx, turn_ct, turn_bk, turn_rt, res_rt, asB_b, gIx_t, gIx_l, gAdd_i, gSub_i, gLt_i, gLe_i, gGt_i, gGe_i, eq_i, eq_s, ne_i, ne_s, gLen_t, gLen_l, gTup_l, gTup_t, strEq, Option.bind_some, List.getElem?_cons_zero, List.getElem?_cons_succ, List.set_cons_zero, List.set_cons_succ, List.replicate_succ, List.replicate_zero, Nat.reduceSub, Nat.reduceAdd, if_true, if_false, decide_true, decide_false, Bool.not_true, Bool.not_false, Bool.false_eq_true, String.reduceEq, reduceIte, List.length_cons, List.length_nil, Nat.reduceLeDiff, lim, repBody, prD, rowD, hc.1, hc.2, fRng1, hmz, and_self, rngD, e]
      simp only [fSeq, fIfS, fRet, fAsg, fOwn, fApp, fExt, fBrk, fCnt, fDrop, fFrz, frz, fNext, fFor, fB, fAnd, fOr, fNot, fAndV, fOrV, fNotV, fIf, fChain, fOp, fUn, fVar, fC, fTup, fLst, fV, fCons, fNil, fCall, fCallL, fLenV, fSl, fPart, fNoPart, fStar, fAug, gS, gT, gN, gC, fSeqI, run_1, run_2, run_3, run_4, ix0, ix1, ix2, ix3, then_nx, then_rt, then_bk, then_ct, turn_nx, turn_ct, turn_bk, turn_rt, res_rt, asB_b, gIx_t, gIx_l, gAdd_i, gSub_i, gLt_i, gLe_i, gGt_i, gGe_i, eq_i, eq_s, ne_i, ne_s, gLen_t, gLen_l, gTup_l, gTup_t, strEq, Option.bind_some, List.getElem?_cons_zero, List.getElem?_cons_succ, List.set_cons_zero, List.set_cons_succ, List.replicate_succ, List.replicate_zero, Nat.reduceSub, Nat.reduceAdd, if_true, if_false, decide_true, decide_false, Bool.not_true, Bool.not_false, Bool.false_eq_true, String.reduceEq, reduceIte, List.length_cons, List.length_nil, Nat.reduceLeDiff, lim, gAdd_l, List.length_map, hz2, List.map_append, prD, rowD]
    · have hc' : ¬ (decide (0 ≤ m) && decide (m ≤ 6)) = true := fun h => hc ⟨of_decide_eq_true (Bool.and_eq_true_iff.mp h).1, of_decide_eq_true (Bool.and_eq_true_iff.mp h).2⟩
      have hrr : repeatRows parts (.int m, row) = [] := by
        unfold repeatRows
        exact if_neg hc'
      rw [hrr, List.append_nil]
      have ih := rep_loop (R := R) hp hpl hL l done (.val (.int m)) (.val (rowD row)) z8 z9 (fun p h => hl p (List.mem_cons_of_mem _ h)) (by omega)
      rw [← ih, List.map_cons, loop_c]
      by_cases h0 : 0 ≤ m
      · have h6 : ¬ m ≤ 6 := fun h => hc ⟨h0, h⟩
        simp only [fSeq, fIfS, fRet, fAsg, fOwn, fApp, fExt, fBrk, fCnt, fDrop, fFrz, frz, fNext, fFor, fB, fAnd, fOr, fNot, fAndV, fOrV, fNotV, fIf, fChain, fOp, fUn, fVar, fC, fTup, fLst, fV, fCons, fNil, fCall, fCallL, fLenV, fSl, fPart, fNoPart, fStar, fAug, gS, gT, gN, gC, fSeqI, run_1, run_2, run_3, run_4, ix0, ix1, ix2, ix3, then_nx, then_rt, then_bk, then_ct, turn_nx, turn_ct, turn_bk, turn_rt, res_rt, asB_b, gIx_t, gIx_l, gAdd_i, gSub_i, gLt_i, gLe_i, gGt_i, gGe_i, eq_i, eq_s, ne_i, ne_s, gLen_t, gLen_l, gTup_l, gTup_t, strEq, Option.bind_some, List.getElem?_cons_zero, List.getElem?_cons_succ, List.set_cons_zero, List.set_cons_succ, List.replicate_succ, List.replicate_zero, Nat.reduceSub, Nat.reduceAdd, if_true, if_false, decide_true, decide_false, Bool.not_true, Bool.not_false, Bool.false_eq_true, String.reduceEq, reduceIte, List.length_cons, List.length_nil, Nat.reduceLeDiff, lim, repBody, prD, rowD, h0, h6]
      · simp only [fSeq, fIfS, fRet, fAsg, fOwn, fApp, fExt, fBrk, fCnt, fDrop, fFrz, frz, fNext, fFor, fB, fAnd, fOr, fNot, fAndV, fOrV, fNotV, fIf, fChain, fOp, fUn, fVar, fC, fTup, fLst, fV, fCons, fNil, fCall, fCallL, fLenV, fSl, fPart, fNoPart, fStar, fAug, gS, gT, gN, gC, fSeqI, run_1, run_2, run_3, run_4, ix0, ix1, ix2, ix3, then_nx, then_rt, then_bk, then_ct, turn_nx, turn_ct, turn_bk, turn_rt, res_rt, asB_b, gIx_t, gIx_l, gAdd_i, gSub_i, gLt_i, gLe_i, gGt_i, gGe_i, eq_i, eq_s, ne_i, ne_s, gLen_t, gLen_l, gTup_l, gTup_t, strEq, Option.bind_some, List.getElem?_cons_zero, List.getElem?_cons_succ, List.set_cons_zero, List.set_cons_succ, List.replicate_succ, List.replicate_zero, Nat.reduceSub, Nat.reduceAdd, if_true, if_false, decide_true, decide_false, Bool.not_true, Bool.not_false, Bool.false_eq_true, String.reduceEq, reduceIte, List.length_cons, List.length_nil, Nat.reduceLeDiff, lim, repBody, prD, rowD, h0]
theorem m_arepeat {L : Nat} {g h : Gn} (hd1 : AllOk d g) (hd2 : AllOk d h) (hp : ∀ p ∈ rowsOf h, p.2.length ≤ L) (hpl : (rowsOf h).length ≤ 10000000) (hL : L ≤ 100000) (hl : ∀ p ∈ rowsOf g, (∃ m, p.1 = .int m) ∧ p.2.length ≤ L) (hm : ((rowsOf g).flatMap (repeatRows (rowsOf h))).length ≤ 10000000) : runF 11 1 (b__law_all d hol trn D_beside) [(Gn.repeat_ g h).data] = some (.list ((rowsOf (.repeat_ g h)).map prD)) := by
  have e := rep_loop (R := .val (Gn.repeat_ g h).data) hp hpl hL (rowsOf g) [] .un .un .un .un hl (by simpa using hm)
  have hdg : d [g.data] = _ := hd1
  have hdh : d [h.data] = _ := hd2
  rw [rowsOf]
  rw [List.nil_append] at e
  simp only [Gn.data, List.map_nil] at e
  simp only [fSeq, fIfS, fRet, fAsg, fOwn, fApp, fExt, fBrk, fCnt, fDrop, fFrz, frz, fNext, fFor, fB, fAnd, fOr, fNot, fAndV, fOrV, fNotV, fIf, fChain, fOp, fUn, fVar, fC, fTup, fLst, fV, fCons, fNil, fCall, fCallL, fLenV, fSl, fPart, fNoPart, fStar, fAug, gS, gT, gN, gC, fSeqI, run_1, run_2, run_3, run_4, ix0, ix1, ix2, ix3, then_nx, then_rt, then_bk, then_ct, turn_nx, turn_ct, turn_bk, turn_rt, res_rt, asB_b, gIx_t, gIx_l, gAdd_i, gSub_i, gLt_i, gLe_i, gGt_i, gGe_i, eq_i, eq_s, ne_i, ne_s, gLen_t, gLen_l, gTup_l, gTup_t, strEq, Option.bind_some, List.getElem?_cons_zero, List.getElem?_cons_succ, List.set_cons_zero, List.set_cons_succ, List.replicate_succ, List.replicate_zero, Nat.reduceSub, Nat.reduceAdd, if_true, if_false, decide_true, decide_false, Bool.not_true, Bool.not_false, Bool.false_eq_true, String.reduceEq, reduceIte, List.length_cons, List.length_nil, Nat.reduceLeDiff, lim, b__law_all, Gn.data, hdg, hdh]
  exact ret_skip e
end Fb
namespace Fb
open PySem PySem.Spec PyProof.Rows L2 Evl CrT Cr Sm
variable {d hol trn : Fn}
/-! ### lists -/
def lisBody : FS := (fIfS (fB (fOp gLt (fVar 6) (fOp gIx (fVar 0) (fC (.int 2))))) (fAsg (fCall D_beside (fCons (fVar 8) (fCons (fVar 5) (fCons (fTup fNil) fNil)))) (gS 8)) (fSeq (fAsg (fOp gAdd (fVar 2) (fV (fComp (fSeqI (fVar 8)) (gT 2 (gC (gS 10) (gC (gS 7) gN))) (fun _ => some true) (fTup (fCons (fVar 10) (fCons (fOp gAdd (fVar 7) (fTup (fCons (fC (.int 0)) fNil))) fNil))) [10, 7]))) (gS 2))
          (fAsg (fCall D_beside (fCons (fVar 8) (fCons (fVar 5) (fCons (fTup (fCons (fC (.int 1)) fNil)) fNil)))) (gS 8))))
theorem lis_loop {L c B : Nat} {parts : List VR} {gd : PyData} {a b : Int} {z3 z4 z9 : Sl} (hp : ∀ p ∈ parts, p.2.length ≤ L) (hc0 : 0 < c) (hpc : parts.length ≤ c) (hcB : c ≤ 10000000) (hL : L ≤ 100000) (hB : B ≤ 1000000) : ∀ (l : List Nat) (m : Nat) (s : List TR × List VR) (z6 : Sl), Lens m (m * (L + 1)) s.1 → (m + l.length) ≤ 6 → s.1.length * c ^ l.length ≤ B → s.2.length + (l.length + 1) * B ≤ 10000000 →
    resF (fThen (fLoop (gS 6) lisBody (l.map fun (i : Nat) => PyData.int (0 + (i : Int))) [.val (.tuple [.str "list", gd, .int a, .int b]), .val (.str "list"), .val (.list (s.2.map prD)), z3, z4, .val (.list (parts.map prD)), z6, .un, .val (.list (s.1.map trD)), z9, .un]) (fRet (fOp gAdd (fVar 2) (fVar 8)))) = some (.list (((l.foldl (listStep parts a) s).2 ++ (l.foldl (listStep parts a) s).1.map tupR).map prD))
  | [], m, s, z6, hs, hm, h1, h2 => by
    rw [List.length_nil, Nat.pow_zero, Nat.mul_one] at h1
    rw [List.length_nil] at h2
    have hz : s.2.length + s.1.length ≤ 10000000 := by omega
    simp only [fSeq, fIfS, fRet, fAsg, fOwn, fApp, fExt, fBrk, fCnt, fDrop, fFrz, frz, fNext, fFor, fB, fAnd, fOr, fNot, fAndV, fOrV, fNotV, fIf, fChain, fOp, fUn, fVar, fC, fTup, fLst, fV, fCons, fNil, fCall, fCallL, fLenV, fSl, fPart, fNoPart, fStar, fAug, gS, gT, gN, gC, fSeqI, run_1, run_2, run_3, run_4, ix0, ix1, ix2, ix3, then_nx, then_rt, then_bk, then_ct, turn_nx, turn_ct, turn_bk, turn_rt, res_rt, asB_b, gIx_t, gIx_l, gAdd_i, gSub_i, gLt_i, gLe_i, gGt_i, gGe_i, eq_i, eq_s, ne_i, ne_s, gLen_t, gLen_l, gTup_l, gTup_t, strEq, Option.bind_some, List.getElem?_cons_zero, List.getElem?_cons_succ, List.set_cons_zero, List.set_cons_succ, List.replicate_succ, List.replicate_zero, Nat.reduceSub, Nat.reduceAdd, if_true, if_false, decide_true, decide_false, Bool.not_true, Bool.not_false, Bool.false_eq_true, String.reduceEq, reduceIte, List.length_cons, List.length_nil, Nat.reduceLeDiff, lim, List.map_nil, loop_n, List.foldl_nil, gAdd_l, List.length_map, hz, List.map_append, List.map_map]
    rfl
  | x :: l, m, s, z6, hs, hm, h1, h2 => by
    rw [List.length_cons] at hm h1 h2
    have hmL : m * (L + 1) ≤ 6 * (L + 1) := Nat.mul_le_mul_right _ (by omega)
    have hcl : 1 ≤ c ^ l.length := Nat.pow_pos hc0
    have q1 : s.1.length * c * c ^ l.length ≤ B := by
      rw [Nat.mul_assoc, Nat.mul_comm c, ← Nat.pow_succ]
      exact h1
    have q2 : s.1.length * c ≤ B := Nat.le_trans (Nat.le_mul_of_pos_right _ hcl) q1
    have q3 : s.1.length * parts.length ≤ B := Nat.le_trans (Nat.mul_le_mul_left _ hpc) q2
    have q4 : s.1.length ≤ B := Nat.le_trans (Nat.le_mul_of_pos_right _ hc0) q2
    have q5 : s.1.length * parts.length * c ^ l.length ≤ B := Nat.le_trans (Nat.mul_le_mul_right _ (Nat.mul_le_mul_left _ hpc)) q1
    have e6 : (l.length + 1 + 1) * B = (l.length + 1) * B + B := Nat.succ_mul _ _
    have e7 : (m + 1) * (L + 1) = m * (L + 1) + (L + 1) := Nat.succ_mul _ _
    have hs6 := big_lens hs (by omega) (by omega)
    by_cases hlt : (x : Int) < a
    · have est : listStep parts a s x = (besideG s.1 parts [], s.2) := if_pos hlt
      have hbl : Lens (m + 1) ((m + 1) * (L + 1)) (besideG s.1 parts []) := fun r hr => by
        obtain ⟨w1, w2⟩ := beside_lens (ahead := []) hs hp r hr
        rw [List.length_nil] at w2
        exact ⟨w1, by omega⟩
      have hb2 := m_beside (rows := s.1) (parts := parts) (ahead := []) (Nat.zero_le _) (fun p h => by have := hp p h; omega) (by omega) hs6 (by omega)
      have ih := lis_loop (gd := gd) (a := a) (b := b) (z3 := z3) (z4 := z4) (z9 := z9) hp hc0 hpc hcB hL hB l (m + 1) (besideG s.1 parts [], s.2) (.val (.int (0 + (x : Int)))) hbl (by omega) (by rw [beside_len]; exact q5) (by show s.2.length + _ ≤ _; omega)
      simp only [rowD, List.map_nil] at hb2
      have hlt' : (0 : Int) + (x : Int) < a := by omega
      rw [List.foldl_cons, est, ← ih, List.map_cons, loop_c]
      simp only [fSeq, fIfS, fRet, fAsg, fOwn, fApp, fExt, fBrk, fCnt, fDrop, fFrz, frz, fNext, fFor, fB, fAnd, fOr, fNot, fAndV, fOrV, fNotV, fIf, fChain, fOp, fUn, fVar, fC, fTup, fLst, fV, fCons, fNil, fCall, fCallL, fLenV, fSl, fPart, fNoPart, fStar, fAug, gS, gT, gN, gC, fSeqI, run_1, run_2, run_3, run_4, ix0, ix1, ix2, ix3, then_nx, then_rt, then_bk, then_ct, turn_nx, turn_ct, turn_bk, turn_rt, res_rt, asB_b, gIx_t, gIx_l, gAdd_i, gSub_i, gLt_i, gLe_i, gGt_i, gGe_i, eq_i, eq_s, ne_i, ne_s, gLen_t, gLen_l, gTup_l, gTup_t, strEq, Option.bind_some, List.getElem?_cons_zero, List.getElem?_cons_succ, List.set_cons_zero, List.set_cons_succ, List.replicate_succ, List.replicate_zero, Nat.reduceSub, Nat.reduceAdd, if_true, if_false, decide_true, decide_false, Bool.not_true, Bool.not_false, Bool.false_eq_true, String.reduceEq, reduceIte, List.length_cons, List.length_nil, Nat.reduceLeDiff, lim, lisBody, hlt', hb2]
    · have est : listStep parts a s x = (besideG s.1 parts [1], s.2 ++ s.1.map fun r => tupR (r.1, r.2 ++ [0])) := if_neg hlt
      have hbl : Lens (m + 1) ((m + 1) * (L + 1)) (besideG s.1 parts [1]) := fun r hr => by
        obtain ⟨w1, w2⟩ := beside_lens (ahead := [1]) hs hp r hr
        rw [List.length_cons, List.length_nil] at w2
        exact ⟨w1, by omega⟩
      have hb2 := m_beside (rows := s.1) (parts := parts) (ahead := [1]) (Nat.le_refl _) (fun p h => by have := hp p h; omega) (by omega) hs6 (by omega)
      have ih := lis_loop (gd := gd) (a := a) (b := b) (z3 := z3) (z4 := z4) (z9 := z9) hp hc0 hpc hcB hL hB l (m + 1) (besideG s.1 parts [1], s.2 ++ s.1.map fun r => tupR (r.1, r.2 ++ [0])) (.val (.int (0 + (x : Int)))) hbl (by omega) (by rw [beside_len]; exact q5) (by show (s.2 ++ s.1.map _).length + _ ≤ _; rw [List.length_append, List.length_map]; omega)
      have hcm : fComp (fSeqI (fVar 8)) (gT 2 (gC (gS 10) (gC (gS 7) gN))) (fun _ => some true) (fTup (fCons (fVar 10) (fCons (fOp gAdd (fVar 7) (fTup (fCons (fC (.int 0)) fNil))) fNil))) [10, 7] [.val (.tuple [.str "list", gd, .int a, .int b]), .val (.str "list"), .val (.list (s.2.map prD)), z3, z4, .val (.list (parts.map prD)), .val (.int (0 + (x : Int))), .un, .val (.list (s.1.map trD)), z9, .un] = some (s.1.map fun r => prD (tupR (r.1, r.2 ++ [0]))) := by
        refine fComp_map (l := s.1) (f := trD) (by simp only [fSeq, fIfS, fRet, fAsg, fOwn, fApp, fExt, fBrk, fCnt, fDrop, fFrz, frz, fNext, fFor, fB, fAnd, fOr, fNot, fAndV, fOrV, fNotV, fIf, fChain, fOp, fUn, fVar, fC, fTup, fLst, fV, fCons, fNil, fCall, fCallL, fLenV, fSl, fPart, fNoPart, fStar, fAug, gS, gT, gN, gC, fSeqI, run_1, run_2, run_3, run_4, ix0, ix1, ix2, ix3, then_nx, then_rt, then_bk, then_ct, turn_nx, turn_ct, turn_bk, turn_rt, res_rt, asB_b, gIx_t, gIx_l, gAdd_i, gSub_i, gLt_i, gLe_i, gGt_i, gGe_i, eq_i, eq_s, ne_i, ne_s, gLen_t, gLen_l, gTup_l, gTup_t, strEq, Option.bind_some, List.getElem?_cons_zero, List.getElem?_cons_succ, List.set_cons_zero, List.set_cons_succ, List.replicate_succ, List.replicate_zero, Nat.reduceSub, Nat.reduceAdd, if_true, if_false, decide_true, decide_false, Bool.not_true, Bool.not_false, Bool.false_eq_true, String.reduceEq, reduceIte, List.length_cons, List.length_nil, Nat.reduceLeDiff, lim]) (by omega) fun r hr => ?_
        have w := (hs6 r hr).2
        have e1 : r.2.length + 1 ≤ 10000000 := by omega
        simp only [fSeq, fIfS, fRet, fAsg, fOwn, fApp, fExt, fBrk, fCnt, fDrop, fFrz, frz, fNext, fFor, fB, fAnd, fOr, fNot, fAndV, fOrV, fNotV, fIf, fChain, fOp, fUn, fVar, fC, fTup, fLst, fV, fCons, fNil, fCall, fCallL, fLenV, fSl, fPart, fNoPart, fStar, fAug, gS, gT, gN, gC, fSeqI, run_1, run_2, run_3, run_4, ix0, ix1, ix2, ix3, then_nx, then_rt, then_bk, then_ct, turn_nx, turn_ct, turn_bk, turn_rt, res_rt, asB_b, gIx_t, gIx_l, gAdd_i, gSub_i, gLt_i, gLe_i, gGt_i, gGe_i, eq_i, eq_s, ne_i, ne_s, gLen_t, gLen_l, gTup_l, gTup_t, strEq, Option.bind_some, List.getElem?_cons_zero, List.getElem?_cons_succ, List.set_cons_zero, List.set_cons_succ, List.replicate_succ, List.replicate_zero, Nat.reduceSub, Nat.reduceAdd, if_true, if_false, decide_true, decide_false, Bool.not_true, Bool.not_false, Bool.false_eq_true, String.reduceEq, reduceIte, List.length_cons, List.length_nil, Nat.reduceLeDiff, lim, cStep, Sm.wpS, trD, tupR, prD, rowD, gAdd_t, Nat.zero_add, e1, List.length_map, List.map_append, List.map_cons, List.map_nil]
      simp only [rowD, List.map_nil, List.map_cons] at hb2
      have hlt' : ¬ (0 : Int) + (x : Int) < a := by omega
      have hz : s.2.length + s.1.length ≤ 10000000 := by omega
      rw [List.foldl_cons, est, ← ih, List.map_cons, loop_c]
      simp only [fSeq, fIfS, fRet, fAsg, fOwn, fApp, fExt, fBrk, fCnt, fDrop, fFrz, frz, fNext, fFor, fB, fAnd, fOr, fNot, fAndV, fOrV, fNotV, fIf, fChain, fOp, fUn, fVar, fC, fTup, fLst, fV, fCons, fNil, fCall, fCallL, fLenV, fSl, fPart, fNoPart, fStar, fAug, gS, gT, gN, gC, fSeqI, run_1, run_2, run_3, run_4, ix0, ix1, ix2, ix3, then_nx, then_rt, then_bk, then_ct, turn_nx, turn_ct, turn_bk, turn_rt, res_rt, asB_b, gIx_t, gIx_l, gAdd_i, gSub_i, gLt_i, gLe_i, gGt_i, gGe_i, eq_i, eq_s, ne_i, ne_s, gLen_t, gLen_l, gTup_l, gTup_t, strEq, Option.bind_some, List.getElem?_cons_zero, List.getElem?_cons_succ, List.set_cons_zero, List.set_cons_succ, List.replicate_succ, List.replicate_zero, Nat.reduceSub, Nat.reduceAdd, if_true, if_false, decide_true, decide_false, Bool.not_true, Bool.not_false, Bool.false_eq_true, String.reduceEq, reduceIte, List.length_cons, List.length_nil, Nat.reduceLeDiff, lim, lisBody, hlt', hcm, gAdd_l, List.length_map, hz, hb2, List.map_append, List.map_map, Function.comp_def]
theorem m_alist {L : Nat} {g : Gn} {a b : Int} (hd : AllOk d g) (h0 : 0 ≤ a) (hab : a ≤ b) (hb : b ≤ 6) (hp : ∀ p ∈ rowsOf g, p.2.length ≤ L) (hL : L ≤ 100000) (hc0 : 0 < cntG g) (hpc : (rowsOf g).length ≤ cntG g) (hcB : cntG g ≤ 10000000) (hB : cntG g ^ b.toNat ≤ 1000000) : runF 11 1 (b__law_all d hol trn D_beside) [(Gn.list g a b).data] = some (.list ((rowsOf (.list g a b)).map prD)) := by
  have e := lis_loop (gd := g.data) (a := a) (b := b) (z3 := .un) (z4 := .un) (z9 := .un) (B := 1000000) hp hc0 hpc hcB hL (Nat.le_refl _) (List.range b.toNat) 0 ([([], [])], []) .un (fun r hr => by cases List.mem_singleton.mp hr; exact ⟨Nat.le_refl _, Nat.zero_le _⟩) (by rw [List.length_range]; omega) (by rw [List.length_range]; simpa using hB) (by rw [List.length_range]; show 0 + _ ≤ _; omega)
  have hdg : d [g.data] = _ := hd
  have hz : -10000000 ≤ b ∧ b ≤ 10000000 := by omega
  rw [rowsOf, listRows]
  simp only [List.map_nil, List.map_cons, trD, prD, tupR, rowD] at e
  refine Eq.trans ?_ e
  simp only [fSeq, fIfS, fRet, fAsg, fOwn, fApp, fExt, fBrk, fCnt, fDrop, fFrz, frz, fNext, fFor, fB, fAnd, fOr, fNot, fAndV, fOrV, fNotV, fIf, fChain, fOp, fUn, fVar, fC, fTup, fLst, fV, fCons, fNil, fCall, fCallL, fLenV, fSl, fPart, fNoPart, fStar, fAug, gS, gT, gN, gC, fSeqI, run_1, run_2, run_3, run_4, ix0, ix1, ix2, ix3, then_nx, then_rt, then_bk, then_ct, turn_nx, turn_ct, turn_bk, turn_rt, res_rt, asB_b, gIx_t, gIx_l, gAdd_i, gSub_i, gLt_i, gLe_i, gGt_i, gGe_i, eq_i, eq_s, ne_i, ne_s, gLen_t, gLen_l, gTup_l, gTup_t, strEq, Option.bind_some, List.getElem?_cons_zero, List.getElem?_cons_succ, List.set_cons_zero, List.set_cons_succ, List.replicate_succ, List.replicate_zero, Nat.reduceSub, Nat.reduceAdd, if_true, if_false, decide_true, decide_false, Bool.not_true, Bool.not_false, Bool.false_eq_true, String.reduceEq, reduceIte, List.length_cons, List.length_nil, Nat.reduceLeDiff, lim, b__law_all, Gn.data, hdg, fRng1, rngD, hz, and_self, lisBody]
/-! ### all rows, of every generator -/
theorem m_all (hh : HolOk hol) (ht : TrnOk trn) {M : Nat} (hM : M ≤ 1000000) : ∀ (n : Nat) {g : Gn} {kd : Kd}, OkGk 10 n g → n ≤ 6 → GenK g kd → CapG M g → AllOk (D_all hol trn n) g
  | 0, g, kd, h, _, _, _ => absurd h.pos (by omega)
  | n + 1, g, kd, h, hn, hk, hcap => by
    have hp := h.parts
    have s5 : (7 : Nat) ^ n ≤ 7 ^ 5 := Nat.pow_le_pow_right (by decide) (by omega)
    have s5 : (7 : Nat) ^ n ≤ 16807 := s5
    have len : ∀ {g : Gn} {kd : Kd}, OkGk 10 n g → GenK g kd → ∀ p ∈ rowsOf g, p.2.length ≤ 33614 := fun ho hk p hp => by
      have := rows_len hk 10 n ho p hp
      omega
    have cnt : ∀ {g : Gn} {kd : Kd}, GenK g kd → CapG M g → (rowsOf g).length ≤ 1000000 := fun hk hc => Nat.le_trans (rows_cnt hk) (Nat.le_trans hc.cnt hM)
    show runF 11 1 (b__law_all (D_all hol trn n) hol trn D_beside) [g.data] = _
    cases hk with
    | @int lo hi a b c => exact m_aint lo hi a b c
    | @pick ws a b c dd => exact m_apick b
    | @tuple gs ks h4 hl hat =>
      have hc := hcap.cnt
      cases hcap with
      | tuple hcs _ =>
        have hat' : ∀ g ∈ gs, ∃ kd, GenK g kd := fun g hg => by
          obtain ⟨j, hj⟩ := List.mem_iff_getElem?.mp hg
          have hlt := (List.getElem?_eq_some_iff.mp hj).1
          exact ⟨_, hat j g _ hj (List.getElem?_eq_getElem (by omega))⟩
        rw [cntG] at hc
        refine m_atuple (L := 33614) h4 (by omega) (fun g hg => ?_) (by omega)
        obtain ⟨kd, hkg⟩ := hat' g hg
        have := (hcs g hg).cnt
        exact ⟨m_all hh ht hM n (hp g hg) (by omega) hkg (hcs g hg), len (hp g hg) hkg, rows_cnt hkg, cnt_pos hkg, by omega⟩
    | @list g k a b hg h0 hab hb =>
      have hc := hcap.cnt
      cases hcap with
      | list hcs _ =>
        have ho := hp g (List.mem_singleton.mpr rfl)
        have h1 := hcs.cnt
        have h2 : cntG g ^ b.toNat ≤ cntG (.list g a b) := by
          rw [cntG]
          exact pow_le_sum (cnt_pos hg) _ _ _ (by omega) (by omega)
        exact m_alist (L := 33614) (m_all hh ht hM n ho (by omega) hg hcs) h0 hab hb (len ho hg) (by omega) (cnt_pos hg) (rows_cnt hg) (by omega) (by omega)
    | @one gs k h0 h4 hat =>
      have hc := cnt (.one h0 h4 hat) hcap
      cases hcap with
      | one hcs _ =>
        rw [rowsOf] at hc
        exact m_aone h4 (fun g hg => m_all hh ht hM n (hp g hg) (by omega) (hat g hg) (hcs g hg)) (fun g hg p h => by have := len (hp g hg) (hat g hg) p h; omega) (fun g hg => by have := cnt (hat g hg) (hcs g hg); omega) (by omega)
    | @kept g k c hg hf =>
      have hoc : OkC 10 c := by cases h with | kept _ hc => exact hc
      cases hcap with
      | kept hcs _ =>
        have ho := hp g (List.mem_singleton.mpr rfl)
        exact m_akept (m_all hh ht hM n ho (by omega) hg hcs) (by have := cnt hg hcs; omega) fun p h => hh c kd p.1 hoc hf (rows_isk hg p h) ((rows_deep hg 10 n ho p h).mono (by omega))
    | @turned g k k' m hg hf =>
      cases hcap with
      | turned hcs _ =>
        have ho := hp g (List.mem_singleton.mpr rfl)
        exact m_aturned (m_all hh ht hM n ho (by omega) hg hcs) (by have := cnt hg hcs; omega) fun p h => ht m k kd p.1 hf (rows_isk hg p h) ((rows_deep hg 10 n ho p h).mono (by omega))
    | @repeat_ g h' k hg hk' =>
      have hc := cnt (.repeat_ hg hk') hcap
      cases hcap with
      | repeat_ hcs1 hcs2 _ =>
        have ho1 := hp g (by simp [partsG])
        have ho2 := hp h' (by simp [partsG])
        rw [rowsOf] at hc
        exact m_arepeat (L := 33614) (m_all hh ht hM n ho1 (by omega) hg hcs1) (m_all hh ht hM n ho2 (by omega) hk' hcs2) (len ho2 hk') (by have := cnt hk' hcs2; omega) (by omega) (fun p h => ⟨isk_int (rows_isk hg p h), len ho1 hg p h⟩) (by omega)
end Fb
namespace Fb
open PySem PySem.Spec PyProof.Rows L2 Evl CrT Cr Sm
def RTurn : List PyData → PyData → Prop := fun ds r => (∃ m k k' v, ds = [Mp.data m, v] ∧ behind m k = some k' ∧ isk k v = true ∧ Dk 20 v) ∧ D_turn ds = some r
noncomputable def D_lturn : Fn := fnOf RTurn
theorem m_lturn : TrnOk D_lturn := fun m k k' v hb hi hd => fnOf_eq (fun r h => by
  have h2 := h.2
  rw [m_turn hb hi hd] at h2
  exact (Option.some.inj h2).symm) ⟨⟨m, k, k', v, rfl, hb, hi, hd⟩, m_turn hb hi hd⟩
theorem lturn_sp {K : PySem.W.Frag} {A : Atm} : ∀ vs H Q E, spF K A D_lturn vs H Q E → spTurn K vs H Q E := fun vs H Q E h => by
  obtain ⟨O, ds, r, ho, hds, hr, q⟩ := h
  obtain ⟨⟨m, k, k', x, rfl, hb, hi, hd⟩, hr⟩ := fnOf_inv hr
  obtain ⟨v, ws, rfl, h1, h2⟩ := hds.head
  obtain ⟨u, rfl, h3⟩ := one_inv h2
  rw [m_turn hb hi hd] at hr
  cases hr
  exact ⟨v, u, m, x, k, k', rfl, h1.vd (flat_mp m), h3.vd (flat_isk k x hi), hi, hb, hd, fun w H' s hw => q w H' s (.of_vd hw)⟩
theorem m_holdsOk : HolOk D_holds := fun c k v hc hf hi hd => m_holds hc hf hi hd
def ROut : List PyData → PyData → Prop := fun ds r => (∃ g kd row, ∃ at_ : Nat, ds = [Gn.data g, rowD row, .int (at_ : Int)] ∧ OkGk 10 6 g ∧ GenK g kd ∧ row.length ≤ 1000000) ∧ D_from D_holds D_turn 6 ds = some r
noncomputable def D_lout : Fn := fnOf ROut
theorem m_lout {g : Gn} {kd : Kd} {row : List Int} (ho : OkGk 10 6 g) (hk : GenK g kd) (hr : row.length ≤ 1000000) : D_lout [g.data, rowD row, .int 0] = some (outG g row 0).data := by
  have e : D_from D_holds D_turn 6 [g.data, rowD row, .int 0] = some (outG g row 0).data := m_from m_holdsOk (fun m k k' v hb hi hd => m_turn hb hi hd) row 6 ho (by omega) hk 0
  exact fnOf_eq (fun r h => by
    have h2 := h.2
    rw [e] at h2
    exact (Option.some.inj h2).symm) ⟨⟨g, kd, row, 0, rfl, ho, hk, hr⟩, e⟩
theorem flat_row (row : List Int) : flatD (rowD row) = true := by
  unfold rowD
  rw [flatD]
  exact flatDs_of fun d hd => by
    obtain ⟨i, _, rfl⟩ := List.mem_map.mp hd
    rw [flatD]
theorem lout_sp {K : PySem.W.Frag} {A : Atm} : ∀ vs H Q E, spF K A D_lout vs H Q E → spOut K 6 vs H Q E := fun vs H Q E h => by
  obtain ⟨O, ds, r, ho, hds, hr, q⟩ := h
  obtain ⟨⟨g, kd, row, at_, rfl, hg, hk, hrow⟩, hr⟩ := fnOf_inv hr
  obtain ⟨v, ws, rfl, h1, h2⟩ := hds.head
  obtain ⟨u, ws, rfl, h3, h4⟩ := h2.head
  obtain ⟨x, rfl, h5⟩ := one_inv h4
  cases h5.int_inv
  rw [m_from m_holdsOk (fun m k k' v hb hi hd => m_turn hb hi hd) row 6 hg (by omega) hk at_] at hr
  cases hr
  exact ⟨v, u, g, kd, row, at_, 10, rfl, h1.vd (flat_gn hg), h3.vd (flat_row row), hg, hk, hrow, by omega, by omega, fun w H' s hw => q w H' s (.of_vd hw)⟩
noncomputable def D_all10 : Fn := D_all D_holds D_lturn 6
noncomputable def D_draw10 : Fn := D_draw (D_from D_holds D_turn 6)
theorem m_draw10 {g : Gn} {kd : Kd} {row : List Int} (ho : OkGk 10 6 g) (hk : GenK g kd) : D_draw10 [g.data, rowD row] = some (outG g row 0).data := m_draw (m_from m_holdsOk (fun m k k' v hb hi hd => m_turn hb hi hd) row 6 ho (by omega) hk)
theorem m_all10 {g : Gn} {kd : Kd} {M : Nat} (hM : M ≤ 1000000) (ho : OkGk 10 6 g) (hk : GenK g kd) (hc : CapG M g) : D_all10 [g.data] = some (.list ((rowsOf g).map prD)) := m_all m_holdsOk m_lturn hM 6 ho (by omega) hk hc
/-- an outcome is equal to itself -/
theorem out_shaped {g : Gn} {kd : Kd} {row : List Int} (ho : OkGk 10 6 g) (hk : GenK g kd) : SeqAt.shaped (outG g row 0).data = true := by
  have h := out_deep hk row 10 6 ho 0
  cases e : outG g row 0 with
  | val v n =>
    have hv := h v n e
    exact (Dk.tup (n := 6) (ds := [.str "value", v, .int n]) (by show 3 ≤ 60; decide) (fun d hd => by
      simp only [List.mem_cons, List.not_mem_nil, or_false] at hd
      rcases hd with rfl | rfl | rfl
      · exact .str (by decide +kernel) (by decide +kernel)
      · exact hv
      · exact .int _)).shaped (by omega)
  | _ =>
    exact (Dk.tup (n := 6) (by show 2 ≤ 60; decide) (fun d hd => by
      simp only [List.mem_cons, List.not_mem_nil, or_false] at hd
      rcases hd with rfl | rfl
      · exact .str (by decide +kernel) (by decide +kernel)
      · exact .int _)).shaped (by omega)
theorem ne_tup {ds : List PyData} (h : SeqAt.shaped (.tuple ds) = true) : gNe (.tuple ds) (.tuple ds) = some (.bool false) := by
  show (if SeqAt.shaped (.tuple ds) && SeqAt.shaped (.tuple ds) then some (PyData.eqv (.tuple ds) (.tuple ds)) else none).bind _ = _
  rw [h, SeqAt.eqv_refl _ (SeqAt.canLay_of_shaped h)]
  rfl
theorem ne_out {g : Gn} {kd : Kd} {row : List Int} (ho : OkGk 10 6 g) (hk : GenK g kd) : gNe (outG g row 0).data (outG g row 0).data = some (.bool false) := by
  have h := out_shaped (row := row) ho hk
  generalize outG g row 0 = o at h ⊢
  cases o <;> exact ne_tup h
end Fb
namespace K10
open PySem PySem.Spec PyProof.Rows L2 Evl Cr CrT
def topS (i : Nat) : Stmt := PySem.Challenge.pw_choicerows_k10_outcomes_of_draws.main.body.getD i (.Pass ⟨0, 0, 0, 0⟩)
structure Tx (mg : Str → Option Value) : Prop where
  z_len : mg "len" = none
  z_all : mg "all" = none
  z_any : mg "any" = none
  z_isinstance : mg "isinstance" = none
  z_tuple : mg "tuple" = none
  z_list : mg "list" = none
  z_int : mg "int" = none
  z_str : mg "str" = none
  z_bool : mg "bool" = none
  z_range : mg "range" = none
  z_zip : mg "zip" = none
  z_enumerate : mg "enumerate" = none
  z_sum : mg "sum" = none
  z_sorted : mg "sorted" = none
  z_min : mg "min" = none
  z_max : mg "max" = none
  m_LONG : ∃ t, mg "LONG" = some (.int 6 t)

section
variable {P : Program} {w : World} {K : PySem.W.Frag} {mg : Str → Option Value} {base : Heap}
end
end K10
namespace K10
open PySem PySem.Spec PyProof.Rows L2 Evl Cr CrT
section
variable {P : Program} {w : World} {K : PySem.W.Frag} {mg : Str → Option Value} {base : Heap}
abbrev s__law_listed : Stmt := topS 32
abbrev N__law_listed : List Str := ["gen", "row", "at", "values", "many", "told"]
theorem sc__law_listed : FnScope N__law_listed ["gen", "row", "at"] (defScope s__law_listed) := ⟨rfl, rfl, rfl, by decide +kernel, rfl, by decide +kernel, by decide +kernel⟩
theorem ok__law_listed {f : Addr} {fd : FuncData} {n N : Nat} (T : Tx mg) (F : Fun K "_law_listed" "_law_listed" s__law_listed f fd) (c__law_outcome : Cl P w K mg base "_law_outcome" ["gen", "row", "at"] N (spOut K n)) : FnOk P w K mg base CX0 (N + 1) f fd ["gen", "row", "at"] (spListed K n) := by
  refine F.ok sc__law_listed (fun vs H Q E h => ?_) (fun cdv A outer s H vs Q E hr h => ?_)
  · obtain ⟨v, u, g, kd, row, at_, k, a, b, rfl, _⟩ := h
    rfl
  obtain ⟨v, u, g, kd, row, at_, k, a, b, rfl, hv, hu, hg, hgk, ha, hab, hb, hl, ⟨hk, hn⟩, q⟩ := h
  refine ⟨_, (pss_cons (ps_set (i := 3) sc__law_listed.nd rfl (Or.inl rfl) (pe_tup pa_nil))
      (pss_cons (ps_for PassesOwn.never rfl (pi_range1 (by rfl) T.z_range (pa_cons (pe_ix (r := rIxT K) ix_tup (pv 0) pe_int (fun _ _ => rfl)) pa_nil)) (pg_name (i := 4) sc__law_listed.nd rfl (Or.inl rfl)) (pss_cons (ps_if (pt_cmpR op_ge (pv 4) (pe_ix (r := rIxT K) ix_tup (pv 0) pe_int (fun _ _ => rfl)) (nomark _)) (pss_cons (ps_if (pt_cmpR op_ge (pv 2) (pe_callB call_len_seq (by rfl) T.z_len PySem.boot_len (pa_cons (pv 1) pa_nil)) (nomark _)) (pss_one (ps_ret (pe_tup (pa_cons pe_str (pa_cons (pe_callB call_len_seq (by rfl) T.z_len PySem.boot_len (pa_cons (pv 1) pa_nil)) pa_nil))))) pss_nil)
          (pss_cons (ps_if (pt_not (pt_chain op_le op_le pe_int (pe_ix (r := rIxT K) ix_tup (pv 1) (pv 2) (fun _ _ => rfl)) pe_int)) (pss_one (ps_ret (pe_tup (pa_cons pe_str (pa_cons (pv 2) pa_nil))))) pss_nil)
          (pss_cons (ps_set (i := 2) sc__law_listed.nd rfl (Or.inl rfl) (pe_op op_add (pv 2) pe_int))
          (pss_one (ps_if (pt_cmpR op_eq (pe_ix (r := rIxT K) ix_tup (pv 1) (pe_op op_sub (pv 2) pe_int) (fun _ _ => rfl)) pe_int (nomark _)) (pss_one (ps_ret (pe_tup (pa_cons pe_str (pa_cons (pv 3) (pa_cons (pv 2) pa_nil)))))) pss_nil))))) pss_nil)
        (pss_cons (ps_set (i := 5) sc__law_listed.nd rfl (Or.inl rfl) (pe_call c__law_outcome.ok (hr.mono (by omega)) (by rfl) c__law_outcome.m c__law_outcome.kp c__law_outcome.b .nil pass0 (pa_cons (pe_ix (r := rIxT K) ix_tup (pv 0) pe_int (fun _ _ => rfl)) (pa_cons (pv 1) (pa_cons (pv 2) pa_nil)))))
        (pss_cons (ps_if (pt_cmpR op_ne (pe_ix (r := rIxT K) ix_tup (pv 5) pe_int (fun _ _ => rfl)) pe_str (nomark _)) (pss_one (ps_ret (pv 5))) pss_nil)
        (pss_cons (ps_set (i := 3) sc__law_listed.nd rfl (Or.inl rfl) (pe_op op_catA (pv 3) (pe_tup (pa_cons (pe_ix (r := rIxT K) ix_tup (pv 5) pe_int (fun _ _ => rfl)) pa_nil))))
        (pss_one (ps_set (i := 2) sc__law_listed.nd rfl (Or.inl rfl) (pe_ix (r := rIxT K) ix_tup (pv 5) pe_int (fun _ _ => rfl)))))))))
      (pss_one (ps_ret (pe_tup (pa_cons pe_str (pa_cons (pv 3) (pa_cons (pv 2) pa_nil)))))))), ?_⟩
  rw [Gn.data] at hv
  obtain ⟨p, rfl⟩ := hv.ref
  obtain ⟨xs, hs, hxl, hat⟩ := hv.get
  obtain ⟨c, rfl, hc⟩ := row_sq hu
  match xs, hxl with
  | [x0, x1, x2, x3], _ =>
    have hx1 := hat 1 x1 _ rfl rfl
    cases (hat 2 x2 _ rfl rfl).int_inv
    cases (hat 3 x3 _ rfl rfl).int_inv
    refine q_asgU (eu_tup ea_nil (by decide)) fun p0 H1 hp0 e1 h1 => ?_
    have hb0 : 0 ≤ b := by omega
    refine q_forR1 (n := b) (ea_cons (ev_ixT (j := 3) (ev_var rfl) ev_c (ex_t e1 hs) rfl) ea_nil) (by omega) (fun i σ' H' => ∃ (z4 z5 : Option V) (at1 : Nat) (w : V) (acc : List PyData), σ' = [some (.ref p), some (.ref c), some (.int (at1 : Int)), some w, z4, z5] ∧ Vd K H' w (.tuple acc) ∧ acc.length ≤ i ∧ Same H H' ∧ outList (outG g row) row a b.toNat 0 at_ [] = outList (outG g row) row a (b.toNat - i) i at1 acc)
      (fun H' e => ⟨_, _, at_, _, [], rfl, .t0 (.of (e _ _ h1)), by simp, e1.trans e, rfl⟩) (fun i σ' H' hi hP => ?_) (fun σ' H' hP => ?_)
    · obtain ⟨z4, z5, at1, w, acc, rfl, hw, hal, e, hO⟩ := hP
      obtain ⟨m, hm⟩ : ∃ m, b.toNat - i = m + 1 := ⟨b.toNat - i - 1, by omega⟩
      have hm' : b.toNat - (i + 1) = m := by omega
      rw [hm, outList] at hO
      have us : ∀ {H2}, Same H H2 → Vd K H2 (.ref c) (rowD row) := fun e => hu.keep (Kt.same e)
      refine q_when (b := decide (a ≤ (i : Int))) (et_test (ev_op (ev_var rfl) (ev_ixT (j := 2) (ev_var rfl) ev_c (ex_t e hs) rfl) rv_I0)) (fun hc1 H2 e2 => ?_) (fun hc1 H2 e2 => ?_)
      · have hge : ¬ ((i : Int) < a) := by have := of_decide_eq_true hc1; omega
        rw [if_neg hge] at hO
        refine q_choice (K := K) (row := row) (b := c) (at_ := at1) (bnd := 1) rfl rfl (ex_t (e.trans e2) hc) (fun _ _ => ev_c) (fun r H3 o e3 hr hch => ?_) (fun H3 e3 h0 h1' h2' hch => ?_)
        · rw [hch] at hO
          exact q r H3 ((e.trans e2).trans e3) (by rw [hO]; exact hr)
        · rw [hch] at hO
          refine q_asg (ev_op (ev_var rfl) ev_c rv_I0) fun H4 e4 => ?_
          have e14 := ((e.trans e2).trans e3).trans e4
          have e24 := (e2.trans e3).trans e4
          have hget : row[at1]? = some (row.getD at1 0) := getD_at h0
          have ea1 : (at1 : Int) + 1 = ((at1 + 1 : Nat) : Int) := by omega
          refine s_when (b := decide (row.getD at1 0 = 0)) (et_is (et_test (ev_op (ev_op (x := .ref c) (y := .int (at1 : Int)) (ev_var rfl) (ev_is (ev_op (ev_var rfl) ev_c rv_I0) (by show V.int ((at1 : Int) + 1 - 1) = _; rw [show (at1 : Int) + 1 - 1 = at1 by omega])) (rv_ixT (ex_t e14 hc) (atI_nat (by rw [List.getElem?_map, hget]; rfl)))) ev_c (rv_eq rfl))) (by exact decide_eq_decide.mpr ⟨fun h => V.int.inj h, fun h => congrArg V.int h⟩)) (fun hz H5 e5 => ?_) (fun hz H5 e5 => ?_)
          · have hz' := of_decide_eq_true hz
            rw [if_pos hz'] at hO
            refine s_retU (eu_tup (ea_cons ev_c (ea_cons (ev_var rfl) (ea_cons (ev_var rfl) ea_nil))) (by show 3 ≤ 100000; decide)) fun p3 H6 hp3 e6 h6 => q _ H6 ((e14.trans e5).trans e6) ?_
            rw [hO, Out.data]
            exact .t3 (.of h6) (.str _) (hw.keep (Kt.same ((e24.trans e5).trans e6))) (by rw [← ea1]; exact .int _)
          · have hz' := of_decide_eq_false hz
            rw [if_neg hz'] at hO
            have e15 := e14.trans e5
            have e25 := e24.trans e5
            refine listed_tail (K := K) (n := n) (at_ := at1 + 1) (ex_t e15 hs) (hx1.keep (Kt.same e15)) (us e15) (hw.keep (Kt.same e25)) (by omega) hg hgk hl hk hn (fun hno r H6 e6 hr => ?_) (fun v m2 w2 r H6 ho e6 hw2 => ?_)
            · refine q r H6 (e15.trans e6) ?_
              rw [hO]
              cases ho : outG g row (at1 + 1) with
              | val v m2 => exact absurd ho (hno v m2)
              | _ => rw [ho] at hr; exact hr
            · refine ⟨_, _, m2, w2, acc ++ [v], rfl, hw2, by rw [List.length_append]; show acc.length + 1 ≤ i + 1; omega, e15.trans e6, ?_⟩
              rw [hO, ho, hm']
              rfl
      · have hlt : (i : Int) < a := by have := of_decide_eq_false hc1; omega
        rw [if_pos hlt] at hO
        have e12 := e.trans e2
        refine listed_tail (K := K) (n := n) (at_ := at1) (ex_t e12 hs) (hx1.keep (Kt.same e12)) (us e12) (hw.keep (Kt.same e2)) (by omega) hg hgk hl hk hn (fun hno r H6 e6 hr => ?_) (fun v m2 w2 r H6 ho e6 hw2 => ?_)
        · refine q r H6 (e12.trans e6) ?_
          rw [hO]
          cases ho : outG g row at1 with
          | val v m2 => exact absurd ho (hno v m2)
          | _ => rw [ho] at hr; exact hr
        · refine ⟨_, _, m2, w2, acc ++ [v], rfl, hw2, by rw [List.length_append]; show acc.length + 1 ≤ i + 1; omega, e12.trans e6, ?_⟩
          rw [hO, ho, hm']
          rfl
    · obtain ⟨z4, z5, at1, w, acc, rfl, hw, hal, e, hO⟩ := hP
      rw [show b.toNat - b.toNat = 0 by omega, outList] at hO
      refine s_retU (eu_tup (ea_cons ev_c (ea_cons (ev_var rfl) (ea_cons (ev_var rfl) ea_nil))) (by show 3 ≤ 100000; decide)) fun p3 H6 hp3 e6 h6 => q _ H6 (e.trans e6) ?_
      rw [hO, Out.data]
      exact .t3 (.of h6) (.str _) (hw.keep (Kt.same e6)) (.int _)
end
end K10
namespace K10
open PySem PySem.Spec PyProof.Rows L2 Evl Cr CrT
section
variable {P : Program} {w : World} {K : PySem.W.Frag} {mg : Str → Option Value} {base : Heap}
abbrev s__law_outcome : Stmt := topS 31
abbrev N__law_outcome : List Str := ["gen", "row", "at", "word", "bound", "told", "parts", "values", "part"]
theorem sc__law_outcome : FnScope N__law_outcome ["gen", "row", "at"] (defScope s__law_outcome) := ⟨rfl, rfl, rfl, by decide +kernel, rfl, by decide +kernel, by decide +kernel⟩
theorem ok__law_outcome {f : Addr} {fd : FuncData} {n M : Nat} (T : Tx mg) (F : Fun K "_law_outcome" "_law_outcome" s__law_outcome f fd) (c__law_holds : Cl P w K mg base "_law_holds" ["limit", "value"] 11 (spHolds K 10)) (c__law_turn : Cl P w K mg base "_law_turn" ["some", "value"] 1 (spTurn K))
    (c__law_outcome : Cl P w K mg base "_law_outcome" ["gen", "row", "at"] (M + 12) (spOut K n)) (c__law_listed : Cl P w K mg base "_law_listed" ["gen", "row", "at"] (M + 13) (spListed K n)) : FnOk P w K mg base CX0 (M + 14) f fd ["gen", "row", "at"] (spOut K (n + 1)) := by
  refine F.ok sc__law_outcome (fun vs H Q E h => ?_) (fun cdv A outer s H vs Q E hr h => ?_)
  · obtain ⟨v, u, g, kd, row, at_, k, rfl, _⟩ := h
    rfl
  obtain ⟨v, u, g, kd, row, at_, k, rfl, hv, hu, hg, hgk, hl, hk, hn, q⟩ := h
  refine ⟨_, (pss_cons (ps_set (i := 3) sc__law_outcome.nd rfl (Or.inl rfl) (pe_ix (r := rIxT K) ix_tup (pv 0) pe_int (fun _ _ => rfl)))
      (pss_cons (ps_if (pt_cmpR op_in_seq (pv 3) (pe_lst (pa_cons pe_str (pa_cons pe_str (pa_cons pe_str pa_nil)))) (by rfl)) (pss_cons (ps_if (pt_cmpR op_eq (pv 3) pe_str (nomark _)) (pss_one (ps_set (i := 4) sc__law_outcome.nd rfl (Or.inl rfl) (pe_op op_sub (pe_ix (r := rIxT K) ix_tup (pv 0) pe_int (fun _ _ => rfl)) (pe_ix (r := rIxT K) ix_tup (pv 0) pe_int (fun _ _ => rfl))))) (pss_one (ps_set (i := 4) sc__law_outcome.nd rfl (Or.inl rfl) (pe_op op_sub (pe_callB call_len_seq (by rfl) T.z_len PySem.boot_len (pa_cons (pe_ix (r := rIxT K) ix_tup (pv 0) pe_int (fun _ _ => rfl)) pa_nil)) pe_int))))
        (pss_cons (ps_if (pt_cmpR op_ge (pv 2) (pe_callB call_len_seq (by rfl) T.z_len PySem.boot_len (pa_cons (pv 1) pa_nil)) (nomark _)) (pss_one (ps_ret (pe_tup (pa_cons pe_str (pa_cons (pe_callB call_len_seq (by rfl) T.z_len PySem.boot_len (pa_cons (pv 1) pa_nil)) pa_nil))))) pss_nil)
        (pss_cons (ps_if (pt_not (pt_chain op_le op_le pe_int (pe_ix (r := rIxT K) ix_tup (pv 1) (pv 2) (fun _ _ => rfl)) (pv 4))) (pss_one (ps_ret (pe_tup (pa_cons pe_str (pa_cons (pv 2) pa_nil))))) pss_nil)
        (pss_cons (ps_if (pt_cmpR op_eq (pv 3) pe_str (nomark _)) (pss_one (ps_ret (pe_tup (pa_cons pe_str (pa_cons (pe_op op_add (pe_ix (r := rIxT K) ix_tup (pv 0) pe_int (fun _ _ => rfl)) (pe_ix (r := rIxT K) ix_tup (pv 1) (pv 2) (fun _ _ => rfl))) (pa_cons (pe_op op_add (pv 2) pe_int) pa_nil)))))) pss_nil)
        (pss_cons (ps_if (pt_cmpR op_eq (pv 3) pe_str (nomark _)) (pss_one (ps_ret (pe_tup (pa_cons pe_str (pa_cons (pe_ix (r := rIxT K) ix_tup (pe_ix (r := rIxT K) ix_tup (pv 0) pe_int (fun _ _ => rfl)) (pe_ix (r := rIxT K) ix_tup (pv 1) (pv 2) (fun _ _ => rfl)) (fun _ _ => rfl)) (pa_cons (pe_op op_add (pv 2) pe_int) pa_nil)))))) pss_nil)
        (pss_one (ps_ret (pe_call c__law_outcome.ok (hr.mono (by omega)) (by rfl) c__law_outcome.m c__law_outcome.kp c__law_outcome.b .nil pass0 (pa_cons (pe_ix (r := rIxT K) ix_tup (pe_ix (r := rIxT K) ix_tup (pv 0) pe_int (fun _ _ => rfl)) (pe_ix (r := rIxT K) ix_tup (pv 1) (pv 2) (fun _ _ => rfl)) (fun _ _ => rfl)) (pa_cons (pv 1) (pa_cons (pe_op op_add (pv 2) pe_int) pa_nil))))))))))) pss_nil)
      (pss_cons (ps_if (pt_cmpR op_in_seq (pv 3) (pe_lst (pa_cons pe_str (pa_cons pe_str pa_nil))) (by rfl)) (pss_cons (ps_set (i := 5) sc__law_outcome.nd rfl (Or.inl rfl) (pe_call c__law_outcome.ok (hr.mono (by omega)) (by rfl) c__law_outcome.m c__law_outcome.kp c__law_outcome.b .nil pass0 (pa_cons (pe_ix (r := rIxT K) ix_tup (pv 0) pe_int (fun _ _ => rfl)) (pa_cons (pv 1) (pa_cons (pv 2) pa_nil)))))
        (pss_cons (ps_if (pt_cmpR op_ne (pe_ix (r := rIxT K) ix_tup (pv 5) pe_int (fun _ _ => rfl)) pe_str (nomark _)) (pss_one (ps_ret (pv 5))) pss_nil)
        (pss_cons (ps_if (pt_cmpR op_eq (pv 3) pe_str (nomark _)) (pss_one (ps_ret (pe_tup (pa_cons pe_str (pa_cons (pe_call c__law_turn.ok (hr.mono (by omega)) (by rfl) c__law_turn.m c__law_turn.kp c__law_turn.b .nil pass0 (pa_cons (pe_ix (r := rIxT K) ix_tup (pv 0) pe_int (fun _ _ => rfl)) (pa_cons (pe_ix (r := rIxT K) ix_tup (pv 5) pe_int (fun _ _ => rfl)) pa_nil))) (pa_cons (pe_ix (r := rIxT K) ix_tup (pv 5) pe_int (fun _ _ => rfl)) pa_nil)))))) pss_nil)
        (pss_cons (ps_if (pt_val (pe_call c__law_holds.ok (hr.mono (by omega)) (by rfl) c__law_holds.m c__law_holds.kp c__law_holds.b .nil pass0 (pa_cons (pe_ix (r := rIxT K) ix_tup (pv 0) pe_int (fun _ _ => rfl)) (pa_cons (pe_ix (r := rIxT K) ix_tup (pv 5) pe_int (fun _ _ => rfl)) pa_nil)))) (pss_one (ps_ret (pv 5))) pss_nil)
        (pss_one (ps_ret (pe_tup (pa_cons pe_str (pa_cons (pe_ix (r := rIxT K) ix_tup (pv 5) pe_int (fun _ _ => rfl)) pa_nil))))))))) pss_nil)
      (pss_cons (ps_if (pt_cmpR op_eq (pv 3) pe_str (nomark _)) (pss_one (ps_ret (pe_call c__law_listed.ok (hr.mono (by omega)) (by rfl) c__law_listed.m c__law_listed.kp c__law_listed.b .nil pass0 (pa_cons (pv 0) (pa_cons (pv 1) (pa_cons (pv 2) pa_nil)))))) pss_nil)
      (pss_cons (ps_set (i := 6) sc__law_outcome.nd rfl (Or.inl rfl) (pe_callTy call_list_of (by rfl) T.z_list (by decide +kernel) (pa_cons (pe_ix (r := rIxT K) ix_tup (pv 0) pe_int (fun _ _ => rfl)) pa_nil)))
      (pss_cons (ps_if (pt_cmpR op_eq (pv 3) pe_str (nomark _)) (pss_cons (ps_set (i := 5) sc__law_outcome.nd rfl (Or.inl rfl) (pe_call c__law_outcome.ok (hr.mono (by omega)) (by rfl) c__law_outcome.m c__law_outcome.kp c__law_outcome.b .nil pass0 (pa_cons (pe_ix (r := rIxT K) ix_tup (pv 0) pe_int (fun _ _ => rfl)) (pa_cons (pv 1) (pa_cons (pv 2) pa_nil)))))
        (pss_cons (ps_if (pt_cmpR op_ne (pe_ix (r := rIxT K) ix_tup (pv 5) pe_int (fun _ _ => rfl)) pe_str (nomark _)) (pss_one (ps_ret (pv 5))) pss_nil)
        (pss_cons (ps_set (i := 2) sc__law_outcome.nd rfl (Or.inl rfl) (pe_ix (r := rIxT K) ix_tup (pv 5) pe_int (fun _ _ => rfl)))
        (pss_cons (ps_if (pt_not (pt_chain op_le op_le pe_int (pe_ix (r := rIxT K) ix_tup (pv 5) pe_int (fun _ _ => rfl)) pe_int)) (pss_one (ps_ret (pe_tup (pa_cons pe_str (pa_cons (pv 2) pa_nil))))) pss_nil)
        (pss_one (ps_set (i := 6) sc__law_outcome.nd rfl (Or.inl rfl) (pe_op op_rep (pe_lst (pa_cons (pe_ix (r := rIxT K) ix_tup (pv 0) pe_int (fun _ _ => rfl)) pa_nil)) (pe_ix (r := rIxT K) ix_tup (pv 5) pe_int (fun _ _ => rfl))))))))) pss_nil)
      (pss_cons (ps_set (i := 7) sc__law_outcome.nd rfl (Or.inl rfl) (pe_tup pa_nil))
      (pss_cons (ps_for PassesOwn.never rfl (pi_list (pv 6)) (pg_name (i := 8) sc__law_outcome.nd rfl (Or.inl rfl)) (pss_cons (ps_set (i := 5) sc__law_outcome.nd rfl (Or.inl rfl) (pe_call c__law_outcome.ok (hr.mono (by omega)) (by rfl) c__law_outcome.m c__law_outcome.kp c__law_outcome.b .nil pass0 (pa_cons (pv 8) (pa_cons (pv 1) (pa_cons (pv 2) pa_nil)))))
        (pss_cons (ps_if (pt_cmpR op_ne (pe_ix (r := rIxT K) ix_tup (pv 5) pe_int (fun _ _ => rfl)) pe_str (nomark _)) (pss_one (ps_ret (pv 5))) pss_nil)
        (pss_cons (ps_set (i := 7) sc__law_outcome.nd rfl (Or.inl rfl) (pe_op op_catA (pv 7) (pe_tup (pa_cons (pe_ix (r := rIxT K) ix_tup (pv 5) pe_int (fun _ _ => rfl)) pa_nil))))
        (pss_one (ps_set (i := 2) sc__law_outcome.nd rfl (Or.inl rfl) (pe_ix (r := rIxT K) ix_tup (pv 5) pe_int (fun _ _ => rfl))))))))
      (pss_one (ps_ret (pe_tup (pa_cons pe_str (pa_cons (pv 7) (pa_cons (pv 2) pa_nil)))))))))))))), ?_⟩
  have LL3 : ∀ {x y z : Str} {τ : L2.St} {H' : Hp}, EvA (tCons (tC (.str x)) (tCons (tC (.str y)) (tCons (tC (.str z)) tNil))) τ H' [.str x, .str y, .str z] := ea_cons ev_c (ea_cons ev_c (ea_cons ev_c ea_nil))
  have LL2 : ∀ {x y : Str} {τ : L2.St} {H' : Hp}, EvA (tCons (tC (.str x)) (tCons (tC (.str y)) tNil)) τ H' [.str x, .str y] := ea_cons ev_c (ea_cons ev_c ea_nil)
  obtain ⟨c, rfl, hc⟩ := row_sq hu
  have geti : ∀ {i : Nat}, i < row.length → row[i]? = some (row.getD i 0) := fun h => getD_at h
  cases g with
  | int lo hi =>
    rw [Gn.data] at hv
    obtain ⟨a, x, y, z, rfl, hs, hx, hy, hz⟩ := hv.g3
    cases hx.str_inv
    cases hy.int_inv
    cases hz.int_inv
    refine q_asg (ev_ixT (j := 0) (ev_var rfl) ev_c hs rfl) fun H1 e1 => ?_
    refine takeL e1 rfl LL3 (by show 3 ≤ 100000; decide) rfl (by decide +kernel) fun H2 e2 => ?_
    refine q_if (b := true) (et_is (et_test (ev_op (ev_var rfl) ev_c (rv_eq rfl))) (by decide +kernel)) (fun _ H3 e3 => ?_) (fun h => Bool.noConfusion h)
    refine s_asg (ev_op (ev_ixT (j := 2) (ev_var rfl) ev_c (ex_t (e2.trans e3) hs) rfl) (ev_ixT (j := 1) (ev_var rfl) ev_c (ex_t (e2.trans e3) hs) rfl) rv_I0) fun H4 e34 => ?_
    have e4 := (e2.trans e3).trans e34
    refine q_choice (K := K) (row := row) (b := c) (at_ := at_) (bnd := hi - lo) rfl rfl (ex_t e4 hc) (fun _ _ => ev_var rfl) (fun r H5 o e5 hr hch => ?_) (fun H5 e5 h0 hge hle hch => ?_)
    · exact q r H5 (e4.trans e5) (by rw [outG, hch]; exact hr)
    have e45 := e4.trans e5
    have hrow : ∀ {H'}, Same H H' → ∀ {τ : L2.St}, τ[1]? = some (some (.ref c)) → τ[2]? = some (some (.int (at_ : Int))) → Ev (tOp (rIxT K) (tVar 1) (tVar 2)) τ H' (.int (row.getD at_ 0)) := fun e _ h1 h2 => ev_ixT (ev_var h1) (ev_var h2) (ex_t e hc) (by rw [List.getElem?_map, geti h0]; rfl)
    have ea1 : (at_ : Int) + 1 = ((at_ + 1 : Nat) : Int) := by omega
    refine takeS e45 rfl (by decide +kernel) fun H6 e6 => ?_
    refine s_retU (eu_tup (ea_cons ev_c (ea_cons (ev_op (ev_ixT (j := 1) (ev_var rfl) ev_c (ex_t e6 hs) rfl) (hrow e6 rfl rfl) rv_I0) (ea_cons (ev_op (ev_var rfl) ev_c rv_I0) ea_nil))) (by show 3 ≤ 100000; decide)) fun p H7 hp e7 h7 => q _ H7 (e6.trans e7) ?_
    rw [outG, hch, Out.data]
    exact .t3 (.of h7) (.str _) (.int _) (by rw [← ea1]; exact .int _)
  | pick ws =>
    rw [Gn.data] at hv
    obtain ⟨a, x, y, rfl, hs, hx, hy⟩ := hv.g2
    cases hx.str_inv
    obtain ⟨d, rfl⟩ := hy.ref
    obtain ⟨ys, hys, hyv⟩ := hy.all
    have hyl : ys.length = ws.length := by rw [hyv.1, List.length_map]
    refine q_asg (ev_ixT (j := 0) (ev_var rfl) ev_c hs rfl) fun H1 e1 => ?_
    refine takeL e1 rfl LL3 (by show 3 ≤ 100000; decide) rfl (by decide +kernel) fun H2 e2 => ?_
    refine q_if (b := false) (et_is (et_test (ev_op (ev_var rfl) ev_c (rv_eq rfl))) (by decide +kernel)) (fun h => Bool.noConfusion h) (fun _ H3 e3 => ?_)
    refine s_asg (ev_op (ev_lenT (ev_ixT (j := 1) (ev_var rfl) ev_c (ex_t (e2.trans e3) hs) rfl) (ex_t (e2.trans e3) hys)) ev_c rv_I0) fun H4 e34 => ?_
    have e4 := (e2.trans e3).trans e34
    refine q_choice (K := K) (row := row) (b := c) (at_ := at_) (bnd := (ys.length : Int) - 1) rfl rfl (ex_t e4 hc) (fun _ _ => ev_var rfl) (fun r H5 o e5 hr hch => ?_) (fun H5 e5 h0 hge hle hch => ?_)
    · exact q r H5 (e4.trans e5) (by rw [outG, ← hyl, hch]; exact hr)
    have e45 := e4.trans e5
    have hrow : ∀ {H'}, Same H H' → ∀ {τ : L2.St}, τ[1]? = some (some (.ref c)) → τ[2]? = some (some (.int (at_ : Int))) → Ev (tOp (rIxT K) (tVar 1) (tVar 2)) τ H' (.int (row.getD at_ 0)) := fun e _ h1 h2 => ev_ixT (ev_var h1) (ev_var h2) (ex_t e hc) (by rw [List.getElem?_map, geti h0]; rfl)
    have ea1 : (at_ : Int) + 1 = ((at_ + 1 : Nat) : Int) := by omega
    refine skipS e45 rfl (by decide +kernel) fun H6 e6 => ?_
    refine takeS e6 rfl (by decide +kernel) fun H7 e7 => ?_
    have hcl : (row.getD at_ 0).toNat < ys.length := by omega
    have hat : atI ys (row.getD at_ 0) = some (ys.getD (row.getD at_ 0).toNat .non) := by
      have e : row.getD at_ 0 = (((row.getD at_ 0).toNat : Nat) : Int) := by omega
      rw [e]
      exact atI_nat (getD_at (by simpa using hcl))
    refine s_retU (eu_tup (ea_cons ev_c (ea_cons (ev_op (ev_ixT (j := 1) (ev_var rfl) ev_c (ex_t e7 hs) rfl) (hrow e7 rfl rfl) (rv_ixT (ex_t e7 hys) hat)) (ea_cons (ev_op (ev_var rfl) ev_c rv_I0) ea_nil))) (by show 3 ≤ 100000; decide)) fun p H8 hp e8 h8 => q _ H8 (e7.trans e8) ?_
    rw [outG, ← hyl, hch, Out.data]
    refine .t3 (.of h8) (.str _) ((hyv.2 _ _ _ (getD_at hcl) ?_).keep (Kt.same (e7.trans e8))) (by rw [← ea1]; exact .int _)
    rw [List.getElem?_map, getD_at (a0 := ("" : Str)) (by rw [← hyl]; exact hcl)]
    rfl
  | one gs =>
    have hgp := hg.parts
    have hgo : ∀ g ∈ gs, GenK g kd := by cases hgk with | one _ _ h => exact h
    rw [Gn.data, gnAll_map] at hv
    obtain ⟨a, x, y, rfl, hs, hx, hy⟩ := hv.g2
    cases hx.str_inv
    obtain ⟨d, rfl⟩ := hy.ref
    obtain ⟨ys, hys, hyv⟩ := hy.all
    have hyl : ys.length = gs.length := by rw [hyv.1, List.length_map]
    refine q_asg (ev_ixT (j := 0) (ev_var rfl) ev_c hs rfl) fun H1 e1 => ?_
    refine takeL e1 rfl LL3 (by show 3 ≤ 100000; decide) rfl (by decide +kernel) fun H2 e2 => ?_
    refine q_if (b := false) (et_is (et_test (ev_op (ev_var rfl) ev_c (rv_eq rfl))) (by decide +kernel)) (fun h => Bool.noConfusion h) (fun _ H3 e3 => ?_)
    refine s_asg (ev_op (ev_lenT (ev_ixT (j := 1) (ev_var rfl) ev_c (ex_t (e2.trans e3) hs) rfl) (ex_t (e2.trans e3) hys)) ev_c rv_I0) fun H4 e34 => ?_
    have e4 := (e2.trans e3).trans e34
    refine q_choice (K := K) (row := row) (b := c) (at_ := at_) (bnd := (ys.length : Int) - 1) rfl rfl (ex_t e4 hc) (fun _ _ => ev_var rfl) (fun r H5 o e5 hr hch => ?_) (fun H5 e5 h0 hge hle hch => ?_)
    · exact q r H5 (e4.trans e5) (by rw [outG, ← hyl, hch]; exact hr)
    have e45 := e4.trans e5
    have hrow : ∀ {H'}, Same H H' → ∀ {τ : L2.St}, τ[1]? = some (some (.ref c)) → τ[2]? = some (some (.int (at_ : Int))) → Ev (tOp (rIxT K) (tVar 1) (tVar 2)) τ H' (.int (row.getD at_ 0)) := fun e _ h1 h2 => ev_ixT (ev_var h1) (ev_var h2) (ex_t e hc) (by rw [List.getElem?_map, geti h0]; rfl)
    have ea1 : (at_ : Int) + 1 = ((at_ + 1 : Nat) : Int) := by omega
    refine skipS e45 rfl (by decide +kernel) fun H6 e6 => ?_
    refine skipS e6 rfl (by decide +kernel) fun H7 e7 => ?_
    have hcl : (row.getD at_ 0).toNat < ys.length := by omega
    have hat : atI ys (row.getD at_ 0) = some (ys.getD (row.getD at_ 0).toNat .non) := by
      have e : row.getD at_ 0 = (((row.getD at_ 0).toNat : Nat) : Int) := by omega
      rw [e]
      exact atI_nat (getD_at (by simpa using hcl))
    have hgi : gs[(row.getD at_ 0).toNat]? = some (gs.getD (row.getD at_ 0).toNat (.pick [])) := getD_at (by omega)
    have hmem := List.mem_of_getElem? hgi
    have hyi : Vd K H (ys.getD (row.getD at_ 0).toNat .non) (gs.getD (row.getD at_ 0).toNat (.pick [])).data := hyv.2 _ _ _ (getD_at hcl) (by rw [List.getElem?_map, hgi]; rfl)
    refine (ev_op (ev_ixT (j := 1) (ev_var rfl) ev_c (ex_t e7 hs) rfl) (hrow e7 rfl rfl) (rv_ixT (ex_t e7 hys) hat)) H7 (Ex.refl _) _ fun H8 e8 => ?_
    refine ⟨_, rfl, _, rfl, _, _, rfl, rfl, _, .ref c, gs.getD (row.getD at_ 0).toNat (.pick []), kd, row, at_ + 1, k, (by rw [← ea1]; rfl), hyi.keep (Kt.same (e7.trans e8)), hu.keep (Kt.same (e7.trans e8)), hgp _ hmem, hgo _ hmem, hl, hk, by omega, fun r H9 e9 hr => q r H9 ((e7.trans e8).trans e9) ?_⟩
    rw [outG, ← hyl, hch, outPick_get hgi]
    exact hr
  | kept g cd =>
    rw [Gn.data] at hv
    obtain ⟨a, x, y, z, rfl, hs, hx, hy, hz⟩ := hv.g3
    cases hx.str_inv
    have hgp : OkGk k n g ∧ OkC k cd := by cases hg with | kept h1 h2 => exact ⟨h1, h2⟩
    have hgg : GenK g kd ∧ fitsC cd kd = true := by cases hgk with | kept h1 h2 => exact ⟨h1, h2⟩
    have hgg1 := hgg.1
    refine q_asg (ev_ixT (j := 0) (ev_var rfl) ev_c hs rfl) fun H1 e1 => ?_
    refine skipL e1 rfl LL3 (by show 3 ≤ 100000; decide) rfl (by decide +kernel) fun H2 e2 => ?_
    refine takeL e2 rfl LL2 (by show 2 ≤ 100000; decide) rfl (by decide +kernel) fun H3 e3 => ?_
    refine ⟨_, rfl, a, _, 1, y, rfl, rfl, ex_t e3 hs, rfl, _, rfl, _, rfl, y, .ref c, g, _, row, at_, k, rfl, hy.keep (Kt.same e3), hu.keep (Kt.same e3), hgp.1, hgg1, hl, hk, by omega, fun r H4 e4 hr => ?_⟩
    refine g_name ?_
    try dsimp only
    have e34 := e3.trans e4
    refine q_told (K := K) (o := outG g row at_) (r := r) rfl hr (fun hno H5 e5 => ?_) (fun v m2 a2 x2 ho hra hsa hx2 H5 e5 => ?_)
    · exact q r H5 (e34.trans e5) (by rw [outG, step_no hno]; exact hr.keep (Kt.same e5))
    subst hra
    have e35 := e34.trans e5
    have hvi := out_good hgg1 row at_ v m2 ho
    have hvd := (out_deep hgg1 row k n hgp.1 at_ v m2 ho).mono (show n ≤ 20 by omega)
    refine q_when (b := false) (et_is (et_test (ev_op (ev_var rfl) ev_c (rv_eq rfl))) (by decide +kernel)) (fun h => Bool.noConfusion h) (fun _ H6 e6 => ?_)
    have e56 := e5.trans e6
    refine q_when (b := holdsC cd v) (et_B (ev_callC (ea_cons (ev_ixT (j := 2) (ev_var rfl) ev_c (ex_t (e35.trans e6) hs) rfl) (ea_cons (ev_ixT (j := 1) (ev_var rfl) ev_c (ex_t e56 hsa) rfl) ea_nil)) (holds_call (n := 10) (hz.keep (Kt.same (e35.trans e6))) (hgp.2.mono hk) (hx2.keep (Kt.same e56)) hvd hgg.2 hvi))) (fun hh H7 e7 => ?_) (fun hh H7 e7 => ?_)
    · refine s_ret (ev_var rfl) fun H8 e8 => q _ H8 (((e35.trans e6).trans e7).trans e8) ?_
      have hO : outG (.kept g cd) row at_ = .val v m2 := by
        rw [outG, ho]
        show (if holdsC cd v then Out.val v m2 else .refused m2) = _
        rw [hh, if_pos rfl]
      rw [hO, ← ho]
      exact hr.keep (Kt.same ((e56.trans e7).trans e8))
    · refine s_retU (eu_tup (ea_cons ev_c (ea_cons (ev_ixT (j := 2) (ev_var rfl) ev_c (ex_t (e56.trans e7) hsa) rfl) ea_nil)) (by show 2 ≤ 100000; decide)) fun p H8 hp e8 h8 => q _ H8 (((e35.trans e6).trans e7).trans e8) ?_
      have hO : outG (.kept g cd) row at_ = .refused m2 := by
        rw [outG, ho]
        show (if holdsC cd v then Out.val v m2 else .refused m2) = _
        rw [hh]
        rfl
      rw [hO, Out.data]
      exact .t2 (.of h8) (.str _) (.int _)
  | turned g m =>
    rw [Gn.data] at hv
    obtain ⟨a, x, y, z, rfl, hs, hx, hy, hz⟩ := hv.g3
    cases hx.str_inv
    have hgp : OkGk k n g ∧ True := by cases hg with | turned _ h1 => exact ⟨h1, trivial⟩
    obtain ⟨kd0, hgg1, hbe⟩ : ∃ kd0, GenK g kd0 ∧ behind m kd0 = some kd := by cases hgk with | turned h1 h2 => exact ⟨_, h1, h2⟩
    refine q_asg (ev_ixT (j := 0) (ev_var rfl) ev_c hs rfl) fun H1 e1 => ?_
    refine skipL e1 rfl LL3 (by show 3 ≤ 100000; decide) rfl (by decide +kernel) fun H2 e2 => ?_
    refine takeL e2 rfl LL2 (by show 2 ≤ 100000; decide) rfl (by decide +kernel) fun H3 e3 => ?_
    refine ⟨_, rfl, a, _, 1, y, rfl, rfl, ex_t e3 hs, rfl, _, rfl, _, rfl, y, .ref c, g, _, row, at_, k, rfl, hy.keep (Kt.same e3), hu.keep (Kt.same e3), hgp.1, hgg1, hl, hk, by omega, fun r H4 e4 hr => ?_⟩
    refine g_name ?_
    try dsimp only
    have e34 := e3.trans e4
    refine q_told (K := K) (o := outG g row at_) (r := r) rfl hr (fun hno H5 e5 => ?_) (fun v m2 a2 x2 ho hra hsa hx2 H5 e5 => ?_)
    · exact q r H5 (e34.trans e5) (by rw [outG, step_no hno]; exact hr.keep (Kt.same e5))
    subst hra
    have e35 := e34.trans e5
    have hvi := out_good hgg1 row at_ v m2 ho
    have hvd := (out_deep hgg1 row k n hgp.1 at_ v m2 ho).mono (show n ≤ 20 by omega)
    refine q_when (b := true) (et_is (et_test (ev_op (ev_var rfl) ev_c (rv_eq rfl))) (by decide +kernel)) (fun _ H6 e6 => ?_) (fun h => Bool.noConfusion h)
    have e56 := e5.trans e6
    refine ⟨_, rfl, a, _, 2, z, rfl, rfl, ex_t (e35.trans e6) hs, rfl, _, rfl, a2, _, 1, x2, rfl, rfl, ex_t e56 hsa, rfl, z, x2, m, v, kd0, kd, rfl, hz.keep (Kt.same (e35.trans e6)), hx2.keep (Kt.same e56), hvi, hbe, hvd, fun r3 H7 e7 hr3 => ⟨_, rfl, a2, _, 2, _, rfl, rfl, ex_t (e56.trans e7) hsa, rfl, len3, fun p hp => ?_⟩⟩
    refine q _ _ (((e35.trans e6).trans e7).trans (same_new hp)) ?_
    rw [outG, ho]
    exact .t3 (.of upd_same) (.str _) (hr3.keep (Kt.new hp)) (.int _)
  | list g lo hi =>
    have hv0 := hv
    rw [Gn.data] at hv
    obtain ⟨a, rfl⟩ := hv.ref
    obtain ⟨xs, hs, hxl, hat⟩ := hv.get
    have hgp : OkGk k n g := by cases hg with | list _ _ h => exact h
    obtain ⟨kd', hgg, ha, hab, hb⟩ : ∃ kd', GenK g kd' ∧ 0 ≤ lo ∧ lo ≤ hi ∧ hi ≤ 6 := by cases hgk with | list h1 h2 h3 h4 => exact ⟨_, h1, h2, h3, h4⟩
    match xs, hxl with
    | [x0, x1, x2, x3], _ =>
      cases (hat 0 x0 _ rfl rfl).str_inv
      refine q_asg (ev_ixT (j := 0) (ev_var rfl) ev_c hs rfl) fun H1 e1 => ?_
      refine skipL e1 rfl LL3 (by show 3 ≤ 100000; decide) rfl (by decide +kernel) fun H2 e2 => ?_
      refine skipL e2 rfl LL2 (by show 2 ≤ 100000; decide) rfl (by decide +kernel) fun H3 e3 => ?_
      refine takeS e3 rfl (by decide +kernel) fun H4 e4 => ?_
      exact ⟨_, rfl, _, rfl, _, rfl, .ref a, .ref c, g, kd', row, at_, k, lo, hi, rfl, hv0.keep (Kt.same e4), hu.keep (Kt.same e4), hgp, hgg, ha, hab, hb, hl, ⟨hk, by omega⟩, fun r H5 e5 hr => q r H5 (e4.trans e5) (by rw [outG]; exact hr)⟩
  | tuple gs =>
    have hgp := hg.parts
    have hgl : gs.length ≤ 60 := hg.parts_len
    have hgo : ∀ g ∈ gs, ∃ kd, GenK g kd := by
      cases hgk with
      | tuple _ hlk h =>
        intro g hgm
        obtain ⟨i, hi⟩ := List.mem_iff_getElem?.mp hgm
        exact ⟨_, h i g _ hi (getD_at (a0 := Kd.int) (by have := (List.getElem?_eq_some_iff.mp hi).1; omega))⟩
    rw [Gn.data, gnAll_map] at hv
    obtain ⟨a, x, y, rfl, hs, hx, hy⟩ := hv.g2
    cases hx.str_inv
    obtain ⟨d, rfl⟩ := hy.ref
    obtain ⟨ys, hys, hyv⟩ := hy.all
    refine q_asg (ev_ixT (j := 0) (ev_var rfl) ev_c hs rfl) fun H1 e1 => ?_
    refine skipL e1 rfl LL3 (by show 3 ≤ 100000; decide) rfl (by decide +kernel) fun H2 e2 => ?_
    refine skipL e2 rfl LL2 (by show 2 ≤ 100000; decide) rfl (by decide +kernel) fun H3 e3 => ?_
    refine skipS e3 rfl (by decide +kernel) fun H4 e4 => ?_
    refine ev_ixT (j := 1) (ev_var rfl) ev_c (ex_t e4 hs) rfl H4 (Ex.refl _) _ fun H5 e5 => ⟨d, ys, rfl, .inr (ex_t (e4.trans e5) hys), fun l hl2 => ?_⟩
    refine g_name ?_
    try dsimp only
    have s6 := (e4.trans e5).trans (same_new (o := .lst ys) hl2)
    refine q_when (b := false) (et_is (et_test (ev_op (ev_var rfl) ev_c (rv_eq rfl))) (by decide +kernel)) (fun h => Bool.noConfusion h) (fun _ H7 e7 => ?_)
    exact seq_rest (K := K) (n := n) (gl := gs) (xs := ys) (e7 _ _ upd_same) (hyv.keep (Kt.same (s6.trans e7))) (hu.keep (Kt.same (s6.trans e7))) (fun g hgm => ⟨hgp g hgm, hgo g hgm⟩) hgl hl hk (by omega) fun r H8 e8 hr => q r H8 ((s6.trans e7).trans e8) (by rw [outG]; exact hr)
  | repeat_ g h =>
    have hgp : OkGk k n g ∧ OkGk k n h := by cases hg with | repeat_ h1 h2 => exact ⟨h1, h2⟩
    obtain ⟨kd', hgg1, hgg2⟩ : ∃ kd', GenK g .int ∧ GenK h kd' := by cases hgk with | repeat_ h1 h2 => exact ⟨_, h1, h2⟩
    rw [Gn.data] at hv
    obtain ⟨a, x, y, z, rfl, hs, hx, hy, hz⟩ := hv.g3
    cases hx.str_inv
    obtain ⟨a1, xx, xs1, rfl, hs1, _⟩ := Gn.name hy
    refine q_asg (ev_ixT (j := 0) (ev_var rfl) ev_c hs rfl) fun H1 e1 => ?_
    refine skipL e1 rfl LL3 (by show 3 ≤ 100000; decide) rfl (by decide +kernel) fun H2 e2 => ?_
    refine skipL e2 rfl LL2 (by show 2 ≤ 100000; decide) rfl (by decide +kernel) fun H3 e3 => ?_
    refine skipS e3 rfl (by decide +kernel) fun H4 e4 => ?_
    refine ev_ixT (j := 1) (ev_var rfl) ev_c (ex_t e4 hs) rfl H4 (Ex.refl _) _ fun H5 e5 => ⟨a1, _, rfl, .inr (ex_t (e4.trans e5) hs1), fun l hl2 => ?_⟩
    refine g_name ?_
    try dsimp only
    have s6 := (e4.trans e5).trans (same_new (o := .lst (xx :: xs1)) hl2)
    refine q_when (b := true) (et_is (et_test (ev_op (ev_var rfl) ev_c (rv_eq rfl))) (by decide +kernel)) (fun _ H7 e7 => ?_) (fun h => Bool.noConfusion h)
    have s7 := s6.trans e7
    refine ⟨_, rfl, a, _, 1, .ref a1, rfl, rfl, ex_t s7 hs, rfl, _, rfl, _, rfl, .ref a1, .ref c, g, .int, row, at_, k, rfl, hy.keep (Kt.same s7), hu.keep (Kt.same s7), hgp.1, hgg1, hl, hk, by omega, fun r H8 e8 hr => ?_⟩
    refine g_name ?_
    try dsimp only
    have s8 := s7.trans e8
    refine q_told (K := K) (o := outG g row at_) (r := r) rfl hr (fun hno H9 e9 => ?_) (fun v m2 a2 x2 ho hra hsa hx2 H9 e9 => ?_)
    · exact q r H9 (s8.trans e9) (by rw [outG, step_no hno]; exact hr.keep (Kt.same e9))
    subst hra
    have s9 := s8.trans e9
    have hvi := out_good hgg1 row at_ v m2 ho
    cases v <;> simp [isk] at hvi
    rename_i mi
    cases hx2.int_inv
    refine q_asg (ev_ixT (j := 2) (ev_var rfl) ev_c (ex_t e9 hsa) rfl) fun Ha ea => ?_
    have sa := s9.trans ea
    have e9a := e9.trans ea
    have hO : outG (.repeat_ g h) row at_ = if decide (0 ≤ mi) && decide (mi ≤ 6) then outTimes (outG h row) mi.toNat m2 [] else .refused m2 := by rw [outG, ho]; rfl
    refine q_when (b := !(decide (0 ≤ mi) && decide (mi ≤ 6))) (et_not (et_test (ev_chain ev_c (ev_ixT (j := 1) (ev_var rfl) ev_c (ex_t e9a hsa) rfl) ev_c rv_I0 rv_I0))) (fun hc1 Hb eb => ?_) (fun hc1 Hb eb => ?_)
    · refine s_retU (eu_tup (ea_cons ev_c (ea_cons (ev_var rfl) ea_nil)) (by show 2 ≤ 100000; decide)) fun p Hc hp ec hcp => q _ Hc ((sa.trans eb).trans ec) ?_
      rw [hO, if_neg (fun h => by rw [h] at hc1; cases hc1), Out.data]
      exact .t2 (.of hcp) (.str _) (.int _)
    have hc2 : (decide (0 ≤ mi) && decide (mi ≤ 6)) = true := by
      cases h : (decide (0 ≤ mi) && decide (mi ≤ 6)) with
      | true => rfl
      | false => rw [h] at hc1; cases hc1
    have hmm := Bool.and_eq_true_iff.mp hc2
    have hm0 := of_decide_eq_true hmm.1
    have hm6 := of_decide_eq_true hmm.2
    have sb := sa.trans eb
    have e9b := e9a.trans eb
    refine ⟨_, rfl, a, _, 2, z, rfl, rfl, ex_t sb hs, rfl, len1, fun l1 hl1 => ⟨_, rfl, a2, _, 1, .int mi, rfl, rfl, ex_t (e9b.trans (same_new hl1)) hsa, rfl, l1, mi, [z], rfl, rfl, upd_same, by omega, by omega, ?_, fun l2 hl2' => ?_⟩⟩
    · exact Nat.le_trans (show 1 * mi.toNat ≤ 6 by omega) (by decide)
    refine g_name ?_
    try dsimp only
    have sc := (sb.trans (same_new (o := .lst [z]) hl1)).trans (same_new (o := .lst (List.replicate mi.toNat [z]).flatten) hl2')
    refine seq_rest (K := K) (n := n) (at_ := m2) (gl := List.replicate mi.toNat h) upd_same (rep_vds (hz.keep (Kt.same sc)) _) (hu.keep (Kt.same sc)) (fun g' hg' => by cases (List.mem_replicate.mp hg').2; exact ⟨hgp.2, _, hgg2⟩) (by rw [List.length_replicate]; omega) hl hk (by omega) fun r Hd ed hr => q r Hd (sc.trans ed) ?_
    rw [hO, hc2, if_pos rfl, outTimes_seq]
    exact hr
end
end K10
namespace K10
open PySem PySem.Spec PyProof.Rows L2 Evl CrT Cr Sm Fb
section
variable {P : Program} {w : World} {K : PySem.W.Frag} {mg : Str → Option Value} {base : Heap}
variable {A : Atm}
abbrev s_turn : Stmt := topS 5
abbrev N_turn : List Str := ["some_map", "value", "name"]
theorem sc_turn : FnScope N_turn ["some_map", "value"] (defScope s_turn) := ⟨rfl, rfl, rfl, by decide +kernel, rfl, by decide +kernel, by decide +kernel⟩
theorem ok_turn {f : Addr} {fd : FuncData} {L : Nat} (T : Tx mg) (F : Fun K "turn" "turn" s_turn f fd)  :
    FnOk P w K mg base CX0 (L + 1) f fd ["some_map", "value"] (spF K A (runF 3 2 (b_turn))) := by
  refine F.ok sc_turn (fun vs H Q E h => body_len h) (fun cdv A' outer s H vs Q E hr h => ?_)
  refine ⟨_, (pss_cons (ps_set (i := 2) sc_turn.nd rfl (Or.inl rfl) (pe_ix (r := rIx K) ix_seq (pv 0) pe_int (fun _ _ => rfl)))
      (pss_cons (ps_if (pt_cmpR (r := rEqX K) (op_eqX hr.units) (pv 2) pe_str (nomark _)) (pss_one (ps_ret (pe_op (r := rAddX K) op_addX (pv 1) (pe_ix (r := rIx K) ix_seq (pv 0) pe_int (fun _ _ => rfl))))) pss_nil)
      (pss_cons (ps_if (pt_cmpR (r := rEqX K) (op_eqX hr.units) (pv 2) pe_str (nomark _)) (pss_one (ps_ret (pe_op op_mulX (pv 1) (pe_ix (r := rIx K) ix_seq (pv 0) pe_int (fun _ _ => rfl))))) pss_nil)
      (pss_cons (ps_if (pt_cmpR (r := rEqX K) (op_eqX hr.units) (pv 2) pe_str (nomark _)) (pss_one (ps_ret (pe_ix (r := rIx K) ix_seq (pv 1) (pe_ix (r := rIx K) ix_seq (pv 0) pe_int (fun _ _ => rfl)) (fun _ _ => rfl)))) pss_nil)
      (pss_cons (ps_if (pt_cmpR (r := rEqX K) (op_eqX hr.units) (pv 2) pe_str (nomark _)) (pss_one (ps_ret (pe_callB (r := rLenX K) cr_lenX (by rfl) T.z_len PySem.boot_len (pa_cons (pv 1) pa_nil)))) pss_nil)
      (pss_cons (ps_if (pt_cmpR (r := rEqX K) (op_eqX hr.units) (pv 2) pe_str (nomark _)) (pss_one (ps_ret (pe_callB (r := rSumX K) (cr_sumX rfl) (by rfl) T.z_sum (by decide +kernel) (pa_cons (pv 1) pa_nil)))) pss_nil)
      (pss_cons (ps_if (pt_cmpR (r := rEqX K) (op_eqX hr.units) (pv 2) pe_str (nomark _)) (pss_one (ps_ret (pe_callTy (r := rTupO K) cr_tupO (by rfl) T.z_tuple (by decide +kernel) (pa_cons (pe_callB (r := rSortedD K) (cr_sortedD (Cr.Room.u65 hr)) (by rfl) T.z_sorted (by decide +kernel) (pa_cons (pv 1) pa_nil)) pa_nil)))) pss_nil)
      (pss_one (ps_ret (pe_revT (pv 1))))))))))), ?_⟩
  exact body_ok (N := N_turn) (f := b_turn) (ss_seq (ss_asg (se_op (se_var 0) se_int rd_ix) (sg_name 2))
      (ss_seq (ss_if (st_test (se_op (se_var 2) se_str rd_eq)) (ss_ret (se_op (se_var 1) (se_op (se_var 0) se_int rd_ix) rd_add)) ss_next)
      (ss_seq (ss_if (st_test (se_op (se_var 2) se_str rd_eq)) (ss_ret (se_op (se_var 1) (se_op (se_var 0) se_int rd_ix) rd_mul)) ss_next)
      (ss_seq (ss_if (st_test (se_op (se_var 2) se_str rd_eq)) (ss_ret (se_op (se_var 1) (se_op (se_var 0) se_int rd_ix) rd_ix)) ss_next)
      (ss_seq (ss_if (st_test (se_op (se_var 2) se_str rd_eq)) (ss_ret (se_lenV 1)) ss_next)
      (ss_seq (ss_if (st_test (se_op (se_var 2) se_str rd_eq)) (ss_ret (se_cb (sa_cons (se_var 1) sa_nil) rc_sum)) ss_next)
      (ss_seq (ss_if (st_test (se_op (se_var 2) se_str rd_eq)) (ss_ret (se_cb (sa_cons (se_l (sl_cb (sa_cons (se_var 1) sa_nil) rc_sorted)) sa_nil) rc_tuple)) ss_next)
      (ss_ret (se_rev (se_var 1)))))))))) h
abbrev s_choose : Stmt := topS 8
abbrev N_choose : List Str := ["row", "place", "bound"]
theorem sc_choose : FnScope N_choose ["row", "place", "bound"] (defScope s_choose) := ⟨rfl, rfl, rfl, by decide +kernel, rfl, by decide +kernel, by decide +kernel⟩
theorem ok_choose {f : Addr} {fd : FuncData} {L : Nat} (T : Tx mg) (F : Fun K "choose" "choose" s_choose f fd)  :
    FnOk P w K mg base CX0 (L + 1) f fd ["row", "place", "bound"] (spF K A (runF 3 3 (b_choose))) := by
  refine F.ok sc_choose (fun vs H Q E h => body_len h) (fun cdv A' outer s H vs Q E hr h => ?_)
  refine ⟨_, (pss_cons (ps_if (pt_cmpR op_ge (pv 1) (pe_callB (r := rLenX K) cr_lenX (by rfl) T.z_len PySem.boot_len (pa_cons (pv 0) pa_nil)) (nomark _)) (pss_one (ps_ret (pe_tup (pa_cons pe_str (pa_cons (pe_callB (r := rLenX K) cr_lenX (by rfl) T.z_len PySem.boot_len (pa_cons (pv 0) pa_nil)) pa_nil))))) pss_nil)
      (pss_cons (ps_if (pt_not (pt_chain op_leX op_leX pe_int (pe_ix (r := rIx K) ix_seq (pv 0) (pv 1) (fun _ _ => rfl)) (pv 2))) (pss_one (ps_ret (pe_tup (pa_cons pe_str (pa_cons (pv 1) pa_nil))))) pss_nil)
      (pss_one (ps_ret (pe_tup (pa_cons pe_str (pa_cons (pe_ix (r := rIx K) ix_seq (pv 0) (pv 1) (fun _ _ => rfl)) (pa_cons (pe_op (r := rAddX K) op_addX (pv 1) pe_int) pa_nil)))))))), ?_⟩
  exact body_ok (N := N_choose) (f := b_choose) (ss_seq (ss_if (st_test (se_op (se_var 1) (se_lenV 0) rd_ge)) (ss_ret (se_tup (sa_cons se_str (sa_cons (se_lenV 0) sa_nil)))) ss_next)
      (ss_seq (ss_if (st_not (st_test (se_chain se_int (se_op (se_var 0) (se_var 1) rd_ix) (se_var 2) rd_le rd_le))) (ss_ret (se_tup (sa_cons se_str (sa_cons (se_var 1) sa_nil)))) ss_next)
      (ss_ret (se_tup (sa_cons se_str (sa_cons (se_op (se_var 0) (se_var 1) rd_ix) (sa_cons (se_op (se_var 1) se_int rd_add) sa_nil))))))) h
abbrev s__draw_int : Stmt := topS 10
abbrev N__draw_int : List Str := ["generator", "row", "place", "_", "low", "high", "outcome"]
theorem sc__draw_int : FnScope N__draw_int ["generator", "row", "place"] (defScope s__draw_int) := ⟨rfl, rfl, rfl, by decide +kernel, rfl, by decide +kernel, by decide +kernel⟩
theorem ok__draw_int {f : Addr} {fd : FuncData} {L : Nat} {f_choose : Fn} (T : Tx mg) (F : Fun K "_draw_int" "_draw_int" s__draw_int f fd) (c_choose : Cl P w K mg base "choose" ["row", "place", "bound"] L (spF K A f_choose)) :
    FnOk P w K mg base CX0 (L + 1) f fd ["generator", "row", "place"] (spF K A (runF 7 3 (b__draw_int f_choose))) := by
  refine F.ok sc__draw_int (fun vs H Q E h => body_len h) (fun cdv A' outer s H vs Q E hr h => ?_)
  refine ⟨_, (pss_cons (ps_asg (pv 0) (pg_tup rfl (pgs_cons (pg_name (i := 3) sc__draw_int.nd rfl (Or.inl rfl)) (pgs_cons (pg_name (i := 4) sc__draw_int.nd rfl (Or.inl rfl)) (pgs_cons (pg_name (i := 5) sc__draw_int.nd rfl (Or.inl rfl)) pgs_nil)))))
      (pss_cons (ps_set (i := 6) sc__draw_int.nd rfl (Or.inl rfl) (pe_call c_choose.ok hr (by rfl) c_choose.m c_choose.kp c_choose.b .nil pass0 (pa_cons (pv 1) (pa_cons (pv 2) (pa_cons (pe_op op_sub (pv 5) (pv 4)) pa_nil)))))
      (pss_cons (ps_if (pt_cmpR (r := rNeX K) (op_neX hr.units) (pe_ix (r := rIx K) ix_seq (pv 6) pe_int (fun _ _ => rfl)) pe_str (nomark _)) (pss_one (ps_ret (pv 6))) pss_nil)
      (pss_one (ps_ret (pe_tup (pa_cons pe_str (pa_cons (pe_op (r := rAddX K) op_addX (pv 4) (pe_ix (r := rIx K) ix_seq (pv 6) pe_int (fun _ _ => rfl))) (pa_cons (pe_ix (r := rIx K) ix_seq (pv 6) pe_int (fun _ _ => rfl)) pa_nil))))))))), ?_⟩
  exact body_ok (N := N__draw_int) (f := b__draw_int f_choose) (ss_seq (ss_asg (se_var 0) (sg_tup 3 (sgs_cons (sg_name 3) (sgs_cons (sg_name 4) (sgs_cons (sg_name 5) sgs_nil)))))
      (ss_seq (ss_asg (se_call (sa_cons (se_var 1) (sa_cons (se_var 2) (sa_cons (se_op (se_var 5) (se_var 4) rd_sub) sa_nil)))) (sg_name 6))
      (ss_seq (ss_if (st_test (se_op (se_op (se_var 6) se_int rd_ix) se_str rd_ne)) (ss_ret (se_var 6)) ss_next)
      (ss_ret (se_tup (sa_cons se_str (sa_cons (se_op (se_var 4) (se_op (se_var 6) se_int rd_ix) rd_add) (sa_cons (se_op (se_var 6) se_int rd_ix) sa_nil)))))))) h
abbrev s__draw_pick : Stmt := topS 11
abbrev N__draw_pick : List Str := ["generator", "row", "place", "words", "outcome"]
theorem sc__draw_pick : FnScope N__draw_pick ["generator", "row", "place"] (defScope s__draw_pick) := ⟨rfl, rfl, rfl, by decide +kernel, rfl, by decide +kernel, by decide +kernel⟩
theorem ok__draw_pick {f : Addr} {fd : FuncData} {L : Nat} {f_choose : Fn} (T : Tx mg) (F : Fun K "_draw_pick" "_draw_pick" s__draw_pick f fd) (c_choose : Cl P w K mg base "choose" ["row", "place", "bound"] L (spF K A f_choose)) :
    FnOk P w K mg base CX0 (L + 1) f fd ["generator", "row", "place"] (spF K A (runF 5 3 (b__draw_pick f_choose))) := by
  refine F.ok sc__draw_pick (fun vs H Q E h => body_len h) (fun cdv A' outer s H vs Q E hr h => ?_)
  refine ⟨_, (pss_cons (ps_set (i := 3) sc__draw_pick.nd rfl (Or.inl rfl) (pe_ix (r := rIx K) ix_seq (pv 0) pe_int (fun _ _ => rfl)))
      (pss_cons (ps_set (i := 4) sc__draw_pick.nd rfl (Or.inl rfl) (pe_call c_choose.ok hr (by rfl) c_choose.m c_choose.kp c_choose.b .nil pass0 (pa_cons (pv 1) (pa_cons (pv 2) (pa_cons (pe_op op_sub (pe_callB (r := rLenX K) cr_lenX (by rfl) T.z_len PySem.boot_len (pa_cons (pv 3) pa_nil)) pe_int) pa_nil)))))
      (pss_cons (ps_if (pt_cmpR (r := rNeX K) (op_neX hr.units) (pe_ix (r := rIx K) ix_seq (pv 4) pe_int (fun _ _ => rfl)) pe_str (nomark _)) (pss_one (ps_ret (pv 4))) pss_nil)
      (pss_one (ps_ret (pe_tup (pa_cons pe_str (pa_cons (pe_ix (r := rIx K) ix_seq (pv 3) (pe_ix (r := rIx K) ix_seq (pv 4) pe_int (fun _ _ => rfl)) (fun _ _ => rfl)) (pa_cons (pe_ix (r := rIx K) ix_seq (pv 4) pe_int (fun _ _ => rfl)) pa_nil))))))))), ?_⟩
  exact body_ok (N := N__draw_pick) (f := b__draw_pick f_choose) (ss_seq (ss_asg (se_op (se_var 0) se_int rd_ix) (sg_name 3))
      (ss_seq (ss_asg (se_call (sa_cons (se_var 1) (sa_cons (se_var 2) (sa_cons (se_op (se_lenV 3) se_int rd_sub) sa_nil)))) (sg_name 4))
      (ss_seq (ss_if (st_test (se_op (se_op (se_var 4) se_int rd_ix) se_str rd_ne)) (ss_ret (se_var 4)) ss_next)
      (ss_ret (se_tup (sa_cons se_str (sa_cons (se_op (se_var 3) (se_op (se_var 4) se_int rd_ix) rd_ix) (sa_cons (se_op (se_var 4) se_int rd_ix) sa_nil)))))))) h
abbrev s__draw_each : Stmt := topS 12
abbrev N__draw_each : List Str := ["generators", "row", "place", "values", "part", "outcome"]
theorem sc__draw_each : FnScope N__draw_each ["generators", "row", "place"] (defScope s__draw_each) := ⟨rfl, rfl, rfl, by decide +kernel, rfl, by decide +kernel, by decide +kernel⟩
theorem ok__draw_each {f : Addr} {fd : FuncData} {L : Nat} {f_draw_from : Fn} (T : Tx mg) (F : Fun K "_draw_each" "_draw_each" s__draw_each f fd) (c_draw_from : Cl P w K mg base "draw_from" ["generator", "row", "place"] L (spF K A f_draw_from)) :
    FnOk P w K mg base CX0 (L + 1) f fd ["generators", "row", "place"] (spF K A (runF 6 3 (b__draw_each f_draw_from))) := by
  refine F.ok sc__draw_each (fun vs H Q E h => body_len h) (fun cdv A' outer s H vs Q E hr h => ?_)
  refine ⟨_, (pss_cons (ps_set (i := 3) sc__draw_each.nd rfl (Or.inl rfl) (pe_lst pa_nil))
      (pss_cons (ps_for PassesOwn.never rfl (pi_seq (pv 0)) (pg_name (i := 4) sc__draw_each.nd rfl (Or.inl rfl)) (pss_cons (ps_set (i := 5) sc__draw_each.nd rfl (Or.inl rfl) (pe_call c_draw_from.ok hr (by rfl) c_draw_from.m c_draw_from.kp c_draw_from.b .nil pass0 (pa_cons (pv 4) (pa_cons (pv 1) (pa_cons (pv 2) pa_nil)))))
        (pss_cons (ps_if (pt_cmpR (r := rNeX K) (op_neX hr.units) (pe_ix (r := rIx K) ix_seq (pv 5) pe_int (fun _ _ => rfl)) pe_str (nomark _)) (pss_one (ps_ret (pv 5))) pss_nil)
        (pss_cons (ps_expr (pe_bm PySem.F.plainAttrs_list PySem.F.slot_list_append PySem.F.type_list_append mt_append (pv 3) (pa_cons (pe_ix (r := rIx K) ix_seq (pv 5) pe_int (fun _ _ => rfl)) pa_nil)))
        (pss_one (ps_set (i := 2) sc__draw_each.nd rfl (Or.inl rfl) (pe_ix (r := rIx K) ix_seq (pv 5) pe_int (fun _ _ => rfl))))))))
      (pss_one (ps_ret (pe_tup (pa_cons pe_str (pa_cons (pe_callTy (r := rTupO K) cr_tupO (by rfl) T.z_tuple (by decide +kernel) (pa_cons (pv 3) pa_nil)) (pa_cons (pv 2) pa_nil)))))))), ?_⟩
  exact body_ok (N := N__draw_each) (f := b__draw_each f_draw_from) (ss_seq (ss_own (sl_lst sa_nil))
      (ss_seq (ss_for (si_seq (se_var 0)) (sg_name 4) (ss_seq (ss_asg (se_call (sa_cons (se_var 4) (sa_cons (se_var 1) (sa_cons (se_var 2) sa_nil)))) (sg_name 5))
        (ss_seq (ss_if (st_test (se_op (se_op (se_var 5) se_int rd_ix) se_str rd_ne)) (ss_ret (se_var 5)) ss_next)
        (ss_seq (ss_app (se_op (se_var 5) se_int rd_ix))
        (ss_asg (se_op (se_var 5) se_int rd_ix) (sg_name 2))))))
      (ss_frz 3 (ss_ret (se_tup (sa_cons se_str (sa_cons (se_cb (sa_cons (se_var 3) sa_nil) rc_tuple) (sa_cons (se_var 2) sa_nil)))))))) h
abbrev s__draw_list : Stmt := topS 13
abbrev N__draw_list : List Str := ["generator", "row", "place", "_", "part", "least", "most", "values", "outcome"]
theorem sc__draw_list : FnScope N__draw_list ["generator", "row", "place"] (defScope s__draw_list) := ⟨rfl, rfl, rfl, by decide +kernel, rfl, by decide +kernel, by decide +kernel⟩
theorem ok__draw_list {f : Addr} {fd : FuncData} {L : Nat} {f_choose f_draw_from : Fn} (T : Tx mg) (F : Fun K "_draw_list" "_draw_list" s__draw_list f fd) (c_choose : Cl P w K mg base "choose" ["row", "place", "bound"] L (spF K A f_choose)) (c_draw_from : Cl P w K mg base "draw_from" ["generator", "row", "place"] L (spF K A f_draw_from)) :
    FnOk P w K mg base CX0 (L + 1) f fd ["generator", "row", "place"] (spF K A (runF 9 3 (b__draw_list f_choose f_draw_from))) := by
  refine F.ok sc__draw_list (fun vs H Q E h => body_len h) (fun cdv A' outer s H vs Q E hr h => ?_)
  refine ⟨_, (pss_cons (ps_asg (pv 0) (pg_tup rfl (pgs_cons (pg_name (i := 3) sc__draw_list.nd rfl (Or.inl rfl)) (pgs_cons (pg_name (i := 4) sc__draw_list.nd rfl (Or.inl rfl)) (pgs_cons (pg_name (i := 5) sc__draw_list.nd rfl (Or.inl rfl)) (pgs_cons (pg_name (i := 6) sc__draw_list.nd rfl (Or.inl rfl)) pgs_nil))))))
      (pss_cons (ps_set (i := 7) sc__draw_list.nd rfl (Or.inl rfl) (pe_lst pa_nil))
      (pss_cons (ps_while PassesOwn.never (pt_cmpR op_lt (pe_callB (r := rLenX K) cr_lenX (by rfl) T.z_len PySem.boot_len (pa_cons (pv 7) pa_nil)) (pv 6) (nomark _)) (pss_cons (ps_if (pt_cmpR op_ge (pe_callB (r := rLenX K) cr_lenX (by rfl) T.z_len PySem.boot_len (pa_cons (pv 7) pa_nil)) (pv 5) (nomark _)) (pss_cons (ps_set (i := 8) sc__draw_list.nd rfl (Or.inl rfl) (pe_call c_choose.ok hr (by rfl) c_choose.m c_choose.kp c_choose.b .nil pass0 (pa_cons (pv 1) (pa_cons (pv 2) (pa_cons pe_int pa_nil)))))
          (pss_cons (ps_if (pt_cmpR (r := rNeX K) (op_neX hr.units) (pe_ix (r := rIx K) ix_seq (pv 8) pe_int (fun _ _ => rfl)) pe_str (nomark _)) (pss_one (ps_ret (pv 8))) pss_nil)
          (pss_cons (ps_set (i := 2) sc__draw_list.nd rfl (Or.inl rfl) (pe_ix (r := rIx K) ix_seq (pv 8) pe_int (fun _ _ => rfl)))
          (pss_one (ps_if (pt_cmpR (r := rEqX K) (op_eqX hr.units) (pe_ix (r := rIx K) ix_seq (pv 8) pe_int (fun _ _ => rfl)) pe_int (nomark _)) (pss_one ps_break) pss_nil))))) pss_nil)
        (pss_cons (ps_set (i := 8) sc__draw_list.nd rfl (Or.inl rfl) (pe_call c_draw_from.ok hr (by rfl) c_draw_from.m c_draw_from.kp c_draw_from.b .nil pass0 (pa_cons (pv 4) (pa_cons (pv 1) (pa_cons (pv 2) pa_nil)))))
        (pss_cons (ps_if (pt_cmpR (r := rNeX K) (op_neX hr.units) (pe_ix (r := rIx K) ix_seq (pv 8) pe_int (fun _ _ => rfl)) pe_str (nomark _)) (pss_one (ps_ret (pv 8))) pss_nil)
        (pss_cons (ps_expr (pe_bm PySem.F.plainAttrs_list PySem.F.slot_list_append PySem.F.type_list_append mt_append (pv 7) (pa_cons (pe_ix (r := rIx K) ix_seq (pv 8) pe_int (fun _ _ => rfl)) pa_nil)))
        (pss_one (ps_set (i := 2) sc__draw_list.nd rfl (Or.inl rfl) (pe_ix (r := rIx K) ix_seq (pv 8) pe_int (fun _ _ => rfl)))))))))
      (pss_one (ps_ret (pe_tup (pa_cons pe_str (pa_cons (pe_callTy (r := rTupO K) cr_tupO (by rfl) T.z_tuple (by decide +kernel) (pa_cons (pv 7) pa_nil)) (pa_cons (pv 2) pa_nil))))))))), ?_⟩
  exact body_ok (N := N__draw_list) (f := b__draw_list f_choose f_draw_from) (ss_seq (ss_asg (se_var 0) (sg_tup 4 (sgs_cons (sg_name 3) (sgs_cons (sg_name 4) (sgs_cons (sg_name 5) (sgs_cons (sg_name 6) sgs_nil))))))
      (ss_seq (ss_own (sl_lst sa_nil))
      (ss_seq (ss_while 1000 (st_test (se_op (se_lenV 7) (se_var 6) rd_lt)) (ss_seq (ss_if (st_test (se_op (se_lenV 7) (se_var 5) rd_ge)) (ss_seq (ss_asg (se_call (sa_cons (se_var 1) (sa_cons (se_var 2) (sa_cons se_int sa_nil)))) (sg_name 8))
          (ss_seq (ss_if (st_test (se_op (se_op (se_var 8) se_int rd_ix) se_str rd_ne)) (ss_ret (se_var 8)) ss_next)
          (ss_seq (ss_asg (se_op (se_var 8) se_int rd_ix) (sg_name 2))
          (ss_if (st_test (se_op (se_op (se_var 8) se_int rd_ix) se_int rd_eq)) ss_brk ss_next)))) ss_next)
        (ss_seq (ss_asg (se_call (sa_cons (se_var 4) (sa_cons (se_var 1) (sa_cons (se_var 2) sa_nil)))) (sg_name 8))
        (ss_seq (ss_if (st_test (se_op (se_op (se_var 8) se_int rd_ix) se_str rd_ne)) (ss_ret (se_var 8)) ss_next)
        (ss_seq (ss_app (se_op (se_var 8) se_int rd_ix))
        (ss_asg (se_op (se_var 8) se_int rd_ix) (sg_name 2)))))))
      (ss_frz 7 (ss_ret (se_tup (sa_cons se_str (sa_cons (se_cb (sa_cons (se_var 7) sa_nil) rc_tuple) (sa_cons (se_var 2) sa_nil))))))))) h
abbrev s__draw_one : Stmt := topS 14
abbrev N__draw_one : List Str := ["generator", "row", "place", "parts", "outcome"]
theorem sc__draw_one : FnScope N__draw_one ["generator", "row", "place"] (defScope s__draw_one) := ⟨rfl, rfl, rfl, by decide +kernel, rfl, by decide +kernel, by decide +kernel⟩
theorem ok__draw_one {f : Addr} {fd : FuncData} {L : Nat} {f_choose f_draw_from : Fn} (T : Tx mg) (F : Fun K "_draw_one" "_draw_one" s__draw_one f fd) (c_choose : Cl P w K mg base "choose" ["row", "place", "bound"] L (spF K A f_choose)) (c_draw_from : Cl P w K mg base "draw_from" ["generator", "row", "place"] L (spF K A f_draw_from)) :
    FnOk P w K mg base CX0 (L + 1) f fd ["generator", "row", "place"] (spF K A (runF 5 3 (b__draw_one f_choose f_draw_from))) := by
  refine F.ok sc__draw_one (fun vs H Q E h => body_len h) (fun cdv A' outer s H vs Q E hr h => ?_)
  refine ⟨_, (pss_cons (ps_set (i := 3) sc__draw_one.nd rfl (Or.inl rfl) (pe_ix (r := rIx K) ix_seq (pv 0) pe_int (fun _ _ => rfl)))
      (pss_cons (ps_set (i := 4) sc__draw_one.nd rfl (Or.inl rfl) (pe_call c_choose.ok hr (by rfl) c_choose.m c_choose.kp c_choose.b .nil pass0 (pa_cons (pv 1) (pa_cons (pv 2) (pa_cons (pe_op op_sub (pe_callB (r := rLenX K) cr_lenX (by rfl) T.z_len PySem.boot_len (pa_cons (pv 3) pa_nil)) pe_int) pa_nil)))))
      (pss_cons (ps_if (pt_cmpR (r := rNeX K) (op_neX hr.units) (pe_ix (r := rIx K) ix_seq (pv 4) pe_int (fun _ _ => rfl)) pe_str (nomark _)) (pss_one (ps_ret (pv 4))) pss_nil)
      (pss_one (ps_ret (pe_call c_draw_from.ok hr (by rfl) c_draw_from.m c_draw_from.kp c_draw_from.b .nil pass0 (pa_cons (pe_ix (r := rIx K) ix_seq (pv 3) (pe_ix (r := rIx K) ix_seq (pv 4) pe_int (fun _ _ => rfl)) (fun _ _ => rfl)) (pa_cons (pv 1) (pa_cons (pe_ix (r := rIx K) ix_seq (pv 4) pe_int (fun _ _ => rfl)) pa_nil))))))))), ?_⟩
  exact body_ok (N := N__draw_one) (f := b__draw_one f_choose f_draw_from) (ss_seq (ss_asg (se_op (se_var 0) se_int rd_ix) (sg_name 3))
      (ss_seq (ss_asg (se_call (sa_cons (se_var 1) (sa_cons (se_var 2) (sa_cons (se_op (se_lenV 3) se_int rd_sub) sa_nil)))) (sg_name 4))
      (ss_seq (ss_if (st_test (se_op (se_op (se_var 4) se_int rd_ix) se_str rd_ne)) (ss_ret (se_var 4)) ss_next)
      (ss_ret (se_call (sa_cons (se_op (se_var 3) (se_op (se_var 4) se_int rd_ix) rd_ix) (sa_cons (se_var 1) (sa_cons (se_op (se_var 4) se_int rd_ix) sa_nil)))))))) h
abbrev s__draw_kept : Stmt := topS 15
abbrev N__draw_kept : List Str := ["generator", "row", "place", "_", "part", "condition", "outcome"]
theorem sc__draw_kept : FnScope N__draw_kept ["generator", "row", "place"] (defScope s__draw_kept) := ⟨rfl, rfl, rfl, by decide +kernel, rfl, by decide +kernel, by decide +kernel⟩
theorem ok__draw_kept {f : Addr} {fd : FuncData} {L : Nat} {f_draw_from f_holds : Fn} (T : Tx mg) (F : Fun K "_draw_kept" "_draw_kept" s__draw_kept f fd) (c_draw_from : Cl P w K mg base "draw_from" ["generator", "row", "place"] L (spF K A f_draw_from)) (c_holds : Cl P w K mg base "holds" ["condition", "value"] L (spF K A f_holds)) :
    FnOk P w K mg base CX0 (L + 1) f fd ["generator", "row", "place"] (spF K A (runF 7 3 (b__draw_kept f_draw_from f_holds))) := by
  refine F.ok sc__draw_kept (fun vs H Q E h => body_len h) (fun cdv A' outer s H vs Q E hr h => ?_)
  refine ⟨_, (pss_cons (ps_asg (pv 0) (pg_tup rfl (pgs_cons (pg_name (i := 3) sc__draw_kept.nd rfl (Or.inl rfl)) (pgs_cons (pg_name (i := 4) sc__draw_kept.nd rfl (Or.inl rfl)) (pgs_cons (pg_name (i := 5) sc__draw_kept.nd rfl (Or.inl rfl)) pgs_nil)))))
      (pss_cons (ps_set (i := 6) sc__draw_kept.nd rfl (Or.inl rfl) (pe_call c_draw_from.ok hr (by rfl) c_draw_from.m c_draw_from.kp c_draw_from.b .nil pass0 (pa_cons (pv 4) (pa_cons (pv 1) (pa_cons (pv 2) pa_nil)))))
      (pss_cons (ps_if (PW.pt (pw_or (pt_cmpR (r := rNeX K) (op_neX hr.units) (pe_ix (r := rIx K) ix_seq (pv 6) pe_int (fun _ _ => rfl)) pe_str (nomark _)) (pw_or1 (pt_val (pe_call c_holds.ok hr (by rfl) c_holds.m c_holds.kp c_holds.b .nil pass0 (pa_cons (pv 5) (pa_cons (pe_ix (r := rIx K) ix_seq (pv 6) pe_int (fun _ _ => rfl)) pa_nil))))))) (pss_one (ps_ret (pv 6))) pss_nil)
      (pss_one (ps_ret (pe_tup (pa_cons pe_str (pa_cons (pe_ix (r := rIx K) ix_seq (pv 6) pe_int (fun _ _ => rfl)) pa_nil)))))))), ?_⟩
  exact body_ok (N := N__draw_kept) (f := b__draw_kept f_draw_from f_holds) (ss_seq (ss_asg (se_var 0) (sg_tup 3 (sgs_cons (sg_name 3) (sgs_cons (sg_name 4) (sgs_cons (sg_name 5) sgs_nil)))))
      (ss_seq (ss_asg (se_call (sa_cons (se_var 4) (sa_cons (se_var 1) (sa_cons (se_var 2) sa_nil)))) (sg_name 6))
      (ss_seq (ss_if (st_or (st_test (se_op (se_op (se_var 6) se_int rd_ix) se_str rd_ne)) (st_B (se_call (sa_cons (se_var 5) (sa_cons (se_op (se_var 6) se_int rd_ix) sa_nil))))) (ss_ret (se_var 6)) ss_next)
      (ss_ret (se_tup (sa_cons se_str (sa_cons (se_op (se_var 6) se_int rd_ix) sa_nil))))))) h
abbrev s__draw_turned : Stmt := topS 16
abbrev N__draw_turned : List Str := ["generator", "row", "place", "_", "part", "some_map", "outcome"]
theorem sc__draw_turned : FnScope N__draw_turned ["generator", "row", "place"] (defScope s__draw_turned) := ⟨rfl, rfl, rfl, by decide +kernel, rfl, by decide +kernel, by decide +kernel⟩
theorem ok__draw_turned {f : Addr} {fd : FuncData} {L : Nat} {f_draw_from f_turn : Fn} (T : Tx mg) (F : Fun K "_draw_turned" "_draw_turned" s__draw_turned f fd) (c_draw_from : Cl P w K mg base "draw_from" ["generator", "row", "place"] L (spF K A f_draw_from)) (c_turn : Cl P w K mg base "turn" ["some_map", "value"] L (spF K A f_turn)) :
    FnOk P w K mg base CX0 (L + 1) f fd ["generator", "row", "place"] (spF K A (runF 7 3 (b__draw_turned f_draw_from f_turn))) := by
  refine F.ok sc__draw_turned (fun vs H Q E h => body_len h) (fun cdv A' outer s H vs Q E hr h => ?_)
  refine ⟨_, (pss_cons (ps_asg (pv 0) (pg_tup rfl (pgs_cons (pg_name (i := 3) sc__draw_turned.nd rfl (Or.inl rfl)) (pgs_cons (pg_name (i := 4) sc__draw_turned.nd rfl (Or.inl rfl)) (pgs_cons (pg_name (i := 5) sc__draw_turned.nd rfl (Or.inl rfl)) pgs_nil)))))
      (pss_cons (ps_set (i := 6) sc__draw_turned.nd rfl (Or.inl rfl) (pe_call c_draw_from.ok hr (by rfl) c_draw_from.m c_draw_from.kp c_draw_from.b .nil pass0 (pa_cons (pv 4) (pa_cons (pv 1) (pa_cons (pv 2) pa_nil)))))
      (pss_cons (ps_if (pt_cmpR (r := rNeX K) (op_neX hr.units) (pe_ix (r := rIx K) ix_seq (pv 6) pe_int (fun _ _ => rfl)) pe_str (nomark _)) (pss_one (ps_ret (pv 6))) pss_nil)
      (pss_one (ps_ret (pe_tup (pa_cons pe_str (pa_cons (pe_call c_turn.ok hr (by rfl) c_turn.m c_turn.kp c_turn.b .nil pass0 (pa_cons (pv 5) (pa_cons (pe_ix (r := rIx K) ix_seq (pv 6) pe_int (fun _ _ => rfl)) pa_nil))) (pa_cons (pe_ix (r := rIx K) ix_seq (pv 6) pe_int (fun _ _ => rfl)) pa_nil))))))))), ?_⟩
  exact body_ok (N := N__draw_turned) (f := b__draw_turned f_draw_from f_turn) (ss_seq (ss_asg (se_var 0) (sg_tup 3 (sgs_cons (sg_name 3) (sgs_cons (sg_name 4) (sgs_cons (sg_name 5) sgs_nil)))))
      (ss_seq (ss_asg (se_call (sa_cons (se_var 4) (sa_cons (se_var 1) (sa_cons (se_var 2) sa_nil)))) (sg_name 6))
      (ss_seq (ss_if (st_test (se_op (se_op (se_var 6) se_int rd_ix) se_str rd_ne)) (ss_ret (se_var 6)) ss_next)
      (ss_ret (se_tup (sa_cons se_str (sa_cons (se_call (sa_cons (se_var 5) (sa_cons (se_op (se_var 6) se_int rd_ix) sa_nil))) (sa_cons (se_op (se_var 6) se_int rd_ix) sa_nil)))))))) h
abbrev s__draw_repeat : Stmt := topS 17
abbrev N__draw_repeat : List Str := ["generator", "row", "place", "_", "first", "other", "outcome", "times"]
theorem sc__draw_repeat : FnScope N__draw_repeat ["generator", "row", "place"] (defScope s__draw_repeat) := ⟨rfl, rfl, rfl, by decide +kernel, rfl, by decide +kernel, by decide +kernel⟩
theorem ok__draw_repeat {f : Addr} {fd : FuncData} {L : Nat} {f_draw_from f__draw_each : Fn} (T : Tx mg) (F : Fun K "_draw_repeat" "_draw_repeat" s__draw_repeat f fd) (c_draw_from : Cl P w K mg base "draw_from" ["generator", "row", "place"] L (spF K A f_draw_from)) (c__draw_each : Cl P w K mg base "_draw_each" ["generators", "row", "place"] L (spF K A f__draw_each)) :
    FnOk P w K mg base CX0 (L + 1) f fd ["generator", "row", "place"] (spF K A (runF 8 3 (b__draw_repeat f_draw_from f__draw_each))) := by
  obtain ⟨_, m_LONG⟩ := T.m_LONG
  refine F.ok sc__draw_repeat (fun vs H Q E h => body_len h) (fun cdv A' outer s H vs Q E hr h => ?_)
  refine ⟨_, (pss_cons (ps_asg (pv 0) (pg_tup rfl (pgs_cons (pg_name (i := 3) sc__draw_repeat.nd rfl (Or.inl rfl)) (pgs_cons (pg_name (i := 4) sc__draw_repeat.nd rfl (Or.inl rfl)) (pgs_cons (pg_name (i := 5) sc__draw_repeat.nd rfl (Or.inl rfl)) pgs_nil)))))
      (pss_cons (ps_set (i := 6) sc__draw_repeat.nd rfl (Or.inl rfl) (pe_call c_draw_from.ok hr (by rfl) c_draw_from.m c_draw_from.kp c_draw_from.b .nil pass0 (pa_cons (pv 4) (pa_cons (pv 1) (pa_cons (pv 2) pa_nil)))))
      (pss_cons (ps_if (pt_cmpR (r := rNeX K) (op_neX hr.units) (pe_ix (r := rIx K) ix_seq (pv 6) pe_int (fun _ _ => rfl)) pe_str (nomark _)) (pss_one (ps_ret (pv 6))) pss_nil)
      (pss_cons (ps_set (i := 7) sc__draw_repeat.nd rfl (Or.inl rfl) (pe_ix (r := rIx K) ix_seq (pv 6) pe_int (fun _ _ => rfl)))
      (pss_cons (ps_if (pt_not (pt_chain op_leX op_leX pe_int (pv 7) (pe_glob (v := .int 6) (by rfl) m_LONG ⟨_, rfl⟩))) (pss_one (ps_ret (pe_tup (pa_cons pe_str (pa_cons (pe_ix (r := rIx K) ix_seq (pv 6) pe_int (fun _ _ => rfl)) pa_nil))))) pss_nil)
      (pss_one (ps_ret (pe_call c__draw_each.ok hr (by rfl) c__draw_each.m c__draw_each.kp c__draw_each.b .nil pass0 (pa_cons (pe_op op_mulX (pe_lst (pa_cons (pv 5) pa_nil)) (pv 7)) (pa_cons (pv 1) (pa_cons (pe_ix (r := rIx K) ix_seq (pv 6) pe_int (fun _ _ => rfl)) pa_nil))))))))))), ?_⟩
  exact body_ok (N := N__draw_repeat) (f := b__draw_repeat f_draw_from f__draw_each) (ss_seq (ss_asg (se_var 0) (sg_tup 3 (sgs_cons (sg_name 3) (sgs_cons (sg_name 4) (sgs_cons (sg_name 5) sgs_nil)))))
      (ss_seq (ss_asg (se_call (sa_cons (se_var 4) (sa_cons (se_var 1) (sa_cons (se_var 2) sa_nil)))) (sg_name 6))
      (ss_seq (ss_if (st_test (se_op (se_op (se_var 6) se_int rd_ix) se_str rd_ne)) (ss_ret (se_var 6)) ss_next)
      (ss_seq (ss_asg (se_op (se_var 6) se_int rd_ix) (sg_name 7))
      (ss_seq (ss_if (st_not (st_test (se_chain se_int (se_var 7) se_int rd_le rd_le))) (ss_ret (se_tup (sa_cons se_str (sa_cons (se_op (se_var 6) se_int rd_ix) sa_nil)))) ss_next)
      (ss_ret (se_call (sa_cons (se_op (se_l (sl_lst (sa_cons (se_var 5) sa_nil))) (se_var 7) rd_mul) (sa_cons (se_var 1) (sa_cons (se_op (se_var 6) se_int rd_ix) sa_nil)))))))))) h
abbrev s_draw_from : Stmt := topS 9
abbrev N_draw_from : List Str := ["generator", "row", "place", "name"]
theorem sc_draw_from : FnScope N_draw_from ["generator", "row", "place"] (defScope s_draw_from) := ⟨rfl, rfl, rfl, by decide +kernel, rfl, by decide +kernel, by decide +kernel⟩
theorem ok_draw_from {f : Addr} {fd : FuncData} {L : Nat} {f__draw_int f__draw_pick f__draw_each f__draw_list f__draw_one f__draw_kept f__draw_turned f__draw_repeat : Fn} (T : Tx mg) (F : Fun K "draw_from" "draw_from" s_draw_from f fd) (c__draw_int : Cl P w K mg base "_draw_int" ["generator", "row", "place"] L (spF K A f__draw_int)) (c__draw_pick : Cl P w K mg base "_draw_pick" ["generator", "row", "place"] L (spF K A f__draw_pick)) (c__draw_each : Cl P w K mg base "_draw_each" ["generators", "row", "place"] L (spF K A f__draw_each)) (c__draw_list : Cl P w K mg base "_draw_list" ["generator", "row", "place"] L (spF K A f__draw_list)) (c__draw_one : Cl P w K mg base "_draw_one" ["generator", "row", "place"] L (spF K A f__draw_one)) (c__draw_kept : Cl P w K mg base "_draw_kept" ["generator", "row", "place"] L (spF K A f__draw_kept)) (c__draw_turned : Cl P w K mg base "_draw_turned" ["generator", "row", "place"] L (spF K A f__draw_turned)) (c__draw_repeat : Cl P w K mg base "_draw_repeat" ["generator", "row", "place"] L (spF K A f__draw_repeat)) :
    FnOk P w K mg base CX0 (L + 1) f fd ["generator", "row", "place"] (spF K A (runF 4 3 (b_draw_from f__draw_int f__draw_pick f__draw_each f__draw_list f__draw_one f__draw_kept f__draw_turned f__draw_repeat))) := by
  refine F.ok sc_draw_from (fun vs H Q E h => body_len h) (fun cdv A' outer s H vs Q E hr h => ?_)
  refine ⟨_, (pss_cons (ps_set (i := 3) sc_draw_from.nd rfl (Or.inl rfl) (pe_ix (r := rIx K) ix_seq (pv 0) pe_int (fun _ _ => rfl)))
      (pss_cons (ps_if (pt_cmpR (r := rEqX K) (op_eqX hr.units) (pv 3) pe_str (nomark _)) (pss_one (ps_ret (pe_call c__draw_int.ok hr (by rfl) c__draw_int.m c__draw_int.kp c__draw_int.b .nil pass0 (pa_cons (pv 0) (pa_cons (pv 1) (pa_cons (pv 2) pa_nil)))))) pss_nil)
      (pss_cons (ps_if (pt_cmpR (r := rEqX K) (op_eqX hr.units) (pv 3) pe_str (nomark _)) (pss_one (ps_ret (pe_call c__draw_pick.ok hr (by rfl) c__draw_pick.m c__draw_pick.kp c__draw_pick.b .nil pass0 (pa_cons (pv 0) (pa_cons (pv 1) (pa_cons (pv 2) pa_nil)))))) pss_nil)
      (pss_cons (ps_if (pt_cmpR (r := rEqX K) (op_eqX hr.units) (pv 3) pe_str (nomark _)) (pss_one (ps_ret (pe_call c__draw_each.ok hr (by rfl) c__draw_each.m c__draw_each.kp c__draw_each.b .nil pass0 (pa_cons (pe_ix (r := rIx K) ix_seq (pv 0) pe_int (fun _ _ => rfl)) (pa_cons (pv 1) (pa_cons (pv 2) pa_nil)))))) pss_nil)
      (pss_cons (ps_if (pt_cmpR (r := rEqX K) (op_eqX hr.units) (pv 3) pe_str (nomark _)) (pss_one (ps_ret (pe_call c__draw_list.ok hr (by rfl) c__draw_list.m c__draw_list.kp c__draw_list.b .nil pass0 (pa_cons (pv 0) (pa_cons (pv 1) (pa_cons (pv 2) pa_nil)))))) pss_nil)
      (pss_cons (ps_if (pt_cmpR (r := rEqX K) (op_eqX hr.units) (pv 3) pe_str (nomark _)) (pss_one (ps_ret (pe_call c__draw_one.ok hr (by rfl) c__draw_one.m c__draw_one.kp c__draw_one.b .nil pass0 (pa_cons (pv 0) (pa_cons (pv 1) (pa_cons (pv 2) pa_nil)))))) pss_nil)
      (pss_cons (ps_if (pt_cmpR (r := rEqX K) (op_eqX hr.units) (pv 3) pe_str (nomark _)) (pss_one (ps_ret (pe_call c__draw_kept.ok hr (by rfl) c__draw_kept.m c__draw_kept.kp c__draw_kept.b .nil pass0 (pa_cons (pv 0) (pa_cons (pv 1) (pa_cons (pv 2) pa_nil)))))) pss_nil)
      (pss_cons (ps_if (pt_cmpR (r := rEqX K) (op_eqX hr.units) (pv 3) pe_str (nomark _)) (pss_one (ps_ret (pe_call c__draw_turned.ok hr (by rfl) c__draw_turned.m c__draw_turned.kp c__draw_turned.b .nil pass0 (pa_cons (pv 0) (pa_cons (pv 1) (pa_cons (pv 2) pa_nil)))))) pss_nil)
      (pss_one (ps_ret (pe_call c__draw_repeat.ok hr (by rfl) c__draw_repeat.m c__draw_repeat.kp c__draw_repeat.b .nil pass0 (pa_cons (pv 0) (pa_cons (pv 1) (pa_cons (pv 2) pa_nil)))))))))))))), ?_⟩
  exact body_ok (N := N_draw_from) (f := b_draw_from f__draw_int f__draw_pick f__draw_each f__draw_list f__draw_one f__draw_kept f__draw_turned f__draw_repeat) (ss_seq (ss_asg (se_op (se_var 0) se_int rd_ix) (sg_name 3))
      (ss_seq (ss_if (st_test (se_op (se_var 3) se_str rd_eq)) (ss_ret (se_call (sa_cons (se_var 0) (sa_cons (se_var 1) (sa_cons (se_var 2) sa_nil))))) ss_next)
      (ss_seq (ss_if (st_test (se_op (se_var 3) se_str rd_eq)) (ss_ret (se_call (sa_cons (se_var 0) (sa_cons (se_var 1) (sa_cons (se_var 2) sa_nil))))) ss_next)
      (ss_seq (ss_if (st_test (se_op (se_var 3) se_str rd_eq)) (ss_ret (se_call (sa_cons (se_op (se_var 0) se_int rd_ix) (sa_cons (se_var 1) (sa_cons (se_var 2) sa_nil))))) ss_next)
      (ss_seq (ss_if (st_test (se_op (se_var 3) se_str rd_eq)) (ss_ret (se_call (sa_cons (se_var 0) (sa_cons (se_var 1) (sa_cons (se_var 2) sa_nil))))) ss_next)
      (ss_seq (ss_if (st_test (se_op (se_var 3) se_str rd_eq)) (ss_ret (se_call (sa_cons (se_var 0) (sa_cons (se_var 1) (sa_cons (se_var 2) sa_nil))))) ss_next)
      (ss_seq (ss_if (st_test (se_op (se_var 3) se_str rd_eq)) (ss_ret (se_call (sa_cons (se_var 0) (sa_cons (se_var 1) (sa_cons (se_var 2) sa_nil))))) ss_next)
      (ss_seq (ss_if (st_test (se_op (se_var 3) se_str rd_eq)) (ss_ret (se_call (sa_cons (se_var 0) (sa_cons (se_var 1) (sa_cons (se_var 2) sa_nil))))) ss_next)
      (ss_ret (se_call (sa_cons (se_var 0) (sa_cons (se_var 1) (sa_cons (se_var 2) sa_nil))))))))))))) h
abbrev s_draw : Stmt := topS 7
abbrev N_draw : List Str := ["generator", "row"]
theorem sc_draw : FnScope N_draw ["generator", "row"] (defScope s_draw) := ⟨rfl, rfl, rfl, by decide +kernel, rfl, by decide +kernel, by decide +kernel⟩
theorem ok_draw {f : Addr} {fd : FuncData} {L : Nat} {f_draw_from : Fn} (T : Tx mg) (F : Fun K "draw" "draw" s_draw f fd) (c_draw_from : Cl P w K mg base "draw_from" ["generator", "row", "place"] L (spF K A f_draw_from)) :
    FnOk P w K mg base CX0 (L + 1) f fd ["generator", "row"] (spF K A (runF 2 2 (b_draw f_draw_from))) := by
  refine F.ok sc_draw (fun vs H Q E h => body_len h) (fun cdv A' outer s H vs Q E hr h => ?_)
  refine ⟨_, (pss_one (ps_ret (pe_call c_draw_from.ok hr (by rfl) c_draw_from.m c_draw_from.kp c_draw_from.b .nil pass0 (pa_cons (pv 0) (pa_cons (pv 1) (pa_cons pe_int pa_nil)))))), ?_⟩
  exact body_ok (N := N_draw) (f := b_draw f_draw_from) (ss_ret (se_call (sa_cons (se_var 0) (sa_cons (se_var 1) (sa_cons se_int sa_nil))))) h
abbrev s__law_beside : Stmt := topS 29
abbrev N__law_beside : List Str := ["rows", "parts", "ahead", "found", "value", "row", "part", "more"]
theorem sc__law_beside : FnScope N__law_beside ["rows", "parts", "ahead"] (defScope s__law_beside) := ⟨rfl, rfl, rfl, by decide +kernel, rfl, by decide +kernel, by decide +kernel⟩
theorem ok__law_beside {f : Addr} {fd : FuncData} {L : Nat} (T : Tx mg) (F : Fun K "_law_beside" "_law_beside" s__law_beside f fd)  :
    FnOk P w K mg base CX0 (L + 1) f fd ["rows", "parts", "ahead"] (spF K A (runF 8 3 (b__law_beside))) := by
  refine F.ok sc__law_beside (fun vs H Q E h => body_len h) (fun cdv A' outer s H vs Q E hr h => ?_)
  refine ⟨_, (pss_cons (ps_set (i := 3) sc__law_beside.nd rfl (Or.inl rfl) (pe_lst pa_nil))
      (pss_cons (ps_for PassesOwn.never rfl (pi_seq (pv 0)) (pg_tup rfl (pgs_cons (pg_name (i := 4) sc__law_beside.nd rfl (Or.inr rfl)) (pgs_cons (pg_name (i := 5) sc__law_beside.nd rfl (Or.inr rfl)) pgs_nil))) (pss_one (ps_set (i := 3) sc__law_beside.nd rfl (Or.inl rfl) (pe_op (r := rAddX K) op_addX (pv 3) (pe_lc (own := [("part", 6), ("more", 7)]) (g := gTup K 2 (gCons (gName 6) (gCons (gName 7) gNil))) (by rfl) sc__law_beside.nd (pi_seq (pv 1)) (blkOk_by (own := [("part", 6), ("more", 7)]) (N := N__law_beside) (sc := defScope s__law_beside) (by decide +kernel)) (fun _ _ _ _ _ => (pg_tup rfl (pgs_cons (pg_name (i := 6) sc__law_beside.nd rfl (Or.inl rfl) (hf := Or.inr rfl)) (pgs_cons (pg_name (i := 7) sc__law_beside.nd rfl (Or.inl rfl) (hf := Or.inr rfl)) pgs_nil)))) (fun _ _ _ _ _ => pts_nil) (fun _ _ _ _ _ => (pe_tup (pa_cons (pe_op (r := rAddX K) op_addX (pv 4) (pe_tup (pa_cons (pv 6) pa_nil))) (pa_cons (pe_op (r := rAddX K) op_addX (pe_op (r := rAddX K) op_addX (pv 5) (pv 2)) (pv 7)) pa_nil)))))))))
      (pss_one (ps_ret (pv 3))))), ?_⟩
  exact body_ok (N := N__law_beside) (f := b__law_beside) (ss_seq (ss_asg (se_l (sl_lst sa_nil)) (sg_name 3))
      (ss_seq (ss_for (si_seq (se_var 0)) (sg_tup 2 (sgs_cons (sg_name 4) (sgs_cons (sg_name 5) sgs_nil))) (ss_asg (se_op (se_var 3) (se_l (sl_lc (vs := [6, 7]) (si_seq (se_var 1)) (sg_tup 2 (sgs_cons (sg_name 6) (sgs_cons (sg_name 7) sgs_nil))) (by decide) st_yes (se_tup (sa_cons (se_op (se_var 4) (se_tup (sa_cons (se_var 6) sa_nil)) rd_add) (sa_cons (se_op (se_op (se_var 5) (se_var 2) rd_add) (se_var 7) rd_add) sa_nil))))) rd_add) (sg_name 3)))
      (ss_ret (se_var 3)))) h
abbrev s__law_all : Stmt := topS 28
abbrev N__law_all : List Str := ["gen", "word", "found", "c", "part", "parts", "many", "row", "rows", "turn_v", "value"]
theorem sc__law_all : FnScope N__law_all ["gen"] (defScope s__law_all) := ⟨rfl, rfl, rfl, by decide +kernel, rfl, by decide +kernel, by decide +kernel⟩
theorem ok__law_all {f : Addr} {fd : FuncData} {L : Nat} {f__law_all f__law_holds f__law_turn f__law_beside : Fn} (T : Tx mg) (F : Fun K "_law_all" "_law_all" s__law_all f fd) (c__law_all : Cl P w K mg base "_law_all" ["gen"] L (spF K A f__law_all)) (c__law_holds : Cl P w K mg base "_law_holds" ["limit", "value"] L (spF K A f__law_holds)) (c__law_turn : Cl P w K mg base "_law_turn" ["some", "value"] L (spF K A f__law_turn)) (c__law_beside : Cl P w K mg base "_law_beside" ["rows", "parts", "ahead"] L (spF K A f__law_beside)) :
    FnOk P w K mg base CX0 (L + 1) f fd ["gen"] (spF K A (runF 11 1 (b__law_all f__law_all f__law_holds f__law_turn f__law_beside))) := by
  refine F.ok sc__law_all (fun vs H Q E h => body_len h) (fun cdv A' outer s H vs Q E hr h => ?_)
  refine ⟨_, (pss_cons (ps_set (i := 1) sc__law_all.nd rfl (Or.inl rfl) (pe_ix (r := rIx K) ix_seq (pv 0) pe_int (fun _ _ => rfl)))
      (pss_cons (ps_if (pt_cmpR (r := rEqX K) (op_eqX hr.units) (pv 1) pe_str (nomark _)) (pss_one (ps_ret (pe_lc (own := [("c", 3)]) (g := gName 3) (by rfl) sc__law_all.nd (pi_range1 (by rfl) T.z_range (pa_cons (pe_op (r := rAddX K) op_addX (pe_op op_sub (pe_ix (r := rIx K) ix_seq (pv 0) pe_int (fun _ _ => rfl)) (pe_ix (r := rIx K) ix_seq (pv 0) pe_int (fun _ _ => rfl))) pe_int) pa_nil)) (blkOk_by (own := [("c", 3)]) (N := N__law_all) (sc := defScope s__law_all) (by decide +kernel)) (fun _ _ _ _ _ => (pg_name (i := 3) sc__law_all.nd rfl (Or.inl rfl))) (fun _ _ _ _ _ => pts_nil) (fun _ _ _ _ _ => (pe_tup (pa_cons (pe_op (r := rAddX K) op_addX (pe_ix (r := rIx K) ix_seq (pv 0) pe_int (fun _ _ => rfl)) (pv 3)) (pa_cons (pe_tup (pa_cons (pv 3) pa_nil)) pa_nil))))))) pss_nil)
      (pss_cons (ps_if (pt_cmpR (r := rEqX K) (op_eqX hr.units) (pv 1) pe_str (nomark _)) (pss_one (ps_ret (pe_lc (own := [("c", 3)]) (g := gName 3) (by rfl) sc__law_all.nd (pi_range1 (by rfl) T.z_range (pa_cons (pe_callB (r := rLenX K) cr_lenX (by rfl) T.z_len (by decide +kernel) (pa_cons (pe_ix (r := rIx K) ix_seq (pv 0) pe_int (fun _ _ => rfl)) pa_nil)) pa_nil)) (blkOk_by (own := [("c", 3)]) (N := N__law_all) (sc := defScope s__law_all) (by decide +kernel)) (fun _ _ _ _ _ => (pg_name (i := 3) sc__law_all.nd rfl (Or.inl rfl))) (fun _ _ _ _ _ => pts_nil) (fun _ _ _ _ _ => (pe_tup (pa_cons (pe_ix (r := rIx K) ix_seq (pe_ix (r := rIx K) ix_seq (pv 0) pe_int (fun _ _ => rfl)) (pv 3) (fun _ _ => rfl)) (pa_cons (pe_tup (pa_cons (pv 3) pa_nil)) pa_nil))))))) pss_nil)
      (pss_cons (ps_if (pt_cmpR (r := rEqX K) (op_eqX hr.units) (pv 1) pe_str (nomark _)) (pss_cons (ps_set (i := 2) sc__law_all.nd rfl (Or.inl rfl) (pe_lst pa_nil))
        (pss_cons (ps_for PassesOwn.never rfl (pi_range1 (by rfl) T.z_range (pa_cons (pe_callB (r := rLenX K) cr_lenX (by rfl) T.z_len (by decide +kernel) (pa_cons (pe_ix (r := rIx K) ix_seq (pv 0) pe_int (fun _ _ => rfl)) pa_nil)) pa_nil)) (pg_name (i := 3) sc__law_all.nd rfl (Or.inr rfl)) (pss_one (ps_set (i := 2) sc__law_all.nd rfl (Or.inl rfl) (pe_op (r := rAddX K) op_addX (pv 2) (pe_lc (own := [("value", 10), ("row", 7)]) (g := gTup K 2 (gCons (gName 10) (gCons (gName 7) gNil))) (by rfl) sc__law_all.nd (pi_seq (pe_call c__law_all.ok hr (by rfl) c__law_all.m c__law_all.kp c__law_all.b .nil pass0 (pa_cons (pe_ix (r := rIx K) ix_seq (pe_ix (r := rIx K) ix_seq (pv 0) pe_int (fun _ _ => rfl)) (pv 3) (fun _ _ => rfl)) pa_nil))) (blkOk_by (own := [("value", 10), ("row", 7)]) (N := N__law_all) (sc := defScope s__law_all) (by decide +kernel)) (fun _ _ _ _ _ => (pg_tup rfl (pgs_cons (pg_name (i := 10) sc__law_all.nd rfl (Or.inl rfl) (hf := Or.inr rfl)) (pgs_cons (pg_name (i := 7) sc__law_all.nd rfl (Or.inl rfl) (hf := Or.inr rfl)) pgs_nil)))) (fun _ _ _ _ _ => pts_nil) (fun _ _ _ _ _ => (pe_tup (pa_cons (pv 10) (pa_cons (pe_op (r := rAddX K) op_addX (pe_tup (pa_cons (pv 3) pa_nil)) (pv 7)) pa_nil)))))))))
        (pss_one (ps_ret (pv 2))))) pss_nil)
      (pss_cons (ps_if (pt_cmpR (r := rEqX K) (op_eqX hr.units) (pv 1) pe_str (nomark _)) (pss_one (ps_ret (pe_lc (own := [("value", 10), ("row", 7)]) (g := gTup K 2 (gCons (gName 10) (gCons (gName 7) gNil))) (by rfl) sc__law_all.nd (pi_seq (pe_call c__law_all.ok hr (by rfl) c__law_all.m c__law_all.kp c__law_all.b .nil pass0 (pa_cons (pe_ix (r := rIx K) ix_seq (pv 0) pe_int (fun _ _ => rfl)) pa_nil))) (blkOk_by (own := [("value", 10), ("row", 7)]) (N := N__law_all) (sc := defScope s__law_all) (by decide +kernel)) (fun _ _ _ _ _ => (pg_tup rfl (pgs_cons (pg_name (i := 10) sc__law_all.nd rfl (Or.inl rfl) (hf := Or.inr rfl)) (pgs_cons (pg_name (i := 7) sc__law_all.nd rfl (Or.inl rfl) (hf := Or.inr rfl)) pgs_nil)))) (fun _ _ _ _ _ => pts_one (pt_val (pe_call c__law_holds.ok hr (by rfl) c__law_holds.m c__law_holds.kp c__law_holds.b .nil pass0 (pa_cons (pe_ix (r := rIx K) ix_seq (pv 0) pe_int (fun _ _ => rfl)) (pa_cons (pv 10) pa_nil))))) (fun _ _ _ _ _ => (pe_tup (pa_cons (pv 10) (pa_cons (pv 7) pa_nil))))))) pss_nil)
      (pss_cons (ps_if (pt_cmpR (r := rEqX K) (op_eqX hr.units) (pv 1) pe_str (nomark _)) (pss_one (ps_ret (pe_lc (own := [("value", 10), ("row", 7)]) (g := gTup K 2 (gCons (gName 10) (gCons (gName 7) gNil))) (by rfl) sc__law_all.nd (pi_seq (pe_call c__law_all.ok hr (by rfl) c__law_all.m c__law_all.kp c__law_all.b .nil pass0 (pa_cons (pe_ix (r := rIx K) ix_seq (pv 0) pe_int (fun _ _ => rfl)) pa_nil))) (blkOk_by (own := [("value", 10), ("row", 7)]) (N := N__law_all) (sc := defScope s__law_all) (by decide +kernel)) (fun _ _ _ _ _ => (pg_tup rfl (pgs_cons (pg_name (i := 10) sc__law_all.nd rfl (Or.inl rfl) (hf := Or.inr rfl)) (pgs_cons (pg_name (i := 7) sc__law_all.nd rfl (Or.inl rfl) (hf := Or.inr rfl)) pgs_nil)))) (fun _ _ _ _ _ => pts_nil) (fun _ _ _ _ _ => (pe_tup (pa_cons (pe_call c__law_turn.ok hr (by rfl) c__law_turn.m c__law_turn.kp c__law_turn.b .nil pass0 (pa_cons (pe_ix (r := rIx K) ix_seq (pv 0) pe_int (fun _ _ => rfl)) (pa_cons (pv 10) pa_nil))) (pa_cons (pv 7) pa_nil))))))) pss_nil)
      (pss_cons (ps_if (pt_cmpR (r := rEqX K) (op_eqX hr.units) (pv 1) pe_str (nomark _)) (pss_cons (ps_set (i := 2) sc__law_all.nd rfl (Or.inl rfl) (pe_lst (pa_cons (pe_tup (pa_cons (pe_tup pa_nil) (pa_cons (pe_tup pa_nil) pa_nil))) pa_nil)))
        (pss_cons (ps_for PassesOwn.never rfl (pi_seq (pe_ix (r := rIx K) ix_seq (pv 0) pe_int (fun _ _ => rfl))) (pg_name (i := 4) sc__law_all.nd rfl (Or.inl rfl)) (pss_one (ps_set (i := 2) sc__law_all.nd rfl (Or.inl rfl) (pe_call c__law_beside.ok hr (by rfl) c__law_beside.m c__law_beside.kp c__law_beside.b .nil pass0 (pa_cons (pv 2) (pa_cons (pe_call c__law_all.ok hr (by rfl) c__law_all.m c__law_all.kp c__law_all.b .nil pass0 (pa_cons (pv 4) pa_nil)) (pa_cons (pe_tup pa_nil) pa_nil)))))))
        (pss_one (ps_ret (pv 2))))) pss_nil)
      (pss_cons (ps_if (pt_cmpR (r := rEqX K) (op_eqX hr.units) (pv 1) pe_str (nomark _)) (pss_cons (ps_set (i := 2) sc__law_all.nd rfl (Or.inl rfl) (pe_lst pa_nil))
        (pss_cons (ps_set (i := 5) sc__law_all.nd rfl (Or.inl rfl) (pe_call c__law_all.ok hr (by rfl) c__law_all.m c__law_all.kp c__law_all.b .nil pass0 (pa_cons (pe_ix (r := rIx K) ix_seq (pv 0) pe_int (fun _ _ => rfl)) pa_nil)))
        (pss_cons (ps_for PassesOwn.never rfl (pi_seq (pe_call c__law_all.ok hr (by rfl) c__law_all.m c__law_all.kp c__law_all.b .nil pass0 (pa_cons (pe_ix (r := rIx K) ix_seq (pv 0) pe_int (fun _ _ => rfl)) pa_nil))) (pg_tup rfl (pgs_cons (pg_name (i := 6) sc__law_all.nd rfl (Or.inl rfl)) (pgs_cons (pg_name (i := 7) sc__law_all.nd rfl (Or.inl rfl)) pgs_nil))) (pss_one (ps_if (pt_chain op_leX op_leX pe_int (pv 6) pe_int) (pss_cons (ps_set (i := 8) sc__law_all.nd rfl (Or.inl rfl) (pe_lst (pa_cons (pe_tup (pa_cons (pe_tup pa_nil) (pa_cons (pv 7) pa_nil))) pa_nil)))
            (pss_cons (ps_for PassesOwn.never rfl (pi_range1 (by rfl) T.z_range (pa_cons (pv 6) pa_nil)) (pg_name (i := 9) sc__law_all.nd rfl (Or.inl rfl)) (pss_one (ps_set (i := 8) sc__law_all.nd rfl (Or.inl rfl) (pe_call c__law_beside.ok hr (by rfl) c__law_beside.m c__law_beside.kp c__law_beside.b .nil pass0 (pa_cons (pv 8) (pa_cons (pv 5) (pa_cons (pe_tup pa_nil) pa_nil)))))))
            (pss_one (ps_set (i := 2) sc__law_all.nd rfl (Or.inl rfl) (pe_op (r := rAddX K) op_addX (pv 2) (pv 8)))))) pss_nil)))
        (pss_one (ps_ret (pv 2)))))) pss_nil)
      (pss_cons (ps_set (i := 5) sc__law_all.nd rfl (Or.inl rfl) (pe_call c__law_all.ok hr (by rfl) c__law_all.m c__law_all.kp c__law_all.b .nil pass0 (pa_cons (pe_ix (r := rIx K) ix_seq (pv 0) pe_int (fun _ _ => rfl)) pa_nil)))
      (pss_cons (ps_set (i := 8) sc__law_all.nd rfl (Or.inl rfl) (pe_lst (pa_cons (pe_tup (pa_cons (pe_tup pa_nil) (pa_cons (pe_tup pa_nil) pa_nil))) pa_nil)))
      (pss_cons (ps_set (i := 2) sc__law_all.nd rfl (Or.inl rfl) (pe_lst pa_nil))
      (pss_cons (ps_for PassesOwn.never rfl (pi_range1 (by rfl) T.z_range (pa_cons (pe_ix (r := rIx K) ix_seq (pv 0) pe_int (fun _ _ => rfl)) pa_nil)) (pg_name (i := 6) sc__law_all.nd rfl (Or.inl rfl)) (pss_one (ps_if (pt_cmpR op_lt (pv 6) (pe_ix (r := rIx K) ix_seq (pv 0) pe_int (fun _ _ => rfl)) (nomark _)) (pss_one (ps_set (i := 8) sc__law_all.nd rfl (Or.inl rfl) (pe_call c__law_beside.ok hr (by rfl) c__law_beside.m c__law_beside.kp c__law_beside.b .nil pass0 (pa_cons (pv 8) (pa_cons (pv 5) (pa_cons (pe_tup pa_nil) pa_nil)))))) (pss_cons (ps_set (i := 2) sc__law_all.nd rfl (Or.inl rfl) (pe_op (r := rAddX K) op_addX (pv 2) (pe_lc (own := [("value", 10), ("row", 7)]) (g := gTup K 2 (gCons (gName 10) (gCons (gName 7) gNil))) (by rfl) sc__law_all.nd (pi_seq (pv 8)) (blkOk_by (own := [("value", 10), ("row", 7)]) (N := N__law_all) (sc := defScope s__law_all) (by decide +kernel)) (fun _ _ _ _ _ => (pg_tup rfl (pgs_cons (pg_name (i := 10) sc__law_all.nd rfl (Or.inl rfl) (hf := Or.inr rfl)) (pgs_cons (pg_name (i := 7) sc__law_all.nd rfl (Or.inl rfl) (hf := Or.inr rfl)) pgs_nil)))) (fun _ _ _ _ _ => pts_nil) (fun _ _ _ _ _ => (pe_tup (pa_cons (pv 10) (pa_cons (pe_op (r := rAddX K) op_addX (pv 7) (pe_tup (pa_cons pe_int pa_nil))) pa_nil)))))))
          (pss_one (ps_set (i := 8) sc__law_all.nd rfl (Or.inl rfl) (pe_call c__law_beside.ok hr (by rfl) c__law_beside.m c__law_beside.kp c__law_beside.b .nil pass0 (pa_cons (pv 8) (pa_cons (pv 5) (pa_cons (pe_tup (pa_cons pe_int pa_nil)) pa_nil))))))))))
      (pss_one (ps_ret (pe_op (r := rAddX K) op_addX (pv 2) (pv 8)))))))))))))))), ?_⟩
  exact body_ok (N := N__law_all) (f := b__law_all f__law_all f__law_holds f__law_turn f__law_beside) (ss_seq (ss_asg (se_op (se_var 0) se_int rd_ix) (sg_name 1))
      (ss_seq (ss_if (st_test (se_op (se_var 1) se_str rd_eq)) (ss_ret (se_l (sl_lc (vs := [3]) (si_rng1 (sa_cons (se_op (se_op (se_op (se_var 0) se_int rd_ix) (se_op (se_var 0) se_int rd_ix) rd_sub) se_int rd_add) sa_nil)) (sg_name 3) (by decide) st_yes (se_tup (sa_cons (se_op (se_op (se_var 0) se_int rd_ix) (se_var 3) rd_add) (sa_cons (se_tup (sa_cons (se_var 3) sa_nil)) sa_nil)))))) ss_next)
      (ss_seq (ss_if (st_test (se_op (se_var 1) se_str rd_eq)) (ss_ret (se_l (sl_lc (vs := [3]) (si_rng1 (sa_cons (se_cb (sa_cons (se_op (se_var 0) se_int rd_ix) sa_nil) rc_len) sa_nil)) (sg_name 3) (by decide) st_yes (se_tup (sa_cons (se_op (se_op (se_var 0) se_int rd_ix) (se_var 3) rd_ix) (sa_cons (se_tup (sa_cons (se_var 3) sa_nil)) sa_nil)))))) ss_next)
      (ss_seq (ss_if (st_test (se_op (se_var 1) se_str rd_eq)) (ss_seq (ss_asg (se_l (sl_lst sa_nil)) (sg_name 2))
        (ss_seq (ss_for (si_rng1 (sa_cons (se_cb (sa_cons (se_op (se_var 0) se_int rd_ix) sa_nil) rc_len) sa_nil)) (sg_name 3) (ss_asg (se_op (se_var 2) (se_l (sl_lc (vs := [10, 7]) (si_seq (se_call (sa_cons (se_op (se_op (se_var 0) se_int rd_ix) (se_var 3) rd_ix) sa_nil))) (sg_tup 2 (sgs_cons (sg_name 10) (sgs_cons (sg_name 7) sgs_nil))) (by decide) st_yes (se_tup (sa_cons (se_var 10) (sa_cons (se_op (se_tup (sa_cons (se_var 3) sa_nil)) (se_var 7) rd_add) sa_nil))))) rd_add) (sg_name 2)))
        (ss_ret (se_var 2)))) ss_next)
      (ss_seq (ss_if (st_test (se_op (se_var 1) se_str rd_eq)) (ss_ret (se_l (sl_lc (vs := [10, 7]) (si_seq (se_call (sa_cons (se_op (se_var 0) se_int rd_ix) sa_nil))) (sg_tup 2 (sgs_cons (sg_name 10) (sgs_cons (sg_name 7) sgs_nil))) (by decide) (st_B (se_call (sa_cons (se_op (se_var 0) se_int rd_ix) (sa_cons (se_var 10) sa_nil)))) (se_tup (sa_cons (se_var 10) (sa_cons (se_var 7) sa_nil)))))) ss_next)
      (ss_seq (ss_if (st_test (se_op (se_var 1) se_str rd_eq)) (ss_ret (se_l (sl_lc (vs := [10, 7]) (si_seq (se_call (sa_cons (se_op (se_var 0) se_int rd_ix) sa_nil))) (sg_tup 2 (sgs_cons (sg_name 10) (sgs_cons (sg_name 7) sgs_nil))) (by decide) st_yes (se_tup (sa_cons (se_call (sa_cons (se_op (se_var 0) se_int rd_ix) (sa_cons (se_var 10) sa_nil))) (sa_cons (se_var 7) sa_nil)))))) ss_next)
      (ss_seq (ss_if (st_test (se_op (se_var 1) se_str rd_eq)) (ss_seq (ss_asg (se_l (sl_lst (sa_cons (se_tup (sa_cons (se_tup sa_nil) (sa_cons (se_tup sa_nil) sa_nil))) sa_nil))) (sg_name 2))
        (ss_seq (ss_for (si_seq (se_op (se_var 0) se_int rd_ix)) (sg_name 4) (ss_asg (se_call (sa_cons (se_var 2) (sa_cons (se_call (sa_cons (se_var 4) sa_nil)) (sa_cons (se_tup sa_nil) sa_nil)))) (sg_name 2)))
        (ss_ret (se_var 2)))) ss_next)
      (ss_seq (ss_if (st_test (se_op (se_var 1) se_str rd_eq)) (ss_seq (ss_asg (se_l (sl_lst sa_nil)) (sg_name 2))
        (ss_seq (ss_asg (se_call (sa_cons (se_op (se_var 0) se_int rd_ix) sa_nil)) (sg_name 5))
        (ss_seq (ss_for (si_seq (se_call (sa_cons (se_op (se_var 0) se_int rd_ix) sa_nil))) (sg_tup 2 (sgs_cons (sg_name 6) (sgs_cons (sg_name 7) sgs_nil))) (ss_if (st_test (se_chain se_int (se_var 6) se_int rd_le rd_le)) (ss_seq (ss_asg (se_l (sl_lst (sa_cons (se_tup (sa_cons (se_tup sa_nil) (sa_cons (se_var 7) sa_nil))) sa_nil))) (sg_name 8))
            (ss_seq (ss_for (si_rng1 (sa_cons (se_var 6) sa_nil)) (sg_name 9) (ss_asg (se_call (sa_cons (se_var 8) (sa_cons (se_var 5) (sa_cons (se_tup sa_nil) sa_nil)))) (sg_name 8)))
            (ss_asg (se_op (se_var 2) (se_var 8) rd_add) (sg_name 2)))) ss_next))
        (ss_ret (se_var 2))))) ss_next)
      (ss_seq (ss_asg (se_call (sa_cons (se_op (se_var 0) se_int rd_ix) sa_nil)) (sg_name 5))
      (ss_seq (ss_asg (se_l (sl_lst (sa_cons (se_tup (sa_cons (se_tup sa_nil) (sa_cons (se_tup sa_nil) sa_nil))) sa_nil))) (sg_name 8))
      (ss_seq (ss_asg (se_l (sl_lst sa_nil)) (sg_name 2))
      (ss_seq (ss_for (si_rng1 (sa_cons (se_op (se_var 0) se_int rd_ix) sa_nil)) (sg_name 6) (ss_if (st_test (se_op (se_var 6) (se_op (se_var 0) se_int rd_ix) rd_lt)) (ss_asg (se_call (sa_cons (se_var 8) (sa_cons (se_var 5) (sa_cons (se_tup sa_nil) sa_nil)))) (sg_name 8)) (ss_seq (ss_asg (se_op (se_var 2) (se_l (sl_lc (vs := [10, 7]) (si_seq (se_var 8)) (sg_tup 2 (sgs_cons (sg_name 10) (sgs_cons (sg_name 7) sgs_nil))) (by decide) st_yes (se_tup (sa_cons (se_var 10) (sa_cons (se_op (se_var 7) (se_tup (sa_cons se_int sa_nil)) rd_add) sa_nil))))) rd_add) (sg_name 2))
          (ss_asg (se_call (sa_cons (se_var 8) (sa_cons (se_var 5) (sa_cons (se_tup (sa_cons se_int sa_nil)) sa_nil)))) (sg_name 8)))))
      (ss_ret (se_op (se_var 2) (se_var 8) rd_add)))))))))))))) h
end
end K10
namespace K10
open PySem PySem.Spec PyProof.Rows L2 Evl Cr CrT
section
variable {P : Program} {w : World} {K : PySem.W.Frag} {mg : Str → Option Value} {base : Heap}
abbrev s_holds : Stmt := topS 2
abbrev N_holds : List Str := ["condition", "value", "name", "item", "after"]
theorem sc_holds : FnScope N_holds ["condition", "value"] (defScope s_holds) := ⟨rfl, rfl, rfl, by decide +kernel, rfl, by decide +kernel, by decide +kernel⟩
abbrev s__are_different : Stmt := topS 3
abbrev N__are_different : List Str := ["values", "place", "value"]
theorem sc__are_different : FnScope N__are_different ["values"] (defScope s__are_different) := ⟨rfl, rfl, rfl, by decide +kernel, rfl, by decide +kernel, by decide +kernel⟩
theorem ok__are_different {f : Addr} {fd : FuncData} {k : Nat} (T : Tx mg) (F : Fun K "_are_different" "_are_different" s__are_different f fd) : FnOk P w K mg base CX0 (k + 1) f fd ["values"] (spDiff K) := by
  refine F.ok sc__are_different (fun vs H Q E h => ?_) (fun cdv A outer s H vs Q E hr h => ?_)
  · obtain ⟨u, ds, rfl, _⟩ := h
    rfl
  obtain ⟨u, ds, rfl, hu, hd, q⟩ := h
  refine ⟨_, (pss_one (ps_ret (pe_callB (cr_all rfl) (by rfl) T.z_all (by decide +kernel) (pa_cons (pe_lc (own := [("place", 1), ("value", 2)]) (g := gTup K 2 (gCons (gName 1) (gCons (gName 2) gNil))) (by rfl) sc__are_different.nd (pi_enumT (by rfl) T.z_enumerate (pa_cons (pv 0) pa_nil)) (blkOk_by (own := [("place", 1), ("value", 2)]) (N := N__are_different) (sc := defScope s__are_different) (by decide +kernel)) (fun _ _ _ _ _ => (pg_tup rfl (pgs_cons (pg_name (i := 1) sc__are_different.nd rfl (Or.inl rfl) (hf := Or.inr rfl)) (pgs_cons (pg_name (i := 2) sc__are_different.nd rfl (Or.inl rfl) (hf := Or.inr rfl)) pgs_nil)))) (fun _ _ _ _ _ => pts_nil) (fun _ _ _ _ _ => (pe_cmpR (r := rInTup K true) (op_notInTup (Cr.Room.u65 hr)) (pv 2) (pe_slice (r := rSlA K) sl_tupA (pv 0) (po_some (pe_op op_add (pv 1) pe_int)) po_none) (by rfl)))) pa_nil)))), ?_⟩
  obtain ⟨a, rfl⟩ := hu.ref
  obtain ⟨xs, hxs, hv⟩ := hu.vds
  have hl := hv.1
  have hd1 : ds.length ≤ 60 ∧ ∀ e ∈ ds, Dk 19 e := (show Dk (19 + 1) (.tuple ds) from hd).item
  refine s_ret (v := .bl (diff ds)) (ev_is (ev_all (el_is (el_lcE (fun i => .bl (!(ds.drop (i + 1)).any fun z => PyData.eqv z (ds.getD i .none))) (ev_var rfl) hxs (by omega) (fun _ _ => rfl) (fun i x H1 e1 hx => ?_)) (given_all _ _))) ?_) q
  · have hi : i < ds.length := by have := (List.getElem?_eq_some_iff.mp hx).1; omega
    have hdi := getD_at (a0 := PyData.none) hi
    have hdk := hd1.2 _ (List.mem_of_getElem? hdi)
    exact ev_inS (no := true) (ev_var rfl) (evs_after (i := i) (ev_var rfl) (ev_op (ev_var rfl) ev_c rv_I0) (ex_t e1 hxs) (by omega)) ((hv.2 i _ _ hx hdi).keep (Kt.same e1)) (fun H2 e2 => (hv.keep (Kt.same (e1.trans e2))).drop _) (hdk.shaped (by omega)) ((hd.sub (by rw [List.length_drop]; omega) fun e he => List.mem_of_mem_drop he).shaped (by omega))
  · rw [hl, diff_after]
theorem ok_holds {f : Addr} {fd : FuncData} {n : Nat} (T : Tx mg) (F : Fun K "holds" "holds" s_holds f fd) (c__are_different : Cl P w K mg base "_are_different" ["values"] 1 (spDiff K)) (c_holds : Cl P w K mg base "holds" ["condition", "value"] (n + 1) (spHolds K n)) : FnOk P w K mg base CX0 (n + 1 + 1) f fd ["condition", "value"] (spHolds K (n + 1)) := by
  refine F.ok sc_holds (fun vs H Q E h => ?_) (fun cdv A outer s H vs Q E hr h => ?_)
  · obtain ⟨v, u, c, k, d, rfl, _⟩ := h
    rfl
  obtain ⟨v, u, c, k, d, rfl, hv, hc, hu, hd, hf, hi, q⟩ := h
  refine ⟨_, (pss_cons (ps_set (i := 2) sc_holds.nd rfl (Or.inl rfl) (pe_ix (r := rIxT K) ix_tup (pv 0) pe_int (fun _ _ => rfl)))
      (pss_cons (ps_if (pt_cmpR op_eq (pv 2) pe_str (nomark _)) (pss_one (ps_ret (pe_cmpR op_le (pv 1) (pe_ix (r := rIxT K) ix_tup (pv 0) pe_int (fun _ _ => rfl)) (nomark _)))) pss_nil)
      (pss_cons (ps_if (pt_cmpR op_eq (pv 2) pe_str (nomark _)) (pss_one (ps_ret (pe_cmpR op_eq (pe_op op_mod (pv 1) (pe_ix (r := rIxT K) ix_tup (pv 0) pe_int (fun _ _ => rfl))) pe_int (nomark _)))) pss_nil)
      (pss_cons (ps_if (pt_cmpR op_eq (pv 2) pe_str (nomark _)) (pss_one (ps_ret (pe_cmpR op_eq (pv 1) (pe_ix (r := rIxT K) ix_tup (pv 0) pe_int (fun _ _ => rfl)) (nomark _)))) pss_nil)
      (pss_cons (ps_if (pt_cmpR op_eq (pv 2) pe_str (nomark _)) (pss_one (ps_ret (pe_call c_holds.ok (hr.mono (by omega)) (by rfl) c_holds.m c_holds.kp c_holds.b .nil pass0 (pa_cons (pe_ix (r := rIxT K) ix_tup (pv 0) pe_int (fun _ _ => rfl)) (pa_cons (pe_ix (r := rIxT K) ix_tup (pv 1) (pe_ix (r := rIxT K) ix_tup (pv 0) pe_int (fun _ _ => rfl)) (fun _ _ => rfl)) pa_nil))))) pss_nil)
      (pss_cons (ps_if (pt_cmpR op_eq (pv 2) pe_str (nomark _)) (pss_one (ps_ret (pe_callB (cr_all rfl) (by rfl) T.z_all (by decide +kernel) (pa_cons (pe_lc (own := [("item", 3)]) (g := gName 3) (by rfl) sc_holds.nd (pi_tup (pv 1)) (blkOk_by (own := [("item", 3)]) (N := N_holds) (sc := defScope s_holds) (by decide +kernel)) (fun _ _ _ _ _ => (pg_name (i := 3) sc_holds.nd rfl (Or.inl rfl))) (fun _ _ _ _ _ => pts_nil) (fun _ _ _ _ _ => (pe_call c_holds.ok (hr.mono (by omega)) (by rfl) c_holds.m c_holds.kp c_holds.b .nil pass0 (pa_cons (pe_ix (r := rIxT K) ix_tup (pv 0) pe_int (fun _ _ => rfl)) (pa_cons (pv 3) pa_nil))))) pa_nil)))) pss_nil)
      (pss_cons (ps_if (pt_cmpR op_eq (pv 2) pe_str (nomark _)) (pss_one (ps_ret (pe_callB (cr_any rfl) (by rfl) T.z_any (by decide +kernel) (pa_cons (pe_lc (own := [("item", 3)]) (g := gName 3) (by rfl) sc_holds.nd (pi_tup (pv 1)) (blkOk_by (own := [("item", 3)]) (N := N_holds) (sc := defScope s_holds) (by decide +kernel)) (fun _ _ _ _ _ => (pg_name (i := 3) sc_holds.nd rfl (Or.inl rfl))) (fun _ _ _ _ _ => pts_nil) (fun _ _ _ _ _ => (pe_call c_holds.ok (hr.mono (by omega)) (by rfl) c_holds.m c_holds.kp c_holds.b .nil pass0 (pa_cons (pe_ix (r := rIxT K) ix_tup (pv 0) pe_int (fun _ _ => rfl)) (pa_cons (pv 3) pa_nil))))) pa_nil)))) pss_nil)
      (pss_cons (ps_if (pt_cmpR op_eq (pv 2) pe_str (nomark _)) (pss_one (ps_ret (pe_call c_holds.ok (hr.mono (by omega)) (by rfl) c_holds.m c_holds.kp c_holds.b .nil pass0 (pa_cons (pe_ix (r := rIxT K) ix_tup (pv 0) pe_int (fun _ _ => rfl)) (pa_cons (pe_callB call_len_seq (by rfl) T.z_len PySem.boot_len (pa_cons (pv 1) pa_nil)) pa_nil))))) pss_nil)
      (pss_cons (ps_if (pt_cmpR op_eq (pv 2) pe_str (nomark _)) (pss_one (ps_ret (pe_call c_holds.ok (hr.mono (by omega)) (by rfl) c_holds.m c_holds.kp c_holds.b .nil pass0 (pa_cons (pe_ix (r := rIxT K) ix_tup (pv 0) pe_int (fun _ _ => rfl)) (pa_cons (pe_callB (cr_sumT rfl) (by rfl) T.z_sum (by decide +kernel) (pa_cons (pv 1) pa_nil)) pa_nil))))) pss_nil)
      (pss_cons (ps_if (pt_cmpR op_eq (pv 2) pe_str (nomark _)) (pss_one (ps_ret (pe_callB (cr_all rfl) (by rfl) T.z_all (by decide +kernel) (pa_cons (pe_lc (own := [("item", 3), ("after", 4)]) (g := gTup K 2 (gCons (gName 3) (gCons (gName 4) gNil))) (by rfl) sc_holds.nd (RZ.pi_zipA (by rfl) T.z_zip (pa_cons (pv 1) (pa_cons (pe_slice (r := rSlA K) sl_tupA (pv 1) (po_some pe_int) po_none) pa_nil))) (blkOk_by (own := [("item", 3), ("after", 4)]) (N := N_holds) (sc := defScope s_holds) (by decide +kernel)) (fun _ _ _ _ _ => (pg_tup rfl (pgs_cons (pg_name (i := 3) sc_holds.nd rfl (Or.inl rfl) (hf := Or.inr rfl)) (pgs_cons (pg_name (i := 4) sc_holds.nd rfl (Or.inl rfl) (hf := Or.inr rfl)) pgs_nil)))) (fun _ _ _ _ _ => pts_nil) (fun _ _ _ _ _ => (pe_cmpR op_le (pv 3) (pv 4) (nomark _)))) pa_nil)))) pss_nil)
      (pss_cons (ps_if (pt_cmpR op_eq (pv 2) pe_str (nomark _)) (pss_one (ps_ret (pe_call c__are_different.ok (hr.mono (by omega)) (by rfl) c__are_different.m c__are_different.kp c__are_different.b .nil pass0 (pa_cons (pv 1) pa_nil)))) pss_nil)
      (pss_cons (ps_if (pt_cmpR op_eq (pv 2) pe_str (nomark _)) (pss_one (ps_ret (pe_not (pe_call c_holds.ok (hr.mono (by omega)) (by rfl) c_holds.m c_holds.kp c_holds.b .nil pass0 (pa_cons (pe_ix (r := rIxT K) ix_tup (pv 0) pe_int (fun _ _ => rfl)) (pa_cons (pv 1) pa_nil)))))) pss_nil)
      (pss_cons (ps_if (pt_cmpR op_eq (pv 2) pe_str (nomark _)) (pss_one (ps_ret (pe_and (pe_call c_holds.ok (hr.mono (by omega)) (by rfl) c_holds.m c_holds.kp c_holds.b .nil pass0 (pa_cons (pe_ix (r := rIxT K) ix_tup (pv 0) pe_int (fun _ _ => rfl)) (pa_cons (pv 1) pa_nil))) (pe_one (pe_call c_holds.ok (hr.mono (by omega)) (by rfl) c_holds.m c_holds.kp c_holds.b .nil pass0 (pa_cons (pe_ix (r := rIxT K) ix_tup (pv 0) pe_int (fun _ _ => rfl)) (pa_cons (pv 1) pa_nil))))))) pss_nil)
      (pss_one (ps_ret (pe_or (pe_call c_holds.ok (hr.mono (by omega)) (by rfl) c_holds.m c_holds.kp c_holds.b .nil pass0 (pa_cons (pe_ix (r := rIxT K) ix_tup (pv 0) pe_int (fun _ _ => rfl)) (pa_cons (pv 1) pa_nil))) (pe_one (pe_call c_holds.ok (hr.mono (by omega)) (by rfl) c_holds.m c_holds.kp c_holds.b .nil pass0 (pa_cons (pe_ix (r := rIxT K) ix_tup (pv 0) pe_int (fun _ _ => rfl)) (pa_cons (pv 1) pa_nil)))))))))))))))))))), ?_⟩
  cases c with
  | atmost m =>
    rw [Cd.data] at hv
    obtain ⟨a, x, y, rfl, hs, hx, hy⟩ := hv.g2
    cases hx.str_inv
    cases hy.int_inv
    cases isInt_of hf
    obtain ⟨i, rfl⟩ := isk_int hi
    cases hu.int_inv
    refine q_asg (ev_ixT (j := 0) (ev_var rfl) ev_c hs rfl) fun H1 e1 => ?_
    refine takeS e1 rfl (by decide +kernel) fun H2 e2 => ?_
    exact s_ret (ev_op (ev_var rfl) (ev_ixT (j := 1) (ev_var rfl) ev_c (ex_t e2 hs) rfl) rv_I0) fun Hz ez => q Hz (e2.trans ez)
  | divides m =>
    rw [Cd.data] at hv
    obtain ⟨a, x, y, rfl, hs, hx, hy⟩ := hv.g2
    cases hx.str_inv
    cases hy.int_inv
    obtain ⟨hf1, hf2⟩ := Bool.and_eq_true_iff.mp (show (k.isInt && (decide (1 ≤ m) && decide (m ≤ 100))) = true from hf)
    have hm : 1 ≤ m := of_decide_eq_true (Bool.and_eq_true_iff.mp hf2).1
    cases isInt_of hf1
    obtain ⟨i, rfl⟩ := isk_int hi
    cases hu.int_inv
    refine q_asg (ev_ixT (j := 0) (ev_var rfl) ev_c hs rfl) fun H1 e1 => ?_
    refine skipS e1 rfl (by decide +kernel) fun H2 e2 => ?_
    refine takeS e2 rfl (by decide +kernel) fun H3 e3 => ?_
    exact s_ret (ev_op (ev_op (ev_var rfl) (ev_ixT (j := 1) (ev_var rfl) ev_c (ex_t e3 hs) rfl) (rv_I (by show 0 < m; omega))) ev_c (rv_eq rfl)) fun Hz ez => q Hz (e3.trans ez)
  | is m =>
    rw [Cd.data] at hv
    obtain ⟨a, x, y, rfl, hs, hx, hy⟩ := hv.g2
    cases hx.str_inv
    cases hy.str_inv
    cases isWord_of (Bool.and_eq_true_iff.mp (show (k.isWord && Cr.isWord m) = true from hf)).1
    obtain ⟨i, rfl⟩ := isk_word hi
    cases hu.str_inv
    refine q_asg (ev_ixT (j := 0) (ev_var rfl) ev_c hs rfl) fun H1 e1 => ?_
    refine skipS e1 rfl (by decide +kernel) fun H2 e2 => ?_
    refine skipS e2 rfl (by decide +kernel) fun H3 e3 => ?_
    refine takeS e3 rfl (by decide +kernel) fun H4 e4 => ?_
    exact s_ret (ev_op (ev_var rfl) (ev_ixT (j := 1) (ev_var rfl) ev_c (ex_t e4 hs) rfl) (rv_eq rfl)) fun Hz ez => q Hz (e4.trans ez)
  | item m c =>
    rw [Cd.data] at hv
    obtain ⟨a, x, y, z, rfl, hs, hx, hy, hz⟩ := hv.g3
    cases hx.str_inv
    obtain ⟨j, ks, rfl, rfl, hj, hf1⟩ := fits_item hf
    cases hy.int_inv
    have hc1 : OkC n c := by cases hc with | item _ h => exact h
    obtain ⟨ds, rfl, hall⟩ := isk_tup hi
    obtain ⟨hkl, hki⟩ := iskAll_get hall
    obtain ⟨b, rfl⟩ := hu.ref
    obtain ⟨xs, hxs, hvd⟩ := hu.vds
    have hl := hvd.1
    have hd1 := (show Dk (19 + 1) (.tuple ds) from hd).item
    have hxj : xs[j]? = some (xs.getD j .non) := getD_at (by omega)
    have hdj : ds[j]? = some (ds.getD j .none) := getD_at (by omega)
    refine q_asg (ev_ixT (j := 0) (ev_var rfl) ev_c hs rfl) fun H1 e1 => ?_
    refine skipS e1 rfl (by decide +kernel) fun H2 e2 => ?_
    refine skipS e2 rfl (by decide +kernel) fun H3 e3 => ?_
    refine skipS e3 rfl (by decide +kernel) fun H4 e4 => ?_
    refine takeS e4 rfl (by decide +kernel) fun H5 e5 => ?_
    exact s_ret (ev_callC (ea_cons (ev_ixT (j := 2) (ev_var rfl) ev_c (ex_t e5 hs) rfl) (ea_cons (ev_ixT (j := j) (ev_var rfl) (ev_ixT (j := 1) (ev_var rfl) ev_c (ex_t e5 hs) rfl) (ex_t e5 hxs) hxj) ea_nil)) (holds_call (hz.keep (Kt.same e5)) hc1 ((hvd.2 j _ _ hxj hdj).keep (Kt.same e5)) ((hd1.2 _ (List.mem_of_getElem? hdj)).mono (by omega)) hf1 (hki j hj))) fun Hz ez => q Hz (e5.trans ez)
  | every c =>
    rw [Cd.data] at hv
    obtain ⟨a, x, y, rfl, hs, hx, hy⟩ := hv.g2
    cases hx.str_inv
    obtain ⟨j, rfl, hf1⟩ := fits_list (k := k) (f := fun j => fitsC c j) hf
    obtain ⟨ds, rfl, hall⟩ := isk_lst hi
    obtain ⟨b, rfl⟩ := hu.ref
    obtain ⟨xs, hxs, hvd⟩ := hu.vds
    have hl := hvd.1
    have hd1 := (show Dk (19 + 1) (.tuple ds) from hd).item
    have hc1 : OkC n c := by cases hc with | every h => exact h
    refine q_asg (ev_ixT (j := 0) (ev_var rfl) ev_c hs rfl) fun H1 e1 => ?_
    refine skipS e1 rfl (by decide +kernel) fun H2 e2 => ?_
    refine skipS e2 rfl (by decide +kernel) fun H3 e3 => ?_
    refine skipS e3 rfl (by decide +kernel) fun H4 e4 => ?_
    refine skipS e4 rfl (by decide +kernel) fun H5 e5 => ?_
    refine takeS e5 rfl (by decide +kernel) fun H6 e6 => ?_
    refine s_ret (v := .bl (holdsC (.every c) (.tuple ds))) (ev_is (ev_all (el_is (el_lcT (fun _ => true) (fun i => .bl (holdsC c (ds.getD i .none))) (ev_var rfl) (ex_t e6 hxs) (by omega) (fun _ => rfl) (fun _ _ _ _ _ => et_yes) (fun i x Hy ey hx _ => ?_)) (given_all _ _))) ?_) fun Hz ez => q Hz (e6.trans ez)
    · have hi' : i < ds.length := by have := (List.getElem?_eq_some_iff.mp hx).1; omega
      have hdi := getD_at (a0 := PyData.none) hi'
      exact ev_callC (ea_cons (ev_ixT (j := 1) (ev_var rfl) ev_c (ex_t (e6.trans ey) hs) rfl) (ea_cons (ev_var rfl) ea_nil)) (holds_call (hy.keep (Kt.same (e6.trans ey))) hc1 ((hvd.2 i _ _ hx hdi).keep (Kt.same (e6.trans ey))) ((hd1.2 _ (List.mem_of_getElem? hdi)).mono (by omega)) hf1 (hall _ (List.mem_of_getElem? hdi)))
    · rw [hl, all_items]
      rfl
  | some_ c =>
    rw [Cd.data] at hv
    obtain ⟨a, x, y, rfl, hs, hx, hy⟩ := hv.g2
    cases hx.str_inv
    obtain ⟨j, rfl, hf1⟩ := fits_list (k := k) (f := fun j => fitsC c j) hf
    obtain ⟨ds, rfl, hall⟩ := isk_lst hi
    obtain ⟨b, rfl⟩ := hu.ref
    obtain ⟨xs, hxs, hvd⟩ := hu.vds
    have hl := hvd.1
    have hd1 := (show Dk (19 + 1) (.tuple ds) from hd).item
    have hc1 : OkC n c := by cases hc with | some_ h => exact h
    refine q_asg (ev_ixT (j := 0) (ev_var rfl) ev_c hs rfl) fun H1 e1 => ?_
    refine skipS e1 rfl (by decide +kernel) fun H2 e2 => ?_
    refine skipS e2 rfl (by decide +kernel) fun H3 e3 => ?_
    refine skipS e3 rfl (by decide +kernel) fun H4 e4 => ?_
    refine skipS e4 rfl (by decide +kernel) fun H5 e5 => ?_
    refine skipS e5 rfl (by decide +kernel) fun H6 e6 => ?_
    refine takeS e6 rfl (by decide +kernel) fun H7 e7 => ?_
    refine s_ret (v := .bl (holdsC (.some_ c) (.tuple ds))) (ev_is (ev_any (el_is (el_lcT (fun _ => true) (fun i => .bl (holdsC c (ds.getD i .none))) (ev_var rfl) (ex_t e7 hxs) (by omega) (fun _ => rfl) (fun _ _ _ _ _ => et_yes) (fun i x Hy ey hx _ => ?_)) (given_all _ _))) ?_) fun Hz ez => q Hz (e7.trans ez)
    · have hi' : i < ds.length := by have := (List.getElem?_eq_some_iff.mp hx).1; omega
      have hdi := getD_at (a0 := PyData.none) hi'
      exact ev_callC (ea_cons (ev_ixT (j := 1) (ev_var rfl) ev_c (ex_t (e7.trans ey) hs) rfl) (ea_cons (ev_var rfl) ea_nil)) (holds_call (hy.keep (Kt.same (e7.trans ey))) hc1 ((hvd.2 i _ _ hx hdi).keep (Kt.same (e7.trans ey))) ((hd1.2 _ (List.mem_of_getElem? hdi)).mono (by omega)) hf1 (hall _ (List.mem_of_getElem? hdi)))
    · rw [hl, any_items]
      rfl
  | size c =>
    rw [Cd.data] at hv
    obtain ⟨a, x, y, rfl, hs, hx, hy⟩ := hv.g2
    cases hx.str_inv
    obtain ⟨j, rfl, hf1⟩ := fits_list (k := k) (f := fun j => fitsC c .int) hf
    obtain ⟨ds, rfl, hall⟩ := isk_lst hi
    obtain ⟨b, rfl⟩ := hu.ref
    obtain ⟨xs, hxs, hvd⟩ := hu.vds
    have hl := hvd.1
    have hd1 := (show Dk (19 + 1) (.tuple ds) from hd).item
    have hc1 : OkC n c := by cases hc with | size h => exact h
    refine q_asg (ev_ixT (j := 0) (ev_var rfl) ev_c hs rfl) fun H1 e1 => ?_
    refine skipS e1 rfl (by decide +kernel) fun H2 e2 => ?_
    refine skipS e2 rfl (by decide +kernel) fun H3 e3 => ?_
    refine skipS e3 rfl (by decide +kernel) fun H4 e4 => ?_
    refine skipS e4 rfl (by decide +kernel) fun H5 e5 => ?_
    refine skipS e5 rfl (by decide +kernel) fun H6 e6 => ?_
    refine skipS e6 rfl (by decide +kernel) fun H7 e7 => ?_
    refine takeS e7 rfl (by decide +kernel) fun H8 e8 => ?_
    exact s_ret (ev_callC (ea_cons (ev_ixT (j := 1) (ev_var rfl) ev_c (ex_t e8 hs) rfl) (ea_cons (ev_is (ev_lenT (ev_var rfl) (ex_t e8 hxs)) (by rw [hl])) ea_nil)) (holds_call (hy.keep (Kt.same e8)) hc1 (.int _) (.int _) hf1 (by rw [isk]))) fun Hz ez => q Hz (e8.trans ez)
  | sum c =>
    rw [Cd.data] at hv
    obtain ⟨a, x, y, rfl, hs, hx, hy⟩ := hv.g2
    cases hx.str_inv
    obtain ⟨j, rfl, hf1⟩ := fits_list (k := k) (f := fun j => j.isInt && fitsC c .int) hf
    obtain ⟨ds, rfl, hall⟩ := isk_lst hi
    obtain ⟨b, rfl⟩ := hu.ref
    obtain ⟨xs, hxs, hvd⟩ := hu.vds
    have hl := hvd.1
    have hd1 := (show Dk (19 + 1) (.tuple ds) from hd).item
    have hc1 : OkC n c := by cases hc with | sum h => exact h
    obtain ⟨hf2, hf3⟩ := Bool.and_eq_true_iff.mp hf1
    cases isInt_of hf2
    have hns := ints_of hall
    have hxi : SqT K H b ((ds.map numD).map V.int) := vd_ints (by rw [← hns]; exact hu)
    refine q_asg (ev_ixT (j := 0) (ev_var rfl) ev_c hs rfl) fun H1 e1 => ?_
    refine skipS e1 rfl (by decide +kernel) fun H2 e2 => ?_
    refine skipS e2 rfl (by decide +kernel) fun H3 e3 => ?_
    refine skipS e3 rfl (by decide +kernel) fun H4 e4 => ?_
    refine skipS e4 rfl (by decide +kernel) fun H5 e5 => ?_
    refine skipS e5 rfl (by decide +kernel) fun H6 e6 => ?_
    refine skipS e6 rfl (by decide +kernel) fun H7 e7 => ?_
    refine skipS e7 rfl (by decide +kernel) fun H8 e8 => ?_
    refine takeS e8 rfl (by decide +kernel) fun H9 e9 => ?_
    exact s_ret (ev_callC (ea_cons (ev_ixT (j := 1) (ev_var rfl) ev_c (ex_t e9 hs) rfl) (ea_cons (ev_sumT (ev_var rfl) (ex_t e9 hxi)) ea_nil)) (holds_call (hy.keep (Kt.same e9)) hc1 (.int _) (.int _) hf3 (by rw [isk]))) fun Hz ez => q Hz (e9.trans ez)
  | rising =>
    rw [Cd.data] at hv
    obtain ⟨a, x, rfl, hs, hx⟩ := hv.g1
    cases hx.str_inv
    obtain ⟨j, rfl, hf1⟩ := fits_list (k := k) (f := fun j => j.isInt) hf
    obtain ⟨ds, rfl, hall⟩ := isk_lst hi
    obtain ⟨b, rfl⟩ := hu.ref
    obtain ⟨xs, hxs, hvd⟩ := hu.vds
    have hl := hvd.1
    have hd1 := (show Dk (19 + 1) (.tuple ds) from hd).item
    cases isInt_of hf1
    have hns := ints_of hall
    have hxi : SqT K H b ((ds.map numD).map V.int) := vd_ints (by rw [← hns]; exact hu)
    have hnl : (ds.map numD).length ≤ 60 := by rw [List.length_map]; exact hd1.1
    have hres : holdsC .rising (.tuple ds) = rise (ds.map numD) := rfl
    rw [hres] at q
    generalize ds.map numD = ns at hxi hnl q
    refine q_asg (ev_ixT (j := 0) (ev_var rfl) ev_c hs rfl) fun H1 e1 => ?_
    refine skipS e1 rfl (by decide +kernel) fun H2 e2 => ?_
    refine skipS e2 rfl (by decide +kernel) fun H3 e3 => ?_
    refine skipS e3 rfl (by decide +kernel) fun H4 e4 => ?_
    refine skipS e4 rfl (by decide +kernel) fun H5 e5 => ?_
    refine skipS e5 rfl (by decide +kernel) fun H6 e6 => ?_
    refine skipS e6 rfl (by decide +kernel) fun H7 e7 => ?_
    refine skipS e7 rfl (by decide +kernel) fun H8 e8 => ?_
    refine skipS e8 rfl (by decide +kernel) fun H9 e9 => ?_
    refine takeS e9 rfl (by decide +kernel) fun H10 e10 => ?_
    refine s_ret (v := .bl (rise ns)) (ev_is (ev_all (el_is (el_lcZS (fun i => .bl (decide (ns.getD i 0 ≤ ns.getD (i + 1) 0))) (ev_var rfl) (evs_from1 (ev_var rfl) (ex_t e10 hxi)) (ex_t e10 hxi) (by rw [List.length_map]; omega) (fun _ _ => rfl) (fun i x y Hy ey hx hy => ?_)) (given_all _ _))) ?_) fun Hz ez => q Hz (e10.trans ez)
    · cases at_int hx
      rw [List.getElem?_drop, Nat.add_comm 1 i] at hy
      cases at_int hy
      exact ev_op (ev_var rfl) (ev_var rfl) rv_I0
    · have hmin : min (ns.map V.int).length ((ns.map V.int).drop 1).length = ns.length - 1 := by rw [List.length_drop, List.length_map]; omega
      rw [hmin, rise_pairs]
  | different =>
    rw [Cd.data] at hv
    obtain ⟨a, x, rfl, hs, hx⟩ := hv.g1
    cases hx.str_inv
    obtain ⟨j, rfl, hf1⟩ := fits_list (k := k) (f := fun j => true) hf
    obtain ⟨ds, rfl, hall⟩ := isk_lst hi
    obtain ⟨b, rfl⟩ := hu.ref
    obtain ⟨xs, hxs, hvd⟩ := hu.vds
    have hl := hvd.1
    have hd1 := (show Dk (19 + 1) (.tuple ds) from hd).item
    refine q_asg (ev_ixT (j := 0) (ev_var rfl) ev_c hs rfl) fun H1 e1 => ?_
    refine skipS e1 rfl (by decide +kernel) fun H2 e2 => ?_
    refine skipS e2 rfl (by decide +kernel) fun H3 e3 => ?_
    refine skipS e3 rfl (by decide +kernel) fun H4 e4 => ?_
    refine skipS e4 rfl (by decide +kernel) fun H5 e5 => ?_
    refine skipS e5 rfl (by decide +kernel) fun H6 e6 => ?_
    refine skipS e6 rfl (by decide +kernel) fun H7 e7 => ?_
    refine skipS e7 rfl (by decide +kernel) fun H8 e8 => ?_
    refine skipS e8 rfl (by decide +kernel) fun H9 e9 => ?_
    refine skipS e9 rfl (by decide +kernel) fun H10 e10 => ?_
    refine takeS e10 rfl (by decide +kernel) fun H11 e11 => ?_
    exact s_ret (ev_callC (ea_cons (ev_var rfl) ea_nil) fun Hy ey Q q E => ⟨_, ds, rfl, hu.keep (Kt.same (e11.trans ey)), hd, fun H' e' => q H' e'⟩) fun Hz ez => q Hz (e11.trans ez)
  | not_ c =>
    rw [Cd.data] at hv
    obtain ⟨a, x, y, rfl, hs, hx, hy⟩ := hv.g2
    cases hx.str_inv
    refine q_asg (ev_ixT (j := 0) (ev_var rfl) ev_c hs rfl) fun H1 e1 => ?_
    refine skipS e1 rfl (by decide +kernel) fun H2 e2 => ?_
    refine skipS e2 rfl (by decide +kernel) fun H3 e3 => ?_
    refine skipS e3 rfl (by decide +kernel) fun H4 e4 => ?_
    refine skipS e4 rfl (by decide +kernel) fun H5 e5 => ?_
    refine skipS e5 rfl (by decide +kernel) fun H6 e6 => ?_
    refine skipS e6 rfl (by decide +kernel) fun H7 e7 => ?_
    refine skipS e7 rfl (by decide +kernel) fun H8 e8 => ?_
    refine skipS e8 rfl (by decide +kernel) fun H9 e9 => ?_
    refine skipS e9 rfl (by decide +kernel) fun H10 e10 => ?_
    refine skipS e10 rfl (by decide +kernel) fun H11 e11 => ?_
    refine takeS e11 rfl (by decide +kernel) fun H12 e12 => ?_
    have hc1 : OkC n c := by cases hc with | not_ h => exact h
    exact s_ret (ev_notV (ev_callC (ea_cons (ev_ixT (j := 1) (ev_var rfl) ev_c (ex_t e12 hs) rfl) (ea_cons (ev_var rfl) ea_nil)) (holds_call (hy.keep (Kt.same e12)) hc1 (hu.keep (Kt.same e12)) hd hf hi))) fun Hz ez => q Hz (e12.trans ez)
  | and_ c c2 =>
    rw [Cd.data] at hv
    obtain ⟨a, x, y, z, rfl, hs, hx, hy, hz⟩ := hv.g3
    cases hx.str_inv
    refine q_asg (ev_ixT (j := 0) (ev_var rfl) ev_c hs rfl) fun H1 e1 => ?_
    refine skipS e1 rfl (by decide +kernel) fun H2 e2 => ?_
    refine skipS e2 rfl (by decide +kernel) fun H3 e3 => ?_
    refine skipS e3 rfl (by decide +kernel) fun H4 e4 => ?_
    refine skipS e4 rfl (by decide +kernel) fun H5 e5 => ?_
    refine skipS e5 rfl (by decide +kernel) fun H6 e6 => ?_
    refine skipS e6 rfl (by decide +kernel) fun H7 e7 => ?_
    refine skipS e7 rfl (by decide +kernel) fun H8 e8 => ?_
    refine skipS e8 rfl (by decide +kernel) fun H9 e9 => ?_
    refine skipS e9 rfl (by decide +kernel) fun H10 e10 => ?_
    refine skipS e10 rfl (by decide +kernel) fun H11 e11 => ?_
    refine skipS e11 rfl (by decide +kernel) fun H12 e12 => ?_
    refine takeS e12 rfl (by decide +kernel) fun H13 e13 => ?_
    have hc1 : OkC n c ∧ OkC n c2 := by cases hc with | and_ h g => exact ⟨h, g⟩
    have hf1 := Bool.and_eq_true_iff.mp (show (fitsC c k && fitsC c2 k) = true from hf)
    exact s_ret (ev_andV (ev_callC (ea_cons (ev_ixT (j := 1) (ev_var rfl) ev_c (ex_t e13 hs) rfl) (ea_cons (ev_var rfl) ea_nil)) (holds_call (hy.keep (Kt.same e13)) hc1.1 (hu.keep (Kt.same e13)) hd hf1.1 hi)) fun _ => ev_one (ev_callC (ea_cons (ev_ixT (j := 2) (ev_var rfl) ev_c (ex_t e13 hs) rfl) (ea_cons (ev_var rfl) ea_nil)) (holds_call (hz.keep (Kt.same e13)) hc1.2 (hu.keep (Kt.same e13)) hd hf1.2 hi))) fun Hz ez => q Hz (e13.trans ez)
  | or_ c c2 =>
    rw [Cd.data] at hv
    obtain ⟨a, x, y, z, rfl, hs, hx, hy, hz⟩ := hv.g3
    cases hx.str_inv
    refine q_asg (ev_ixT (j := 0) (ev_var rfl) ev_c hs rfl) fun H1 e1 => ?_
    refine skipS e1 rfl (by decide +kernel) fun H2 e2 => ?_
    refine skipS e2 rfl (by decide +kernel) fun H3 e3 => ?_
    refine skipS e3 rfl (by decide +kernel) fun H4 e4 => ?_
    refine skipS e4 rfl (by decide +kernel) fun H5 e5 => ?_
    refine skipS e5 rfl (by decide +kernel) fun H6 e6 => ?_
    refine skipS e6 rfl (by decide +kernel) fun H7 e7 => ?_
    refine skipS e7 rfl (by decide +kernel) fun H8 e8 => ?_
    refine skipS e8 rfl (by decide +kernel) fun H9 e9 => ?_
    refine skipS e9 rfl (by decide +kernel) fun H10 e10 => ?_
    refine skipS e10 rfl (by decide +kernel) fun H11 e11 => ?_
    refine skipS e11 rfl (by decide +kernel) fun H12 e12 => ?_
    refine skipS e12 rfl (by decide +kernel) fun H13 e13 => ?_
    have hc1 : OkC n c ∧ OkC n c2 := by cases hc with | or_ h g => exact ⟨h, g⟩
    have hf1 := Bool.and_eq_true_iff.mp (show (fitsC c k && fitsC c2 k) = true from hf)
    exact s_ret (ev_orV (ev_callC (ea_cons (ev_ixT (j := 1) (ev_var rfl) ev_c (ex_t e13 hs) rfl) (ea_cons (ev_var rfl) ea_nil)) (holds_call (hy.keep (Kt.same e13)) hc1.1 (hu.keep (Kt.same e13)) hd hf1.1 hi)) fun _ => ev_one (ev_callC (ea_cons (ev_ixT (j := 2) (ev_var rfl) ev_c (ex_t e13 hs) rfl) (ea_cons (ev_var rfl) ea_nil)) (holds_call (hz.keep (Kt.same e13)) hc1.2 (hu.keep (Kt.same e13)) hd hf1.2 hi))) fun Hz ez => q Hz (e13.trans ez)
abbrev s__law_holds : Stmt := topS 26
abbrev N__law_holds : List Str := ["limit", "value", "word", "told", "part", "j"]
theorem sc__law_holds : FnScope N__law_holds ["limit", "value"] (defScope s__law_holds) := ⟨rfl, rfl, rfl, by decide +kernel, rfl, by decide +kernel, by decide +kernel⟩
theorem ok__law_holds {f : Addr} {fd : FuncData} {n : Nat} (T : Tx mg) (F : Fun K "_law_holds" "_law_holds" s__law_holds f fd) (c__law_holds : Cl P w K mg base "_law_holds" ["limit", "value"] (n + 1) (spHolds K n)) : FnOk P w K mg base CX0 (n + 1 + 1) f fd ["limit", "value"] (spHolds K (n + 1)) := by
  refine F.ok sc__law_holds (fun vs H Q E h => ?_) (fun cdv A outer s H vs Q E hr h => ?_)
  · obtain ⟨v, u, c, k, d, rfl, _⟩ := h
    rfl
  obtain ⟨v, u, c, k, d, rfl, hv, hc, hu, hd, hf, hi, q⟩ := h
  refine ⟨_, (pss_cons (ps_set (i := 2) sc__law_holds.nd rfl (Or.inl rfl) (pe_ix (r := rIxT K) ix_tup (pv 0) pe_int (fun _ _ => rfl)))
      (pss_cons (ps_if (pt_cmpR op_eq (pv 2) pe_str (nomark _)) (pss_one (ps_ret (pe_cmpR op_le (pv 1) (pe_ix (r := rIxT K) ix_tup (pv 0) pe_int (fun _ _ => rfl)) (nomark _)))) pss_nil)
      (pss_cons (ps_if (pt_cmpR op_eq (pv 2) pe_str (nomark _)) (pss_one (ps_ret (pe_cmpR op_eq (pe_op op_mod (pv 1) (pe_ix (r := rIxT K) ix_tup (pv 0) pe_int (fun _ _ => rfl))) pe_int (nomark _)))) pss_nil)
      (pss_cons (ps_if (pt_cmpR op_eq (pv 2) pe_str (nomark _)) (pss_one (ps_ret (pe_cmpR op_eq (pv 1) (pe_ix (r := rIxT K) ix_tup (pv 0) pe_int (fun _ _ => rfl)) (nomark _)))) pss_nil)
      (pss_cons (ps_if (pt_cmpR op_eq (pv 2) pe_str (nomark _)) (pss_one (ps_ret (pe_call c__law_holds.ok (hr.mono (by omega)) (by rfl) c__law_holds.m c__law_holds.kp c__law_holds.b .nil pass0 (pa_cons (pe_ix (r := rIxT K) ix_tup (pv 0) pe_int (fun _ _ => rfl)) (pa_cons (pe_ix (r := rIxT K) ix_tup (pv 1) (pe_ix (r := rIxT K) ix_tup (pv 0) pe_int (fun _ _ => rfl)) (fun _ _ => rfl)) pa_nil))))) pss_nil)
      (pss_cons (ps_if (pt_cmpR op_in_seq (pv 2) (pe_lst (pa_cons pe_str (pa_cons pe_str pa_nil))) (by rfl)) (pss_cons (ps_setLc (i := 3) (own := [("part", 4)]) (g := gName 4) (by rfl) sc__law_holds.nd rfl rfl (sw_true rfl rfl rfl (by decide +kernel)) (pi_tup (pv 1)) (blkOk_by (own := [("part", 4)]) (N := N__law_holds) (sc := defScope s__law_holds) (by decide +kernel)) (fun _ _ _ _ _ => (pg_name (i := 4) sc__law_holds.nd rfl (Or.inl rfl))) (fun _ _ _ _ _ => pts_nil) (fun _ _ _ _ _ => (pe_call c__law_holds.ok (hr.mono (by omega)) (by rfl) c__law_holds.m c__law_holds.kp c__law_holds.b .nil pass0 (pa_cons (pe_ix (r := rIxT K) ix_tup (pv 0) pe_int (fun _ _ => rfl)) (pa_cons (pv 4) pa_nil)))))
        (pss_one (ps_ret (pe_ix (r := rIxL K) ix_list (pe_lst (pa_cons (pe_cmpR op_notIn_seq pe_bl (pv 3) (by rfl)) (pa_cons (pe_cmpR op_in_seq pe_bl (pv 3) (by rfl)) pa_nil))) (pe_callTy call_int1 (by rfl) T.z_int (by decide +kernel) (pa_cons (pe_cmpR op_eq (pv 2) pe_str (nomark _)) pa_nil)) (fun _ _ => rfl))))) pss_nil)
      (pss_cons (ps_if (pt_cmpR op_eq (pv 2) pe_str (nomark _)) (pss_one (ps_ret (pe_call c__law_holds.ok (hr.mono (by omega)) (by rfl) c__law_holds.m c__law_holds.kp c__law_holds.b .nil pass0 (pa_cons (pe_ix (r := rIxT K) ix_tup (pv 0) pe_int (fun _ _ => rfl)) (pa_cons (pe_callB call_len_seq (by rfl) T.z_len PySem.boot_len (pa_cons (pv 1) pa_nil)) pa_nil))))) pss_nil)
      (pss_cons (ps_if (pt_cmpR op_eq (pv 2) pe_str (nomark _)) (pss_one (ps_ret (pe_call c__law_holds.ok (hr.mono (by omega)) (by rfl) c__law_holds.m c__law_holds.kp c__law_holds.b .nil pass0 (pa_cons (pe_ix (r := rIxT K) ix_tup (pv 0) pe_int (fun _ _ => rfl)) (pa_cons (pe_callB (cr_sumT rfl) (by rfl) T.z_sum (by decide +kernel) (pa_cons (pv 1) pa_nil)) pa_nil))))) pss_nil)
      (pss_cons (ps_if (pt_cmpR op_eq (pv 2) pe_str (nomark _)) (pss_one (ps_ret (pe_cmpR (op_eqD hr.units) (pe_callTy call_list_of (by rfl) T.z_list (by decide +kernel) (pa_cons (pv 1) pa_nil)) (pe_callB cr_sortedTup (by rfl) T.z_sorted (by decide +kernel) (pa_cons (pv 1) pa_nil)) (nomark _)))) pss_nil)
      (pss_cons (ps_if (pt_cmpR op_eq (pv 2) pe_str (nomark _)) (pss_one (ps_ret (pe_cmpR (op_eqD hr.units) (pe_lc (own := [("j", 5)]) (g := gName 5) (by rfl) sc__law_holds.nd (pi_range1 (by rfl) T.z_range (pa_cons (pe_callB call_len_seq (by rfl) T.z_len PySem.boot_len (pa_cons (pv 1) pa_nil)) pa_nil)) (blkOk_by (own := [("j", 5)]) (N := N__law_holds) (sc := defScope s__law_holds) (by decide +kernel)) (fun _ _ _ _ _ => (pg_name (i := 5) sc__law_holds.nd rfl (Or.inl rfl))) (fun _ _ _ _ _ => pts_one (pt_cmpR (r := rInTup K false) (op_inTup (Cr.Room.u65 hr)) (pe_ix (r := rIxT K) ix_tup (pv 1) (pv 5) (fun _ _ => rfl)) (pe_slice (r := rSlA K) sl_tupA (pv 1) po_none (po_some (pv 5))) (by rfl))) (fun _ _ _ _ _ => pe_int)) (pe_lst pa_nil) (nomark _)))) pss_nil)
      (pss_cons (ps_if (pt_cmpR op_eq (pv 2) pe_str (nomark _)) (pss_one (ps_ret (pe_not (pe_call c__law_holds.ok (hr.mono (by omega)) (by rfl) c__law_holds.m c__law_holds.kp c__law_holds.b .nil pass0 (pa_cons (pe_ix (r := rIxT K) ix_tup (pv 0) pe_int (fun _ _ => rfl)) (pa_cons (pv 1) pa_nil)))))) pss_nil)
      (pss_cons (ps_if (pt_cmpR op_eq (pv 2) pe_str (nomark _)) (pss_one (ps_ret (pe_and (pe_call c__law_holds.ok (hr.mono (by omega)) (by rfl) c__law_holds.m c__law_holds.kp c__law_holds.b .nil pass0 (pa_cons (pe_ix (r := rIxT K) ix_tup (pv 0) pe_int (fun _ _ => rfl)) (pa_cons (pv 1) pa_nil))) (pe_one (pe_call c__law_holds.ok (hr.mono (by omega)) (by rfl) c__law_holds.m c__law_holds.kp c__law_holds.b .nil pass0 (pa_cons (pe_ix (r := rIxT K) ix_tup (pv 0) pe_int (fun _ _ => rfl)) (pa_cons (pv 1) pa_nil))))))) pss_nil)
      (pss_one (ps_ret (pe_or (pe_call c__law_holds.ok (hr.mono (by omega)) (by rfl) c__law_holds.m c__law_holds.kp c__law_holds.b .nil pass0 (pa_cons (pe_ix (r := rIxT K) ix_tup (pv 0) pe_int (fun _ _ => rfl)) (pa_cons (pv 1) pa_nil))) (pe_one (pe_call c__law_holds.ok (hr.mono (by omega)) (by rfl) c__law_holds.m c__law_holds.kp c__law_holds.b .nil pass0 (pa_cons (pe_ix (r := rIxT K) ix_tup (pv 0) pe_int (fun _ _ => rfl)) (pa_cons (pv 1) pa_nil))))))))))))))))))), ?_⟩
  cases c with
  | atmost m =>
    rw [Cd.data] at hv
    obtain ⟨a, x, y, rfl, hs, hx, hy⟩ := hv.g2
    cases hx.str_inv
    cases hy.int_inv
    cases isInt_of hf
    obtain ⟨i, rfl⟩ := isk_int hi
    cases hu.int_inv
    refine q_asg (ev_ixT (j := 0) (ev_var rfl) ev_c hs rfl) fun H1 e1 => ?_
    refine takeS e1 rfl (by decide +kernel) fun H2 e2 => ?_
    exact s_ret (ev_op (ev_var rfl) (ev_ixT (j := 1) (ev_var rfl) ev_c (ex_t e2 hs) rfl) rv_I0) fun Hz ez => q Hz (e2.trans ez)
  | divides m =>
    rw [Cd.data] at hv
    obtain ⟨a, x, y, rfl, hs, hx, hy⟩ := hv.g2
    cases hx.str_inv
    cases hy.int_inv
    obtain ⟨hf1, hf2⟩ := Bool.and_eq_true_iff.mp (show (k.isInt && (decide (1 ≤ m) && decide (m ≤ 100))) = true from hf)
    have hm : 1 ≤ m := of_decide_eq_true (Bool.and_eq_true_iff.mp hf2).1
    cases isInt_of hf1
    obtain ⟨i, rfl⟩ := isk_int hi
    cases hu.int_inv
    refine q_asg (ev_ixT (j := 0) (ev_var rfl) ev_c hs rfl) fun H1 e1 => ?_
    refine skipS e1 rfl (by decide +kernel) fun H2 e2 => ?_
    refine takeS e2 rfl (by decide +kernel) fun H3 e3 => ?_
    exact s_ret (ev_op (ev_op (ev_var rfl) (ev_ixT (j := 1) (ev_var rfl) ev_c (ex_t e3 hs) rfl) (rv_I (by show 0 < m; omega))) ev_c (rv_eq rfl)) fun Hz ez => q Hz (e3.trans ez)
  | is m =>
    rw [Cd.data] at hv
    obtain ⟨a, x, y, rfl, hs, hx, hy⟩ := hv.g2
    cases hx.str_inv
    cases hy.str_inv
    cases isWord_of (Bool.and_eq_true_iff.mp (show (k.isWord && Cr.isWord m) = true from hf)).1
    obtain ⟨i, rfl⟩ := isk_word hi
    cases hu.str_inv
    refine q_asg (ev_ixT (j := 0) (ev_var rfl) ev_c hs rfl) fun H1 e1 => ?_
    refine skipS e1 rfl (by decide +kernel) fun H2 e2 => ?_
    refine skipS e2 rfl (by decide +kernel) fun H3 e3 => ?_
    refine takeS e3 rfl (by decide +kernel) fun H4 e4 => ?_
    exact s_ret (ev_op (ev_var rfl) (ev_ixT (j := 1) (ev_var rfl) ev_c (ex_t e4 hs) rfl) (rv_eq rfl)) fun Hz ez => q Hz (e4.trans ez)
  | item m c =>
    rw [Cd.data] at hv
    obtain ⟨a, x, y, z, rfl, hs, hx, hy, hz⟩ := hv.g3
    cases hx.str_inv
    obtain ⟨j, ks, rfl, rfl, hj, hf1⟩ := fits_item hf
    cases hy.int_inv
    have hc1 : OkC n c := by cases hc with | item _ h => exact h
    obtain ⟨ds, rfl, hall⟩ := isk_tup hi
    obtain ⟨hkl, hki⟩ := iskAll_get hall
    obtain ⟨b, rfl⟩ := hu.ref
    obtain ⟨xs, hxs, hvd⟩ := hu.vds
    have hl := hvd.1
    have hd1 := (show Dk (19 + 1) (.tuple ds) from hd).item
    have hxj : xs[j]? = some (xs.getD j .non) := getD_at (by omega)
    have hdj : ds[j]? = some (ds.getD j .none) := getD_at (by omega)
    refine q_asg (ev_ixT (j := 0) (ev_var rfl) ev_c hs rfl) fun H1 e1 => ?_
    refine skipS e1 rfl (by decide +kernel) fun H2 e2 => ?_
    refine skipS e2 rfl (by decide +kernel) fun H3 e3 => ?_
    refine skipS e3 rfl (by decide +kernel) fun H4 e4 => ?_
    refine takeS e4 rfl (by decide +kernel) fun H5 e5 => ?_
    exact s_ret (ev_callC (ea_cons (ev_ixT (j := 2) (ev_var rfl) ev_c (ex_t e5 hs) rfl) (ea_cons (ev_ixT (j := j) (ev_var rfl) (ev_ixT (j := 1) (ev_var rfl) ev_c (ex_t e5 hs) rfl) (ex_t e5 hxs) hxj) ea_nil)) (holds_call (hz.keep (Kt.same e5)) hc1 ((hvd.2 j _ _ hxj hdj).keep (Kt.same e5)) ((hd1.2 _ (List.mem_of_getElem? hdj)).mono (by omega)) hf1 (hki j hj))) fun Hz ez => q Hz (e5.trans ez)
  | every c =>
    rw [Cd.data] at hv
    obtain ⟨a, x, y, rfl, hs, hx, hy⟩ := hv.g2
    cases hx.str_inv
    obtain ⟨j, rfl, hf1⟩ := fits_list (k := k) (f := fun j => fitsC c j) hf
    obtain ⟨ds, rfl, hall⟩ := isk_lst hi
    obtain ⟨b, rfl⟩ := hu.ref
    obtain ⟨xs, hxs, hvd⟩ := hu.vds
    have hl := hvd.1
    have hd1 := (show Dk (19 + 1) (.tuple ds) from hd).item
    have hc1 : OkC n c := by cases hc with | every h => exact h
    refine q_asg (ev_ixT (j := 0) (ev_var rfl) ev_c hs rfl) fun H1 e1 => ?_
    refine skipS e1 rfl (by decide +kernel) fun H2 e2 => ?_
    refine skipS e2 rfl (by decide +kernel) fun H3 e3 => ?_
    refine skipS e3 rfl (by decide +kernel) fun H4 e4 => ?_
    refine skipS e4 rfl (by decide +kernel) fun H5 e5 => ?_
    refine takeL e5 rfl (ea_cons ev_c (ea_cons ev_c ea_nil)) (by show 2 ≤ 100000; decide) rfl (by decide +kernel) fun H6 e6 => ?_
    refine q_asgL (el_is (el_lcT (fun _ => true) (fun i => .bl (holdsC c (ds.getD i .none))) (ev_var rfl) (ex_t e6 hxs) (by omega) (fun _ => rfl) (fun _ _ _ _ _ => et_yes) (fun i x Hy ey hx _ => ?_)) (given_all _ _)) fun pt Hy hpt ey ht => ?_
    · have hi' : i < ds.length := by have := (List.getElem?_eq_some_iff.mp hx).1; omega
      have hdi := getD_at (a0 := PyData.none) hi'
      exact ev_callC (ea_cons (ev_ixT (j := 1) (ev_var rfl) ev_c (ex_t (e6.trans ey) hs) rfl) (ea_cons (ev_var rfl) ea_nil)) (holds_call (hy.keep (Kt.same (e6.trans ey))) hc1 ((hvd.2 i _ _ hx hdi).keep (Kt.same (e6.trans ey))) ((hd1.2 _ (List.mem_of_getElem? hdi)).mono (by omega)) hf1 (hall _ (List.mem_of_getElem? hdi)))
    refine s_ret (v := .bl (holdsC (.every c) (.tuple ds))) (ev_is (ev_opL1 (el_lst (ea_cons (ev_op ev_c (ev_var rfl) (rv_niL (sq_of ht) rfl (flat_bls _))) (ea_cons (ev_op ev_c (ev_var rfl) (rv_isL (sq_of ht) rfl (flat_bls _))) ea_nil)) (by show 2 ≤ 100000; decide)) (y := .int 0) (fun Hq7 eq7 => ev_is (ev_cb (ea_cons (ev_op (ev_var rfl) ev_c (rv_eq rfl)) ea_nil) (fun Hq6 eq6 Q q => .inr ⟨_, rfl, q Hq6 (Ex.refl _)⟩)) (by decide +kernel)) (fun p6 Hq7 hpq7 eq7 => rv_ixL (i := 0) (sq_of hpq7) rfl)) (by rw [in_false, hl, all_items]; rfl)) fun Hz ez => q Hz (e6.trans (ey.trans ez))
  | some_ c =>
    rw [Cd.data] at hv
    obtain ⟨a, x, y, rfl, hs, hx, hy⟩ := hv.g2
    cases hx.str_inv
    obtain ⟨j, rfl, hf1⟩ := fits_list (k := k) (f := fun j => fitsC c j) hf
    obtain ⟨ds, rfl, hall⟩ := isk_lst hi
    obtain ⟨b, rfl⟩ := hu.ref
    obtain ⟨xs, hxs, hvd⟩ := hu.vds
    have hl := hvd.1
    have hd1 := (show Dk (19 + 1) (.tuple ds) from hd).item
    have hc1 : OkC n c := by cases hc with | some_ h => exact h
    refine q_asg (ev_ixT (j := 0) (ev_var rfl) ev_c hs rfl) fun H1 e1 => ?_
    refine skipS e1 rfl (by decide +kernel) fun H2 e2 => ?_
    refine skipS e2 rfl (by decide +kernel) fun H3 e3 => ?_
    refine skipS e3 rfl (by decide +kernel) fun H4 e4 => ?_
    refine skipS e4 rfl (by decide +kernel) fun H5 e5 => ?_
    refine takeL e5 rfl (ea_cons ev_c (ea_cons ev_c ea_nil)) (by show 2 ≤ 100000; decide) rfl (by decide +kernel) fun H6 e6 => ?_
    refine q_asgL (el_is (el_lcT (fun _ => true) (fun i => .bl (holdsC c (ds.getD i .none))) (ev_var rfl) (ex_t e6 hxs) (by omega) (fun _ => rfl) (fun _ _ _ _ _ => et_yes) (fun i x Hy ey hx _ => ?_)) (given_all _ _)) fun pt Hy hpt ey ht => ?_
    · have hi' : i < ds.length := by have := (List.getElem?_eq_some_iff.mp hx).1; omega
      have hdi := getD_at (a0 := PyData.none) hi'
      exact ev_callC (ea_cons (ev_ixT (j := 1) (ev_var rfl) ev_c (ex_t (e6.trans ey) hs) rfl) (ea_cons (ev_var rfl) ea_nil)) (holds_call (hy.keep (Kt.same (e6.trans ey))) hc1 ((hvd.2 i _ _ hx hdi).keep (Kt.same (e6.trans ey))) ((hd1.2 _ (List.mem_of_getElem? hdi)).mono (by omega)) hf1 (hall _ (List.mem_of_getElem? hdi)))
    refine s_ret (v := .bl (holdsC (.some_ c) (.tuple ds))) (ev_is (ev_opL1 (el_lst (ea_cons (ev_op ev_c (ev_var rfl) (rv_niL (sq_of ht) rfl (flat_bls _))) (ea_cons (ev_op ev_c (ev_var rfl) (rv_isL (sq_of ht) rfl (flat_bls _))) ea_nil)) (by show 2 ≤ 100000; decide)) (y := .int 1) (fun Hq7 eq7 => ev_is (ev_cb (ea_cons (ev_op (ev_var rfl) ev_c (rv_eq rfl)) ea_nil) (fun Hq6 eq6 Q q => .inr ⟨_, rfl, q Hq6 (Ex.refl _)⟩)) (by decide +kernel)) (fun p6 Hq7 hpq7 eq7 => rv_ixL (i := 1) (sq_of hpq7) rfl)) (by rw [in_true, hl, any_items]; rfl)) fun Hz ez => q Hz (e6.trans (ey.trans ez))
  | size c =>
    rw [Cd.data] at hv
    obtain ⟨a, x, y, rfl, hs, hx, hy⟩ := hv.g2
    cases hx.str_inv
    obtain ⟨j, rfl, hf1⟩ := fits_list (k := k) (f := fun j => fitsC c .int) hf
    obtain ⟨ds, rfl, hall⟩ := isk_lst hi
    obtain ⟨b, rfl⟩ := hu.ref
    obtain ⟨xs, hxs, hvd⟩ := hu.vds
    have hl := hvd.1
    have hd1 := (show Dk (19 + 1) (.tuple ds) from hd).item
    have hc1 : OkC n c := by cases hc with | size h => exact h
    refine q_asg (ev_ixT (j := 0) (ev_var rfl) ev_c hs rfl) fun H1 e1 => ?_
    refine skipS e1 rfl (by decide +kernel) fun H2 e2 => ?_
    refine skipS e2 rfl (by decide +kernel) fun H3 e3 => ?_
    refine skipS e3 rfl (by decide +kernel) fun H4 e4 => ?_
    refine skipS e4 rfl (by decide +kernel) fun H5 e5 => ?_
    refine skipL e5 rfl (ea_cons ev_c (ea_cons ev_c ea_nil)) (by show 2 ≤ 100000; decide) rfl (by decide +kernel) fun H6 e6 => ?_
    refine takeS e6 rfl (by decide +kernel) fun H7 e7 => ?_
    exact s_ret (ev_callC (ea_cons (ev_ixT (j := 1) (ev_var rfl) ev_c (ex_t e7 hs) rfl) (ea_cons (ev_is (ev_lenT (ev_var rfl) (ex_t e7 hxs)) (by rw [hl])) ea_nil)) (holds_call (hy.keep (Kt.same e7)) hc1 (.int _) (.int _) hf1 (by rw [isk]))) fun Hz ez => q Hz (e7.trans ez)
  | sum c =>
    rw [Cd.data] at hv
    obtain ⟨a, x, y, rfl, hs, hx, hy⟩ := hv.g2
    cases hx.str_inv
    obtain ⟨j, rfl, hf1⟩ := fits_list (k := k) (f := fun j => j.isInt && fitsC c .int) hf
    obtain ⟨ds, rfl, hall⟩ := isk_lst hi
    obtain ⟨b, rfl⟩ := hu.ref
    obtain ⟨xs, hxs, hvd⟩ := hu.vds
    have hl := hvd.1
    have hd1 := (show Dk (19 + 1) (.tuple ds) from hd).item
    have hc1 : OkC n c := by cases hc with | sum h => exact h
    obtain ⟨hf2, hf3⟩ := Bool.and_eq_true_iff.mp hf1
    cases isInt_of hf2
    have hns := ints_of hall
    have hxi : SqT K H b ((ds.map numD).map V.int) := vd_ints (by rw [← hns]; exact hu)
    refine q_asg (ev_ixT (j := 0) (ev_var rfl) ev_c hs rfl) fun H1 e1 => ?_
    refine skipS e1 rfl (by decide +kernel) fun H2 e2 => ?_
    refine skipS e2 rfl (by decide +kernel) fun H3 e3 => ?_
    refine skipS e3 rfl (by decide +kernel) fun H4 e4 => ?_
    refine skipS e4 rfl (by decide +kernel) fun H5 e5 => ?_
    refine skipL e5 rfl (ea_cons ev_c (ea_cons ev_c ea_nil)) (by show 2 ≤ 100000; decide) rfl (by decide +kernel) fun H6 e6 => ?_
    refine skipS e6 rfl (by decide +kernel) fun H7 e7 => ?_
    refine takeS e7 rfl (by decide +kernel) fun H8 e8 => ?_
    exact s_ret (ev_callC (ea_cons (ev_ixT (j := 1) (ev_var rfl) ev_c (ex_t e8 hs) rfl) (ea_cons (ev_sumT (ev_var rfl) (ex_t e8 hxi)) ea_nil)) (holds_call (hy.keep (Kt.same e8)) hc1 (.int _) (.int _) hf3 (by rw [isk]))) fun Hz ez => q Hz (e8.trans ez)
  | rising =>
    rw [Cd.data] at hv
    obtain ⟨a, x, rfl, hs, hx⟩ := hv.g1
    cases hx.str_inv
    obtain ⟨j, rfl, hf1⟩ := fits_list (k := k) (f := fun j => j.isInt) hf
    obtain ⟨ds, rfl, hall⟩ := isk_lst hi
    obtain ⟨b, rfl⟩ := hu.ref
    obtain ⟨xs, hxs, hvd⟩ := hu.vds
    have hl := hvd.1
    have hd1 := (show Dk (19 + 1) (.tuple ds) from hd).item
    cases isInt_of hf1
    have hns := ints_of hall
    have hxi : SqT K H b ((ds.map numD).map V.int) := vd_ints (by rw [← hns]; exact hu)
    have hnl : (ds.map numD).length ≤ 60 := by rw [List.length_map]; exact hd1.1
    have hres : holdsC .rising (.tuple ds) = rise (ds.map numD) := rfl
    rw [hres] at q
    generalize ds.map numD = ns at hxi hnl q
    refine q_asg (ev_ixT (j := 0) (ev_var rfl) ev_c hs rfl) fun H1 e1 => ?_
    refine skipS e1 rfl (by decide +kernel) fun H2 e2 => ?_
    refine skipS e2 rfl (by decide +kernel) fun H3 e3 => ?_
    refine skipS e3 rfl (by decide +kernel) fun H4 e4 => ?_
    refine skipS e4 rfl (by decide +kernel) fun H5 e5 => ?_
    refine skipL e5 rfl (ea_cons ev_c (ea_cons ev_c ea_nil)) (by show 2 ≤ 100000; decide) rfl (by decide +kernel) fun H6 e6 => ?_
    refine skipS e6 rfl (by decide +kernel) fun H7 e7 => ?_
    refine skipS e7 rfl (by decide +kernel) fun H8 e8 => ?_
    refine takeS e8 rfl (by decide +kernel) fun H9 e9 => ?_
    refine ⟨_, rfl, b, _, rfl, .inr (ex_t e9 hxi), fun l hl => ?_⟩
    have f1 := e9.trans (same_new (o := .lst (ns.map V.int)) hl)
    refine ⟨_, rfl, b, ns, rfl, ex_t f1 hxi, by omega, fun ms p hperm hsort hp => ?_⟩
    have f2 := f1.trans (same_new (o := .lst (ms.map V.int)) hp)
    refine ⟨.list (ns.map PyData.int), .list (ms.map PyData.int), .lst (.of ((same_new hp) _ _ upd_same)) (dp_ints ns), .lst (.of upd_same) (dp_ints ms), shaped_list (m := 0) (by omega) (fun d hd => ?_), shaped_list (m := 0) (by omega) (fun d hd => ?_), ?_⟩
    · obtain ⟨z, _, rfl⟩ := List.mem_map.mp hd
      exact .int z
    · obtain ⟨z, _, rfl⟩ := List.mem_map.mp hd
      exact .int z
    · have e0 : PyData.eqv (.list (ns.map PyData.int)) (.list (ms.map PyData.int)) = rise ns := (eqv_ints ns ms).trans (rise_eq hperm hsort)
      rw [e0]
      exact q _ f2
  | different =>
    rw [Cd.data] at hv
    obtain ⟨a, x, rfl, hs, hx⟩ := hv.g1
    cases hx.str_inv
    obtain ⟨j, rfl, hf1⟩ := fits_list (k := k) (f := fun j => true) hf
    obtain ⟨ds, rfl, hall⟩ := isk_lst hi
    obtain ⟨b, rfl⟩ := hu.ref
    obtain ⟨xs, hxs, hvd⟩ := hu.vds
    have hl := hvd.1
    have hd1 := (show Dk (19 + 1) (.tuple ds) from hd).item
    refine q_asg (ev_ixT (j := 0) (ev_var rfl) ev_c hs rfl) fun H1 e1 => ?_
    refine skipS e1 rfl (by decide +kernel) fun H2 e2 => ?_
    refine skipS e2 rfl (by decide +kernel) fun H3 e3 => ?_
    refine skipS e3 rfl (by decide +kernel) fun H4 e4 => ?_
    refine skipS e4 rfl (by decide +kernel) fun H5 e5 => ?_
    refine skipL e5 rfl (ea_cons ev_c (ea_cons ev_c ea_nil)) (by show 2 ≤ 100000; decide) rfl (by decide +kernel) fun H6 e6 => ?_
    refine skipS e6 rfl (by decide +kernel) fun H7 e7 => ?_
    refine skipS e7 rfl (by decide +kernel) fun H8 e8 => ?_
    refine skipS e8 rfl (by decide +kernel) fun H9 e9 => ?_
    refine takeS e9 rfl (by decide +kernel) fun H10 e10 => ?_
    refine s_ret (v := .bl (holdsC .different (.tuple ds))) (ev_is (ev_nil (m := 0) (by omega) (el_lcR1 (n := (xs.length : Int)) (fun j => (ds.take j).any fun z => PyData.eqv z (ds.getD j .none)) (fun _ => .int 1) (ea_cons (ev_lenT (ev_var rfl) (ex_t e10 hxs)) ea_nil) (by omega) (fun _ => rfl) (fun j Hy ey hj => ?_) (fun _ _ _ _ _ => ev_c)) one_items) ?_) fun Hz ez => q Hz (e10.trans ez)
    · have hjx : j < xs.length := by omega
      have hxj : xs[j]? = some (xs.getD j .non) := getD_at hjx
      have hdj : ds[j]? = some (ds.getD j .none) := getD_at (by omega)
      have hdk := hd1.2 _ (List.mem_of_getElem? hdj)
      have e08 := e10.trans ey
      exact et_test (ev_inS (no := false) (ev_ixT (j := j) (ev_var rfl) (ev_var rfl) (ex_t e08 hxs) hxj) (evs_ahead (j := j) (ev_var rfl) (ev_var rfl) (ex_t e08 hxs) hjx) ((hvd.2 j _ _ hxj hdj).keep (Kt.same e08)) (fun Hq7 eq7 => (hvd.keep (Kt.same (e08.trans eq7))).take _) (hdk.shaped (by omega)) ((hd.sub (by rw [List.length_take]; omega) fun e he => List.mem_of_mem_take he).shaped (by omega)))
    · rw [given_empty, Int.toNat_natCast, hl, diff_ahead]
      rfl
  | not_ c =>
    rw [Cd.data] at hv
    obtain ⟨a, x, y, rfl, hs, hx, hy⟩ := hv.g2
    cases hx.str_inv
    refine q_asg (ev_ixT (j := 0) (ev_var rfl) ev_c hs rfl) fun H1 e1 => ?_
    refine skipS e1 rfl (by decide +kernel) fun H2 e2 => ?_
    refine skipS e2 rfl (by decide +kernel) fun H3 e3 => ?_
    refine skipS e3 rfl (by decide +kernel) fun H4 e4 => ?_
    refine skipS e4 rfl (by decide +kernel) fun H5 e5 => ?_
    refine skipL e5 rfl (ea_cons ev_c (ea_cons ev_c ea_nil)) (by show 2 ≤ 100000; decide) rfl (by decide +kernel) fun H6 e6 => ?_
    refine skipS e6 rfl (by decide +kernel) fun H7 e7 => ?_
    refine skipS e7 rfl (by decide +kernel) fun H8 e8 => ?_
    refine skipS e8 rfl (by decide +kernel) fun H9 e9 => ?_
    refine skipS e9 rfl (by decide +kernel) fun H10 e10 => ?_
    refine takeS e10 rfl (by decide +kernel) fun H11 e11 => ?_
    have hc1 : OkC n c := by cases hc with | not_ h => exact h
    exact s_ret (ev_notV (ev_callC (ea_cons (ev_ixT (j := 1) (ev_var rfl) ev_c (ex_t e11 hs) rfl) (ea_cons (ev_var rfl) ea_nil)) (holds_call (hy.keep (Kt.same e11)) hc1 (hu.keep (Kt.same e11)) hd hf hi))) fun Hz ez => q Hz (e11.trans ez)
  | and_ c c2 =>
    rw [Cd.data] at hv
    obtain ⟨a, x, y, z, rfl, hs, hx, hy, hz⟩ := hv.g3
    cases hx.str_inv
    refine q_asg (ev_ixT (j := 0) (ev_var rfl) ev_c hs rfl) fun H1 e1 => ?_
    refine skipS e1 rfl (by decide +kernel) fun H2 e2 => ?_
    refine skipS e2 rfl (by decide +kernel) fun H3 e3 => ?_
    refine skipS e3 rfl (by decide +kernel) fun H4 e4 => ?_
    refine skipS e4 rfl (by decide +kernel) fun H5 e5 => ?_
    refine skipL e5 rfl (ea_cons ev_c (ea_cons ev_c ea_nil)) (by show 2 ≤ 100000; decide) rfl (by decide +kernel) fun H6 e6 => ?_
    refine skipS e6 rfl (by decide +kernel) fun H7 e7 => ?_
    refine skipS e7 rfl (by decide +kernel) fun H8 e8 => ?_
    refine skipS e8 rfl (by decide +kernel) fun H9 e9 => ?_
    refine skipS e9 rfl (by decide +kernel) fun H10 e10 => ?_
    refine skipS e10 rfl (by decide +kernel) fun H11 e11 => ?_
    refine takeS e11 rfl (by decide +kernel) fun H12 e12 => ?_
    have hc1 : OkC n c ∧ OkC n c2 := by cases hc with | and_ h g => exact ⟨h, g⟩
    have hf1 := Bool.and_eq_true_iff.mp (show (fitsC c k && fitsC c2 k) = true from hf)
    exact s_ret (ev_andV (ev_callC (ea_cons (ev_ixT (j := 1) (ev_var rfl) ev_c (ex_t e12 hs) rfl) (ea_cons (ev_var rfl) ea_nil)) (holds_call (hy.keep (Kt.same e12)) hc1.1 (hu.keep (Kt.same e12)) hd hf1.1 hi)) fun _ => ev_one (ev_callC (ea_cons (ev_ixT (j := 2) (ev_var rfl) ev_c (ex_t e12 hs) rfl) (ea_cons (ev_var rfl) ea_nil)) (holds_call (hz.keep (Kt.same e12)) hc1.2 (hu.keep (Kt.same e12)) hd hf1.2 hi))) fun Hz ez => q Hz (e12.trans ez)
  | or_ c c2 =>
    rw [Cd.data] at hv
    obtain ⟨a, x, y, z, rfl, hs, hx, hy, hz⟩ := hv.g3
    cases hx.str_inv
    refine q_asg (ev_ixT (j := 0) (ev_var rfl) ev_c hs rfl) fun H1 e1 => ?_
    refine skipS e1 rfl (by decide +kernel) fun H2 e2 => ?_
    refine skipS e2 rfl (by decide +kernel) fun H3 e3 => ?_
    refine skipS e3 rfl (by decide +kernel) fun H4 e4 => ?_
    refine skipS e4 rfl (by decide +kernel) fun H5 e5 => ?_
    refine skipL e5 rfl (ea_cons ev_c (ea_cons ev_c ea_nil)) (by show 2 ≤ 100000; decide) rfl (by decide +kernel) fun H6 e6 => ?_
    refine skipS e6 rfl (by decide +kernel) fun H7 e7 => ?_
    refine skipS e7 rfl (by decide +kernel) fun H8 e8 => ?_
    refine skipS e8 rfl (by decide +kernel) fun H9 e9 => ?_
    refine skipS e9 rfl (by decide +kernel) fun H10 e10 => ?_
    refine skipS e10 rfl (by decide +kernel) fun H11 e11 => ?_
    refine skipS e11 rfl (by decide +kernel) fun H12 e12 => ?_
    have hc1 : OkC n c ∧ OkC n c2 := by cases hc with | or_ h g => exact ⟨h, g⟩
    have hf1 := Bool.and_eq_true_iff.mp (show (fitsC c k && fitsC c2 k) = true from hf)
    exact s_ret (ev_orV (ev_callC (ea_cons (ev_ixT (j := 1) (ev_var rfl) ev_c (ex_t e12 hs) rfl) (ea_cons (ev_var rfl) ea_nil)) (holds_call (hy.keep (Kt.same e12)) hc1.1 (hu.keep (Kt.same e12)) hd hf1.1 hi)) fun _ => ev_one (ev_callC (ea_cons (ev_ixT (j := 2) (ev_var rfl) ev_c (ex_t e12 hs) rfl) (ea_cons (ev_var rfl) ea_nil)) (holds_call (hz.keep (Kt.same e12)) hc1.2 (hu.keep (Kt.same e12)) hd hf1.2 hi))) fun Hz ez => q Hz (e12.trans ez)
abbrev s__law_turn : Stmt := topS 27
abbrev N__law_turn : List Str := ["some", "value"]
theorem sc__law_turn : FnScope N__law_turn ["some", "value"] (defScope s__law_turn) := ⟨rfl, rfl, rfl, by decide +kernel, rfl, by decide +kernel, by decide +kernel⟩
theorem ok__law_turn {f : Addr} {fd : FuncData} (T : Tx mg) (F : Fun K "_law_turn" "_law_turn" s__law_turn f fd) : FnOk P w K mg base CX0 1 f fd ["some", "value"] (spTurn K) := by
  refine F.ok sc__law_turn (fun vs H Q E h => ?_) (fun cdv A outer s H vs Q E hr h => ?_)
  · obtain ⟨v, u, m, d, k, k', rfl, _⟩ := h
    rfl
  obtain ⟨v, u, m, d, k, k', rfl, hv, hu, hi, hb, hd, q⟩ := h
  refine ⟨_, (pss_cons (ps_if (pt_cmpR op_eq (pe_ix (r := rIxT K) ix_tup (pv 0) pe_int (fun _ _ => rfl)) pe_str (nomark _)) (pss_one (ps_ret (pe_op op_add (pv 1) (pe_ix (r := rIxT K) ix_tup (pv 0) pe_int (fun _ _ => rfl))))) pss_nil)
      (pss_cons (ps_if (pt_cmpR op_eq (pe_ix (r := rIxT K) ix_tup (pv 0) pe_int (fun _ _ => rfl)) pe_str (nomark _)) (pss_one (ps_ret (pe_op op_mul (pv 1) (pe_ix (r := rIxT K) ix_tup (pv 0) pe_int (fun _ _ => rfl))))) pss_nil)
      (pss_cons (ps_if (pt_cmpR op_eq (pe_ix (r := rIxT K) ix_tup (pv 0) pe_int (fun _ _ => rfl)) pe_str (nomark _)) (pss_one (ps_ret (pe_ix (r := rIxT K) ix_tup (pv 1) (pe_ix (r := rIxT K) ix_tup (pv 0) pe_int (fun _ _ => rfl)) (fun _ _ => rfl)))) pss_nil)
      (pss_cons (ps_if (pt_cmpR op_eq (pe_ix (r := rIxT K) ix_tup (pv 0) pe_int (fun _ _ => rfl)) pe_str (nomark _)) (pss_one (ps_ret (pe_callB call_len_seq (by rfl) T.z_len PySem.boot_len (pa_cons (pv 1) pa_nil)))) pss_nil)
      (pss_cons (ps_if (pt_cmpR op_eq (pe_ix (r := rIxT K) ix_tup (pv 0) pe_int (fun _ _ => rfl)) pe_str (nomark _)) (pss_one (ps_ret (pe_callB (cr_sumT rfl) (by rfl) T.z_sum (by decide +kernel) (pa_cons (pv 1) pa_nil)))) pss_nil)
      (pss_cons (ps_if (pt_cmpR op_eq (pe_ix (r := rIxT K) ix_tup (pv 0) pe_int (fun _ _ => rfl)) pe_str (nomark _)) (pss_one (ps_ret (pe_callTy call_tuple_of (by rfl) T.z_tuple (by decide +kernel) (pa_cons (pe_callB (cr_sortedD (Cr.Room.u65 hr)) (by rfl) T.z_sorted (by decide +kernel) (pa_cons (pv 1) pa_nil)) pa_nil)))) pss_nil)
      (pss_one (ps_ret (pe_revT (pv 1)))))))))), ?_⟩
  have Z := Ex.refl H
  cases m with
  | plus n =>
    obtain ⟨rfl, _, _, rfl⟩ := behind_num (.inl rfl) hb
    rw [Mp.data] at hv
    obtain ⟨a, x, y, rfl, hs, hx, hy⟩ := hv.g2
    cases hx.str_inv
    cases hy.int_inv
    cases d <;> simp [isk] at hi
    cases hu.int_inv
    refine takeE Z (ev_ixT (j := 0) (ev_var rfl) ev_c hs rfl) (by decide +kernel) fun H1 e1 => ?_
    exact s_ret (ev_op (ev_var rfl) (ev_ixT (j := 1) (ev_var rfl) ev_c (ex_t e1 hs) rfl) rv_I0) fun H9 e9 => q _ H9 (e1.trans e9) (.int _)
  | times n =>
    obtain ⟨rfl, h1, h2, rfl⟩ := behind_num (.inr rfl) hb
    rw [Mp.data] at hv
    obtain ⟨a, x, y, rfl, hs, hx, hy⟩ := hv.g2
    cases hx.str_inv
    cases hy.int_inv
    cases d <;> simp [isk] at hi
    cases hu.int_inv
    refine skipE Z (ev_ixT (j := 0) (ev_var rfl) ev_c hs rfl) (by decide +kernel) fun H1 e1 => ?_
    refine takeE e1 (ev_ixT (j := 0) (ev_var rfl) ev_c (ex_t e1 hs) rfl) (by decide +kernel) fun H2 e2 => ?_
    exact s_ret (ev_op (ev_var rfl) (ev_ixT (j := 1) (ev_var rfl) ev_c (ex_t e2 hs) rfl) (rv_I (.inr ⟨by omega, by omega⟩))) fun H9 e9 => q _ H9 (e2.trans e9) (.int _)
  | item i =>
    obtain ⟨ks, rfl, h0, hik, rfl⟩ := behind_item hb
    rw [Mp.data] at hv
    obtain ⟨a, x, y, rfl, hs, hx, hy⟩ := hv.g2
    cases hx.str_inv
    cases hy.int_inv
    cases d <;> simp only [isk, Bool.false_eq_true] at hi
    obtain ⟨c, rfl⟩ := hu.ref
    obtain ⟨xs, hxs, hxv⟩ := hu.all
    have hl := (iskAll_get hi).1 ▸ hik
    have hlx : i.toNat < xs.length := by rw [hxv.1]; exact hl
    refine skipE Z (ev_ixT (j := 0) (ev_var rfl) ev_c hs rfl) (by decide +kernel) fun H1 e1 => ?_
    refine skipE e1 (ev_ixT (j := 0) (ev_var rfl) ev_c (ex_t e1 hs) rfl) (by decide +kernel) fun H2 e2 => ?_
    refine takeE e2 (ev_ixT (j := 0) (ev_var rfl) ev_c (ex_t e2 hs) rfl) (by decide +kernel) fun H3 e3 => ?_
    have hat : atI xs i = some (xs.getD i.toNat .non) := by
      have e : i = ((i.toNat : Nat) : Int) := by omega
      rw [e]
      exact atI_nat (getD_at hlx)
    refine s_ret (ev_op (ev_var rfl) (ev_ixT (j := 1) (ev_var rfl) ev_c (ex_t e3 hs) rfl) (rv_ixT (ex_t e3 hxs) hat)) fun H9 e9 => q _ H9 (e3.trans e9) ?_
    exact (hxv.2 _ _ _ (getD_at hlx) (getD_at hl)).keep (Kt.same (e3.trans e9))
  | length =>
    obtain ⟨j, rfl⟩ := behind_lst hb (.inl rfl)
    rw [Mp.data] at hv
    obtain ⟨a, x, rfl, hs, hx⟩ := hv.g1
    cases hx.str_inv
    cases d <;> simp only [isk, Bool.false_eq_true] at hi
    obtain ⟨c, rfl⟩ := hu.ref
    obtain ⟨xs, hxs, hxv⟩ := hu.all
    refine skipE Z (ev_ixT (j := 0) (ev_var rfl) ev_c hs rfl) (by decide +kernel) fun H1 e1 => ?_
    refine skipE e1 (ev_ixT (j := 0) (ev_var rfl) ev_c (ex_t e1 hs) rfl) (by decide +kernel) fun H2 e2 => ?_
    refine skipE e2 (ev_ixT (j := 0) (ev_var rfl) ev_c (ex_t e2 hs) rfl) (by decide +kernel) fun H3 e3 => ?_
    refine takeE e3 (ev_ixT (j := 0) (ev_var rfl) ev_c (ex_t e3 hs) rfl) (by decide +kernel) fun H4 e4 => ?_
    refine s_ret (ev_lenT (ev_var rfl) (ex_t e4 hxs)) fun H9 e9 => q _ H9 (e4.trans e9) ?_
    rw [hxv.1]
    exact .int _
  | sum =>
    obtain ⟨j, rfl⟩ := behind_lst hb (.inr (.inl rfl))
    have hj : j.isInt = true := by
      have h' : (if j.isInt then some Kd.int else none) = some k' := hb
      split at h'
      · assumption
      · cases h'
    cases isInt_of hj
    rw [Mp.data] at hv
    obtain ⟨a, x, rfl, hs, hx⟩ := hv.g1
    cases hx.str_inv
    cases d <;> simp only [isk, Bool.false_eq_true] at hi
    obtain ⟨c, rfl⟩ := hu.ref
    obtain ⟨xs, hxs, hxv⟩ := hu.all
    have hxi := hxv.ints (by rw [List.all_eq_true] at hi; exact hi)
    rw [hxi] at hxs
    refine skipE Z (ev_ixT (j := 0) (ev_var rfl) ev_c hs rfl) (by decide +kernel) fun H1 e1 => ?_
    refine skipE e1 (ev_ixT (j := 0) (ev_var rfl) ev_c (ex_t e1 hs) rfl) (by decide +kernel) fun H2 e2 => ?_
    refine skipE e2 (ev_ixT (j := 0) (ev_var rfl) ev_c (ex_t e2 hs) rfl) (by decide +kernel) fun H3 e3 => ?_
    refine skipE e3 (ev_ixT (j := 0) (ev_var rfl) ev_c (ex_t e3 hs) rfl) (by decide +kernel) fun H4 e4 => ?_
    refine takeE e4 (ev_ixT (j := 0) (ev_var rfl) ev_c (ex_t e4 hs) rfl) (by decide +kernel) fun H5 e5 => ?_
    exact ⟨_, rfl, c, _, rfl, ex_t e5 hxs, q _ H5 e5 (.int _)⟩
  | sorted =>
    obtain ⟨j, rfl⟩ := behind_lst hb (.inr (.inr (.inl rfl)))
    have hj : j.isFlat = true := by
      have h' : (if j.isFlat then some (Kd.lst j) else none) = some k' := hb
      split at h'
      · assumption
      · cases h'
    rw [Mp.data] at hv
    obtain ⟨a, x, rfl, hs, hx⟩ := hv.g1
    cases hx.str_inv
    cases d <;> simp only [isk, Bool.false_eq_true] at hi
    obtain ⟨c, rfl⟩ := hu.ref
    obtain ⟨xs, hxs, hxv⟩ := hu.all
    have hia := List.all_eq_true.mp hi
    refine skipE Z (ev_ixT (j := 0) (ev_var rfl) ev_c hs rfl) (by decide +kernel) fun H1 e1 => ?_
    refine skipE e1 (ev_ixT (j := 0) (ev_var rfl) ev_c (ex_t e1 hs) rfl) (by decide +kernel) fun H2 e2 => ?_
    refine skipE e2 (ev_ixT (j := 0) (ev_var rfl) ev_c (ex_t e2 hs) rfl) (by decide +kernel) fun H3 e3 => ?_
    refine skipE e3 (ev_ixT (j := 0) (ev_var rfl) ev_c (ex_t e3 hs) rfl) (by decide +kernel) fun H4 e4 => ?_
    refine skipE e4 (ev_ixT (j := 0) (ev_var rfl) ev_c (ex_t e4 hs) rfl) (by decide +kernel) fun H5 e5 => ?_
    refine takeE e5 (ev_ixT (j := 0) (ev_var rfl) ev_c (ex_t e5 hs) rfl) (by decide +kernel) fun H6 e6 => ?_
    have hv6 := hxv.keep (Kt.same e6)
    refine ⟨_, rfl, c, xs, _, rfl, .inr (ex_t e6 hxs), hv6.dp, fun d hd e he => isk_alike j d e (hia d hd) (hia e he), .inr fun d hd => flat_not hj (hia d hd), fun d hd => by rw [flat_depth hj (hia d hd)]; omega, fun p hp => ⟨p, _, rfl, .inl ⟨.of upd_same, fun l hl => ?_⟩⟩⟩
    exact q _ _ (e6.trans ((same_new hp).trans (same_new hl))) ((hv6.sorted.keep (Kt.same ((same_new hp).trans (same_new hl)))).tup (.of upd_same))
  | reversed =>
    obtain ⟨j, rfl⟩ := behind_lst hb (.inr (.inr (.inr rfl)))
    rw [Mp.data] at hv
    obtain ⟨a, x, rfl, hs, hx⟩ := hv.g1
    cases hx.str_inv
    cases d <;> simp only [isk, Bool.false_eq_true] at hi
    obtain ⟨c, rfl⟩ := hu.ref
    obtain ⟨xs, hxs, hxv⟩ := hu.all
    refine skipE Z (ev_ixT (j := 0) (ev_var rfl) ev_c hs rfl) (by decide +kernel) fun H1 e1 => ?_
    refine skipE e1 (ev_ixT (j := 0) (ev_var rfl) ev_c (ex_t e1 hs) rfl) (by decide +kernel) fun H2 e2 => ?_
    refine skipE e2 (ev_ixT (j := 0) (ev_var rfl) ev_c (ex_t e2 hs) rfl) (by decide +kernel) fun H3 e3 => ?_
    refine skipE e3 (ev_ixT (j := 0) (ev_var rfl) ev_c (ex_t e3 hs) rfl) (by decide +kernel) fun H4 e4 => ?_
    refine skipE e4 (ev_ixT (j := 0) (ev_var rfl) ev_c (ex_t e4 hs) rfl) (by decide +kernel) fun H5 e5 => ?_
    refine skipE e5 (ev_ixT (j := 0) (ev_var rfl) ev_c (ex_t e5 hs) rfl) (by decide +kernel) fun H6 e6 => ?_
    exact ⟨_, rfl, c, xs, rfl, ex_t e6 hxs, fun p hp => q _ _ (e6.trans (same_new hp)) ((hxv.reverse.keep (Kt.same (e6.trans (same_new hp)))).tup (.of upd_same))⟩
abbrev s__law_cell : Stmt := topS 19
abbrev N__law_cell : List Str := ["script", "k"]
theorem sc__law_cell : FnScope N__law_cell ["script", "k"] (defScope s__law_cell) := ⟨rfl, rfl, rfl, by decide +kernel, rfl, by decide +kernel, by decide +kernel⟩
theorem ok__law_cell {f : Addr} {fd : FuncData} {k : Nat} (T : Tx mg) (F : Fun K "_law_cell" "_law_cell" s__law_cell f fd) : FnOk P w K mg base CX0 (k + 1) f fd ["script", "k"] (Cr.spCell K) := by
  refine F.ok sc__law_cell (fun vs H Q E h => ?_) (fun cdv A outer s H vs Q E hr h => ?_)
  · obtain ⟨a, ns, j, rfl, _⟩ := h
    rfl
  obtain ⟨a, ns, j, rfl, ha, q⟩ := h
  refine ⟨_, (pss_cons (ps_if (pt_cmpR op_lt (pv 1) (pe_callB call_len_seq (by rfl) T.z_len PySem.boot_len (pa_cons (pv 0) pa_nil)) (nomark _)) (pss_one (ps_ret (pe_ix (r := rIxL K) ix_list (pv 0) (pv 1) (fun _ _ => rfl)))) pss_nil)
      (pss_one (ps_ret pe_int))), ?_⟩
  refine q_when (et_test (ev_op (ev_var rfl) (ev_lenL (ev_var rfl) ha) rv_I0)) (fun hb H1 e1 => ?_) (fun hb H1 e1 => ?_)
  · have hlt : j < ns.length := by
      have h := of_decide_eq_true hb
      rw [List.length_map] at h
      omega
    have hx : (ns.map V.int)[j]? = some (.int ns[j]) := by
      rw [List.getElem?_map, List.getElem?_eq_getElem hlt]
      rfl
    exact s_ret (ev_ixL (j := j) (ev_var rfl) (ev_var rfl) (ex_l e1 ha) hx) fun H2 e2 => q _ H2 (e1.trans e2)
  · exact s_ret ev_c fun H2 e2 => q _ H2 (e1.trans e2)
abbrev s__law_draw : Stmt := topS 20
abbrev N__law_draw : List Str := ["script", "k", "sizes", "cell", "drawn", "size", "stirred", "j"]
theorem sc__law_draw : FnScope N__law_draw ["script", "k", "sizes"] (defScope s__law_draw) := ⟨rfl, rfl, rfl, by decide +kernel, rfl, by decide +kernel, by decide +kernel⟩
theorem ok__law_draw {f : Addr} {fd : FuncData} (T : Tx mg) (F : Fun K "_law_draw" "_law_draw" s__law_draw f fd) (c__law_cell : Cl P w K mg base "_law_cell" ["script", "k"] 1 (Cr.spCell K)) : FnOk P w K mg base CX0 2 f fd ["script", "k", "sizes"] (spDraw K) := by
  refine F.ok sc__law_draw (fun vs H Q E h => ?_) (fun cdv A outer s H vs Q E hr h => ?_)
  · obtain ⟨a, b, ns, ms, j, rfl, _⟩ := h
    rfl
  obtain ⟨a, b, ns, ms, k, rfl, ha, hb, hm, hms, q⟩ := h
  refine ⟨_, (pss_cons (ps_set (i := 3) sc__law_draw.nd rfl (Or.inl rfl) (pe_call c__law_cell.ok (hr.mono (by omega)) (by rfl) c__law_cell.m c__law_cell.kp c__law_cell.b .nil pass0 (pa_cons (pv 0) (pa_cons (pv 1) pa_nil))))
      (pss_cons (ps_if (pt_cmpR op_lt (pv 3) pe_int (nomark _)) (pss_one (ps_set (i := 3) sc__law_draw.nd rfl (Or.inl rfl) (pe_un un_neg (pv 3)))) pss_nil)
      (pss_cons (ps_set (i := 4) sc__law_draw.nd rfl (Or.inl rfl) (pe_lst pa_nil))
      (pss_cons (ps_if (pt_cmpR op_ge (pv 3) (pe_op op_pow pe_int pe_int) (nomark _)) (pss_cons (ps_set (i := 3) sc__law_draw.nd rfl (Or.inl rfl) (pe_op op_sub (pv 3) (pe_op op_pow pe_int pe_int)))
        (pss_cons (ps_for PassesOwn.never rfl (pi_list (pv 2)) (pg_name (i := 5) sc__law_draw.nd rfl (Or.inl rfl)) (pss_cons (ps_expr (pe_bm PySem.F.plainAttrs_list PySem.F.slot_list_append PySem.F.type_list_append mt_append (pv 4) (pa_cons (pe_op op_mod (pv 3) (pv 5)) pa_nil)))
          (pss_one (ps_set (i := 3) sc__law_draw.nd rfl (Or.inl rfl) (pe_op op_fdiv (pv 3) (pv 5))))))
        (pss_one (ps_ret (pv 4))))) pss_nil)
      (pss_cons (ps_set (i := 6) sc__law_draw.nd rfl (Or.inl rfl) (pe_op op_mod (pe_op op_add (pe_op op_add (pv 3) pe_int) (pe_op op_mul pe_int (pv 1))) pe_int))
      (pss_cons (ps_for PassesOwn.never rfl (pi_range1 (by rfl) T.z_range (pa_cons (pe_callB call_len_seq (by rfl) T.z_len PySem.boot_len (pa_cons (pv 2) pa_nil)) pa_nil)) (pg_name (i := 7) sc__law_draw.nd rfl (Or.inl rfl)) (pss_cons (ps_set (i := 6) sc__law_draw.nd rfl (Or.inl rfl) (pe_op op_mod (pe_op op_add (pe_op op_add (pe_op op_mul (pv 6) pe_int) pe_int) (pv 7)) pe_int))
        (pss_cons (ps_set (i := 6) sc__law_draw.nd rfl (Or.inl rfl) (pe_op op_mod (pe_op op_add (pe_op op_mul (pv 6) pe_int) pe_int) pe_int))
        (pss_one (ps_expr (pe_bm PySem.F.plainAttrs_list PySem.F.slot_list_append PySem.F.type_list_append mt_append (pv 4) (pa_cons (pe_op op_mod (pe_op op_fdiv (pv 6) pe_int) (pe_ix (r := rIxL K) ix_list (pv 2) (pv 7) (fun _ _ => rfl))) pa_nil)))))))
      (pss_one (ps_ret (pv 4))))))))), ?_⟩
  -- cell = _law_cell(script, k)
  refine ⟨_, rfl, _, rfl, a, ns, k, rfl, ha, fun c H1 e1 => ?_⟩
  refine q_ifAsg (b := decide (c < 0)) (v := .int (if c < 0 then -c else c)) (et_test (ev_op (ev_var rfl) ev_c rv_I0)) (fun hc => ev_is (ev_un (ev_var rfl) ru_neg) (by rw [if_pos (of_decide_eq_true hc)])) (fun hc => by rw [if_neg (of_decide_eq_false hc)]; rfl) fun H2 e2' => ?_
  have e2 := e1.trans e2'
  generalize (if c < 0 then -c else c) = c
  -- drawn = []
  refine q_asgL (el_lst ea_nil (by decide)) fun p H3 hp3 e3 h3 => ?_
  have hp : H p = none := Same.free e2 hp3
  have e03 : Same H H3 := e2.trans e3
  have fin : ∀ (acc : List Int) H', Same H H' → H' p = some (.lst (acc.map V.int)) → acc.length = ms.length → Q (.ref p) H' := fun acc H' e h hl => q p acc H' e hp h hl
  refine q_when (et_test (ev_op (ev_var rfl) (ev_op ev_c ev_c (rv_I ⟨by decide, by decide, by decide⟩)) rv_I0)) (fun _ H4 e4 => ?_) (fun _ H4 e4 => ?_)
  · refine q_asg (ev_op (ev_var rfl) (ev_op ev_c ev_c (rv_I ⟨by decide, by decide, by decide⟩)) rv_I0) fun H5 e5 => ?_
    have e05 := e03.trans (e4.trans e5)
    refine q_forLn (a := b) (xs := ms.map V.int) (ev_var rfl) (ex_l e05 hb) (fun i σ' H' => ∃ (c : Int) (z : Option V) (acc : List Int), σ' = [some (.ref a), some (.int (k : Int)), some (.ref b), some (.int c), some (.ref p), z, none, none] ∧ Same H H' ∧ H' p = some (.lst (acc.map V.int)) ∧ acc.length = i)
      (fun H6 e6 => ⟨_, none, [], rfl, e05.trans e6, e6 _ _ (e5 _ _ (e4 _ _ h3)), rfl⟩) (fun i σ' H' _ ⟨_, _, _, _, e, _, _⟩ => ex_l e hb) (fun i x σ' H' hx hP => ?_) (fun σ' H' hP => ?_)
    · obtain ⟨c', z, acc, rfl, e, hpl, hl⟩ := hP
      obtain ⟨m, hmi, rfl⟩ := map_int hx
      have him := (List.getElem?_eq_some_iff.mp hmi).1
      obtain ⟨m0, m1⟩ := hms m (List.mem_of_getElem? hmi)
      refine q_app hpl (ev_var rfl) (ev_op (ev_var rfl) (ev_var rfl) (rv_I m0)) (by rw [List.length_map]; omega) fun H7 e7 => ?_
      refine s_asg (ev_op (ev_var rfl) (ev_var rfl) (rv_I ⟨m0, m1⟩)) fun H8 e8 => ⟨_, _, acc ++ [c' % m], rfl, ?_, ?_, ?_⟩
      · exact (same_mut (e.trans e7) hp).trans e8
      · exact e8 _ _ (by rw [upd_same, List.map_append]; rfl)
      · rw [List.length_append, hl]; rfl
    · obtain ⟨c', z, acc, rfl, e, hpl, hl⟩ := hP
      exact s_ret (ev_var rfl) fun H9 e9 => fin acc H9 (e.trans e9) (e9 _ _ hpl) (by rw [hl, List.length_map])
  · refine q_asg (ev_op (ev_op (ev_op (ev_var rfl) ev_c rv_I0) (ev_op ev_c (ev_var rfl) (rv_I (.inl ⟨by decide, by decide⟩))) rv_I0) ev_c (rv_I (by decide))) fun H5 e5 => ?_
    have e05 := e03.trans (e4.trans e5)
    refine q_forR1 (n := ((ms.map V.int).length : Int)) (ea_cons (ev_lenL (ev_var rfl) (ex_l e05 hb)) ea_nil) (by rw [List.length_map]; omega) (fun i σ' H' => ∃ (c : Int) (z : Option V) (acc : List Int), σ' = [some (.ref a), some (.int (k : Int)), some (.ref b), σ'.getD 3 none, some (.ref p), none, some (.int c), z] ∧ Same H H' ∧ H' p = some (.lst (acc.map V.int)) ∧ acc.length = i)
      (fun H6 e6 => ⟨_, none, [], rfl, e05.trans e6, e6 _ _ (e5 _ _ (e4 _ _ h3)), rfl⟩) (fun i σ' H' hi hP => ?_) (fun σ' H' hP => ?_)
    · obtain ⟨c', z, acc, hσ, e, hpl, hl⟩ := hP
      rw [List.length_map] at hi
      generalize σ'.getD 3 none = y at hσ
      subst hσ
      have hmi : ms[i]? = some ms[i] := List.getElem?_eq_getElem (by omega)
      obtain ⟨m0, m1⟩ := hms ms[i] (List.mem_of_getElem? hmi)
      have hx : (ms.map V.int)[i]? = some (.int ms[i]) := by rw [List.getElem?_map, hmi]; rfl
      refine q_asg (ev_op (ev_op (ev_op (ev_op (ev_var rfl) ev_c (rv_I (.inr ⟨by decide, by decide⟩))) ev_c rv_I0) (ev_var rfl) rv_I0) ev_c (rv_I (by decide))) fun H7 e7 => ?_
      refine q_asg (ev_op (ev_op (ev_op (ev_var rfl) ev_c (rv_I (.inr ⟨by decide, by decide⟩))) ev_c rv_I0) ev_c (rv_I (by decide))) fun H8 e8 => ?_
      have e78 := e7.trans e8
      refine s_app (e78 _ _ hpl) (ev_var rfl) (ev_op (ev_op (ev_var rfl) ev_c (rv_I ⟨by decide, by decide⟩)) (ev_ixL (j := i) (ev_var rfl) (ev_var rfl) (ex_l (e.trans e78) hb) hx) (rv_I m0)) (by rw [List.length_map]; omega) fun H9 e9 => ⟨_, _, acc ++ [((c' * 48271 + 11 + (i : Int)) % 2147483647 * 69621 + 3) % 2147483647 / 7 % ms[i]], rfl, ?_, ?_, ?_⟩
      · exact same_mut ((e.trans e78).trans e9) hp
      · rw [upd_same, List.map_append]; rfl
      · rw [List.length_append, hl]; rfl
    · obtain ⟨c', z, acc, hσ, e, hpl, hl⟩ := hP
      rw [hσ]
      exact s_ret (ev_var rfl) fun H9 e9 => fin acc H9 (e.trans e9) (e9 _ _ hpl) (by rw [hl, List.length_map]; rfl)
abbrev s__law_box : Stmt := topS 21
abbrev N__law_box : List Str := ["script", "k"]
theorem sc__law_box : FnScope N__law_box ["script", "k"] (defScope s__law_box) := ⟨rfl, rfl, rfl, by decide +kernel, rfl, by decide +kernel, by decide +kernel⟩
theorem ok__law_box {f : Addr} {fd : FuncData} (T : Tx mg) (F : Fun K "_law_box" "_law_box" s__law_box f fd) (c__law_draw : Cl P w K mg base "_law_draw" ["script", "k", "sizes"] 2 (spDraw K)) : FnOk P w K mg base CX0 3 f fd ["script", "k"] (spBox K) := by
  refine F.ok sc__law_box (fun vs H Q E h => ?_) (fun cdv A outer s H vs Q E hr h => ?_)
  · obtain ⟨a, ns, j, rfl, _⟩ := h
    rfl
  obtain ⟨a, ns, k, rfl, ha, q⟩ := h
  refine ⟨_, (pss_one (ps_ret (pe_lst (pa_cons (pe_op op_cat (pe_call c__law_draw.ok (hr.mono (by omega)) (by rfl) c__law_draw.m c__law_draw.kp c__law_draw.b .nil pass0 (pa_cons (pv 0) (pa_cons (pv 1) (pa_cons (pe_op op_rep (pe_lst (pa_cons pe_int pa_nil)) pe_int) pa_nil)))) (pe_call c__law_draw.ok (hr.mono (by omega)) (by rfl) c__law_draw.m c__law_draw.kp c__law_draw.b .nil pass0 (pa_cons (pv 0) (pa_cons (pe_op op_add (pv 1) pe_int) (pa_cons (pe_op op_rep (pe_lst (pa_cons pe_int pa_nil)) pe_int) pa_nil))))) (pa_cons pe_int pa_nil))))), ?_⟩
  -- the first draw
  refine ⟨_, rfl, _, rfl, by decide, fun p1 h1 => ⟨p1, 20, [.int 97], rfl, rfl, upd_same, by decide, by decide, by decide, fun p2 h2 => ?_⟩⟩
  have e2 : Same H (upd (upd H p1 (.lst [.int 97])) p2 (.lst (List.replicate (Int.toNat 20) [V.int 97]).flatten)) := (same_new h1).trans (same_new h2)
  refine ⟨a, p2, ns, List.replicate 20 97, k, rfl, e2.seq ha, .of (by rw [upd_same, rep97]), by decide, m97, fun p3 xs H3 e3 _ h3 l3 => ?_⟩
  have e03 := e2.trans e3
  -- the second one
  refine ⟨_, rfl, _, rfl, _, _, rfl, rfl, by decide, fun p4 h4 => ⟨p4, 20, [.int 97], rfl, rfl, upd_same, by decide, by decide, by decide, fun p5 h5 => ?_⟩⟩
  have e5 : Same H3 (upd (upd H3 p4 (.lst [.int 97])) p5 (.lst (List.replicate (Int.toNat 20) [V.int 97]).flatten)) := (same_new h4).trans (same_new h5)
  refine ⟨a, p5, ns, List.replicate 20 97, k + 1, rfl, (e03.trans e5).seq ha, .of (by rw [upd_same, rep97]), by decide, m97, fun p6 ys H6 e6 _ h6 l6 => ?_⟩
  have e36 := e5.trans e6
  refine ⟨p3, p6, _, _, rfl, rfl, e36 _ _ h3, h6, ?_, fun p7 h7 => ⟨(by show 2 ≤ sizeLine; decide), fun p8 h8 => ?_⟩⟩
  · rw [List.length_map, List.length_map, l3, l6]
    decide
  · have e68 := (same_new (o := .lst (xs.map V.int ++ ys.map V.int)) h7).trans (same_new (o := .lst [.ref p7, .int 0]) h8)
    have n8 : p7 ≠ p8 := fun e => by rw [← e, upd_same] at h8; cases h8
    refine q p8 p7 _ ((e03.trans e36).trans e68) (Same.free (e03.trans (e36.trans (same_new h7))) h8) ⟨xs ++ ys, 0, upd_same, ?_, n8⟩
    rw [upd_ne n8, upd_same, List.map_append]
abbrev s__law_take : Stmt := topS 22
abbrev N__law_take : List Str := ["box", "many", "at"]
theorem sc__law_take : FnScope N__law_take ["box", "many"] (defScope s__law_take) := ⟨rfl, rfl, rfl, by decide +kernel, rfl, by decide +kernel, by decide +kernel⟩
theorem ok__law_take {f : Addr} {fd : FuncData} (T : Tx mg) (F : Fun K "_law_take" "_law_take" s__law_take f fd) : FnOk P w K mg base CX0 1 f fd ["box", "many"] spTake := by
  refine F.ok sc__law_take (fun vs H Q E h => ?_) (fun cdv A outer s H vs Q E hr h => ?_)
  · obtain ⟨b, d, m, rfl, _⟩ := h
    rfl
  obtain ⟨b, d, m, rfl, hB, hm, q⟩ := h
  refine ⟨_, (pss_cons (ps_set (i := 2) sc__law_take.nd rfl (Or.inl rfl) (pe_ix (r := rIxL K) ix_list (pv 0) pe_int (fun _ _ => rfl)))
      (pss_cons (ps_asg (pe_op op_add (pv 2) pe_int) (pg_sub (pv 0) pe_int set_list))
      (pss_cons (ps_if (pt_cmpR op_lt (pv 2) (pe_callB call_len_seq (by rfl) T.z_len PySem.boot_len (pa_cons (pe_ix (r := rIxL K) ix_list (pv 0) pe_int (fun _ _ => rfl)) pa_nil)) (nomark _)) (pss_one (ps_ret (pe_op op_mod (pe_ix (r := rIxL K) ix_list (pe_ix (r := rIxL K) ix_list (pv 0) pe_int (fun _ _ => rfl)) (pv 2) (fun _ _ => rfl)) (pv 1)))) pss_nil)
      (pss_one (ps_ret pe_int))))), ?_⟩
  obtain ⟨ns, i, h1, h2, h3⟩ := hB
  refine q_asg (ev_ixL (j := 1) (ev_var rfl) ev_c (.of h1) rfl) fun H1 e1 => ?_
  refine q_setL (j := 1) (e1 _ _ h1) (ev_op (ev_var rfl) ev_c rv_I0) (ev_var rfl) ev_c (by show 1 < 2; decide) fun H2 e2 => ?_
  have hbox : upd H2 b (.lst [.ref d, .int ((i : Int) + 1)]) b = some (.lst [.ref d, .int ((i : Int) + 1)]) := upd_same
  have hd : upd H2 b (.lst [.ref d, .int ((i : Int) + 1)]) d = some (.lst (ns.map V.int)) := by rw [upd_ne h3]; exact e2 _ _ (e1 _ _ h2)
  have mv : Mv b d H (upd H2 b (.lst [.ref d, .int ((i : Int) + 1)])) := ⟨fun a o ne h => by rw [upd_ne ne]; exact e2 _ _ (e1 _ _ h), ns, i + 1, upd_same, hd, h3⟩
  refine q_when (b := decide ((i : Int) < ((ns.map V.int).length : Int))) (et_test (ev_op (ev_var rfl) (ev_lenL (ev_ixL (j := 0) (ev_var rfl) ev_c (.of hbox) rfl) (.of hd)) rv_I0)) (fun hb H3 e3 => ?_) (fun hb H3 e3 => ?_)
  · have hlt : i < ns.length := by
      have h := of_decide_eq_true hb
      rw [List.length_map] at h
      omega
    have hx : (ns.map V.int)[i]? = some (.int ns[i]) := by
      rw [List.getElem?_map, List.getElem?_eq_getElem hlt]
      rfl
    refine s_ret (ev_op (ev_ixL (j := i) (ev_ixL (j := 0) (ev_var rfl) ev_c (.of (e3 _ _ hbox)) rfl) (ev_var rfl) (.of (e3 _ _ hd)) hx) (ev_var rfl) (rv_I hm)) fun H4 e4 => q _ H4 (Int.emod_nonneg _ (by omega)) (Int.emod_lt_of_pos _ hm) (mv.ext (e3.trans e4))
  · exact s_ret ev_c fun H4 e4 => q _ H4 (Int.le_refl _) hm (mv.ext (e3.trans e4))
abbrev s__law_kind : Stmt := topS 23
abbrev N__law_kind : List Str := ["box", "depth", "which", "j"]
theorem sc__law_kind : FnScope N__law_kind ["box", "depth"] (defScope s__law_kind) := ⟨rfl, rfl, rfl, by decide +kernel, rfl, by decide +kernel, by decide +kernel⟩
theorem ok__law_kind {f : Addr} {fd : FuncData} {N : Nat} (T : Tx mg) (F : Fun K "_law_kind" "_law_kind" s__law_kind f fd) (c__law_take : Cl P w K mg base "_law_take" ["box", "many"] 1 spTake)
    (c__law_kind : Cl P w K mg base "_law_kind" ["box", "depth"] (N + 1) (spLKind2 K N)) : FnOk P w K mg base CX0 (N + 1 + 1) f fd ["box", "depth"] (spLKind2 K (N + 1)) := by
  refine F.ok sc__law_kind (fun vs H Q E h => ?_) (fun cdv A outer s H vs Q E hr h => ?_)
  · obtain ⟨b, d, n, rfl, _⟩ := h
    rfl
  obtain ⟨b, d, n, rfl, hB, hn, q⟩ := h
  refine ⟨_, (pss_cons (ps_set (i := 2) sc__law_kind.nd rfl (Or.inl rfl) (pe_call c__law_take.ok (hr.mono (by omega)) (by rfl) c__law_take.m c__law_take.kp c__law_take.b .nil pass0 (pa_cons (pv 0) (pa_cons pe_int pa_nil))))
      (pss_cons (ps_if (PW.pt (pw_or (pt_cmpR op_eq (pv 1) pe_int (nomark _)) (pw_or1 (pt_cmpR op_lt (pv 2) pe_int (nomark _))))) (pss_one (ps_ret (pe_ix (r := rIxL K) ix_list (pe_lst (pa_cons pe_str (pa_cons pe_str pa_nil))) (pe_op op_fdiv (pe_call c__law_take.ok (hr.mono (by omega)) (by rfl) c__law_take.m c__law_take.kp c__law_take.b .nil pass0 (pa_cons (pv 0) (pa_cons pe_int pa_nil))) pe_int) (fun _ _ => rfl)))) pss_nil)
      (pss_cons (ps_if (pt_cmpR op_lt (pv 2) pe_int (nomark _)) (pss_one (ps_ret (pe_tup (pa_cons pe_str (pa_cons (pe_call c__law_kind.ok (hr.mono (by omega)) (by rfl) c__law_kind.m c__law_kind.kp c__law_kind.b .nil pass0 (pa_cons (pv 0) (pa_cons (pe_op op_sub (pv 1) pe_int) pa_nil))) pa_nil))))) pss_nil)
      (pss_one (ps_ret (pe_tup (pa_cons pe_str (pa_cons (pe_callTy call_tuple_of (by rfl) T.z_tuple (by decide +kernel) (pa_cons (pe_lc (own := [("j", 3)]) (g := gName 3) (by rfl) sc__law_kind.nd (pi_range1 (by rfl) T.z_range (pa_cons (pe_op op_add pe_int (pe_call c__law_take.ok (hr.mono (by omega)) (by rfl) c__law_take.m c__law_take.kp c__law_take.b .nil pass0 (pa_cons (pv 0) (pa_cons pe_int pa_nil)))) pa_nil)) (blkOk_by (own := [("j", 3)]) (N := N__law_kind) (sc := defScope s__law_kind) (by decide +kernel)) (fun _ _ _ _ _ => (pg_name (i := 3) sc__law_kind.nd rfl (Or.inl rfl))) (fun _ _ _ _ _ => pts_nil) (fun _ _ _ _ _ => (pe_call c__law_kind.ok (hr.mono (by omega)) (by rfl) c__law_kind.m c__law_kind.kp c__law_kind.b .nil pass0 (pa_cons (pv 0) (pa_cons pe_int pa_nil))))) pa_nil)) pa_nil)))))))), ?_⟩
  -- which
  refine ⟨_, rfl, b, d, 6, rfl, hB, by decide, fun r H1 r0 r1 m1 => ?_⟩
  refine q_when (b := decide (V.int (n : Int) = V.int 0) || decide (r < 2)) (et_or (et_test (ev_op (ev_var rfl) ev_c (rv_eq rfl))) (fun _ => et_test (ev_op (ev_var rfl) ev_c rv_I0))) (fun hb H2 e2 => ?_) (fun hb H2 e2 => ?_)
  · have m2 := m1.ext e2
    refine ⟨by decide, fun p hp => ?_⟩
    have m3 := m2.new (o := .lst [.str "int", .str "word"]) hp
    have npb : p ≠ b := (m2.2.neb hp).1
    refine ⟨_, rfl, b, d, 3, rfl, m3.2, by decide, fun x H4 x0 x1 m4 => ⟨x, 2, rfl, rfl, ⟨by decide, by decide⟩, ?_⟩⟩
    have hl : SqL K H4 p [.str "int", .str "word"] := m4.sql npb (.of upd_same)
    rcases (by omega : x / 2 = 0 ∨ x / 2 = 1) with hx | hx
    · exact ⟨p, _, x / 2, .str "int", rfl, rfl, hl, (by rw [hx]; rfl), q _ .int H4 (m3.trans m4) (by rw [Kd.data]; exact .str _) .int .int⟩
    · exact ⟨p, _, x / 2, .str "word", rfl, rfl, hl, (by rw [hx]; rfl), q _ .word H4 (m3.trans m4) (by rw [Kd.data]; exact .str _) .word .word⟩
  · have m2 := m1.ext e2
    have hn0 : n ≠ 0 := by
      intro e
      subst e
      rw [decide_eq_true (by rfl)] at hb
      cases hb
    refine q_when (et_test (ev_op (ev_var rfl) ev_c rv_I0)) (fun _ H3 e3 => ?_) (fun _ H3 e3 => ?_)
    · have m3 := m2.ext e3
      have en : (n : Int) - 1 = ((n - 1 : Nat) : Int) := by omega
      refine ⟨_, rfl, _, rfl, _, _, rfl, rfl, b, d, n - 1, (by rw [← en]; rfl), m3.2, by omega, fun v kd H4 m4 hv hk hne => ⟨(by show 2 ≤ sizeLine; decide), fun p hp => ?_⟩⟩
      have hk' : OkK n kd := by
        have e : n - 1 + 1 = n := by omega
        rw [e] at hk
        exact hk
      refine q _ (.lst kd) _ ((m3.trans m4).new hp) ?_ (.lst hk') (.lst hne)
      rw [Kd.data]
      exact .t2 (.of upd_same) (.str _) (hv.keep (Kt.new hp))
    · have m3 := m2.ext e3
      refine ⟨_, rfl, b, d, 2, rfl, m3.2, by decide, fun x H4 x0 x1 m4 => ⟨1, x, rfl, rfl, 1 + x, rfl, by omega, by omega, fun D hD => ?_⟩⟩
      have m34 := m3.trans m4
      have nDb : D ≠ b := (m34.2.neb hD).1
      refine lc_range (lo := 0) (n := (1 + x).toNat) (fun i H' => ∃ (vs : List V) (ks : List Kd), H' D = some (.lst vs) ∧ vs.length = i ∧ Vds K H' vs (ks.map Kd.data) ∧ (∀ k ∈ ks, OkK 1 k ∧ NeK k) ∧ Mv b d H4 H') ⟨[], [], upd_same, rfl, .nil, fun _ h => (nomatch h), (Mv.refl m34.2).new hD⟩ (fun i H5 hi hP => ⟨rfl, ?_⟩) (fun H5 hP => ?_)
      · obtain ⟨vs, ks, hDv, hl, hvs, hks, m5⟩ := hP
        refine ⟨_, rfl, b, d, 0, rfl, m5.2, by omega, fun v kd H6 m6 hv hk hne => ⟨vs, m6.1 _ _ nDb hDv, small1000 (by omega), vs ++ [v], ks ++ [kd], upd_same, by rw [List.length_append, hl]; rfl, ?_, ?_, (m5.trans m6).mut m34.2 hD⟩⟩
        · rw [List.map_append]
          have hk6 : Kt K H6 (upd H6 D (.lst (vs ++ [v]))) := Kt.lst (m6.1 _ _ nDb hDv)
          exact ((hvs.keep (m6.kt m5.2)).snoc hv).keep hk6
        · intro k hk1
          rcases List.mem_append.mp hk1 with h | h
          · exact hks k h
          · cases List.mem_singleton.mp h
            exact ⟨hk, hne⟩
      · obtain ⟨vs, ks, hDv, hl, hvs, hks, m5⟩ := hP
        refine ⟨D, vs, rfl, .inl ⟨.of hDv, fun l hl' => ⟨(by show 2 ≤ sizeLine; decide), fun p hp => ?_⟩⟩⟩
        have e5 := (same_new (o := .tup vs) hl').trans (same_new (o := .tup [.str "tuple", .ref l]) hp)
        refine q _ (.tup ks) _ ((m34.trans m5).ext e5) ?_ (.tup (by have h := hvs.1; rw [List.length_map] at h; omega) fun k hk => (hks k hk).1.mono (by omega)) (.tup (by have h := hvs.1; rw [List.length_map] at h; omega) (by have h := hvs.1; rw [List.length_map] at h; omega) (fun k hk => (hks k hk).2) fun k hk => flat_of (hks k hk).1 (hks k hk).2)
        rw [Kd.data, dataAll_map]
        exact .t2 (.of upd_same) (.str _) ((hvs.keep (Kt.same e5)).tup (ex_t (same_new hp) (.of upd_same)))
abbrev s__law_limit : Stmt := topS 24
abbrev N__law_limit : List Str := ["box", "kind", "depth", "which", "first", "place"]
theorem sc__law_limit : FnScope N__law_limit ["box", "kind", "depth"] (defScope s__law_limit) := ⟨rfl, rfl, rfl, by decide +kernel, rfl, by decide +kernel, by decide +kernel⟩
theorem ok__law_limit {f : Addr} {fd : FuncData} {N : Nat} (T : Tx mg) (F : Fun K "_law_limit" "_law_limit" s__law_limit f fd) (c__law_take : Cl P w K mg base "_law_take" ["box", "many"] 1 spTake)
    (c__law_limit : Cl P w K mg base "_law_limit" ["box", "kind", "depth"] (N + 1) (spLLimit2 K N)) : FnOk P w K mg base CX0 (N + 1 + 1) f fd ["box", "kind", "depth"] (spLLimit2 K (N + 1)) := by
  refine F.ok sc__law_limit (fun vs H Q E h => ?_) (fun cdv A outer s H vs Q E hr h => ?_)
  · obtain ⟨b, d, u, kd, n, m, rfl, _⟩ := h
    rfl
  obtain ⟨b, d, u, kd, n, m, rfl, hB, hu, hk, hne, hnm, hN, q⟩ := h
  refine ⟨_, (pss_cons (ps_set (i := 3) sc__law_limit.nd rfl (Or.inl rfl) (pe_call c__law_take.ok (hr.mono (by omega)) (by rfl) c__law_take.m c__law_take.kp c__law_take.b .nil pass0 (pa_cons (pv 0) (pa_cons pe_int pa_nil))))
      (pss_cons (ps_if (PW.pt (pw_and (pt_cmpR op_gt (pv 2) pe_int (nomark _)) (pw_and1 (pt_cmpR op_gt (pv 3) pe_int (nomark _))))) (pss_cons (ps_set (i := 4) sc__law_limit.nd rfl (Or.inl rfl) (pe_call c__law_limit.ok (hr.mono (by omega)) (by rfl) c__law_limit.m c__law_limit.kp c__law_limit.b .nil pass0 (pa_cons (pv 0) (pa_cons (pv 1) (pa_cons (pe_op op_sub (pv 2) pe_int) pa_nil)))))
        (pss_cons (ps_if (pt_cmpR op_eq (pv 3) pe_int (nomark _)) (pss_one (ps_ret (pe_tup (pa_cons pe_str (pa_cons (pv 4) pa_nil))))) pss_nil)
        (pss_one (ps_ret (pe_tup (pa_cons (pe_ix (r := rIxL K) ix_list (pe_lst (pa_cons pe_str (pa_cons pe_str pa_nil))) (pe_op op_sub (pv 3) pe_int) (fun _ _ => rfl)) (pa_cons (pv 4) (pa_cons (pe_call c__law_limit.ok (hr.mono (by omega)) (by rfl) c__law_limit.m c__law_limit.kp c__law_limit.b .nil pass0 (pa_cons (pv 0) (pa_cons (pv 1) (pa_cons (pe_op op_sub (pv 2) pe_int) pa_nil)))) pa_nil)))))))) pss_nil)
      (pss_cons (ps_if (pt_cmpR (op_eqD hr.units) (pv 1) pe_str (nomark _)) (pss_cons (ps_if (pt_cmpR op_eq (pe_op op_mod (pv 3) pe_int) pe_int (nomark _)) (pss_one (ps_ret (pe_tup (pa_cons pe_str (pa_cons (pe_op op_sub (pe_call c__law_take.ok (hr.mono (by omega)) (by rfl) c__law_take.m c__law_take.kp c__law_take.b .nil pass0 (pa_cons (pv 0) (pa_cons pe_int pa_nil))) pe_int) pa_nil))))) pss_nil)
        (pss_one (ps_ret (pe_tup (pa_cons pe_str (pa_cons (pe_op op_add pe_int (pe_call c__law_take.ok (hr.mono (by omega)) (by rfl) c__law_take.m c__law_take.kp c__law_take.b .nil pass0 (pa_cons (pv 0) (pa_cons pe_int pa_nil)))) pa_nil)))))) pss_nil)
      (pss_cons (ps_if (pt_cmpR (op_eqD hr.units) (pv 1) pe_str (nomark _)) (pss_one (ps_ret (pe_tup (pa_cons pe_str (pa_cons (pe_ix (r := rIxL K) ix_list (pe_lst (pa_cons pe_str (pa_cons pe_str (pa_cons pe_str pa_nil)))) (pe_call c__law_take.ok (hr.mono (by omega)) (by rfl) c__law_take.m c__law_take.kp c__law_take.b .nil pass0 (pa_cons (pv 0) (pa_cons pe_int pa_nil))) (fun _ _ => rfl)) pa_nil))))) pss_nil)
      (pss_cons (ps_if (pt_cmpR op_eq (pe_ix (r := rIxT K) ix_tup (pv 1) pe_int (fun _ _ => rfl)) pe_str (nomark _)) (pss_cons (ps_set (i := 5) sc__law_limit.nd rfl (Or.inl rfl) (pe_call c__law_take.ok (hr.mono (by omega)) (by rfl) c__law_take.m c__law_take.kp c__law_take.b .nil pass0 (pa_cons (pv 0) (pa_cons (pe_callB call_len_seq (by rfl) T.z_len PySem.boot_len (pa_cons (pe_ix (r := rIxT K) ix_tup (pv 1) pe_int (fun _ _ => rfl)) pa_nil)) pa_nil))))
        (pss_one (ps_ret (pe_tup (pa_cons pe_str (pa_cons (pv 5) (pa_cons (pe_call c__law_limit.ok (hr.mono (by omega)) (by rfl) c__law_limit.m c__law_limit.kp c__law_limit.b .nil pass0 (pa_cons (pv 0) (pa_cons (pe_ix (r := rIxT K) ix_tup (pe_ix (r := rIxT K) ix_tup (pv 1) pe_int (fun _ _ => rfl)) (pv 5) (fun _ _ => rfl)) (pa_cons pe_int pa_nil)))) pa_nil))))))) pss_nil)
      (pss_cons (ps_if (PW.pt (pw_and (pt_cmpR (op_eqD hr.units) (pv 1) (pe_tup (pa_cons pe_str (pa_cons pe_str pa_nil))) (nomark _)) (pw_and1 (pt_cmpR op_lt (pv 3) pe_int (nomark _))))) (pss_one (ps_ret (pe_ix (r := rIxL K) ix_list (pe_lst (pa_cons (pe_tup (pa_cons pe_str pa_nil)) (pa_cons (pe_tup (pa_cons pe_str pa_nil)) (pa_cons (pe_tup (pa_cons pe_str (pa_cons (pe_call c__law_limit.ok (hr.mono (by omega)) (by rfl) c__law_limit.m c__law_limit.kp c__law_limit.b .nil pass0 (pa_cons (pv 0) (pa_cons pe_str (pa_cons pe_int pa_nil)))) pa_nil))) pa_nil)))) (pv 3) (fun _ _ => rfl)))) pss_nil)
      (pss_cons (ps_if (pt_cmpR op_eq (pv 3) pe_int (nomark _)) (pss_one (ps_ret (pe_tup (pa_cons pe_str pa_nil)))) pss_nil)
      (pss_cons (ps_if (pt_cmpR op_eq (pv 3) pe_int (nomark _)) (pss_one (ps_ret (pe_tup (pa_cons pe_str (pa_cons (pe_call c__law_limit.ok (hr.mono (by omega)) (by rfl) c__law_limit.m c__law_limit.kp c__law_limit.b .nil pass0 (pa_cons (pv 0) (pa_cons pe_str (pa_cons pe_int pa_nil)))) pa_nil))))) pss_nil)
      (pss_one (ps_ret (pe_tup (pa_cons (pe_ix (r := rIxL K) ix_list (pe_lst (pa_cons pe_str (pa_cons pe_str pa_nil))) (pe_op op_mod (pv 3) pe_int) (fun _ _ => rfl)) (pa_cons (pe_call c__law_limit.ok (hr.mono (by omega)) (by rfl) c__law_limit.m c__law_limit.kp c__law_limit.b .nil pass0 (pa_cons (pv 0) (pa_cons (pe_ix (r := rIxT K) ix_tup (pv 1) pe_int (fun _ _ => rfl)) (pa_cons pe_int pa_nil)))) pa_nil))))))))))))), ?_⟩
  have hmp := hk.pos
  refine ⟨_, rfl, b, d, 9, rfl, hB, by decide, fun r H1 r0 r1 m1 => ?_⟩
  refine q_when (et_and (et_test (ev_op (ev_var rfl) ev_c rv_I0)) (fun _ => et_test (ev_op (ev_var rfl) ev_c rv_I0))) (fun hb H2 e2 => ?_) (fun hb H2 e2 => ?_)
  · -- not, and, or
    obtain ⟨hb1, hb2⟩ := Bool.and_eq_true_iff.mp hb
    have hb1 := of_decide_eq_true hb1
    have hb2 := of_decide_eq_true hb2
    have m2 := m1.ext e2
    have en : (n : Int) - 1 = ((n - 1 : Nat) : Int) := by omega
    refine ⟨_, rfl, _, rfl, _, rfl, _, _, rfl, rfl, b, d, u, kd, n - 1, m, (by rw [← en]; rfl), m2.2, hu.keep (m2.kt hB), hk, hne, by omega, by omega, fun v c H3 m3 hv hc hfc => ?_⟩
    refine q_when (et_test (ev_op (ev_var rfl) ev_c (rv_eq rfl))) (fun _ H4 e4 => ?_) (fun h6 H4 e4 => ?_)
    · refine ⟨_, rfl, (by show 2 ≤ sizeLine; decide), fun p hp => ?_⟩
      have m4 := ((m2.trans m3).ext e4).new (o := .tup [.str "not", v]) hp
      refine q _ (.not_ c) _ m4 ?_ (.not_ hc) hfc
      rw [Cd.data]
      exact .t2 (.of upd_same) (.str _) (hv.keep (Kt.same (e4.trans (same_new hp))))
    · have h6 : r ≠ 6 := fun e => by
        have h := of_decide_eq_false h6
        exact h (by rw [e])
      have m4 := (m2.trans m3).ext e4
      refine ⟨by decide, fun p hp => ?_⟩
      have e5 := same_new (o := .lst [.str "and", .str "or"]) hp
      rcases (by omega : r = 7 ∨ r = 8) with rfl | rfl
      · refine ⟨_, rfl, _, _, rfl, rfl, p, _, 7 - 7, .str "and", rfl, rfl, .of upd_same, rfl, _, rfl, _, rfl, _, rfl, _, rfl, _, _, rfl, rfl, b, d, u, kd, n - 1, m, (by rw [← en]; rfl), (m4.ext e5).2, hu.keep ((m4.ext e5).kt hB), hk, hne, by omega, by omega, fun v2 c2 H6 m6 hv2 hc2 hfc2 => ⟨(by show 3 ≤ sizeLine; decide), fun p2 hp2 => ?_⟩⟩
        refine q _ (.and_ c c2) _ (((m4.ext e5).trans m6).new hp2) ?_ (.and_ hc hc2) (Bool.and_eq_true_iff.mpr ⟨hfc, hfc2⟩)
        rw [Cd.data]
        exact .t3 (.of upd_same) (.str _) (((hv.keep (Kt.same (e4.trans e5))).keep (m6.kt (m4.ext e5).2)).keep (Kt.new hp2)) (hv2.keep (Kt.new hp2))
      · refine ⟨_, rfl, _, _, rfl, rfl, p, _, 8 - 7, .str "or", rfl, rfl, .of upd_same, rfl, _, rfl, _, rfl, _, rfl, _, rfl, _, _, rfl, rfl, b, d, u, kd, n - 1, m, (by rw [← en]; rfl), (m4.ext e5).2, hu.keep ((m4.ext e5).kt hB), hk, hne, by omega, by omega, fun v2 c2 H6 m6 hv2 hc2 hfc2 => ⟨(by show 3 ≤ sizeLine; decide), fun p2 hp2 => ?_⟩⟩
        refine q _ (.or_ c c2) _ (((m4.ext e5).trans m6).new hp2) ?_ (.or_ hc hc2) (Bool.and_eq_true_iff.mpr ⟨hfc, hfc2⟩)
        rw [Cd.data]
        exact .t3 (.of upd_same) (.str _) (((hv.keep (Kt.same (e4.trans e5))).keep (m6.kt (m4.ext e5).2)).keep (Kt.new hp2)) (hv2.keep (Kt.new hp2))
  have m2 := m1.ext e2
  have hu2 := hu.keep (m2.kt hB)
  have sk := OkK.shaped hk (by omega)
  refine q_when (et_test (ev_isInt (ev_var rfl) hu2 hk (by omega))) (fun hi H3 e3 => ?_) (fun hi H3 e3 => ?_)
  · have m3 := m2.ext e3
    refine q_when (et_test (ev_op (ev_op (ev_var rfl) ev_c (rv_I (by decide))) ev_c (rv_eq rfl))) (fun _ H4 e4 => ?_) (fun _ H4 e4 => ?_)
    · have m4 := m3.ext e4
      refine ⟨_, rfl, b, d, 7, rfl, m4.2, by decide, fun x H5 x0 x1 m5 => ⟨_, _, rfl, rfl, (by show 2 ≤ sizeLine; decide), fun p hp => ?_⟩⟩
      refine q _ (.atmost (x - 2)) _ ((m4.trans m5).new hp) ?_ (.atmost _) hi
      rw [Cd.data]
      exact .t2 (.of upd_same) (.str _) (.int _)
    · have m4 := m3.ext e4
      refine ⟨_, rfl, b, d, 3, rfl, m4.2, by decide, fun x H5 x0 x1 m5 => ⟨_, _, rfl, rfl, (by show 2 ≤ sizeLine; decide), fun p hp => ?_⟩⟩
      refine q _ (.divides (1 + x)) _ ((m4.trans m5).new hp) ?_ (.divides _) (Bool.and_eq_true_iff.mpr ⟨hi, Bool.and_eq_true_iff.mpr ⟨decide_eq_true (by omega), decide_eq_true (by omega)⟩⟩)
      rw [Cd.data]
      exact .t2 (.of upd_same) (.str _) (.int _)
  have m3 := m2.ext e3
  have hu3 := hu2.keep (Kt.same e3)
  refine q_when (et_test (ev_isWord (ev_var rfl) hu3 hk (by omega))) (fun hw H4 e4 => ?_) (fun hw H4 e4 => ?_)
  · have m4 := m3.ext e4
    refine ⟨by decide, fun p hp => ?_⟩
    have m5 := m4.new (o := .lst [.str "ab", .str "c", .str "zz"]) hp
    have npb : p ≠ b := (m4.2.neb hp).1
    refine ⟨_, rfl, b, d, 3, rfl, m5.2, by decide, fun x H6 x0 x1 m6 => ?_⟩
    have hl : SqL K H6 p [.str "ab", .str "c", .str "zz"] := m6.sql npb (.of upd_same)
    have done : ∀ (s : Str), SeqAt.shaped (.str s) = true → s.length ≤ 1000 → isWord s = true → ∀ p2, H6 p2 = none → Q (.ref p2) (upd H6 p2 (.tup [.str "is", .str s])) := fun s h1 h2 h3 p2 hp2 => by
      refine q _ (.is s) _ ((m5.trans m6).new hp2) ?_ (.is h1 h2) (Bool.and_eq_true_iff.mpr ⟨hw, h3⟩)
      rw [Cd.data]
      exact .t2 (.of upd_same) (.str _) (.str _)
    rcases (by omega : x = 0 ∨ x = 1 ∨ x = 2) with rfl | rfl | rfl
    · exact ⟨p, _, 0, .str "ab", rfl, rfl, hl, rfl, (by show 2 ≤ sizeLine; decide), done "ab" (by decide +kernel) (by decide +kernel) (by decide +kernel)⟩
    · exact ⟨p, _, 1, .str "c", rfl, rfl, hl, rfl, (by show 2 ≤ sizeLine; decide), done "c" (by decide +kernel) (by decide +kernel) (by decide +kernel)⟩
    · exact ⟨p, _, 2, .str "zz", rfl, rfl, hl, rfl, (by show 2 ≤ sizeLine; decide), done "zz" (by decide +kernel) (by decide +kernel) (by decide +kernel)⟩
  have m4 := m3.ext e4
  have hu4 := hu3.keep (Kt.same e4)
  cases kd with
  | int => cases hi
  | word => cases hw
  | tup ks =>
    have hu5 := hu4
    rw [Kd.data] at hu5
    obtain ⟨a, y0, y1, rfl, ha, h0, h1⟩ := hu5.g2
    cases h0.str_inv
    obtain ⟨c, rfl⟩ := h1.ref
    obtain ⟨ys, hys, hyl, hyi⟩ := h1.get
    have hyk : ys.length = ks.length := by rw [hyl, dataAll_map, List.length_map]
    have hkp : 0 < ks.length ∧ ∀ j ∈ ks, NeK j := by cases hne with | tup h1 _ h2 _ => exact ⟨h1, h2⟩
    have hm2 : ∀ j ∈ ks, OkK (m - 1) j := by cases hk with | tup _ h => exact h
    refine q_when (b := true) (et_is (et_test (ev_op (ev_ixT (j := 0) (ev_var rfl) ev_c ha rfl) ev_c (rv_eq rfl))) (by decide +kernel)) (fun _ H5 e5 => ?_) (fun h => Bool.noConfusion h)
    have m5 := m4.ext e5
    refine ⟨_, rfl, _, rfl, a, _, 1, .ref c, rfl, rfl, ex_t e5 ha, rfl, c, _, rfl, .inr (ex_t e5 hys), b, d, (ys.length : Int), rfl, m5.2, by omega, fun x H6 x0 x1 m6 => ?_⟩
    obtain ⟨j, rfl⟩ := Int.eq_ofNat_of_zero_le x0
    have hj : j < ks.length := by omega
    have hyd : (dataAll ks)[j]? = some (ks.getD j .int).data := by rw [dataAll_map, List.getElem?_map, getD_at (a0 := Kd.int) hj]; rfl
    have hyj : ys[j]? = some (ys.getD j .non) := getD_at (by omega)
    have k6 : Kt K H4 H6 := (Kt.same e5).trans (m6.kt m5.2)
    refine ⟨_, rfl, _, rfl, _, rfl, a, _, 1, .ref c, rfl, rfl, k6 _ _ ha, rfl, _, rfl, c, _, _, _, rfl, rfl, k6 _ _ hys, atI_nat hyj, b, d, _, ks.getD j .int, 0, m - 1, rfl, m6.2, (hyi _ _ _ hyj hyd).keep k6, hm2 _ (List.mem_of_getElem? (getD_at hj)), hkp.2 _ (List.mem_of_getElem? (getD_at hj)), by omega, by omega, fun v cc H7 m7 hv hc hfc => ⟨(by show 3 ≤ sizeLine; decide), fun p hp => ?_⟩⟩
    refine q _ (.item j cc) _ (((m5.trans m6).trans m7).new hp) ?_ (.item _ hc) (item_fits hj hfc)
    rw [Cd.data]
    exact .t3 (.of upd_same) (.str _) (.int _) (hv.keep (Kt.new hp))
  | lst kj =>
    have hu5 := hu4
    rw [Kd.data] at hu5
    obtain ⟨a, y0, y1, rfl, ha, h0, h1⟩ := hu5.g2
    cases h0.str_inv
    have hkj : OkK (m - 1) kj := by cases hk with | lst h => exact h
    have hnj : NeK kj := by cases hne with | lst h => exact h
    have hmj := hkj.pos
    refine q_when (b := false) (et_is (et_test (ev_op (ev_ixT (j := 0) (ev_var rfl) ev_c ha rfl) ev_c (rv_eq rfl))) (by decide +kernel)) (fun h => Bool.noConfusion h) (fun _ H5 e5 => ?_)
    have m5 := m4.ext e5
    -- _law_limit(box, 'int', 0)
    refine q_when (b := PyData.eqv (Kd.lst kj).data (Kd.lst Kd.int).data && decide (r < 3)) (et_and (et_test (ev_opU (xs := [.str "list", .str "int"]) (ev_var rfl) (eu_tup (ea_cons ev_c (ea_cons ev_c ea_nil)) (by show 2 ≤ 100000; decide)) fun p Hx hp ex => rv_eqD (hu4.keep (Kt.same (e5.trans ex))) (by rw [Kd.data, Kd.data]; exact .t2 (.of hp) (.str _) (.str _)) sk (OkK.shaped (n := 2) (.lst .int) (by omega)))) (fun _ => et_test (ev_op (ev_var rfl) ev_c rv_I0))) (fun hb3 H6 e6 => ?_) (fun hb3 H6 e6 => ?_)
    · have hr3 : r < 3 := of_decide_eq_true (Bool.and_eq_true_iff.mp hb3).2
      have hji : kj.isInt = true := lst_int (Bool.and_eq_true_iff.mp hb3).1
      have m6 := m5.ext e6
      refine ⟨by decide, fun p1 hp1 => ⟨by decide, fun p2 hp2 => ?_⟩⟩
      have e7 := (same_new (o := .tup [.str "rising"]) hp1).trans (same_new (o := .tup [.str "different"]) hp2)
      have m7 := m6.ext e7
      refine ⟨_, rfl, b, d, .str "int", .int, 0, 1, rfl, m7.2, int_data, .int, .int, by omega, by omega, fun v cc H8 m8 hv hc hfc => ⟨(by show 2 ≤ sizeLine; decide), fun p3 hp3 => ⟨(by show 3 ≤ sizeLine; decide), fun p4 hp4 => ?_⟩⟩⟩
      have e9 := (same_new (o := .tup [.str "sum", v]) hp3).trans (same_new (o := .lst [.ref p1, .ref p2, .ref p3]) hp4)
      have m9 := (m7.trans m8).ext e9
      have n1 : p1 ≠ b := (m6.2.neb hp1).1
      have n2 : p2 ≠ b := ((m6.ext (same_new hp1)).2.neb hp2).1
      have t1 := e9 _ _ (m8.1 _ _ n1 ((same_new (o := .tup [.str "different"]) hp2) _ _ (upd_same (H := H6) (a := p1) (o := .tup [.str "rising"]))))
      have t2 := e9 _ _ (m8.1 _ _ n2 (upd_same (H := upd H6 p1 (.tup [.str "rising"])) (a := p2) (o := .tup [.str "different"])))
      have t3 := (same_new (o := .lst [.ref p1, .ref p2, .ref p3]) hp4) _ _ (upd_same (H := H8) (a := p3) (o := .tup [.str "sum", v]))
      refine ⟨_, rfl, p4, [.ref p1, .ref p2, .ref p3], r, ?_⟩
      rcases (by omega : r = 0 ∨ r = 1 ∨ r = 2) with rfl | rfl | rfl
      · exact ⟨.ref p1, rfl, rfl, .of upd_same, rfl, q _ .rising _ m9 (by rw [Cd.data]; exact .t1 (.of t1) (.str _)) .rising hji⟩
      · exact ⟨.ref p2, rfl, rfl, .of upd_same, rfl, q _ .different _ m9 (by rw [Cd.data]; exact .t1 (.of t2) (.str _)) .different rfl⟩
      · exact ⟨.ref p3, rfl, rfl, .of upd_same, rfl, q _ (.sum cc) _ m9 (by rw [Cd.data]; exact .t2 (.of t3) (.str _) (hv.keep (Kt.same e9))) (.sum hc) (Bool.and_eq_true_iff.mpr ⟨hji, hfc⟩)⟩
    have m6 := m5.ext e6
    refine q_when (et_test (ev_op (ev_var rfl) ev_c (rv_eq rfl))) (fun _ H7 e7 => ?_) (fun _ H7 e7 => ?_)
    · refine ⟨by decide, fun p hp => ?_⟩
      exact q _ .different _ ((m6.ext e7).new hp) (by rw [Cd.data]; exact .t1 (.of upd_same) (.str _)) .different rfl
    have m7 := m6.ext e7
    refine q_when (et_test (ev_op (ev_var rfl) ev_c (rv_eq rfl))) (fun _ H8 e8 => ?_) (fun _ H8 e8 => ?_)
    · have m8 := m7.ext e8
      refine ⟨_, rfl, b, d, .str "int", .int, 0, 1, rfl, m8.2, int_data, .int, .int, by omega, by omega, fun v cc H9 m9 hv hc hfc => ⟨(by show 2 ≤ sizeLine; decide), fun p hp => ?_⟩⟩
      exact q _ (.size cc) _ ((m8.trans m9).new hp) (by rw [Cd.data]; exact .t2 (.of upd_same) (.str _) (hv.keep (Kt.new hp))) (.size hc) hfc
    have m8 := m7.ext e8
    refine ⟨by decide, fun p hp => ?_⟩
    have e9 := same_new (o := .lst [.str "every", .str "some"]) hp
    have m9 := m8.ext e9
    have e59 := e5.trans (e6.trans (e7.trans (e8.trans e9)))
    refine ⟨_, rfl, _, _, rfl, rfl, (by show (0 : Int) < 2; decide), p, [.str "every", .str "some"], r % 2, ?_⟩
    rcases (by omega : r % 2 = 0 ∨ r % 2 = 1) with hr2 | hr2
    · refine ⟨.str "every", rfl, rfl, .of upd_same, (by rw [hr2]; rfl), _, rfl, _, rfl, a, _, 1, _, rfl, rfl, ex_t e59 ha, rfl, b, d, _, kj, 0, m - 1, rfl, m9.2, h1.keep (Kt.same e59), hkj, hnj, by omega, by omega, fun v cc Hb mb hv hc hfc => ⟨(by show 2 ≤ sizeLine; decide), fun p2 hp2 => ?_⟩⟩
      exact q _ (.every cc) _ ((m9.trans mb).new hp2) (by rw [Cd.data]; exact .t2 (.of upd_same) (.str _) (hv.keep (Kt.new hp2))) (.every hc) hfc
    · refine ⟨.str "some", rfl, rfl, .of upd_same, (by rw [hr2]; rfl), _, rfl, _, rfl, a, _, 1, _, rfl, rfl, ex_t e59 ha, rfl, b, d, _, kj, 0, m - 1, rfl, m9.2, h1.keep (Kt.same e59), hkj, hnj, by omega, by omega, fun v cc Hb mb hv hc hfc => ⟨(by show 2 ≤ sizeLine; decide), fun p2 hp2 => ?_⟩⟩
      exact q _ (.some_ cc) _ ((m9.trans mb).new hp2) (by rw [Cd.data]; exact .t2 (.of upd_same) (.str _) (hv.keep (Kt.new hp2))) (.some_ hc) hfc
abbrev s__law_gen : Stmt := topS 25
abbrev N__law_gen : List Str := ["box", "kind", "depth", "which", "some", "low", "least", "j", "part"]
theorem sc__law_gen : FnScope N__law_gen ["box", "kind", "depth"] (defScope s__law_gen) := ⟨rfl, rfl, rfl, by decide +kernel, rfl, by decide +kernel, by decide +kernel⟩
theorem ok__law_gen {f : Addr} {fd : FuncData} {N : Nat} (T : Tx mg) (F : Fun K "_law_gen" "_law_gen" s__law_gen f fd) (c__law_take : Cl P w K mg base "_law_take" ["box", "many"] 1 spTake) (c__law_limit : Cl P w K mg base "_law_limit" ["box", "kind", "depth"] 6 (spLLimit2 K 5))
    (c__law_gen : Cl P w K mg base "_law_gen" ["box", "kind", "depth"] (N + 7) (spLGen K N)) : FnOk P w K mg base CX0 (N + 7 + 1) f fd ["box", "kind", "depth"] (spLGen K (N + 1)) := by
  refine F.ok sc__law_gen (fun vs H Q E h => ?_) (fun cdv A outer s H vs Q E hr h => ?_)
  · obtain ⟨b, d, u, kd, n, m, rfl, _⟩ := h
    rfl
  obtain ⟨b, d, u, kd, n, m, rfl, hB, hu, hk, hne, hnm, hn4, hm4, q⟩ := h
  have up : 0 < n → ∀ {z : Nat}, z ≤ 2 ^ (n - 1) * baseK kd → z ≤ 2 ^ n * baseK kd := fun h0 _ hz => Nat.le_trans hz (pow_up h0 _)
  have upC : 0 < n → ∀ {g : Gn}, CapG (2 ^ (n - 1) * baseK kd) g → CapG (2 ^ n * baseK kd) g := fun h0 _ hz => hz.mono (pow_up h0 _)
  refine ⟨_, (pss_cons (ps_set (i := 3) sc__law_gen.nd rfl (Or.inl rfl) (pe_call c__law_take.ok (hr.mono (by omega)) (by rfl) c__law_take.m c__law_take.kp c__law_take.b .nil pass0 (pa_cons (pv 0) (pa_cons pe_int pa_nil))))
      (pss_cons (ps_if (PW.pt (pw_and (pt_cmpR op_gt (pv 2) pe_int (nomark _)) (pw_and1 (pt_cmpR op_eq (pv 3) pe_int (nomark _))))) (pss_one (ps_ret (pe_tup (pa_cons pe_str (pa_cons (pe_callTy call_tuple_of (by rfl) T.z_tuple (by decide +kernel) (pa_cons (pe_lc (own := [("j", 7)]) (g := gName 7) (by rfl) sc__law_gen.nd (pi_range1 (by rfl) T.z_range (pa_cons (pe_op op_add pe_int (pe_call c__law_take.ok (hr.mono (by omega)) (by rfl) c__law_take.m c__law_take.kp c__law_take.b .nil pass0 (pa_cons (pv 0) (pa_cons pe_int pa_nil)))) pa_nil)) (blkOk_by (own := [("j", 7)]) (N := N__law_gen) (sc := defScope s__law_gen) (by decide +kernel)) (fun _ _ _ _ _ => (pg_name (i := 7) sc__law_gen.nd rfl (Or.inl rfl))) (fun _ _ _ _ _ => pts_nil) (fun _ _ _ _ _ => (pe_call c__law_gen.ok (hr.mono (by omega)) (by rfl) c__law_gen.m c__law_gen.kp c__law_gen.b .nil pass0 (pa_cons (pv 0) (pa_cons (pv 1) (pa_cons (pe_op op_sub (pv 2) pe_int) pa_nil)))))) pa_nil)) pa_nil))))) pss_nil)
      (pss_cons (ps_if (PW.pt (pw_and (pt_cmpR op_gt (pv 2) pe_int (nomark _)) (pw_and1 (pt_cmpR op_eq (pv 3) pe_int (nomark _))))) (pss_one (ps_ret (pe_tup (pa_cons pe_str (pa_cons (pe_call c__law_gen.ok (hr.mono (by omega)) (by rfl) c__law_gen.m c__law_gen.kp c__law_gen.b .nil pass0 (pa_cons (pv 0) (pa_cons (pv 1) (pa_cons (pe_op op_sub (pv 2) pe_int) pa_nil)))) (pa_cons (pe_call c__law_limit.ok (hr.mono (by omega)) (by rfl) c__law_limit.m c__law_limit.kp c__law_limit.b .nil pass0 (pa_cons (pv 0) (pa_cons (pv 1) (pa_cons pe_int pa_nil)))) pa_nil)))))) pss_nil)
      (pss_cons (ps_if (pt_cmpR (op_eqD hr.units) (pv 1) pe_str (nomark _)) (pss_cons (ps_if (PW.pt (pw_and (pt_cmpR op_gt (pv 2) pe_int (nomark _)) (pw_and1 (pt_cmpR op_in_seq (pv 3) (pe_lst (pa_cons pe_int (pa_cons pe_int (pa_cons pe_int pa_nil)))) (by rfl))))) (pss_cons (ps_set (i := 4) sc__law_gen.nd rfl (Or.inl rfl) (pe_ix (r := rIxL K) ix_list (pe_lst (pa_cons (pe_tup (pa_cons pe_str (pa_cons (pe_op op_sub (pe_call c__law_take.ok (hr.mono (by omega)) (by rfl) c__law_take.m c__law_take.kp c__law_take.b .nil pass0 (pa_cons (pv 0) (pa_cons pe_int pa_nil))) pe_int) pa_nil))) (pa_cons (pe_tup (pa_cons pe_str (pa_cons (pe_op op_sub (pe_call c__law_take.ok (hr.mono (by omega)) (by rfl) c__law_take.m c__law_take.kp c__law_take.b .nil pass0 (pa_cons (pv 0) (pa_cons pe_int pa_nil))) pe_int) pa_nil))) (pa_cons (pe_tup (pa_cons pe_str pa_nil)) pa_nil)))) (pe_op op_sub (pv 3) pe_int) (fun _ _ => rfl)))
          (pss_cons (ps_if (pt_cmpR op_eq (pv 3) pe_int (nomark _)) (pss_one (ps_ret (pe_tup (pa_cons pe_str (pa_cons (pe_tup (pa_cons pe_str (pa_cons (pe_tup (pa_cons pe_str (pa_cons pe_int (pa_cons pe_int pa_nil)))) (pa_cons pe_int (pa_cons pe_int pa_nil))))) (pa_cons (pe_ix (r := rIxL K) ix_list (pe_lst (pa_cons (pe_tup (pa_cons pe_str pa_nil)) (pa_cons (pe_tup (pa_cons pe_str pa_nil)) pa_nil))) (pe_call c__law_take.ok (hr.mono (by omega)) (by rfl) c__law_take.m c__law_take.kp c__law_take.b .nil pass0 (pa_cons (pv 0) (pa_cons pe_int pa_nil))) (fun _ _ => rfl)) pa_nil)))))) pss_nil)
          (pss_one (ps_ret (pe_tup (pa_cons pe_str (pa_cons (pe_call c__law_gen.ok (hr.mono (by omega)) (by rfl) c__law_gen.m c__law_gen.kp c__law_gen.b .nil pass0 (pa_cons (pv 0) (pa_cons pe_str (pa_cons (pe_op op_sub (pv 2) pe_int) pa_nil)))) (pa_cons (pv 4) pa_nil)))))))) pss_nil)
        (pss_cons (ps_set (i := 5) sc__law_gen.nd rfl (Or.inl rfl) (pe_op op_sub (pe_call c__law_take.ok (hr.mono (by omega)) (by rfl) c__law_take.m c__law_take.kp c__law_take.b .nil pass0 (pa_cons (pv 0) (pa_cons pe_int pa_nil))) pe_int))
        (pss_one (ps_ret (pe_tup (pa_cons pe_str (pa_cons (pv 5) (pa_cons (pe_op op_add (pv 5) (pe_call c__law_take.ok (hr.mono (by omega)) (by rfl) c__law_take.m c__law_take.kp c__law_take.b .nil pass0 (pa_cons (pv 0) (pa_cons pe_int pa_nil)))) pa_nil)))))))) pss_nil)
      (pss_cons (ps_if (pt_cmpR (op_eqD hr.units) (pv 1) pe_str (nomark _)) (pss_one (ps_ret (pe_tup (pa_cons pe_str (pa_cons (pe_slice (r := rSlA K) sl_tupA (pe_tup (pa_cons pe_str (pa_cons pe_str (pa_cons pe_str pa_nil)))) po_none (po_some (pe_op op_add pe_int (pe_call c__law_take.ok (hr.mono (by omega)) (by rfl) c__law_take.m c__law_take.kp c__law_take.b .nil pass0 (pa_cons (pv 0) (pa_cons pe_int pa_nil)))))) pa_nil))))) pss_nil)
      (pss_cons (ps_if (pt_cmpR op_eq (pe_ix (r := rIxT K) ix_tup (pv 1) pe_int (fun _ _ => rfl)) pe_str (nomark _)) (pss_one (ps_ret (pe_tup (pa_cons pe_str (pa_cons (pe_callTy call_tuple_of (by rfl) T.z_tuple (by decide +kernel) (pa_cons (pe_lc (own := [("part", 8)]) (g := gName 8) (by rfl) sc__law_gen.nd (pi_tup (pe_ix (r := rIxT K) ix_tup (pv 1) pe_int (fun _ _ => rfl))) (blkOk_by (own := [("part", 8)]) (N := N__law_gen) (sc := defScope s__law_gen) (by decide +kernel)) (fun _ _ _ _ _ => (pg_name (i := 8) sc__law_gen.nd rfl (Or.inl rfl))) (fun _ _ _ _ _ => pts_nil) (fun _ _ _ _ _ => (pe_call c__law_gen.ok (hr.mono (by omega)) (by rfl) c__law_gen.m c__law_gen.kp c__law_gen.b .nil pass0 (pa_cons (pv 0) (pa_cons (pv 8) (pa_cons pe_int pa_nil)))))) pa_nil)) pa_nil))))) pss_nil)
      (pss_cons (ps_if (PW.pt (pw_and (pt_cmpR op_eq (pv 3) pe_int (nomark _)) (pw_and1 (pt_cmpR op_gt (pv 2) pe_int (nomark _))))) (pss_one (ps_ret (pe_tup (pa_cons pe_str (pa_cons (pe_call c__law_gen.ok (hr.mono (by omega)) (by rfl) c__law_gen.m c__law_gen.kp c__law_gen.b .nil pass0 (pa_cons (pv 0) (pa_cons (pv 1) (pa_cons (pe_op op_sub (pv 2) pe_int) pa_nil)))) (pa_cons (pe_tup (pa_cons pe_str pa_nil)) pa_nil)))))) pss_nil)
      (pss_cons (ps_if (PW.pt (pw_and (pt_cmpR op_eq (pv 3) pe_int (nomark _)) (pw_and (pt_cmpR op_gt (pv 2) pe_int (nomark _)) (pw_and1 (pt_cmpR (op_inD (Cr.Room.u65 hr)) (pe_ix (r := rIxT K) ix_tup (pv 1) pe_int (fun _ _ => rfl)) (pe_lst (pa_cons pe_str (pa_cons pe_str pa_nil))) (by rfl)))))) (pss_one (ps_ret (pe_tup (pa_cons pe_str (pa_cons (pe_call c__law_gen.ok (hr.mono (by omega)) (by rfl) c__law_gen.m c__law_gen.kp c__law_gen.b .nil pass0 (pa_cons (pv 0) (pa_cons (pv 1) (pa_cons (pe_op op_sub (pv 2) pe_int) pa_nil)))) (pa_cons (pe_tup (pa_cons pe_str pa_nil)) pa_nil)))))) pss_nil)
      (pss_cons (ps_if (pt_cmpR op_eq (pv 3) pe_int (nomark _)) (pss_one (ps_ret (pe_tup (pa_cons pe_str (pa_cons (pe_tup (pa_cons pe_str (pa_cons (pe_op op_sub (pe_call c__law_take.ok (hr.mono (by omega)) (by rfl) c__law_take.m c__law_take.kp c__law_take.b .nil pass0 (pa_cons (pv 0) (pa_cons pe_int pa_nil))) pe_int) (pa_cons (pe_op op_add pe_int (pe_call c__law_take.ok (hr.mono (by omega)) (by rfl) c__law_take.m c__law_take.kp c__law_take.b .nil pass0 (pa_cons (pv 0) (pa_cons pe_int pa_nil)))) pa_nil)))) (pa_cons (pe_call c__law_gen.ok (hr.mono (by omega)) (by rfl) c__law_gen.m c__law_gen.kp c__law_gen.b .nil pass0 (pa_cons (pv 0) (pa_cons (pe_ix (r := rIxT K) ix_tup (pv 1) pe_int (fun _ _ => rfl)) (pa_cons pe_int pa_nil)))) pa_nil)))))) pss_nil)
      (pss_cons (ps_set (i := 6) sc__law_gen.nd rfl (Or.inl rfl) (pe_call c__law_take.ok (hr.mono (by omega)) (by rfl) c__law_take.m c__law_take.kp c__law_take.b .nil pass0 (pa_cons (pv 0) (pa_cons pe_int pa_nil))))
      (pss_one (ps_ret (pe_tup (pa_cons pe_str (pa_cons (pe_call c__law_gen.ok (hr.mono (by omega)) (by rfl) c__law_gen.m c__law_gen.kp c__law_gen.b .nil pass0 (pa_cons (pv 0) (pa_cons (pe_ix (r := rIxT K) ix_tup (pv 1) pe_int (fun _ _ => rfl)) (pa_cons (pe_callB (call_max2 rfl) (by rfl) T.z_max (by decide +kernel) (pa_cons pe_int (pa_cons (pe_op op_sub (pv 2) pe_int) pa_nil))) pa_nil)))) (pa_cons (pv 6) (pa_cons (pe_op op_add (pv 6) (pe_call c__law_take.ok (hr.mono (by omega)) (by rfl) c__law_take.m c__law_take.kp c__law_take.b .nil pass0 (pa_cons (pv 0) (pa_cons (pe_op op_sub pe_int (pv 6)) pa_nil)))) pa_nil))))))))))))))))), ?_⟩
  have hmp := hk.pos
  refine ⟨_, rfl, b, d, 10, rfl, hB, by decide, fun r H1 r0 r1 m1 => ?_⟩
  -- one
  refine q_when (et_and (et_test (ev_op (ev_var rfl) ev_c rv_I0)) (fun _ => et_test (ev_op (ev_var rfl) ev_c (rv_eq rfl)))) (fun hb H2 e2 => ?_) (fun _ H2 e2 => ?_)
  · have hn0 : (n : Int) > 0 := of_decide_eq_true (Bool.and_eq_true_iff.mp hb).1
    have en : (n : Int) - 1 = ((n - 1 : Nat) : Int) := by omega
    have m2 := m1.ext e2
    refine ⟨_, rfl, b, d, 2, rfl, m2.2, by decide, fun x H3 x0 x1 m3 => ⟨1, x, rfl, rfl, 1 + x, rfl, by omega, by omega, fun D hD => ?_⟩⟩
    have m23 := m2.trans m3
    have nDb : D ≠ b := (m23.2.neb hD).1
    have hu3 := hu.keep (m23.kt hB)
    refine lc_range (lo := 0) (n := (1 + x).toNat) (fun i H' => ∃ (vs : List V) (gs : List Gn), H' D = some (.lst vs) ∧ vs.length = i ∧ Vds K H' vs (gs.map Gn.data) ∧ (∀ g ∈ gs, OkG (N + 1) g ∧ GenK g kd ∧ CapG (2 ^ (n - 1) * baseK kd) g) ∧ Mv b d H3 H') ⟨[], [], upd_same, rfl, .nil, fun _ h => (nomatch h), (Mv.refl m23.2).new hD⟩ (fun i H5 hi hP => ⟨rfl, ?_⟩) (fun H5 hP => ?_)
    · obtain ⟨vs, gs, hDv, hl, hvs, hgs, m5⟩ := hP
      refine ⟨_, rfl, _, rfl, _, rfl, _, _, rfl, rfl, b, d, u, kd, n - 1, m, (by rw [← en]; rfl), m5.2, hu3.keep (m5.kt m23.2), hk, hne, by omega, by omega, hm4, fun v g H6 m6 hv hg hgk hcn => ⟨vs, m6.1 _ _ nDb hDv, small1000 (by omega), vs ++ [v], gs ++ [g], upd_same, by rw [List.length_append, hl]; rfl, ?_, ?_, (m5.trans m6).mut m23.2 hD⟩⟩
      · rw [List.map_append]
        exact ((hvs.keep (m6.kt m5.2)).snoc hv).keep (Kt.lst (m6.1 _ _ nDb hDv))
      · intro g' hg'
        rcases List.mem_append.mp hg' with h | h
        · exact hgs g' h
        · cases List.mem_singleton.mp h
          exact ⟨hg, hgk, hcn⟩
    · obtain ⟨vs, gs, hDv, hl, hvs, hgs, m5⟩ := hP
      have hgl : gs.length = (1 + x).toNat := by have h := hvs.1; rw [List.length_map] at h; omega
      refine ⟨D, vs, rfl, .inl ⟨.of hDv, fun l hl' => ⟨len2, fun p hp => ?_⟩⟩⟩
      have e5 := (same_new (o := .tup vs) hl').trans (same_new (o := .tup [.str "one", .ref l]) hp)
      refine q _ (.one gs) _ ((m23.trans m5).ext e5) ?_ (.one (by omega) fun g hg => (hgs g hg).1) (.one (by omega) (by omega) fun g hg => (hgs g hg).2.1) (.one (fun g hg => upC (by omega) (hgs g hg).2.2) (one_le (by omega) (by omega) fun g hg => (hgs g hg).2.2.cnt))
      rw [Gn.data, gnAll_map]
      exact .t2 (.of upd_same) (.str _) ((hvs.keep (Kt.same e5)).tup (ex_t (same_new hp) (.of upd_same)))
  -- kept
  have m2 := m1.ext e2
  refine q_when (et_and (et_test (ev_op (ev_var rfl) ev_c rv_I0)) (fun _ => et_test (ev_op (ev_var rfl) ev_c (rv_eq rfl)))) (fun hb H3 e3 => ?_) (fun _ H3 e3 => ?_)
  · have hn0 : (n : Int) > 0 := of_decide_eq_true (Bool.and_eq_true_iff.mp hb).1
    have en : (n : Int) - 1 = ((n - 1 : Nat) : Int) := by omega
    have m3 := m2.ext e3
    refine ⟨_, rfl, _, rfl, _, rfl, _, _, rfl, rfl, b, d, u, kd, n - 1, m, (by rw [← en]; rfl), m3.2, hu.keep (m3.kt hB), hk, hne, by omega, by omega, hm4, fun v g H4 m4 hv hg hgk hcn => ?_⟩
    have m34 := m3.trans m4
    refine ⟨_, rfl, _, rfl, b, d, u, kd, 1, m, rfl, m34.2, hu.keep (m34.kt hB), hk, hne, by omega, by omega, fun w c H5 m5 hw hc hf => ⟨len3, fun p hp => ?_⟩⟩
    refine q _ (.kept g c) _ ((m34.trans m5).new hp) ?_ (.kept hg (hc.mono (by omega))) (.kept hgk hf) (.kept (upC (by omega) hcn) (by rw [cntG]; exact up (by omega) hcn.cnt))
    rw [Gn.data]
    exact .t3 (.of upd_same) (.str _) ((hv.keep (m5.kt m34.2)).keep (Kt.new hp)) (hw.keep (Kt.new hp))
  have m3 := m2.ext e3
  have hu3 := hu.keep (m3.kt hB)
  have sk := OkK.shaped hk (by omega)
  -- int
  refine q_when (et_test (ev_isInt (ev_var rfl) hu3 hk (by omega))) (fun hi H4 e4 => ?_) (fun hi H4 e4 => ?_)
  · cases isInt_of hi
    have m4 := m3.ext e4
    refine q_when (b := decide ((n : Int) > 0) && inV (.int r) [.int 5, .int 6, .int 7]) (et_and (et_test (ev_op (ev_var rfl) ev_c rv_I0)) (fun _ => et_test (ev_opL (ev_var rfl) (el_lst (ea_cons ev_c (ea_cons ev_c (ea_cons ev_c ea_nil))) (by show 3 ≤ 100000; decide)) fun p Hx hp ex => rv_isL (sq_of hp) rfl rfl))) (fun hb H5 e5 => ?_) (fun _ H5 e5 => ?_)
    · have hn0 : (n : Int) > 0 := of_decide_eq_true (Bool.and_eq_true_iff.mp hb).1
      have hr : r = 5 ∨ r = 6 ∨ r = 7 := by
        have h := (Bool.and_eq_true_iff.mp hb).2
        simp [inV, eqV] at h
        omega
      have en : (n : Int) - 1 = ((n - 1 : Nat) : Int) := by omega
      have m5 := m4.ext e5
      refine ⟨_, rfl, b, d, 9, rfl, m5.2, by decide, fun x H6 x0 x1 m6 => ⟨_, _, rfl, rfl, len2, fun p1 hp1 => ?_⟩⟩
      have m7 := (m5.trans m6).new (o := .tup [.str "plus", .int (x - 4)]) hp1
      have n1 : p1 ≠ b := ((m5.trans m6).2.neb hp1).1
      refine ⟨_, rfl, b, d, 5, rfl, m7.2, by decide, fun y H8 y0 y1 m8 => ⟨_, _, rfl, rfl, len2, fun p2 hp2 => ⟨len1, fun p3 hp3 => ⟨len3, fun p4 hp4 => ?_⟩⟩⟩⟩
      have s1 := same_new (o := .tup [.str "times", .int (y - 2)]) hp2
      have s2 := same_new (o := .tup [.str "length"]) hp3
      have s3 := same_new (o := .lst [.ref p1, .ref p2, .ref p3]) hp4
      have t1 := (s1.trans (s2.trans s3)) _ _ (m8.1 _ _ n1 (upd_same (H := H6) (a := p1) (o := .tup [.str "plus", .int (x - 4)])))
      have t2 := (s2.trans s3) _ _ (upd_same (H := H8) (a := p2) (o := .tup [.str "times", .int (y - 2)]))
      have m9 := (m7.trans m8).ext (s1.trans (s2.trans s3))
      have t4 := upd_same (H := upd (upd H8 p2 (.tup [.str "times", .int (y - 2)])) p3 (.tup [.str "length"])) (a := p4) (o := .lst [.ref p1, .ref p2, .ref p3])
      refine ⟨_, rfl, _, _, rfl, rfl, p4, [.ref p1, .ref p2, .ref p3], r - 5, ?_⟩
      generalize upd (upd (upd H8 p2 (.tup [.str "times", .int (y - 2)])) p3 (.tup [.str "length"])) p4 (.lst [.ref p1, .ref p2, .ref p3]) = H9 at t1 t2 t4 m9 ⊢
      have hu9 := hu.keep (m9.kt hB)
      rcases hr with rfl | rfl | rfl
      · refine ⟨.ref p1, rfl, rfl, .of t4, rfl, ?_⟩
        refine q_when (b := false) (et_is (et_test (ev_op (ev_var rfl) ev_c (rv_eq rfl))) (by decide)) (fun h => Bool.noConfusion h) (fun _ Ha ea => ?_)
        refine ⟨_, rfl, _, rfl, _, _, rfl, rfl, b, d, .str "int", .int, n - 1, 1, (by rw [← en]; rfl), (m9.ext ea).2, int_data, .int, .int, by omega, by omega, by omega, fun v g Hb mb hv hg hgk hcn => ⟨_, rfl, len3, fun p hp => ?_⟩⟩
        refine q _ (.turned g (.plus (x - 4))) _ (((m9.ext ea).trans mb).new hp) ?_ (.turned _ hg) (.turned hgk (by
          show (if Kd.int.isInt && (decide (-1000 ≤ x - 4) && decide (x - 4 ≤ 1000)) then some Kd.int else none) = some .int
          rw [decide_eq_true (show -1000 ≤ x - 4 by omega), decide_eq_true (show x - 4 ≤ 1000 by omega)]
          rfl)) (.turned (upC (by omega) hcn) (by rw [cntG]; exact up (by omega) hcn.cnt))
        rw [Gn.data]
        have k1 : Kt K H9 _ := ((Kt.same ea).trans (mb.kt (m9.ext ea).2)).trans (Kt.new (o := .tup [.str "turned", v, .ref p1]) hp)
        exact .t3 (.of upd_same) (.str _) (hv.keep (Kt.new hp)) (.t2 (k1 _ _ (.of t1)) (.str _) (.int _))
      · refine ⟨.ref p2, rfl, rfl, .of t4, rfl, ?_⟩
        refine q_when (b := false) (et_is (et_test (ev_op (ev_var rfl) ev_c (rv_eq rfl))) (by decide)) (fun h => Bool.noConfusion h) (fun _ Ha ea => ?_)
        refine ⟨_, rfl, _, rfl, _, _, rfl, rfl, b, d, .str "int", .int, n - 1, 1, (by rw [← en]; rfl), (m9.ext ea).2, int_data, .int, .int, by omega, by omega, by omega, fun v g Hb mb hv hg hgk hcn => ⟨_, rfl, len3, fun p hp => ?_⟩⟩
        refine q _ (.turned g (.times (y - 2))) _ (((m9.ext ea).trans mb).new hp) ?_ (.turned _ hg) (.turned hgk (by
          show (if Kd.int.isInt && (decide (-1000 ≤ y - 2) && decide (y - 2 ≤ 1000)) then some Kd.int else none) = some .int
          rw [decide_eq_true (show -1000 ≤ y - 2 by omega), decide_eq_true (show y - 2 ≤ 1000 by omega)]
          rfl)) (.turned (upC (by omega) hcn) (by rw [cntG]; exact up (by omega) hcn.cnt))
        rw [Gn.data]
        have k1 : Kt K H9 _ := ((Kt.same ea).trans (mb.kt (m9.ext ea).2)).trans (Kt.new (o := .tup [.str "turned", v, .ref p2]) hp)
        exact .t3 (.of upd_same) (.str _) (hv.keep (Kt.new hp)) (.t2 (k1 _ _ (.of t2)) (.str _) (.int _))
      · refine ⟨.ref p3, rfl, rfl, .of t4, rfl, ?_⟩
        refine q_when (b := true) (et_is (et_test (ev_op (ev_var rfl) ev_c (rv_eq rfl))) (by decide)) (fun _ Ha ea => ?_) (fun h => Bool.noConfusion h)
        refine ⟨len3, fun g1 hg1 => ⟨len4, fun g2 hg2 => ⟨len1, fun g3 hg3 => ⟨len1, fun g4 hg4 => ⟨len2, fun g5 hg5 => ?_⟩⟩⟩⟩⟩
        have z1 := same_new (o := .tup [.str "int", .int 0, .int 1]) hg1
        have z2 := same_new (o := .tup [.str "list", .ref g1, .int 0, .int 2]) hg2
        have z3 := same_new (o := .tup [.str "length"]) hg3
        have z4 := same_new (o := .tup [.str "sum"]) hg4
        have z5 := same_new (o := .lst [.ref g3, .ref g4]) hg5
        have w1 := (z2.trans (z3.trans (z4.trans z5))) _ _ (upd_same (H := Ha) (a := g1) (o := .tup [.str "int", .int 0, .int 1]))
        have w2 := (z3.trans (z4.trans z5)) _ _ (upd_same (a := g2) (o := .tup [.str "list", .ref g1, .int 0, .int 2]))
        have w3 := (z4.trans z5) _ _ (upd_same (a := g3) (o := .tup [.str "length"]))
        have w4 := z5 _ _ (upd_same (a := g4) (o := .tup [.str "sum"]))
        have w5 := upd_same (H := upd (upd (upd (upd Ha g1 (.tup [.str "int", .int 0, .int 1])) g2 (.tup [.str "list", .ref g1, .int 0, .int 2])) g3 (.tup [.str "length"])) g4 (.tup [.str "sum"])) (a := g5) (o := .lst [.ref g3, .ref g4])
        have mA := (m9.ext ea).ext (z1.trans (z2.trans (z3.trans (z4.trans z5))))
        have n5 : g5 ≠ b := ((m9.ext ea).ext (z1.trans (z2.trans (z3.trans z4)))).2.neb hg5 |>.1
        generalize upd (upd (upd (upd (upd Ha g1 (.tup [.str "int", .int 0, .int 1])) g2 (.tup [.str "list", .ref g1, .int 0, .int 2])) g3 (.tup [.str "length"])) g4 (.tup [.str "sum"])) g5 (.lst [.ref g3, .ref g4]) = HA at w1 w2 w3 w4 w5 mA ⊢
        refine ⟨_, rfl, b, d, 2, rfl, mA.2, by decide, fun z HB z0 z1' mB => ?_⟩
        have kB : Kt K HA HB := mB.kt mA.2
        have gOk : OkG (N + 1 + 1) (.turned (.list (.int 0 1) 0 2) .length) := by
          obtain ⟨N', rfl⟩ : ∃ N', N = N' + 1 := ⟨N - 1, by omega⟩
          exact .turned _ (.list _ _ (.int _ _))
        have gOk2 : OkG (N + 1 + 1) (.turned (.list (.int 0 1) 0 2) .sum) := by
          obtain ⟨N', rfl⟩ : ∃ N', N = N' + 1 := ⟨N - 1, by omega⟩
          exact .turned _ (.list _ _ (.int _ _))
        have seven : ∀ mp, CapG (2 ^ n * baseK .int) (.turned (.list (.int 0 1) 0 2) mp) := fun mp => by
          have e : cntG (.turned (.list (.int 0 1) 0 2) mp) = 7 := by rw [cntG, cntG, cntG]; decide +kernel
          have e2 : cntG (.list (.int 0 1) 0 2) = 7 := by rw [cntG, cntG]; decide +kernel
          have e3 : cntG (.int 0 1) = 2 := by rw [cntG]; decide +kernel
          have h2 := Nat.pow_le_pow_right (show 0 < 2 by decide) (show 1 ≤ n by omega)
          have h3 : 8 ≤ 2 ^ n * baseK .int := by rw [baseK]; omega
          exact .turned (.list (.int (by omega)) (by omega)) (by omega)
        have gk0 : GenK (.list (.int 0 1) 0 2) (.lst .int) := .list (.int (by decide) (by decide) (by decide)) (by decide) (by decide) (by decide)
        have lB : SqL K HB g5 [.ref g3, .ref g4] := mB.sql n5 (.of w5)
        have inner : ∀ (p : Addr) (o : HO) (hp : HB p = none), Vd K (upd HB p o) (.ref g2) (.tuple [.str "list", .tuple [.str "int", .int 0, .int 1], .int 0, .int 2]) := fun p o hp => by
          refine (Vd.tup (kB _ _ (.of w2)) rfl fun i v e h1 h2 => ?_ : Vd K HB (.ref g2) _).keep (Kt.new hp)
          match i with
          | 0 => cases h1; cases h2; exact .str _
          | 1 => cases h1; cases h2; exact .t3 (kB _ _ (.of w1)) (.str _) (.int _) (.int _)
          | 2 => cases h1; cases h2; exact .int _
          | 3 => cases h1; cases h2; exact .int _
          | i + 4 => simp at h1
        rcases (by omega : z = 0 ∨ z = 1) with rfl | rfl
        · refine ⟨g5, _, 0, .ref g3, rfl, rfl, lB, rfl, len3, fun p hp => q _ (.turned (.list (.int 0 1) 0 2) .length) _ ((mA.trans mB).new hp) ?_ gOk (.turned gk0 rfl) (seven _)⟩
          rw [Gn.data, Gn.data, Gn.data, Mp.data]
          exact .t3 (.of upd_same) (.str _) (inner p _ hp) (.t1 ((Kt.new hp) _ _ (kB _ _ (.of w3))) (.str _))
        · refine ⟨g5, _, 1, .ref g4, rfl, rfl, lB, rfl, len3, fun p hp => q _ (.turned (.list (.int 0 1) 0 2) .sum) _ ((mA.trans mB).new hp) ?_ gOk2 (.turned gk0 rfl) (seven _)⟩
          rw [Gn.data, Gn.data, Gn.data, Mp.data]
          exact .t3 (.of upd_same) (.str _) (inner p _ hp) (.t1 ((Kt.new hp) _ _ (kB _ _ (.of w4))) (.str _))
    · have m5 := m4.ext e5
      refine ⟨_, rfl, b, d, 6, rfl, m5.2, by decide, fun x H6 x0 x1 m6 => ⟨_, _, rfl, rfl, ?_⟩⟩
      refine ⟨_, rfl, _, rfl, _, rfl, b, d, 4, rfl, m6.2, by decide, fun y H7 y0 y1 m7 => ⟨_, _, rfl, rfl, len3, fun p hp => ?_⟩⟩
      refine q _ (.int (x - 3) (x - 3 + y)) _ (((m5.trans m6).trans m7).new hp) ?_ (.int _ _) (.int (by omega) (by omega) (by omega)) (.int (by rw [cntG, baseK]; exact four_le n (by omega)))
      rw [Gn.data]
      exact .t3 (.of upd_same) (.str _) (.int _) (.int _)
  have m4 := m3.ext e4
  have hu4 := hu3.keep (Kt.same e4)
  -- word
  refine q_when (et_test (ev_isWord (ev_var rfl) hu4 hk (by omega))) (fun hw H5 e5 => ?_) (fun hw H5 e5 => ?_)
  · cases isWord_of hw
    have m5 := m4.ext e5
    refine ⟨len3, fun p1 hp1 => ?_⟩
    have m6 := m5.new (o := .tup [.str "zz", .str "ab", .str "c"]) hp1
    refine ⟨_, rfl, b, d, 3, rfl, m6.2, by decide, fun x H7 x0 x1 m7 => ⟨1, x, rfl, rfl, 1 + x, rfl, p1, [.str "zz", .str "ab", .str "c"], rfl, m7.kt m6.2 _ _ (.of upd_same), ?_⟩⟩
    have m67 := m6.trans m7
    have done : ∀ (ws : List Str) (r2 : Addr) (H8 : Hp), Same H7 H8 → SqT K H8 r2 (ws.map V.str) → 0 < ws.length → ws.length ≤ 3 → ws.Nodup → (∀ w ∈ ws, SeqAt.shaped (.str w) = true ∧ w.length ≤ 1000 ∧ isWord w = true) →
        [V.str "pick", V.ref r2].length ≤ sizeLine ∧ ∀ p, H8 p = none → Q (.ref p) (upd H8 p (.tup [.str "pick", .ref r2])) := fun ws r2 H8 e8 h8 h0 h3 hnd hws => ⟨len2, fun p hp => by
      refine q _ (.pick ws) _ ((m67.ext e8).new hp) ?_ (.pick (by omega) fun w hw => ⟨(hws w hw).1, (hws w hw).2.1⟩) (.pick h0 (by omega) hnd fun w hw => (hws w hw).2.2) (.pick (by rw [cntG, baseK]; exact four_le n (by omega)))
      rw [Gn.data]
      refine .t2 (.of upd_same) (.str _) (Vd.tup ((Kt.new hp) _ _ h8) (by rw [List.length_map, List.length_map]) fun i v e h1 h2 => ?_)
      rw [List.getElem?_map] at h1 h2
      cases hwi : ws[i]? with
      | none => rw [hwi] at h1; cases h1
      | some w =>
        rw [hwi] at h1 h2
        cases h1
        cases h2
        exact .str w⟩
    have ww : ∀ w ∈ ([("zz" : Str), "ab", "c"] : List Str), SeqAt.shaped (.str w) = true ∧ w.length ≤ 1000 ∧ isWord w = true := by decide +kernel
    rcases (by omega : x = 0 ∨ x = 1 ∨ x = 2) with rfl | rfl | rfl
    · refine ⟨fun hw => absurd hw.2 (by decide), fun _ p2 hp2 => done ["zz"] p2 _ (same_new hp2) (.of upd_same) (by decide) (by decide) (by decide +kernel) fun w hw => ww w ?_⟩
      exact List.mem_of_mem_take (i := 1) hw
    · refine ⟨fun hw => absurd hw.2 (by decide), fun _ p2 hp2 => done ["zz", "ab"] p2 _ (same_new hp2) (.of upd_same) (by decide) (by decide) (by decide +kernel) fun w hw => ww w ?_⟩
      exact List.mem_of_mem_take (i := 2) hw
    · exact ⟨fun hw => done ["zz", "ab", "c"] p1 _ (Ex.refl _) (m7.kt m6.2 _ _ (.of upd_same)) (by decide) (by decide) (by decide +kernel) ww, fun hw => absurd ⟨rfl, rfl⟩ hw⟩
  have m5 := m4.ext e5
  have hu5 := hu4.keep (Kt.same e5)
  cases kd with
  | int => cases hi
  | word => cases hw
  | tup ks =>
    have hu6 := hu5
    rw [Kd.data] at hu6
    obtain ⟨a, y0, y1, rfl, ha, h0, h1⟩ := hu6.g2
    cases h0.str_inv
    obtain ⟨c, rfl⟩ := h1.ref
    obtain ⟨ys, hys, hyl, hyi⟩ := h1.get
    have hyk : ys.length = ks.length := by rw [hyl, dataAll_map, List.length_map]
    have hkn : 0 < ks.length ∧ ks.length ≤ 2 ∧ ∀ j ∈ ks, NeK j := by cases hne with | tup h1 h2 h3 _ => exact ⟨h1, h2, h3⟩
    have hkf : ∀ j ∈ ks, j.isFlat = true := by cases hne with | tup _ _ _ h => exact h
    have hkk : ∀ j ∈ ks, OkK (m - 1) j := by cases hk with | tup _ h => exact h
    refine q_when (b := true) (et_is (et_test (ev_op (ev_ixT (j := 0) (ev_var rfl) ev_c ha rfl) ev_c (rv_eq rfl))) (by decide +kernel)) (fun _ H6 e6 => ?_) (fun h => Bool.noConfusion h)
    have m6 := m5.ext e6
    refine ⟨_, rfl, a, _, 1, .ref c, rfl, rfl, ex_t e6 ha, rfl, c, rfl, ⟨ys, ex_t e6 hys⟩, fun D hD => ?_⟩
    have nDb : D ≠ b := (m6.2.neb hD).1
    refine lc_tup (K := K) (a := c) (xs := ys) (fun i H' => ∃ (vs : List V) (gs : List Gn), H' D = some (.lst vs) ∧ vs.length = i ∧ Vds K H' vs (gs.map Gn.data) ∧ (∀ g ∈ gs, OkG (N + 1) g ∧ CapG 4 g) ∧ (∀ (j : Nat) g k, gs[j]? = some g → ks[j]? = some k → GenK g k) ∧ Mv b d H6 H')
      ⟨[], [], upd_same, rfl, .nil, fun _ h => (nomatch h), fun j g k h _ => by simp at h, (Mv.refl m6.2).new hD⟩ (fun i H' _ ⟨_, _, _, _, _, _, _, m⟩ => m.kt m6.2 _ _ (ex_t e6 hys)) (fun i y H7 hy hP => ⟨rfl, ?_⟩) (fun H7 hP => ?_)
    · obtain ⟨vs, gs, hDv, hl, hvs, hgs, hgk, m7⟩ := hP
      have hi6 : i < ks.length := by have := (List.getElem?_eq_some_iff.mp hy).1; omega
      have hgl : gs.length = i := by have h := hvs.1; rw [List.length_map] at h; omega
      have hyd : (dataAll ks)[i]? = some (ks.getD i .int).data := by rw [dataAll_map, List.getElem?_map, getD_at (a0 := Kd.int) hi6]; rfl
      have hkin := List.mem_of_getElem? (getD_at (a0 := Kd.int) hi6)
      have hkip := (hkk _ hkin).pos
      refine ⟨_, rfl, _, rfl, b, d, y, ks.getD i .int, 0, m - 1, rfl, m7.2, ((hyi i y _ hy hyd).keep (Kt.same e6)).keep (m7.kt m6.2), hkk _ hkin, hkn.2.2 _ hkin, by omega, by omega, by omega, fun v g H8 m8 hv hg hgk1 hcn => ⟨vs, m8.1 _ _ nDb hDv, small1000 (by omega), vs ++ [v], gs ++ [g], upd_same, by rw [List.length_append, hl]; rfl, ?_, ?_, ?_, (m7.trans m8).mut m6.2 hD⟩⟩
      · rw [List.map_append]
        exact ((hvs.keep (m8.kt m7.2)).snoc hv).keep (Kt.lst (m8.1 _ _ nDb hDv))
      · intro g' hg'
        rcases List.mem_append.mp hg' with h | h
        · exact hgs g' h
        · cases List.mem_singleton.mp h
          refine ⟨hg, ?_⟩
          have hfl := hkf _ hkin
          rw [Nat.pow_zero, Nat.one_mul, flat_base hfl] at hcn
          exact hcn
      · intro j g' k' hg' hk'
        by_cases hj : j < i
        · rw [List.getElem?_append_left (by omega)] at hg'
          exact hgk j g' k' hg' hk'
        · rw [List.getElem?_append_right (by omega)] at hg'
          have hj0 : j - gs.length = 0 := by
            have := (List.getElem?_eq_some_iff.mp hg').1
            simp at this
            omega
          rw [hj0] at hg'
          cases hg'
          have hji : j = i := by omega
          subst hji
          rw [getD_at (a0 := Kd.int) hi6] at hk'
          cases hk'
          exact hgk1
    · obtain ⟨vs, gs, hDv, hl, hvs, hgs, hgk, m7⟩ := hP
      have hgl : gs.length = ks.length := by have h := hvs.1; rw [List.length_map] at h; omega
      refine ⟨D, vs, rfl, .inl ⟨.of hDv, fun l hl' => ⟨len2, fun p hp => ?_⟩⟩⟩
      have e8 := (same_new (o := .tup vs) hl').trans (same_new (o := .tup [.str "tuple", .ref l]) hp)
      refine q _ (.tuple gs) _ ((m6.trans m7).ext e8) ?_ (.tuple (by omega) fun g hg => (hgs g hg).1) (.tuple (by omega) hgl hgk) (.tuple (fun g hg => (hgs g hg).2.mono (Nat.le_trans (base_four (.tup ks)) (Nat.le_mul_of_pos_left _ (Nat.pow_pos (by decide))))) (tup_le n (by omega) fun g hg => (hgs g hg).2.cnt))
      rw [Gn.data, gnAll_map]
      exact .t2 (.of upd_same) (.str _) ((hvs.keep (Kt.same e8)).tup (ex_t (same_new hp) (.of upd_same)))
  | lst kj =>
    have hu6 := hu5
    rw [Kd.data] at hu6
    obtain ⟨a, y0, y1, rfl, ha, h0, h1⟩ := hu6.g2
    cases h0.str_inv
    have hkj : OkK (m - 1) kj := by cases hk with | lst h => exact h
    have hnj : NeK kj := by cases hne with | lst h => exact h
    have hmj := hkj.pos
    have sj := hkj.shaped (by omega)
    refine q_when (b := false) (et_is (et_test (ev_op (ev_ixT (j := 0) (ev_var rfl) ev_c ha rfl) ev_c (rv_eq rfl))) (by decide +kernel)) (fun h => Bool.noConfusion h) (fun _ H6 e6 => ?_)
    have m6 := m5.ext e6
    -- reversed
    refine q_when (et_and (et_test (ev_op (ev_var rfl) ev_c (rv_eq rfl))) (fun _ => et_test (ev_op (ev_var rfl) ev_c rv_I0))) (fun hb H7 e7 => ?_) (fun _ H7 e7 => ?_)
    · have hn0 : (n : Int) > 0 := of_decide_eq_true (Bool.and_eq_true_iff.mp hb).2
      have en : (n : Int) - 1 = ((n - 1 : Nat) : Int) := by omega
      have m7 := m6.ext e7
      refine ⟨_, rfl, _, rfl, _, rfl, _, _, rfl, rfl, b, d, _, .lst kj, n - 1, m, (by rw [← en]; rfl), m7.2, hu5.keep (Kt.same (e6.trans e7)), hk, hne, by omega, by omega, hm4, fun v g H8 m8 hv hg hgk hcn => ⟨len1, fun p1 hp1 => ⟨len3, fun p hp => ?_⟩⟩⟩
      have e9 := (same_new (o := .tup [.str "reversed"]) hp1).trans (same_new (o := .tup [.str "turned", v, .ref p1]) hp)
      refine q _ (.turned g .reversed) _ ((m7.trans m8).ext e9) ?_ (.turned _ hg) (.turned hgk rfl) (.turned (upC (by omega) hcn) (by rw [cntG]; exact up (by omega) hcn.cnt))
      rw [Gn.data, Mp.data]
      exact .t3 (.of upd_same) (.str _) (hv.keep (Kt.same e9)) (.t1 (ex_t (same_new hp) (.of upd_same)) (.str _))
    have m7 := m6.ext e7
    -- sorted
    have in_flat : EvT (tTest (tOp (rInD K) (tOp (rIxT K) (tVar 1) (tC (.int 1))) (tLst (tCons (tC (.str "int")) (tCons (tC (.str "word")) tNil))))) [some (.ref b), some (.ref a), some (.int (n : Int)), some (.int r), none, none, none, none, none] H7 kj.isFlat := by
      refine et_test (ev_opL (xs := [.str "int", .str "word"]) (ev_ixT (j := 1) (ev_var rfl) ev_c (ex_t (e6.trans e7) ha) rfl) (el_lst (ea_cons ev_c (ea_cons ev_c ea_nil)) (by show 2 ≤ 100000; decide)) fun p Hx hp ex => fun H9 e9 Q k => ?_)
      refine ⟨kj.data, [.str "int", .str "word"], (h1.keep (Kt.same ((e6.trans e7).trans (ex.trans e9)))).dp, .lst (.of (e9 _ _ hp)) (.cons (.str _) (.cons (.str _) .nil)), sj, shaped_flat, ?_⟩
      rw [flat_in]
      exact k H9 (Ex.refl _)
    refine q_when (et_and (et_test (ev_op (ev_var rfl) ev_c (rv_eq rfl))) (fun _ => et_and (et_test (ev_op (ev_var rfl) ev_c rv_I0)) (fun _ => in_flat))) (fun hb H8 e8 => ?_) (fun _ H8 e8 => ?_)
    · have hb2 := Bool.and_eq_true_iff.mp (Bool.and_eq_true_iff.mp hb).2
      have hn0 : (n : Int) > 0 := of_decide_eq_true hb2.1
      have en : (n : Int) - 1 = ((n - 1 : Nat) : Int) := by omega
      have m8 := m7.ext e8
      refine ⟨_, rfl, _, rfl, _, rfl, _, _, rfl, rfl, b, d, _, .lst kj, n - 1, m, (by rw [← en]; rfl), m8.2, hu5.keep (Kt.same (e6.trans (e7.trans e8))), hk, hne, by omega, by omega, hm4, fun v g H9 m9 hv hg hgk hcn => ⟨len1, fun p1 hp1 => ⟨len3, fun p hp => ?_⟩⟩⟩
      have e10 := (same_new (o := .tup [.str "sorted"]) hp1).trans (same_new (o := .tup [.str "turned", v, .ref p1]) hp)
      refine q _ (.turned g .sorted) _ ((m8.trans m9).ext e10) ?_ (.turned _ hg) (.turned hgk (by show (if kj.isFlat then some (Kd.lst kj) else none) = _; rw [hb2.2]; rfl)) (.turned (upC (by omega) hcn) (by rw [cntG]; exact up (by omega) hcn.cnt))
      rw [Gn.data, Mp.data]
      exact .t3 (.of upd_same) (.str _) (hv.keep (Kt.same e10)) (.t1 (ex_t (same_new hp) (.of upd_same)) (.str _))
    have m8 := m7.ext e8
    have ha8 := ex_t (e6.trans (e7.trans e8)) ha
    -- repeat
    refine q_when (et_test (ev_op (ev_var rfl) ev_c (rv_eq rfl))) (fun _ H9 e9 => ?_) (fun _ H9 e9 => ?_)
    · have m9 := m8.ext e9
      refine ⟨_, rfl, b, d, 2, rfl, m9.2, by decide, fun x Ha x0 x1 ma => ⟨_, _, rfl, rfl, _, rfl, b, d, 2, rfl, ma.2, by decide, fun y Hb y0 y1 mb => ⟨_, _, rfl, rfl, len3, fun p1 hp1 => ?_⟩⟩⟩
      have mc := (((m9.trans ma).trans mb).new (o := .tup [.str "int", .int (x - 1), .int (1 + y)]) hp1)
      have kc : Kt K H9 (upd Hb p1 (.tup [.str "int", .int (x - 1), .int (1 + y)])) := ((ma.kt m9.2).trans (mb.kt ma.2)).trans (Kt.new hp1)
      have hac := kc _ _ (ex_t e9 ha8)
      refine ⟨_, rfl, _, rfl, a, _, 1, _, rfl, rfl, hac, rfl, b, d, _, kj, 0, m - 1, rfl, mc.2, ((h1.keep (Kt.same (e6.trans (e7.trans (e8.trans e9))))).keep kc), hkj, hnj, by omega, by omega, by omega, fun v g Hd md hv hg hgk hcn => ⟨len3, fun p hp => ?_⟩⟩
      have gOk : OkG (N + 1) (.int (x - 1) (1 + y)) := .int _ _
      refine q _ (.repeat_ (.int (x - 1) (1 + y)) g) _ ((mc.trans md).new hp) ?_ (.repeat_ gOk hg) (.repeat_ (.int (by omega) (by omega) (by omega)) hgk) (.repeat_ (.int (by rw [cntG]; refine Nat.le_trans ?_ (Nat.le_trans (base_four (.lst kj)) (Nat.le_mul_of_pos_left _ (Nat.pow_pos (by decide)))); omega)) (hcn.mono (Nat.le_trans (by rw [Nat.pow_zero, Nat.one_mul, baseK]; omega : 2 ^ 0 * baseK kj ≤ baseK (.lst kj)) (Nat.le_mul_of_pos_left _ (Nat.pow_pos (by decide))))) (by rw [cntG, baseK]; exact Nat.le_trans (powSum_le (by omega)) (base_up n (by have hcn := hcn.cnt; rw [Nat.pow_zero, Nat.one_mul] at hcn; exact hcn))))
      rw [Gn.data, Gn.data]
      exact .t3 (.of upd_same) (.str _) (.t3 ((Kt.new hp) _ _ (md.kt mc.2 _ _ (.of upd_same))) (.str _) (.int _) (.int _)) (hv.keep (Kt.new hp))
    have m9 := m8.ext e9
    have ha9 := ex_t e9 ha8
    -- list
    refine ⟨_, rfl, b, d, 2, rfl, m9.2, by decide, fun x Ha x0 x1 ma => ?_⟩
    have haa := ma.kt m9.2 _ _ ha9
    have hka := (h1.keep (Kt.same (e6.trans (e7.trans (e8.trans e9))))).keep (ma.kt m9.2)
    have emax : (if (n : Int) - 1 > 0 then (n : Int) - 1 else 0) = ((n - 1 : Nat) : Int) := by
      split <;> omega
    refine ⟨_, rfl, _, rfl, a, _, 1, _, rfl, rfl, haa, rfl, _, rfl, _, _, rfl, rfl, _, _, rfl, b, d, _, kj, n - 1, m - 1, (by rw [← emax]; rfl), ma.2, hka, hkj, hnj, by omega, by omega, by omega, fun v g Hb mb hv hg hgk hcn => ?_⟩
    refine ⟨_, rfl, _, rfl, _, rfl, _, rfl, _, _, rfl, rfl, b, d, 3 - x, rfl, mb.2, by omega, fun y Hc y0 y1 mc => ⟨_, _, rfl, rfl, len4, fun p hp => ?_⟩⟩
    refine q _ (.list g x (x + y)) _ ((((m9.trans ma).trans mb).trans mc).new hp) ?_ (.list _ _ hg) (.list hgk (by omega) (by omega) (by omega)) (.list (hcn.mono (base_lst n kj)) (by rw [cntG, baseK]; exact Nat.le_trans (powSum_le (by omega)) (two_up hn4 hcn.cnt)))
    rw [Gn.data]
    refine Vd.tup (.of upd_same) rfl fun i w e h1 h2 => ?_
    match i with
    | 0 => cases h1; cases h2; exact .str _
    | 1 => cases h1; cases h2; exact (hv.keep (mc.kt mb.2)).keep (Kt.new hp)
    | 2 => cases h1; cases h2; exact .int _
    | 3 => cases h1; cases h2; exact .int _
    | i + 4 => simp at h1
abbrev s__law_some : Stmt := topS 30
abbrev N__law_some : List Str := ["script", "k", "box", "kind"]
theorem sc__law_some : FnScope N__law_some ["script", "k"] (defScope s__law_some) := ⟨rfl, rfl, rfl, by decide +kernel, rfl, by decide +kernel, by decide +kernel⟩
theorem ok__law_some {f : Addr} {fd : FuncData} (T : Tx mg) (F : Fun K "_law_some" "_law_some" s__law_some f fd) (c__law_box : Cl P w K mg base "_law_box" ["script", "k"] 3 (spBox K)) (c__law_kind : Cl P w K mg base "_law_kind" ["box", "depth"] 4 (spLKind2 K 3))
    (c__law_gen : Cl P w K mg base "_law_gen" ["box", "kind", "depth"] 12 (spLGen K 5)) : FnOk P w K mg base CX0 13 f fd ["script", "k"] (spLSome K) := by
  refine F.ok sc__law_some (fun vs H Q E h => ?_) (fun cdv A outer s H vs Q E hr h => ?_)
  · obtain ⟨a, ns, k, rfl, _⟩ := h
    rfl
  obtain ⟨a, ns, k, rfl, ha, q⟩ := h
  refine ⟨_, (pss_cons (ps_set (i := 2) sc__law_some.nd rfl (Or.inl rfl) (pe_call c__law_box.ok (hr.mono (by omega)) (by rfl) c__law_box.m c__law_box.kp c__law_box.b .nil pass0 (pa_cons (pv 0) (pa_cons (pv 1) pa_nil))))
      (pss_cons (ps_set (i := 3) sc__law_some.nd rfl (Or.inl rfl) (pe_call c__law_kind.ok (hr.mono (by omega)) (by rfl) c__law_kind.m c__law_kind.kp c__law_kind.b .nil pass0 (pa_cons (pv 2) (pa_cons pe_int pa_nil))))
      (pss_one (ps_ret (pe_tup (pa_cons (pe_call c__law_gen.ok (hr.mono (by omega)) (by rfl) c__law_gen.m c__law_gen.kp c__law_gen.b .nil pass0 (pa_cons (pv 2) (pa_cons (pv 3) (pa_cons pe_int pa_nil)))) (pa_cons (pv 3) (pa_cons (pv 2) pa_nil)))))))), ?_⟩
  refine ⟨_, rfl, _, rfl, a, ns, k, rfl, ha, fun b d H1 e1 hb hB => ?_⟩
  refine ⟨_, rfl, b, d, 2, rfl, hB, by omega, fun u kd H2 m2 hu hk hn => ?_⟩
  refine ⟨_, rfl, _, rfl, b, d, u, kd, 2, 3, rfl, m2.2, hu, hk, hn, by omega, by omega, by omega, fun v g H3 m3 hv hg hgk hcn => ⟨_, rfl, _, rfl, len3, fun p hp => ?_⟩⟩
  have m := (m2.trans m3).new (o := .tup [v, u, .ref b]) hp
  exact q p v u b d g kd _ (same_of_mv e1 hb m) hb m.2 upd_same (hv.keep (Kt.new hp)) ((hu.keep (m3.kt m2.2)).keep (Kt.new hp)) hg hgk hk hn hcn
end
end K10
namespace K10
open PySem PySem.Spec PyProof.Rows L2 Evl CrT Cr Sm Fb
section
variable {P : Program} {w : World} {K : PySem.W.Frag} {mg : Str → Option Value} {base : Heap}
def w_law_1 (f__law_all : Fn) (f_draw : Fn) (f__law_outcome : Fn) : WS :=
      (wSeq (wAsg (wCall gTuple (wsCons (wComp (wRng1 (wsCons (wTake (wsCons (wOf (fVar 6)) (wsCons (wOf (fC (.int 7))) wsNil))) wsNil)) (gS 15) (wOp gSub (wTake (wsCons (wOf (fVar 6)) (wsCons (wOf (fC (.int 5))) wsNil))) (wOf (fC (.int 1)))) [15]) wsNil)) (gS 8))
        (wSeq (wIf (fAnd (fB (fOp gGt (fLenV 5) (fC (.int 0)))) (fB (fOp gLt (fVar 7) (fC (.int 6))))) (wSeq (wAsg (wOp gIx (wOf (fVar 5)) (wOp gMod (wOp gMul (wTake (wsCons (wOf (fVar 6)) (wsCons (wOf (fC (.int 97))) wsNil))) (wOf (fC (.int 7)))) (wOf (fLenV 5)))) (gS 8))
          (wSeq (wAsg (wTake (wsCons (wOf (fVar 6)) (wsCons (wOf (fOp gAdd (fLenV 8) (fC (.int 1)))) wsNil))) (gS 9))
          (wAsg (wOp gIx (wLst (wsCons (wOf (fVar 8)) (wsCons (wOf (fSl gSl (fVar 8) fNoPart (fPart (fVar 9)))) (wsCons (wOp gAdd (wOf (fVar 8)) (wTup (wsCons (wTake (wsCons (wOf (fVar 6)) (wsCons (wOf (fC (.int 3))) wsNil))) wsNil))) (wsCons (wOp gAdd (wOp gAdd (wOf (fSl gSl (fVar 8) fNoPart (fPart (fVar 9)))) (wTup (wsCons (wOp gSub (wTake (wsCons (wOf (fVar 6)) (wsCons (wOf (fC (.int 6))) wsNil))) (wOf (fC (.int 1)))) wsNil))) (wOf (fSl gSl (fVar 8) (fPart (fOp gAdd (fVar 9) (fC (.int 1)))) fNoPart))) wsNil))))) (wTake (wsCons (wOf (fVar 6)) (wsCons (wOf (fC (.int 4))) wsNil)))) (gS 8)))) (wSt fNext))
        (wSt (fIfS (fB (fOp gNe (fCall0 f_draw (fCons (fVar 2) (fCons (fVar 8) fNil))) (fCall0 f__law_outcome (fCons (fVar 2) (fCons (fVar 8) (fCons (fC (.int 0)) fNil)))))) (fRet (fC (.bool false))) fNext))))
def w_law (f__law_all : Fn) (f_draw : Fn) (f__law_outcome : Fn) : WS :=
      (wSeq (wSome (wsCons (wOf (fVar 0)) (wsCons (wOf (fOp gMul (fC (.int 3)) (fVar 1))) wsNil)) 2 3 4)
      (wSeq (wSt (fAsg (fV (fComp (fSeqI (fCall0 f__law_all (fCons (fVar 2) fNil))) (gT 2 (gC (gS 14) (gC (gS 8) gN))) (fun _ => some true) (fVar 8) [14, 8])) (gS 5)))
      (wSeq (wBox (wsCons (wOf (fVar 0)) (wsCons (wOf (fOp gAdd (fOp gMul (fC (.int 3)) (fVar 1)) (fC (.int 1)))) wsNil)) 6)
      (wSeq (wFor (wsOf (fRng1 (fCons (fC (.int 8)) fNil))) (gS 7) (w_law_1 f__law_all f_draw f__law_outcome))
      (wSeq (wBox (wsCons (wOf (fVar 0)) (wsCons (wOf (fOp gAdd (fOp gMul (fC (.int 3)) (fVar 1)) (fC (.int 2)))) wsNil)) 10)
      (wSeq (wAsg (wSl gSl (wCall gTuple (wsCons (wComp (wsOf (fRng1 (fCons (fC (.int 9)) fNil))) (gS 15) (wTake (wsCons (wOf (fVar 10)) (wsCons (wOf (fC (.int 4))) wsNil))) [15]) wsNil)) wNoPart (wPart (wTake (wsCons (wOf (fVar 10)) (wsCons (wOf (fC (.int 10))) wsNil))))) (gS 8))
      (wSeq (wSt (fAsg (fV (fLst (fCons (fTup (fCons (fC (.str "int")) (fCons (fC (.int 5)) (fCons (fC (.int 8)) fNil)))) (fCons (fTup (fCons (fC (.str "turned")) (fCons (fTup (fCons (fC (.str "int")) (fCons (fC (.int 0)) (fCons (fC (.int 3)) fNil)))) (fCons (fTup (fCons (fC (.str "times")) (fCons (fC (.int 2)) fNil))) fNil)))) (fCons (fTup (fCons (fC (.str "kept")) (fCons (fTup (fCons (fC (.str "int")) (fCons (fC (.int 0)) (fCons (fC (.int 2)) fNil)))) (fCons (fTup (fCons (fC (.str "atmost")) (fCons (fC (.int 1)) fNil))) fNil)))) (fCons (fTup (fCons (fC (.str "one")) (fCons (fTup (fCons (fTup (fCons (fC (.str "int")) (fCons (fC (.int 1)) (fCons (fC (.int 2)) fNil)))) (fCons (fTup (fCons (fC (.str "int")) (fCons (fC (.int 7)) (fCons (fC (.int 9)) fNil)))) fNil))) fNil))) fNil)))))) (gS 11)))
      (wSt (fFor (fSeqI (fVar 11)) (gS 12) (fSeq (fAsg (fTup (fCons (fC (.str "repeat")) (fCons (fVar 12) (fCons (fTup (fCons (fC (.str "int")) (fCons (fC (.int 0)) (fCons (fC (.int 3)) fNil)))) fNil)))) (gS 13))
        (fIfS (fB (fOp gNe (fCall0 f_draw (fCons (fVar 13) (fCons (fVar 8) fNil))) (fCall0 f__law_outcome (fCons (fVar 13) (fCons (fVar 8) (fCons (fC (.int 0)) fNil)))))) (fRet (fC (.bool false))) fNext)))))))))))
abbrev s_law : Stmt := topS 33
abbrev N_law : List Str := ["script", "k", "gen", "kind", "box", "rows", "other", "turn_v", "row", "place", "more", "firsts", "first", "wide", "value", "j"]
theorem sc_law : FnScope N_law ["script"] (defScope s_law) := ⟨rfl, rfl, rfl, by decide +kernel, rfl, by decide +kernel, by decide +kernel⟩
theorem ok_law {f : Addr} {fd : FuncData} {L : Nat} {f__law_all f_draw f__law_outcome : Fn} (T : Tx mg) (F : Fun K "law" "law" s_law f fd) (c__law_some : Cl P w K mg base "_law_some" ["script", "k"] L (spLSome K)) (c__law_all : Cl P w K mg base "_law_all" ["gen"] L (spF K A0 f__law_all)) (c__law_box : Cl P w K mg base "_law_box" ["script", "k"] L (spBox K)) (c__law_take : Cl P w K mg base "_law_take" ["box", "many"] L spTake) (c_draw : Cl P w K mg base "draw" ["generator", "row"] L (spF K A0 f_draw)) (c__law_outcome : Cl P w K mg base "_law_outcome" ["gen", "row", "at"] L (spF K A0 f__law_outcome))
    (hw : ∀ i : Nat, w_law f__law_all f_draw f__law_outcome 0 (rho0 16 (0 + (i : Int))) (QL 16)) : FnOk P w K mg base CX0 (L + 1) f fd ["script"] (spLaw K) := by
  refine F.ok sc_law (fun vs H Q E h => ?_) (fun cdv A' outer s H vs Q E hr h => ?_)
  · obtain ⟨a, ns, rfl, _⟩ := h
    rfl
  obtain ⟨a, ns, rfl, ha, h63, q⟩ := h
  refine ⟨_, (pss_cons (ps_for PassesOwn.never rfl (pi_range1 (by rfl) T.z_range (pa_cons (pe_callB (call_min2 rfl) (by rfl) T.z_min (by decide +kernel) (pa_cons pe_int (pa_cons (pe_callB (call_max2 rfl) (by rfl) T.z_max (by decide +kernel) (pa_cons pe_int (pa_cons (pe_op op_fdiv (pe_callB call_len_seq (by rfl) T.z_len PySem.boot_len (pa_cons (pv 0) pa_nil)) pe_int) pa_nil))) pa_nil))) pa_nil)) (pg_name (i := 1) sc_law.nd rfl (Or.inl rfl)) (pss_cons (ps_asg (pe_call c__law_some.ok hr (by rfl) c__law_some.m c__law_some.kp c__law_some.b .nil pass0 (pa_cons (pv 0) (pa_cons (pe_op op_mulX pe_int (pv 1)) pa_nil))) (pg_tup rfl (pgs_cons (pg_name (i := 2) sc_law.nd rfl (Or.inl rfl)) (pgs_cons (pg_name (i := 3) sc_law.nd rfl (Or.inl rfl)) (pgs_cons (pg_name (i := 4) sc_law.nd rfl (Or.inl rfl)) pgs_nil)))))
      (pss_cons (ps_setLc (i := 5) (own := [("value", 14), ("row", 8)]) (g := gTup K 2 (gCons (gName 14) (gCons (gName 8) gNil))) (by rfl) sc_law.nd rfl rfl (sw_true rfl rfl rfl (by decide +kernel)) (pi_seq (pe_call c__law_all.ok hr (by rfl) c__law_all.m c__law_all.kp c__law_all.b .nil pass0 (pa_cons (pv 2) pa_nil))) (blkOk_by (own := [("value", 14), ("row", 8)]) (N := N_law) (sc := defScope s_law) (by decide +kernel)) (fun _ _ _ _ _ => (pg_tup rfl (pgs_cons (pg_name (i := 14) sc_law.nd rfl (Or.inl rfl) (hf := Or.inr rfl)) (pgs_cons (pg_name (i := 8) sc_law.nd rfl (Or.inl rfl) (hf := Or.inr rfl)) pgs_nil)))) (fun _ _ _ _ _ => pts_nil) (fun _ _ _ _ _ => (pv 8)))
      (pss_cons (ps_set (i := 6) sc_law.nd rfl (Or.inr rfl) (pe_call c__law_box.ok hr (by rfl) c__law_box.m c__law_box.kp c__law_box.b .nil pass0 (pa_cons (pv 0) (pa_cons (pe_op (r := rAddX K) op_addX (pe_op op_mulX pe_int (pv 1)) pe_int) pa_nil))))
      (pss_cons (ps_for PassesOwn.never rfl (pi_range1 (by rfl) T.z_range (pa_cons pe_int pa_nil)) (pg_name (i := 7) sc_law.nd rfl (Or.inl rfl)) (pss_cons (ps_set (i := 8) sc_law.nd rfl (Or.inl rfl) (pe_callTy (r := rTupO K) cr_tupO (by rfl) T.z_tuple (by decide +kernel) (pa_cons (pe_lc (own := [("j", 15)]) (g := gName 15) (by rfl) sc_law.nd (pi_range1 (by rfl) T.z_range (pa_cons (pe_call c__law_take.ok hr (by rfl) c__law_take.m c__law_take.kp c__law_take.b .nil pass0 (pa_cons (pv 6) (pa_cons pe_int pa_nil))) pa_nil)) (blkOk_by (own := [("j", 15)]) (N := N_law) (sc := defScope s_law) (by decide +kernel)) (fun _ _ _ _ _ => (pg_name (i := 15) sc_law.nd rfl (Or.inl rfl))) (fun _ _ _ _ _ => pts_nil) (fun _ _ _ _ _ => (pe_op op_sub (pe_call c__law_take.ok hr (by rfl) c__law_take.m c__law_take.kp c__law_take.b .nil pass0 (pa_cons (pv 6) (pa_cons pe_int pa_nil))) pe_int))) pa_nil)))
        (pss_cons (ps_if (PW.pt (pw_and (pt_cmpR op_gt (pe_callB (r := rLenX K) cr_lenX (by rfl) T.z_len PySem.boot_len (pa_cons (pv 5) pa_nil)) pe_int (nomark _)) (pw_and1 (pt_cmpR op_lt (pv 7) pe_int (nomark _))))) (pss_cons (ps_set (i := 8) sc_law.nd rfl (Or.inl rfl) (pe_ix (r := rIx K) ix_seq (pv 5) (pe_op op_mod (pe_op op_mulX (pe_call c__law_take.ok hr (by rfl) c__law_take.m c__law_take.kp c__law_take.b .nil pass0 (pa_cons (pv 6) (pa_cons pe_int pa_nil))) pe_int) (pe_callB (r := rLenX K) cr_lenX (by rfl) T.z_len PySem.boot_len (pa_cons (pv 5) pa_nil))) (fun _ _ => rfl)))
          (pss_cons (ps_set (i := 9) sc_law.nd rfl (Or.inl rfl) (pe_call c__law_take.ok hr (by rfl) c__law_take.m c__law_take.kp c__law_take.b .nil pass0 (pa_cons (pv 6) (pa_cons (pe_op (r := rAddX K) op_addX (pe_callB (r := rLenX K) cr_lenX (by rfl) T.z_len PySem.boot_len (pa_cons (pv 8) pa_nil)) pe_int) pa_nil))))
          (pss_one (ps_set (i := 8) sc_law.nd rfl (Or.inl rfl) (pe_ix (r := rIx K) ix_seq (pe_lst (pa_cons (pv 8) (pa_cons (pe_slice (r := rSlX K) sl_X (pv 8) po_none (po_some (pv 9))) (pa_cons (pe_op (r := rAddX K) op_addX (pv 8) (pe_tup (pa_cons (pe_call c__law_take.ok hr (by rfl) c__law_take.m c__law_take.kp c__law_take.b .nil pass0 (pa_cons (pv 6) (pa_cons pe_int pa_nil))) pa_nil))) (pa_cons (pe_op (r := rAddX K) op_addX (pe_op (r := rAddX K) op_addX (pe_slice (r := rSlX K) sl_X (pv 8) po_none (po_some (pv 9))) (pe_tup (pa_cons (pe_op op_sub (pe_call c__law_take.ok hr (by rfl) c__law_take.m c__law_take.kp c__law_take.b .nil pass0 (pa_cons (pv 6) (pa_cons pe_int pa_nil))) pe_int) pa_nil))) (pe_slice (r := rSlX K) sl_X (pv 8) (po_some (pe_op (r := rAddX K) op_addX (pv 9) pe_int)) po_none)) pa_nil))))) (pe_call c__law_take.ok hr (by rfl) c__law_take.m c__law_take.kp c__law_take.b .nil pass0 (pa_cons (pv 6) (pa_cons pe_int pa_nil))) (fun _ _ => rfl)))))) pss_nil)
        (pss_one (ps_if (pt_cmpR (r := rNeX K) (op_neX hr.units) (pe_call c_draw.ok hr (by rfl) c_draw.m c_draw.kp c_draw.b .nil pass0 (pa_cons (pv 2) (pa_cons (pv 8) pa_nil))) (pe_call c__law_outcome.ok hr (by rfl) c__law_outcome.m c__law_outcome.kp c__law_outcome.b .nil pass0 (pa_cons (pv 2) (pa_cons (pv 8) (pa_cons pe_int pa_nil)))) (nomark _)) (pss_one (ps_ret pe_bl)) pss_nil)))))
      (pss_cons (ps_set (i := 10) sc_law.nd rfl (Or.inr rfl) (pe_call c__law_box.ok hr (by rfl) c__law_box.m c__law_box.kp c__law_box.b .nil pass0 (pa_cons (pv 0) (pa_cons (pe_op (r := rAddX K) op_addX (pe_op op_mulX pe_int (pv 1)) pe_int) pa_nil))))
      (pss_cons (ps_set (i := 8) sc_law.nd rfl (Or.inl rfl) (pe_slice (r := rSlX K) sl_X (pe_callTy (r := rTupO K) cr_tupO (by rfl) T.z_tuple (by decide +kernel) (pa_cons (pe_lc (own := [("j", 15)]) (g := gName 15) (by rfl) sc_law.nd (pi_range1 (by rfl) T.z_range (pa_cons pe_int pa_nil)) (blkOk_by (own := [("j", 15)]) (N := N_law) (sc := defScope s_law) (by decide +kernel)) (fun _ _ _ _ _ => (pg_name (i := 15) sc_law.nd rfl (Or.inl rfl))) (fun _ _ _ _ _ => pts_nil) (fun _ _ _ _ _ => (pe_call c__law_take.ok hr (by rfl) c__law_take.m c__law_take.kp c__law_take.b .nil pass0 (pa_cons (pv 10) (pa_cons pe_int pa_nil))))) pa_nil)) po_none (po_some (pe_call c__law_take.ok hr (by rfl) c__law_take.m c__law_take.kp c__law_take.b .nil pass0 (pa_cons (pv 10) (pa_cons pe_int pa_nil))))))
      (pss_cons (ps_set (i := 11) sc_law.nd rfl (Or.inl rfl) (pe_lst (pa_cons (pe_tup (pa_cons pe_str (pa_cons pe_int (pa_cons pe_int pa_nil)))) (pa_cons (pe_tup (pa_cons pe_str (pa_cons (pe_tup (pa_cons pe_str (pa_cons pe_int (pa_cons pe_int pa_nil)))) (pa_cons (pe_tup (pa_cons pe_str (pa_cons pe_int pa_nil))) pa_nil)))) (pa_cons (pe_tup (pa_cons pe_str (pa_cons (pe_tup (pa_cons pe_str (pa_cons pe_int (pa_cons pe_int pa_nil)))) (pa_cons (pe_tup (pa_cons pe_str (pa_cons pe_int pa_nil))) pa_nil)))) (pa_cons (pe_tup (pa_cons pe_str (pa_cons (pe_tup (pa_cons (pe_tup (pa_cons pe_str (pa_cons pe_int (pa_cons pe_int pa_nil)))) (pa_cons (pe_tup (pa_cons pe_str (pa_cons pe_int (pa_cons pe_int pa_nil)))) pa_nil))) pa_nil))) pa_nil))))))
      (pss_one (ps_for PassesOwn.never rfl (pi_seq (pv 11)) (pg_name (i := 12) sc_law.nd rfl (Or.inl rfl)) (pss_cons (ps_set (i := 13) sc_law.nd rfl (Or.inl rfl) (pe_tup (pa_cons pe_str (pa_cons (pv 12) (pa_cons (pe_tup (pa_cons pe_str (pa_cons pe_int (pa_cons pe_int pa_nil)))) pa_nil)))))
        (pss_one (ps_if (pt_cmpR (r := rNeX K) (op_neX hr.units) (pe_call c_draw.ok hr (by rfl) c_draw.m c_draw.kp c_draw.b .nil pass0 (pa_cons (pv 13) (pa_cons (pv 8) pa_nil))) (pe_call c__law_outcome.ok hr (by rfl) c__law_outcome.m c__law_outcome.kp c__law_outcome.b .nil pass0 (pa_cons (pv 13) (pa_cons (pv 8) (pa_cons pe_int pa_nil)))) (nomark _)) (pss_one (ps_ret pe_bl)) pss_nil)))))))))))))
      (pss_one (ps_ret pe_bl))), ?_⟩
  refine ⟨_, rfl, a, _, rfl, .inl ha, _, _, rfl, rfl, ⟨by decide, by decide⟩, _, _, rfl, _, _, rfl, _, rfl, ?_, ?_, for_range (lo := 0) (fun i σ' H' => LInv K a ns 16 σ' H') ⟨rfl, rfl, ha⟩ (fun i σ' H' hi hP => ?_) (fun σ' H' hP => ?_)⟩
  · omega
  · rw [List.length_map]
    omega
  case refine_4 => exact q _
  refine law_step (wb := w_law f__law_all f_draw f__law_outcome) ?_ hP (by decide) (hw i) (fun _ _ h => h) (fun _ _ h => h)
  exact (ssw_seq (ssw_some (sws_cons (sw_of fun A => (se_var 0)) (sws_cons (sw_of fun A => (se_op se_int (se_var 1) rd_mul)) sws_nil)))
      (ssw_seq (ssw_of fun A => (ss_asg (se_l (sl_lc (vs := [14, 8]) (si_seq (se_call0 (sa_cons (se_var 2) sa_nil))) (sg_tup 2 (sgs_cons (sg_name 14) (sgs_cons (sg_name 8) sgs_nil))) (by decide) st_yes (se_var 8))) (sg_name 5)))
      (ssw_seq (ssw_box (sws_cons (sw_of fun A => (se_var 0)) (sws_cons (sw_of fun A => (se_op (se_op se_int (se_var 1) rd_mul) se_int rd_add)) sws_nil)))
      (ssw_seq (ssw_for (w1 := (w_law_1 f__law_all f_draw f__law_outcome)) (siw_of fun A => (si_rng1 (sa_cons se_int sa_nil))) (fun A => (sg_name 7)) (ssw_seq (ssw_asg (sw_cb (sws_cons (sw_lc (vs := [15]) (siw_rng1 (sws_cons (sw_take (sws_cons (sw_of fun A => (se_var 6)) (sws_cons (sw_of fun A => se_int) sws_nil))) sws_nil)) (fun A => (sg_name 15)) (by decide) (sw_op (sw_take (sws_cons (sw_of fun A => (se_var 6)) (sws_cons (sw_of fun A => se_int) sws_nil))) (sw_of fun A => se_int) fun A => rd_sub)) sws_nil) fun A => rc_tuple) fun A => sg_name 8)
        (ssw_seq (ssw_if (fun A => (st_and (st_test (se_op (se_lenV 5) se_int rd_gt)) (st_test (se_op (se_var 7) se_int rd_lt)))) (ssw_seq (ssw_asg (sw_op (sw_of fun A => (se_var 5)) (sw_op (sw_op (sw_take (sws_cons (sw_of fun A => (se_var 6)) (sws_cons (sw_of fun A => se_int) sws_nil))) (sw_of fun A => se_int) fun A => rd_mul) (sw_of fun A => (se_lenV 5)) fun A => rd_mod) fun A => rd_ix) fun A => sg_name 8)
          (ssw_seq (ssw_asg (sw_take (sws_cons (sw_of fun A => (se_var 6)) (sws_cons (sw_of fun A => (se_op (se_lenV 8) se_int rd_add)) sws_nil))) fun A => sg_name 9)
          (ssw_asg (sw_op (sw_lst (sws_cons (sw_of fun A => (se_var 8)) (sws_cons (sw_of fun A => (se_sl (se_var 8) so_none (so_some (se_var 9)) rs_sl)) (sws_cons (sw_op (sw_of fun A => (se_var 8)) (sw_tup (sws_cons (sw_take (sws_cons (sw_of fun A => (se_var 6)) (sws_cons (sw_of fun A => se_int) sws_nil))) sws_nil)) fun A => rd_add) (sws_cons (sw_op (sw_op (sw_of fun A => (se_sl (se_var 8) so_none (so_some (se_var 9)) rs_sl)) (sw_tup (sws_cons (sw_op (sw_take (sws_cons (sw_of fun A => (se_var 6)) (sws_cons (sw_of fun A => se_int) sws_nil))) (sw_of fun A => se_int) fun A => rd_sub) sws_nil)) fun A => rd_add) (sw_of fun A => (se_sl (se_var 8) (so_some (se_op (se_var 9) se_int rd_add)) so_none rs_sl)) fun A => rd_add) sws_nil))))) (sw_take (sws_cons (sw_of fun A => (se_var 6)) (sws_cons (sw_of fun A => se_int) sws_nil))) fun A => rd_ix) fun A => sg_name 8))) (ssw_of fun A => ss_next))
        (ssw_of fun A => (ss_if (st_test (se_op (se_call0 (sa_cons (se_var 2) (sa_cons (se_var 8) sa_nil))) (se_call0 (sa_cons (se_var 2) (sa_cons (se_var 8) (sa_cons se_int sa_nil)))) rd_ne)) (ss_ret se_bl) ss_next)))))
      (ssw_seq (ssw_box (sws_cons (sw_of fun A => (se_var 0)) (sws_cons (sw_of fun A => (se_op (se_op se_int (se_var 1) rd_mul) se_int rd_add)) sws_nil)))
      (ssw_seq (ssw_asg (sw_sl (sw_cb (sws_cons (sw_lc (vs := [15]) (siw_of fun A => (si_rng1 (sa_cons se_int sa_nil))) (fun A => (sg_name 15)) (by decide) (sw_take (sws_cons (sw_of fun A => (se_var 10)) (sws_cons (sw_of fun A => se_int) sws_nil)))) sws_nil) fun A => rc_tuple) sow_none (sow_some (sw_take (sws_cons (sw_of fun A => (se_var 10)) (sws_cons (sw_of fun A => se_int) sws_nil)))) fun A => rs_sl) fun A => sg_name 8)
      (ssw_seq (ssw_of fun A => (ss_asg (se_l (sl_lst (sa_cons (se_tup (sa_cons se_str (sa_cons se_int (sa_cons se_int sa_nil)))) (sa_cons (se_tup (sa_cons se_str (sa_cons (se_tup (sa_cons se_str (sa_cons se_int (sa_cons se_int sa_nil)))) (sa_cons (se_tup (sa_cons se_str (sa_cons se_int sa_nil))) sa_nil)))) (sa_cons (se_tup (sa_cons se_str (sa_cons (se_tup (sa_cons se_str (sa_cons se_int (sa_cons se_int sa_nil)))) (sa_cons (se_tup (sa_cons se_str (sa_cons se_int sa_nil))) sa_nil)))) (sa_cons (se_tup (sa_cons se_str (sa_cons (se_tup (sa_cons (se_tup (sa_cons se_str (sa_cons se_int (sa_cons se_int sa_nil)))) (sa_cons (se_tup (sa_cons se_str (sa_cons se_int (sa_cons se_int sa_nil)))) sa_nil))) sa_nil))) sa_nil)))))) (sg_name 11)))
      (ssw_of fun A => (ss_for (si_seq (se_var 11)) (sg_name 12) (ss_seq (ss_asg (se_tup (sa_cons se_str (sa_cons (se_var 12) (sa_cons (se_tup (sa_cons se_str (sa_cons se_int (sa_cons se_int sa_nil)))) sa_nil)))) (sg_name 13))
        (ss_if (st_test (se_op (se_call0 (sa_cons (se_var 13) (sa_cons (se_var 8) sa_nil))) (se_call0 (sa_cons (se_var 13) (sa_cons (se_var 8) (sa_cons se_int sa_nil)))) rd_ne)) (ss_ret se_bl) ss_next)))))))))))
end
end K10
namespace K10
open PySem PySem.Spec PyProof.Rows L2 Evl CrT Cr Sm Fb
theorem wlist_ints {g : PyData → List Sl → Option (List Sl)} {we : WE} {ρ : List Sl} : ∀ (ds : List PyData) (Q : List PyData → Prop), (∀ d ∈ ds, ∃ ρ1, g d ρ = some ρ1 ∧ ∀ P : PyData → Prop, (∀ i : Int, P (.int i)) → we ρ1 P) → (∀ l : List Int, l.length = ds.length → Q (l.map PyData.int)) → wList g we ρ ds Q
  | [], Q, _, hQ => hQ [] rfl
  | d :: ds, Q, h, hQ => by
    obtain ⟨ρ1, h1, h2⟩ := h d List.mem_cons_self
    exact ⟨ρ1, h1, h2 _ fun i => wlist_ints ds _ (fun d' h' => h d' (List.mem_cons_of_mem _ h')) fun l hl => hQ (i :: l) (by rw [List.length_cons, List.length_cons, hl])⟩
theorem rng_len (lo : Int) (n : Nat) : (rngD lo n).length = n := by
  unfold rngD
  rw [List.length_map, List.length_range]
theorem cut_map {α β : Type} (f : α → β) (l : List α) (lo hi : Option Int) : Sm.cutD (l.map f) lo hi = (Sm.cutD l lo hi).map f := by
  unfold Sm.cutD
  rw [List.length_map, List.map_take, List.map_drop]
theorem cut_len {α : Type} (l : List α) (lo hi : Option Int) : (Sm.cutD l lo hi).length ≤ l.length := by
  unfold Sm.cutD
  rw [List.length_take, List.length_drop]
  omega
theorem sl_row (l : List Int) (lo hi : Option Int) : gSl (rowD l) lo hi = some (rowD (Sm.cutD l lo hi)) := by
  show some (PyData.tuple (Sm.cutD (l.map PyData.int) lo hi)) = _
  rw [cut_map]
  rfl
theorem add_row (l m : List Int) (h : l.length + m.length ≤ 10000000) : gAdd (rowD l) (rowD m) = some (rowD (l ++ m)) := by
  show lim ((l.map PyData.int).length + (m.map PyData.int).length) (PyData.tuple (l.map PyData.int ++ m.map PyData.int)) = _
  rw [List.length_map, List.length_map, ← List.map_append]
  exact if_pos h
theorem turn1 {g : Gn} {kd : Kd} {S I KD z8 z9 : Sl} {n : Nat} {j : Int} (ho : OkGk 10 6 g) (hk : GenK g kd) (hlen : ∀ p ∈ rowsOf g, p.2.length ≤ 300000) (hcnt : (rowsOf g).length ≤ 1000000) {R : Fl → Nat → List Sl → Prop} (hz : noOwn [z9] = true) (hR : ∀ l z9, noOwn [z9] = true → R .nx n [S, I, .val g.data, KD, .val (.dict (tagB 0)), .val (.list ((rowsOf g).map fun p => rowD p.2)), .val (.dict (tagB 1)), .val (.int j), .val (rowD l), z9, .un, .un, .un, .un, .un, .un]) :
    w_law_1 D_all10 D_draw10 D_lout n [S, I, .val g.data, KD, .val (.dict (tagB 0)), .val (.list ((rowsOf g).map fun p => rowD p.2)), .val (.dict (tagB 1)), .val (.int j), z8, z9, .un, .un, .un, .un, .un, .un] R := by
  have chk : ∀ (l : List Int) (z9 : Sl), l.length ≤ 1000000 → noOwn [z9] = true → wSt (fIfS (fB (fOp gNe (fCall0 D_draw10 (fCons (fVar 2) (fCons (fVar 8) fNil))) (fCall0 D_lout (fCons (fVar 2) (fCons (fVar 8) (fCons (fC (.int 0)) fNil)))))) (fRet (fC (.bool false))) fNext) n [S, I, .val g.data, KD, .val (.dict (tagB 0)), .val (.list ((rowsOf g).map fun p => rowD p.2)), .val (.dict (tagB 1)), .val (.int j), .val (rowD l), z9, .un, .un, .un, .un, .un, .un] R := fun l z9 hl hz => by
    have h1 := m_draw10 (row := l) ho hk
    have h2 := m_lout ho hk hl
    have h3 := ne_out (row := l) ho hk
    have n1 : noAs [g.data, rowD l] = true := by
      simp only [noAs, noA_flat _ (flat_gn ho), noA_flat _ (flat_row l), Bool.and_self]
    have n2 : noAs [g.data, rowD l, .int 0] = true := by
      simp only [noAs, noA, noA_flat _ (flat_gn ho), noA_flat _ (flat_row l), Bool.and_self]
    simp only [wSeq, wSome, wBox, wSt, wIf, wAsg, wOf, wsOf, wsNil, wsCons, wOp, wTup, wLst, wCall, wCall0, wTake, wComp, wRng1, wFor, wSl, wNoPart, wPart, noOwn, Option.some.injEq, exists_eq_left', true_and, and_true, fCall0, List.set_cons_zero, List.set_cons_succ, and_self, fSeq, fIfS, fRet, fAsg, fOwn, fApp, fExt, fBrk, fCnt, fDrop, fFrz, frz, fNext, fFor, fB, fAnd, fOr, fNot, fAndV, fOrV, fNotV, fIf, fChain, fOp, fUn, fVar, fC, fTup, fLst, fV, fCons, fNil, fCall, fCallL, fLenV, fSl, fPart, fNoPart, fStar, fAug, gS, gT, gN, gC, fSeqI, run_1, run_2, run_3, run_4, ix0, ix1, ix2, ix3, then_nx, then_rt, then_bk, then_ct, turn_nx, turn_ct, turn_bk, turn_rt, res_rt, asB_b, gIx_t, gIx_l, gAdd_i, gSub_i, gLt_i, gLe_i, gGt_i, gGe_i, eq_i, eq_s, ne_i, ne_s, gLen_t, gLen_l, gTup_l, gTup_t, strEq, Option.bind_some, List.getElem?_cons_zero, List.getElem?_cons_succ, List.set_cons_zero, List.set_cons_succ, List.replicate_succ, List.replicate_zero, Nat.reduceSub, Nat.reduceAdd, if_true, if_false, decide_true, decide_false, Bool.not_true, Bool.not_false, Bool.false_eq_true, String.reduceEq, reduceIte, List.length_cons, List.length_nil, Nat.reduceLeDiff, lim, n1, n2, h1, h2, h3]
    exact hR _ _ hz
  simp only [w_law_1, wSeq, wAsg, wCall, wComp, wRng1, wTake, wOf, wsCons, wsNil, fSeq, fIfS, fRet, fAsg, fOwn, fApp, fExt, fBrk, fCnt, fDrop, fFrz, frz, fNext, fFor, fB, fAnd, fOr, fNot, fAndV, fOrV, fNotV, fIf, fChain, fOp, fUn, fVar, fC, fTup, fLst, fV, fCons, fNil, fCall, fCallL, fLenV, fSl, fPart, fNoPart, fStar, fAug, gS, gT, gN, gC, fSeqI, run_1, run_2, run_3, run_4, ix0, ix1, ix2, ix3, then_nx, then_rt, then_bk, then_ct, turn_nx, turn_ct, turn_bk, turn_rt, res_rt, asB_b, gIx_t, gIx_l, gAdd_i, gSub_i, gLt_i, gLe_i, gGt_i, gGe_i, eq_i, eq_s, ne_i, ne_s, gLen_t, gLen_l, gTup_l, gTup_t, strEq, Option.bind_some, List.getElem?_cons_zero, List.getElem?_cons_succ, List.set_cons_zero, List.set_cons_succ, List.replicate_succ, List.replicate_zero, Nat.reduceSub, Nat.reduceAdd, if_true, if_false, decide_true, decide_false, Bool.not_true, Bool.not_false, Bool.false_eq_true, String.reduceEq, reduceIte, List.length_cons, List.length_nil, Nat.reduceLeDiff, lim, Option.some.injEq, exists_eq_left']
  refine ⟨1, 7, rfl, by decide, fun r r0 r7 => ⟨r, rfl, by omega, by omega, by rw [rng_len]; omega, wlist_ints _ _ (fun d hd => ⟨_, rfl, fun P hP => ?_⟩) fun l hl => ?_⟩⟩
  · unfold rngD at hd
    obtain ⟨x, _, rfl⟩ := List.mem_map.mp hd
    simp only [wTake, wOf, wOp, wsCons, wsNil, Sm.wpS, fSeq, fIfS, fRet, fAsg, fOwn, fApp, fExt, fBrk, fCnt, fDrop, fFrz, frz, fNext, fFor, fB, fAnd, fOr, fNot, fAndV, fOrV, fNotV, fIf, fChain, fOp, fUn, fVar, fC, fTup, fLst, fV, fCons, fNil, fCall, fCallL, fLenV, fSl, fPart, fNoPart, fStar, fAug, gS, gT, gN, gC, fSeqI, run_1, run_2, run_3, run_4, ix0, ix1, ix2, ix3, then_nx, then_rt, then_bk, then_ct, turn_nx, turn_ct, turn_bk, turn_rt, res_rt, asB_b, gIx_t, gIx_l, gAdd_i, gSub_i, gLt_i, gLe_i, gGt_i, gGe_i, eq_i, eq_s, ne_i, ne_s, gLen_t, gLen_l, gTup_l, gTup_t, strEq, Option.bind_some, List.getElem?_cons_zero, List.getElem?_cons_succ, List.set_cons_zero, List.set_cons_succ, List.replicate_succ, List.replicate_zero, Nat.reduceSub, Nat.reduceAdd, if_true, if_false, decide_true, decide_false, Bool.not_true, Bool.not_false, Bool.false_eq_true, String.reduceEq, reduceIte, List.length_cons, List.length_nil, Nat.reduceLeDiff, lim, Option.some.injEq, exists_eq_left']
    exact ⟨1, 5, rfl, by decide, fun r _ _ => hP _⟩
  · rw [rng_len] at hl
    by_cases hc : 0 < ((rowsOf g).length : Int) ∧ j < 6
    · obtain ⟨h1, h2⟩ := hc
      simp only [wIf, wSeq, wAsg, wOp, wTake, wOf, wsCons, wsNil, fSeq, fIfS, fRet, fAsg, fOwn, fApp, fExt, fBrk, fCnt, fDrop, fFrz, frz, fNext, fFor, fB, fAnd, fOr, fNot, fAndV, fOrV, fNotV, fIf, fChain, fOp, fUn, fVar, fC, fTup, fLst, fV, fCons, fNil, fCall, fCallL, fLenV, fSl, fPart, fNoPart, fStar, fAug, gS, gT, gN, gC, fSeqI, run_1, run_2, run_3, run_4, ix0, ix1, ix2, ix3, then_nx, then_rt, then_bk, then_ct, turn_nx, turn_ct, turn_bk, turn_rt, res_rt, asB_b, gIx_t, gIx_l, gAdd_i, gSub_i, gLt_i, gLe_i, gGt_i, gGe_i, eq_i, eq_s, ne_i, ne_s, gLen_t, gLen_l, gTup_l, gTup_t, strEq, Option.bind_some, List.getElem?_cons_zero, List.getElem?_cons_succ, List.set_cons_zero, List.set_cons_succ, List.replicate_succ, List.replicate_zero, Nat.reduceSub, Nat.reduceAdd, if_true, if_false, decide_true, decide_false, Bool.not_true, Bool.not_false, Bool.false_eq_true, String.reduceEq, reduceIte, List.length_cons, List.length_nil, Nat.reduceLeDiff, lim, Option.some.injEq, exists_eq_left', List.length_map, h1, h2]
      refine ⟨1, 97, rfl, by decide, fun r2 r20 r21 => ?_⟩
      have hm7 : gMul (.int r2) (.int 7) = some (.int (r2 * 7)) := if_pos (.inl (.inr (by decide)))
      have hmd : gMod (.int (r2 * 7)) (.int ((rowsOf g).length : Int)) = some (.int (r2 * 7 % ((rowsOf g).length : Int))) := if_pos h1
      have hi0 : 0 ≤ r2 * 7 % ((rowsOf g).length : Int) := Int.emod_nonneg _ (by omega)
      have hi1 : r2 * 7 % ((rowsOf g).length : Int) < (rowsOf g).length := Int.emod_lt_of_pos _ h1
      obtain ⟨ix, hix⟩ := Int.eq_ofNat_of_zero_le hi0
      have hixl : ix < (rowsOf g).length := by omega
      have hgi : gIx (.list ((rowsOf g).map fun p => rowD p.2)) (.int (r2 * 7 % ((rowsOf g).length : Int))) = some (rowD (rowsOf g)[ix].2) := by
        rw [hix, gIx_l]
        exact atI_nat (by rw [List.getElem?_map, List.getElem?_eq_getElem hixl]; rfl)
      have hpl := hlen _ (List.getElem_mem hixl)
      generalize (rowsOf g)[ix].2 = row at hgi hpl
      refine ⟨_, hm7, _, hmd, _, hgi, ?_⟩
      have hgl : gLen [rowD row] = some (.int (row.length : Int)) := by
        show some (PyData.int ((row.map PyData.int).length : Int)) = _
        rw [List.length_map]
      simp only [hgl, Option.bind_some, gAdd_i, Option.some.injEq, exists_eq_left']
      refine ⟨1, row.length + 1, rfl, by omega, fun pl p0 p1 => ?_⟩
      simp only [wLst, wOp, wTup, wTake, wOf, wsCons, wsNil, fSeq, fIfS, fRet, fAsg, fOwn, fApp, fExt, fBrk, fCnt, fDrop, fFrz, frz, fNext, fFor, fB, fAnd, fOr, fNot, fAndV, fOrV, fNotV, fIf, fChain, fOp, fUn, fVar, fC, fTup, fLst, fV, fCons, fNil, fCall, fCallL, fLenV, fSl, fPart, fNoPart, fStar, fAug, gS, gT, gN, gC, fSeqI, run_1, run_2, run_3, run_4, ix0, ix1, ix2, ix3, then_nx, then_rt, then_bk, then_ct, turn_nx, turn_ct, turn_bk, turn_rt, res_rt, asB_b, gIx_t, gIx_l, gAdd_i, gSub_i, gLt_i, gLe_i, gGt_i, gGe_i, eq_i, eq_s, ne_i, ne_s, gLen_t, gLen_l, gTup_l, gTup_t, strEq, Option.bind_some, List.getElem?_cons_zero, List.getElem?_cons_succ, List.set_cons_zero, List.set_cons_succ, List.replicate_succ, List.replicate_zero, Nat.reduceSub, Nat.reduceAdd, if_true, if_false, decide_true, decide_false, Bool.not_true, Bool.not_false, Bool.false_eq_true, String.reduceEq, reduceIte, List.length_cons, List.length_nil, Nat.reduceLeDiff, lim, sl_row, Option.some.injEq, exists_eq_left']
      have c1 := cut_len row none (some pl)
      have c2 := cut_len row (some (pl + 1)) none
      refine ⟨1, 3, rfl, by decide, fun r3 _ _ => ⟨by decide, _, add_row row [r3] (by rw [List.length_singleton]; omega), 1, 6, rfl, by decide, fun r6 _ _ => ⟨trivial, _, add_row _ [r6 - 1] (by rw [List.length_singleton]; omega), _, add_row _ _ (by rw [List.length_append, List.length_singleton]; omega), trivial, 1, 4, rfl, by decide, fun r4 r40 r41 => ?_⟩⟩⟩
      rcases (by omega : r4 = 0 ∨ r4 = 1 ∨ r4 = 2 ∨ r4 = 3) with rfl | rfl | rfl | rfl
      · exact ⟨_, ix0, chk _ _ (by omega) rfl⟩
      · exact ⟨_, ix1, chk _ _ (by omega) rfl⟩
      · exact ⟨_, ix2, chk _ _ (by rw [List.length_append, List.length_singleton]; omega) rfl⟩
      · exact ⟨_, ix3, chk _ _ (by rw [List.length_append, List.length_append, List.length_singleton]; omega) rfl⟩
    · by_cases h1 : 0 < ((rowsOf g).length : Int)
      · have h2 : ¬ j < 6 := fun h => hc ⟨h1, h⟩
        simp only [wIf, wSt, fSeq, fIfS, fRet, fAsg, fOwn, fApp, fExt, fBrk, fCnt, fDrop, fFrz, frz, fNext, fFor, fB, fAnd, fOr, fNot, fAndV, fOrV, fNotV, fIf, fChain, fOp, fUn, fVar, fC, fTup, fLst, fV, fCons, fNil, fCall, fCallL, fLenV, fSl, fPart, fNoPart, fStar, fAug, gS, gT, gN, gC, fSeqI, run_1, run_2, run_3, run_4, ix0, ix1, ix2, ix3, then_nx, then_rt, then_bk, then_ct, turn_nx, turn_ct, turn_bk, turn_rt, res_rt, asB_b, gIx_t, gIx_l, gAdd_i, gSub_i, gLt_i, gLe_i, gGt_i, gGe_i, eq_i, eq_s, ne_i, ne_s, gLen_t, gLen_l, gTup_l, gTup_t, strEq, Option.bind_some, List.getElem?_cons_zero, List.getElem?_cons_succ, List.set_cons_zero, List.set_cons_succ, List.replicate_succ, List.replicate_zero, Nat.reduceSub, Nat.reduceAdd, if_true, if_false, decide_true, decide_false, Bool.not_true, Bool.not_false, Bool.false_eq_true, String.reduceEq, reduceIte, List.length_cons, List.length_nil, Nat.reduceLeDiff, lim, Option.some.injEq, exists_eq_left', List.length_map, h1, h2]
        exact chk l _ (by omega) hz
      · simp only [wIf, wSt, fSeq, fIfS, fRet, fAsg, fOwn, fApp, fExt, fBrk, fCnt, fDrop, fFrz, frz, fNext, fFor, fB, fAnd, fOr, fNot, fAndV, fOrV, fNotV, fIf, fChain, fOp, fUn, fVar, fC, fTup, fLst, fV, fCons, fNil, fCall, fCallL, fLenV, fSl, fPart, fNoPart, fStar, fAug, gS, gT, gN, gC, fSeqI, run_1, run_2, run_3, run_4, ix0, ix1, ix2, ix3, then_nx, then_rt, then_bk, then_ct, turn_nx, turn_ct, turn_bk, turn_rt, res_rt, asB_b, gIx_t, gIx_l, gAdd_i, gSub_i, gLt_i, gLe_i, gGt_i, gGe_i, eq_i, eq_s, ne_i, ne_s, gLen_t, gLen_l, gTup_l, gTup_t, strEq, Option.bind_some, List.getElem?_cons_zero, List.getElem?_cons_succ, List.set_cons_zero, List.set_cons_succ, List.replicate_succ, List.replicate_zero, Nat.reduceSub, Nat.reduceAdd, if_true, if_false, decide_true, decide_false, Bool.not_true, Bool.not_false, Bool.false_eq_true, String.reduceEq, reduceIte, List.length_cons, List.length_nil, Nat.reduceLeDiff, lim, Option.some.injEq, exists_eq_left', List.length_map, h1]
        exact chk l _ (by omega) hz
theorem loop1 {g : Gn} {kd : Kd} {S I KD : Sl} {n : Nat} (ho : OkGk 10 6 g) (hk : GenK g kd) (hlen : ∀ p ∈ rowsOf g, p.2.length ≤ 300000) (hcnt : (rowsOf g).length ≤ 1000000) : ∀ (ts : List PyData) (z7 z8 z9 : Sl), noOwn [z7, z8, z9] = true → noOwn [z9] = true → (∀ t ∈ ts, ∃ j, t = .int j) → ∀ Q : Fl → Nat → List Sl → Prop, (∀ z7 z8 z9, noOwn [z7, z8, z9] = true → Q .nx n [S, I, .val g.data, KD, .val (.dict (tagB 0)), .val (.list ((rowsOf g).map fun p => rowD p.2)), .val (.dict (tagB 1)), z7, z8, z9, .un, .un, .un, .un, .un, .un]) →
    wLoop (gS 7) (w_law_1 D_all10 D_draw10 D_lout) ts n [S, I, .val g.data, KD, .val (.dict (tagB 0)), .val (.list ((rowsOf g).map fun p => rowD p.2)), .val (.dict (tagB 1)), z7, z8, z9, .un, .un, .un, .un, .un, .un] Q
  | [], z7, z8, z9, hz, _, _, Q, hQ => hQ z7 z8 z9 hz
  | t :: ts, z7, z8, z9, _, hz, ht, Q, hQ => by
    obtain ⟨j, rfl⟩ := ht t List.mem_cons_self
    exact ⟨_, rfl, turn1 ho hk hlen hcnt hz fun l z9 hz => loop1 (S := S) (I := I) (KD := KD) (n := n) ho hk hlen hcnt ts (.val (.int j)) _ _ (by cases z9 <;> first | rfl | cases hz) hz (fun t h => ht t (List.mem_cons_of_mem _ h)) Q hQ⟩
theorem wide_ok {f : Gn} (hf : GenK f .int) (ho : OkGk 10 5 f) : OkGk 10 6 (.repeat_ f (.int 0 3)) ∧ GenK (.repeat_ f (.int 0 3)) (.lst .int) := ⟨.repeat_ ho (.int 0 3), .repeat_ hf (.int (by decide) (by decide) (by decide))⟩
theorem capM {kd : Kd} {g : Gn} (hok : OkK 3 kd) (hne : NeK kd) (h : CapG (2 ^ 2 * baseK kd) g) : CapG 1000000 g := h.mono (by
  have := base_le hok hne
  omega)
theorem wide3 {f : Gn} (hf : GenK f .int) (ho : OkGk 10 5 f) (row : List Int) (hl : row.length ≤ 1000000) : ∃ X, D_draw10 [.tuple [.str "repeat", f.data, .tuple [.str "int", .int 0, .int 3]], rowD row] = some X ∧ D_lout [.tuple [.str "repeat", f.data, .tuple [.str "int", .int 0, .int 3]], rowD row, .int 0] = some X ∧ gNe X X = some (.bool false) ∧ noAs [.tuple [.str "repeat", f.data, .tuple [.str "int", .int 0, .int 3]], rowD row] = true ∧ noAs [.tuple [.str "repeat", f.data, .tuple [.str "int", .int 0, .int 3]], rowD row, .int 0] = true := by
  obtain ⟨h1, h2⟩ := wide_ok hf ho
  have e1 := m_draw10 (row := row) h1 h2
  have e2 := m_lout h1 h2 hl
  have e3 := ne_out (row := row) h1 h2
  have n1 := noA_flat _ (flat_gn h1)
  have n2 := noA_flat _ (flat_row row)
  simp only [Gn.data] at e1 e2 n1
  refine ⟨_, e1, e2, e3, ?_, ?_⟩
  · simp only [noAs]
    rw [n1, n2]
    rfl
  · simp only [noAs]
    rw [n1, n2]
    simp [noA]
noncomputable def wideB : FS := (fSeq (fAsg (fTup (fCons (fC (.str "repeat")) (fCons (fVar 12) (fCons (fTup (fCons (fC (.str "int")) (fCons (fC (.int 0)) (fCons (fC (.int 3)) fNil)))) fNil)))) (gS 13))
        (fIfS (fB (fOp gNe (fCall0 D_draw10 (fCons (fVar 13) (fCons (fVar 8) fNil))) (fCall0 D_lout (fCons (fVar 13) (fCons (fVar 8) (fCons (fC (.int 0)) fNil)))))) (fRet (fC (.bool false))) fNext))
theorem loop2 {row : List Int} (hl : row.length ≤ 1000000) {s0 s1 s2 s3 s4 s5 s6 s7 s9 s10 s11 : Sl} : ∀ (fs : List Gn) (z12 z13 : Sl), (∀ f ∈ fs, GenK f .int ∧ OkGk 10 5 f) → ∃ z12' z13', fLoop (gS 12) wideB (fs.map Gn.data) [s0, s1, s2, s3, s4, s5, s6, s7, .val (rowD row), s9, s10, s11, z12, z13, .un, .un] = some (.nx, [s0, s1, s2, s3, s4, s5, s6, s7, .val (rowD row), s9, s10, s11, z12', z13', .un, .un])
  | [], z12, z13, _ => ⟨z12, z13, rfl⟩
  | f :: fs, z12, z13, h => by
    obtain ⟨hf, ho⟩ := h f List.mem_cons_self
    obtain ⟨X, e1, e2, e3, n1, n2⟩ := wide3 hf ho row hl
    obtain ⟨y1, y2, ih⟩ := loop2 hl (s0 := s0) (s1 := s1) (s2 := s2) (s3 := s3) (s4 := s4) (s5 := s5) (s6 := s6) (s7 := s7) (s9 := s9) (s10 := s10) (s11 := s11) fs (.val f.data) (.val (.tuple [.str "repeat", f.data, .tuple [.str "int", .int 0, .int 3]])) fun x hx => h x (List.mem_cons_of_mem _ hx)
    refine ⟨y1, y2, ?_⟩
    rw [← ih, List.map_cons, loop_c]
    simp only [wideB, fCall0, fSeq, fIfS, fRet, fAsg, fOwn, fApp, fExt, fBrk, fCnt, fDrop, fFrz, frz, fNext, fFor, fB, fAnd, fOr, fNot, fAndV, fOrV, fNotV, fIf, fChain, fOp, fUn, fVar, fC, fTup, fLst, fV, fCons, fNil, fCall, fCallL, fLenV, fSl, fPart, fNoPart, fStar, fAug, gS, gT, gN, gC, fSeqI, run_1, run_2, run_3, run_4, ix0, ix1, ix2, ix3, then_nx, then_rt, then_bk, then_ct, turn_nx, turn_ct, turn_bk, turn_rt, res_rt, asB_b, gIx_t, gIx_l, gAdd_i, gSub_i, gLt_i, gLe_i, gGt_i, gGe_i, eq_i, eq_s, ne_i, ne_s, gLen_t, gLen_l, gTup_l, gTup_t, strEq, Option.bind_some, List.getElem?_cons_zero, List.getElem?_cons_succ, List.set_cons_zero, List.set_cons_succ, List.replicate_succ, List.replicate_zero, Nat.reduceSub, Nat.reduceAdd, if_true, if_false, decide_true, decide_false, Bool.not_true, Bool.not_false, Bool.false_eq_true, String.reduceEq, reduceIte, List.length_cons, List.length_nil, Nat.reduceLeDiff, lim, n1, n2, e1, e2, e3]
def firsts : List Gn := [.int 5 8, .turned (.int 0 3) (.times 2), .kept (.int 0 2) (.atmost 1), .one [.int 1 2, .int 7 9]]
theorem firsts_ok : ∀ f ∈ firsts, GenK f .int ∧ OkGk 10 5 f := fun f hf => by
  simp only [firsts, List.mem_cons, List.not_mem_nil, or_false] at hf
  rcases hf with rfl | rfl | rfl | rfl
  · exact ⟨.int (by decide) (by decide) (by decide), .int _ _⟩
  · exact ⟨.turned (.int (by decide) (by decide) (by decide)) rfl, .turned _ (.int _ _)⟩
  · exact ⟨.kept (.int (by decide) (by decide) (by decide)) rfl, .kept (.int _ _) (.atmost _)⟩
  · refine ⟨.one (by decide) (by decide) fun g hg => ?_, .one (by decide) fun g hg => ?_⟩
    all_goals
      simp only [List.mem_cons, List.not_mem_nil, or_false] at hg
      rcases hg with rfl | rfl
    · exact .int (by decide) (by decide) (by decide)
    · exact .int (by decide) (by decide) (by decide)
    · exact .int _ _
    · exact .int _ _
theorem hw10 (i : Nat) : w_law D_all10 D_draw10 D_lout 0 (rho0 16 (0 + (i : Int))) (QL 16) := by
  have hm : gMul (.int 3) (.int (0 + (i : Int))) = some (.int (3 * (0 + (i : Int)))) := by
    show (if ((3 : Int).natAbs < 18446744073709551616 ∨ (0 + (i : Int)).natAbs < 18446744073709551616) ∨ (3 : Int).natAbs.log2 + (0 + (i : Int)).natAbs.log2 < 1000000 then some (PyData.int (3 * (0 + (i : Int)))) else none) = _
    exact if_pos (Or.inl (Or.inl (by decide)))
  simp only [w_law, rho0, wSeq, wSome, wsCons, wOf, wsNil, noOwn, fSeq, fIfS, fRet, fAsg, fOwn, fApp, fExt, fBrk, fCnt, fDrop, fFrz, frz, fNext, fFor, fB, fAnd, fOr, fNot, fAndV, fOrV, fNotV, fIf, fChain, fOp, fUn, fVar, fC, fTup, fLst, fV, fCons, fNil, fCall, fCallL, fLenV, fSl, fPart, fNoPart, fStar, fAug, gS, gT, gN, gC, fSeqI, run_1, run_2, run_3, run_4, ix0, ix1, ix2, ix3, then_nx, then_rt, then_bk, then_ct, turn_nx, turn_ct, turn_bk, turn_rt, res_rt, asB_b, gIx_t, gIx_l, gAdd_i, gSub_i, gLt_i, gLe_i, gGt_i, gGe_i, eq_i, eq_s, ne_i, ne_s, gLen_t, gLen_l, gTup_l, gTup_t, strEq, Option.bind_some, List.getElem?_cons_zero, List.getElem?_cons_succ, List.set_cons_zero, List.set_cons_succ, List.replicate_succ, List.replicate_zero, Nat.reduceSub, Nat.reduceAdd, if_true, if_false, decide_true, decide_false, Bool.not_true, Bool.not_false, Bool.false_eq_true, String.reduceEq, reduceIte, List.length_cons, List.length_nil, Nat.reduceLeDiff, lim, hm, Option.some.injEq, exists_eq_left', true_and]
  refine ⟨3 * i, by simp, fun g kd ho hk hok hne hcap => ?_⟩
  have hgk := ho.k
  have hcap := capM hok hne hcap
  have hall := m_all10 (Nat.le_refl _) hgk hk hcap
  have hlen : ∀ p ∈ rowsOf g, p.2.length ≤ 300000 := fun p h => by
    have := rows_len hk 10 6 hgk p h
    have e : (7 : Nat) ^ 6 = 117649 := by decide
    omega
  have hcnt : (rowsOf g).length ≤ 1000000 := Nat.le_trans (rows_cnt hk) hcap.cnt
  have n1 : noAs [g.data] = true := by
    simp only [noAs, noA_flat _ (flat_gn hgk), Bool.and_self]
  have hc : fComp (fSeqI (fCall0 D_all10 (fCons (fVar 2) fNil))) (gT 2 (gC (gS 14) (gC (gS 8) gN))) (fun _ => some true) (fVar 8) [14, 8] [.val (.dict []), .val (.int (0 + (i : Int))), .val g.data, .val kd.data, .val (.dict (tagB 0)), .un, .un, .un, .un, .un, .un, .un, .un, .un, .un, .un] = some ((rowsOf g).map fun p => rowD p.2) := by
    refine fComp_map (l := rowsOf g) (f := Fb.prD) (by simp only [fSeq, fIfS, fRet, fAsg, fOwn, fApp, fExt, fBrk, fCnt, fDrop, fFrz, frz, fNext, fFor, fB, fAnd, fOr, fNot, fAndV, fOrV, fNotV, fIf, fChain, fOp, fUn, fVar, fC, fTup, fLst, fV, fCons, fNil, fCall, fCallL, fLenV, fSl, fPart, fNoPart, fStar, fAug, gS, gT, gN, gC, fSeqI, run_1, run_2, run_3, run_4, ix0, ix1, ix2, ix3, then_nx, then_rt, then_bk, then_ct, turn_nx, turn_ct, turn_bk, turn_rt, res_rt, asB_b, gIx_t, gIx_l, gAdd_i, gSub_i, gLt_i, gLe_i, gGt_i, gGe_i, eq_i, eq_s, ne_i, ne_s, gLen_t, gLen_l, gTup_l, gTup_t, strEq, Option.bind_some, List.getElem?_cons_zero, List.getElem?_cons_succ, List.set_cons_zero, List.set_cons_succ, List.replicate_succ, List.replicate_zero, Nat.reduceSub, Nat.reduceAdd, if_true, if_false, decide_true, decide_false, Bool.not_true, Bool.not_false, Bool.false_eq_true, String.reduceEq, reduceIte, List.length_cons, List.length_nil, Nat.reduceLeDiff, lim, fCall0, n1, hall]) (by omega) fun p _ => ?_
    simp only [fSeq, fIfS, fRet, fAsg, fOwn, fApp, fExt, fBrk, fCnt, fDrop, fFrz, frz, fNext, fFor, fB, fAnd, fOr, fNot, fAndV, fOrV, fNotV, fIf, fChain, fOp, fUn, fVar, fC, fTup, fLst, fV, fCons, fNil, fCall, fCallL, fLenV, fSl, fPart, fNoPart, fStar, fAug, gS, gT, gN, gC, fSeqI, run_1, run_2, run_3, run_4, ix0, ix1, ix2, ix3, then_nx, then_rt, then_bk, then_ct, turn_nx, turn_ct, turn_bk, turn_rt, res_rt, asB_b, gIx_t, gIx_l, gAdd_i, gSub_i, gLt_i, gLe_i, gGt_i, gGe_i, eq_i, eq_s, ne_i, ne_s, gLen_t, gLen_l, gTup_l, gTup_t, strEq, Option.bind_some, List.getElem?_cons_zero, List.getElem?_cons_succ, List.set_cons_zero, List.set_cons_succ, List.replicate_succ, List.replicate_zero, Nat.reduceSub, Nat.reduceAdd, if_true, if_false, decide_true, decide_false, Bool.not_true, Bool.not_false, Bool.false_eq_true, String.reduceEq, reduceIte, List.length_cons, List.length_nil, Nat.reduceLeDiff, lim, cStep, Sm.wpS, Fb.prD]
  simp only [wSt, wBox, wFor, wsOf, hc, wsCons, wOf, wsNil, noOwn, fSeq, fIfS, fRet, fAsg, fOwn, fApp, fExt, fBrk, fCnt, fDrop, fFrz, frz, fNext, fFor, fB, fAnd, fOr, fNot, fAndV, fOrV, fNotV, fIf, fChain, fOp, fUn, fVar, fC, fTup, fLst, fV, fCons, fNil, fCall, fCallL, fLenV, fSl, fPart, fNoPart, fStar, fAug, gS, gT, gN, gC, fSeqI, run_1, run_2, run_3, run_4, ix0, ix1, ix2, ix3, then_nx, then_rt, then_bk, then_ct, turn_nx, turn_ct, turn_bk, turn_rt, res_rt, asB_b, gIx_t, gIx_l, gAdd_i, gSub_i, gLt_i, gLe_i, gGt_i, gGe_i, eq_i, eq_s, ne_i, ne_s, gLen_t, gLen_l, gTup_l, gTup_t, strEq, Option.bind_some, List.getElem?_cons_zero, List.getElem?_cons_succ, List.set_cons_zero, List.set_cons_succ, List.replicate_succ, List.replicate_zero, Nat.reduceSub, Nat.reduceAdd, if_true, if_false, decide_true, decide_false, Bool.not_true, Bool.not_false, Bool.false_eq_true, String.reduceEq, reduceIte, List.length_cons, List.length_nil, Nat.reduceLeDiff, lim, hm, Option.some.injEq, exists_eq_left', true_and]
  refine ⟨3 * i + 1, by simp, rngD 0 8, rfl, loop1 hgk hk hlen hcnt _ _ _ _ rfl rfl (fun t ht => ?_) _ fun z7 z8 z9 hz => ?_⟩
  · unfold rngD at ht
    obtain ⟨x, _, rfl⟩ := List.mem_map.mp ht
    exact ⟨_, rfl⟩
  · have hno : noOwn (z7 :: z8 :: z9 :: [.un, .un, .un, .un, .un, .un]) = true := by
      cases z7 <;> cases z8 <;> cases z9 <;> first | rfl | cases hz
    simp only [wAsg, wSl, wCall, wComp, wsOf, wTake, wNoPart, wPart, wSt, wOf, wsCons, wsNil, noOwn, hno, fSeq, fIfS, fRet, fAsg, fOwn, fApp, fExt, fBrk, fCnt, fDrop, fFrz, frz, fNext, fFor, fB, fAnd, fOr, fNot, fAndV, fOrV, fNotV, fIf, fChain, fOp, fUn, fVar, fC, fTup, fLst, fV, fCons, fNil, fCall, fCallL, fLenV, fSl, fPart, fNoPart, fStar, fAug, gS, gT, gN, gC, fSeqI, run_1, run_2, run_3, run_4, ix0, ix1, ix2, ix3, then_nx, then_rt, then_bk, then_ct, turn_nx, turn_ct, turn_bk, turn_rt, res_rt, asB_b, gIx_t, gIx_l, gAdd_i, gSub_i, gLt_i, gLe_i, gGt_i, gGe_i, eq_i, eq_s, ne_i, ne_s, gLen_t, gLen_l, gTup_l, gTup_t, strEq, Option.bind_some, List.getElem?_cons_zero, List.getElem?_cons_succ, List.set_cons_zero, List.set_cons_succ, List.replicate_succ, List.replicate_zero, Nat.reduceSub, Nat.reduceAdd, if_true, if_false, decide_true, decide_false, Bool.not_true, Bool.not_false, Bool.false_eq_true, String.reduceEq, reduceIte, List.length_cons, List.length_nil, Nat.reduceLeDiff, lim, hm, Option.some.injEq, exists_eq_left', true_and]
    refine ⟨3 * i + 2, by simp, rngD 0 9, rfl, by rw [rng_len]; omega, wlist_ints _ _ (fun d hd => ⟨_, rfl, fun P hP => ?_⟩) fun l hl => ?_⟩
    · unfold rngD at hd
      obtain ⟨x, _, rfl⟩ := List.mem_map.mp hd
      simp only [wTake, wOf, wOp, wsCons, wsNil, Sm.wpS, fSeq, fIfS, fRet, fAsg, fOwn, fApp, fExt, fBrk, fCnt, fDrop, fFrz, frz, fNext, fFor, fB, fAnd, fOr, fNot, fAndV, fOrV, fNotV, fIf, fChain, fOp, fUn, fVar, fC, fTup, fLst, fV, fCons, fNil, fCall, fCallL, fLenV, fSl, fPart, fNoPart, fStar, fAug, gS, gT, gN, gC, fSeqI, run_1, run_2, run_3, run_4, ix0, ix1, ix2, ix3, then_nx, then_rt, then_bk, then_ct, turn_nx, turn_ct, turn_bk, turn_rt, res_rt, asB_b, gIx_t, gIx_l, gAdd_i, gSub_i, gLt_i, gLe_i, gGt_i, gGe_i, eq_i, eq_s, ne_i, ne_s, gLen_t, gLen_l, gTup_l, gTup_t, strEq, Option.bind_some, List.getElem?_cons_zero, List.getElem?_cons_succ, List.set_cons_zero, List.set_cons_succ, List.replicate_succ, List.replicate_zero, Nat.reduceSub, Nat.reduceAdd, if_true, if_false, decide_true, decide_false, Bool.not_true, Bool.not_false, Bool.false_eq_true, String.reduceEq, reduceIte, List.length_cons, List.length_nil, Nat.reduceLeDiff, lim, Option.some.injEq, exists_eq_left']
      exact ⟨2, 4, rfl, by decide, fun r _ _ => hP _⟩
    · rw [rng_len] at hl
      refine ⟨2, 10, rfl, by decide, fun r r0 r10 => ⟨r, rfl, _, sl_row l none (some r), ?_⟩⟩
      have cl := cut_len l none (some r)
      obtain ⟨y1, y2, e2⟩ := loop2 (row := Sm.cutD l none (some r)) (by omega) (s0 := .val (.dict [])) (s1 := .val (.int (0 + (i : Int)))) (s2 := .val g.data) (s3 := .val kd.data) (s4 := .val (.dict (tagB 0))) (s5 := .val (.list ((rowsOf g).map fun p => rowD p.2))) (s6 := .val (.dict (tagB 1))) (s7 := z7) (s9 := z9) (s10 := .val (.dict (tagB 2))) (s11 := .val (.list (firsts.map Gn.data))) firsts .un .un firsts_ok
      refine ⟨_, e2, trivial, rfl, rfl⟩
end K10
namespace K10
open PySem PySem.Spec PyProof.Rows L2 Evl Cr CrT Sm Fb
theorem rec_lkind {P : Program} {w : World} {K : PySem.W.Frag} {mg : Str → Option Value} {base : Heap} {f : Addr} {fd : FuncData} (T : Tx mg) (F : Fun K "_law_kind" "_law_kind" s__law_kind f fd) (b : Binds K fd ["box", "depth"] []) (m : mg "_law_kind" = some (.ref f)) (c__law_take : Cl P w K mg base "_law_take" ["box", "many"] 1 spTake) :
    ∀ n : Nat, FnOk P w K mg base CX0 (n + 1) f fd ["box", "depth"] (spLKind2 K n)
  | 0 => no_call fun vs H Q E h => by
    obtain ⟨_, _, _, _, _, h, _⟩ := h
    omega
  | n + 1 => ok__law_kind T F c__law_take ⟨f, fd, rec_lkind T F b m c__law_take n, b, F.kp, m⟩
theorem rec_llimit2 {P : Program} {w : World} {K : PySem.W.Frag} {mg : Str → Option Value} {base : Heap} {f : Addr} {fd : FuncData} (T : Tx mg) (F : Fun K "_law_limit" "_law_limit" s__law_limit f fd) (b : Binds K fd ["box", "kind", "depth"] []) (m : mg "_law_limit" = some (.ref f)) (c__law_take : Cl P w K mg base "_law_take" ["box", "many"] 1 spTake) :
    ∀ n : Nat, FnOk P w K mg base CX0 (n + 1) f fd ["box", "kind", "depth"] (spLLimit2 K n)
  | 0 => no_call spLLimit2_0
  | n + 1 => ok__law_limit T F c__law_take ⟨f, fd, rec_llimit2 T F b m c__law_take n, b, F.kp, m⟩
theorem rec_lgen {P : Program} {w : World} {K : PySem.W.Frag} {mg : Str → Option Value} {base : Heap} {f : Addr} {fd : FuncData} (T : Tx mg) (F : Fun K "_law_gen" "_law_gen" s__law_gen f fd) (b : Binds K fd ["box", "kind", "depth"] []) (m : mg "_law_gen" = some (.ref f)) (c__law_take : Cl P w K mg base "_law_take" ["box", "many"] 1 spTake)
    (c__law_limit : Cl P w K mg base "_law_limit" ["box", "kind", "depth"] 6 (spLLimit2 K 5)) : ∀ n : Nat, FnOk P w K mg base CX0 (n + 7) f fd ["box", "kind", "depth"] (spLGen K n)
  | 0 => no_call fun vs H Q E h => by
    obtain ⟨_, _, _, _, n, m, _, _, _, hk, _, hn, _⟩ := h
    have := hk.pos
    omega
  | n + 1 => ok__law_gen T F c__law_take c__law_limit ⟨f, fd, rec_lgen T F b m c__law_take c__law_limit n, b, F.kp, m⟩
theorem rec_holds {P : Program} {w : World} {K : PySem.W.Frag} {mg : Str → Option Value} {base : Heap} {f : Addr} {fd : FuncData} (T : Tx mg) (F : Fun K "holds" "holds" s_holds f fd) (b : Binds K fd ["condition", "value"] []) (m : mg "holds" = some (.ref f)) (c__are_different : Cl P w K mg base "_are_different" ["values"] 1 (spDiff K)) :
    ∀ n : Nat, FnOk P w K mg base CX0 (n + 1) f fd ["condition", "value"] (spHolds K n)
  | 0 => no_call spHolds_0
  | n + 1 => ok_holds T F c__are_different ⟨f, fd, rec_holds T F b m c__are_different n, b, F.kp, m⟩
theorem rec_lholds {P : Program} {w : World} {K : PySem.W.Frag} {mg : Str → Option Value} {base : Heap} {f : Addr} {fd : FuncData} (T : Tx mg) (F : Fun K "_law_holds" "_law_holds" s__law_holds f fd) (b : Binds K fd ["limit", "value"] []) (m : mg "_law_holds" = some (.ref f)) :
    ∀ n : Nat, FnOk P w K mg base CX0 (n + 1) f fd ["limit", "value"] (spHolds K n)
  | 0 => no_call spHolds_0
  | n + 1 => ok__law_holds T F ⟨f, fd, rec_lholds T F b m n, b, F.kp, m⟩
section
variable {P : Program} {w : World} {K : PySem.W.Frag} {mg : Str → Option Value} {base : Heap}
theorem no_fn {k : Nat} {f : Addr} {fd : FuncData} {ps : List Str} : FnOk P w K mg base CX0 k f fd ps (spF K A0 fun _ => none) := no_call fun vs H Q E h => by
  obtain ⟨_, _, _, _, _, h, _⟩ := h
  cases h
theorem rec_out {f : Addr} {fd : FuncData} {f2 : Addr} {fd2 : FuncData} (T : Tx mg) (F : Fun K "_law_outcome" "_law_outcome" s__law_outcome f fd) (b : Binds K fd ["gen", "row", "at"] []) (m : mg "_law_outcome" = some (.ref f)) (F2 : Fun K "_law_listed" "_law_listed" s__law_listed f2 fd2) (b2 : Binds K fd2 ["gen", "row", "at"] []) (m2 : mg "_law_listed" = some (.ref f2))
    (c__law_holds : Cr.Cl P w K mg base "_law_holds" ["limit", "value"] 11 (spHolds K 10)) (c__law_turn : Cr.Cl P w K mg base "_law_turn" ["some", "value"] 1 (spTurn K)) : ∀ n : Nat, FnOk P w K mg base CX0 (2 * n + 12) f fd ["gen", "row", "at"] (spOut K n)
  | 0 => no_call fun vs H Q E h => by
    obtain ⟨_, _, _, _, _, _, _, _, _, _, ho, _⟩ := h
    exact absurd ho.pos (by omega)
  | n + 1 => by
    have c : Cr.Cl P w K mg base "_law_outcome" ["gen", "row", "at"] (2 * n + 12) (spOut K n) := ⟨f, fd, rec_out T F b m F2 b2 m2 c__law_holds c__law_turn n, b, F.kp, m⟩
    exact ok__law_outcome (M := 2 * n) T F c__law_holds c__law_turn c ⟨f2, fd2, ok__law_listed T F2 c, b2, F2.kp, m2⟩
theorem rec_all {f : Addr} {fd : FuncData} (T : Tx mg) (F : Fun K "_law_all" "_law_all" s__law_all f fd) (b : Binds K fd ["gen"] []) (m : mg "_law_all" = some (.ref f)) (c__law_holds : Cr.Cl P w K mg base "_law_holds" ["limit", "value"] 11 (spF K A0 D_holds)) (c__law_turn : Cr.Cl P w K mg base "_law_turn" ["some", "value"] 11 (spF K A0 D_lturn)) (c__law_beside : Cr.Cl P w K mg base "_law_beside" ["rows", "parts", "ahead"] 11 (spF K A0 D_beside)) :
    ∀ n : Nat, FnOk P w K mg base CX0 (11 + n) f fd ["gen"] (spF K A0 (D_all D_holds D_lturn n))
  | 0 => no_fn
  | n + 1 => ok__law_all (L := 11 + n) T F ⟨f, fd, rec_all T F b m c__law_holds c__law_turn c__law_beside n, b, F.kp, m⟩ (clMono c__law_holds (by omega)) (clMono c__law_turn (by omega)) (clMono c__law_beside (by omega))
theorem rec_from {f : Addr} {fd : FuncData} (T : Tx mg) (F : Fun K "draw_from" "draw_from" s_draw_from f fd) (b : Binds K fd ["generator", "row", "place"] []) (m : mg "draw_from" = some (.ref f)) {f0 : Addr} {fd0 : FuncData} (F0 : Fun K "_draw_int" "_draw_int" s__draw_int f0 fd0) (b0 : Binds K fd0 ["generator", "row", "place"] []) (m0 : mg "_draw_int" = some (.ref f0)) {f1 : Addr} {fd1 : FuncData} (F1 : Fun K "_draw_pick" "_draw_pick" s__draw_pick f1 fd1) (b1 : Binds K fd1 ["generator", "row", "place"] []) (m1 : mg "_draw_pick" = some (.ref f1)) {f2 : Addr} {fd2 : FuncData} (F2 : Fun K "_draw_each" "_draw_each" s__draw_each f2 fd2) (b2 : Binds K fd2 ["generators", "row", "place"] []) (m2 : mg "_draw_each" = some (.ref f2)) {f3 : Addr} {fd3 : FuncData} (F3 : Fun K "_draw_list" "_draw_list" s__draw_list f3 fd3) (b3 : Binds K fd3 ["generator", "row", "place"] []) (m3 : mg "_draw_list" = some (.ref f3)) {f4 : Addr} {fd4 : FuncData} (F4 : Fun K "_draw_one" "_draw_one" s__draw_one f4 fd4) (b4 : Binds K fd4 ["generator", "row", "place"] []) (m4 : mg "_draw_one" = some (.ref f4)) {f5 : Addr} {fd5 : FuncData} (F5 : Fun K "_draw_kept" "_draw_kept" s__draw_kept f5 fd5) (b5 : Binds K fd5 ["generator", "row", "place"] []) (m5 : mg "_draw_kept" = some (.ref f5)) {f6 : Addr} {fd6 : FuncData} (F6 : Fun K "_draw_turned" "_draw_turned" s__draw_turned f6 fd6) (b6 : Binds K fd6 ["generator", "row", "place"] []) (m6 : mg "_draw_turned" = some (.ref f6)) {f7 : Addr} {fd7 : FuncData} (F7 : Fun K "_draw_repeat" "_draw_repeat" s__draw_repeat f7 fd7) (b7 : Binds K fd7 ["generator", "row", "place"] []) (m7 : mg "_draw_repeat" = some (.ref f7))
    (c_choose : Cr.Cl P w K mg base "choose" ["row", "place", "bound"] 11 (spF K A0 D_choose)) (c_holds : Cr.Cl P w K mg base "holds" ["condition", "value"] 11 (spF K A0 D_holds)) (c_turn : Cr.Cl P w K mg base "turn" ["some_map", "value"] 11 (spF K A0 D_turn)) : ∀ n : Nat, FnOk P w K mg base CX0 (11 + 3 * n) f fd ["generator", "row", "place"] (spF K A0 (D_from D_holds D_turn n))
  | 0 => no_fn
  | n + 1 => by
    have c : Cr.Cl P w K mg base "draw_from" ["generator", "row", "place"] (11 + 3 * n) (spF K A0 (D_from D_holds D_turn n)) := ⟨f, fd, rec_from T F b m F0 b0 m0 F1 b1 m1 F2 b2 m2 F3 b3 m3 F4 b4 m4 F5 b5 m5 F6 b6 m6 F7 b7 m7 c_choose c_holds c_turn n, b, F.kp, m⟩
    have cc := clMono c_choose (show 11 ≤ 11 + 3 * n by omega)
    have ch := clMono c_holds (show 11 ≤ 11 + 3 * n by omega)
    have ct := clMono c_turn (show 11 ≤ 11 + 3 * n by omega)
    have k0 : Cr.Cl P w K mg base "_draw_int" ["generator", "row", "place"] (11 + 3 * n + 1) (spF K A0 D_int) := ⟨f0, fd0, ok__draw_int T F0 cc, b0, F0.kp, m0⟩
    have k1 : Cr.Cl P w K mg base "_draw_pick" ["generator", "row", "place"] (11 + 3 * n + 1) (spF K A0 D_pick) := ⟨f1, fd1, ok__draw_pick T F1 cc, b1, F1.kp, m1⟩
    have k2 : Cr.Cl P w K mg base "_draw_each" ["generators", "row", "place"] (11 + 3 * n + 1) (spF K A0 (D_each (D_from D_holds D_turn n))) := ⟨f2, fd2, ok__draw_each T F2 c, b2, F2.kp, m2⟩
    have k3 : Cr.Cl P w K mg base "_draw_list" ["generator", "row", "place"] (11 + 3 * n + 1) (spF K A0 (D_list (D_from D_holds D_turn n))) := ⟨f3, fd3, ok__draw_list T F3 cc c, b3, F3.kp, m3⟩
    have k4 : Cr.Cl P w K mg base "_draw_one" ["generator", "row", "place"] (11 + 3 * n + 1) (spF K A0 (D_one (D_from D_holds D_turn n))) := ⟨f4, fd4, ok__draw_one T F4 cc c, b4, F4.kp, m4⟩
    have k5 : Cr.Cl P w K mg base "_draw_kept" ["generator", "row", "place"] (11 + 3 * n + 1) (spF K A0 (D_kept (D_from D_holds D_turn n) D_holds)) := ⟨f5, fd5, ok__draw_kept T F5 c ch, b5, F5.kp, m5⟩
    have k6 : Cr.Cl P w K mg base "_draw_turned" ["generator", "row", "place"] (11 + 3 * n + 1) (spF K A0 (D_turned (D_from D_holds D_turn n) D_turn)) := ⟨f6, fd6, ok__draw_turned T F6 c ct, b6, F6.kp, m6⟩
    have k7 : Cr.Cl P w K mg base "_draw_repeat" ["generator", "row", "place"] (11 + 3 * n + 2) (spF K A0 (D_repeat (D_from D_holds D_turn n))) := ⟨f7, fd7, ok__draw_repeat T F7 (clMono c (Nat.le_succ _)) k2, b7, F7.kp, m7⟩
    exact ok_draw_from (L := 11 + 3 * n + 2) T F (clMono k0 (Nat.le_succ _)) (clMono k1 (Nat.le_succ _)) (clMono k2 (Nat.le_succ _)) (clMono k3 (Nat.le_succ _)) (clMono k4 (Nat.le_succ _)) (clMono k5 (Nat.le_succ _)) (clMono k6 (Nat.le_succ _)) k7
end
theorem all_mk {l : PySem.W.OpenLaw} {w : World} {K : PySem.W.Frag} {h : Heap} {mg : Str → Option Value} {fa : Addr} (X : K.In h) (G : h.Ns mainGlobals mg) (hfa : mg "law" = some (.ref fa))
    {f1 : Addr} {od1 an1 : Option Addr} {sl1 : Array (Option Value)} {oc1 kV1 dc1 pm1 cd1 ct1 : Value}
    {f2 : Addr} {od2 an2 : Option Addr} {sl2 : Array (Option Value)} {oc2 kV2 dc2 pm2 cd2 ct2 : Value}
    {f3 : Addr} {od3 an3 : Option Addr} {sl3 : Array (Option Value)} {oc3 kV3 dc3 pm3 cd3 ct3 : Value}
    {f4 : Addr} {od4 an4 : Option Addr} {sl4 : Array (Option Value)} {oc4 kV4 dc4 pm4 cd4 ct4 : Value}
    {f5 : Addr} {od5 an5 : Option Addr} {sl5 : Array (Option Value)} {oc5 kV5 dc5 pm5 cd5 ct5 : Value}
    {f6 : Addr} {od6 an6 : Option Addr} {sl6 : Array (Option Value)} {oc6 kV6 dc6 pm6 cd6 ct6 : Value}
    {f7 : Addr} {od7 an7 : Option Addr} {sl7 : Array (Option Value)} {oc7 kV7 dc7 pm7 cd7 ct7 : Value}
    {f8 : Addr} {od8 an8 : Option Addr} {sl8 : Array (Option Value)} {oc8 kV8 dc8 pm8 cd8 ct8 : Value}
    {f9 : Addr} {od9 an9 : Option Addr} {sl9 : Array (Option Value)} {oc9 kV9 dc9 pm9 cd9 ct9 : Value}
    {f10 : Addr} {od10 an10 : Option Addr} {sl10 : Array (Option Value)} {oc10 kV10 dc10 pm10 cd10 ct10 : Value}
    {f11 : Addr} {od11 an11 : Option Addr} {sl11 : Array (Option Value)} {oc11 kV11 dc11 pm11 cd11 ct11 : Value}
    {f12 : Addr} {od12 an12 : Option Addr} {sl12 : Array (Option Value)} {oc12 kV12 dc12 pm12 cd12 ct12 : Value}
    {f13 : Addr} {od13 an13 : Option Addr} {sl13 : Array (Option Value)} {oc13 kV13 dc13 pm13 cd13 ct13 : Value}
    {f14 : Addr} {od14 an14 : Option Addr} {sl14 : Array (Option Value)} {oc14 kV14 dc14 pm14 cd14 ct14 : Value}
    {f15 : Addr} {od15 an15 : Option Addr} {sl15 : Array (Option Value)} {oc15 kV15 dc15 pm15 cd15 ct15 : Value}
    {f16 : Addr} {od16 an16 : Option Addr} {sl16 : Array (Option Value)} {oc16 kV16 dc16 pm16 cd16 ct16 : Value}
    {f17 : Addr} {od17 an17 : Option Addr} {sl17 : Array (Option Value)} {oc17 kV17 dc17 pm17 cd17 ct17 : Value}
    {f18 : Addr} {od18 an18 : Option Addr} {sl18 : Array (Option Value)} {oc18 kV18 dc18 pm18 cd18 ct18 : Value}
    {f19 : Addr} {od19 an19 : Option Addr} {sl19 : Array (Option Value)} {oc19 kV19 dc19 pm19 cd19 ct19 : Value}
    {f20 : Addr} {od20 an20 : Option Addr} {sl20 : Array (Option Value)} {oc20 kV20 dc20 pm20 cd20 ct20 : Value}
    {f21 : Addr} {od21 an21 : Option Addr} {sl21 : Array (Option Value)} {oc21 kV21 dc21 pm21 cd21 ct21 : Value}
    {f22 : Addr} {od22 an22 : Option Addr} {sl22 : Array (Option Value)} {oc22 kV22 dc22 pm22 cd22 ct22 : Value}
    {f23 : Addr} {od23 an23 : Option Addr} {sl23 : Array (Option Value)} {oc23 kV23 dc23 pm23 cd23 ct23 : Value}
    {f24 : Addr} {od24 an24 : Option Addr} {sl24 : Array (Option Value)} {oc24 kV24 dc24 pm24 cd24 ct24 : Value}
    {f25 : Addr} {od25 an25 : Option Addr} {sl25 : Array (Option Value)} {oc25 kV25 dc25 pm25 cd25 ct25 : Value}
    {f26 : Addr} {od26 an26 : Option Addr} {sl26 : Array (Option Value)} {oc26 kV26 dc26 pm26 cd26 ct26 : Value}
    {f27 : Addr} {od27 an27 : Option Addr} {sl27 : Array (Option Value)} {oc27 kV27 dc27 pm27 cd27 ct27 : Value}
    {f28 : Addr} {od28 an28 : Option Addr} {sl28 : Array (Option Value)} {oc28 kV28 dc28 pm28 cd28 ct28 : Value}
    {f29 : Addr} {od29 an29 : Option Addr} {sl29 : Array (Option Value)} {oc29 kV29 dc29 pm29 cd29 ct29 : Value}
    {t_LONG : Tok}
    (a1 : PySem.W.nsIn K mainGlobals "holds" = some (some (.ref f1))) (l1 : K.lookup f1 = some ⟨oc1, od1, .func (PySem.W.fnOf "holds" "holds" (defArgs s_holds) (defBody s_holds) (defScope s_holds) .none kV1 dc1 pm1 an1 cd1 ct1), sl1⟩) (c1 : PySem.W.codeIn K cd1 "holds" = true) (k1 : PySem.W.keepIn K (.ref f1) = true)
    (a2 : PySem.W.nsIn K mainGlobals "_are_different" = some (some (.ref f2))) (l2 : K.lookup f2 = some ⟨oc2, od2, .func (PySem.W.fnOf "_are_different" "_are_different" (defArgs s__are_different) (defBody s__are_different) (defScope s__are_different) .none kV2 dc2 pm2 an2 cd2 ct2), sl2⟩) (c2 : PySem.W.codeIn K cd2 "_are_different" = true) (k2 : PySem.W.keepIn K (.ref f2) = true)
    (a3 : PySem.W.nsIn K mainGlobals "turn" = some (some (.ref f3))) (l3 : K.lookup f3 = some ⟨oc3, od3, .func (PySem.W.fnOf "turn" "turn" (defArgs s_turn) (defBody s_turn) (defScope s_turn) .none kV3 dc3 pm3 an3 cd3 ct3), sl3⟩) (c3 : PySem.W.codeIn K cd3 "turn" = true) (k3 : PySem.W.keepIn K (.ref f3) = true)
    (a4 : PySem.W.nsIn K mainGlobals "draw" = some (some (.ref f4))) (l4 : K.lookup f4 = some ⟨oc4, od4, .func (PySem.W.fnOf "draw" "draw" (defArgs s_draw) (defBody s_draw) (defScope s_draw) .none kV4 dc4 pm4 an4 cd4 ct4), sl4⟩) (c4 : PySem.W.codeIn K cd4 "draw" = true) (k4 : PySem.W.keepIn K (.ref f4) = true)
    (a5 : PySem.W.nsIn K mainGlobals "choose" = some (some (.ref f5))) (l5 : K.lookup f5 = some ⟨oc5, od5, .func (PySem.W.fnOf "choose" "choose" (defArgs s_choose) (defBody s_choose) (defScope s_choose) .none kV5 dc5 pm5 an5 cd5 ct5), sl5⟩) (c5 : PySem.W.codeIn K cd5 "choose" = true) (k5 : PySem.W.keepIn K (.ref f5) = true)
    (a6 : PySem.W.nsIn K mainGlobals "draw_from" = some (some (.ref f6))) (l6 : K.lookup f6 = some ⟨oc6, od6, .func (PySem.W.fnOf "draw_from" "draw_from" (defArgs s_draw_from) (defBody s_draw_from) (defScope s_draw_from) .none kV6 dc6 pm6 an6 cd6 ct6), sl6⟩) (c6 : PySem.W.codeIn K cd6 "draw_from" = true) (k6 : PySem.W.keepIn K (.ref f6) = true)
    (a7 : PySem.W.nsIn K mainGlobals "_draw_int" = some (some (.ref f7))) (l7 : K.lookup f7 = some ⟨oc7, od7, .func (PySem.W.fnOf "_draw_int" "_draw_int" (defArgs s__draw_int) (defBody s__draw_int) (defScope s__draw_int) .none kV7 dc7 pm7 an7 cd7 ct7), sl7⟩) (c7 : PySem.W.codeIn K cd7 "_draw_int" = true) (k7 : PySem.W.keepIn K (.ref f7) = true)
    (a8 : PySem.W.nsIn K mainGlobals "_draw_pick" = some (some (.ref f8))) (l8 : K.lookup f8 = some ⟨oc8, od8, .func (PySem.W.fnOf "_draw_pick" "_draw_pick" (defArgs s__draw_pick) (defBody s__draw_pick) (defScope s__draw_pick) .none kV8 dc8 pm8 an8 cd8 ct8), sl8⟩) (c8 : PySem.W.codeIn K cd8 "_draw_pick" = true) (k8 : PySem.W.keepIn K (.ref f8) = true)
    (a9 : PySem.W.nsIn K mainGlobals "_draw_each" = some (some (.ref f9))) (l9 : K.lookup f9 = some ⟨oc9, od9, .func (PySem.W.fnOf "_draw_each" "_draw_each" (defArgs s__draw_each) (defBody s__draw_each) (defScope s__draw_each) .none kV9 dc9 pm9 an9 cd9 ct9), sl9⟩) (c9 : PySem.W.codeIn K cd9 "_draw_each" = true) (k9 : PySem.W.keepIn K (.ref f9) = true)
    (a10 : PySem.W.nsIn K mainGlobals "_draw_list" = some (some (.ref f10))) (l10 : K.lookup f10 = some ⟨oc10, od10, .func (PySem.W.fnOf "_draw_list" "_draw_list" (defArgs s__draw_list) (defBody s__draw_list) (defScope s__draw_list) .none kV10 dc10 pm10 an10 cd10 ct10), sl10⟩) (c10 : PySem.W.codeIn K cd10 "_draw_list" = true) (k10 : PySem.W.keepIn K (.ref f10) = true)
    (a11 : PySem.W.nsIn K mainGlobals "_draw_one" = some (some (.ref f11))) (l11 : K.lookup f11 = some ⟨oc11, od11, .func (PySem.W.fnOf "_draw_one" "_draw_one" (defArgs s__draw_one) (defBody s__draw_one) (defScope s__draw_one) .none kV11 dc11 pm11 an11 cd11 ct11), sl11⟩) (c11 : PySem.W.codeIn K cd11 "_draw_one" = true) (k11 : PySem.W.keepIn K (.ref f11) = true)
    (a12 : PySem.W.nsIn K mainGlobals "_draw_kept" = some (some (.ref f12))) (l12 : K.lookup f12 = some ⟨oc12, od12, .func (PySem.W.fnOf "_draw_kept" "_draw_kept" (defArgs s__draw_kept) (defBody s__draw_kept) (defScope s__draw_kept) .none kV12 dc12 pm12 an12 cd12 ct12), sl12⟩) (c12 : PySem.W.codeIn K cd12 "_draw_kept" = true) (k12 : PySem.W.keepIn K (.ref f12) = true)
    (a13 : PySem.W.nsIn K mainGlobals "_draw_turned" = some (some (.ref f13))) (l13 : K.lookup f13 = some ⟨oc13, od13, .func (PySem.W.fnOf "_draw_turned" "_draw_turned" (defArgs s__draw_turned) (defBody s__draw_turned) (defScope s__draw_turned) .none kV13 dc13 pm13 an13 cd13 ct13), sl13⟩) (c13 : PySem.W.codeIn K cd13 "_draw_turned" = true) (k13 : PySem.W.keepIn K (.ref f13) = true)
    (a14 : PySem.W.nsIn K mainGlobals "_draw_repeat" = some (some (.ref f14))) (l14 : K.lookup f14 = some ⟨oc14, od14, .func (PySem.W.fnOf "_draw_repeat" "_draw_repeat" (defArgs s__draw_repeat) (defBody s__draw_repeat) (defScope s__draw_repeat) .none kV14 dc14 pm14 an14 cd14 ct14), sl14⟩) (c14 : PySem.W.codeIn K cd14 "_draw_repeat" = true) (k14 : PySem.W.keepIn K (.ref f14) = true)
    (a15 : PySem.W.nsIn K mainGlobals "_law_cell" = some (some (.ref f15))) (l15 : K.lookup f15 = some ⟨oc15, od15, .func (PySem.W.fnOf "_law_cell" "_law_cell" (defArgs s__law_cell) (defBody s__law_cell) (defScope s__law_cell) .none kV15 dc15 pm15 an15 cd15 ct15), sl15⟩) (c15 : PySem.W.codeIn K cd15 "_law_cell" = true) (k15 : PySem.W.keepIn K (.ref f15) = true)
    (a16 : PySem.W.nsIn K mainGlobals "_law_draw" = some (some (.ref f16))) (l16 : K.lookup f16 = some ⟨oc16, od16, .func (PySem.W.fnOf "_law_draw" "_law_draw" (defArgs s__law_draw) (defBody s__law_draw) (defScope s__law_draw) .none kV16 dc16 pm16 an16 cd16 ct16), sl16⟩) (c16 : PySem.W.codeIn K cd16 "_law_draw" = true) (k16 : PySem.W.keepIn K (.ref f16) = true)
    (a17 : PySem.W.nsIn K mainGlobals "_law_box" = some (some (.ref f17))) (l17 : K.lookup f17 = some ⟨oc17, od17, .func (PySem.W.fnOf "_law_box" "_law_box" (defArgs s__law_box) (defBody s__law_box) (defScope s__law_box) .none kV17 dc17 pm17 an17 cd17 ct17), sl17⟩) (c17 : PySem.W.codeIn K cd17 "_law_box" = true) (k17 : PySem.W.keepIn K (.ref f17) = true)
    (a18 : PySem.W.nsIn K mainGlobals "_law_take" = some (some (.ref f18))) (l18 : K.lookup f18 = some ⟨oc18, od18, .func (PySem.W.fnOf "_law_take" "_law_take" (defArgs s__law_take) (defBody s__law_take) (defScope s__law_take) .none kV18 dc18 pm18 an18 cd18 ct18), sl18⟩) (c18 : PySem.W.codeIn K cd18 "_law_take" = true) (k18 : PySem.W.keepIn K (.ref f18) = true)
    (a19 : PySem.W.nsIn K mainGlobals "_law_kind" = some (some (.ref f19))) (l19 : K.lookup f19 = some ⟨oc19, od19, .func (PySem.W.fnOf "_law_kind" "_law_kind" (defArgs s__law_kind) (defBody s__law_kind) (defScope s__law_kind) .none kV19 dc19 pm19 an19 cd19 ct19), sl19⟩) (c19 : PySem.W.codeIn K cd19 "_law_kind" = true) (k19 : PySem.W.keepIn K (.ref f19) = true)
    (a20 : PySem.W.nsIn K mainGlobals "_law_limit" = some (some (.ref f20))) (l20 : K.lookup f20 = some ⟨oc20, od20, .func (PySem.W.fnOf "_law_limit" "_law_limit" (defArgs s__law_limit) (defBody s__law_limit) (defScope s__law_limit) .none kV20 dc20 pm20 an20 cd20 ct20), sl20⟩) (c20 : PySem.W.codeIn K cd20 "_law_limit" = true) (k20 : PySem.W.keepIn K (.ref f20) = true)
    (a21 : PySem.W.nsIn K mainGlobals "_law_gen" = some (some (.ref f21))) (l21 : K.lookup f21 = some ⟨oc21, od21, .func (PySem.W.fnOf "_law_gen" "_law_gen" (defArgs s__law_gen) (defBody s__law_gen) (defScope s__law_gen) .none kV21 dc21 pm21 an21 cd21 ct21), sl21⟩) (c21 : PySem.W.codeIn K cd21 "_law_gen" = true) (k21 : PySem.W.keepIn K (.ref f21) = true)
    (a22 : PySem.W.nsIn K mainGlobals "_law_holds" = some (some (.ref f22))) (l22 : K.lookup f22 = some ⟨oc22, od22, .func (PySem.W.fnOf "_law_holds" "_law_holds" (defArgs s__law_holds) (defBody s__law_holds) (defScope s__law_holds) .none kV22 dc22 pm22 an22 cd22 ct22), sl22⟩) (c22 : PySem.W.codeIn K cd22 "_law_holds" = true) (k22 : PySem.W.keepIn K (.ref f22) = true)
    (a23 : PySem.W.nsIn K mainGlobals "_law_turn" = some (some (.ref f23))) (l23 : K.lookup f23 = some ⟨oc23, od23, .func (PySem.W.fnOf "_law_turn" "_law_turn" (defArgs s__law_turn) (defBody s__law_turn) (defScope s__law_turn) .none kV23 dc23 pm23 an23 cd23 ct23), sl23⟩) (c23 : PySem.W.codeIn K cd23 "_law_turn" = true) (k23 : PySem.W.keepIn K (.ref f23) = true)
    (a24 : PySem.W.nsIn K mainGlobals "_law_all" = some (some (.ref f24))) (l24 : K.lookup f24 = some ⟨oc24, od24, .func (PySem.W.fnOf "_law_all" "_law_all" (defArgs s__law_all) (defBody s__law_all) (defScope s__law_all) .none kV24 dc24 pm24 an24 cd24 ct24), sl24⟩) (c24 : PySem.W.codeIn K cd24 "_law_all" = true) (k24 : PySem.W.keepIn K (.ref f24) = true)
    (a25 : PySem.W.nsIn K mainGlobals "_law_beside" = some (some (.ref f25))) (l25 : K.lookup f25 = some ⟨oc25, od25, .func (PySem.W.fnOf "_law_beside" "_law_beside" (defArgs s__law_beside) (defBody s__law_beside) (defScope s__law_beside) .none kV25 dc25 pm25 an25 cd25 ct25), sl25⟩) (c25 : PySem.W.codeIn K cd25 "_law_beside" = true) (k25 : PySem.W.keepIn K (.ref f25) = true)
    (a26 : PySem.W.nsIn K mainGlobals "_law_some" = some (some (.ref f26))) (l26 : K.lookup f26 = some ⟨oc26, od26, .func (PySem.W.fnOf "_law_some" "_law_some" (defArgs s__law_some) (defBody s__law_some) (defScope s__law_some) .none kV26 dc26 pm26 an26 cd26 ct26), sl26⟩) (c26 : PySem.W.codeIn K cd26 "_law_some" = true) (k26 : PySem.W.keepIn K (.ref f26) = true)
    (a27 : PySem.W.nsIn K mainGlobals "_law_outcome" = some (some (.ref f27))) (l27 : K.lookup f27 = some ⟨oc27, od27, .func (PySem.W.fnOf "_law_outcome" "_law_outcome" (defArgs s__law_outcome) (defBody s__law_outcome) (defScope s__law_outcome) .none kV27 dc27 pm27 an27 cd27 ct27), sl27⟩) (c27 : PySem.W.codeIn K cd27 "_law_outcome" = true) (k27 : PySem.W.keepIn K (.ref f27) = true)
    (a28 : PySem.W.nsIn K mainGlobals "_law_listed" = some (some (.ref f28))) (l28 : K.lookup f28 = some ⟨oc28, od28, .func (PySem.W.fnOf "_law_listed" "_law_listed" (defArgs s__law_listed) (defBody s__law_listed) (defScope s__law_listed) .none kV28 dc28 pm28 an28 cd28 ct28), sl28⟩) (c28 : PySem.W.codeIn K cd28 "_law_listed" = true) (k28 : PySem.W.keepIn K (.ref f28) = true)
    (a29 : PySem.W.nsIn K mainGlobals "law" = some (some (.ref f29))) (l29 : K.lookup f29 = some ⟨oc29, od29, .func (PySem.W.fnOf "law" "law" (defArgs s_law) (defBody s_law) (defScope s_law) .none kV29 dc29 pm29 an29 cd29 ct29), sl29⟩) (c29 : PySem.W.codeIn K cd29 "law" = true) (k29 : PySem.W.keepIn K (.ref f29) = true)
    (z_len : PySem.W.nsIn K mainGlobals "len" = some none)
    (z_all : PySem.W.nsIn K mainGlobals "all" = some none)
    (z_any : PySem.W.nsIn K mainGlobals "any" = some none)
    (z_isinstance : PySem.W.nsIn K mainGlobals "isinstance" = some none)
    (z_tuple : PySem.W.nsIn K mainGlobals "tuple" = some none)
    (z_list : PySem.W.nsIn K mainGlobals "list" = some none)
    (z_int : PySem.W.nsIn K mainGlobals "int" = some none)
    (z_str : PySem.W.nsIn K mainGlobals "str" = some none)
    (z_bool : PySem.W.nsIn K mainGlobals "bool" = some none)
    (z_range : PySem.W.nsIn K mainGlobals "range" = some none)
    (z_zip : PySem.W.nsIn K mainGlobals "zip" = some none)
    (z_enumerate : PySem.W.nsIn K mainGlobals "enumerate" = some none)
    (z_sum : PySem.W.nsIn K mainGlobals "sum" = some none)
    (z_sorted : PySem.W.nsIn K mainGlobals "sorted" = some none)
    (z_min : PySem.W.nsIn K mainGlobals "min" = some none)
    (z_max : PySem.W.nsIn K mainGlobals "max" = some none)
    (m_LONG : PySem.W.nsIn K mainGlobals "LONG" = some (some (.int 6 t_LONG))) :
    ∃ fd : FuncData, (∀ (s : Shared) (v : Value), BindsTo s fd ⟨[v], []⟩ [("script", v)]) ∧ ∀ base : Heap, K.In base → base.Ns mainGlobals mg → FnOk l.prog w K mg base CX0 31 fa fd ["script"] (spLaw K) := by
  have F_holds := fun_mk (st := s_holds) l1 c1 k1
  have b_holds := F_holds.binds (ps := ["condition", "value"]) fun _ _ _ _ _ _ us hl => match us, hl with | [_, _], _ => rfl
  have m_holds := PySem.W.mg_of X G a1
  have F__are_different := fun_mk (st := s__are_different) l2 c2 k2
  have b__are_different := F__are_different.binds (ps := ["values"]) fun _ _ _ _ _ _ us hl => match us, hl with | [_], _ => rfl
  have m__are_different := PySem.W.mg_of X G a2
  have F_turn := fun_mk (st := s_turn) l3 c3 k3
  have b_turn := F_turn.binds (ps := ["some_map", "value"]) fun _ _ _ _ _ _ us hl => match us, hl with | [_, _], _ => rfl
  have m_turn := PySem.W.mg_of X G a3
  have F_draw := fun_mk (st := s_draw) l4 c4 k4
  have b_draw := F_draw.binds (ps := ["generator", "row"]) fun _ _ _ _ _ _ us hl => match us, hl with | [_, _], _ => rfl
  have m_draw := PySem.W.mg_of X G a4
  have F_choose := fun_mk (st := s_choose) l5 c5 k5
  have b_choose := F_choose.binds (ps := ["row", "place", "bound"]) fun _ _ _ _ _ _ us hl => match us, hl with | [_, _, _], _ => rfl
  have m_choose := PySem.W.mg_of X G a5
  have F_draw_from := fun_mk (st := s_draw_from) l6 c6 k6
  have b_draw_from := F_draw_from.binds (ps := ["generator", "row", "place"]) fun _ _ _ _ _ _ us hl => match us, hl with | [_, _, _], _ => rfl
  have m_draw_from := PySem.W.mg_of X G a6
  have F__draw_int := fun_mk (st := s__draw_int) l7 c7 k7
  have b__draw_int := F__draw_int.binds (ps := ["generator", "row", "place"]) fun _ _ _ _ _ _ us hl => match us, hl with | [_, _, _], _ => rfl
  have m__draw_int := PySem.W.mg_of X G a7
  have F__draw_pick := fun_mk (st := s__draw_pick) l8 c8 k8
  have b__draw_pick := F__draw_pick.binds (ps := ["generator", "row", "place"]) fun _ _ _ _ _ _ us hl => match us, hl with | [_, _, _], _ => rfl
  have m__draw_pick := PySem.W.mg_of X G a8
  have F__draw_each := fun_mk (st := s__draw_each) l9 c9 k9
  have b__draw_each := F__draw_each.binds (ps := ["generators", "row", "place"]) fun _ _ _ _ _ _ us hl => match us, hl with | [_, _, _], _ => rfl
  have m__draw_each := PySem.W.mg_of X G a9
  have F__draw_list := fun_mk (st := s__draw_list) l10 c10 k10
  have b__draw_list := F__draw_list.binds (ps := ["generator", "row", "place"]) fun _ _ _ _ _ _ us hl => match us, hl with | [_, _, _], _ => rfl
  have m__draw_list := PySem.W.mg_of X G a10
  have F__draw_one := fun_mk (st := s__draw_one) l11 c11 k11
  have b__draw_one := F__draw_one.binds (ps := ["generator", "row", "place"]) fun _ _ _ _ _ _ us hl => match us, hl with | [_, _, _], _ => rfl
  have m__draw_one := PySem.W.mg_of X G a11
  have F__draw_kept := fun_mk (st := s__draw_kept) l12 c12 k12
  have b__draw_kept := F__draw_kept.binds (ps := ["generator", "row", "place"]) fun _ _ _ _ _ _ us hl => match us, hl with | [_, _, _], _ => rfl
  have m__draw_kept := PySem.W.mg_of X G a12
  have F__draw_turned := fun_mk (st := s__draw_turned) l13 c13 k13
  have b__draw_turned := F__draw_turned.binds (ps := ["generator", "row", "place"]) fun _ _ _ _ _ _ us hl => match us, hl with | [_, _, _], _ => rfl
  have m__draw_turned := PySem.W.mg_of X G a13
  have F__draw_repeat := fun_mk (st := s__draw_repeat) l14 c14 k14
  have b__draw_repeat := F__draw_repeat.binds (ps := ["generator", "row", "place"]) fun _ _ _ _ _ _ us hl => match us, hl with | [_, _, _], _ => rfl
  have m__draw_repeat := PySem.W.mg_of X G a14
  have F__law_cell := fun_mk (st := s__law_cell) l15 c15 k15
  have b__law_cell := F__law_cell.binds (ps := ["script", "k"]) fun _ _ _ _ _ _ us hl => match us, hl with | [_, _], _ => rfl
  have m__law_cell := PySem.W.mg_of X G a15
  have F__law_draw := fun_mk (st := s__law_draw) l16 c16 k16
  have b__law_draw := F__law_draw.binds (ps := ["script", "k", "sizes"]) fun _ _ _ _ _ _ us hl => match us, hl with | [_, _, _], _ => rfl
  have m__law_draw := PySem.W.mg_of X G a16
  have F__law_box := fun_mk (st := s__law_box) l17 c17 k17
  have b__law_box := F__law_box.binds (ps := ["script", "k"]) fun _ _ _ _ _ _ us hl => match us, hl with | [_, _], _ => rfl
  have m__law_box := PySem.W.mg_of X G a17
  have F__law_take := fun_mk (st := s__law_take) l18 c18 k18
  have b__law_take := F__law_take.binds (ps := ["box", "many"]) fun _ _ _ _ _ _ us hl => match us, hl with | [_, _], _ => rfl
  have m__law_take := PySem.W.mg_of X G a18
  have F__law_kind := fun_mk (st := s__law_kind) l19 c19 k19
  have b__law_kind := F__law_kind.binds (ps := ["box", "depth"]) fun _ _ _ _ _ _ us hl => match us, hl with | [_, _], _ => rfl
  have m__law_kind := PySem.W.mg_of X G a19
  have F__law_limit := fun_mk (st := s__law_limit) l20 c20 k20
  have b__law_limit := F__law_limit.binds (ps := ["box", "kind", "depth"]) fun _ _ _ _ _ _ us hl => match us, hl with | [_, _, _], _ => rfl
  have m__law_limit := PySem.W.mg_of X G a20
  have F__law_gen := fun_mk (st := s__law_gen) l21 c21 k21
  have b__law_gen := F__law_gen.binds (ps := ["box", "kind", "depth"]) fun _ _ _ _ _ _ us hl => match us, hl with | [_, _, _], _ => rfl
  have m__law_gen := PySem.W.mg_of X G a21
  have F__law_holds := fun_mk (st := s__law_holds) l22 c22 k22
  have b__law_holds := F__law_holds.binds (ps := ["limit", "value"]) fun _ _ _ _ _ _ us hl => match us, hl with | [_, _], _ => rfl
  have m__law_holds := PySem.W.mg_of X G a22
  have F__law_turn := fun_mk (st := s__law_turn) l23 c23 k23
  have b__law_turn := F__law_turn.binds (ps := ["some", "value"]) fun _ _ _ _ _ _ us hl => match us, hl with | [_, _], _ => rfl
  have m__law_turn := PySem.W.mg_of X G a23
  have F__law_all := fun_mk (st := s__law_all) l24 c24 k24
  have b__law_all := F__law_all.binds (ps := ["gen"]) fun _ _ _ _ _ _ us hl => match us, hl with | [_], _ => rfl
  have m__law_all := PySem.W.mg_of X G a24
  have F__law_beside := fun_mk (st := s__law_beside) l25 c25 k25
  have b__law_beside := F__law_beside.binds (ps := ["rows", "parts", "ahead"]) fun _ _ _ _ _ _ us hl => match us, hl with | [_, _, _], _ => rfl
  have m__law_beside := PySem.W.mg_of X G a25
  have F__law_some := fun_mk (st := s__law_some) l26 c26 k26
  have b__law_some := F__law_some.binds (ps := ["script", "k"]) fun _ _ _ _ _ _ us hl => match us, hl with | [_, _], _ => rfl
  have m__law_some := PySem.W.mg_of X G a26
  have F__law_outcome := fun_mk (st := s__law_outcome) l27 c27 k27
  have b__law_outcome := F__law_outcome.binds (ps := ["gen", "row", "at"]) fun _ _ _ _ _ _ us hl => match us, hl with | [_, _, _], _ => rfl
  have m__law_outcome := PySem.W.mg_of X G a27
  have F__law_listed := fun_mk (st := s__law_listed) l28 c28 k28
  have b__law_listed := F__law_listed.binds (ps := ["gen", "row", "at"]) fun _ _ _ _ _ _ us hl => match us, hl with | [_, _, _], _ => rfl
  have m__law_listed := PySem.W.mg_of X G a28
  have F_law := fun_mk (st := s_law) l29 c29 k29
  have b_law := F_law.binds (ps := ["script"]) fun _ _ _ _ _ _ us hl => match us, hl with | [_], _ => rfl
  have m_law := PySem.W.mg_of X G a29
  cases hfa.symm.trans m_law
  have T : Tx mg := { z_len := PySem.W.mg_none_of X G z_len, z_all := PySem.W.mg_none_of X G z_all, z_any := PySem.W.mg_none_of X G z_any, z_isinstance := PySem.W.mg_none_of X G z_isinstance, z_tuple := PySem.W.mg_none_of X G z_tuple, z_list := PySem.W.mg_none_of X G z_list, z_int := PySem.W.mg_none_of X G z_int, z_str := PySem.W.mg_none_of X G z_str, z_bool := PySem.W.mg_none_of X G z_bool, z_range := PySem.W.mg_none_of X G z_range, z_zip := PySem.W.mg_none_of X G z_zip, z_enumerate := PySem.W.mg_none_of X G z_enumerate, z_sum := PySem.W.mg_none_of X G z_sum, z_sorted := PySem.W.mg_none_of X G z_sorted, z_min := PySem.W.mg_none_of X G z_min, z_max := PySem.W.mg_none_of X G z_max, m_LONG := ⟨_, PySem.W.mg_of X G m_LONG⟩ }
  refine ⟨PySem.W.fnOf "law" "law" (defArgs s_law) (defBody s_law) (defScope s_law) .none kV29 dc29 pm29 an29 cd29 ct29, fun s v => .of_eq rfl, fun base _ _ => ?_⟩
  have c_take : Cr.Cl l.prog w K mg base "_law_take" ["box", "many"] 1 spTake := ⟨_, _, ok__law_take T F__law_take, b__law_take, F__law_take.kp, m__law_take⟩
  have c_box : Cr.Cl l.prog w K mg base "_law_box" ["script", "k"] 3 (spBox K) := ⟨_, _, ok__law_box T F__law_box ⟨_, _, ok__law_draw T F__law_draw ⟨_, _, ok__law_cell T F__law_cell, b__law_cell, F__law_cell.kp, m__law_cell⟩, b__law_draw, F__law_draw.kp, m__law_draw⟩, b__law_box, F__law_box.kp, m__law_box⟩
  have c_kind : Cr.Cl l.prog w K mg base "_law_kind" ["box", "depth"] 4 (spLKind2 K 3) := ⟨_, _, rec_lkind T F__law_kind b__law_kind m__law_kind c_take 3, b__law_kind, F__law_kind.kp, m__law_kind⟩
  have c_limit : Cr.Cl l.prog w K mg base "_law_limit" ["box", "kind", "depth"] 6 (spLLimit2 K 5) := ⟨_, _, rec_llimit2 T F__law_limit b__law_limit m__law_limit c_take 5, b__law_limit, F__law_limit.kp, m__law_limit⟩
  have c_gen : Cr.Cl l.prog w K mg base "_law_gen" ["box", "kind", "depth"] 12 (spLGen K 5) := ⟨_, _, rec_lgen T F__law_gen b__law_gen m__law_gen c_take c_limit 5, b__law_gen, F__law_gen.kp, m__law_gen⟩
  have c_hol0 : Cr.Cl l.prog w K mg base "holds" ["condition", "value"] 11 (spHolds K 10) := ⟨_, _, rec_holds T F_holds b_holds m_holds ⟨_, _, ok__are_different T F__are_different, b__are_different, F__are_different.kp, m__are_different⟩ 10, b_holds, F_holds.kp, m_holds⟩
  have c_lhol0 : Cr.Cl l.prog w K mg base "_law_holds" ["limit", "value"] 11 (spHolds K 10) := ⟨_, _, rec_lholds T F__law_holds b__law_holds m__law_holds 10, b__law_holds, F__law_holds.kp, m__law_holds⟩
  have c_ltur0 : Cr.Cl l.prog w K mg base "_law_turn" ["some", "value"] 1 (spTurn K) := ⟨_, _, ok__law_turn T F__law_turn, b__law_turn, F__law_turn.kp, m__law_turn⟩
  have c_tur : Cr.Cl l.prog w K mg base "turn" ["some_map", "value"] 1 (spF K A0 D_turn) := ⟨_, _, ok_turn T F_turn, b_turn, F_turn.kp, m_turn⟩
  have c_cho : Cr.Cl l.prog w K mg base "choose" ["row", "place", "bound"] 1 (spF K A0 D_choose) := ⟨_, _, ok_choose T F_choose, b_choose, F_choose.kp, m_choose⟩
  have c_from : Cr.Cl l.prog w K mg base "draw_from" ["generator", "row", "place"] 29 (spF K A0 (D_from D_holds D_turn 6)) := ⟨_, _, rec_from T F_draw_from b_draw_from m_draw_from F__draw_int b__draw_int m__draw_int F__draw_pick b__draw_pick m__draw_pick F__draw_each b__draw_each m__draw_each F__draw_list b__draw_list m__draw_list F__draw_one b__draw_one m__draw_one F__draw_kept b__draw_kept m__draw_kept F__draw_turned b__draw_turned m__draw_turned F__draw_repeat b__draw_repeat m__draw_repeat (clMono c_cho (by decide)) (clImp c_hol0 holds_sp) (clMono c_tur (by decide)) 6, b_draw_from, F_draw_from.kp, m_draw_from⟩
  have c_draw : Cr.Cl l.prog w K mg base "draw" ["generator", "row"] 30 (spF K A0 D_draw10) := ⟨_, _, ok_draw T F_draw c_from, b_draw, F_draw.kp, m_draw⟩
  have c_out : Cr.Cl l.prog w K mg base "_law_outcome" ["gen", "row", "at"] 24 (spOut K 6) := ⟨_, _, rec_out T F__law_outcome b__law_outcome m__law_outcome F__law_listed b__law_listed m__law_listed c_lhol0 c_ltur0 6, b__law_outcome, F__law_outcome.kp, m__law_outcome⟩
  have c_bes : Cr.Cl l.prog w K mg base "_law_beside" ["rows", "parts", "ahead"] 1 (spF K A0 D_beside) := ⟨_, _, ok__law_beside T F__law_beside, b__law_beside, F__law_beside.kp, m__law_beside⟩
  have c_all : Cr.Cl l.prog w K mg base "_law_all" ["gen"] 17 (spF K A0 D_all10) := ⟨_, _, rec_all T F__law_all b__law_all m__law_all (clImp c_lhol0 holds_sp) (clMono (clImp c_ltur0 lturn_sp) (by decide)) (clMono c_bes (by decide)) 6, b__law_all, F__law_all.kp, m__law_all⟩
  have c_some : Cr.Cl l.prog w K mg base "_law_some" ["script", "k"] 13 (spLSome K) := ⟨_, _, ok__law_some T F__law_some c_box c_kind c_gen, b__law_some, F__law_some.kp, m__law_some⟩
  exact ok_law (L := 30) T F_law (clMono c_some (by decide)) (clMono c_all (by decide)) (clMono c_box (by decide)) (clMono c_take (by decide)) c_draw (clMono (clImp c_out lout_sp) (by decide)) hw10
end K10
open PySem PySem.W PyProof.Rows
set_option maxHeartbeats 0 in
theorem PySem.Challenge.cw_choicerows_k10_outcomes_of_draws_holds : PySem.Challenge.rw_choicerows_k10_outcomes_of_draws.Holds := by
  w_on; o_law; k_head; (case hw => w_witness2)
  k_fill
  refine L2.walk_of (l := PySem.Challenge.rw_choicerows_k10_outcomes_of_draws) (n := 63) (k := 31) (x := "script") (CX := fun _ => L2.CX0) (sp := fun w => Cr.spLaw _) rfl (by decide) rfl ⟨rfl, by decide, by decide⟩ (fun w h Y => PySem.W.kIn_of Y) ?F (fun _ _ a ns hl _ hS => ⟨a, ns, rfl, hS, hl, fun _ => rfl⟩) (fun _ _ _ _ _ h => h)
  case F =>
    intro w mg fa h KX G hmg
    refine' K10.all_mk KX G hmg ?a1 ?l1 ?c1 ?k1 ?a2 ?l2 ?c2 ?k2 ?a3 ?l3 ?c3 ?k3 ?a4 ?l4 ?c4 ?k4 ?a5 ?l5 ?c5 ?k5 ?a6 ?l6 ?c6 ?k6 ?a7 ?l7 ?c7 ?k7 ?a8 ?l8 ?c8 ?k8 ?a9 ?l9 ?c9 ?k9 ?a10 ?l10 ?c10 ?k10 ?a11 ?l11 ?c11 ?k11 ?a12 ?l12 ?c12 ?k12 ?a13 ?l13 ?c13 ?k13 ?a14 ?l14 ?c14 ?k14 ?a15 ?l15 ?c15 ?k15 ?a16 ?l16 ?c16 ?k16 ?a17 ?l17 ?c17 ?k17 ?a18 ?l18 ?c18 ?k18 ?a19 ?l19 ?c19 ?k19 ?a20 ?l20 ?c20 ?k20 ?a21 ?l21 ?c21 ?k21 ?a22 ?l22 ?c22 ?k22 ?a23 ?l23 ?c23 ?k23 ?a24 ?l24 ?c24 ?k24 ?a25 ?l25 ?c25 ?k25 ?a26 ?l26 ?c26 ?k26 ?a27 ?l27 ?c27 ?k27 ?a28 ?l28 ?c28 ?k28 ?a29 ?l29 ?c29 ?k29 ?z_len ?z_all ?z_any ?z_isinstance ?z_tuple ?z_list ?z_int ?z_str ?z_bool ?z_range ?z_zip ?z_enumerate ?z_sum ?z_sorted ?z_min ?z_max ?m_LONG
    (case a1 => k_is)
    (case l1 => k_is)
    (case c1 => k_is)
    (case k1 => k_is)
    (case a2 => k_is)
    (case l2 => k_is)
    (case c2 => k_is)
    (case k2 => k_is)
    (case a3 => k_is)
    (case l3 => k_is)
    (case c3 => k_is)
    (case k3 => k_is)
    (case a4 => k_is)
    (case l4 => k_is)
    (case c4 => k_is)
    (case k4 => k_is)
    (case a5 => k_is)
    (case l5 => k_is)
    (case c5 => k_is)
    (case k5 => k_is)
    (case a6 => k_is)
    (case l6 => k_is)
    (case c6 => k_is)
    (case k6 => k_is)
    (case a7 => k_is)
    (case l7 => k_is)
    (case c7 => k_is)
    (case k7 => k_is)
    (case a8 => k_is)
    (case l8 => k_is)
    (case c8 => k_is)
    (case k8 => k_is)
    (case a9 => k_is)
    (case l9 => k_is)
    (case c9 => k_is)
    (case k9 => k_is)
    (case a10 => k_is)
    (case l10 => k_is)
    (case c10 => k_is)
    (case k10 => k_is)
    (case a11 => k_is)
    (case l11 => k_is)
    (case c11 => k_is)
    (case k11 => k_is)
    (case a12 => k_is)
    (case l12 => k_is)
    (case c12 => k_is)
    (case k12 => k_is)
    (case a13 => k_is)
    (case l13 => k_is)
    (case c13 => k_is)
    (case k13 => k_is)
    (case a14 => k_is)
    (case l14 => k_is)
    (case c14 => k_is)
    (case k14 => k_is)
    (case a15 => k_is)
    (case l15 => k_is)
    (case c15 => k_is)
    (case k15 => k_is)
    (case a16 => k_is)
    (case l16 => k_is)
    (case c16 => k_is)
    (case k16 => k_is)
    (case a17 => k_is)
    (case l17 => k_is)
    (case c17 => k_is)
    (case k17 => k_is)
    (case a18 => k_is)
    (case l18 => k_is)
    (case c18 => k_is)
    (case k18 => k_is)
    (case a19 => k_is)
    (case l19 => k_is)
    (case c19 => k_is)
    (case k19 => k_is)
    (case a20 => k_is)
    (case l20 => k_is)
    (case c20 => k_is)
    (case k20 => k_is)
    (case a21 => k_is)
    (case l21 => k_is)
    (case c21 => k_is)
    (case k21 => k_is)
    (case a22 => k_is)
    (case l22 => k_is)
    (case c22 => k_is)
    (case k22 => k_is)
    (case a23 => k_is)
    (case l23 => k_is)
    (case c23 => k_is)
    (case k23 => k_is)
    (case a24 => k_is)
    (case l24 => k_is)
    (case c24 => k_is)
    (case k24 => k_is)
    (case a25 => k_is)
    (case l25 => k_is)
    (case c25 => k_is)
    (case k25 => k_is)
    (case a26 => k_is)
    (case l26 => k_is)
    (case c26 => k_is)
    (case k26 => k_is)
    (case a27 => k_is)
    (case l27 => k_is)
    (case c27 => k_is)
    (case k27 => k_is)
    (case a28 => k_is)
    (case l28 => k_is)
    (case c28 => k_is)
    (case k28 => k_is)
    (case a29 => k_is)
    (case l29 => k_is)
    (case c29 => k_is)
    (case k29 => k_is)
    (case z_len => k_is)
    (case z_all => k_is)
    (case z_any => k_is)
    (case z_isinstance => k_is)
    (case z_tuple => k_is)
    (case z_list => k_is)
    (case z_int => k_is)
    (case z_str => k_is)
    (case z_bool => k_is)
    (case z_range => k_is)
    (case z_zip => k_is)
    (case z_enumerate => k_is)
    (case z_sum => k_is)
    (case z_sorted => k_is)
    (case z_min => k_is)
    (case z_max => k_is)
    (case m_LONG => k_is)
