import PyProof.Rows.All
import Wide.All
import OpenK.AllK
import Wide.FinOn
import HandS.ForMost
import HandS.IsInst
import HandS.Zip
import HandS.Walk
import HandS.Evl
import HandS.TupAny
import KE.GoesMore
import KE.DataMinMax
import PyProof.P3In
import KE.KRevSl
import HandS.Style
import KE.SortData
import KE.DataCmp
import KE.KSortedM
import HandS.Deep
import HandS.Strs
import HandS.Wide
import HandS.Text
import HandS.FStr
import HandS.Star
import PySem.Challenge.RW_choicerows_k04_kinds_of_generators
set_option Elab.async false
set_option linter.all false
set_option maxRecDepth 100000
set_option maxHeartbeats 4000000
set_option autoImplicit false
namespace Cr
open PySem PySem.Spec PyProof.Rows L2 Evl

/-! ### data in the heap: ints, texts, tuples -/
/-- tuples that can be read stay so -/
def Kt (K : PySem.W.Frag) (H H' : Hp) : Prop := ∀ a xs, SqT K H a xs → SqT K H' a xs
section
variable {K : PySem.W.Frag} {H H1 H2 H' : Hp}
theorem Kt.refl : Kt K H H := fun _ _ h => h
theorem Kt.trans (a : Kt K H H1) (b : Kt K H1 H2) : Kt K H H2 := fun p xs h => b p xs (a p xs h)
theorem Kt.same (e : Same H H') : Kt K H H' := fun _ _ h => ex_t e h
theorem same_new {p : Addr} {o : HO} (h : H p = none) : Same H (upd H p o) := Ex.new h
theorem same_mut {p : Addr} {o : HO} (e : Same H H') (h : H p = none) : Same H (upd H' p o) := Ex.mut e h
theorem Kt.new {p : Addr} {o : HO} (h : H p = none) : Kt K H (upd H p o) := Kt.same (same_new h)
/-- a list is changed -/
theorem Kt.lst {l : Addr} {xs : List V} {o : HO} (h : H l = some (.lst xs)) : Kt K H (upd H l o) := fun a ys q => by
  rcases q with (q | ⟨ob, q⟩) | q
  · exact .inl (.inl (by rw [upd_ne (ne_of q h (fun z => nomatch z))]; exact q))
  · exact .inl (.inr ⟨ob, by rw [upd_ne (ne_of q h (fun z => nomatch z))]; exact q⟩)
  · exact .inr q
end

inductive Vd (K : PySem.W.Frag) (H : Hp) : V → PyData → Prop
  | int (i : Int) : Vd K H (.int i) (.int i)
  | str (x : Str) : Vd K H (.str x) (.str x)
  | tup {a : Addr} {xs : List V} {ds : List PyData} : SqT K H a xs → xs.length = ds.length → (∀ (i : Nat) v d, xs[i]? = some v → ds[i]? = some d → Vd K H v d) → Vd K H (.ref a) (.tuple ds)
section
variable {K : PySem.W.Frag} {H H' : Hp}
theorem Vd.keep (k : Kt K H H') {v : V} {d : PyData} (h : Vd K H v d) : Vd K H' v d := by
  induction h with
  | int i => exact .int i
  | str x => exact .str x
  | tup hs hl _ ih => exact .tup (k _ _ hs) hl ih
theorem dpAll_of : ∀ {xs : List V} {ds : List PyData}, xs.length = ds.length → (∀ (i : Nat) v d, xs[i]? = some v → ds[i]? = some d → Dp K H v d) → DpAll K H xs ds
  | [], [], _, _ => .nil
  | [], _ :: _, h, _ => by simp at h
  | _ :: _, [], h, _ => by simp at h
  | x :: xs, d :: ds, h, q => .cons (q 0 x d rfl rfl) (dpAll_of (by simpa using h) fun i v e h1 h2 => q (i + 1) v e (by simpa using h1) (by simpa using h2))
theorem Vd.dp {v : V} {d : PyData} (h : Vd K H v d) : Dp K H v d := by
  induction h with
  | int i => exact .int i
  | str x => exact .str x
  | tup hs hl _ ih => exact .tup hs (dpAll_of hl ih)
theorem Vd.get {a : Addr} {ds : List PyData} (h : Vd K H (.ref a) (.tuple ds)) : ∃ xs, SqT K H a xs ∧ xs.length = ds.length ∧ ∀ (i : Nat) v d, xs[i]? = some v → ds[i]? = some d → Vd K H v d := by
  cases h with
  | tup hs hl q => exact ⟨_, hs, hl, q⟩
theorem Vd.ref {v : V} {ds : List PyData} (h : Vd K H v (.tuple ds)) : ∃ a, v = .ref a := by
  cases h with
  | tup hs hl q => exact ⟨_, rfl⟩
theorem Vd.int_inv {v : V} {i : Int} (h : Vd K H v (.int i)) : v = .int i := by cases h; rfl
theorem Vd.str_inv {v : V} {x : Str} (h : Vd K H v (.str x)) : v = .str x := by cases h; rfl
/-- a tuple of one, of two -/
theorem Vd.t0 {p : Addr} (h : SqT K H p []) : Vd K H (.ref p) (.tuple []) := .tup h rfl fun i v d h1 _ => by simp at h1
theorem Vd.t1 {p : Addr} {x : V} {d : PyData} (h : SqT K H p [x]) (hx : Vd K H x d) : Vd K H (.ref p) (.tuple [d]) := .tup h rfl fun i v e h1 h2 => by
  match i with
  | 0 => cases h1; cases h2; exact hx
  | i + 1 => simp at h1
theorem Vd.t2 {p : Addr} {x y : V} {d e : PyData} (h : SqT K H p [x, y]) (hx : Vd K H x d) (hy : Vd K H y e) : Vd K H (.ref p) (.tuple [d, e]) := .tup h rfl fun i v e h1 h2 => by
  match i with
  | 0 => cases h1; cases h2; exact hx
  | 1 => cases h1; cases h2; exact hy
  | i + 2 => simp at h1
theorem Vd.t3 {p : Addr} {x y z : V} {d e f : PyData} (h : SqT K H p [x, y, z]) (hx : Vd K H x d) (hy : Vd K H y e) (hz : Vd K H z f) : Vd K H (.ref p) (.tuple [d, e, f]) := .tup h rfl fun i v e h1 h2 => by
  match i with
  | 0 => cases h1; cases h2; exact hx
  | 1 => cases h1; cases h2; exact hy
  | 2 => cases h1; cases h2; exact hz
  | i + 3 => simp at h1
theorem Vd.g1 {v : V} {d : PyData} (h : Vd K H v (.tuple [d])) : ∃ a x, v = .ref a ∧ SqT K H a [x] ∧ Vd K H x d := by
  obtain ⟨a, rfl⟩ := h.ref
  obtain ⟨xs, hs, hl, q⟩ := h.get
  match xs, hl with
  | [x], _ => exact ⟨a, x, rfl, hs, q 0 x d rfl rfl⟩
theorem Vd.g2 {v : V} {d e : PyData} (h : Vd K H v (.tuple [d, e])) : ∃ a x y, v = .ref a ∧ SqT K H a [x, y] ∧ Vd K H x d ∧ Vd K H y e := by
  obtain ⟨a, rfl⟩ := h.ref
  obtain ⟨xs, hs, hl, q⟩ := h.get
  match xs, hl with
  | [x, y], _ => exact ⟨a, x, y, rfl, hs, q 0 x d rfl rfl, q 1 y e rfl rfl⟩
theorem Vd.g3 {v : V} {d e f : PyData} (h : Vd K H v (.tuple [d, e, f])) : ∃ a x y z, v = .ref a ∧ SqT K H a [x, y, z] ∧ Vd K H x d ∧ Vd K H y e ∧ Vd K H z f := by
  obtain ⟨a, rfl⟩ := h.ref
  obtain ⟨xs, hs, hl, q⟩ := h.get
  match xs, hl with
  | [x, y, z], _ => exact ⟨a, x, y, z, rfl, hs, q 0 x d rfl rfl, q 1 y e rfl rfl, q 2 z f rfl rfl⟩
/-- the value's type, for isinstance -/
def tyN : PyData → String
  | .int _ => "int"
  | .str _ => "str"
  | _ => "tuple"
theorem Vd.ty {v : V} {d : PyData} (h : Vd K H v d) : TyX K H v (.type (tyN d)) := by
  cases h with
  | int i => exact .base (.int i)
  | str x => exact .base (.str x)
  | tup hs hl q =>
    rcases hs with (hs | ⟨o, hs⟩) | ⟨o, its, n, hk, hc, _⟩
    · exact .base (.tup hs)
    · exact .fTuple hs
    · exact .kTuple hk hc
end
/-! ### how deep and how long -/
inductive Dk : Nat → PyData → Prop
  | int {n : Nat} (i : Int) : Dk n (.int i)
  | str {n : Nat} {x : Str} : SeqAt.shaped (.str x) = true → x.length ≤ 1000 → Dk n (.str x)
  | tup {n : Nat} {ds : List PyData} : ds.length ≤ 60 → (∀ d ∈ ds, Dk n d) → Dk (n + 1) (.tuple ds)
theorem lay_all : ∀ {ds : List PyData}, (∀ d ∈ ds, d.canLay0 = true) → PyData.canLayAll0 ds = true
  | [], _ => rfl
  | d :: ds, h => by
    unfold PyData.canLayAll0
    rw [h d List.mem_cons_self, lay_all fun e he => h e (List.mem_cons_of_mem _ he)]
    rfl
theorem depth_all {n : Nat} : ∀ {ds : List PyData}, (∀ d ∈ ds, d.depth ≤ n) → PyData.depthAll ds ≤ n
  | [], _ => Nat.zero_le _
  | d :: ds, h => by
    unfold PyData.depthAll
    exact Nat.max_le.mpr ⟨h d List.mem_cons_self, depth_all fun e he => h e (List.mem_cons_of_mem _ he)⟩
theorem Dk.lay {n : Nat} {d : PyData} (h : Dk n d) : d.canLay0 = true ∧ d.depth ≤ n := by
  induction h with
  | int i => exact ⟨rfl, Nat.zero_le _⟩
  | str hs _ => exact ⟨SeqAt.canLay_of_shaped hs, Nat.zero_le _⟩
  | tup _ _ ih => exact ⟨lay_all fun d hd => (ih d hd).1, Nat.succ_le_succ (depth_all fun d hd => (ih d hd).2)⟩
theorem Dk.shaped {n : Nat} {d : PyData} (h : Dk n d) (hn : n ≤ 64) : SeqAt.shaped d = true := by
  unfold SeqAt.shaped
  rw [h.lay.1, decide_eq_true (Nat.le_trans h.lay.2 hn)]
  rfl
theorem Dk.mono {n m : Nat} {d : PyData} (h : Dk n d) (hm : n ≤ m) : Dk m d := by
  induction h generalizing m with
  | int i => exact .int i
  | str hs hl => exact .str hs hl
  | tup hl _ ih =>
    obtain ⟨m', rfl⟩ : ∃ m', m = m' + 1 := ⟨m - 1, by omega⟩
    exact .tup hl fun d hd => ih d hd (by omega)
/-! ### words -/
def isWord (s : Str) : Bool := (decide ((1 : Int) ≤ (s.length : Int)) && decide ((s.length : Int) ≤ 8)) && s.cps.toList.all fun c => decide (97 ≤ c) && decide (c ≤ 122)
theorem lt_sign (a b : Nat) : decide ([a] < [b]) = decide (a < b) := by
  rw [Bool.eq_iff_iff, decide_eq_true_iff, decide_eq_true_iff, List.cons_lt_cons_iff]
  constructor
  · rintro (h | ⟨_, h⟩)
    · exact h
    · exact absurd h (List.not_lt_nil _)
  · exact fun h => .inl h
/-! ### kinds -/
inductive Kd where
  | int | word | lst (k : Kd) | tup (ks : List Kd)
mutual
def Kd.data : Kd → PyData
  | .int => .str "int"
  | .word => .str "word"
  | .lst k => .tuple [.str "list", k.data]
  | .tup ks => .tuple [.str "tuple", .tuple (dataAll ks)]
def dataAll : List Kd → List PyData
  | [] => []
  | k :: ks => k.data :: dataAll ks
end
theorem dataAll_map : ∀ ks : List Kd, dataAll ks = ks.map Kd.data
  | [] => by rw [dataAll]; rfl
  | k :: ks => by rw [dataAll, dataAll_map ks]; rfl
mutual
def isk : Kd → PyData → Bool
  | .int, d => match d with | .int _ => true | _ => false
  | .word, d => match d with | .str s => isWord s | _ => false
  | .lst k, d => match d with | .tuple ds => ds.all (isk k) | _ => false
  | .tup ks, d => match d with | .tuple ds => iskAll ks ds | _ => false
def iskAll : List Kd → List PyData → Bool
  | [], ds => match ds with | [] => true | _ => false
  | k :: ks, ds => match ds with | [] => false | d :: ds => isk k d && iskAll ks ds
end
inductive OkK : Nat → Kd → Prop
  | int {n : Nat} : OkK (n + 1) .int
  | word {n : Nat} : OkK (n + 1) .word
  | lst {n : Nat} {k : Kd} : OkK n k → OkK (n + 1) (.lst k)
  | tup {n : Nat} {ks : List Kd} : ks.length ≤ 60 → (∀ k ∈ ks, OkK n k) → OkK (n + 1) (.tup ks)
theorem dk_str {n : Nat} {x : Str} (h : SeqAt.shaped (.str x) = true := by decide +kernel) (hl : x.length ≤ 1000 := by decide +kernel) : Dk n (.str x) := .str h hl
theorem dk_t2 {n : Nat} {a b : PyData} (ha : Dk n a) (hb : Dk n b) : Dk (n + 1) (.tuple [a, b]) := .tup (show 2 ≤ 60 by decide) fun d hd => by
  rcases List.mem_cons.mp hd with rfl | hd
  · exact ha
  · rcases List.mem_cons.mp hd with rfl | hd
    · exact hb
    · cases hd
theorem OkK.dk {n : Nat} {k : Kd} (h : OkK n k) : Dk (2 * n) k.data := by
  induction h with
  | int => rw [Kd.data]; exact dk_str
  | word => rw [Kd.data]; exact dk_str
  | lst _ ih => rw [Kd.data]; exact (dk_t2 dk_str (ih.mono (Nat.le_succ _)))
  | tup hl _ ih =>
    rw [Kd.data, dataAll_map]
    refine dk_t2 dk_str (.tup (by rw [List.length_map]; exact hl) fun d hd => ?_)
    obtain ⟨k, hk, rfl⟩ := List.mem_map.mp hd
    exact ih k hk
theorem OkK.mono {n m : Nat} {k : Kd} (h : OkK n k) (hm : n ≤ m) : OkK m k := by
  induction h generalizing m with
  | int => obtain ⟨m', rfl⟩ : ∃ m', m = m' + 1 := ⟨m - 1, by omega⟩; exact .int
  | word => obtain ⟨m', rfl⟩ : ∃ m', m = m' + 1 := ⟨m - 1, by omega⟩; exact .word
  | lst _ ih => obtain ⟨m', rfl⟩ : ∃ m', m = m' + 1 := ⟨m - 1, by omega⟩; exact .lst (ih (by omega))
  | tup hl _ ih => obtain ⟨m', rfl⟩ : ∃ m', m = m' + 1 := ⟨m - 1, by omega⟩; exact .tup hl fun k hk => ih k hk (by omega)
/-- the callee: where it stands, its promise -/
structure Cl (P : Program) (w : World) (K : PySem.W.Frag) (mg : Str → Option Value) (base : Heap) (x : Str) (ps : List Str) (k : Nat) (sp : Sp) where
  f : Addr
  fd : FuncData
  ok : FnOk P w K mg base CX0 k f fd ps sp
  b : Binds K fd ps []
  kp : PySem.W.keepIn K (.ref f) = true
  m : mg x = some (.ref f)
theorem no_call {P : Program} {w : World} {K : PySem.W.Frag} {mg : Str → Option Value} {base : Heap} {k : Nat} {f : Addr} {fd : FuncData} {ps : List Str} {sp : Sp} (no : ∀ vs H Q E, ¬ sp vs H Q E) : FnOk P w K mg base CX0 k f fd ps sp :=
  ⟨fun vs H Q E h => absurd h (no vs H Q E), fun A outer s H args us vs Q E _ _ _ _ h => absurd h (no vs H Q E)⟩
/-! ### further rules of evaluation -/
section
variable {K : PySem.W.Frag} {σ : L2.St} {H H' : Hp} {ta tb tc te tx : TE} {t u : TT} {x y z v w : V} {r r' : R2}
theorem ev_chain {k k' : Bool} (ha : Ev ta σ H x) (hb : Ev tb σ H y) (hc : Ev tc σ H w) (hr : RV r x y H (.bl k)) (hr' : RV r' y w H (.bl k')) : Ev (tChain r r' ta tb tc) σ H (.bl (k && k')) := fun H1 e Q q =>
  ha H1 e _ fun H2 e2 => hb H2 (e.trans e2) _ fun H3 e3 => hr H3 ((e.trans e2).trans e3) _ fun H4 e4 => ⟨k, rfl, by
    cases k with
    | true => exact hc H4 (((e.trans e2).trans e3).trans e4) _ fun H5 e5 => hr' H5 ((((e.trans e2).trans e3).trans e4).trans e5) Q fun H6 e6 => q H6 ((((e2.trans e3).trans e4).trans e5).trans e6)
    | false => exact q H4 ((e2.trans e3).trans e4)⟩
theorem ev_one {v : V} (h : Ev ta σ H v) : Ev ta σ H v := h
theorem et_yes : EvT tYes σ H true := fun H1 _ _ q => q H1 (Ex.refl H1)
theorem ev_all {bs : List Bool} (h : EvL te σ H (bs.map V.bl)) : Ev (tCB (rAll K) (tCons te tNil)) σ H (.bl (bs.all id)) := fun H1 e Q q =>
  h H1 e _ fun p H2 _ e2 hp => ⟨p, bs, rfl, sq_of hp, q H2 e2⟩
theorem ev_any {bs : List Bool} (h : EvL te σ H (bs.map V.bl)) : Ev (tCB (rAny K) (tCons te tNil)) σ H (.bl (bs.any id)) := fun H1 e Q q =>
  h H1 e _ fun p H2 _ e2 hp => ⟨p, bs, rfl, sq_of hp, q H2 e2⟩
/-- isinstance of data and a built-in class -/
theorem ev_isi {d : PyData} {n : String} {b : Bool} (ha : Ev ta σ H v) (hb : Ev tb σ H (.ty n)) (h : Vd K H v d) (hk : kitB (tyN d) n = some b) : Ev (tCB (rIsi K) (tCons ta (tCons tb tNil))) σ H (.bl b) := fun H1 e Q q =>
  ha H1 e _ fun H2 e2 => hb H2 (e.trans e2) _ fun H3 e3 => ⟨v, .ty n, _, _, b, rfl, .ty n, (h.keep (Kt.same ((e.trans e2).trans e3))).ty, kit_ty hk, q H3 (e2.trans e3)⟩
theorem ev_isiB {c : Bool} {n : String} {b : Bool} (ha : Ev ta σ H (.bl c)) (hb : Ev tb σ H (.ty n)) (hk : kitB "bool" n = some b) : Ev (tCB (rIsi K) (tCons ta (tCons tb tNil))) σ H (.bl b) := fun H1 e Q q =>
  ha H1 e _ fun H2 e2 => hb H2 (e.trans e2) _ fun H3 e3 => ⟨.bl c, .ty n, _, _, b, rfl, .ty n, .base (.bl c), kit_ty hk, q H3 (e2.trans e3)⟩
theorem rv_eqD {d e : PyData} (hx : Vd K H x d) (hy : Vd K H y e) (sd : SeqAt.shaped d = true) (se : SeqAt.shaped e = true) : RV (rEqD K) x y H (.bl (PyData.eqv d e)) := fun H1 e1 _ q =>
  ⟨d, e, (hx.keep (Kt.same e1)).dp, (hy.keep (Kt.same e1)).dp, sd, se, q H1 (Ex.refl H1)⟩
theorem rv_neD {d e : PyData} (hx : Vd K H x d) (hy : Vd K H y e) (sd : SeqAt.shaped d = true) (se : SeqAt.shaped e = true) : RV (rNeD K) x y H (.bl (!PyData.eqv d e)) := fun H1 e1 _ q =>
  ⟨d, e, (hx.keep (Kt.same e1)).dp, (hy.keep (Kt.same e1)).dp, sd, se, q H1 (Ex.refl H1)⟩
theorem rv_leS {i j : Str} : RV (fun x y H Q => ∃ i j, x = .str i ∧ y = .str j ∧ Q (.bl (!decide (j.cps.toList < i.cps.toList))) H) (.str i) (.str j) H (.bl (!decide (j.cps.toList < i.cps.toList))) := fun H1 _ _ q => ⟨i, j, rfl, rfl, q H1 (Ex.refl H1)⟩
theorem rv_notN : RV (fun x y H Q => y = .non ∧ Q (.bl (!decide (x = .non))) H) x .non H (.bl (!decide (x = .non))) := fun H1 _ _ q => ⟨rfl, q H1 (Ex.refl H1)⟩
theorem ev_lenS {s : Str} (hs : s.length ≤ 1000) (ha : Ev ta σ H (.str s)) : Ev (tCB (fun xs H Q => ∃ z, xs = [.str z] ∧ z.length ≤ sizeLine ∧ Q (.int z.length) H) (tCons ta tNil)) σ H (.int s.length) := fun H1 e Q q =>
  ha H1 e _ fun H2 e2 => ⟨s, rfl, Nat.le_of_lt (small1000 hs), q H2 e2⟩
theorem ev_lenT {p : Addr} {xs : List V} (ha : Ev ta σ H (.ref p)) (h : SqT K H p xs) : Ev (tCB (fun xs H Q => ∃ p ys, xs = [.ref p] ∧ (SqL K H p ys ∨ SqT K H p ys) ∧ Q (.int ys.length) H) (tCons ta tNil)) σ H (.int (xs.length : Int)) := fun H1 e Q q =>
  ha H1 e _ fun H2 e2 => ⟨p, xs, rfl, .inr (ex_t (e.trans e2) h), q H2 e2⟩
theorem ev_lenL {p : Addr} {xs : List V} (ha : Ev ta σ H (.ref p)) (h : SqL K H p xs) : Ev (tCB (fun xs H Q => ∃ p ys, xs = [.ref p] ∧ (SqL K H p ys ∨ SqT K H p ys) ∧ Q (.int ys.length) H) (tCons ta tNil)) σ H (.int (xs.length : Int)) := fun H1 e Q q =>
  ha H1 e _ fun H2 e2 => ⟨p, xs, rfl, .inl (ex_l (e.trans e2) h), q H2 e2⟩
/-- an item of a tuple, at a written place -/
theorem ev_ixT {a : Addr} {xs : List V} {j : Nat} (ha : Ev ta σ H (.ref a)) (hb : Ev tb σ H (.int (j : Int))) (h : SqT K H a xs) (hv : xs[j]? = some v) : Ev (tOp (rIxT K) ta tb) σ H v := ev_op ha hb (rv_ixT h (atI_nat hv))
theorem ev_ixL {a : Addr} {xs : List V} {j : Nat} (ha : Ev ta σ H (.ref a)) (hb : Ev tb σ H (.int (j : Int))) (h : SqL K H a xs) (hv : xs[j]? = some v) : Ev (tOp (rIxL K) ta tb) σ H v := ev_op ha hb (rv_ixL h (atI_nat hv))
theorem given_all (n : Nat) (b : Nat → Bool) : given n (fun _ => true) (fun i => .bl (b i)) = ((List.range n).map b).map V.bl := by
  unfold given
  rw [List.filter_eq_self.mpr (fun _ _ => rfl), List.map_map]
  rfl
theorem el_is {xs ys : List V} (h : EvL te σ H xs) (e : xs = ys) : EvL te σ H ys := by
  rw [← e]
  exact h
/-- comprehensions over a tuple, over a text, over two tuples -/
theorem el_lcT {a : Addr} {xs : List V} {tl : TE} {j : Nat} {vs : List Nat} (f : Nat → Bool) (v : Nat → V) (h : Ev tl σ H (.ref a)) (hx : SqT K H a xs) (hz : xs.length ≤ 40000) (hw : ∀ x, wipe ((wipe σ vs).set j (some x)) vs = wipe σ vs)
    (ht : ∀ (i : Nat) (x : V) H1, Ex H H1 → xs[i]? = some x → EvT t ((wipe σ vs).set j (some x)) H1 (f i)) (he : ∀ (i : Nat) (x : V) H1, Ex H H1 → xs[i]? = some x → f i = true → Ev te ((wipe σ vs).set j (some x)) H1 (v i)) :
    EvL (tLc (iTup K tl) (gName j) t te vs) σ H (given xs.length f v) := fun H0 e Q q => h H0 e _ fun H1 e1 => ⟨a, rfl, ⟨xs, ex_t (e.trans e1) hx⟩, fun Dl hD =>
  lc_tup (xs := xs) (Cw H1 f v Dl) ⟨hD, Ex.new hD, upd_same⟩ (fun i H' _ p => ex_t ((e.trans e1).trans p.2.1) hx) (fun i x H' hi p => ⟨hw x, cw_turn p (by have := (List.getElem?_eq_some_iff.mp hi).1; omega) (ht i x H1 (e.trans e1) hi) (fun hf => he i x H1 (e.trans e1) hi hf)⟩)
    (fun H' p => q Dl H' (fresh_back e1 p.1) (e1.trans p.2.1) p.2.2)⟩
theorem el_lcS {s : Str} {tl : TE} {j : Nat} {vs : List Nat} (f : Nat → Bool) (v : Nat → V) (h : Ev tl σ H (.str s)) (hz : s.cps.size ≤ 40000) (hw : ∀ x, wipe ((wipe σ vs).set j (some x)) vs = wipe σ vs)
    (ht : ∀ (i c : Nat) H1, Ex H H1 → s.cps[i]? = some c → EvT t ((wipe σ vs).set j (some (.str ⟨#[c]⟩))) H1 (f i)) (he : ∀ (i c : Nat) H1, Ex H H1 → s.cps[i]? = some c → f i = true → Ev te ((wipe σ vs).set j (some (.str ⟨#[c]⟩))) H1 (v i)) :
    EvL (tLc (iStr tl) (gName j) t te vs) σ H (given s.cps.size f v) := fun H0 e Q q => h H0 e _ fun H1 e1 => ⟨s, rfl, fun Dl hD =>
  lc_it (walk_str (z := s)) (Cw H1 f v Dl) ⟨hD, Ex.new hD, upd_same⟩ (fun _ _ _ _ => True.intro) (fun i x H2 H' hi p y => by
    obtain ⟨rfl, c, hc, rfl⟩ := y
    exact ⟨hw _, cw_turn p (by omega) (ht i c H1 (e.trans e1) hc) (fun hf => he i c H1 (e.trans e1) hc hf)⟩)
    (fun H' p => q Dl H' (fresh_back e1 p.1) (e1.trans p.2.1) p.2.2)⟩
theorem walk_zipT {a b : Addr} {xs ys : List V} {n : Nat} (hn : n = min xs.length ys.length) : Walk (RZ.ItzT K a b) n (fun H => SqT K H a xs ∧ SqT K H b ys) (YPair (fun i => xs[i]?) (fun i => ys[i]?)) := by
  subst hn
  refine ⟨fun i _ hi q => ?_, fun _ q => ⟨xs, ys, q.1, q.2, by omega⟩, fun i H v H' _ q y => ?_⟩
  · have h1 : i < xs.length := by omega
    have h2 : i < ys.length := by omega
    exact ⟨xs, ys, xs[i], ys[i], q.1, q.2, by simp [h1], by simp [h2]⟩
  · obtain ⟨T, x, z, h1, h2, h3, h4, h5⟩ := y
    exact ⟨T, x, z, h1, h2, h3, h4 xs q.1, h5 ys q.2⟩
theorem el_lcZ {a b : Addr} {xs ys : List V} {tl tm : TE} {j1 j2 : Nat} {vs : List Nat} (v : Nat → V) (h : Ev tl σ H (.ref a)) (h2 : Ev tm σ H (.ref b)) (hx : SqT K H a xs) (hy : SqT K H b ys) (hz : min xs.length ys.length ≤ 40000)
    (hw : ∀ x y, wipe (((wipe σ vs).set j1 (some x)).set j2 (some y)) vs = wipe σ vs)
    (he : ∀ (i : Nat) (x y : V) H1, Ex H H1 → xs[i]? = some x → ys[i]? = some y → Ev te (((wipe σ vs).set j1 (some x)).set j2 (some y)) H1 (v i)) :
    EvL (tLc (RZ.iZipA K (tCons tl (tCons tm tNil))) (gTup K 2 (gCons (gName j1) (gCons (gName j2) gNil))) tYes te vs) σ H (given (min xs.length ys.length) (fun _ => true) v) := fun H0 e Q q => h H0 e _ fun H1 e1 => h2 H1 (e.trans e1) _ fun H2 e2 =>
  ⟨a, b, xs, ys, rfl, .inr ⟨ex_t ((e.trans e1).trans e2) hx, ex_t ((e.trans e1).trans e2) hy, fun Dl hD =>
  lc_it (walk_zipT rfl) (Cw H2 (fun _ => true) v Dl) ⟨hD, Ex.new hD, upd_same⟩ (fun _ _ _ p => ⟨ex_t (((e.trans e1).trans e2).trans p.2.1) hx, ex_t (((e.trans e1).trans e2).trans p.2.1) hy⟩) (fun i x H3 H' hi p y => by
    obtain ⟨T, x1, x2, rfl, hT, rfl, f1, f2⟩ := y
    have p' : Cw H2 (fun _ => true) v Dl i (upd H3 T (.tup [x1, x2])) := ⟨p.1, p.2.1.trans (Ex.new hT), by rw [upd_ne (ne_of_none p.2.2 hT)]; exact p.2.2⟩
    exact ⟨T, [x1, x2], rfl, .inl (.inl upd_same), rfl, x1, [x2], rfl, x2, [], rfl, rfl, hw _ _, cw_turn p' (by omega) et_yes (fun _ => he i x1 x2 H2 ((e.trans e1).trans e2) f1 f2)⟩)
    (fun H' p => q Dl H' (fresh_back (e1.trans e2) p.1) ((e1.trans e2).trans p.2.1) p.2.2)⟩⟩
theorem et_andF (h1 : EvT t σ H false) : EvT (tAnd t u) σ H false := fun H1 e Q q => h1 H1 e _ fun H2 e2 => q H2 e2
theorem et_andT {b : Bool} (h1 : EvT t σ H true) (h2 : EvT u σ H b) : EvT (tAnd t u) σ H b := fun H1 e Q q => h1 H1 e _ fun H2 e2 => h2 H2 (e.trans e2) Q fun H3 e3 => q H3 (e2.trans e3)
theorem et_orT (h1 : EvT t σ H true) : EvT (tOr t u) σ H true := fun H1 e Q q => h1 H1 e _ fun H2 e2 => q H2 e2
theorem et_orF {b : Bool} (h1 : EvT t σ H false) (h2 : EvT u σ H b) : EvT (tOr t u) σ H b := fun H1 e Q q => h1 H1 e _ fun H2 e2 => h2 H2 (e.trans e2) Q fun H3 e3 => q H3 (e2.trans e3)
theorem ev_andF (h1 : Ev ta σ H (.bl false)) : Ev (tAndV ta tb) σ H (.bl false) := fun H1 e Q q => h1 H1 e _ fun H2 e2 => ⟨false, rfl, q H2 e2⟩
theorem ev_andT {b : Bool} (h1 : Ev ta σ H (.bl true)) (h2 : Ev tb σ H (.bl b)) : Ev (tAndV ta tb) σ H (.bl b) := fun H1 e Q q => h1 H1 e _ fun H2 e2 => ⟨true, rfl, h2 H2 (e.trans e2) Q fun H3 e3 => q H3 (e2.trans e3)⟩
theorem k_tt : kitB "tuple" "tuple" = some true := by decide +kernel
theorem k_it : kitB "int" "tuple" = some false := by decide +kernel
theorem k_st : kitB "str" "tuple" = some false := by decide +kernel
theorem k_ti : kitB "tuple" "int" = some false := by decide +kernel
theorem k_ii : kitB "int" "int" = some true := by decide +kernel
theorem k_si : kitB "str" "int" = some false := by decide +kernel
theorem k_ts : kitB "tuple" "str" = some false := by decide +kernel
theorem k_is : kitB "int" "str" = some false := by decide +kernel
theorem k_ss : kitB "str" "str" = some true := by decide +kernel
theorem k_ib : kitB "int" "bool" = some false := by decide +kernel
theorem k_bb : kitB "bool" "bool" = some true := by decide +kernel
theorem ev_callC {sp : Sp} {vs : List V} {E : XK} {ta : TA} (h : EvA ta σ H vs) (hs : SpV sp vs H z) : Ev (tCall sp [] E ta) σ H z := ev_call h (by rw [List.append_nil]; exact hs)
end
/-! ### lists of data, empty or not -/
theorem all_items {α : Type} (a0 : α) (p : α → Bool) (ds : List α) : ((List.range ds.length).map fun i => p (ds.getD i a0)).all id = ds.all p := by
  have h : ((List.range ds.length).map fun i => p (ds.getD i a0)) = ds.map p := by
    apply List.ext_getElem
    · simp
    · intro i h1 h2
      simp at h1
      simp [List.getD_eq_getElem?_getD, List.getElem?_eq_getElem h1]
  rw [h, List.all_map]
  rfl
theorem zip_items {α β : Type} (a0 : α) (b0 : β) (p : α → β → Bool) : ∀ (ks : List α) (ds : List β), ks.length = ds.length → ((List.range ds.length).map fun i => p (ks.getD i a0) (ds.getD i b0)).all id = (List.zipWith p ks ds).all id := fun ks ds hl => by
  have h : ((List.range ds.length).map fun i => p (ks.getD i a0) (ds.getD i b0)) = List.zipWith p ks ds := by
    apply List.ext_getElem
    · simp [hl]
    · intro i h1 h2
      simp at h1
      have h3 : i < ks.length := by omega
      simp [List.getD_eq_getElem?_getD, List.getElem?_eq_getElem h1, List.getElem?_eq_getElem h3]
  rw [h]
theorem iskAll_zip : ∀ (ks : List Kd) (ds : List PyData), iskAll ks ds = (decide (ds.length = ks.length) && (List.zipWith isk ks ds).all id)
  | [], [] => by rw [iskAll]; rfl
  | [], _ :: _ => by simp [iskAll]
  | _ :: _, [] => by rw [iskAll]; rfl
  | k :: ks, d :: ds => by
    rw [iskAll, iskAll_zip ks ds]
    have e : decide ((d :: ds).length = (k :: ks).length) = decide (ds.length = ks.length) := decide_eq_decide.mpr (by simp)
    rw [e]
    show (isk k d && (decide (ds.length = ks.length) && (List.zipWith isk ks ds).all id)) = (decide (ds.length = ks.length) && (isk k d && (List.zipWith isk ks ds).all id))
    cases isk k d <;> cases decide (ds.length = ks.length) <;> rfl
theorem iskAll_at (ks : List Kd) (ds : List PyData) : (decide (V.int (ds.length : Int) = V.int (ks.length : Int)) && (decide (ds.length = ks.length) && ((List.range ds.length).map fun i => isk (ks.getD i .int) (ds.getD i .none)).all id)) = iskAll ks ds := by
  rw [iskAll_zip]
  by_cases h : ds.length = ks.length
  · rw [zip_items .int .none isk ks ds h.symm, decide_eq_true h, h, decide_eq_true rfl]
    rfl
  · rw [decide_eq_false h, decide_eq_false (fun e => h (by injection e with e; exact Int.ofNat.inj e))]
    rfl
theorem mem_given {n : Nat} {f : Nat → Bool} {v : Nat → V} {x : V} (h : x ∈ given n f v) : ∃ i, i < n ∧ f i = true ∧ x = v i := by
  unfold given at h
  obtain ⟨i, hi, rfl⟩ := List.mem_map.mp h
  obtain ⟨h1, h2⟩ := List.mem_filter.mp hi
  exact ⟨i, List.mem_range.mp h1, h2, rfl⟩
theorem given_empty (n : Nat) (f : Nat → Bool) (v : Nat → V) : (given n f v).isEmpty = ((List.range n).map fun i => !f i).all id := by
  unfold given
  rw [Bool.eq_iff_iff, List.isEmpty_iff, List.map_eq_nil_iff, List.filter_eq_nil_iff, List.all_map, List.all_eq_true]
  constructor
  · intro h i hi
    have := h i hi
    simpa using this
  · intro h i hi
    have := h i hi
    simpa using this
section
variable {K : PySem.W.Frag} {σ : L2.St} {H H' : Hp} {ta tb tc te tx : TE}
theorem dpAll_some {m : Nat} : ∀ {xs : List V}, (∀ x ∈ xs, ∃ d, Vd K H x d ∧ Dk m d) → ∃ ds, DpAll K H xs ds ∧ ds.isEmpty = xs.isEmpty ∧ ∀ d ∈ ds, Dk m d
  | [], _ => ⟨[], .nil, rfl, fun _ h => nomatch h⟩
  | x :: xs, h => by
    obtain ⟨d, h1, h2⟩ := h x List.mem_cons_self
    obtain ⟨ds, h3, h4, h5⟩ := dpAll_some fun y hy => h y (List.mem_cons_of_mem _ hy)
    refine ⟨d :: ds, .cons h1.dp h3, rfl, fun e he => ?_⟩
    rcases List.mem_cons.mp he with rfl | he
    · exact h2
    · exact h5 e he
theorem shaped_list {m : Nat} {ds : List PyData} (hm : m ≤ 60) (h : ∀ d ∈ ds, Dk m d) : SeqAt.shaped (.list ds) = true := by
  unfold SeqAt.shaped
  have h1 : (PyData.list ds).canLay0 = true := lay_all fun d hd => (h d hd).lay.1
  have h2 : (PyData.list ds).depth ≤ 64 := Nat.le_trans (Nat.succ_le_succ (depth_all fun d hd => (h d hd).lay.2)) (by omega)
  rw [h1, decide_eq_true h2]
  rfl
/-- [..] == [] -/
theorem ev_nil {m : Nat} {xs : List V} (hm : m ≤ 60) (ha : EvL ta σ H xs) (hx : ∀ x ∈ xs, ∀ H1, Ex H H1 → ∃ d, Vd K H1 x d ∧ Dk m d) : Ev (tOp (rEqD K) ta (tLst tNil)) σ H (.bl xs.isEmpty) :=
  ev_opLL ha (el_lst ea_nil (by decide)) fun p q H1 hp hq e => fun H2 e2 Q k => by
    obtain ⟨ds, h3, h4, h5⟩ := dpAll_some (K := K) (H := H2) fun x hx' => hx x hx' H2 (e.trans e2)
    refine ⟨.list ds, .list [], .lst (sq_of (e2 _ _ hp)) h3, .lst (sq_of (e2 _ _ hq)) .nil, shaped_list hm h5, by decide +kernel, ?_⟩
    have e3 : PyData.eqv (.list ds) (.list []) = xs.isEmpty := by
      rw [← h4]
      cases ds with
      | nil => rfl
      | cons d ds => rfl
    rw [e3]
    exact k H2 (Ex.refl H2)
theorem et_val {b : Bool} (h : Ev te σ H (.bl b)) : EvT (tB te) σ H b := et_B h
end
theorem Dk.item {n : Nat} {ds : List PyData} (h : Dk (n + 1) (.tuple ds)) : ds.length ≤ 60 ∧ ∀ d ∈ ds, Dk n d := by
  cases h with
  | tup h1 h2 => exact ⟨h1, h2⟩
theorem getD_at {α : Type} {ds : List α} {i : Nat} {a0 : α} (h : i < ds.length) : ds[i]? = some (ds.getD i a0) := by
  rw [List.getD_eq_getElem?_getD, List.getElem?_eq_getElem h]
  rfl
theorem OkK.shaped {n : Nat} {k : Kd} (h : OkK n k) (hn : n ≤ 20) : SeqAt.shaped k.data = true := h.dk.shaped (by omega)
theorem shaped_int : SeqAt.shaped (.str "int") = true := by decide +kernel
theorem shaped_word : SeqAt.shaped (.str "word") = true := by decide +kernel
end Cr
namespace Cr
open PySem PySem.Spec PyProof.Rows L2 Evl
section
variable {P : Program} {w : World} {K : PySem.W.Frag} {mg : Str → Option Value} {base : Heap}
def spWord : Sp := fun vs H Q _ => ∃ s : Str, vs = [.str s] ∧ s.length ≤ 1000 ∧ ∀ H', Same H H' → Q (.bl (isWord s)) H'
theorem sign_ok (c : Nat) : (!decide ((⟨#[c]⟩ : Str).cps.toList < ("a" : Str).cps.toList) && !decide (("z" : Str).cps.toList < (⟨#[c]⟩ : Str).cps.toList)) = (decide (97 ≤ c) && decide (c ≤ 122)) := by
  rw [show ("a" : Str).cps.toList = [97] by decide +kernel, show ("z" : Str).cps.toList = [122] by decide +kernel, show (⟨#[c]⟩ : Str).cps.toList = [c] from rfl, lt_sign, lt_sign, ← decide_not, ← decide_not]
  congr 1
  · exact decide_eq_decide.mpr (by omega)
  · exact decide_eq_decide.mpr (by omega)
theorem all_signs (z : Str) (p : Nat → Bool) : ((List.range z.cps.size).map fun i => p (z.cps.toList.getD i 0)).all id = z.cps.toList.all p := by
  have h : ∀ l : List Nat, ((List.range l.length).map fun i => p (l.getD i 0)) = l.map p := fun l => by
    apply List.ext_getElem
    · simp
    · intro i h1 h2
      simp at h1
      simp [List.getD_eq_getElem?_getD, List.getElem?_eq_getElem h1]
  rw [← Array.length_toList, h, List.all_map]
  rfl
def spKit (K : PySem.W.Frag) : Sp := fun vs H Q _ => ∃ (v : V) (k : Kd) (n : Nat), vs = [v] ∧ Vd K H v k.data ∧ OkK n k ∧ n ≤ 20 ∧
  ∀ r H', Same H H' → (∀ ks, k = .tup ks → ∃ a, r = .ref a ∧ Vd K H' (.ref a) (.tuple (dataAll ks))) → ((∀ ks, k ≠ .tup ks) → ∃ a, r = .ref a ∧ Vd K H' (.ref a) (.tuple [])) → Q r H'
def spKil (K : PySem.W.Frag) : Sp := fun vs H Q _ => ∃ (v : V) (k : Kd) (n : Nat), vs = [v] ∧ Vd K H v k.data ∧ OkK n k ∧ n ≤ 20 ∧
  ∀ r H', Same H H' → (∀ j, k = .lst j → r ≠ .non ∧ Vd K H' r j.data) → ((∀ j, k ≠ .lst j) → r = .non) → Q r H'
theorem vd_non {H : Hp} {v : V} {d : PyData} (h : Vd K H v d) : v ≠ .non := by cases h <;> exact fun e => nomatch e
end
section
variable {P : Program} {w : World} {K : PySem.W.Frag} {mg : Str → Option Value} {base : Heap}
def spIs (K : PySem.W.Frag) (n : Nat) : Sp := fun vs H Q _ => ∃ (v u : V) (d : PyData) (k : Kd), vs = [v, u] ∧ Vd K H v d ∧ Dk 20 d ∧ Vd K H u k.data ∧ OkK n k ∧ n ≤ 20 ∧ ∀ H', Same H H' → Q (.bl (isk k d)) H'
theorem spIs_0 (vs : List V) (H : Hp) (Q : VK) (E : XK) : ¬ spIs K 0 vs H Q E := fun h => by
  obtain ⟨_, _, _, _, _, _, _, _, h, _⟩ := h
  cases h
theorem is_call {n : Nat} {H : Hp} {v u : V} {d : PyData} {k : Kd} (hv : Vd K H v d) (hd : Dk 20 d) (hu : Vd K H u k.data) (hk : OkK n k) (hn : n ≤ 20) : SpV (spIs K n) [v, u] H (.bl (isk k d)) := fun H1 e Q q E =>
  ⟨v, u, d, k, rfl, hv.keep (Kt.same e), hd, hu.keep (Kt.same e), hk, hn, fun H' e' => q H' e'⟩
end
section
variable {P : Program} {w : World} {K : PySem.W.Frag} {mg : Str → Option Value} {base : Heap}
def spLWord : Sp := fun vs H Q _ => ∃ s : Str, vs = [.str s] ∧ s.length ≤ 1000 ∧ SeqAt.shaped (.str s) = true ∧ ∀ H', Same H H' → Q (.bl (isWord s)) H'
theorem abc_list : ("abcdefghijklmnopqrstuvwxyz" : Str).cps.toList = List.range' 97 26 := by decide +kernel
theorem abc_sign (c : Nat) : (!(!decide (c ∈ ("abcdefghijklmnopqrstuvwxyz" : Str).cps.toList))) = (decide (97 ≤ c) && decide (c ≤ 122)) := by
  rw [abc_list, Bool.not_not, Bool.eq_iff_iff, Bool.and_eq_true, decide_eq_true_iff, decide_eq_true_iff, decide_eq_true_iff, List.mem_range'_1]
  omega
theorem sign_shaped {s : Str} {i c : Nat} (h : SeqAt.shaped (.str s) = true) (hc : s.cps[i]? = some c) : SeqAt.shaped (.str ⟨#[c]⟩) = true := by
  have h1 : PyData.strOk s = true := SeqAt.canLay_of_shaped h
  obtain ⟨hi, rfl⟩ := Array.getElem?_eq_some_iff.mp hc
  have h2 : s.cps.all (· < 0x110000) = true := h1
  have h3 := (Array.all_eq_true.mp h2) i hi
  unfold SeqAt.shaped
  have h4 : (PyData.str ⟨#[s.cps[i]]⟩).canLay0 = true := by
    show PyData.strOk ⟨#[s.cps[i]]⟩ = true
    show (#[s.cps[i]]).all (· < 0x110000) = true
    simpa using h3
  rw [h4]
  rfl
theorem one_items {n : Nat} {f : Nat → Bool} {H : Hp} : ∀ x ∈ given n f (fun _ => V.int 1), ∀ H1, Ex H H1 → ∃ d, Vd K H1 x d ∧ Dk 0 d := fun x hx H1 _ => by
  obtain ⟨i, _, _, rfl⟩ := mem_given hx
  exact ⟨_, .int 1, .int 1⟩
end
section
variable {P : Program} {w : World} {K : PySem.W.Frag} {mg : Str → Option Value} {base : Heap}
def spCell (K : PySem.W.Frag) : Sp := fun vs H Q _ => ∃ (a : Addr) (ns : List Int) (k : Nat), vs = [.ref a, .int (k : Int)] ∧ SqL K H a (ns.map V.int) ∧ ∀ c H', Same H H' → Q (.int c) H'
def spDraw (K : PySem.W.Frag) : Sp := fun vs H Q _ => ∃ (a b : Addr) (ns ms : List Int) (k : Nat), vs = [.ref a, .int (k : Int), .ref b] ∧ SqL K H a (ns.map V.int) ∧ SqL K H b (ms.map V.int) ∧ ms.length ≤ 1000 ∧ (∀ m ∈ ms, 0 < m ∧ m < 1073741824) ∧
  ∀ p (xs : List Int) H', Same H H' → H p = none → H' p = some (.lst (xs.map V.int)) → xs.length = ms.length → Q (.ref p) H'
theorem map_int {ms : List Int} {i : Nat} {x : V} (h : (ms.map V.int)[i]? = some x) : ∃ m, ms[i]? = some m ∧ x = .int m := by
  rw [List.getElem?_map] at h
  cases e : ms[i]? with
  | none =>
    rw [e] at h
    cases h
  | some m =>
    rw [e] at h
    cases h
    exact ⟨m, rfl, rfl⟩
def Bx (H : Hp) (b d : Addr) : Prop := ∃ (ns : List Int) (i : Nat), H b = some (.lst [.ref d, .int (i : Int)]) ∧ H d = some (.lst (ns.map V.int)) ∧ d ≠ b
def Mv (b d : Addr) (H H' : Hp) : Prop := (∀ a o, a ≠ b → H a = some o → H' a = some o) ∧ Bx H' b d
section
variable {H H1 H2 H' : Hp} {b d p : Addr} {o : HO}
theorem Bx.same (h : Bx H b d) (e : Same H H') : Bx H' b d := by
  obtain ⟨ns, i, h1, h2, h3⟩ := h
  exact ⟨ns, i, e _ _ h1, e _ _ h2, h3⟩
theorem Mv.refl (h : Bx H b d) : Mv b d H H := ⟨fun _ _ _ h => h, h⟩
theorem Mv.trans (m : Mv b d H H1) (n : Mv b d H1 H2) : Mv b d H H2 := ⟨fun a o ne h => n.1 a o ne (m.1 a o ne h), n.2⟩
theorem Mv.same (h : Bx H b d) (e : Same H H') : Mv b d H H' := ⟨fun a o _ h => e a o h, h.same e⟩
theorem Mv.ext (m : Mv b d H H1) (e : Same H1 H2) : Mv b d H H2 := m.trans (.same m.2 e)
theorem Mv.new (m : Mv b d H H1) (h : H1 p = none) : Mv b d H (upd H1 p o) := m.ext (same_new h)
theorem Bx.neb (h : Bx H b d) (hp : H p = none) : p ≠ b ∧ p ≠ d := by
  obtain ⟨ns, i, h1, h2, h3⟩ := h
  exact ⟨fun e => (by rw [e, h1] at hp; cases hp), fun e => (by rw [e, h2] at hp; cases hp)⟩
/-- an object that H does not know changes -/
theorem Mv.mut (m : Mv b d H H1) (hb : Bx H b d) (hp : H p = none) : Mv b d H (upd H1 p o) := by
  obtain ⟨n1, n2⟩ := hb.neb hp
  obtain ⟨ns, i, h1, h2, h3⟩ := m.2
  exact ⟨fun a u ne h => by rw [upd_ne (ne_of_none h hp)]; exact m.1 a u ne h, ns, i, by rw [upd_ne n1.symm]; exact h1, by rw [upd_ne n2.symm]; exact h2, h3⟩
theorem Mv.kt (m : Mv b d H H1) (hb : Bx H b d) : Kt K H H1 := fun a ys q => by
  obtain ⟨ns, i, h1, h2, h3⟩ := hb
  rcases q with (q | ⟨ob, q⟩) | q
  · exact .inl (.inl (m.1 _ _ (ne_of q h1 (fun z => nomatch z)) q))
  · exact .inl (.inr ⟨ob, m.1 _ _ (ne_of q h1 (fun z => nomatch z)) q⟩)
  · exact .inr q
/-- a list that is not the box -/
theorem Mv.sql {a : Addr} {xs : List V} (m : Mv b d H H1) (ne : a ≠ b) (h : SqL K H a xs) : SqL K H1 a xs := by
  rcases h with (h | ⟨ob, h⟩) | h
  · exact .inl (.inl (m.1 _ _ ne h))
  · exact .inl (.inr ⟨ob, m.1 _ _ ne h⟩)
  · exact .inr h
end
def spBox (K : PySem.W.Frag) : Sp := fun vs H Q _ => ∃ (a : Addr) (ns : List Int) (k : Nat), vs = [.ref a, .int (k : Int)] ∧ SqL K H a (ns.map V.int) ∧
  ∀ b d H', Same H H' → H b = none → Bx H' b d → Q (.ref b) H'
theorem rep97 : (List.replicate (Int.toNat 20) [V.int 97]).flatten = (List.replicate 20 (97 : Int)).map V.int := by decide
theorem m97 : ∀ m ∈ List.replicate 20 (97 : Int), 0 < m ∧ m < 1073741824 := fun m h => by
  obtain ⟨_, rfl⟩ := List.mem_replicate.mp h
  decide
def spTake : Sp := fun vs H Q _ => ∃ (b d : Addr) (m : Int), vs = [.ref b, .int m] ∧ Bx H b d ∧ 0 < m ∧ ∀ r H', 0 ≤ r → r < m → Mv b d H H' → Q (.int r) H'
end
def Vds (K : PySem.W.Frag) (H : Hp) (vs : List V) (ds : List PyData) : Prop := vs.length = ds.length ∧ ∀ (i : Nat) v d, vs[i]? = some v → ds[i]? = some d → Vd K H v d
section
variable {K : PySem.W.Frag} {H H' : Hp}
theorem Vds.nil : Vds K H [] [] := ⟨rfl, fun i v d h _ => by simp at h⟩
theorem Vds.keep {vs : List V} {ds : List PyData} (k : Kt K H H') (h : Vds K H vs ds) : Vds K H' vs ds := ⟨h.1, fun i v d h1 h2 => (h.2 i v d h1 h2).keep k⟩
theorem Vds.snoc {vs : List V} {ds : List PyData} {v : V} {d : PyData} (h : Vds K H vs ds) (hv : Vd K H v d) : Vds K H (vs ++ [v]) (ds ++ [d]) := by
  refine ⟨by rw [List.length_append, List.length_append, h.1]; rfl, fun i x e h1 h2 => ?_⟩
  have hl := h.1
  by_cases hi : i < vs.length
  · rw [List.getElem?_append_left hi] at h1
    rw [List.getElem?_append_left (by omega)] at h2
    exact h.2 i x e h1 h2
  · rw [List.getElem?_append_right (by omega)] at h1
    rw [List.getElem?_append_right (by omega), ← hl] at h2
    obtain ⟨z, hz⟩ : ∃ z, i - vs.length = z := ⟨_, rfl⟩
    rw [hz] at h1 h2
    match z with
    | 0 =>
      cases h1
      cases h2
      exact hv
    | z + 1 => simp at h1
theorem Vds.cons {vs : List V} {ds : List PyData} {v : V} {d : PyData} (hv : Vd K H v d) (h : Vds K H vs ds) : Vds K H (v :: vs) (d :: ds) := by
  refine ⟨by rw [List.length_cons, List.length_cons, h.1], fun i x e h1 h2 => ?_⟩
  match i with
  | 0 =>
    cases h1
    cases h2
    exact hv
  | i + 1 => exact h.2 i x e (by simpa using h1) (by simpa using h2)
theorem Vds.app {vs ws : List V} {ds es : List PyData} (h : Vds K H vs ds) (g : Vds K H ws es) : Vds K H (vs ++ ws) (ds ++ es) := by
  refine ⟨by rw [List.length_append, List.length_append, h.1, g.1], fun i x e h1 h2 => ?_⟩
  have hl := h.1
  by_cases hi : i < vs.length
  · rw [List.getElem?_append_left hi] at h1
    rw [List.getElem?_append_left (by omega)] at h2
    exact h.2 i x e h1 h2
  · rw [List.getElem?_append_right (by omega)] at h1
    rw [List.getElem?_append_right (by omega), ← hl] at h2
    exact g.2 _ x e h1 h2
theorem Vds.tup {vs : List V} {ds : List PyData} {a : Addr} (h : Vds K H vs ds) (ha : SqT K H a vs) : Vd K H (.ref a) (.tuple ds) := .tup ha h.1 h.2
end
section
variable {P : Program} {w : World} {K : PySem.W.Frag} {mg : Str → Option Value} {base : Heap}
def spLKind (K : PySem.W.Frag) (N : Nat) : Sp := fun vs H Q _ => ∃ (b d : Addr) (n : Nat), vs = [.ref b, .int (n : Int)] ∧ Bx H b d ∧ n < N ∧ ∀ v kd H', Mv b d H H' → Vd K H' v (Kd.data kd) → OkK (n + 1) kd → Q v H'
def spLVal (K : PySem.W.Frag) (N : Nat) : Sp := fun vs H Q _ => ∃ (b d : Addr) (u : V) (kd : Kd), vs = [.ref b, u] ∧ Bx H b d ∧ Vd K H u kd.data ∧ OkK N kd ∧ N ≤ 10 ∧ ∀ v e H', Mv b d H H' → Vd K H' v e → Dk N e → isk kd e = true → Q v H'
theorem iskAll_of : ∀ {ks : List Kd} {ds : List PyData}, ks.length = ds.length → (∀ (i : Nat) k d, ks[i]? = some k → ds[i]? = some d → isk k d = true) → iskAll ks ds = true
  | [], [], _, _ => by rw [iskAll]
  | [], _ :: _, h, _ => by simp at h
  | _ :: _, [], h, _ => by simp at h
  | k :: ks, d :: ds, h, q => by
    rw [iskAll, q 0 k d rfl rfl, iskAll_of (by simpa using h) fun i j e h1 h2 => q (i + 1) j e (by simpa using h1) (by simpa using h2)]
    rfl
theorem spLVal_0 (vs : List V) (H : Hp) (Q : VK) (E : XK) : ¬ spLVal K 0 vs H Q E := fun h => by
  obtain ⟨_, _, _, _, _, _, _, h, _⟩ := h
  cases h
end
end Cr
namespace Cr
open PySem PySem.Spec PyProof.Rows L2 Evl
/-! ### conditions -/
inductive Cd where
  | atmost (n : Int) | divides (n : Int) | is (s : Str) | item (i : Int) (c : Cd) | every (c : Cd) | some_ (c : Cd) | size (c : Cd) | sum (c : Cd) | rising | different | not_ (c : Cd) | and_ (c d : Cd) | or_ (c d : Cd)
def Cd.data : Cd → PyData
  | .atmost n => .tuple [.str "atmost", .int n]
  | .divides n => .tuple [.str "divides", .int n]
  | .is s => .tuple [.str "is", .str s]
  | .item i c => .tuple [.str "item", .int i, c.data]
  | .every c => .tuple [.str "every", c.data]
  | .some_ c => .tuple [.str "some", c.data]
  | .size c => .tuple [.str "size", c.data]
  | .sum c => .tuple [.str "sum", c.data]
  | .rising => .tuple [.str "rising"]
  | .different => .tuple [.str "different"]
  | .not_ c => .tuple [.str "not", c.data]
  | .and_ c d => .tuple [.str "and", c.data, d.data]
  | .or_ c d => .tuple [.str "or", c.data, d.data]
inductive OkC : Nat → Cd → Prop
  | atmost {n : Nat} (i : Int) : OkC (n + 1) (.atmost i)
  | divides {n : Nat} (i : Int) : OkC (n + 1) (.divides i)
  | is {n : Nat} {s : Str} : SeqAt.shaped (.str s) = true → s.length ≤ 1000 → OkC (n + 1) (.is s)
  | item {n : Nat} (i : Int) {c : Cd} : OkC n c → OkC (n + 1) (.item i c)
  | every {n : Nat} {c : Cd} : OkC n c → OkC (n + 1) (.every c)
  | some_ {n : Nat} {c : Cd} : OkC n c → OkC (n + 1) (.some_ c)
  | size {n : Nat} {c : Cd} : OkC n c → OkC (n + 1) (.size c)
  | sum {n : Nat} {c : Cd} : OkC n c → OkC (n + 1) (.sum c)
  | rising {n : Nat} : OkC (n + 1) .rising
  | different {n : Nat} : OkC (n + 1) .different
  | not_ {n : Nat} {c : Cd} : OkC n c → OkC (n + 1) (.not_ c)
  | and_ {n : Nat} {c d : Cd} : OkC n c → OkC n d → OkC (n + 1) (.and_ c d)
  | or_ {n : Nat} {c d : Cd} : OkC n c → OkC n d → OkC (n + 1) (.or_ c d)
theorem OkC.mono {n m : Nat} {c : Cd} (h : OkC n c) (hm : n ≤ m) : OkC m c := by
  induction h generalizing m with
  | _ => obtain ⟨m', rfl⟩ : ∃ m', m = m' + 1 := ⟨m - 1, by omega⟩; first | exact .atmost _ | exact .divides _ | exact .rising | exact .different | (constructor <;> first | assumption | (rename_i ih; exact ih (by omega)) | (rename_i ih _; exact ih (by omega)))
/-! ### which condition fits which kind -/
def Kd.isInt : Kd → Bool
  | .int => true
  | _ => false
def Kd.isWord : Kd → Bool
  | .word => true
  | _ => false
def Kd.isFlat : Kd → Bool
  | .int => true
  | .word => true
  | _ => false
def Kd.parts : Kd → List Kd
  | .tup ks => ks
  | _ => []
def fitsC : Cd → Kd → Bool
  | .atmost _, k => k.isInt
  | .divides n, k => k.isInt && (decide (1 ≤ n) && decide (n ≤ 100))
  | .is s, k => k.isWord && Cr.isWord s
  | .item i c, k => (decide (0 ≤ i) && decide (i < (k.parts.length : Int))) && fitsC c (k.parts.getD i.toNat .int)
  | .every c, k => match k with | .lst j => fitsC c j | _ => false
  | .some_ c, k => match k with | .lst j => fitsC c j | _ => false
  | .size c, k => match k with | .lst _ => fitsC c .int | _ => false
  | .sum c, k => match k with | .lst j => j.isInt && fitsC c .int | _ => false
  | .rising, k => match k with | .lst j => j.isInt | _ => false
  | .different, k => match k with | .lst _ => true | _ => false
  | .not_ c, k => fitsC c k
  | .and_ c d, k => fitsC c k && fitsC d k
  | .or_ c d, k => fitsC c k && fitsC d k
def Cd.onList : Cd → Bool
  | .every _ | .some_ _ | .size _ | .sum _ | .rising | .different => true
  | _ => false
theorem eqv_int (k : Kd) : PyData.eqv k.data (.str "int") = k.isInt := by
  cases k with
  | int => rw [Kd.data]; decide +kernel
  | word => rw [Kd.data]; decide +kernel
  | lst j => rw [Kd.data]; rfl
  | tup ks => rw [Kd.data]; rfl
theorem eqv_word (k : Kd) : PyData.eqv k.data (.str "word") = k.isWord := by
  cases k with
  | int => rw [Kd.data]; decide +kernel
  | word => rw [Kd.data]; decide +kernel
  | lst j => rw [Kd.data]; rfl
  | tup ks => rw [Kd.data]; rfl
section
variable {K : PySem.W.Frag} {σ : L2.St} {H0 H H' : Hp} {ta tb tc te tx tl : TE} {t u : TT} {x y z v w : V} {r r' : R2} {tu tz tw : TS} {D : Ends}
/-- kind == 'int', kind == 'word' -/
theorem ev_isInt {k : Kd} {n : Nat} (h : Ev ta σ H v) (hv : Vd K H v k.data) (hk : OkK n k) (hn : n ≤ 20) : Ev (tOp (rEqD K) ta (tC (.str "int"))) σ H (.bl k.isInt) := ev_is (ev_op h ev_c (rv_eqD hv (.str "int") (OkK.shaped hk hn) shaped_int)) (by rw [eqv_int])
theorem ev_isWord {k : Kd} {n : Nat} (h : Ev ta σ H v) (hv : Vd K H v k.data) (hk : OkK n k) (hn : n ≤ 20) : Ev (tOp (rEqD K) ta (tC (.str "word"))) σ H (.bl k.isWord) := ev_is (ev_op h ev_c (rv_eqD hv (.str "word") (OkK.shaped hk hn) shaped_word)) (by rw [eqv_word])
/-- if name == 'x': not so; so -/
theorem skipS {i : Nat} {x y : Str} (e0 : Same H0 H) (h : σ[i]? = some (some (.str x))) (ne : decide (V.str x = V.str y) = false) (k : ∀ H1, Same H0 H1 → tz D σ H1) : tSeq (tIfS (tTest (tOp rEq (tVar i) (tC (.str y)))) tu tNext) tz D σ H :=
  q_when (b := false) (et_is (et_test (ev_op (ev_var h) ev_c (rv_eq rfl))) ne) (fun h => Bool.noConfusion h) fun _ H1 e1 => k H1 (e0.trans e1)
theorem takeS {i : Nat} {x y : Str} (e0 : Same H0 H) (h : σ[i]? = some (some (.str x))) (eq : decide (V.str x = V.str y) = true) (k : ∀ H1, Same H0 H1 → tu { D with nx := tz D } σ H1) : tSeq (tIfS (tTest (tOp rEq (tVar i) (tC (.str y)))) tu tNext) tz D σ H :=
  q_when (b := true) (et_is (et_test (ev_op (ev_var h) ev_c (rv_eq rfl))) eq) (fun _ H1 e1 => k H1 (e0.trans e1)) (fun h => Bool.noConfusion h)
/-- if name in ('x', ..): not so; so -/
theorem skipT {i : Nat} {x : Str} {ys : List V} {ta : TA} (e0 : Same H0 H) (h : σ[i]? = some (some (.str x))) (hy : EvA ta σ H ys) (hl : ys.length ≤ 100000) (fl : ys.all flatV = true) (ne : inV (.str x) ys = false) (k : ∀ H1, Same H0 H1 → tz D σ H1) : tSeq (tIfS (tTest (tOp (rIn K false) (tVar i) (tTup ta))) tu tNext) tz D σ H :=
  q_when (b := false) (et_is (et_test (ev_inU (ev_var h) (eu_tup hy hl) rfl fl)) ne) (fun h => Bool.noConfusion h) fun _ H1 e1 => k H1 (e0.trans e1)
theorem takeT {i : Nat} {x : Str} {ys : List V} {ta : TA} (e0 : Same H0 H) (h : σ[i]? = some (some (.str x))) (hy : EvA ta σ H ys) (hl : ys.length ≤ 100000) (fl : ys.all flatV = true) (eq : inV (.str x) ys = true) (k : ∀ H1, Same H0 H1 → tu { D with nx := tz D } σ H1) : tSeq (tIfS (tTest (tOp (rIn K false) (tVar i) (tTup ta))) tu tNext) tz D σ H :=
  q_when (b := true) (et_is (et_test (ev_inU (ev_var h) (eu_tup hy hl) rfl fl)) eq) (fun _ H1 e1 => k H1 (e0.trans e1)) (fun h => Bool.noConfusion h)
theorem skipL {i : Nat} {x : Str} {ys : List V} {ta : TA} (e0 : Same H0 H) (h : σ[i]? = some (some (.str x))) (hy : EvA ta σ H ys) (hl : ys.length ≤ 100000) (fl : ys.all flatV = true) (ne : inV (.str x) ys = false) (k : ∀ H1, Same H0 H1 → tz D σ H1) : tSeq (tIfS (tTest (tOp (rIn K false) (tVar i) (tLst ta))) tu tNext) tz D σ H :=
  q_when (b := false) (et_is (et_test (ev_opL (ev_var h) (el_lst hy hl) fun p H1 hp e => rv_isL (sq_of hp) rfl fl)) ne) (fun h => Bool.noConfusion h) fun _ H1 e1 => k H1 (e0.trans e1)
theorem takeL {i : Nat} {x : Str} {ys : List V} {ta : TA} (e0 : Same H0 H) (h : σ[i]? = some (some (.str x))) (hy : EvA ta σ H ys) (hl : ys.length ≤ 100000) (fl : ys.all flatV = true) (eq : inV (.str x) ys = true) (k : ∀ H1, Same H0 H1 → tu { D with nx := tz D } σ H1) : tSeq (tIfS (tTest (tOp (rIn K false) (tVar i) (tLst ta))) tu tNext) tz D σ H :=
  q_when (b := true) (et_is (et_test (ev_opL (ev_var h) (el_lst hy hl) fun p H1 hp e => rv_isL (sq_of hp) rfl fl)) eq) (fun _ H1 e1 => k H1 (e0.trans e1)) (fun h => Bool.noConfusion h)
/-- t[1:], a new tuple; a comprehension over a new tuple -/
theorem eu_sl1 {a : Addr} {x : V} {xs : List V} (h : Ev te σ H (.ref a)) (hs : SqT K H a (x :: xs)) : EvU (tSl (rSlT K) te (tPart (tC (.int 1))) tNoPart) σ H xs := fun H1 e Q q => h H1 e _ fun H2 e2 => by
  refine ⟨1, rfl, a, x :: xs, rfl, ex_t (e.trans e2) hs, fun hw => ?_, fun p hp => ?_⟩
  · have h1 := hw.1
    rw [show HT.sIx (x :: xs).length 0 (some 1) = min 1 (x :: xs).length from HT.sIx_nat _ 0 1, List.length_cons] at h1
    omega
  · have hc : cutV (x :: xs) (some 1) none = xs := by
      unfold cutV
      rw [show HT.sIx (x :: xs).length 0 (some 1) = min 1 (x :: xs).length from HT.sIx_nat _ 0 1, HT.sIx_none, List.length_cons, show min 1 (xs.length + 1) = 1 by omega]
      show (List.take (xs.length + 1 - 1) xs) = xs
      rw [Nat.add_sub_cancel]
      exact List.take_length
    rw [hc]
    exact q p _ (fresh_back e2 hp) (e2.trans (Ex.new hp)) upd_same
theorem el_lcNT {xs : List V} {j : Nat} {vs : List Nat} (f : Nat → Bool) (v : Nat → V) (h : EvU tl σ H xs) (hz : xs.length ≤ 40000) (hw : ∀ x, wipe ((wipe σ vs).set j (some x)) vs = wipe σ vs)
    (ht : ∀ (i : Nat) (x : V) H1, Ex H H1 → xs[i]? = some x → EvT t ((wipe σ vs).set j (some x)) H1 (f i)) (he : ∀ (i : Nat) (x : V) H1, Ex H H1 → xs[i]? = some x → f i = true → Ev te ((wipe σ vs).set j (some x)) H1 (v i)) :
    EvL (tLc (iTup K tl) (gName j) t te vs) σ H (given xs.length f v) := fun H0 e Q q => h H0 e _ fun a H1 ha e1 hx => ⟨a, rfl, ⟨xs, st_of hx⟩, fun Dl hD =>
  lc_tup (xs := xs) (Cw H1 f v Dl) ⟨hD, Ex.new hD, upd_same⟩ (fun i H' _ p => st_of (p.2.1 a _ hx)) (fun i x H' hi p => ⟨hw x, cw_turn p (by have := (List.getElem?_eq_some_iff.mp hi).1; omega) (ht i x H1 (e.trans e1) hi) (fun hf => he i x H1 (e.trans e1) hi hf)⟩)
    (fun H' p => q Dl H' (fresh_back e1 p.1) (e1.trans p.2.1) p.2.2)⟩
end
def spFits (K : PySem.W.Frag) (n : Nat) : Sp := fun vs H Q _ => ∃ (v u : V) (c : Cd) (k : Kd), vs = [v, u] ∧ Vd K H v c.data ∧ OkC n c ∧ Vd K H u k.data ∧ OkK 10 k ∧ ∀ H', Same H H' → Q (.bl (fitsC c k)) H'
def spFitsItem (K : PySem.W.Frag) (n : Nat) : Sp := fun vs H Q _ => ∃ (i : Int) (v u : V) (c : Cd) (ks : List Kd), vs = [.int i, v, u] ∧ Vd K H v c.data ∧ OkC n c ∧ Vd K H u (.tuple (dataAll ks)) ∧ (∀ k ∈ ks, OkK 10 k) ∧
  ∀ H', Same H H' → Q (.bl ((decide (0 ≤ i) && decide (i < (ks.length : Int))) && fitsC c (ks.getD i.toNat .int))) H'
def spFitsList (K : PySem.W.Frag) (n : Nat) : Sp := fun vs H Q _ => ∃ (v u : V) (c : Cd) (j : Kd), vs = [v, u] ∧ Vd K H v c.data ∧ OkC (n + 1) c ∧ c.onList = true ∧ Vd K H u j.data ∧ OkK 10 j ∧ ∀ H', Same H H' → Q (.bl (fitsC c (.lst j))) H'
section
variable {K : PySem.W.Frag} {H : Hp}
theorem spFits_0 (vs : List V) (H : Hp) (Q : VK) (E : XK) : ¬ spFits K 0 vs H Q E := fun h => by
  obtain ⟨_, _, _, _, _, _, h, _⟩ := h
  cases h
theorem fits_call {n : Nat} {v u : V} {c : Cd} {k : Kd} (hv : Vd K H v c.data) (hc : OkC n c) (hu : Vd K H u k.data) (hk : OkK 10 k) : SpV (spFits K n) [v, u] H (.bl (fitsC c k)) := fun H1 e Q q E =>
  ⟨v, u, c, k, rfl, hv.keep (Kt.same e), hc, hu.keep (Kt.same e), hk, fun H' e' => q H' e'⟩
/-- the condition's tuple: its name and the rest -/
theorem Cd.name {v : V} {c : Cd} (h : Vd K H v c.data) : ∃ a x xs, v = .ref a ∧ SqT K H a (x :: xs) := by
  cases c <;> (rw [Cd.data] at h; first | (obtain ⟨a, x, rfl, hs, _⟩ := h.g1; exact ⟨a, x, _, rfl, hs⟩) | (obtain ⟨a, x, y, rfl, hs, _⟩ := h.g2; exact ⟨a, x, _, rfl, hs⟩) | (obtain ⟨a, x, y, z, rfl, hs, _⟩ := h.g3; exact ⟨a, x, _, rfl, hs⟩))
theorem int_data : Vd K H (.str "int") Kd.int.data := by rw [Kd.data]; exact .str _
end
/-! ### kinds without empty tuples; what the law's draws of kinds and conditions promise -/
inductive NeT : Kd → Prop
  | int : NeT .int
  | word : NeT .word
  | lst {k : Kd} : NeT k → NeT (.lst k)
  | tup {ks : List Kd} : 0 < ks.length → ks.length ≤ 4 → (∀ k ∈ ks, NeT k) → NeT (.tup ks)
inductive NeK : Kd → Prop
  | int : NeK .int
  | word : NeK .word
  | lst {k : Kd} : NeK k → NeK (.lst k)
  | tup {ks : List Kd} : 0 < ks.length → ks.length ≤ 2 → (∀ k ∈ ks, NeK k) → (∀ k ∈ ks, k.isFlat = true) → NeK (.tup ks)
theorem NeK.t {k : Kd} (h : NeK k) : NeT k := by
  induction h with
  | int => exact .int
  | word => exact .word
  | lst _ ih => exact .lst ih
  | tup h1 h2 _ _ ih => exact .tup h1 (by omega) ih
def spLKind2 (K : PySem.W.Frag) (N : Nat) : Sp := fun vs H Q _ => ∃ (b d : Addr) (n : Nat), vs = [.ref b, .int (n : Int)] ∧ Bx H b d ∧ n < N ∧ ∀ v kd H', Mv b d H H' → Vd K H' v (Kd.data kd) → OkK (n + 1) kd → NeK kd → Q v H'
def spLLimit (K : PySem.W.Frag) (N : Nat) : Sp := fun vs H Q _ => ∃ (b d : Addr) (u : V) (kd : Kd) (n m : Nat), vs = [.ref b, u, .int (n : Int)] ∧ Bx H b d ∧ Vd K H u kd.data ∧ OkK m kd ∧ NeT kd ∧ n + m ≤ N ∧ N ≤ 15 ∧ ∀ v c H', Mv b d H H' → Vd K H' v (Cd.data c) → OkC N c → Q v H'
theorem OkK.pos {n : Nat} {k : Kd} (h : OkK n k) : 0 < n := by cases h <;> omega
theorem flat_of {k : Kd} (h : OkK 1 k) (hn : NeK k) : k.isFlat = true := by
  cases k with
  | int => rfl
  | word => rfl
  | lst j => cases h with | lst h => exact absurd h.pos (by omega)
  | tup ks =>
    cases h with
    | tup _ h =>
      cases hn with
      | tup h0 _ _ _ =>
        match ks, h0 with
        | k :: ks, _ => exact absurd (h k List.mem_cons_self).pos (by omega)
theorem spLLimit_0 {K : PySem.W.Frag} (vs : List V) (H : Hp) (Q : VK) (E : XK) : ¬ spLLimit K 0 vs H Q E := fun h => by
  obtain ⟨_, _, _, _, n, m, _, _, _, hk, _, hn, _⟩ := h
  have := hk.pos
  omega
theorem item_none {m : Int} {c : Cd} {k : Kd} (h : k.parts = []) : fitsC (.item m c) k = false := by
  show ((decide (0 ≤ m) && decide (m < (k.parts.length : Int))) && fitsC c (k.parts.getD m.toNat .int)) = false
  rw [h]
  by_cases h0 : 0 ≤ m
  · rw [decide_eq_false (show ¬ m < (([] : List Kd).length : Int) from fun h => by simp at h; omega), Bool.and_false]
    rfl
  · rw [decide_eq_false h0]
    rfl
/-! ### what evaluates to data -/
def EvD (K : PySem.W.Frag) (te : TE) (σ : L2.St) (H : Hp) (d : PyData) : Prop := ∀ H1, Ex H H1 → ∀ Q : VK, (∀ v H2, Ex H1 H2 → Vd K H2 v d → Q v H2) → te σ H1 Q
def EvDs (K : PySem.W.Frag) (ta : TA) (σ : L2.St) (H : Hp) (ds : List PyData) : Prop := ∀ H1, Ex H H1 → ∀ Q : List V → Hp → Prop, (∀ vs H2, Ex H1 H2 → Vds K H2 vs ds → Q vs H2) → ta σ H1 Q
section
variable {K : PySem.W.Frag} {σ : L2.St} {H H' : Hp} {te : TE} {ta : TA} {tz : TS} {D : Ends}
theorem evd_int {i : Int} : EvD K (tC (.int i)) σ H (.int i) := fun H1 _ _ q => q _ H1 (Ex.refl H1) (.int i)
theorem evd_str {x : Str} : EvD K (tC (.str x)) σ H (.str x) := fun H1 _ _ q => q _ H1 (Ex.refl H1) (.str x)
theorem evd_neg {i : Int} : EvD K (tUn (rU fun i => .int (-i)) (tC (.int i))) σ H (.int (-i)) := fun H1 _ _ q => ⟨i, rfl, q _ H1 (Ex.refl H1) (.int _)⟩
theorem evd_var {i : Nat} {v : V} {d : PyData} (h : σ[i]? = some (some v)) (hv : Vd K H v d) : EvD K (tVar i) σ H d := fun H1 e _ q => ⟨v, h, q v H1 (Ex.refl H1) (hv.keep (Kt.same e))⟩
theorem evds_nil : EvDs K tNil σ H [] := fun H1 _ _ q => q [] H1 (Ex.refl H1) .nil
theorem evds_cons {d : PyData} {ds : List PyData} (h : EvD K te σ H d) (hr : EvDs K ta σ H ds) : EvDs K (tCons te ta) σ H (d :: ds) := fun H1 e Q q =>
  h H1 e _ fun v H2 e2 hv => hr H2 (e.trans e2) _ fun vs H3 e3 hvs => q (v :: vs) H3 (e2.trans e3) (.cons (hv.keep (Kt.same e3)) hvs)
theorem evd_tup {ds : List PyData} (h : EvDs K ta σ H ds) (hl : ds.length ≤ 1000) : EvD K (tTup ta) σ H (.tuple ds) := fun H1 e Q q =>
  h H1 e _ fun vs H2 e2 hvs => ⟨Nat.le_of_lt (small1000 (by rw [hvs.1]; exact hl)), fun p hp => q (.ref p) _ (e2.trans (Ex.new hp)) ((hvs.keep (Kt.new hp)).tup (.of upd_same))⟩
theorem q_asgDs {i : Nat} {ds : List PyData} (h : EvDs K ta σ H ds) (hl : ds.length ≤ 1000) (k : ∀ p vs H1, H p = none → Ex H H1 → H1 p = some (.lst vs) → Vds K H1 vs ds → tz D (σ.set i (some (.ref p))) H1) : tSeq (tAsg (tLst ta) (gName i)) tz D σ H :=
  h H (Ex.refl H) _ fun vs H2 e2 hvs => ⟨Nat.le_of_lt (small1000 (by rw [hvs.1]; exact hl)), fun p hp => k p vs _ (fresh_back e2 hp) (e2.trans (Ex.new hp)) upd_same (hvs.keep (Kt.new hp))⟩
theorem evds_is {ds es : List PyData} (h : EvDs K ta σ H ds) (e : ds = es) : EvDs K ta σ H es := by
  rw [← e]
  exact h
end
/-- the script stays, whatever a new box lives through -/
theorem script_stays {K : PySem.W.Frag} {H H1 H2 : Hp} {a b d : Addr} {xs : List V} (h : SqL K H a xs) (hb : H b = none) (e : Same H H1) (m : Mv b d H1 H2) : SqL K H2 a xs := by
  rcases h with (h | ⟨o, h⟩) | h
  · exact .inl (.inl (m.1 _ _ (ne_of_none h hb) (e _ _ h)))
  · exact .inl (.inr ⟨o, m.1 _ _ (ne_of_none h hb) (e _ _ h)⟩)
  · exact .inr h
def spLaw (K : PySem.W.Frag) : Sp := fun vs H Q _ => ∃ (a : Addr) (ns : List Int), vs = [.ref a] ∧ SqL K H a (ns.map V.int) ∧ ns.length ≤ 63 ∧ ∀ H', Q (.bl true) H'
end Cr
/-! tuples where the layer has lists: in, sum, sorted, enumerate -/
namespace CrT
open PySem PySem.Spec PyProof.Rows L2
/-! ### in and not in, data of any depth -/
def rInTup (K : PySem.W.Frag) (no : Bool) : R2 := fun x y H Q => ∃ d ds, Dp K H x d ∧ Dp K H y (.tuple ds) ∧ SeqAt.shaped d = true ∧ SeqAt.shaped (.tuple ds) = true ∧ Q (.bl (if no then !ds.any fun z => PyData.eqv z d else ds.any fun z => PyData.eqv z d)) H
theorem tup_room {A : Around} {d : PyData} {ds : List PyData} (hu : A.units + 65 < cLine) (sd : SeqAt.shaped d = true) : A.units + 1 + min (PyData.depthAll ds) d.depth < cLine := by
  have h := SeqAt.depth_of_shaped sd
  have := Nat.min_le_right (PyData.depthAll ds) d.depth
  omega
section
variable {X : Cx}
theorem op_inTup (hu : X.A.units + 65 < cLine) : OpR X (compareOp .In) (rInTup X.K false) := fun pins s σ H x y v u Q I rx ry h => by
  obtain ⟨d, ds, hd, he, sd, se, q⟩ := h
  obtain ⟨as, ra⟩ := Dp.reads I d x v hd rx
  obtain ⟨bs, rb⟩ := Dp.reads I (.tuple ds) y u he ry
  exact SeqAt.in_tuple_reads rb ra (show PyData.canLayAll0 ds = true from SeqAt.canLay_of_shaped se) (SeqAt.canLay_of_shaped sd) (tup_room hu sd) ⟨.bl _, H, I, rfl, q⟩
theorem op_notInTup (hu : X.A.units + 65 < cLine) : OpR X (compareOp .NotIn) (rInTup X.K true) := fun pins s σ H x y v u Q I rx ry h => by
  obtain ⟨d, ds, hd, he, sd, se, q⟩ := h
  obtain ⟨as, ra⟩ := Dp.reads I d x v hd rx
  obtain ⟨bs, rb⟩ := Dp.reads I (.tuple ds) y u he ry
  exact SeqAt.notIn_tuple_reads rb ra (show PyData.canLayAll0 ds = true from SeqAt.canLay_of_shaped se) (SeqAt.canLay_of_shaped sd) (tup_room hu sd) ⟨.bl _, H, I, rfl, q⟩
end
/-! ### sum of a tuple of ints -/
section
variable {prog : Program} {w : World} {A : Around} {E : Value → Shared → Prop} {s : Shared} {l : Addr} {its : List Value} {ns : List Int} {Q : Value → Shared → Prop}
theorem ints_at {i : Nat} {v : Value} (hi : IntsAre its ns) (h : its.toArray[i]? = some v) : ∃ t, v = .int (ns.getD i 0) t := by
  have h' : its[i]? = some v := by simpa using h
  clear h
  induction hi generalizing i with
  | nil => simp at h'
  | cons n k _ ih =>
    cases i with
    | zero =>
      cases h'
      exact ⟨_, rfl⟩
    | succ i => exact ih (by simpa using h')
theorem preSum_list (ns : List Int) : preSum (fun i => ns.getD i 0) ns.length = ns.sum := by
  have h : ∀ i, i ≤ ns.length → preSum (fun i => ns.getD i 0) i = (ns.take i).sum := fun i => by
    induction i with
    | zero => intro _; rfl
    | succ i ih =>
      intro hi
      have e : ns[i]? = some (ns.getD i 0) := by
        rw [List.getD_eq_getElem?_getD, List.getElem?_eq_getElem (by omega)]
        rfl
      rw [sum_take e, ← ih (by omega)]
      rfl
  rw [h _ (Nat.le_refl _), List.take_length]
theorem sum_tup (hh : A.handled = none) (hl : s.heap.IsTuple l its.toArray) (hi : IntsAre its ns)
    (h : ∀ h' tk t', (∀ b o, s.heap.get? b = some o → h'.get? b = some o) → Q (.int ns.sum t') { s with heap := h', toks := tk }) : wpAny (model prog w) A (call (.builtin "sum") [.ref l]) Q E s := by
  have hlt : l < s.heap.objs.size := by
    obtain ⟨_, e, _⟩ := hl
    exact Heap.lt_size e
  refine call_sum_walkG (wpAny_pyIter_tuple hl ?_)
  refine ⟨_, _, _, _, _, _, fun i => ns.getD i 0, rfl, Walks.tuple (A := A.in1) hh _ l (Nat.ne_of_lt hlt) its.toArray, ⟨⟨_, Heap.get?_push_size _ rfl, rfl, rfl⟩, hl.push _⟩, fun b hb => ?_, fun i v hv => ints_at hi hv, fun h' tk t' hk => ?_⟩
  · show b < (s.heap.push _).objs.size
    rw [Heap.size_push]
    simp only [List.mem_cons, List.not_mem_nil, or_false] at hb
    rcases hb with rfl | rfl
    · exact Nat.lt_succ_self _
    · exact Nat.lt_succ_of_lt hlt
  · have hn : its.toArray.size = ns.length := by rw [List.size_toArray, hi.length]
    rw [hn, preSum_list]
    refine h h' tk t' fun b o e => hk b o (fun hm => ?_) (Heap.get?_push_of_some _ e)
    cases List.mem_singleton.mp hm
    exact absurd (Heap.lt_size e) (Nat.lt_irrefl _)
/-! ### sorted of a tuple of ints -/
theorem collect_tup {R : List Value → Shared → Prop} (hl : s.heap.IsTuple l its.toArray) (h : R its { s with heap := (s.heap.push (seqObj "list" #[] 0)).update s.heap.objs.size (Obj.mapSeq (· ++ its.toArray)) }) (hz : its.length ≤ sizeLine) :
    wpAny (model prog w) A (collect (.ref l)) R E s := by
  obtain ⟨ob, hob, hcl, n, hdt⟩ := id hl
  unfold collect
  refine wpAny_bind (wpAny_runValue (codeAny_builtin entry_proto_collect' (by
    show wpAny _ _ (do again (.builtin "list.__iadd__" ⟨[← newList [], .ref l], []⟩)) _ _ s
    refine wpAny_bind (wpAny_newList (wpAny_pure ⟨Code.quiet_builtin _ (by decide +kernel), codeAny_builtin entry_list_iadd' ?_⟩))
    have hob' : (s.heap.push (seqObj "list" #[] 0)).get? l = some ob := Heap.get?_push_of_some _ hob
    show wpAny _ _ (Builtin.List.listExtendWith (.ref s.heap.objs.size) (.ref l) (.ref s.heap.objs.size)) _ _ { s with heap := s.heap.push (seqObj "list" #[] 0) }
    unfold Builtin.List.listExtendWith
    refine wpAny_bind (wpAny_typeOf (T := "tuple") ⟨ob, hob', hcl⟩ ?_)
    have two : (Value.type "tuple" == Value.type "tuple") = true := by rfl
    rw [if_pos (by rw [two]; simp)]
    refine wpAny_bind (listItems_at hob' hdt (listItems_at (xs := #[]) (n := 0) (Heap.get?_push_size _ rfl) rfl ?_ |> wpAny_bind))
    rw [if_neg (by simp)]
    refine wpAny_bind (listUpdate_at (xs := #[]) (n := 0) (Heap.get?_push_size _ rfl) rfl (wpAny_pure ?_) (Nat.zero_le _) (by
      show (#[] ++ its.toArray).size ≤ sizeLine + 1
      rw [Array.size_append, List.size_toArray]
      show 0 + its.length ≤ _
      omega))
    show wpAny (model prog w) A (do
        let o ← load s.heap.objs.size
        match o.data with
        | .seq xs _ => pure xs.toList
        | _ => unsupported "internal:collect") R E { s with heap := (s.heap.push (seqObj "list" #[] 0)).update s.heap.objs.size (Obj.mapSeq (· ++ its.toArray)) }
    refine wpAny_bind (wpAny_load (get?_update_seq (Heap.get?_push_size _ rfl) _) ?_)
    have same : ((#[] : Array Value) ++ its.toArray).toList = its := by simp
    show wpAny _ _ (pure ((#[] : Array Value) ++ its.toArray).toList) R E _
    rw [same]
    exact wpAny_pure h)))
theorem sorted_tup (hl : s.heap.IsTuple l its.toArray) (hi : IntsAre its ns) (h64 : its.length < 64)
    (h : ∀ (out : Array Value) (ms : List Int), IntsAre out.toList ms → ms.Perm ns → ms.Pairwise (· ≤ ·) → Q (.ref (s.heap.objs.size + 1)) { s with heap := sortedAll s.heap its out }) : wpAny (model prog w) A (call (.builtin "sorted") [.ref l]) Q E s := by
  refine Calls.call_function_entry kind_sorted plain_sorted entry_sorted (args_sorted1 _) (by
    unfold Builtin.«sorted»
    refine wpAny_bind (m := checkCount "sorted" 1 1 _) (wpAny_pure (wpAny_bind (collect_tup hl (wpAny_bind (wpAny_newList ?_)) (small64 h64))))
    have len1 : ((s.heap.push (seqObj "list" #[] 0)).update s.heap.objs.size (Obj.mapSeq (· ++ its.toArray))).objs.size = s.heap.objs.size + 1 := by rw [Heap.size_update, size_push']
    have atL : (((s.heap.push (seqObj "list" #[] 0)).update s.heap.objs.size (Obj.mapSeq (· ++ its.toArray))).push (seqObj "list" its.toArray 0)).get? (s.heap.objs.size + 1) = some (seqObj "list" its.toArray 0) := by
      rw [← len1]
      exact Heap.get?_push_size _ rfl
    show wpAny _ _ _ _ _ { s with heap := ((s.heap.push (seqObj "list" #[] 0)).update s.heap.objs.size (Obj.mapSeq (· ++ its.toArray))).push (seqObj "list" its.toArray 0) }
    rw [len1]
    exact wpAny_bind (wpAny_holding (wpAny_call_entry slot_list_sort ⟨_, atL, rfl⟩ entry_list_sort (list_sort_tree atL hi h64 fun out ms b1 b2 b3 => ⟨_, rfl, wpAny_pure ⟨_, rfl, h out ms b1 b2 b3⟩⟩) (args_list_sort _))))
end
section
variable {X : Cx}
def rSumT (K : PySem.W.Frag) : List V → Hp → VK → Prop := fun vs H Q => ∃ (a : Addr) (ns : List Int), vs = [V.ref a] ∧ SqT K H a (ns.map V.int) ∧ Q (.int ns.sum) H
theorem cr_sumT (hc : X.calm = true) : CallR X (.builtin "sum") (rSumT X.K) := fun pins s σ H vs us Q I r h => by
  obtain ⟨a, ns, rfl, hs, q⟩ := h
  obtain ⟨its, rv, hl, _⟩ := I.tuple hs
  rw [Vals.ref1 r]
  exact sum_tup (I.ok.hd hc) hl rv.ints fun h' tk t' hk => ⟨.int _, H, I.kept hk, ⟨_, rfl⟩, q⟩
def rSortedTup (K : PySem.W.Frag) : List V → Hp → VK → Prop := fun vs H Q => ∃ (a : Addr) (ns : List Int), vs = [V.ref a] ∧ SqT K H a (ns.map V.int) ∧ ns.length < 64 ∧
  ∀ (ms : List Int) (p : Addr), ms.Perm ns → ms.Pairwise (· ≤ ·) → H p = none → Q (.ref p) (upd H p (.lst (ms.map V.int)))
theorem cr_sortedTup : CallR X (.builtin "sorted") (rSortedTup X.K) := fun pins s σ H vs us Q I r h => by
  obtain ⟨a, ns, rfl, hs, h64, q⟩ := h
  obtain ⟨its, rv, hl, _⟩ := I.tuple hs
  rw [Vals.ref1 r]
  have hi := rv.ints
  have hn : its.length < 64 := by rw [hi.length]; exact h64
  refine sorted_tup hl hi hn fun out ms a1 a2 a3 => ?_
  obtain ⟨ep, at_⟩ := PyProof.Rows.sortedAll_at s.heap its out
  have hz : (ms.map V.int).length ≤ sizeLine := by rw [List.length_map, a2.length_eq]; exact small64 h64
  refine ⟨.ref _, upd H (s.heap.objs.size + 1) (.lst (ms.map V.int)), ?_, rfl, q ms _ a2 a3 (I.hok.fresh (Nat.le_succ _))⟩
  exact I.laid (t' := s.toks) (fun _ _ => PyProof.Rows.sortedAll_old) (Nat.le_succ _) ⟨hz, out.toList, ep, vals_of_ints a1, at_⟩
end
/-! ### enumerate of a tuple -/
theorem enum_newT (t : Addr) (items : Array Value) : Meets (Builtin.«enumerate.__new__» ⟨[.type "enumerate", .ref t], []⟩) (fun _ R s => s.heap.IsTuple t items ∧
    R (.ok (.ret (.ref (s.heap.push { cls := .type "tuple_iterator", data := .fields #[.ref t, .int 0 0] }).objs.size)))
      { s with heap := (s.heap.push { cls := .type "tuple_iterator", data := .fields #[.ref t, .int 0 0] }).push { cls := .type "enumerate", data := .fields #[.none, .bool false, .ref s.heap.objs.size, rawInt 0, .none, .none] } }) :=
  .of_wp fun prog w A R s hr => by
    obtain ⟨hp, g, d, tk, os⟩ := s
    obtain ⟨ht, hr⟩ := hr
    have hsub := sub_enumerate
    have it1 : ∀ {A' : Around} {E : Value → Shared → Prop} {Q : Value → Shared → Prop}, Q (.ref hp.objs.size) ⟨hp.push { cls := .type "tuple_iterator", data := .fields #[.ref t, .int 0 0] }, g, d, tk, os⟩ → wpAny (model prog w) A' (pyIter (.ref t)) Q E ⟨hp, g, d, tk, os⟩ :=
      fun q => wpAny_pyIter_tuple (s := ⟨hp, g, d, tk, os⟩) ht q
    wp_walk using it1
    refine wpAny_stack_any fun st => wpAny_pure (by
      split
      · rename_i c _ _ _ _ _
        cases (c == Value.type "enumerate") <;> (wp_walk using it1; exact ⟨_, rfl, hr⟩)
      · wp_walk using it1
        exact ⟨_, rfl, hr⟩)
section
variable {prog : Program} {w : World} {A : Around} {E : Value → Shared → Prop} {s : Shared}
theorem enum_tup {t : Addr} {items : Array Value} {Q : Value → Shared → Prop} (ht : s.heap.IsTuple t items)
    (h : ∀ h', IsEnum h' (s.heap.objs.size + 1) s.heap.objs.size 0 .none → h'.IsTupleIter s.heap.objs.size t 0 → (∀ b o, s.heap.get? b = some o → h'.get? b = some o) → Q (.ref (s.heap.objs.size + 1)) { s with heap := h' }) :
    wpAny (model prog w) A (call (.type "enumerate") [.ref t]) Q E s := by
  have len1 : (s.heap.push { cls := .type "tuple_iterator", data := .fields #[.ref t, .int 0 0] }).objs.size = s.heap.objs.size + 1 := Heap.size_push ..
  refine callType_new F.called_enumerate (by decide) (F.typeCall_enumerate_1 _) (F.newCall_enumerate_1 _) (fun obj => F.args_object_init_2 obj _) F.entry_enumerate_new (enum_newT t items) ⟨ht, ?_⟩
  show _ ∧ _
  rw [len1]
  have en : IsEnum ((s.heap.push { cls := .type "tuple_iterator", data := .fields #[.ref t, .int 0 0] }).push { cls := .type "enumerate", data := .fields #[.none, .bool false, .ref s.heap.objs.size, rawInt 0, .none, .none] }) (s.heap.objs.size + 1) s.heap.objs.size 0 .none := by
    have h0 := Heap.get?_push_size (s.heap.push { cls := .type "tuple_iterator", data := .fields #[.ref t, .int 0 0] }) (o := { cls := .type "enumerate", data := .fields #[.none, .bool false, .ref s.heap.objs.size, rawInt 0, .none, .none] }) rfl
    rw [len1] at h0
    exact h0
  exact ⟨⟨_, en, rfl⟩, h _ en ⟨_, Heap.get?_push_of_some _ (Heap.get?_push_size _ rfl), rfl, rfl⟩ fun b o x => Heap.get?_push_of_some _ (Heap.get?_push_of_some _ x)⟩
end
def IteT (K : PySem.W.Frag) (a : Addr) : It :=
  ⟨fun i H => ∃ (xs : List V) (x : V), SqT K H a xs ∧ xs[i]? = some x, fun i H v H' => ∃ T x, v = .ref T ∧ H T = none ∧ H' = upd H T (.tup [.int (i : Nat), x]) ∧ ∀ xs, SqT K H a xs → xs[i]? = some x, fun i H => ∃ xs : List V, SqT K H a xs ∧ xs.length ≤ i⟩
theorem turn_enumT {P : Program} {w : World} {K : PySem.W.Frag} {elts : List Expr} {kk : Nat} {tpos : Pos} {a e it : Addr} (hei : e ≠ it) (hai : a ≠ it) (hae : a ≠ e) :
    Turn P w K (.Tuple elts kk tpos) (IteT K a) [e, it] e (fun i h => (∃ old, IsEnum h e it ((i : Nat) : Int) old) ∧ h.IsTupleIter it a i) where
  mem := by simp
  obj := fun i h st b hb => by
    obtain ⟨⟨old, he⟩, ⟨o, ho, _, hd⟩⟩ := st
    simp only [List.mem_cons, List.not_mem_nil, or_false] at hb
    rcases hb with rfl | rfl
    · exact ⟨_, he, fun v q => nomatch q⟩
    · exact ⟨o, ho, fun v q => by rw [hd] at q; cases q⟩
  keep := fun i h h' st k => let ⟨⟨old, he⟩, hi⟩ := st; ⟨⟨old, k e (by simp) _ he⟩, hi.at fun o q => k it (by simp) o q⟩
  item := by
    intro X hP hw hK hc i pins s σ H E I hf st hg
    subst hP hw hK
    obtain ⟨⟨old, he⟩, hit⟩ := st
    obtain ⟨xs, x, hq, hx⟩ := hg
    obtain ⟨its, rv, p, hz⟩ := I.tuple hq
    obtain ⟨u, hu, ru⟩ := rv.get hx
    have le : e < s.heap.objs.size := Heap.lt_size he
    have li : it < s.heap.objs.size := by obtain ⟨_, q, _⟩ := hit; exact Heap.lt_size q
    have lt_ : i < its.toArray.size := by
      have := (List.getElem?_eq_some_iff.mp hu).1
      rw [List.size_toArray]
      exact this
    refine wpAny_pyNext_enum_itemD (Draws.tuple (A := X.A.in1) (show X.A.in1.handled = none from I.ok.hd hc) it a hai its.toArray) he ⟨hit, p⟩ lt_ hei (by simp only [List.mem_cons, List.not_mem_nil, or_false]; rintro (h | h); exact hei h; exact hae h.symm) fun u' h' tk hP ho st' hT hsz hk => ?_
    have hu' : u' = u := by
      have q : its[i]? = some u' := by simpa using hP
      rw [hu] at q
      exact (Option.some.inj q).symm
    subst hu'
    refine ⟨_, rfl, wpAny_letOwnedTupleGo_enum (s := { s with heap := h', toks := tk + 1 }) ho fun h'' he' sb => ?_⟩
    have hT2 : h''.get? s.heap.objs.size = some { cls := .type "tuple", data := .seq #[.int i tk, u'] } := (sb.2 _ (Nat.ne_of_gt le)).trans hT
    have fresh : ObjOk X.prog X.w (upd H s.heap.objs.size (.tup [.int (i : Nat), x])) h'' s.heap.objs.size (.tup [.int (i : Nat), x]) :=
      ⟨by show 2 ≤ sizeLine; decide, [.int i tk, u'], .cons ⟨_, rfl⟩ (.cons ru .nil), ⟨_, hT2, rfl, _, rfl⟩⟩
    have I1 : Inv X pins σ (upd H s.heap.objs.size (.tup [.int (i : Nat), x])) { s with heap := h'', toks := tk + 1 } :=
      I.turnedNew (ch := [e, it]) (fun b ob hb q => (sb.2 b (fun z => hb (by simp [z]))).trans (hk b ob (fun z => hb (by simp [z])) (fun z => hb (by simp [z])) q)) hf (Nat.le_refl _) fresh
    have e1 : ((i + 1 : Nat) : Int) = (i : Int) + 1 := by omega
    refine ⟨.ref s.heap.objs.size, _, I1, rfl, ⟨_, x, rfl, I.hok.fresh (Nat.le_refl _), rfl, fun ys hy => by rw [I.tuple_inj hy hq]; exact hx⟩, ⟨⟨u', by rw [e1]; exact he'⟩, st'.1.at fun o q => (sb.2 it (Ne.symm hei)).trans q⟩, fun b hb => ?_⟩
    have lb : b < s.heap.objs.size := by
      simp only [List.mem_cons, List.not_mem_nil, or_false] at hb
      rcases hb with rfl | rfl
      · exact le
      · exact li
    rw [upd_ne (Nat.ne_of_lt lb)]
    exact (hf b hb).1
  done := by
    intro X hP hw hK hc i pins s σ H E I hf st hg
    subst hP hw hK
    obtain ⟨⟨old, he⟩, hit⟩ := st
    obtain ⟨xs, hq, hx⟩ := hg
    obtain ⟨its, rv, p, hz⟩ := I.tuple hq
    obtain ⟨f0, f1, f2, f3, f4, f5⟩ := hf it (by simp)
    have hl := rv.length
    have hT : s.TypeIs (.ref e) "enumerate" := ⟨_, he, rfl⟩
    have no : its.toArray[i]? = none := by simp; omega
    unfold pyNext
    refine wpAny_bind (wpAny_attempt (wpAny_callSpecial?_slot (name := Str.ofString "__next__") hT F.slot_enumerate_next (wpAny_call_entry F.slot_enumerate_next hT F.entry_enumerate_next ?_ (F.args_enumerate_next_1 _))))
    show wpAny _ _ (field (.ref e) 2 >>= _) _ _ _
    refine wpAny_bind (wpAny_field he rfl (x := .ref it) rfl (wpAny_bind (wpAny_nextOf_tuple_end (I.ok.hd hc) hit p no fun h' x hb hs => ?_)))
    obtain ⟨o, ho, hcl⟩ := hs
    exact wpAny_bind (wpAny_isInstance (T := "StopIteration") (b := true) ⟨o, ho, hcl⟩ isSubtype_stop (wpAny_pure ⟨rfl, I.turned (t' := s.toks) (fun b o hb' q => hb b o hb' q) f0 f1 f3 f4 f5⟩))
  self := fun A i s Q E st h => let ⟨⟨_, he⟩, _⟩ := st; wpAny_pyIter_enum he h
def iEnumT (K : PySem.W.Frag) (ta : TA) : TI := fun σ H R => ta σ H fun vs H1 => ∃ a xs, vs = [.ref a] ∧ SqT K H1 a xs ∧ R (IteT K a) H1
theorem pi_enumT {X : Cx} {e : Expr} {ta : TA} {p pos tpos : Pos} {elts : List Expr} {kk : Nat} (hg : Gl X "enumerate") (hm : X.mg "enumerate" = none) (ha : PA X [e] ta) (hs : starEach [e] X.env = [(false, eval e X.env)] := by rfl) :
    PI X (.Tuple elts kk tpos) (.Call (.Name "enumerate" p) [e] [] pos) (iEnumT X.K ta) := ⟨fun pins s σ H R I h => by
  refine Call_ (ld_blt I hg hm boot_enumerate (PyProof.Rows.callWith_type1 (thn (ha.run pos pins s σ H _ I h) fun us s1 ⟨vs, H1, I1, r1, q1⟩ => ?_) hs rfl))
  obtain ⟨a, xs, rfl, hq, q⟩ := q1
  cases r1 with
  | cons r rr =>
    cases rr
    cases r
    obtain ⟨its, rv, tp, hz⟩ := I1.tuple hq
    have la : a < s1.heap.objs.size := by
      obtain ⟨_, e, _⟩ := id tp
      exact Heap.lt_size e
    refine enum_tup (show s1.heap.IsTuple a its.toArray from tp) fun h' he hit hk => wpAny_pyIter_enum he ?_
    refine ⟨s1.heap.objs.size + 1, [s1.heap.objs.size + 1, s1.heap.objs.size], _, _, H1, rfl, I1.kept (t' := s1.toks) hk, turn_enumT (Nat.succ_ne_self _) (Nat.ne_of_lt la) (Nat.ne_of_lt (Nat.lt_succ_of_lt la)), ⟨⟨.none, he⟩, hit⟩, fun b hb => ?_, q⟩
    have hle : s1.heap.objs.size ≤ b := by
      simp only [List.mem_cons, List.not_mem_nil, or_false] at hb
      rcases hb with rfl | rfl
      · exact Nat.le_add_right _ _
      · exact Nat.le_refl _
    exact I1.fpOk hle (I1.hok.fresh hle)⟩
theorem walk_enumT {K : PySem.W.Frag} {a : Addr} {xs : List V} : Walk (IteT K a) xs.length (fun H => SqT K H a xs) (YPair (fun i => some (.int (i : Nat))) (fun i => xs[i]?)) :=
  ⟨fun i _ hi q => ⟨xs, xs[i], q, by simp [hi]⟩, fun _ q => ⟨xs, q, Nat.le_refl _⟩, fun i H v H' _ q y => by
    obtain ⟨T, x, h1, h2, h3, h4⟩ := y
    exact ⟨T, .int (i : Nat), x, h1, h2, h3, rfl, h4 xs q⟩⟩
end CrT
namespace CrT
open PySem PySem.Spec PyProof.Rows L2
section
variable {prog : Program} {w : World} {A : Around} {E : Value → Shared → Prop} {s : Shared}
theorem adjust_rev (n : Nat) : Builtin.Slice.sliceAdjust none none (-1) (n : Int) = ((n : Int) - 1, -1) := by
  unfold Builtin.Slice.sliceAdjust
  rfl
theorem places_rev (n : Nat) : Builtin.Slice.slicePlaces ((n : Int) - 1) (-1) (-1) = n := by
  unfold Builtin.Slice.slicePlaces
  have h1 : ¬ ((-1 : Int) > 0) := by omega
  have h2 : (- (-1) : Int) = 1 := rfl
  simp only [h1, if_false, h2, Int.ediv_one]
  split <;> omega
theorem pick_rev (xs : Array Value) : ((List.range xs.size).filterMap fun (m : Nat) => xs[(((xs.size : Int) - 1) + (m : Int) * (-1)).toNat]?).toArray = xs.toList.reverse.toArray := by
  have e : (List.range xs.size).filterMap (fun (m : Nat) => xs[(((xs.size : Int) - 1) + (m : Int) * (-1)).toNat]?) = ((List.range xs.size).map fun k => xs.size - 1 - k).filterMap (xs[·]?) := by
    rw [show (fun (m : Nat) => xs[(((xs.size : Int) - 1) + (m : Int) * (-1)).toNat]?) = id ∘ (fun (m : Nat) => xs[(((xs.size : Int) - 1) + (m : Int) * (-1)).toNat]?) from rfl, ← List.filterMap_map]
    have e3 : (List.range xs.size).map (fun (m : Nat) => xs[(((xs.size : Int) - 1) + (m : Int) * (-1)).toNat]?) = (List.range xs.size).map (fun k => xs[xs.size - 1 - k]?) := List.map_congr_left fun m hm => by
      have := List.mem_range.mp hm
      have e2 : (((xs.size : Int) - 1) + (m : Int) * (-1)).toNat = xs.size - 1 - m := by omega
      rw [e2]
    rw [e3, List.filterMap_map, List.filterMap_map]
    rfl
  rw [e, PySem.W.krv_range, List.filterMap_reverse, PySem.W.krv_all]
theorem sliceApplied_rev {sl : Addr} {vl vu vs : Value} {n : Nat} {Q : Int × Int × Nat → Shared → Prop} (hs : s.heap.IsSliceOf sl vl vu vs) (pl : IsPart vl none) (pu : IsPart vu none) (ps : IsPart vs (some (-1)))
    (h : Q ((n : Int) - 1, -1, n) s) : wpAny (model prog w) A (Builtin.Slice.sliceApplied (.ref sl) (pure (n : Int))) Q E s := by
  obtain ⟨os, hos, hcs, hds⟩ := id hs
  unfold Builtin.Slice.sliceApplied Builtin.Slice.sliceFields
  refine wpAny_bind (wpAny_bind (wpAny_field hos hds (x := vl) rfl (wpAny_bind (wpAny_field hos hds (x := vu) rfl (wpAny_bind (wpAny_field hos hds (x := vs) rfl (wpAny_pure ?_)))))))
  refine wpAny_bind (HT.slicePart_ ps ?_)
  show wpAny _ _ (if ((-1 : Int) == 0) = true then _ else _) _ _ s
  rw [if_neg (by decide)]
  refine wpAny_bind (HT.slicePart_ pl (wpAny_bind (HT.slicePart_ pu (wpAny_bind (wpAny_pure ?_)))))
  show wpAny _ _ (match Builtin.Slice.sliceAdjust none none (-1) (n : Int) with | (lo, hi) => pure (lo, (-1 : Int), Builtin.Slice.slicePlaces lo hi (-1))) _ _ s
  rw [adjust_rev n]
  show wpAny _ _ (pure ((n : Int) - 1, (-1 : Int), Builtin.Slice.slicePlaces ((n : Int) - 1) (-1) (-1))) _ _ s
  rw [places_rev]
  exact wpAny_pure h
theorem getItem_tuple_rev {t sl : Addr} {items : Array Value} {vl vu vs : Value} {Q : Value → Shared → Prop} (ht : IsTup s.heap t items) (hs : s.heap.IsSliceOf sl vl vu vs) (pl : IsPart vl none) (pu : IsPart vu none) (ps : IsPart vs (some (-1)))
    (h : Q (.ref s.heap.objs.size) { s with heap := s.heap.push { cls := .type "tuple", data := .seq items.toList.reverse.toArray } })
    (hsz : items.size ≤ sizeLine) : wpAny (model prog w) A (getItem (.ref t) (.ref sl)) Q E s := by
  have htake : sizeOk (.seq items.toList.reverse.toArray) := by
    show items.toList.reverse.toArray.size ≤ sizeLine
    rw [List.size_toArray, List.length_reverse, Array.length_toList]
    omega
  obtain ⟨os, hos, hcs, hds⟩ := id hs
  have hTs : s.TypeIs (.ref sl) "slice" := ⟨os, hos, hcs⟩
  unfold getItem
  try with_reducible refine wpAny_holding ?_
  first | refine wpAny_bind (wpAny_pure ?_) | skip
  refine wpAny_bind (wpAny_sequenceKey ht.typeIs (by decide) ?_)
  refine wpAny_bind (wpAny_callSpecial?_slot (name := Str.ofString "__getitem__") ht.typeIs PyProof.Rows.slot_tuple_getitem
    (wpAny_call_entry PyProof.Rows.slot_tuple_getitem ht.typeIs entry_tuple_getitem ?_ (args_tuple_getitem _ _)))
  show wpAny _ _ (Builtin.Tuple.tupleItemsOf (.ref t) >>= _) _ _ s
  refine wpAny_bind (tupleItemsOf_ ht ?_)
  refine wpAny_bind (wpAny_typeOf hTs ?_)
  rw [if_pos (by decide)]
  refine wpAny_bind (sliceApplied_rev hs pl pu ps ?_)
  have hno : ¬ ((((items.size : Int) - 1) == 0 && (-1 : Int) == 1 && items.size == items.size) = true) := by
    intro q
    rw [Bool.and_eq_true, Bool.and_eq_true] at q
    exact absurd q.1.2 (by decide)
  show wpAny _ _ (if (((items.size : Int) - 1) == 0 && (-1 : Int) == 1 && items.size == items.size) = true then _ else _) _ _ s
  rw [if_neg hno, pick_rev]
  first
    | exact wpAny_bind (m := Builtin.Tuple.tupleExact _) (wpAny_newObj_type (wpAny_pure ⟨_, rfl, wpAny_pure h⟩) htake)
    | exact wpAny_bind (m := Builtin.Tuple.tupleExact _) (wpAny_newObj_type (wpAny_bind (wpAny_pure (wpAny_pure ⟨_, rfl, wpAny_pure h⟩))) htake)
    | exact wpAny_bind (wpAny_bind (m := Builtin.Tuple.tupleExact _) (wpAny_newObj_type (wpAny_pure (wpAny_pure ⟨_, rfl, wpAny_pure h⟩)) htake))
    | exact wpAny_bind (wpAny_bind (m := Builtin.Tuple.tupleExact _) (wpAny_newObj_type (wpAny_pure ⟨_, rfl, wpAny_pure h⟩) htake))
end
section
variable {X : Cx}
/-- t[::-1] -/
def tRevT (K : PySem.W.Frag) (te : TE) : TE := fun σ H Q => te σ H fun x H1 => ∃ a xs, x = .ref a ∧ SqT K H1 a xs ∧ ∀ p, H1 p = none → Q (.ref p) (upd H1 p (.tup xs.reverse))
theorem pe_revT {e : Expr} {te : TE} {k : Nat} {p1 p2 p3 pos : Pos} (he : PE X e te) : PE X (.Subscript e (.Slice none none (some (.UnaryOp .USub (.Constant (.int 1) k p1) p2)) p3) pos) (tRevT X.K te) := by
  refine ⟨fun pins s σ H Q I h => ?_⟩
  refine Subscript_ (thn (he.run pins s σ H _ I h) fun v s1 ⟨x, H1, I1, r1, q1⟩ => ?_)
  obtain ⟨a, xs, ex, hx, q⟩ := q1
  subst ex
  cases r1
  have hst : PO X (some (.UnaryOp .USub (.Constant (.int 1) k p1) p2)) (tPart (tUn (rU fun i => .int (-i)) (tC (.int 1)))) := po_some (pe_un un_neg pe_int)
  refine wpAny_Slice (thn (po_none.run pins s1 σ H1 (fun o H2 => o = none ∧ H2 = H1) I1 ⟨rfl, rfl⟩) fun vl s2 ⟨l, H2, I2, pl, el, e2⟩ => ?_)
  subst el e2
  refine thn (po_none.run pins s2 σ H2 (fun o H3 => o = none ∧ H3 = H2) I2 ⟨rfl, rfl⟩) fun vu s3 ⟨u, H3, I3, pu, eu, e3⟩ => ?_
  subst eu e3
  refine thn (hst.run pins s3 σ H3 (fun o H4 => o = some (-1) ∧ H4 = H3) I3 ⟨1, rfl, -1, rfl, rfl, rfl⟩) fun vs s4 ⟨o, H4, I4, ps, eo, e4⟩ => ?_
  subst eo e4
  have I5 : Inv X pins σ H4 { s4 with heap := s4.heap.push { cls := .type "slice", data := .fields #[vl, vu, vs] } } := I4.kept (t' := s4.toks) fun b ob q => Heap.get?_push_of_some _ q
  obtain ⟨its, r, ht, hz⟩ := I5.tuple hx
  have hlen := r.length
  show wpAny (model X.prog X.w) X.A (subscriptTail e (.Slice none none (some (.UnaryOp .USub (.Constant (.int 1) k p1) p2)) p3) (.ref a) (.ref s4.heap.objs.size)) (EP X pins σ Q) X.xe { s4 with heap := s4.heap.push { cls := .type "slice", data := .fields #[vl, vu, vs] } }
  refine tail_any (ops := [.ref a, .ref s4.heap.objs.size]) ht.typeIs PyProof.Rows.slot_tuple_getitem.lookup ?_ (by with_unfolding_all rfl)
  refine getItem_tuple_rev ht (Heap.IsSliceOf.new _ vl vu vs) pl pu ps ?_ (by rw [List.size_toArray]; omega)
  refine ⟨.ref _, _, I5.laid (t' := s4.toks) (o := .tup xs.reverse) (fun b ob q => Heap.get?_push_of_some _ q) (Nat.le_refl _) ?_, rfl, q _ (I5.hok.fresh (Nat.le_refl _))⟩
  exact ⟨by rw [List.length_reverse]; exact hz, _, r.reverse, IsTup.new _ _⟩
end
end CrT
/-! sorted of a list or a tuple of data -/
namespace CrT
open PySem PySem.Spec PyProof.Rows L2 PySem.W
section
variable {prog : Program} {w : World} {A : Around} {E : Value → Shared → Prop} {s : Shared} {β : Type} {vs : List Value} {bs : List β} {enc : β → PyData} {R : Value → β → Prop}
theorem sorted_of_sortT {l : Addr} {Q : Value → Shared → Prop} (hl : s.heap.IsTuple l vs.toArray) (hL : vs.length ≤ sizeLine)
    (body : ∀ E' : Value → Shared → Prop, wpAny (model prog w) A.in1.in1 (Builtin.«list.sort» ⟨[.ref (s.heap.objs.size + 1)], []⟩) (fun f s' => f = .done (.ret .none) ∧ Q (.ref (s.heap.objs.size + 1)) s') E' { s with heap := copyHeap s.heap vs }) :
    wpAny (model prog w) A (call (.builtin "sorted") [.ref l]) Q E s := by
  refine Calls.call_function_entry kind_sorted plain_sorted entry_sorted (args_sorted1 _) ?_
  unfold Builtin.«sorted»
  refine wpAny_bind (m := checkCount "sorted" 1 1 _) (wpAny_pure ?_)
  refine wpAny_bind (collect_tup hl ?_ hL)
  refine wpAny_bind (wpAny_newList ?_ hL)
  have hsz : ((s.heap.push (seqObj "list" #[] 0)).update s.heap.objs.size (Obj.mapSeq (· ++ vs.toArray))).objs.size = s.heap.objs.size + 1 := by
    rw [Heap.size_update, size_push']
  show wpAny _ _ _ _ _ { s with heap := copyHeap s.heap vs }
  rw [hsz]
  refine wpAny_bind (wpAny_holding (wpAny_call_entry slot_list_sort ⟨_, copyHeap_at s.heap vs, rfl⟩ entry_list_sort ?body (args_list_sort _)))
  case body =>
    show wpAny (model prog w) A.in1.in1 (Builtin.«list.sort» ⟨[.ref (s.heap.objs.size + 1)], []⟩) _ _ _
    refine wpAny_mono (body _) (fun f s' hf => ?_) fun _ _ e => e
    obtain ⟨rfl, hq⟩ := hf
    exact ⟨_, rfl, wpAny_pure ⟨_, rfl, hq⟩⟩
theorem sorted_dataT {l : Addr} {Q : Value → Shared → Prop} (hl : s.heap.IsTuple l vs.toArray) (e : EachIs R vs bs) (er : EachIs (fun v b => ∃ as, Reads s.heap v (enc b) as) vs bs) (hal : AllAlike (bs.map enc)) (hk : Sortable (bs.map enc)) (hL : bs.length ≤ sizeLine)
    (hu : ∀ b, b ∈ bs → A.units + 2 + (enc b).depth < cLine) (h : ∀ out, out.length = bs.length → EachIs R out (bs.mergeSort (dataLe false enc)) → Q (.ref (s.heap.objs.size + 1)) { s with heap := sortedAll s.heap vs (List.toArray out) }) :
    wpAny (model prog w) A (call (.builtin "sorted") [.ref l]) Q E s := by
  have er' : EachIs (fun v b => ∃ as, Reads (sortingHeap (copyHeap s.heap vs) (s.heap.objs.size + 1) vs) v (enc b) as) vs bs := er.mono fun _ _ ⟨as, r⟩ => ⟨as, PyProof.Rows.Reads.keeps (fun _ _ => sorting_copy_old) r⟩
  have hL' : vs.length ≤ sizeLine := by rw [e.length]; exact hL
  have S := SortsAt.data (prog := prog) (w := w) (A := A.in1.in1) (s := { s with heap := sortingHeap (copyHeap s.heap vs) (s.heap.objs.size + 1) vs }) (each_map (R := fun v d => ∃ as, Reads (sortingHeap (copyHeap s.heap vs) (s.heap.objs.size + 1) vs) v d as) enc er') hal hk (bound_map hu)
  exact sorted_of_sortT hl hL' fun _ => list_sort_vals (s := { s with heap := copyHeap s.heap vs }) (copyHeap_at s.heap vs) S hL' ⟨rfl, h _ (by rw [sortVals_length false rfl]; exact e.length) (sortVals_data false e er' hal)⟩
end
section
variable {K : PySem.W.Frag} {H : Hp}
theorem dpAll_len : ∀ {xs : List V} {ds : List PyData}, DpAll K H xs ds → xs.length = ds.length
  | [], [], _ => rfl
  | _ :: _, _ :: _, h => by
    cases h with
    | cons _ h => rw [List.length_cons, List.length_cons, dpAll_len h]
theorem each_vals : ∀ {xs : List V} {its : List Value} {ds : List PyData}, Vals xs its → xs.length = ds.length → EachIs (fun v (b : V × PyData) => RelV b.1 v) its (xs.zip ds)
  | [], _, [], h, _ => by cases h; exact .nil
  | _ :: _, _, [], _, hl => by simp at hl
  | [], _, _ :: _, _, hl => by simp at hl
  | x :: xs, _, d :: ds, h, hl => by
    cases h with
    | cons h1 h2 => exact .cons h1 (each_vals h2 (by simpa using hl))
theorem each_reads {h : Heap} : ∀ {xs : List V} {its : List Value} {ds : List PyData} {as : List Addr}, ReadsAll h its ds as → xs.length = ds.length → EachIs (fun v (b : V × PyData) => ∃ as, Reads h v b.2 as) its (xs.zip ds)
  | [], _, [], _, h, _ => by cases h; exact .nil
  | _ :: _, _, [], _, _, hl => by simp at hl
  | [], _, _ :: _, _, _, hl => by simp at hl
  | x :: xs, _, d :: ds, _, h, hl => by
    cases h with
    | cons h1 h2 => exact .cons ⟨_, h1⟩ (each_reads h2 (by simpa using hl))
theorem vals_each : ∀ {out : List Value} {zs : List (V × PyData)}, EachIs (fun v (b : V × PyData) => RelV b.1 v) out zs → Vals (zs.map Prod.fst) out
  | _, [], h => by cases h; exact .nil
  | _, z :: zs, h => by
    cases h with
    | cons h1 h2 => exact .cons h1 (vals_each h2)
theorem zip_snd {xs : List V} {ds : List PyData} (h : xs.length = ds.length) : (xs.zip ds).map Prod.snd = ds := List.map_snd_zip (by omega)
end
section
variable {X : Cx}
/-- the pairs of item and datum, in the order of the data -/
def sortZ (xs : List V) (ds : List PyData) : List (V × PyData) := (xs.zip ds).mergeSort (dataLe false Prod.snd)
def rSortedD (K : PySem.W.Frag) : List V → Hp → VK → Prop := fun vs H Q => ∃ (a : Addr) (xs : List V) (ds : List PyData), vs = [V.ref a] ∧ (SqL K H a xs ∨ SqT K H a xs) ∧ DpAll K H xs ds ∧ AllAlike ds ∧ Sortable ds ∧ (∀ d ∈ ds, d.depth ≤ 60) ∧
  ∀ p, H p = none → Q (.ref p) (upd H p (.lst ((sortZ xs ds).map Prod.fst)))
theorem cr_sortedD (hu : X.A.units + 65 < cLine) : CallR X (.builtin "sorted") (rSortedD X.K) := fun pins s σ H vs us Q I r h => by
  obtain ⟨a, xs, ds, rfl, hs, hd, hal, hk, hdp, q⟩ := h
  rw [Vals.ref1 r]
  have hl := dpAll_len hd
  have key : ∀ its : List Value, Vals xs its → xs.length ≤ sizeLine →
      EachIs (fun v (b : V × PyData) => RelV b.1 v) its (xs.zip ds) ∧ EachIs (fun v (b : V × PyData) => ∃ as, Reads s.heap v b.2 as) its (xs.zip ds) ∧ AllAlike ((xs.zip ds).map Prod.snd) ∧ Sortable ((xs.zip ds).map Prod.snd) ∧ (xs.zip ds).length ≤ sizeLine ∧ (∀ b, b ∈ xs.zip ds → X.A.units + 2 + (Prod.snd b).depth < cLine) ∧
      ∀ out : List Value, out.length = (xs.zip ds).length → EachIs (fun v (b : V × PyData) => RelV b.1 v) out ((xs.zip ds).mergeSort (dataLe false Prod.snd)) → EP X pins σ Q (.ref (s.heap.objs.size + 1)) { s with heap := sortedAll s.heap its (List.toArray out) } := fun its rv hz => by
    obtain ⟨as, rr⟩ := Dp.readsAll I ds xs its hd rv
    refine ⟨each_vals rv hl, each_reads rr hl, ?_, ?_, ?_, fun b hb => ?_, fun out ho he => ?_⟩
    · rw [zip_snd hl]; exact hal
    · rw [zip_snd hl]; exact hk
    · rw [List.length_zip]; omega
    · have := hdp b.2 (List.of_mem_zip hb).2
      show X.A.units + 2 + b.2.depth < cLine
      omega
    · obtain ⟨ep, at_⟩ := PyProof.Rows.sortedAll_at s.heap its (List.toArray out)
      have hz' : ((sortZ xs ds).map Prod.fst).length ≤ sizeLine := by
        unfold sortZ
        rw [List.length_map, (List.mergeSort_perm _ _).length_eq, List.length_zip]
        omega
      refine ⟨.ref _, upd H (s.heap.objs.size + 1) (.lst ((sortZ xs ds).map Prod.fst)), ?_, rfl, q _ (I.hok.fresh (Nat.le_succ _))⟩
      exact I.laid (t' := s.toks) (fun _ _ => PyProof.Rows.sortedAll_old) (Nat.le_succ _) ⟨hz', out, ep, vals_each he, at_⟩
  rcases hs with hs | hs
  · obtain ⟨its, rv, ht, hz⟩ := I.list hs
    obtain ⟨k1, k2, k3, k4, k5, k6, k7⟩ := key its rv hz
    exact sorted_data ht.isList k1 k2 k3 k4 k5 k6 k7
  · obtain ⟨its, rv, ht, hz⟩ := I.tuple hs
    obtain ⟨k1, k2, k3, k4, k5, k6, k7⟩ := key its rv hz
    exact sorted_dataT ht k1 k2 k3 k4 k5 k6 k7
end
end CrT
namespace Cr
open PySem PySem.Spec PyProof.Rows L2 Evl CrT
/-! ### which condition holds of which value -/
def numD : PyData → Int
  | .int i => i
  | _ => 0
def rise : List Int → Bool
  | a :: b :: r => decide (a ≤ b) && rise (b :: r)
  | _ => true
def diff : List PyData → Bool
  | [] => true
  | d :: ds => (!ds.any fun z => PyData.eqv z d) && diff ds
def holdsC : Cd → PyData → Bool
  | .atmost n, d => match d with | .int i => decide (i ≤ n) | _ => false
  | .divides n, d => match d with | .int i => decide (V.int (i % n) = V.int 0) | _ => false
  | .is s, d => match d with | .str x => decide (V.str x = V.str s) | _ => false
  | .item i c, d => match d with | .tuple ds => holdsC c (ds.getD i.toNat .none) | _ => false
  | .every c, d => match d with | .tuple ds => ds.all (holdsC c) | _ => false
  | .some_ c, d => match d with | .tuple ds => ds.any (holdsC c) | _ => false
  | .size c, d => match d with | .tuple ds => holdsC c (.int (ds.length : Int)) | _ => false
  | .sum c, d => match d with | .tuple ds => holdsC c (.int (ds.map numD).sum) | _ => false
  | .rising, d => match d with | .tuple ds => rise (ds.map numD) | _ => false
  | .different, d => match d with | .tuple ds => diff ds | _ => false
  | .not_ c, d => !holdsC c d
  | .and_ c e, d => holdsC c d && holdsC e d
  | .or_ c e, d => holdsC c d || holdsC e d
/-! ### what fitting and being of the kind say -/
theorem isInt_of {k : Kd} (h : k.isInt = true) : k = .int := by cases k <;> first | rfl | cases h
theorem isWord_of {k : Kd} (h : k.isWord = true) : k = .word := by cases k <;> first | rfl | cases h
theorem isk_int {d : PyData} (h : isk .int d = true) : ∃ i, d = .int i := by
  cases d <;> first | exact ⟨_, rfl⟩ | simp [isk] at h
theorem isk_word {d : PyData} (h : isk .word d = true) : ∃ s, d = .str s := by
  cases d <;> first | exact ⟨_, rfl⟩ | simp [isk] at h
theorem isk_lst {j : Kd} {d : PyData} (h : isk (.lst j) d = true) : ∃ ds, d = .tuple ds ∧ ∀ e ∈ ds, isk j e = true := by
  cases d <;> first | exact ⟨_, rfl, fun e he => List.all_eq_true.mp (by rw [isk] at h; exact h) e he⟩ | simp [isk] at h
theorem isk_tup {ks : List Kd} {d : PyData} (h : isk (.tup ks) d = true) : ∃ ds, d = .tuple ds ∧ iskAll ks ds = true := by
  cases d <;> first | exact ⟨_, rfl, by rw [isk] at h; exact h⟩ | simp [isk] at h
theorem iskAll_get : ∀ {ks : List Kd} {ds : List PyData}, iskAll ks ds = true → ks.length = ds.length ∧ ∀ (i : Nat), i < ks.length → isk (ks.getD i .int) (ds.getD i .none) = true
  | [], [], _ => ⟨rfl, fun i h => by simp at h⟩
  | [], _ :: _, h => by simp [iskAll] at h
  | _ :: _, [], h => by simp [iskAll] at h
  | k :: ks, d :: ds, h => by
    rw [iskAll] at h
    obtain ⟨h1, h2⟩ := Bool.and_eq_true_iff.mp h
    obtain ⟨hl, hi⟩ := iskAll_get h2
    refine ⟨by rw [List.length_cons, List.length_cons, hl], fun i hi' => ?_⟩
    cases i with
    | zero => exact h1
    | succ i => exact hi i (by simpa using hi')
theorem fits_item {m : Int} {c : Cd} {k : Kd} (h : fitsC (.item m c) k = true) : ∃ (j : Nat) (ks : List Kd), m = (j : Int) ∧ k = .tup ks ∧ j < ks.length ∧ fitsC c (ks.getD j .int) = true := by
  have h' : ((decide (0 ≤ m) && decide (m < (k.parts.length : Int))) && fitsC c (k.parts.getD m.toNat .int)) = true := h
  obtain ⟨h1, h2⟩ := Bool.and_eq_true_iff.mp h'
  obtain ⟨h3, h4⟩ := Bool.and_eq_true_iff.mp h1
  have h3 := of_decide_eq_true h3
  have h4 := of_decide_eq_true h4
  obtain ⟨j, rfl⟩ := Int.eq_ofNat_of_zero_le h3
  cases k with
  | tup ks => exact ⟨j, ks, rfl, rfl, Int.ofNat_lt.mp h4, h2⟩
  | _ => exact absurd h4 (by simp only [Kd.parts, List.length_nil]; omega)
theorem fits_list {f : Kd → Bool} {k : Kd} (h : (match k with | .lst j => f j | _ => false) = true) : ∃ j, k = .lst j ∧ f j = true := by
  cases k with
  | lst j => exact ⟨j, rfl, h⟩
  | _ => cases h
theorem ints_of {ds : List PyData} (h : ∀ e ∈ ds, isk .int e = true) : ds = (ds.map numD).map PyData.int := by
  rw [List.map_map]
  refine (List.map_id ds).symm.trans (List.map_congr_left fun e he => ?_)
  obtain ⟨i, rfl⟩ := isk_int (h e he)
  rfl
section
variable {K : PySem.W.Frag} {σ : L2.St} {H H' : Hp} {ta tb tl tm te : TE} {t : TT} {v x y z : V}
theorem vd_ints {a : Addr} {ns : List Int} (h : Vd K H (.ref a) (.tuple (ns.map PyData.int))) : SqT K H a (ns.map V.int) := by
  obtain ⟨xs, hs, hl, hi⟩ := h.get
  have e : xs = ns.map V.int := by
    rw [List.length_map] at hl
    apply List.ext_getElem
    · rw [List.length_map, hl]
    · intro i h1 h2
      have h3 : i < ns.length := by omega
      have q := (hi i _ _ (List.getElem?_eq_getElem h1) (by rw [List.getElem?_map, List.getElem?_eq_getElem h3]; rfl)).int_inv
      rw [q]
      simp
  rw [← e]
  exact hs
/-- a tuple, new or not -/
def EvS (K : PySem.W.Frag) (te : TE) (σ : L2.St) (H : Hp) (ys : List V) : Prop := ∀ H1, Ex H H1 → ∀ Q : VK, (∀ p H2, Ex H1 H2 → SqT K H2 p ys → Q (.ref p) H2) → te σ H1 Q
theorem evs_from1 {a : Addr} {xs : List V} (h : Ev te σ H (.ref a)) (hs : SqT K H a xs) : EvS K (tSl (rSlA K) te (tPart (tC (.int 1))) tNoPart) σ H (xs.drop 1) := fun H1 e Q q => h H1 e _ fun H2 e2 => by
  have h2 := ex_t (e.trans e2) hs
  have s1 : HT.sIx xs.length 0 (some 1) = min 1 xs.length := HT.sIx_nat _ 0 1
  refine ⟨1, rfl, a, xs, rfl, h2, fun hw => ?_, fun hw p hp => ?_⟩
  · have h1 := hw.1
    rw [s1] at h1
    have : xs = [] := by
      cases xs with
      | nil => rfl
      | cons _ _ => rw [List.length_cons] at h1; omega
    subst this
    exact q a H2 e2 h2
  · have hc : cutV xs (some 1) none = xs.drop 1 := by
      unfold cutV
      rw [s1, HT.sIx_none]
      cases xs with
      | nil => rfl
      | cons x r =>
        rw [show min 1 (x :: r).length = 1 by rw [List.length_cons]; omega]
        show (List.take ((x :: r).length - 1) r) = r
        rw [List.length_cons, Nat.add_sub_cancel]
        exact List.take_length
    rw [hc]
    exact q p _ (e2.trans (Ex.new hp)) (.of upd_same)
/-- t[i + 1:], t[:j] within the tuple -/
theorem evs_after {a : Addr} {xs : List V} {i : Nat} (h : Ev te σ H (.ref a)) (hi : Ev ta σ H (.int ((i : Int) + 1))) (hs : SqT K H a xs) (hl : i < xs.length) : EvS K (tSl (rSlA K) te (tPart ta) tNoPart) σ H (xs.drop (i + 1)) := fun H1 e Q q => h H1 e _ fun H2 e2 => hi H2 (e.trans e2) _ fun H3 e3 => by
  have h2 := ex_t ((e.trans e2).trans e3) hs
  have s1 : HT.sIx xs.length 0 (some ((i : Int) + 1)) = i + 1 := by
    rw [show ((i : Int) + 1) = ((i + 1 : Nat) : Int) by omega, HT.sIx_nat]
    omega
  refine ⟨_, rfl, a, xs, rfl, h2, fun hw => ?_, fun hw p hp => ?_⟩
  · have h1 := hw.1
    rw [s1] at h1
    omega
  · have hc : cutV xs (some ((i : Int) + 1)) none = xs.drop (i + 1) := by
      unfold cutV
      rw [s1, HT.sIx_none]
      exact List.take_of_length_le (by rw [List.length_drop]; exact Nat.le_refl _)
    rw [hc]
    exact q p _ ((e2.trans e3).trans (Ex.new hp)) (.of upd_same)
theorem evs_ahead {a : Addr} {xs : List V} {j : Nat} (h : Ev te σ H (.ref a)) (hi : Ev ta σ H (.int (j : Int))) (hs : SqT K H a xs) (hl : j < xs.length) : EvS K (tSl (rSlA K) te tNoPart (tPart ta)) σ H (xs.take j) := fun H1 e Q q => h H1 e _ fun H2 e2 => hi H2 (e.trans e2) _ fun H3 e3 => by
  have h2 := ex_t ((e.trans e2).trans e3) hs
  have s1 : HT.sIx xs.length xs.length (some (j : Int)) = j := by
    rw [HT.sIx_nat]
    omega
  refine ⟨_, rfl, a, xs, rfl, h2, fun hw => ?_, fun hw p hp => ?_⟩
  · have h1 := hw.2
    rw [s1] at h1
    omega
  · have hc : cutV xs none (some (j : Int)) = xs.take j := by
      unfold cutV
      rw [s1, HT.sIx_none]
      rfl
    rw [hc]
    exact q p _ ((e2.trans e3).trans (Ex.new hp)) (.of upd_same)
/-- x in such a tuple -/
theorem ev_inS {no : Bool} {d : PyData} {ds : List PyData} {ys : List V} (ha : Ev ta σ H x) (hb : EvS K tb σ H ys) (hx : Vd K H x d) (hy : ∀ H1, Ex H H1 → Vds K H1 ys ds) (sd : SeqAt.shaped d = true) (se : SeqAt.shaped (.tuple ds) = true) :
    Ev (tOp (rInTup K no) ta tb) σ H (.bl (if no then !ds.any fun z => PyData.eqv z d else ds.any fun z => PyData.eqv z d)) := fun H1 e Q q =>
  ha H1 e _ fun H2 e2 => hb H2 (e.trans e2) _ fun p H3 e3 hp => ⟨d, ds, (hx.keep (Kt.same ((e.trans e2).trans e3))).dp, ((hy H3 ((e.trans e2).trans e3)).tup hp).dp, sd, se, q H3 (e2.trans e3)⟩
/-- all pairs of two tuples, the second one such -/
theorem el_lcZS {a : Addr} {xs ys : List V} {j1 j2 : Nat} {vs : List Nat} (v : Nat → V) (h : Ev tl σ H (.ref a)) (h2 : EvS K tm σ H ys) (hx : SqT K H a xs) (hz : min xs.length ys.length ≤ 40000)
    (hw : ∀ x y, wipe (((wipe σ vs).set j1 (some x)).set j2 (some y)) vs = wipe σ vs)
    (he : ∀ (i : Nat) (x y : V) H1, Ex H H1 → xs[i]? = some x → ys[i]? = some y → Ev te (((wipe σ vs).set j1 (some x)).set j2 (some y)) H1 (v i)) :
    EvL (tLc (RZ.iZipA K (tCons tl (tCons tm tNil))) (gTup K 2 (gCons (gName j1) (gCons (gName j2) gNil))) tYes te vs) σ H (given (min xs.length ys.length) (fun _ => true) v) := fun H0 e Q q => h H0 e _ fun H1 e1 => h2 H1 (e.trans e1) _ fun b H2 e2 hy =>
  ⟨a, b, xs, ys, rfl, .inr ⟨ex_t ((e.trans e1).trans e2) hx, hy, fun Dl hD =>
  lc_it (walk_zipT rfl) (Cw H2 (fun _ => true) v Dl) ⟨hD, Ex.new hD, upd_same⟩ (fun _ _ _ p => ⟨ex_t (((e.trans e1).trans e2).trans p.2.1) hx, ex_t p.2.1 hy⟩) (fun i x H3 H' hi p y => by
    obtain ⟨T, x1, x2, rfl, hT, rfl, f1, f2⟩ := y
    have p' : Cw H2 (fun _ => true) v Dl i (upd H3 T (.tup [x1, x2])) := ⟨p.1, p.2.1.trans (Ex.new hT), by rw [upd_ne (ne_of_none p.2.2 hT)]; exact p.2.2⟩
    exact ⟨T, [x1, x2], rfl, .inl (.inl upd_same), rfl, x1, [x2], rfl, x2, [], rfl, rfl, hw _ _, cw_turn p' (by omega) et_yes (fun _ => he i x1 x2 H2 ((e.trans e1).trans e2) f1 f2)⟩)
    (fun H' p => q Dl H' (fresh_back (e1.trans e2) p.1) ((e1.trans e2).trans p.2.1) p.2.2)⟩⟩
/-- .. over enumerate of a tuple -/
theorem el_lcE {a : Addr} {xs : List V} {j1 j2 : Nat} {vs : List Nat} (v : Nat → V) (h : Ev tl σ H (.ref a)) (hx : SqT K H a xs) (hz : xs.length ≤ 40000)
    (hw : ∀ x y, wipe (((wipe σ vs).set j1 (some x)).set j2 (some y)) vs = wipe σ vs)
    (he : ∀ (i : Nat) (x : V) H1, Ex H H1 → xs[i]? = some x → Ev te (((wipe σ vs).set j1 (some (.int (i : Int)))).set j2 (some x)) H1 (v i)) :
    EvL (tLc (iEnumT K (tCons tl tNil)) (gTup K 2 (gCons (gName j1) (gCons (gName j2) gNil))) tYes te vs) σ H (given xs.length (fun _ => true) v) := fun H0 e Q q => h H0 e _ fun H1 e1 =>
  ⟨a, xs, rfl, ex_t (e.trans e1) hx, fun Dl hD =>
  lc_it walk_enumT (Cw H1 (fun _ => true) v Dl) ⟨hD, Ex.new hD, upd_same⟩ (fun _ _ _ p => ex_t ((e.trans e1).trans p.2.1) hx) (fun i x H3 H' hi p y => by
    obtain ⟨T, x1, x2, rfl, hT, rfl, f1, f2⟩ := y
    cases f1
    have p' : Cw H1 (fun _ => true) v Dl i (upd H3 T (.tup [.int (i : Int), x2])) := ⟨p.1, p.2.1.trans (Ex.new hT), by rw [upd_ne (ne_of_none p.2.2 hT)]; exact p.2.2⟩
    exact ⟨T, [.int (i : Int), x2], rfl, .inl (.inl upd_same), rfl, _, [x2], rfl, x2, [], rfl, rfl, hw _ _, cw_turn p' (by omega) et_yes (fun _ => he i x2 H1 (e.trans e1) f2)⟩)
    (fun H' p => q Dl H' (fresh_back e1 p.1) (e1.trans p.2.1) p.2.2)⟩
theorem ev_sumT {a : Addr} {ns : List Int} (ha : Ev ta σ H (.ref a)) (h : SqT K H a (ns.map V.int)) : Ev (tCB (rSumT K) (tCons ta tNil)) σ H (.int ns.sum) := fun H1 e Q q =>
  ha H1 e _ fun H2 e2 => ⟨a, ns, rfl, ex_t (e.trans e2) h, q H2 e2⟩
end
theorem Room.u65 {k : Nat} {A : Around} (r : Room k A) : A.units + 65 < cLine := by
  have := r.un
  omega
/-! ### rising, different -/
theorem rise_pairs : ∀ ns : List Int, ((List.range (ns.length - 1)).map fun i => decide (ns.getD i 0 ≤ ns.getD (i + 1) 0)).all id = rise ns
  | [] => rfl
  | [_] => rfl
  | a :: b :: r => by
    have ih := rise_pairs (b :: r)
    show ((List.range (r.length + 1)).map fun i => decide ((a :: b :: r).getD i 0 ≤ (a :: b :: r).getD (i + 1) 0)).all id = (decide (a ≤ b) && rise (b :: r))
    rw [List.range_succ_eq_map, List.map_cons, List.map_map, List.all_cons, ← ih]
    rfl
theorem rise_sorted : ∀ {ns : List Int}, rise ns = true → ns.Pairwise (· ≤ ·)
  | [], _ => .nil
  | [_], _ => List.pairwise_singleton _ _
  | a :: b :: r, h => by
    obtain ⟨h1, h2⟩ := Bool.and_eq_true_iff.mp (show (decide (a ≤ b) && rise (b :: r)) = true from h)
    have h1 := of_decide_eq_true h1
    have ih := rise_sorted h2
    refine .cons (fun x hx => ?_) ih
    rcases List.mem_cons.mp hx with rfl | hx
    · exact h1
    · exact Int.le_trans h1 ((List.pairwise_cons.mp ih).1 x hx)
theorem sorted_rise : ∀ {ns : List Int}, ns.Pairwise (· ≤ ·) → rise ns = true
  | [], _ => rfl
  | [_], _ => rfl
  | a :: b :: r, h => by
    obtain ⟨h1, h2⟩ := List.pairwise_cons.mp h
    show (decide (a ≤ b) && rise (b :: r)) = true
    rw [decide_eq_true (h1 b List.mem_cons_self), sorted_rise h2]
    rfl
theorem rise_eq {ns ms : List Int} (hp : ms.Perm ns) (hs : ms.Pairwise (· ≤ ·)) : decide (ns = ms) = rise ns := by
  rw [Bool.eq_iff_iff, decide_eq_true_iff]
  constructor
  · intro e
    rw [e]
    exact sorted_rise hs
  · intro h
    exact PySem.W.ksm_same hp.symm (rise_sorted h) hs
theorem eqv_ints : ∀ ns ms : List Int, PyData.eqvAll (ns.map PyData.int) (ms.map PyData.int) = decide (ns = ms)
  | [], [] => rfl
  | [], _ :: _ => rfl
  | _ :: _, [] => rfl
  | a :: ns, b :: ms => by
    show ((a == b) && PyData.eqvAll (ns.map PyData.int) (ms.map PyData.int)) = _
    rw [eqv_ints ns ms, Bool.eq_iff_iff]
    simp
theorem diff_after : ∀ ds : List PyData, ((List.range ds.length).map fun i => !(ds.drop (i + 1)).any fun z => PyData.eqv z (ds.getD i .none)).all id = diff ds
  | [] => rfl
  | d :: ds => by
    rw [List.length_cons, List.range_succ_eq_map, List.map_cons, List.map_map, List.all_cons]
    show ((!ds.any fun z => PyData.eqv z d) && _) = ((!ds.any fun z => PyData.eqv z d) && diff ds)
    rw [← diff_after ds]
    rfl
theorem diff_iff : ∀ ds : List PyData, diff ds = true ↔ ds.Pairwise fun x y => PyData.eqv x y = false
  | [] => ⟨fun _ => .nil, fun _ => rfl⟩
  | d :: ds => by
    rw [List.pairwise_cons, ← diff_iff ds]
    show ((!ds.any fun z => PyData.eqv z d) && diff ds) = true ↔ _
    rw [Bool.and_eq_true, Bool.not_eq_true', List.any_eq_false]
    constructor
    · rintro ⟨h1, h2⟩
      exact ⟨fun z hz => by rw [PySem.W.eqv_comm]; simpa using h1 z hz, h2⟩
    · rintro ⟨h1, h2⟩
      exact ⟨fun z hz => by rw [PySem.W.eqv_comm, h1 z hz]; decide, h2⟩
theorem diff_ahead (ds : List PyData) : ((List.range ds.length).map fun j => !(ds.take j).any fun z => PyData.eqv z (ds.getD j .none)).all id = diff ds := by
  rw [Bool.eq_iff_iff, diff_iff, List.all_map, List.all_eq_true, List.pairwise_iff_getElem]
  constructor
  · intro h i j hi hj hij
    have q := h j (List.mem_range.mpr hj)
    have q' : (!(ds.take j).any fun z => PyData.eqv z (ds.getD j .none)) = true := q
    rw [Bool.not_eq_true', List.any_eq_false] at q'
    have m : ds[i] ∈ ds.take j := List.mem_iff_getElem.mpr ⟨i, by rw [List.length_take]; omega, by rw [List.getElem_take]⟩
    have r := q' _ m
    rw [List.getD_eq_getElem?_getD, List.getElem?_eq_getElem hj] at r
    simpa using r
  · intro h j hj
    have hj := List.mem_range.mp hj
    show (!(ds.take j).any fun z => PyData.eqv z (ds.getD j .none)) = true
    rw [Bool.not_eq_true', List.any_eq_false]
    intro z hz
    obtain ⟨i, hi, rfl⟩ := List.mem_iff_getElem.mp hz
    rw [List.length_take] at hi
    rw [List.getD_eq_getElem?_getD, List.getElem?_eq_getElem hj, List.getElem_take]
    have q := h i j (by omega) hj (by omega)
    show ¬ PyData.eqv ds[i] ds[j] = true
    rw [q]
    decide
/-! ### the promises -/
def spHolds (K : PySem.W.Frag) (n : Nat) : Sp := fun vs H Q _ => ∃ (v u : V) (c : Cd) (k : Kd) (d : PyData), vs = [v, u] ∧ Vd K H v c.data ∧ OkC n c ∧ Vd K H u d ∧ Dk 20 d ∧ fitsC c k = true ∧ isk k d = true ∧ ∀ H', Same H H' → Q (.bl (holdsC c d)) H'
def spDiff (K : PySem.W.Frag) : Sp := fun vs H Q _ => ∃ (u : V) (ds : List PyData), vs = [u] ∧ Vd K H u (.tuple ds) ∧ Dk 20 (.tuple ds) ∧ ∀ H', Same H H' → Q (.bl (diff ds)) H'
theorem spHolds_0 {K : PySem.W.Frag} (vs : List V) (H : Hp) (Q : VK) (E : XK) : ¬ spHolds K 0 vs H Q E := fun h => by
  obtain ⟨_, _, _, _, _, _, _, h, _⟩ := h
  cases h
theorem holds_call {K : PySem.W.Frag} {H : Hp} {n : Nat} {v u : V} {c : Cd} {k : Kd} {d : PyData} (hv : Vd K H v c.data) (hc : OkC n c) (hu : Vd K H u d) (hd : Dk 20 d) (hf : fitsC c k = true) (hi : isk k d = true) : SpV (spHolds K n) [v, u] H (.bl (holdsC c d)) := fun H1 e Q q E =>
  ⟨v, u, c, k, d, rfl, hv.keep (Kt.same e), hc, hu.keep (Kt.same e), hd, hf, hi, fun H' e' => q H' e'⟩
theorem Vd.vds {K : PySem.W.Frag} {H : Hp} {a : Addr} {ds : List PyData} (h : Vd K H (.ref a) (.tuple ds)) : ∃ xs, SqT K H a xs ∧ Vds K H xs ds := by
  obtain ⟨xs, hs, hl, hi⟩ := h.get
  exact ⟨xs, hs, hl, hi⟩
theorem Vds.drop {K : PySem.W.Frag} {H : Hp} {xs : List V} {ds : List PyData} (h : Vds K H xs ds) (n : Nat) : Vds K H (xs.drop n) (ds.drop n) :=
  ⟨by rw [List.length_drop, List.length_drop, h.1], fun i v d h1 h2 => h.2 (n + i) v d (by rw [List.getElem?_drop] at h1; exact h1) (by rw [List.getElem?_drop] at h2; exact h2)⟩
theorem Vds.take {K : PySem.W.Frag} {H : Hp} {xs : List V} {ds : List PyData} (h : Vds K H xs ds) (n : Nat) : Vds K H (xs.take n) (ds.take n) :=
  ⟨by rw [List.length_take, List.length_take, h.1], fun i v d h1 h2 => by
    rw [List.getElem?_take] at h1 h2
    by_cases hi : i < n
    · rw [if_pos hi] at h1 h2
      exact h.2 i v d h1 h2
    · rw [if_neg hi] at h1
      cases h1⟩
theorem Dk.sub {n : Nat} {ds es : List PyData} (h : Dk n (.tuple ds)) (hl : es.length ≤ ds.length) (hs : ∀ e ∈ es, e ∈ ds) : Dk n (.tuple es) := by
  cases h with
  | tup h1 h2 => exact .tup (Nat.le_trans hl h1) fun e he => h2 e (hs e he)
theorem any_items {α : Type} (a0 : α) (p : α → Bool) (ds : List α) : ((List.range ds.length).map fun i => p (ds.getD i a0)).any id = ds.any p := by
  have h : ((List.range ds.length).map fun i => p (ds.getD i a0)) = ds.map p := by
    apply List.ext_getElem
    · simp
    · intro i h1 h2
      simp at h1
      simp [List.getD_eq_getElem?_getD, List.getElem?_eq_getElem h1]
  rw [h, List.any_map]
  rfl
theorem flat_bls (bs : List Bool) : (bs.map V.bl).all flatV = true := by
  rw [List.all_map, List.all_eq_true]
  exact fun _ _ => rfl
theorem in_false (bs : List Bool) : (!inV (.bl false) (bs.map V.bl)) = bs.all id := by
  unfold inV
  rw [List.any_map]
  induction bs with
  | nil => rfl
  | cons b bs ih =>
    rw [List.any_cons, List.all_cons, Bool.not_or, ih]
    cases b <;> rfl
theorem in_true (bs : List Bool) : inV (.bl true) (bs.map V.bl) = bs.any id := by
  unfold inV
  rw [List.any_map]
  induction bs with
  | nil => rfl
  | cons b bs ih =>
    rw [List.any_cons, List.any_cons, ih]
    cases b <;> rfl
theorem dp_ints {K : PySem.W.Frag} {H : Hp} : ∀ ns : List Int, DpAll K H (ns.map V.int) (ns.map PyData.int)
  | [] => .nil
  | n :: ns => .cons (.int n) (dp_ints ns)
theorem at_int {ns : List Int} {i : Nat} {x : V} (h : (ns.map V.int)[i]? = some x) : x = .int (ns.getD i 0) := by
  obtain ⟨m, hm, rfl⟩ := map_int h
  rw [List.getD_eq_getElem?_getD, hm]
  rfl
end Cr
namespace Cr
open PySem PySem.Spec PyProof.Rows L2 Evl CrT
/-! ### maps -/
inductive Mp where
  | plus (n : Int) | times (n : Int) | item (k : Int) | length | sum | sorted | reversed
def Mp.data : Mp → PyData
  | .plus n => .tuple [.str "plus", .int n]
  | .times n => .tuple [.str "times", .int n]
  | .item k => .tuple [.str "item", .int k]
  | .length => .tuple [.str "length"]
  | .sum => .tuple [.str "sum"]
  | .sorted => .tuple [.str "sorted"]
  | .reversed => .tuple [.str "reversed"]
def behind : Mp → Kd → Option Kd
  | .plus n, k => if k.isInt && (decide (-1000 ≤ n) && decide (n ≤ 1000)) then some .int else none
  | .times n, k => if k.isInt && (decide (-1000 ≤ n) && decide (n ≤ 1000)) then some .int else none
  | .item i, k => if decide (0 ≤ i) && decide (i < (k.parts.length : Int)) then some (k.parts.getD i.toNat .int) else none
  | .length, k => match k with | .lst _ => some .int | _ => none
  | .sum, k => match k with | .lst j => if j.isInt then some .int else none | _ => none
  | .sorted, k => match k with | .lst j => if j.isFlat then some (.lst j) else none | _ => none
  | .reversed, k => match k with | .lst j => some (.lst j) | _ => none
/-! ### generators -/
inductive Gn where
  | int (lo hi : Int) | pick (ws : List Str) | tuple (gs : List Gn) | list (g : Gn) (least most : Int) | one (gs : List Gn) | kept (g : Gn) (c : Cd) | turned (g : Gn) (m : Mp) | repeat_ (g h : Gn)
mutual
def Gn.data : Gn → PyData
  | .int lo hi => .tuple [.str "int", .int lo, .int hi]
  | .pick ws => .tuple [.str "pick", .tuple (ws.map PyData.str)]
  | .tuple gs => .tuple [.str "tuple", .tuple (gnAll gs)]
  | .list g least most => .tuple [.str "list", g.data, .int least, .int most]
  | .one gs => .tuple [.str "one", .tuple (gnAll gs)]
  | .kept g c => .tuple [.str "kept", g.data, c.data]
  | .turned g m => .tuple [.str "turned", g.data, m.data]
  | .repeat_ g h => .tuple [.str "repeat", g.data, h.data]
def gnAll : List Gn → List PyData
  | [] => []
  | g :: gs => g.data :: gnAll gs
end
theorem gnAll_map : ∀ gs : List Gn, gnAll gs = gs.map Gn.data
  | [] => by rw [gnAll]; rfl
  | g :: gs => by rw [gnAll, gnAll_map gs]; rfl
/-- depth and lengths alone -/
inductive OkG : Nat → Gn → Prop
  | int {n : Nat} (lo hi : Int) : OkG (n + 1) (.int lo hi)
  | pick {n : Nat} {ws : List Str} : ws.length ≤ 60 → (∀ w ∈ ws, SeqAt.shaped (.str w) = true ∧ w.length ≤ 1000) → OkG (n + 1) (.pick ws)
  | tuple {n : Nat} {gs : List Gn} : gs.length ≤ 60 → (∀ g ∈ gs, OkG n g) → OkG (n + 1) (.tuple gs)
  | list {n : Nat} {g : Gn} (a b : Int) : OkG n g → OkG (n + 1) (.list g a b)
  | one {n : Nat} {gs : List Gn} : gs.length ≤ 60 → (∀ g ∈ gs, OkG n g) → OkG (n + 1) (.one gs)
  | kept {n : Nat} {g : Gn} {c : Cd} : OkG n g → OkC 10 c → OkG (n + 1) (.kept g c)
  | turned {n : Nat} {g : Gn} (m : Mp) : OkG n g → OkG (n + 1) (.turned g m)
  | repeat_ {n : Nat} {g h : Gn} : OkG n g → OkG n h → OkG (n + 1) (.repeat_ g h)
theorem OkG.mono {n m : Nat} {g : Gn} (h : OkG n g) (hm : n ≤ m) : OkG m g := by
  induction h generalizing m with
  | int => obtain ⟨m', rfl⟩ : ∃ m', m = m' + 1 := ⟨m - 1, by omega⟩; exact .int _ _
  | pick h1 h2 => obtain ⟨m', rfl⟩ : ∃ m', m = m' + 1 := ⟨m - 1, by omega⟩; exact .pick h1 h2
  | tuple h1 _ ih => obtain ⟨m', rfl⟩ : ∃ m', m = m' + 1 := ⟨m - 1, by omega⟩; exact .tuple h1 fun g hg => ih g hg (by omega)
  | list a b _ ih => obtain ⟨m', rfl⟩ : ∃ m', m = m' + 1 := ⟨m - 1, by omega⟩; exact .list a b (ih (by omega))
  | one h1 _ ih => obtain ⟨m', rfl⟩ : ∃ m', m = m' + 1 := ⟨m - 1, by omega⟩; exact .one h1 fun g hg => ih g hg (by omega)
  | kept _ hc ih => obtain ⟨m', rfl⟩ : ∃ m', m = m' + 1 := ⟨m - 1, by omega⟩; exact .kept (ih (by omega)) hc
  | turned q _ ih => obtain ⟨m', rfl⟩ : ∃ m', m = m' + 1 := ⟨m - 1, by omega⟩; exact .turned q (ih (by omega))
  | repeat_ _ _ ih1 ih2 => obtain ⟨m', rfl⟩ : ∃ m', m = m' + 1 := ⟨m - 1, by omega⟩; exact .repeat_ (ih1 (by omega)) (ih2 (by omega))
/-- a generator without faults, and its kind -/
inductive GenK : Gn → Kd → Prop
  | int {lo hi : Int} : -1000 ≤ lo → lo ≤ hi → hi ≤ 1000 → GenK (.int lo hi) .int
  | pick {ws : List Str} : 0 < ws.length → ws.length ≤ 10 → ws.Nodup → (∀ w ∈ ws, isWord w = true) → GenK (.pick ws) .word
  | tuple {gs : List Gn} {ks : List Kd} : gs.length ≤ 4 → gs.length = ks.length → (∀ (i : Nat) g k, gs[i]? = some g → ks[i]? = some k → GenK g k) → GenK (.tuple gs) (.tup ks)
  | list {g : Gn} {k : Kd} {a b : Int} : GenK g k → 0 ≤ a → a ≤ b → b ≤ 6 → GenK (.list g a b) (.lst k)
  | one {gs : List Gn} {k : Kd} : 0 < gs.length → gs.length ≤ 4 → (∀ g ∈ gs, GenK g k) → GenK (.one gs) k
  | kept {g : Gn} {k : Kd} {c : Cd} : GenK g k → fitsC c k = true → GenK (.kept g c) k
  | turned {g : Gn} {k k' : Kd} {m : Mp} : GenK g k → behind m k = some k' → GenK (.turned g m) k'
  | repeat_ {g h : Gn} {k : Kd} : GenK g .int → GenK h k → GenK (.repeat_ g h) (.lst k)
/-! ### how many rows, at most -/
def powSum (c : Nat) : Nat → Nat → Nat
  | _, 0 => 0
  | a, n + 1 => c ^ a + powSum c (a + 1) n
mutual
def cntG : Gn → Nat
  | .int lo hi => (hi - lo + 1).toNat
  | .pick ws => ws.length
  | .tuple gs => cntMul gs
  | .list g a b => powSum (cntG g) a.toNat (b.toNat + 1 - a.toNat)
  | .one gs => cntAdd gs
  | .kept g _ => cntG g
  | .turned g _ => cntG g
  | .repeat_ g h => match g with
    | .int lo hi => powSum (cntG h) lo.toNat (hi.toNat + 1 - lo.toNat)
    | g => cntG g * (1 + cntG h) ^ 6
def cntMul : List Gn → Nat
  | [] => 1
  | g :: gs => cntG g * cntMul gs
def cntAdd : List Gn → Nat
  | [] => 0
  | g :: gs => cntG g + cntAdd gs
end
def baseK : Kd → Nat
  | .int => 4
  | .word => 4
  | .tup _ => 16
  | .lst j => 1 + baseK j + baseK j ^ 2
theorem cntAdd_le {m : Nat} : ∀ gs : List Gn, (∀ g ∈ gs, cntG g ≤ m) → cntAdd gs ≤ gs.length * m
  | [], _ => by rw [cntAdd]; exact Nat.zero_le _
  | g :: gs, h => by
    rw [cntAdd, List.length_cons, Nat.add_mul]
    have h1 := h g List.mem_cons_self
    have h2 := cntAdd_le gs fun g' h' => h g' (List.mem_cons_of_mem _ h')
    omega
theorem cntMul_le {m : Nat} : ∀ gs : List Gn, (∀ g ∈ gs, cntG g ≤ m) → cntMul gs ≤ m ^ gs.length
  | [], _ => by rw [cntMul]; exact Nat.le_refl _
  | g :: gs, h => by
    rw [cntMul, List.length_cons, Nat.pow_succ, Nat.mul_comm]
    exact Nat.mul_le_mul (cntMul_le gs fun g' h' => h g' (List.mem_cons_of_mem _ h')) (h g List.mem_cons_self)
theorem pow_up {n : Nat} (h : 0 < n) (b : Nat) : 2 ^ (n - 1) * b ≤ 2 ^ n * b := Nat.mul_le_mul_right _ (Nat.pow_le_pow_right (by decide) (by omega))
theorem one_le {n b : Nat} (h : 0 < n) {gs : List Gn} (h2 : gs.length ≤ 2) (hg : ∀ g ∈ gs, cntG g ≤ 2 ^ (n - 1) * b) : cntG (.one gs) ≤ 2 ^ n * b := by
  rw [cntG]
  refine Nat.le_trans (cntAdd_le gs hg) (Nat.le_trans (Nat.mul_le_mul_right _ h2) ?_)
  have e : (n - 1).succ = n := by omega
  rw [← Nat.mul_assoc, ← Nat.pow_succ', e]
  exact Nat.le_refl _
theorem four_le (n : Nat) {k : Nat} (h : k ≤ 4) : k ≤ 2 ^ n * 4 := Nat.le_trans h (Nat.le_mul_of_pos_left _ (Nat.pow_pos (by decide)))
theorem tup_le (n : Nat) {gs : List Gn} {ks : List Kd} (h2 : gs.length ≤ 2) (hg : ∀ g ∈ gs, cntG g ≤ 4) : cntG (.tuple gs) ≤ 2 ^ n * baseK (.tup ks) := by
  rw [cntG, baseK]
  refine Nat.le_trans (cntMul_le gs hg) (Nat.le_trans (Nat.pow_le_pow_right (by decide) h2) ?_)
  exact Nat.le_mul_of_pos_left _ (Nat.pow_pos (by decide))
theorem pow_le_two {c m : Nat} (h : m = 0 ∨ m = 1 ∨ m = 2) : c ^ m ≤ 1 + c + c ^ 2 := by
  rcases h with rfl | rfl | rfl
  · rw [Nat.pow_zero]; omega
  · rw [Nat.pow_one]; omega
  · omega
theorem powSum_le {c a n : Nat} (h : a + n ≤ 3) : powSum c a n ≤ 1 + c + c ^ 2 := by
  have z : ∀ a, powSum c a 0 = 0 := fun _ => by rw [powSum]
  have s : ∀ a n, powSum c a (n + 1) = c ^ a + powSum c (a + 1) n := fun _ _ => by rw [powSum]
  rcases (by omega : n = 0 ∨ n = 1 ∨ (n = 2 ∧ a = 0) ∨ (n = 2 ∧ a = 1) ∨ (n = 3 ∧ a = 0)) with rfl | rfl | ⟨rfl, rfl⟩ | ⟨rfl, rfl⟩ | ⟨rfl, rfl⟩
  · rw [z]; omega
  · rw [s, z]; have := pow_le_two (c := c) (m := a) (by omega); omega
  · rw [s, s, z]; simp only [Nat.zero_add, Nat.reduceAdd, Nat.pow_zero, Nat.pow_one]; omega
  · rw [s, s, z]; simp only [Nat.zero_add, Nat.reduceAdd, Nat.pow_zero, Nat.pow_one]; omega
  · rw [s, s, s, z]; simp only [Nat.zero_add, Nat.reduceAdd, Nat.pow_zero, Nat.pow_one]; omega
theorem two_up {n b c : Nat} (hn : n ≤ 2) (hc : c ≤ 2 ^ (n - 1) * b) : 1 + c + c ^ 2 ≤ 2 ^ n * (1 + b + b ^ 2) := by
  have h1 : c ^ 2 ≤ (2 ^ (n - 1) * b) ^ 2 := Nat.pow_le_pow_left hc 2
  rcases (by omega : n = 0 ∨ n = 1 ∨ n = 2) with rfl | rfl | rfl
  · simp at hc h1 ⊢; omega
  · simp at hc h1 ⊢; omega
  · simp [Nat.mul_pow] at hc h1 ⊢; omega
theorem base_up (n : Nat) {b c : Nat} (hc : c ≤ b) : 1 + c + c ^ 2 ≤ 2 ^ n * (1 + b + b ^ 2) := by
  have h1 : c ^ 2 ≤ b ^ 2 := Nat.pow_le_pow_left hc 2
  exact Nat.le_trans (show 1 + c + c ^ 2 ≤ 1 + b + b ^ 2 by omega) (Nat.le_mul_of_pos_left _ (Nat.pow_pos (by decide)))
theorem flat_base {k : Kd} (h : k.isFlat = true) : baseK k = 4 := by
  cases k <;> simp [Kd.isFlat] at h
  · rw [baseK]
  · rw [baseK]
/-- no part has more rows than M -/
inductive CapG (M : Nat) : Gn → Prop
  | int {lo hi : Int} : cntG (.int lo hi) ≤ M → CapG M (.int lo hi)
  | pick {ws : List Str} : cntG (.pick ws) ≤ M → CapG M (.pick ws)
  | tuple {gs : List Gn} : (∀ g ∈ gs, CapG M g) → cntG (.tuple gs) ≤ M → CapG M (.tuple gs)
  | list {g : Gn} {a b : Int} : CapG M g → cntG (.list g a b) ≤ M → CapG M (.list g a b)
  | one {gs : List Gn} : (∀ g ∈ gs, CapG M g) → cntG (.one gs) ≤ M → CapG M (.one gs)
  | kept {g : Gn} {c : Cd} : CapG M g → cntG (.kept g c) ≤ M → CapG M (.kept g c)
  | turned {g : Gn} {m : Mp} : CapG M g → cntG (.turned g m) ≤ M → CapG M (.turned g m)
  | repeat_ {g h : Gn} : CapG M g → CapG M h → cntG (.repeat_ g h) ≤ M → CapG M (.repeat_ g h)
theorem CapG.cnt {M : Nat} {g : Gn} (h : CapG M g) : cntG g ≤ M := by cases h <;> assumption
theorem CapG.mono {M M' : Nat} {g : Gn} (h : CapG M g) (hm : M ≤ M') : CapG M' g := by
  induction h with
  | int h => exact .int (Nat.le_trans h hm)
  | pick h => exact .pick (Nat.le_trans h hm)
  | tuple _ h ih => exact .tuple ih (Nat.le_trans h hm)
  | list _ h ih => exact .list ih (Nat.le_trans h hm)
  | one _ h ih => exact .one ih (Nat.le_trans h hm)
  | kept _ h ih => exact .kept ih (Nat.le_trans h hm)
  | turned _ h ih => exact .turned ih (Nat.le_trans h hm)
  | repeat_ _ _ h ih1 ih2 => exact .repeat_ ih1 ih2 (Nat.le_trans h hm)
theorem base_four : ∀ k : Kd, 4 ≤ baseK k
  | .int => by rw [baseK]; exact Nat.le_refl _
  | .word => by rw [baseK]; exact Nat.le_refl _
  | .tup _ => by rw [baseK]; decide
  | .lst j => by rw [baseK]; have := base_four j; omega
theorem base_lst (n : Nat) (j : Kd) : 2 ^ (n - 1) * baseK j ≤ 2 ^ n * baseK (.lst j) := by
  rw [baseK]
  refine Nat.mul_le_mul (Nat.pow_le_pow_right (by decide) (by omega)) ?_
  omega
theorem base_le {k : Kd} (hk : OkK 3 k) (hn : NeK k) : baseK k ≤ 463 := by
  have flat : ∀ {k : Kd}, k.isFlat = true → baseK k = 4 := fun h => flat_base h
  cases hn with
  | int => rw [baseK]; decide
  | word => rw [baseK]; decide
  | tup => rw [baseK]; decide
  | @lst j hj =>
    cases hk with
    | lst hk =>
      have h2 : baseK j ≤ 21 := by
        cases hj with
        | int => rw [baseK]; decide
        | word => rw [baseK]; decide
        | tup => rw [baseK]; decide
        | @lst i hi =>
          cases hk with
          | lst hk =>
            rw [baseK, flat (flat_of hk hi)]
            decide
      rw [baseK]
      have : baseK j ^ 2 ≤ 21 ^ 2 := Nat.pow_le_pow_left h2 2
      omega
/-! ### what the law's draws promise -/
def spLLimit2 (K : PySem.W.Frag) (N : Nat) : Sp := fun vs H Q _ => ∃ (b d : Addr) (u : V) (kd : Kd) (n m : Nat), vs = [.ref b, u, .int (n : Int)] ∧ Bx H b d ∧ Vd K H u kd.data ∧ OkK m kd ∧ NeK kd ∧ n + m ≤ N ∧ N ≤ 15 ∧ ∀ v c H', Mv b d H H' → Vd K H' v (Cd.data c) → OkC N c → fitsC c kd = true → Q v H'
theorem spLLimit2_0 {K : PySem.W.Frag} (vs : List V) (H : Hp) (Q : VK) (E : XK) : ¬ spLLimit2 K 0 vs H Q E := fun h => by
  obtain ⟨_, _, _, _, n, m, _, _, _, hk, _, hn, _⟩ := h
  have := hk.pos
  omega
def spLGen (K : PySem.W.Frag) (N : Nat) : Sp := fun vs H Q _ => ∃ (b d : Addr) (u : V) (kd : Kd) (n m : Nat), vs = [.ref b, u, .int (n : Int)] ∧ Bx H b d ∧ Vd K H u kd.data ∧ OkK m kd ∧ NeK kd ∧ n + m ≤ N ∧ n ≤ 2 ∧ m ≤ 4 ∧ ∀ v g H', Mv b d H H' → Vd K H' v (Gn.data g) → OkG (N + 1) g → GenK g kd → CapG (2 ^ n * baseK kd) g → Q v H'
theorem item_fits {j : Nat} {ks : List Kd} {c : Cd} (hj : j < ks.length) (h : fitsC c (ks.getD j .int) = true) : fitsC (.item (j : Int) c) (.tup ks) = true := by
  show ((decide ((0 : Int) ≤ (j : Int)) && decide ((j : Int) < (ks.length : Int))) && fitsC c (ks.getD (j : Int).toNat .int)) = true
  rw [decide_eq_true (show (0 : Int) ≤ (j : Int) by omega), decide_eq_true (show (j : Int) < (ks.length : Int) by omega), Int.toNat_natCast, h]
  rfl
theorem lst_int {k : Kd} (h : PyData.eqv (Kd.lst k).data (Kd.lst Kd.int).data = true) : k.isInt = true := by
  rw [Kd.data, Kd.data] at h
  have h' : (PyData.eqv (.str "list") (.str "list") && (PyData.eqv k.data Kd.int.data && true)) = true := h
  rw [Bool.and_true] at h'
  have h2 := (Bool.and_eq_true_iff.mp h').2
  rw [Kd.data, eqv_int] at h2
  exact h2
theorem len1 {a : V} : [a].length ≤ sizeLine := by show 1 ≤ sizeLine; decide
theorem len2 {a b : V} : [a, b].length ≤ sizeLine := by show 2 ≤ sizeLine; decide
theorem len3 {a b c : V} : [a, b, c].length ≤ sizeLine := by show 3 ≤ sizeLine; decide
theorem len4 {a b c d : V} : [a, b, c, d].length ≤ sizeLine := by show 4 ≤ sizeLine; decide
theorem flat_in (k : Kd) : ([.str "int", .str "word"] : List PyData).any (fun z => PyData.eqv z k.data) = k.isFlat := by
  have h1 : PyData.eqv (.str "int") k.data = k.isInt := by rw [PySem.W.eqv_comm, eqv_int]
  have h2 : PyData.eqv (.str "word") k.data = k.isWord := by rw [PySem.W.eqv_comm, eqv_word]
  show (PyData.eqv (.str "int") k.data || (PyData.eqv (.str "word") k.data || false)) = _
  rw [h1, h2]
  cases k <;> rfl
theorem shaped_flat : SeqAt.shaped (.list [.str "int", .str "word"]) = true := by decide +kernel
/-- a generator with its kind and the box, drawn -/
def spLSome (K : PySem.W.Frag) : Sp := fun vs H Q _ => ∃ (a : Addr) (ns : List Int) (k : Nat), vs = [.ref a, .int (k : Int)] ∧ SqL K H a (ns.map V.int) ∧
  ∀ p v u b d g kd H', Same H H' → H b = none → Bx H' b d → H' p = some (.tup [v, u, .ref b]) → Vd K H' v (Gn.data g) → Vd K H' u (Kd.data kd) → OkG 6 g → GenK g kd → OkK 3 kd → NeK kd → CapG (2 ^ 2 * baseK kd) g → Q (.ref p) H'
theorem same_of_mv {H H1 H' : Hp} {b d : Addr} (e : Same H H1) (hb : H b = none) (m : Mv b d H1 H') : Same H H' := fun a o h => m.1 a o (ne_of_none h hb) (e a o h)
/-- the kind of a generator without faults -/
def spKindOk (K : PySem.W.Frag) (N : Nat) : Sp := fun vs H Q _ => ∃ (v : V) (g : Gn) (kd : Kd), vs = [v] ∧ Vd K H v g.data ∧ OkG N g ∧ GenK g kd ∧ ∀ u H', Same H H' → Vd K H' u kd.data → Q u H'
end Cr
namespace Cr
open PySem PySem.Spec PyProof.Rows L2 Evl CrT
/-! ### what maps make of values -/
def intOf : PyData → Int
  | .int i => i
  | _ => 0
def sortD (ds : List PyData) : List PyData := ds.mergeSort (PySem.W.dataLe false id)
def turnD : Mp → PyData → PyData
  | .plus n, .int i => .int (i + n)
  | .times n, .int i => .int (i * n)
  | .item k, .tuple ds => ds.getD k.toNat .none
  | .length, .tuple ds => .int (ds.length : Int)
  | .sum, .tuple ds => .int (ds.map intOf).sum
  | .sorted, .tuple ds => .tuple (sortD ds)
  | .reversed, .tuple ds => .tuple ds.reverse
  | _, d => d
theorem sortD_perm (ds : List PyData) : (sortD ds).Perm ds := List.mergeSort_perm _ _
theorem sortD_length (ds : List PyData) : (sortD ds).length = ds.length := (sortD_perm ds).length_eq
theorem sortZ_snd {xs : List V} {ds : List PyData} (h : xs.length = ds.length) : (sortZ xs ds).map Prod.snd = sortD ds := by
  unfold sortZ sortD
  rw [PySem.W.sort_maps (r := PySem.W.dataLe false Prod.snd) (s := PySem.W.dataLe false id) Prod.snd (fun _ _ _ _ => rfl), zip_snd h]
section
variable {K : PySem.W.Frag} {H H' : Hp}
theorem Vds.zip {xs : List V} {ds : List PyData} (h : Vds K H xs ds) {z : V × PyData} (hz : z ∈ xs.zip ds) : Vd K H z.1 z.2 := by
  obtain ⟨i, hi⟩ := List.mem_iff_getElem?.mp hz
  rw [List.getElem?_zip_eq_some] at hi
  exact h.2 i z.1 z.2 hi.1 hi.2
theorem Vds.sorted {xs : List V} {ds : List PyData} (h : Vds K H xs ds) : Vds K H ((sortZ xs ds).map Prod.fst) (sortD ds) := by
  rw [← sortZ_snd h.1]
  refine ⟨by rw [List.length_map, List.length_map], fun i v d h1 h2 => ?_⟩
  rw [List.getElem?_map] at h1 h2
  cases e : (sortZ xs ds)[i]? with
  | none => rw [e] at h1; cases h1
  | some z =>
    rw [e] at h1 h2
    cases h1
    cases h2
    exact h.zip ((List.mergeSort_perm _ _).mem_iff.mp (List.mem_of_getElem? e))
theorem Vds.reverse {xs : List V} {ds : List PyData} (h : Vds K H xs ds) : Vds K H xs.reverse ds.reverse := by
  refine ⟨by rw [List.length_reverse, List.length_reverse, h.1], fun i v d h1 h2 => ?_⟩
  have hl := h.1
  by_cases hi : i < xs.length
  · rw [List.getElem?_reverse hi] at h1
    rw [List.getElem?_reverse (by omega), ← hl] at h2
    exact h.2 _ v d h1 h2
  · rw [List.getElem?_eq_none (by rw [List.length_reverse]; omega)] at h1
    cases h1
theorem Vds.dp {xs : List V} {ds : List PyData} (h : Vds K H xs ds) : DpAll K H xs ds := dpAll_of h.1 fun i v d h1 h2 => (h.2 i v d h1 h2).dp
theorem Vd.all {a : Addr} {ds : List PyData} (h : Vd K H (.ref a) (.tuple ds)) : ∃ xs, SqT K H a xs ∧ Vds K H xs ds := by
  obtain ⟨xs, h1, h2, h3⟩ := h.get
  exact ⟨xs, h1, h2, h3⟩
/-- lists of ints -/
theorem Vds.ints : ∀ {xs : List V} {ds : List PyData}, Vds K H xs ds → (∀ d ∈ ds, isk .int d = true) → xs = (ds.map intOf).map V.int
  | [], [], _, _ => rfl
  | [], _ :: _, h, _ => by have := h.1; simp at this
  | _ :: _, [], h, _ => by have := h.1; simp at this
  | x :: xs, d :: ds, h, q => by
    have h0 := h.2 0 x d rfl rfl
    have hd := q d List.mem_cons_self
    have t := Vds.ints (xs := xs) (ds := ds) ⟨by have := h.1; simpa using this, fun i v e h1 h2 => h.2 (i + 1) v e (by simpa using h1) (by simpa using h2)⟩ fun e he => q e (List.mem_cons_of_mem _ he)
    rw [t]
    cases d with
    | int i => cases h0.int_inv; rfl
    | _ => simp [isk] at hd
end
/-! ### values of one kind are alike -/
theorem alike_all_of {p : PyData → Bool} (f : ∀ d e, p d = true → p e = true → PySem.W.alike d e = true) : ∀ ds es : List PyData, ds.all p = true → es.all p = true → PySem.W.alikeAll ds es = true
  | [], _, _, _ => by simp [PySem.W.alikeAll]
  | _ :: _, [], _, _ => by simp [PySem.W.alikeAll]
  | d :: ds, e :: es, h, g => by
    rw [List.all_cons, Bool.and_eq_true] at h g
    rw [PySem.W.alikeAll, f d e h.1 g.1, alike_all_of f ds es h.2 g.2]
    rfl
mutual
theorem isk_alike : ∀ (k : Kd) (d e : PyData), isk k d = true → isk k e = true → PySem.W.alike d e = true
  | .int, d, e, h, g => by
    cases d <;> simp [isk] at h
    cases e <;> simp [isk] at g
    rfl
  | .word, d, e, h, g => by
    cases d <;> simp [isk] at h
    cases e <;> simp [isk] at g
    rfl
  | .lst k, d, e, h, g => by
    cases d <;> simp only [isk, Bool.false_eq_true] at h
    cases e <;> simp only [isk, Bool.false_eq_true] at g
    rw [PySem.W.alike]
    exact alike_all_of (isk_alike k) _ _ h g
  | .tup ks, d, e, h, g => by
    cases d <;> simp only [isk, Bool.false_eq_true] at h
    cases e <;> simp only [isk, Bool.false_eq_true] at g
    rw [PySem.W.alike]
    exact iskAll_alike ks _ _ h g
theorem iskAll_alike : ∀ (ks : List Kd) (ds es : List PyData), iskAll ks ds = true → iskAll ks es = true → PySem.W.alikeAll ds es = true
  | [], [], _, _, _ => by simp [PySem.W.alikeAll]
  | [], _ :: _, _, h, _ => by simp [iskAll] at h
  | _ :: _, [], _, _, _ => by simp [PySem.W.alikeAll]
  | _ :: _, _ :: _, [], _, _ => by simp [PySem.W.alikeAll]
  | k :: ks, d :: ds, e :: es, h, g => by
    rw [iskAll, Bool.and_eq_true] at h g
    rw [PySem.W.alikeAll, isk_alike k d e h.1 g.1, iskAll_alike ks ds es h.2 g.2]
    rfl
end
theorem all_of_perm {p : PyData → Bool} {ds es : List PyData} (h : ds.Perm es) (g : es.all p = true) : ds.all p = true := by
  rw [List.all_eq_true] at g ⊢
  exact fun d hd => g d (h.mem_iff.mp hd)
theorem behind_lst {m : Mp} {k k' : Kd} (h : behind m k = some k') (hm : m = .length ∨ m = .sum ∨ m = .sorted ∨ m = .reversed) : ∃ j, k = .lst j := by
  cases k with
  | lst j => exact ⟨j, rfl⟩
  | _ => rcases hm with rfl | rfl | rfl | rfl <;> simp [behind] at h
theorem behind_item {i : Int} {k k' : Kd} (h : behind (.item i) k = some k') : ∃ ks, k = .tup ks ∧ 0 ≤ i ∧ i.toNat < ks.length ∧ k' = ks.getD i.toNat .int := by
  have h' : (if decide (0 ≤ i) && decide (i < (k.parts.length : Int)) then some (k.parts.getD i.toNat .int) else none) = some k' := h
  by_cases c : (decide (0 ≤ i) && decide (i < (k.parts.length : Int))) = true
  · rw [if_pos c] at h'
    have c' := Bool.and_eq_true_iff.mp c
    have c1 := of_decide_eq_true c'.1
    have c2 := of_decide_eq_true c'.2
    cases h'
    cases k with
    | tup ks =>
      refine ⟨ks, rfl, c1, ?_, rfl⟩
      have : i < (ks.length : Int) := c2
      omega
    | _ => exact absurd c2 (by simp [Kd.parts]; omega)
  · rw [if_neg c] at h'
    cases h'
theorem behind_item0 {i : Int} {k : Kd} (h : k.parts = []) : behind (.item i) k = none := by
  show (if decide (0 ≤ i) && decide (i < (k.parts.length : Int)) then some (k.parts.getD i.toNat .int) else none) = none
  rw [h, if_neg]
  intro c
  have h1 := of_decide_eq_true (Bool.and_eq_true_iff.mp c).1
  have h2 := of_decide_eq_true (Bool.and_eq_true_iff.mp c).2
  simp at h2
  omega
theorem behind_num {n : Int} {k k' : Kd} {m : Mp} (hm : m = .plus n ∨ m = .times n) (h : behind m k = some k') : k = .int ∧ -1000 ≤ n ∧ n ≤ 1000 ∧ k' = .int := by
  have h' : (if k.isInt && (decide (-1000 ≤ n) && decide (n ≤ 1000)) then some Kd.int else none) = some k' := by
    rcases hm with rfl | rfl <;> exact h
  by_cases c : (k.isInt && (decide (-1000 ≤ n) && decide (n ≤ 1000))) = true
  · rw [if_pos c] at h'
    have c' := Bool.and_eq_true_iff.mp c
    have c2 := Bool.and_eq_true_iff.mp c'.2
    cases h'
    cases k with
    | int => exact ⟨rfl, of_decide_eq_true c2.1, of_decide_eq_true c2.2, rfl⟩
    | _ => exact absurd c'.1 (by simp [Kd.isInt])
  · rw [if_neg c] at h'
    cases h'
theorem turn_isk {m : Mp} {k k' : Kd} {d : PyData} (h : behind m k = some k') (hd : isk k d = true) : isk k' (turnD m d) = true := by
  cases m with
  | plus n =>
    obtain ⟨rfl, _, _, rfl⟩ := behind_num (.inl rfl) h
    cases d <;> simp [isk] at hd
    rfl
  | times n =>
    obtain ⟨rfl, _, _, rfl⟩ := behind_num (.inr rfl) h
    cases d <;> simp [isk] at hd
    rfl
  | item i =>
    obtain ⟨ks, rfl, _, hi, rfl⟩ := behind_item h
    cases d <;> simp only [isk, Bool.false_eq_true] at hd
    exact (iskAll_get hd).2 _ hi
  | length =>
    obtain ⟨j, rfl⟩ := behind_lst h (.inl rfl)
    cases d <;> simp only [isk, Bool.false_eq_true] at hd
    have h' : some Kd.int = some k' := h
    cases h'
    rfl
  | sum =>
    obtain ⟨j, rfl⟩ := behind_lst h (.inr (.inl rfl))
    cases d <;> simp only [isk, Bool.false_eq_true] at hd
    have h' : (if j.isInt then some Kd.int else none) = some k' := h
    split at h'
    · cases h'; rfl
    · cases h'
  | sorted =>
    obtain ⟨j, rfl⟩ := behind_lst h (.inr (.inr (.inl rfl)))
    cases d <;> simp only [isk, Bool.false_eq_true] at hd
    have h' : (if j.isFlat then some (Kd.lst j) else none) = some k' := h
    split at h'
    · cases h'
      rw [turnD]
      simp only [isk]
      exact all_of_perm (sortD_perm _) hd
    · cases h'
  | reversed =>
    obtain ⟨j, rfl⟩ := behind_lst h (.inr (.inr (.inr rfl)))
    cases d <;> simp only [isk, Bool.false_eq_true] at hd
    have h' : some (Kd.lst j) = some k' := h
    cases h'
    rw [turnD]
    simp only [isk]
    exact all_of_perm (List.reverse_perm _) hd
theorem turn_dk {m : Mp} {k k' : Kd} {d : PyData} {n : Nat} (h : behind m k = some k') (hd : isk k d = true) (hk : Dk n d) : Dk n (turnD m d) := by
  cases m with
  | plus i =>
    obtain ⟨rfl, _⟩ := behind_num (.inl rfl) h
    cases d <;> simp [isk] at hd
    exact .int _
  | times i =>
    obtain ⟨rfl, _⟩ := behind_num (.inr rfl) h
    cases d <;> simp [isk] at hd
    exact .int _
  | item i =>
    obtain ⟨ks, rfl, _, hi, rfl⟩ := behind_item h
    cases d <;> simp only [isk, Bool.false_eq_true] at hd
    have hl := (iskAll_get hd).1 ▸ hi
    cases hk with
    | tup h1 h2 =>
      exact (h2 _ (List.mem_of_getElem? (getD_at (a0 := PyData.none) hl))).mono (Nat.le_succ _)
  | length =>
    obtain ⟨j, rfl⟩ := behind_lst h (.inl rfl)
    cases d <;> simp only [isk, Bool.false_eq_true] at hd
    exact .int _
  | sum =>
    obtain ⟨j, rfl⟩ := behind_lst h (.inr (.inl rfl))
    cases d <;> simp only [isk, Bool.false_eq_true] at hd
    exact .int _
  | sorted =>
    obtain ⟨j, rfl⟩ := behind_lst h (.inr (.inr (.inl rfl)))
    cases d <;> simp only [isk, Bool.false_eq_true] at hd
    cases hk with
    | tup h1 h2 => exact .tup (by rw [sortD_length]; exact h1) fun e he => h2 e ((sortD_perm _).mem_iff.mp he)
  | reversed =>
    obtain ⟨j, rfl⟩ := behind_lst h (.inr (.inr (.inr rfl)))
    cases d <;> simp only [isk, Bool.false_eq_true] at hd
    cases hk with
    | tup h1 h2 => exact .tup (by rw [List.length_reverse]; exact h1) fun e he => h2 e (List.mem_reverse.mp he)
theorem flat_not {j : Kd} {d : PyData} (hj : j.isFlat = true) (hd : isk j d = true) : d ≠ .none ∧ ∀ xs, d ≠ .tuple xs := by
  cases j <;> simp [Kd.isFlat] at hj
  · cases d <;> simp [isk] at hd
    exact ⟨fun e => (nomatch e), fun _ e => (nomatch e)⟩
  · cases d <;> simp [isk] at hd
    exact ⟨fun e => (nomatch e), fun _ e => (nomatch e)⟩
theorem flat_depth {j : Kd} {d : PyData} (hj : j.isFlat = true) (hd : isk j d = true) : d.depth = 0 := by
  cases j <;> simp [Kd.isFlat] at hj
  · cases d <;> simp [isk] at hd
    rfl
  · cases d <;> simp [isk] at hd
    rfl
/-! ### promises -/
def spBehind (K : PySem.W.Frag) : Sp := fun vs H Q _ => ∃ (v u : V) (m : Mp) (k : Kd), vs = [v, u] ∧ Vd K H v m.data ∧ Vd K H u k.data ∧ OkK 10 k ∧
  ∀ r H', Same H H' → (∀ k', behind m k = some k' → Vd K H' r k'.data) → (behind m k = none → r = .non) → Q r H'
def spTurn (K : PySem.W.Frag) : Sp := fun vs H Q _ => ∃ (v u : V) (m : Mp) (d : PyData) (k k' : Kd), vs = [v, u] ∧ Vd K H v m.data ∧ Vd K H u d ∧ isk k d = true ∧ behind m k = some k' ∧ Dk 20 d ∧
  ∀ r H', Same H H' → Vd K H' r (turnD m d) → Q r H'
section
variable {K : PySem.W.Frag} {σ : L2.St} {H0 H H' : Hp} {te : TE} {tu tz : TS} {D : Ends}
/-- if e == 'x': not so; so -/
theorem skipE {x y : Str} (e0 : Same H0 H) (h : Ev te σ H (.str x)) (ne : decide (V.str x = V.str y) = false) (k : ∀ H1, Same H0 H1 → tz D σ H1) : tSeq (tIfS (tTest (tOp rEq te (tC (.str y)))) tu tNext) tz D σ H :=
  q_when (b := false) (et_is (et_test (ev_op h ev_c (rv_eq rfl))) ne) (fun h => Bool.noConfusion h) fun _ H1 e1 => k H1 (e0.trans e1)
theorem takeE {x y : Str} (e0 : Same H0 H) (h : Ev te σ H (.str x)) (eq : decide (V.str x = V.str y) = true) (k : ∀ H1, Same H0 H1 → tu { D with nx := tz D } σ H1) : tSeq (tIfS (tTest (tOp rEq te (tC (.str y)))) tu tNext) tz D σ H :=
  q_when (b := true) (et_is (et_test (ev_op h ev_c (rv_eq rfl))) eq) (fun _ H1 e1 => k H1 (e0.trans e1)) (fun h => Bool.noConfusion h)
theorem skipEL {x : Str} {ys : List V} {ta : TA} (e0 : Same H0 H) (h : Ev te σ H (.str x)) (hy : EvA ta σ H ys) (hl : ys.length ≤ 100000) (fl : ys.all flatV = true) (ne : inV (.str x) ys = false) (k : ∀ H1, Same H0 H1 → tz D σ H1) : tSeq (tIfS (tTest (tOp (rIn K false) te (tLst ta))) tu tNext) tz D σ H :=
  q_when (b := false) (et_is (et_test (ev_opL h (el_lst hy hl) fun p H1 hp e => rv_isL (sq_of hp) rfl fl)) ne) (fun h => Bool.noConfusion h) fun _ H1 e1 => k H1 (e0.trans e1)
theorem takeEL {x : Str} {ys : List V} {ta : TA} (e0 : Same H0 H) (h : Ev te σ H (.str x)) (hy : EvA ta σ H ys) (hl : ys.length ≤ 100000) (fl : ys.all flatV = true) (eq : inV (.str x) ys = true) (k : ∀ H1, Same H0 H1 → tu { D with nx := tz D } σ H1) : tSeq (tIfS (tTest (tOp (rIn K false) te (tLst ta))) tu tNext) tz D σ H :=
  q_when (b := true) (et_is (et_test (ev_opL h (el_lst hy hl) fun p H1 hp e => rv_isL (sq_of hp) rfl fl)) eq) (fun _ H1 e1 => k H1 (e0.trans e1)) (fun h => Bool.noConfusion h)
/-- the map's tuple: its name, what it holds -/
theorem Mp.name {v : V} {m : Mp} (h : Vd K H v m.data) : ∃ a x xs, v = .ref a ∧ SqT K H a (x :: xs) ∧ xs.length ≤ 1 := by
  cases m <;> (rw [Mp.data] at h; first | (obtain ⟨a, x, rfl, hs, _⟩ := h.g1; exact ⟨a, x, _, rfl, hs, by simp⟩) | (obtain ⟨a, x, y, rfl, hs, _⟩ := h.g2; exact ⟨a, x, _, rfl, hs, by simp⟩))
end
end Cr
/-! displays whose items may move the box -/
namespace Cr
open PySem PySem.Spec PyProof.Rows L2 Evl CrT
def EvB (K : PySem.W.Frag) (b d : Addr) (te : TE) (σ : L2.St) (H : Hp) (P : PyData → Prop) : Prop := ∀ H1, Mv b d H H1 → ∀ Q : VK, (∀ v e H2, Mv b d H1 H2 → Vd K H2 v e → P e → Q v H2) → te σ H1 Q
def EvBs (K : PySem.W.Frag) (b d : Addr) (ta : TA) (σ : L2.St) (H : Hp) (R : List PyData → Prop) : Prop := ∀ H1, Mv b d H H1 → ∀ Q : List V → Hp → Prop, (∀ vs es H2, Mv b d H1 H2 → Vds K H2 vs es → R es → Q vs H2) → ta σ H1 Q
section
variable {K : PySem.W.Frag} {σ : L2.St} {H H' : Hp} {te : TE} {ta : TA} {tu tz : TS} {D : Ends} {b d : Addr} {P P' : PyData → Prop} {R R' : List PyData → Prop}
theorem EvB.mono (h : EvB K b d te σ H P) (hp : ∀ e, P e → P' e) : EvB K b d te σ H P' := fun H1 m Q q => h H1 m Q fun v e H2 m2 hv he => q v e H2 m2 hv (hp e he)
theorem EvBs.mono (h : EvBs K b d ta σ H R) (hp : ∀ e, R e → R' e) : EvBs K b d ta σ H R' := fun H1 m Q q => h H1 m Q fun v e H2 m2 hv he => q v e H2 m2 hv (hp e he)
theorem evb_c {x : PyData} {v : V} (hv : ∀ H1, Vd K H1 v x) : EvB K b d (tC v) σ H (· = x) := fun H1 m Q q => q v x H1 (.refl m.2) (hv H1) rfl
theorem evb_int {i : Int} : EvB K b d (tC (.int i)) σ H (· = .int i) := evb_c fun _ => .int i
theorem evb_str {x : Str} : EvB K b d (tC (.str x)) σ H (· = .str x) := evb_c fun _ => .str x
theorem evb_neg {i : Int} : EvB K b d (tUn (rU fun i => .int (-i)) (tC (.int i))) σ H (· = .int (-i)) := fun H1 m Q q => ⟨i, rfl, q _ _ H1 (.refl m.2) (.int _) rfl⟩
theorem evb_var {i : Nat} {v : V} {e : PyData} (h : σ[i]? = some (some v)) (hb : Bx H b d) (hv : Vd K H v e) : EvB K b d (tVar i) σ H (· = e) := fun H1 m Q q => ⟨v, h, q v e H1 (.refl m.2) (hv.keep (m.kt hb)) rfl⟩
theorem evb_take {i : Nat} {n : Int} {E : XK} (h : σ[i]? = some (some (.ref b))) (hn : 0 < n) : EvB K b d (tCall spTake [] E (tCons (tVar i) (tCons (tC (.int n)) tNil))) σ H (fun e => ∃ r, e = .int r ∧ 0 ≤ r ∧ r < n) := fun H1 m Q q =>
  ⟨.ref b, h, b, d, n, rfl, m.2, hn, fun r H2 h0 h1 m2 => q _ _ H2 m2 (.int r) ⟨r, rfl, h0, h1⟩⟩
theorem evb_kind {i n N : Nat} {E : XK} (h : σ[i]? = some (some (.ref b))) (hn : n < N) : EvB K b d (tCall (spLKind2 K N) [] E (tCons (tVar i) (tCons (tC (.int (n : Int))) tNil))) σ H (fun e => ∃ kd, e = Kd.data kd ∧ OkK (n + 1) kd ∧ NeK kd) := fun H1 m Q q =>
  ⟨.ref b, h, b, d, n, rfl, m.2, hn, fun v kd H2 m2 hv hk hne => q v _ H2 m2 hv ⟨kd, rfl, hk, hne⟩⟩
theorem evb_limit {i j n N m0 : Nat} {E : XK} {u : V} {kd : Kd} (h : σ[i]? = some (some (.ref b))) (hj : σ[j]? = some (some u)) (hb : Bx H b d) (hu : Vd K H u kd.data) (hk : OkK m0 kd) (hne : NeK kd) (hn : n + m0 ≤ N) (hN : N ≤ 15) :
    EvB K b d (tCall (spLLimit2 K N) [] E (tCons (tVar i) (tCons (tVar j) (tCons (tC (.int (n : Int))) tNil)))) σ H (fun e => ∃ c, e = Cd.data c ∧ OkC N c ∧ fitsC c kd = true) := fun H1 m Q q =>
  ⟨.ref b, h, u, hj, b, d, u, kd, n, m0, rfl, m.2, hu.keep (m.kt hb), hk, hne, hn, hN, fun v c H2 m2 hv hc hf => q v _ H2 m2 hv ⟨c, rfl, hc, hf⟩⟩
theorem evb_nil : EvBs K b d tNil σ H (· = []) := fun H1 m Q q => q [] [] H1 (.refl m.2) .nil rfl
theorem evb_cons (hb : Bx H b d) (h : EvB K b d te σ H P) (hr : EvBs K b d ta σ H R) : EvBs K b d (tCons te ta) σ H (fun es => ∃ e es', es = e :: es' ∧ P e ∧ R es') := fun H1 m Q q =>
  h H1 m _ fun v e H2 m2 hv he => hr H2 (m.trans m2) _ fun vs es H3 m3 hvs hes => q (v :: vs) (e :: es) H3 (m2.trans m3) (.cons (hv.keep (m3.kt m2.2)) hvs) ⟨e, es, rfl, he, hes⟩
theorem evb_tup (h : EvBs K b d ta σ H R) (hl : ∀ es, R es → es.length ≤ 1000) : EvB K b d (tTup ta) σ H (fun e => ∃ es, e = .tuple es ∧ R es) := fun H1 m Q q =>
  h H1 m _ fun vs es H2 m2 hvs hes => ⟨Nat.le_of_lt (small1000 (by rw [hvs.1]; exact hl es hes)), fun p hp => q (.ref p) _ _ (m2.new hp) ((hvs.keep (Kt.new hp)).tup (.of upd_same)) ⟨es, rfl, hes⟩⟩
/-- texts ahead, then what moves -/
theorem evb_t1 {x : Str} : EvB K b d (tTup (tCons (tC (.str x)) tNil)) σ H (· = .tuple [.str x]) := fun H1 m Q q =>
  ⟨by show 1 ≤ sizeLine; decide, fun p hp => q (.ref p) _ _ ((Mv.refl m.2).new hp) (.t1 (.of upd_same) (.str x)) rfl⟩
theorem evb_t2 {x : Str} (h : EvB K b d te σ H P) : EvB K b d (tTup (tCons (tC (.str x)) (tCons te tNil))) σ H (fun e => ∃ z, e = .tuple [.str x, z] ∧ P z) := fun H1 m Q q =>
  h H1 m _ fun v e H2 m2 hv he => ⟨by show 2 ≤ sizeLine; decide, fun p hp => q (.ref p) _ _ (m2.new hp) (.t2 (.of upd_same) (.str x) (hv.keep (Kt.new hp))) ⟨e, rfl, he⟩⟩
theorem evb_t3 {x : Str} {tf : TE} (h : EvB K b d te σ H P) (h2 : EvB K b d tf σ H P') : EvB K b d (tTup (tCons (tC (.str x)) (tCons te (tCons tf tNil)))) σ H (fun e => ∃ z y, e = .tuple [.str x, z, y] ∧ P z ∧ P' y) := fun H1 m Q q =>
  h H1 m _ fun v e H2 m2 hv he => h2 H2 (m.trans m2) _ fun v3 e3 H3 m3 hv3 he3 => ⟨by show 3 ≤ sizeLine; decide, fun p hp => q (.ref p) _ _ ((m2.trans m3).new hp) (.t3 (.of upd_same) (.str x) ((hv.keep (m3.kt m2.2)).keep (Kt.new hp)) (hv3.keep (Kt.new hp))) ⟨e, e3, rfl, he, he3⟩⟩
/-- a value at hand -/
def tK (v : V) : TE := fun _ H Q => Q v H
theorem ev_k {v : V} : Ev (tK v) σ H v := fun H1 _ _ q => q H1 (Ex.refl H1)
theorem g_name {i : Nat} {v : V} {σ : L2.St} {H : Hp} {Q : L2.St → Hp → Prop} (h : Q (σ.set i (some v)) H) : gName i v σ H Q := h
theorem Mv.none {H1 : Hp} {p : Addr} (m : Mv b d H H1) (hp : H1 p = none) : H p = none := by
  cases e : H p with
  | none => rfl
  | some o =>
    have := m.1 p o (m.2.neb hp).1 e
    rw [hp] at this
    cases this
/-- all items of one sort -/
theorem evb_all0 : EvBs K b d tNil σ H (fun es => (∀ e ∈ es, P e) ∧ es.length = 0) := fun H1 m Q q => q [] [] H1 (.refl m.2) .nil ⟨fun _ h => (nomatch h), rfl⟩
theorem evb_all {n : Nat} (h : EvB K b d te σ H P') (hp : ∀ e, P' e → P e) (hr : EvBs K b d ta σ H (fun es => (∀ e ∈ es, P e) ∧ es.length = n)) : EvBs K b d (tCons te ta) σ H (fun es => (∀ e ∈ es, P e) ∧ es.length = n + 1) := fun H1 m Q q =>
  h H1 m _ fun v e H2 m2 hv he => hr H2 (m.trans m2) _ fun vs es H3 m3 hvs hes => q (v :: vs) (e :: es) H3 (m2.trans m3) (.cons (hv.keep (m3.kt m2.2)) hvs) ⟨fun x hx => by
    rcases List.mem_cons.mp hx with rfl | hx
    · exact hp _ he
    · exact hes.1 x hx, by rw [List.length_cons, hes.2]⟩
theorem q_asgB {i : Nat} (hb : Bx H b d) (h : EvBs K b d ta σ H R) (hl : ∀ es, R es → es.length ≤ 1000) (k : ∀ p vs es H1, H p = none → Mv b d H H1 → H1 p = some (.lst vs) → Vds K H1 vs es → R es → tz D (σ.set i (some (.ref p))) H1) : tSeq (tAsg (tLst ta) (gName i)) tz D σ H :=
  h H (.refl hb) _ fun vs es H2 m2 hvs hes => ⟨Nat.le_of_lt (small1000 (by rw [hvs.1]; exact hl es hes)), fun p hp => k p vs es _ (m2.none hp) (m2.new hp) upd_same (hvs.keep (Kt.new hp)) hes⟩
theorem q_catB {i j : Nat} {p0 : Addr} {xs0 : List V} {es0 : List PyData} (hb : Bx H b d) (hj : σ[j]? = some (some (.ref p0))) (h0 : H p0 = some (.lst xs0)) (hn : p0 ≠ b) (hv0 : Vds K H xs0 es0) (hl0 : es0.length ≤ 1000) (h : EvBs K b d ta σ H R) (hl : ∀ es, R es → es.length ≤ 1000)
    (k : ∀ p vs es H1, H p = none → Mv b d H H1 → H1 p = some (.lst (xs0 ++ vs)) → Vds K H1 (xs0 ++ vs) (es0 ++ es) → R es → tz D (σ.set i (some (.ref p))) H1) : tSeq (tAsg (tOp rCat (tVar j) (tLst ta)) (gName i)) tz D σ H :=
  ⟨.ref p0, hj, h H (.refl hb) _ fun vs es H2 m2 hvs hes => ⟨Nat.le_of_lt (small1000 (by rw [hvs.1]; exact hl es hes)), fun p hp => by
    have m3 := m2.new (o := .lst vs) hp
    have h3 : upd H2 p (.lst vs) p0 = some (.lst xs0) := m3.1 _ _ hn h0
    have l1 := hl es hes
    have l2 := hv0.1
    have l3 := hvs.1
    refine ⟨p0, p, xs0, vs, rfl, rfl, h3, upd_same, ?_, fun p2 hp2 => ?_⟩
    · exact Nat.le_trans (show xs0.length + vs.length ≤ 2000 by omega) (by decide)
    · exact k p2 vs es _ (m3.none hp2) (m3.new hp2) upd_same (((hv0.keep (m3.kt hb)).app (hvs.keep (Kt.new hp))).keep (Kt.new hp2)) hes⟩⟩
theorem s_forB {g : TG} (hb : Bx H b d) (h : EvBs K b d ta σ H R) (hl : ∀ es, R es → es.length ≤ 1000)
    (k : ∀ p vs es H1, H p = none → Mv b d H H1 → H1 p = some (.lst vs) → Vds K H1 vs es → R es → ∃ Pv : Nat → L2.St → Hp → Prop, Pv 0 σ H1 ∧ (∀ i σ' H', i ≤ vs.length → Pv i σ' H' → SqL K H' p vs) ∧
      (∀ i x σ' H', vs[i]? = some x → Pv i σ' H' → g x σ' H' fun σ2 H2 => tu { D with nx := Pv (i + 1), ct := Pv (i + 1), bk := D.nx } σ2 H2) ∧ (∀ σ' H', Pv vs.length σ' H' → D.nx σ' H')) : tFor (iList K (tLst ta)) g tu D σ H :=
  h H (.refl hb) _ fun vs es H2 m2 hvs hes => ⟨Nat.le_of_lt (small1000 (by rw [hvs.1]; exact hl es hes)), fun p hp => by
    obtain ⟨Pv, k1, k2, k3, k4⟩ := k p vs es _ (m2.none hp) (m2.new hp) upd_same (hvs.keep (Kt.new hp)) hes
    exact ⟨p, rfl, ⟨vs, sq_of upd_same⟩, for_list Pv k1 k2 k3 k4⟩⟩
end
/-! ### a kind or None -/
def dataO : Option Kd → PyData
  | none => .none
  | some k => k.data
theorem dpO {K : PySem.W.Frag} {H : Hp} {o : Option Kd} {r : V} (h1 : ∀ k', o = some k' → Vd K H r k'.data) (h2 : o = none → r = .non) : Dp K H r (dataO o) := by
  cases o with
  | none => rw [h2 rfl]; exact .non
  | some k => exact (h1 k rfl).dp
theorem behind_ok {m : Mp} {k k' : Kd} {n : Nat} (h : behind m k = some k') (hk : OkK n k) : OkK n k' := by
  have hp := hk.pos
  have hi : OkK n .int := by
    obtain ⟨n', rfl⟩ : ∃ n', n = n' + 1 := ⟨n - 1, by omega⟩
    exact .int
  cases m with
  | plus i => obtain ⟨_, _, _, rfl⟩ := behind_num (.inl rfl) h; exact hi
  | times i => obtain ⟨_, _, _, rfl⟩ := behind_num (.inr rfl) h; exact hi
  | item i =>
    obtain ⟨ks, rfl, _, hik, rfl⟩ := behind_item h
    cases hk with
    | tup h1 h2 => exact (h2 _ (List.mem_of_getElem? (getD_at (a0 := Kd.int) hik))).mono (by omega)
  | length =>
    obtain ⟨j, rfl⟩ := behind_lst h (.inl rfl)
    have h' : some Kd.int = some k' := h
    cases h'
    exact hi
  | sum =>
    obtain ⟨j, rfl⟩ := behind_lst h (.inr (.inl rfl))
    have h' : (if j.isInt then some Kd.int else none) = some k' := h
    split at h'
    · cases h'; exact hi
    · cases h'
  | sorted =>
    obtain ⟨j, rfl⟩ := behind_lst h (.inr (.inr (.inl rfl)))
    have h' : (if j.isFlat then some (Kd.lst j) else none) = some k' := h
    split at h'
    · cases h'; exact hk
    · cases h'
  | reversed =>
    obtain ⟨j, rfl⟩ := behind_lst h (.inr (.inr (.inr rfl)))
    have h' : some (Kd.lst j) = some k' := h
    cases h'
    exact hk
theorem shapedO {m : Mp} {k : Kd} {n : Nat} (hk : OkK n k) (hn : n ≤ 20) : SeqAt.shaped (dataO (behind m k)) = true := by
  cases e : behind m k with
  | none => decide +kernel
  | some k' => exact OkK.shaped (behind_ok e hk) hn
theorem ne_self {d : PyData} (h : SeqAt.shaped d = true) : (!PyData.eqv d d) = false := by
  rw [SeqAt.eqv_refl _ (SeqAt.canLay_of_shaped h)]
  rfl
end Cr
namespace Cr
open PySem PySem.Spec PyProof.Rows L2 Evl CrT
/-! ### parts, plain and merged generators -/
def partsG : Gn → List Gn
  | .int _ _ => []
  | .pick _ => []
  | .tuple gs => gs
  | .list g _ _ => [g]
  | .one gs => gs
  | .kept g _ => [g]
  | .turned g _ => [g]
  | .repeat_ g h => [g, h]
mutual
def plainG : Gn → Bool
  | .int _ _ => true
  | .pick _ => true
  | .tuple gs => plainAll gs
  | .list g _ _ => plainG g
  | .one gs => plainAll gs
  | .kept _ _ => false
  | .turned g _ => plainG g
  | .repeat_ _ _ => false
def plainAll : List Gn → Bool
  | [] => true
  | g :: gs => plainG g && plainAll gs
end
theorem plainAll_all : ∀ gs : List Gn, plainAll gs = gs.all plainG
  | [] => by rw [plainAll]; rfl
  | g :: gs => by rw [plainAll, plainAll_all gs]; rfl
def joinK : Gn → Cd → Gn
  | .kept g c', c => .kept g (.and_ c' c)
  | g, c => .kept g c
def joinT : Gn → Mp → Gn
  | .int a b, .plus n => if decide (-1000 ≤ a + n) && decide (b + n ≤ 1000) then .int (a + n) (b + n) else .turned (.int a b) (.plus n)
  | g, m => .turned g m
mutual
def mergeG : Gn → Gn
  | .int a b => .int a b
  | .pick ws => .pick ws
  | .tuple gs => .tuple (mergeAll gs)
  | .list g a b => .list (mergeG g) a b
  | .one gs => .one (mergeAll gs)
  | .kept g c => joinK (mergeG g) c
  | .turned g m => joinT (mergeG g) m
  | .repeat_ g h => .repeat_ (mergeG g) (mergeG h)
def mergeAll : List Gn → List Gn
  | [] => []
  | g :: gs => mergeG g :: mergeAll gs
end
theorem mergeAll_map : ∀ gs : List Gn, mergeAll gs = gs.map mergeG
  | [] => by rw [mergeAll]; rfl
  | g :: gs => by rw [mergeAll, mergeAll_map gs]; rfl
/-- as OkG, the depth of conditions told -/
inductive OkGk : Nat → Nat → Gn → Prop
  | int {k n : Nat} (lo hi : Int) : OkGk k (n + 1) (.int lo hi)
  | pick {k n : Nat} {ws : List Str} : ws.length ≤ 60 → (∀ w ∈ ws, SeqAt.shaped (.str w) = true ∧ w.length ≤ 1000) → OkGk k (n + 1) (.pick ws)
  | tuple {k n : Nat} {gs : List Gn} : gs.length ≤ 60 → (∀ g ∈ gs, OkGk k n g) → OkGk k (n + 1) (.tuple gs)
  | list {k n : Nat} {g : Gn} (a b : Int) : OkGk k n g → OkGk k (n + 1) (.list g a b)
  | one {k n : Nat} {gs : List Gn} : gs.length ≤ 60 → (∀ g ∈ gs, OkGk k n g) → OkGk k (n + 1) (.one gs)
  | kept {k n : Nat} {g : Gn} {c : Cd} : OkGk k n g → OkC k c → OkGk k (n + 1) (.kept g c)
  | turned {k n : Nat} {g : Gn} (m : Mp) : OkGk k n g → OkGk k (n + 1) (.turned g m)
  | repeat_ {k n : Nat} {g h : Gn} : OkGk k n g → OkGk k n h → OkGk k (n + 1) (.repeat_ g h)
theorem OkG.k {n : Nat} {g : Gn} (h : OkG n g) : OkGk 10 n g := by
  induction h with
  | int => exact .int _ _
  | pick h1 h2 => exact .pick h1 h2
  | tuple h1 _ ih => exact .tuple h1 ih
  | list a b _ ih => exact .list a b ih
  | one h1 _ ih => exact .one h1 ih
  | kept _ hc ih => exact .kept ih hc
  | turned m _ ih => exact .turned m ih
  | repeat_ _ _ ih1 ih2 => exact .repeat_ ih1 ih2
theorem OkGk.mono {k k' n m : Nat} {g : Gn} (h : OkGk k n g) (hk : k ≤ k') (hm : n ≤ m) : OkGk k' m g := by
  induction h generalizing m with
  | int => obtain ⟨m', rfl⟩ : ∃ m', m = m' + 1 := ⟨m - 1, by omega⟩; exact .int _ _
  | pick h1 h2 => obtain ⟨m', rfl⟩ : ∃ m', m = m' + 1 := ⟨m - 1, by omega⟩; exact .pick h1 h2
  | tuple h1 _ ih => obtain ⟨m', rfl⟩ : ∃ m', m = m' + 1 := ⟨m - 1, by omega⟩; exact .tuple h1 fun g hg => ih g hg (by omega)
  | list a b _ ih => obtain ⟨m', rfl⟩ : ∃ m', m = m' + 1 := ⟨m - 1, by omega⟩; exact .list a b (ih (by omega))
  | one h1 _ ih => obtain ⟨m', rfl⟩ : ∃ m', m = m' + 1 := ⟨m - 1, by omega⟩; exact .one h1 fun g hg => ih g hg (by omega)
  | kept _ hc ih => obtain ⟨m', rfl⟩ : ∃ m', m = m' + 1 := ⟨m - 1, by omega⟩; exact .kept (ih (by omega)) (hc.mono hk)
  | turned q _ ih => obtain ⟨m', rfl⟩ : ∃ m', m = m' + 1 := ⟨m - 1, by omega⟩; exact .turned q (ih (by omega))
  | repeat_ _ _ ih1 ih2 => obtain ⟨m', rfl⟩ : ∃ m', m = m' + 1 := ⟨m - 1, by omega⟩; exact .repeat_ (ih1 (by omega)) (ih2 (by omega))
theorem joinK_ok {k n : Nat} {g : Gn} {c : Cd} (hg : OkGk k n g) (hc : OkC k c) : OkGk (k + 1) (n + 1) (joinK g c) := by
  cases g with
  | kept g c' =>
    cases hg with
    | kept h1 h2 => exact .kept (h1.mono (by omega) (by omega)) (.and_ h2 hc)
  | _ => exact .kept (hg.mono (by omega) (by omega)) (hc.mono (by omega))
theorem joinT_ok {k n : Nat} {g : Gn} {m : Mp} (hg : OkGk k n g) : OkGk k (n + 1) (joinT g m) := by
  cases g with
  | int a b =>
    cases m with
    | plus i =>
      show OkGk k (n + 1) (if decide (-1000 ≤ a + i) && decide (b + i ≤ 1000) then .int (a + i) (b + i) else .turned (.int a b) (.plus i))
      split
      · exact .int _ _
      · exact .turned _ hg
    | _ => exact .turned _ hg
  | _ => exact .turned _ hg
theorem merge_ok {k n : Nat} {g : Gn} (h : OkGk k n g) : OkGk (k + n) n (mergeG g) := by
  induction h with
  | int => rw [mergeG]; exact .int _ _
  | pick h1 h2 => rw [mergeG]; exact .pick h1 h2
  | tuple h1 _ ih =>
    rw [mergeG, mergeAll_map]
    refine .tuple (by rw [List.length_map]; exact h1) fun g hg => ?_
    obtain ⟨g', hg', rfl⟩ := List.mem_map.mp hg
    exact (ih g' hg').mono (by omega) (Nat.le_refl _)
  | list a b _ ih => rw [mergeG]; exact .list a b (ih.mono (by omega) (Nat.le_refl _))
  | one h1 _ ih =>
    rw [mergeG, mergeAll_map]
    refine .one (by rw [List.length_map]; exact h1) fun g hg => ?_
    obtain ⟨g', hg', rfl⟩ := List.mem_map.mp hg
    exact (ih g' hg').mono (by omega) (Nat.le_refl _)
  | kept _ hc ih => rw [mergeG]; exact joinK_ok ih (hc.mono (Nat.le_add_right _ _))
  | turned m _ ih => rw [mergeG]; exact joinT_ok (ih.mono (by omega) (Nat.le_refl _))
  | repeat_ _ _ ih1 ih2 => rw [mergeG]; exact .repeat_ (ih1.mono (by omega) (Nat.le_refl _)) (ih2.mono (by omega) (Nat.le_refl _))
theorem dk_two {n : Nat} {x : Str} {a : PyData} (hx : SeqAt.shaped (.str x) = true := by decide +kernel) (hl : x.length ≤ 1000 := by decide +kernel) (ha : Dk n a) : Dk (n + 1) (.tuple [.str x, a]) := dk_t2 (.str hx hl) ha
theorem dk_list {n : Nat} {ds : List PyData} (hl : ds.length ≤ 60) (h : ∀ (i : Nat) d, ds[i]? = some d → Dk n d) : Dk (n + 1) (.tuple ds) := .tup hl fun d hd => by
  obtain ⟨i, hi⟩ := List.mem_iff_getElem?.mp hd
  exact h i d hi
theorem dk_t3 {n : Nat} {a b c : PyData} (ha : Dk n a) (hb : Dk n b) (hc : Dk n c) : Dk (n + 1) (.tuple [a, b, c]) := .tup (show 3 ≤ 60 by decide) fun d hd => by
  rcases List.mem_cons.mp hd with rfl | hd
  · exact ha
  · rcases List.mem_cons.mp hd with rfl | hd
    · exact hb
    · cases List.mem_singleton.mp hd
      exact hc
theorem dk_t4 {n : Nat} {a b c e : PyData} (ha : Dk n a) (hb : Dk n b) (hc : Dk n c) (he : Dk n e) : Dk (n + 1) (.tuple [a, b, c, e]) := .tup (show 4 ≤ 60 by decide) fun d hd => by
  rcases List.mem_cons.mp hd with rfl | hd
  · exact ha
  · rcases List.mem_cons.mp hd with rfl | hd
    · exact hb
    · rcases List.mem_cons.mp hd with rfl | hd
      · exact hc
      · cases List.mem_singleton.mp hd
        exact he
theorem dk_t1 {n : Nat} {a : PyData} (ha : Dk n a) : Dk (n + 1) (.tuple [a]) := .tup (show 1 ≤ 60 by decide) fun d hd => by
  cases List.mem_singleton.mp hd
  exact ha
theorem condDk {n : Nat} {c : Cd} (h : OkC n c) : Dk n c.data := by
  induction h with
  | atmost i => rw [Cd.data]; exact dk_t2 dk_str (.int _)
  | divides i => rw [Cd.data]; exact dk_t2 dk_str (.int _)
  | is h1 h2 => rw [Cd.data]; exact dk_t2 dk_str (.str h1 h2)
  | item i _ ih => rw [Cd.data]; exact dk_t3 dk_str (.int _) ih
  | every _ ih => rw [Cd.data]; exact dk_t2 dk_str ih
  | some_ _ ih => rw [Cd.data]; exact dk_t2 dk_str ih
  | size _ ih => rw [Cd.data]; exact dk_t2 dk_str ih
  | sum _ ih => rw [Cd.data]; exact dk_t2 dk_str ih
  | rising => rw [Cd.data]; exact dk_t1 dk_str
  | different => rw [Cd.data]; exact dk_t1 dk_str
  | not_ _ ih => rw [Cd.data]; exact dk_t2 dk_str ih
  | and_ _ _ ih1 ih2 => rw [Cd.data]; exact dk_t3 dk_str ih1 ih2
  | or_ _ _ ih1 ih2 => rw [Cd.data]; exact dk_t3 dk_str ih1 ih2
theorem mapDk (m : Mp) : Dk 1 m.data := by
  cases m <;> rw [Mp.data] <;> first | exact dk_t1 dk_str | exact dk_t2 dk_str (.int _)
theorem OkGk.dk {k n : Nat} {g : Gn} (h : OkGk k n g) : Dk (2 * n + k) g.data := by
  induction h with
  | int => rw [Gn.data]; exact (dk_t3 (n := 0) dk_str (.int _) (.int _)).mono (by omega)
  | pick h1 h2 =>
    rw [Gn.data]
    refine (dk_t2 (n := 1) dk_str (.tup (by rw [List.length_map]; exact h1) fun d hd => ?_)).mono (by omega)
    obtain ⟨w, hw, rfl⟩ := List.mem_map.mp hd
    exact .str (h2 w hw).1 (h2 w hw).2
  | @tuple n gs h1 _ ih =>
    rw [Gn.data, gnAll_map]
    refine (dk_t2 (n := 2 * n + k + 1) dk_str (.tup (by rw [List.length_map]; exact h1) fun d hd => ?_)).mono (by omega)
    obtain ⟨w, hw, rfl⟩ := List.mem_map.mp hd
    exact ih w hw
  | @list n g a b _ ih => rw [Gn.data]; exact (dk_t4 (n := 2 * n + k) dk_str ih (.int _) (.int _)).mono (by omega)
  | @one n gs h1 _ ih =>
    rw [Gn.data, gnAll_map]
    refine (dk_t2 (n := 2 * n + k + 1) dk_str (.tup (by rw [List.length_map]; exact h1) fun d hd => ?_)).mono (by omega)
    obtain ⟨w, hw, rfl⟩ := List.mem_map.mp hd
    exact ih w hw
  | @kept n g c _ hc ih => rw [Gn.data]; exact (dk_t3 (n := 2 * n + k) dk_str ih ((condDk hc).mono (by omega))).mono (by omega)
  | @turned n g m _ ih => rw [Gn.data]; exact (dk_t3 (n := 2 * n + k + 1) dk_str (ih.mono (by omega)) ((mapDk m).mono (by omega))).mono (by omega)
  | @repeat_ n g h _ _ ih1 ih2 => rw [Gn.data]; exact (dk_t3 (n := 2 * n + k) dk_str ih1 ih2).mono (by omega)
theorem OkGk.parts {k n : Nat} {g : Gn} (h : OkGk k (n + 1) g) : ∀ p ∈ partsG g, OkGk k n p := by
  intro p hp
  cases h with
  | int => cases hp
  | pick => cases hp
  | tuple _ h => exact h p hp
  | list _ _ h => cases List.mem_singleton.mp hp; exact h
  | one _ h => exact h p hp
  | kept h _ => cases List.mem_singleton.mp hp; exact h
  | turned _ h => cases List.mem_singleton.mp hp; exact h
  | repeat_ h1 h2 =>
    rcases List.mem_cons.mp hp with rfl | hp
    · exact h1
    · cases List.mem_singleton.mp hp
      exact h2
theorem OkGk.parts_len {k n : Nat} {g : Gn} (h : OkGk k n g) : (partsG g).length ≤ 60 := by
  cases h with
  | int => exact Nat.zero_le _
  | pick => exact Nat.zero_le _
  | tuple h _ => exact h
  | list => show 1 ≤ 60; decide
  | one h _ => exact h
  | kept => show 1 ≤ 60; decide
  | turned => show 1 ≤ 60; decide
  | repeat_ => show 2 ≤ 60; decide
def nameG : Gn → Str
  | .int _ _ => "int"
  | .pick _ => "pick"
  | .tuple _ => "tuple"
  | .list _ _ _ => "list"
  | .one _ => "one"
  | .kept _ _ => "kept"
  | .turned _ _ => "turned"
  | .repeat_ _ _ => "repeat"
theorem Gn.name {K : PySem.W.Frag} {H : Hp} {v : V} {g : Gn} (h : Vd K H v g.data) : ∃ a x xs, v = .ref a ∧ SqT K H a (x :: xs) ∧ x = .str (nameG g) := by
  cases g with
  | list g lo hi =>
    rw [Gn.data] at h
    obtain ⟨a, rfl⟩ := h.ref
    obtain ⟨xs, hs, hl, hat⟩ := h.get
    match xs, hl with
    | [x0, x1, x2, x3], _ => exact ⟨a, x0, _, rfl, hs, (hat 0 x0 _ rfl rfl).str_inv⟩
  | _ => rw [Gn.data] at h; first | (obtain ⟨a, x, y, rfl, hs, hx, _⟩ := h.g2; exact ⟨a, x, _, rfl, hs, hx.str_inv⟩) | (obtain ⟨a, x, y, z, rfl, hs, hx, _⟩ := h.g3; exact ⟨a, x, _, rfl, hs, hx.str_inv⟩)
theorem plain_eq (g : Gn) : plainG g = (!inV (.str (nameG g)) [.str "kept", .str "repeat"] && (partsG g).all plainG) := by
  cases g <;> simp only [plainG, partsG, nameG, plainAll_all, List.all_nil, List.all_cons, Bool.and_true]
  all_goals first | rfl | (rw [show inV (V.str _) [V.str "kept", V.str "repeat"] = false from by decide +kernel]; rfl) | (rw [show inV (V.str _) [V.str "kept", V.str "repeat"] = true from by decide +kernel]; rfl)
/-! ### promises -/
def spParts (K : PySem.W.Frag) : Sp := fun vs H Q _ => ∃ (v : V) (g : Gn) (k n : Nat), vs = [v] ∧ Vd K H v g.data ∧ OkGk k n g ∧
  ∀ p xs H', Same H H' → H p = none → H' p = some (.lst xs) → Vds K H' xs ((partsG g).map Gn.data) → Q (.ref p) H'
def spPlain (K : PySem.W.Frag) (n : Nat) : Sp := fun vs H Q _ => ∃ (v : V) (g : Gn) (k : Nat), vs = [v] ∧ Vd K H v g.data ∧ OkGk k n g ∧ 2 * n + k ≤ 60 ∧ ∀ H', Same H H' → Q (.bl (plainG g)) H'
def spMerged (K : PySem.W.Frag) (n : Nat) : Sp := fun vs H Q _ => ∃ (v : V) (g : Gn) (k : Nat), vs = [v] ∧ Vd K H v g.data ∧ OkGk k n g ∧ ∀ r H', Same H H' → Vd K H' r (mergeG g).data → Q r H'
theorem OkGk.pos {k n : Nat} {g : Gn} (h : OkGk k n g) : 0 < n := by cases h <;> omega
theorem spPlain_0 {K : PySem.W.Frag} (vs : List V) (H : Hp) (Q : VK) (E : XK) : ¬ spPlain K 0 vs H Q E := fun h => by
  obtain ⟨_, _, _, _, _, h, _⟩ := h
  exact absurd h.pos (by omega)
theorem spMerged_0 {K : PySem.W.Frag} (vs : List V) (H : Hp) (Q : VK) (E : XK) : ¬ spMerged K 0 vs H Q E := fun h => by
  obtain ⟨_, _, _, _, _, h, _⟩ := h
  exact absurd h.pos (by omega)
theorem plain_call {K : PySem.W.Frag} {H : Hp} {n k : Nat} {v : V} {g : Gn} (hv : Vd K H v g.data) (hg : OkGk k n g) (hn : 2 * n + k ≤ 60) : SpV (spPlain K n) [v] H (.bl (plainG g)) := fun H1 e Q q E =>
  ⟨v, g, k, rfl, hv.keep (Kt.same e), hg, hn, fun H' e' => q H' e'⟩
theorem plain_parts (g : Gn) : plainG g = (match g with | .kept _ _ => false | .repeat_ _ _ => false | g => (partsG g).all plainG) := by
  cases g <;> simp [plainG, partsG, plainAll_all]
theorem cut2 (x y : V) (rest : List V) : cutV (x :: y :: rest) (some 2) none = rest := by
  have h : HT.sIx (x :: y :: rest).length 0 (some 2) = 2 := by
    rw [show HT.sIx (x :: y :: rest).length 0 (some 2) = min 2 (x :: y :: rest).length from HT.sIx_nat _ 0 2, List.length_cons, List.length_cons]
    omega
  unfold cutV
  rw [h, HT.sIx_none]
  show List.take ((rest.length + 1 + 1) - 2) rest = rest
  exact List.take_of_length_le (by omega)
/-- (word, inner) + gen[2:] -/
theorem cat_rest {K : PySem.W.Frag} {σ : L2.St} {H : Hp} {a : Addr} {x y w r : V} {rest : List V} (hs : SqT K H a (x :: y :: rest)) (hne : rest ≠ []) (hl : rest.length ≤ 10) (h0 : σ[0]? = some (some (.ref a))) (h1 : σ[1]? = some (some w)) (h2 : σ[2]? = some (some r)) :
    EvU (tOp (rCatA K) (tTup (tCons (tVar 1) (tCons (tVar 2) tNil))) (tSl (rSlA K) (tVar 0) (tPart (tC (.int 2))) tNoPart)) σ H (w :: r :: rest) := fun H1 e Q q => by
  refine ⟨w, h1, r, h2, len2, fun p1 hp1 => ⟨.ref a, h0, 2, rfl, a, x :: y :: rest, rfl, ex_t (e.trans (same_new hp1)) hs, fun hw => ?_, fun _ p2 hp2 => ?_⟩⟩
  · have h := hw.1
    rw [show HT.sIx (x :: y :: rest).length 0 (some 2) = min 2 (x :: y :: rest).length from HT.sIx_nat _ 0 2, List.length_cons, List.length_cons] at h
    omega
  · rw [cut2] at *
    have s2 := same_new (o := .tup rest) hp2
    refine ⟨p1, p2, [w, r], rest, rfl, rfl, ex_t s2 (.of upd_same), .of upd_same, Nat.le_of_lt (small1000 (by show 2 + rest.length ≤ 1000; omega)), fun h => (nomatch h), fun _ h => absurd h hne, fun _ _ p3 hp3 => ?_⟩
    have s3 := (same_new (o := .tup [w, r]) hp1).trans s2
    exact q p3 _ (fresh_back s3 hp3) (s3.trans (same_new hp3)) upd_same
theorem kept_or (G : Gn) : (∃ g c, G = .kept g c) ∨ (nameG G ≠ "kept" ∧ ∀ c, joinK G c = .kept G c) := by
  cases G with
  | kept g c => exact .inl ⟨g, c, rfl⟩
  | _ => exact .inr ⟨by simp only [nameG]; decide +kernel, fun _ => rfl⟩
theorem int_or (G : Gn) : (∃ a b, G = .int a b) ∨ (nameG G ≠ "int" ∧ ∀ m, joinT G m = .turned G m) := by
  cases G with
  | int a b => exact .inl ⟨a, b, rfl⟩
  | _ => exact .inr ⟨by simp only [nameG]; decide +kernel, fun _ => rfl⟩
def nameM : Mp → Str
  | .plus _ => "plus"
  | .times _ => "times"
  | .item _ => "item"
  | .length => "length"
  | .sum => "sum"
  | .sorted => "sorted"
  | .reversed => "reversed"
theorem Mp.nameOf {K : PySem.W.Frag} {H : Hp} {v : V} {m : Mp} (h : Vd K H v m.data) : ∃ a x xs, v = .ref a ∧ SqT K H a (x :: xs) ∧ x = .str (nameM m) ∧ ∀ n, m = .plus n → xs = [.int n] := by
  cases m with
  | plus n =>
    rw [Mp.data] at h
    obtain ⟨a, x, y, rfl, hs, hx, hy⟩ := h.g2
    exact ⟨a, x, _, rfl, hs, hx.str_inv, fun k e => by cases e; rw [hy.int_inv]⟩
  | _ => rw [Mp.data] at h; first | (obtain ⟨a, x, y, rfl, hs, hx, _⟩ := h.g2; exact ⟨a, x, _, rfl, hs, hx.str_inv, fun _ e => nomatch e⟩) | (obtain ⟨a, x, rfl, hs, hx⟩ := h.g1; exact ⟨a, x, _, rfl, hs, hx.str_inv, fun _ e => nomatch e⟩)
theorem plus_or (m : Mp) : (∃ n, m = .plus n) ∨ (nameM m ≠ "plus" ∧ ∀ G, joinT G m = .turned G m) := by
  cases m with
  | plus n => exact .inl ⟨n, rfl⟩
  | _ => exact .inr ⟨by simp only [nameM]; decide +kernel, fun G => by cases G <;> rfl⟩
theorem str_ne {x y : Str} (h : x ≠ y) : decide (V.str x = V.str y) = false := decide_eq_false fun e => h (V.str.inj e)
end Cr
/-! len(set(t)), t a tuple of texts of any length up to 1000 -/
namespace CrU
open PySem PySem.Spec PyProof.Rows
/-- how many different ones the first i are -/
def metN (ws : List Str) : Nat → Nat
  | 0 => 0
  | i + 1 => if (ws.take i).any (· == ws.getD i Str.empty) then metN ws i else metN ws i + 1
theorem metN_le (ws : List Str) : ∀ i, metN ws i ≤ i
  | 0 => Nat.le_refl _
  | i + 1 => by
    have := metN_le ws i
    unfold metN
    split <;> omega
theorem metN_full {ws : List Str} : ∀ i, i ≤ ws.length → (metN ws i = i ↔ (ws.take i).Nodup)
  | 0, _ => by simp [metN]
  | i + 1, h => by
    have ih := metN_full (ws := ws) i (by omega)
    have hl := metN_le ws i
    have e : ws.take (i + 1) = ws.take i ++ [ws.getD i Str.empty] := by
      rw [List.take_add_one, List.getElem?_eq_getElem (by omega), List.getD_eq_getElem?_getD, List.getElem?_eq_getElem (by omega)]
      rfl
    have hm : (ws.take i).any (· == ws.getD i Str.empty) = true ↔ ws.getD i Str.empty ∈ ws.take i := by
      rw [List.any_eq_true]
      exact ⟨fun ⟨y, hy, ey⟩ => by rw [← eq_of_beq ey]; exact hy, fun hy => ⟨_, hy, beq_self_eq_true _⟩⟩
    rw [e, List.nodup_append]
    unfold metN
    split
    · rename_i hc
      have hc := hm.mp hc
      exact ⟨fun h => absurd h (by omega), fun h => absurd rfl (h.2.2 _ hc _ (List.mem_singleton.mpr rfl))⟩
    · rename_i hc
      have hc : ws.getD i Str.empty ∉ ws.take i := fun hh => hc (hm.mpr hh)
      constructor
      · intro h
        exact ⟨ih.mp (by omega), List.nodup_cons.mpr ⟨by simp, List.nodup_nil⟩, fun a ha b hb e => hc (by rw [← List.mem_singleton.mp hb, ← e]; exact ha)⟩
      · intro h
        rw [ih.mpr h.1]
abbrev Wds (ws : List Str) (i : Nat) : Str → Bool := fun z => (ws.take i).any (· == z)
abbrev Bare (led : Bool) : Obj := { cls := .type "set", dict := none, data := .set #[] 0 (.fresh 0 0 led) }
section
variable {P : Program} {w : World} {A : Around} {R : Result → Shared → Prop} {J : Addr} {fp wr : List Addr} {G : Array GenState → Array GenState → Prop} {n : Nat} {Pv : Nat → Value → Prop} {St : Nat → Shared → Prop}
abbrev St1 (P : Program) (w : World) (h : Heap) (S : Addr) (ws : List Str) (i : Nat) : Prop := h.SetOf (PySem.strKind P w) S (Wds ws i) (metN ws i)
theorem st1_move {h h' : Heap} {S : Addr} {ws : List Str} {i : Nat} (x : St1 P w h S ws i) (k : ∀ o, h.get? S = some o → h'.get? S = some o) : St1 P w h' S ws i := by
  obtain ⟨o, es, ep, t, ho, r⟩ := x
  exact ⟨o, es, ep, t, k _ ho, r⟩
theorem grow (W : WalksS P w A.in1 J fp wr G n Pv St) (S : Addr) (hS : S ∉ fp) (ws : List Str) (hn : ws.length = n) (hb : n + 1 < scanBound) (hv : ∀ i v, Pv i v → ∃ t, v = .str (ws.getD i Str.empty) t) :
    ∀ (m i : Nat) (s : Shared), n - i = m → i ≤ n → St i s → St1 P w s.heap S ws i → (∀ s', Moved (S :: wr) G s s' → St1 P w s'.heap S ws n → R (.ok (.ret .none)) s') → codeAny (model P w) A (.builtin "set.update.loop" ⟨[.ref S, .ref J], []⟩) R s := by
  have hw : S ∉ wr := fun h => hS (W.sub _ h)
  have hmem : ∀ b ∈ wr, b ∈ S :: wr := fun b h => List.mem_cons_of_mem _ h
  intro m
  induction m with
  | zero =>
    intro i s hm hi st x fin
    obtain rfl : i = n := by omega
    refine codeAny_builtin PyProof.Rows.F.entry_set_update_loop ?_; rw [Around.under_plainId PyProof.Rows.F.plain_set_update_loop _]
    show wpAny _ A.in1 (pyNext (.ref J) >>= _) _ _ s
    exact wpAny_bind (W.done s _ _ st fun s' hm => (show wpAny _ A.in1 (ret Value.none) _ _ s' from wpAny_pure (fin s' (hm.mono hmem) (st1_move x fun o e => hm.heap S o hw e))))
  | succ m ih =>
    intro i s hm hi st x fin
    have hlt : i < n := by omega
    refine codeAny_builtin PyProof.Rows.F.entry_set_update_loop ?_; rw [Around.under_plainId PyProof.Rows.F.plain_set_update_loop _]
    show wpAny _ A.in1 (pyNext (.ref J) >>= _) _ _ s
    refine wpAny_bind (W.item i s _ _ hlt st fun v s' hp st' hmv => ?_)
    obtain ⟨t, rfl⟩ := hv i v hp
    have x' : St1 P w s'.heap S ws i := st1_move x fun o e => hmv.heap S o hw e
    show wpAny _ A.in1 (holding [Value.str (ws.getD i Str.empty) t] (setAdd S (.str (ws.getD i Str.empty) t)) >>= _) _ _ s'
    refine wpAny_bind (wpAny_holding ?_); unfold setAdd; refine wpAny_holding ?_
    refine wpAny_bind ((PySem.strKind P w).pyHash (k := ws.getD i Str.empty) (strKind_is _ _ _ _) ?_)
    refine wpAny_setAddHashed_of (knd := PySem.strKind P w) (s := { s' with toks := s'.toks + 1 }) (strKind_is _ _ _ _) rfl x' (by have := metN_le ws i; omega) fun h' sb x2 => ?_
    have x3 : St1 P w h' S ws (i + 1) := by
      refine SetOf_congr x2 (fun z => ?_) rfl
      show ((ws.take i).any (· == z) || decide (z = ws.getD i Str.empty)) = (ws.take (i + 1)).any (· == z)
      rw [List.take_add_one, List.getElem?_eq_getElem (show i < ws.length by omega), List.any_append, List.getD_eq_getElem?_getD, List.getElem?_eq_getElem (show i < ws.length by omega)]
      congr 1
      show decide (z = ws[i]) = ((ws[i] == z) || false)
      rw [Bool.or_false, Bool.eq_iff_iff, decide_eq_true_iff, beq_iff_eq]
      exact eq_comm
    refine wpAny_pure ⟨plainId_quiet PyProof.Rows.F.plain_set_update_loop _, ih (i + 1) _ (by omega) hlt (W.frame _ s' _ _ st' (Nat.le_succ _) fun b hb o e => ?_) x3 fun s2 hm2 x4 => ?_⟩
    · rw [sb.2 b fun h : b = S => hS (h ▸ hb)]; exact e
    · refine fin s2 (Moved.trans W.gtrans ((hmv.mono hmem).then_heap (Nat.le_succ _) fun b o hb e => ?_) hm2) x4
      rw [sb.2 b fun h : b = S => hb (h ▸ List.mem_cons_self)]; exact e
end
section
variable {P : Program} {w : World} {A : Around} {E : Value → Shared → Prop} {s : Shared}
set_option maxHeartbeats 3200000 in
theorem set_words {l : Addr} {its : Array Value} {ws : List Str} {Q : Value → Shared → Prop} (hc : A.handled = none) (hl : s.heap.IsTuple l its) (hi : PyProof.Rows.StrsAre its.toList ws) (hz : ws.length ≤ 1000)
    (fin : ∀ (h' : Heap) (tk : Nat), St1 P w h' s.heap.objs.size ws ws.length → (∀ b o, b < s.heap.objs.size → s.heap.get? b = some o → h'.get? b = some o) → Q (.ref s.heap.objs.size) { s with heap := h', toks := tk }) :
    wpAny (model P w) A (call (.type "set") [.ref l]) Q E s := by
  have F1 := PySem.F.called_set
  obtain ⟨c, tl, hmro⟩ := F1.mro
  have a1 := F1.made; have a2 := F1.sub
  refine wpAny_call (codeAny_of_tree ?_); show wpAny _ _ (callAny (.type "set") _) _ _ _
  refine wpAny_pure ⟨Code.quiet_builtin _ (by decide +kernel), codeAny_builtin PySem.F.entry_type_call ?_⟩; rw [Around.under_plain (weight_type_call_type "set" [.ref l] []) rfl]
  have a3 := F1.notType; have a4 := F1.canCreate; have a5 := PySem.F.typeCall_set_1 (.ref l)
  repeat (any_goals (first | assumption | wp_step))
  refine codeAny_mono (code_set_new_1 (.ref l) (E := E) (Q₁ := fun u t => ∃ led : Bool, u = .ref s.heap.objs.size ∧ t = { s with heap := s.heap.push (Bare led) }) fun led => ⟨led, rfl, rfl⟩) fun r t hr => ?_
  cases r with
  | error e => exact hr
  | ok f =>
    cases f with
    | ret u =>
      obtain ⟨led, rfl, rfl⟩ := hr
      have hS : (s.heap.push (Bare led)).get? s.heap.objs.size = some (Bare led) := Heap.get?_push_size _ rfl
      have hT : Shared.TypeIs { s with heap := s.heap.push (Bare led) } (.ref s.heap.objs.size) "set" := ⟨_, hS, rfl⟩
      have b1 := F1.init.lookup; have b2 := F1.init.bind (.ref s.heap.objs.size)
      repeat (any_goals (first | assumption | wp_step))
      refine codeAny_mono (codeAny_call_builtin (R := wants (fun r t => r = .none ∧ ∃ h' tk, t = { s with heap := h', toks := tk } ∧ St1 P w h' s.heap.objs.size ws ws.length ∧ (∀ b o, b < s.heap.objs.size → s.heap.get? b = some o → h'.get? b = some o)) E) F1.init.plain PySem.F.entry_set_init (check_set_init_1 hT ?_)) fun r2 t2 hr2 => ?_
      · obtain ⟨⟨oc, od, oda, osl⟩, ho, e1, nl, e2⟩ := hl
        simp only at e1 e2; subst e1; subst e2
        have ho' : (s.heap.push (Bare led)).get? l = some { cls := .type "tuple", dict := od, data := .seq its nl, slots := osl } := Heap.get?_push_of_some _ ho
        have c1 := PySem.F.sub_tuple_set; have c2 := PySem.F.sub_tuple_frozenset; have c3 : (Value.type "tuple" == Value.type "dict") = false := by decide
        have hl1 : (s.heap.push (Bare led)).IsTuple l its := ⟨_, ho', rfl, nl, rfl⟩
        unfold Builtin.«set.__init__» noKeywords Builtin.Frozenset.updateFrom; generalize hPI : pyIter = PI
        wp_walk
        subst hPI
        refine wpAny_pyIter_tuple hl1 (wpAny_bind (wpAny_runValue ?_))
        have lS : l < s.heap.objs.size := Heap.lt_size ho
        have hh : A.in1.in1.in1.handled = none := by simp [hc]
        have z1 : (s.heap.push (Bare led)).objs.size = s.heap.objs.size + 1 := Heap.size_push ..
        have d1 : l ≠ (s.heap.push (Bare led)).objs.size := by rw [z1]; exact Nat.ne_of_lt (Nat.lt_succ_of_lt lS)
        have d2 : s.heap.objs.size ∉ [(s.heap.push (Bare led)).objs.size, l] := by
          rw [z1]; intro h; rcases List.mem_cons.mp h with h | h
          · exact absurd h (Nat.ne_of_lt (Nat.lt_succ_self _))
          · exact absurd (List.mem_singleton.mp h) (Nat.ne_of_gt lS)
        have hsz : ws.length = its.size := by rw [← StrsAre.len_eq hi, Array.length_toList]
        refine grow ((Walks.tuple hh _ l d1 its).toS) s.heap.objs.size d2 ws hsz (by unfold scanBound; omega) (fun i v hv => SS.strs_at hi i v (by rw [Array.getElem?_toList]; exact hv)) (its.size - 0) 0 _ (by omega) (Nat.zero_le _) ⟨⟨_, Heap.get?_push_size _ rfl, rfl, rfl⟩, (hl1.push _)⟩ ?h0 ?hR
        case h0 =>
          have hg : ((s.heap.push (Bare led)).push { cls := .type "tuple_iterator", data := .fields #[.ref l, .int 0 0] }).get? s.heap.objs.size = some (Bare led) := Heap.get?_push_of_some _ hS
          exact PyProof.Rows.SetOf_congr ((PyProof.Rows.setObjOf_fresh (knd := PySem.strKind P w) led).setOf hg (by unfold scanBound; omega)) (fun z => by simp [Wds]) rfl
        case hR =>
          rintro ⟨h', g', d', tk', os'⟩ hm x
          obtain rfl : g' = s.gens := hm.gens
          obtain rfl : d' = s.drawn := hm.drawn
          obtain rfl : os' = s.os := hm.os
          show wpAny _ _ _ _ _ _
          refine wpAny_pure (show wpAny _ _ (ret Value.none) _ _ _ from ?_)
          rw [← hsz] at x
          refine wpAny_pure ⟨rfl, h', tk', rfl, x, fun b o hb e => hm.heap b o ?_ (Heap.get?_push_of_some _ (Heap.get?_push_of_some _ e))⟩
          intro h
          rcases List.mem_cons.mp h with h | h
          · exact absurd h (Nat.ne_of_lt hb)
          · have h := List.mem_singleton.mp h; rw [z1] at h; exact absurd h (Nat.ne_of_lt (Nat.lt_succ_of_lt hb))
      · cases r2 with
        | error e => exact hr2
        | ok f2 =>
          cases f2 with
          | ret u2 =>
            obtain ⟨rfl, h', tk, rfl, x, k⟩ := hr2
            repeat (any_goals (first | assumption | wp_step))
            exact fin _ _ x k
          | _ => exact hr2.elim
    | _ => exact hr.elim
end
section
open L2
def tLenW (K : PySem.W.Frag) (ta : TE) : TE := fun σ H Q => ta σ H fun x H1 => ∃ (l : Addr) (ws : List Str), x = .ref l ∧ SqT K H1 l (ws.map V.str) ∧ ws.length ≤ 1000 ∧ Q (.int (metN ws ws.length : Nat)) H1
theorem pe_lenW {X : Cx} {a : Expr} {ta : TE} {p p2 q pos : Pos} (hc : X.calm = true) (g1 : Gl X "len") (m1 : X.mg "len" = none) (g2 : Gl X "set") (m2 : X.mg "set" = none) (ha : PE X a ta) (na : starEach [a] X.env = (false, eval a X.env) :: starEach [] X.env := by rfl) :
    PE X (.Call (.Name "len" p) [.Call (.Name "set" p2) [a] [] q] [] pos) (tLenW X.K ta) := ⟨fun pins s σ H Q I h => by
  refine Call_ (ld_blt I g1 m1 boot_len (PyProof.Rows.callWith_builtin1 (PyProof.Rows.args_cons ?_ rfl) rfl rfl))
  refine Call_ (ld_blt I g2 m2 boot_set (PyProof.Rows.callWith_type1 (PyProof.Rows.args_cons (thn (ha.run pins s σ H _ I h) fun v s1 ⟨x, H1, I1, r1, l, ws, ex, hq, hz, q1⟩ => PyProof.Rows.args_nil ?_) na) na rfl))
  subst ex
  cases r1
  obtain ⟨its, rv, pl, hz'⟩ := I1.tuple hq
  have hl : its.length = ws.length := by rw [← rv.length, List.length_map]
  refine set_words (I1.ok.hd hc) pl (by simpa using strsAre_of rv) hz fun h' tk x k => PyProof.Rows.args_nil ?_
  obtain ⟨o, es, ep, t, ho, hex, hd, _, _, _, hf, hn⟩ := x
  have hm := metN_le ws ws.length
  have I2 : Inv X pins σ H1 { s1 with heap := h', toks := tk } := I1.kept fun b o e => k b o (Heap.lt_size e) e
  exact call_len_set ho hex hd hf (by rw [hn]; omega) ⟨.int (metN ws ws.length : Nat), H1, I2.tok _, ⟨_, by rw [hn]⟩, q1⟩⟩
end
end CrU
set_option maxRecDepth 10000000
/-! A reading and a function of data that it follows: slots hold data; lists of the def's own may grow. -/
namespace Sm
open PySem PySem.Spec PyProof.Rows L2 Evl
abbrev Atm := Addr → List (PyData × PyData) → Prop
/-- a value and its datum; no list of it is owned -/
inductive Fd (K : PySem.W.Frag) (A : Atm) (O : Addr → Prop) (H : Hp) : V → PyData → Prop
  | non : Fd K A O H .non .none
  | bl (b : Bool) : Fd K A O H (.bl b) (.bool b)
  | int (i : Int) : Fd K A O H (.int i) (.int i)
  | str (x : Str) : Fd K A O H (.str x) (.str x)
  | tup {a : Addr} {xs : List V} {ds : List PyData} : SqT K H a xs → xs.length = ds.length → (∀ (i : Nat) v d, xs[i]? = some v → ds[i]? = some d → Fd K A O H v d) → Fd K A O H (.ref a) (.tuple ds)
  | lst {a : Addr} {xs : List V} {ds : List PyData} : H a = some (.lst xs) → ¬ O a → xs.length = ds.length → (∀ (i : Nat) v d, xs[i]? = some v → ds[i]? = some d → Fd K A O H v d) → Fd K A O H (.ref a) (.list ds)
  | fn {f : Addr} {kvs : List (PyData × PyData)} : A f kvs → Fd K A O H (.ref f) (.dict kvs)
def Fds (K : PySem.W.Frag) (A : Atm) (O : Addr → Prop) (H : Hp) (xs : List V) (ds : List PyData) : Prop := xs.length = ds.length ∧ ∀ (i : Nat) v d, xs[i]? = some v → ds[i]? = some d → Fd K A O H v d
/-- what is not owned stays, and is not owned later -/
def Evo (O : Addr → Prop) (H : Hp) (O' : Addr → Prop) (H' : Hp) : Prop := ∀ a o, H a = some o → ¬ O a → H' a = some o ∧ ¬ O' a
def Owl (O : Addr → Prop) (H : Hp) : Prop := ∀ a, O a → ∃ xs, H a = some (.lst xs)
def Osn (O : Addr → Prop) (p : Addr) : Addr → Prop := fun a => a = p ∨ O a
section
variable {K : PySem.W.Frag} {A : Atm} {O O' O1 O2 : Addr → Prop} {H H' H1 H2 : Hp}
theorem Evo.refl : Evo O H O H := fun _ _ h n => ⟨h, n⟩
theorem Evo.trans (e : Evo O H O1 H1) (f : Evo O1 H1 O2 H2) : Evo O H O2 H2 := fun a o h n => f a o (e a o h n).1 (e a o h n).2
theorem Evo.same (e : Same H H') : Evo O H O H' := fun a o h n => ⟨e a o h, n⟩
theorem Owl.same (l : Owl O H) (e : Same H H') : Owl O H' := fun a h => by
  obtain ⟨xs, hx⟩ := l a h
  exact ⟨xs, e _ _ hx⟩
theorem Owl.none (l : Owl O H) {p : Addr} (h : H p = none) : ¬ O p := fun ho => by
  obtain ⟨xs, hx⟩ := l p ho
  rw [h] at hx
  cases hx
theorem sqT_evo (l : Owl O H) (e : Evo O H O' H') {a : Addr} {xs : List V} (h : SqT K H a xs) : SqT K H' a xs := by
  rcases h with (h | ⟨o, h⟩) | h
  · refine .inl (.inl (e a _ h fun ho => ?_).1)
    obtain ⟨ys, hy⟩ := l a ho
    rw [h] at hy
    cases hy
  · refine .inl (.inr ⟨o, (e a _ h fun ho => ?_).1⟩)
    obtain ⟨ys, hy⟩ := l a ho
    rw [h] at hy
    cases hy
  · exact .inr h
theorem Fd.evo (l : Owl O H) (e : Evo O H O' H') {v : V} {d : PyData} (h : Fd K A O H v d) : Fd K A O' H' v d := by
  induction h with
  | non => exact .non
  | bl b => exact .bl b
  | int i => exact .int i
  | str x => exact .str x
  | tup hs hl _ ih => exact .tup (sqT_evo l e hs) hl ih
  | lst hs ho hl _ ih => exact .lst (e _ _ hs ho).1 (e _ _ hs ho).2 hl ih
  | fn h => exact .fn h
theorem Fd.same (e : Same H H') {v : V} {d : PyData} (h : Fd K A O H v d) : Fd K A O H' v d := by
  induction h with
  | non => exact .non
  | bl b => exact .bl b
  | int i => exact .int i
  | str x => exact .str x
  | tup hs hl _ ih => exact .tup (ex_t e hs) hl ih
  | lst hs ho hl _ ih => exact .lst (e _ _ hs) ho hl ih
  | fn h => exact .fn h
/-- less is owned -/
theorem Fd.less (s : ∀ a, O' a → O a) {v : V} {d : PyData} (h : Fd K A O H v d) : Fd K A O' H v d := by
  induction h with
  | non => exact .non
  | bl b => exact .bl b
  | int i => exact .int i
  | str x => exact .str x
  | tup hs hl _ ih => exact .tup hs hl ih
  | lst hs ho hl _ ih => exact .lst hs (fun h => ho (s _ h)) hl ih
  | fn h => exact .fn h
/-- a new address is owned -/
theorem Fd.more {p : Addr} (hp : H p = none) {v : V} {d : PyData} (h : Fd K A O H v d) : Fd K A (Osn O p) H v d := by
  induction h with
  | non => exact .non
  | bl b => exact .bl b
  | int i => exact .int i
  | str x => exact .str x
  | tup hs hl _ ih => exact .tup hs hl ih
  | @lst a xs ds hs ho hl _ ih =>
    refine .lst hs (fun h => ?_) hl ih
    rcases h with h | h
    · rw [h, hp] at hs
      cases hs
    · exact ho h
  | fn h => exact .fn h
theorem Fds.evo (l : Owl O H) (e : Evo O H O' H') {vs : List V} {ds : List PyData} (h : Fds K A O H vs ds) : Fds K A O' H' vs ds := ⟨h.1, fun i v d a b => (h.2 i v d a b).evo l e⟩
theorem Fds.same (e : Same H H') {vs : List V} {ds : List PyData} (h : Fds K A O H vs ds) : Fds K A O H' vs ds := ⟨h.1, fun i v d a b => (h.2 i v d a b).same e⟩
theorem Fds.less (s : ∀ a, O' a → O a) {vs : List V} {ds : List PyData} (h : Fds K A O H vs ds) : Fds K A O' H vs ds := ⟨h.1, fun i v d a b => (h.2 i v d a b).less s⟩
theorem Fds.more {p : Addr} (hp : H p = none) {vs : List V} {ds : List PyData} (h : Fds K A O H vs ds) : Fds K A (Osn O p) H vs ds := ⟨h.1, fun i v d a b => (h.2 i v d a b).more hp⟩
theorem Fds.nil : Fds K A O H [] [] := ⟨rfl, fun i v d h _ => by simp at h⟩
theorem Fds.cons {vs : List V} {ds : List PyData} {v : V} {d : PyData} (hv : Fd K A O H v d) (h : Fds K A O H vs ds) : Fds K A O H (v :: vs) (d :: ds) := by
  refine ⟨by rw [List.length_cons, List.length_cons, h.1], fun i x e h1 h2 => ?_⟩
  match i with
  | 0 =>
    cases h1
    cases h2
    exact hv
  | i + 1 => exact h.2 i x e (by simpa using h1) (by simpa using h2)
theorem Fds.app {vs ws : List V} {ds es : List PyData} (h : Fds K A O H vs ds) (g : Fds K A O H ws es) : Fds K A O H (vs ++ ws) (ds ++ es) := by
  refine ⟨by rw [List.length_append, List.length_append, h.1, g.1], fun i x e h1 h2 => ?_⟩
  have hl := h.1
  by_cases hi : i < vs.length
  · rw [List.getElem?_append_left hi] at h1
    rw [List.getElem?_append_left (by omega)] at h2
    exact h.2 i x e h1 h2
  · rw [List.getElem?_append_right (by omega)] at h1
    rw [List.getElem?_append_right (by omega), ← hl] at h2
    exact g.2 _ x e h1 h2
theorem Fds.snoc {vs : List V} {ds : List PyData} {v : V} {d : PyData} (h : Fds K A O H vs ds) (hv : Fd K A O H v d) : Fds K A O H (vs ++ [v]) (ds ++ [d]) := h.app (.cons hv .nil)
theorem Fds.head {vs : List V} {d : PyData} {ds : List PyData} (h : Fds K A O H vs (d :: ds)) : ∃ v ws, vs = v :: ws ∧ Fd K A O H v d ∧ Fds K A O H ws ds := by
  match vs, h with
  | [], h => exact absurd h.1 (by simp)
  | v :: ws, h => exact ⟨v, ws, rfl, h.2 0 v d rfl rfl, by simpa using h.1, fun i x e h1 h2 => h.2 (i + 1) x e (by simpa using h1) (by simpa using h2)⟩
theorem Fds.nil_inv {vs : List V} (h : Fds K A O H vs []) : vs = [] := List.length_eq_zero_iff.mp h.1
theorem Fds.get {vs : List V} {ds : List PyData} (h : Fds K A O H vs ds) {i : Nat} {d : PyData} (hd : ds[i]? = some d) : ∃ v, vs[i]? = some v ∧ Fd K A O H v d := by
  have hi := (List.getElem?_eq_some_iff.mp hd).1
  have hi' : i < vs.length := by rw [h.1]; exact hi
  exact ⟨vs[i], List.getElem?_eq_getElem hi', h.2 i _ d (List.getElem?_eq_getElem hi') hd⟩
theorem Fds.get' {vs : List V} {ds : List PyData} (h : Fds K A O H vs ds) {i : Nat} {v : V} (hv : vs[i]? = some v) : ∃ d, ds[i]? = some d ∧ Fd K A O H v d := by
  have hi := (List.getElem?_eq_some_iff.mp hv).1
  have hi' : i < ds.length := by rw [← h.1]; exact hi
  exact ⟨ds[i], List.getElem?_eq_getElem hi', h.2 i v _ hv (List.getElem?_eq_getElem hi')⟩
theorem Fds.drop {vs : List V} {ds : List PyData} (n : Nat) (h : Fds K A O H vs ds) : Fds K A O H (vs.drop n) (ds.drop n) := ⟨by rw [List.length_drop, List.length_drop, h.1], fun i v d h1 h2 => h.2 (n + i) v d (by rw [← List.getElem?_drop]; exact h1) (by rw [← List.getElem?_drop]; exact h2)⟩
theorem Fds.take {vs : List V} {ds : List PyData} (n : Nat) (h : Fds K A O H vs ds) : Fds K A O H (vs.take n) (ds.take n) := ⟨by rw [List.length_take, List.length_take, h.1], fun i v d h1 h2 => by
  rw [List.getElem?_take] at h1 h2
  split at h1
  · rename_i hi
    rw [if_pos hi] at h2
    exact h.2 i v d h1 h2
  · cases h1⟩
theorem Fds.reverse {xs : List V} {ds : List PyData} (h : Fds K A O H xs ds) : Fds K A O H xs.reverse ds.reverse := by
  refine ⟨by rw [List.length_reverse, List.length_reverse, h.1], fun i v d h1 h2 => ?_⟩
  have hl := h.1
  by_cases hi : i < xs.length
  · rw [List.getElem?_reverse hi] at h1
    rw [List.getElem?_reverse (by omega), ← hl] at h2
    exact h.2 _ v d h1 h2
  · rw [List.getElem?_eq_none (by rw [List.length_reverse]; omega)] at h1
    cases h1
theorem Fds.tup {vs : List V} {ds : List PyData} {a : Addr} (h : Fds K A O H vs ds) (ha : SqT K H a vs) : Fd K A O H (.ref a) (.tuple ds) := .tup ha h.1 h.2
theorem Fds.lst {vs : List V} {ds : List PyData} {a : Addr} (h : Fds K A O H vs ds) (ha : H a = some (.lst vs)) (ho : ¬ O a) : Fd K A O H (.ref a) (.list ds) := .lst ha ho h.1 h.2
theorem Fd.tup_inv {v : V} {ds : List PyData} (h : Fd K A O H v (.tuple ds)) : ∃ a xs, v = .ref a ∧ SqT K H a xs ∧ Fds K A O H xs ds := by
  cases h with
  | tup hs hl q => exact ⟨_, _, rfl, hs, hl, q⟩
theorem Fd.lst_inv {v : V} {ds : List PyData} (h : Fd K A O H v (.list ds)) : ∃ a xs, v = .ref a ∧ H a = some (.lst xs) ∧ ¬ O a ∧ Fds K A O H xs ds := by
  cases h with
  | lst hs ho hl q => exact ⟨_, _, rfl, hs, ho, hl, q⟩
theorem Fd.int_inv {v : V} {i : Int} (h : Fd K A O H v (.int i)) : v = .int i := by cases h; rfl
theorem Fd.str_inv {v : V} {x : Str} (h : Fd K A O H v (.str x)) : v = .str x := by cases h; rfl
theorem Fd.bl_inv {v : V} {x : Bool} (h : Fd K A O H v (.bool x)) : v = .bl x := by cases h; rfl
theorem Fd.non_inv {v : V} (h : Fd K A O H v .none) : v = .non := by cases h; rfl
theorem dp_all : ∀ {vs : List V} {ds : List PyData}, vs.length = ds.length → (∀ (i : Nat) v d, vs[i]? = some v → ds[i]? = some d → Dp K H v d) → DpAll K H vs ds
  | [], [], _, _ => .nil
  | [], _ :: _, h, _ => by simp at h
  | _ :: _, [], h, _ => by simp at h
  | x :: xs, d :: ds, h, q => .cons (q 0 x d rfl rfl) (dp_all (by simpa using h) fun i v e h1 h2 => q (i + 1) v e (by simpa using h1) (by simpa using h2))
theorem lay_of_all : ∀ {ds : List PyData}, PyData.canLayAll0 ds = true → ∀ d ∈ ds, d.canLay0 = true
  | [], _, _, h => by cases h
  | d :: ds, h, e, he => by
    unfold PyData.canLayAll0 at h
    obtain ⟨h1, h2⟩ := Bool.and_eq_true_iff.mp h
    rcases List.mem_cons.mp he with rfl | he
    · exact h1
    · exact lay_of_all h2 e he
theorem Fd.dp {v : V} {d : PyData} (h : Fd K A O H v d) (hc : d.canLay0 = true) : Dp K H v d := by
  induction h with
  | non => exact .non
  | bl b => exact .bl b
  | int i => exact .int i
  | str x => exact .str x
  | tup hs hl _ ih => exact .tup hs (dp_all hl fun i v d h1 h2 => ih i v d h1 h2 (lay_of_all (by simpa [PyData.canLay0] using hc) d (List.mem_of_getElem? h2)))
  | lst hs _ hl _ ih => exact .lst (sq_of hs) (dp_all hl fun i v d h1 h2 => ih i v d h1 h2 (lay_of_all (by simpa [PyData.canLay0] using hc) d (List.mem_of_getElem? h2)))
  | fn h => simp [PyData.canLay0] at hc
theorem Fd.dps {v : V} {d : PyData} (h : Fd K A O H v d) (hc : SeqAt.shaped d = true) : Dp K H v d := h.dp (SeqAt.canLay_of_shaped hc)
/-- data without lists, bools and None -/
theorem Fd.of_vd {v : V} {d : PyData} (h : Cr.Vd K H v d) : Fd K A O H v d := by
  induction h with
  | int i => exact .int i
  | str x => exact .str x
  | tup hs hl _ ih => exact .tup hs hl ih
theorem Fds.of_vds {vs : List V} {ds : List PyData} (h : Cr.Vds K H vs ds) : Fds K A O H vs ds := ⟨h.1, fun i v d a b => .of_vd (h.2 i v d a b)⟩
mutual
def flatD : PyData → Bool
  | .int _ => true
  | .str _ => true
  | .tuple ds => flatDs ds
  | _ => false
def flatDs : List PyData → Bool
  | [] => true
  | d :: ds => flatD d && flatDs ds
end
theorem flatDs_mem : ∀ {ds : List PyData}, flatDs ds = true → ∀ d ∈ ds, flatD d = true
  | [], _, _, h => by cases h
  | d :: ds, h, e, he => by
    unfold flatDs at h
    obtain ⟨h1, h2⟩ := Bool.and_eq_true_iff.mp h
    rcases List.mem_cons.mp he with rfl | he
    · exact h1
    · exact flatDs_mem h2 e he
theorem flatDs_of : ∀ {ds : List PyData}, (∀ d ∈ ds, flatD d = true) → flatDs ds = true
  | [], _ => by unfold flatDs; rfl
  | d :: ds, h => by
    unfold flatDs
    rw [h d List.mem_cons_self, flatDs_of fun e he => h e (List.mem_cons_of_mem _ he)]
    rfl
theorem Fd.vd {v : V} {d : PyData} (h : Fd K A O H v d) (hc : flatD d = true) : Cr.Vd K H v d := by
  induction h with
  | non => simp [flatD] at hc
  | bl b => simp [flatD] at hc
  | int i => exact .int i
  | str x => exact .str x
  | tup hs hl _ ih => exact .tup hs hl fun i v d h1 h2 => ih i v d h1 h2 (flatDs_mem (by simpa [flatD] using hc) d (List.mem_of_getElem? h2))
  | lst => simp [flatD] at hc
  | fn h => simp [flatD] at hc
end
/-! ### slots -/
inductive Sl where
  | un | val (d : PyData) | own (ds : List PyData)
structure Rl (K : PySem.W.Frag) (A : Atm) (H0 : Hp) (O0 O : Addr → Prop) (σ : L2.St) (H : Hp) (ρ : List Sl) : Prop where
  len : σ.length = ρ.length
  val : ∀ (i : Nat) (d : PyData), ρ[i]? = some (Sl.val d) → ∃ v, σ[i]? = some (some v) ∧ Fd K A O H v d
  own : ∀ (i : Nat) (ds : List PyData), ρ[i]? = some (Sl.own ds) → ∃ p xs, σ[i]? = some (some (V.ref p)) ∧ O p ∧ H0 p = none ∧ H p = some (.lst xs) ∧ Fds K A O H xs ds
  inj : ∀ (i j : Nat) (ds es : List PyData) (p : Addr), ρ[i]? = some (Sl.own ds) → ρ[j]? = some (Sl.own es) → σ[i]? = some (some (V.ref p)) → σ[j]? = some (some (V.ref p)) → i = j
  owl : Owl O H
  frm : Same H0 H
  sub : ∀ a, O0 a → O a
  old : Owl O0 H0
section
variable {K : PySem.W.Frag} {A : Atm} {H0 : Hp} {O0 O O' : Addr → Prop} {σ σ' : L2.St} {H H' : Hp} {ρ ρ' : List Sl}
theorem Rl.same (r : Rl K A H0 O0 O σ H ρ) (e : Same H H') : Rl K A H0 O0 O σ H' ρ where
  len := r.len
  val := fun i d h => by
    obtain ⟨v, h1, h2⟩ := r.val i d h
    exact ⟨v, h1, h2.same e⟩
  own := fun i ds h => by
    obtain ⟨p, xs, h1, h2, h3, h4, h5⟩ := r.own i ds h
    exact ⟨p, xs, h1, h2, h3, e _ _ h4, h5.same e⟩
  inj := r.inj
  owl := r.owl.same e
  frm := r.frm.trans e
  sub := r.sub
  old := r.old
theorem Rl.old0 (r : Rl K A H0 O0 O σ H ρ) {p : Addr} (h : H0 p = none) : ¬ O0 p := r.old.none h
/-- a slot gets a value -/
theorem Rl.set (r : Rl K A H0 O0 O σ H ρ) (i : Nat) {v : V} {d : PyData} (h : Fd K A O H v d) : Rl K A H0 O0 O (σ.set i (some v)) H (ρ.set i (.val d)) where
  len := by rw [List.length_set, List.length_set, r.len]
  val := fun j e hj => by
    rw [List.getElem?_set] at hj ⊢
    by_cases hi : i = j
    · subst hi
      rw [if_pos rfl] at hj ⊢
      split at hj
      · rename_i hl
        cases hj
        rw [if_pos (by rw [r.len]; exact hl)]
        exact ⟨v, rfl, h⟩
      · cases hj
    · rw [if_neg hi] at hj ⊢
      exact r.val j e hj
  own := fun j es hj => by
    rw [List.getElem?_set] at hj ⊢
    by_cases hi : i = j
    · subst hi
      rw [if_pos rfl] at hj
      split at hj <;> cases hj
    · rw [if_neg hi] at hj ⊢
      exact r.own j es hj
  inj := fun j k ds es p hj hk sj sk => by
    have hij : i ≠ j := fun e => by
      subst e
      rw [List.getElem?_set, if_pos rfl] at hj
      split at hj <;> cases hj
    have hik : i ≠ k := fun e => by
      subst e
      rw [List.getElem?_set, if_pos rfl] at hk
      split at hk <;> cases hk
    rw [List.getElem?_set_ne hij] at hj sj
    rw [List.getElem?_set_ne hik] at hk sk
    exact r.inj j k ds es p hj hk sj sk
  owl := r.owl
  frm := r.frm
  sub := r.sub
  old := r.old
/-- a slot gets a list of its own -/
theorem Rl.setOwn (r : Rl K A H0 O0 O σ H ρ) (i : Nat) {p : Addr} {xs : List V} {ds : List PyData} (hp : H p = none) (e : Same H H') (hx : H' p = some (.lst xs)) (h : Fds K A (Osn O p) H' xs ds) :
    Rl K A H0 O0 (Osn O p) (σ.set i (some (.ref p))) H' (ρ.set i (.own ds)) where
  len := by rw [List.length_set, List.length_set, r.len]
  val := fun j e' hj => by
    rw [List.getElem?_set] at hj ⊢
    by_cases hi : i = j
    · subst hi
      rw [if_pos rfl] at hj
      split at hj <;> cases hj
    · rw [if_neg hi] at hj ⊢
      obtain ⟨v, h1, h2⟩ := r.val j e' hj
      exact ⟨v, h1, (h2.more hp).same e⟩
  own := fun j es hj => by
    rw [List.getElem?_set] at hj ⊢
    by_cases hi : i = j
    · subst hi
      rw [if_pos rfl] at hj ⊢
      split at hj
      · rename_i hl
        cases hj
        rw [if_pos (by rw [r.len]; exact hl)]
        exact ⟨p, xs, rfl, .inl rfl, r.frm.free hp, hx, h⟩
      · cases hj
    · rw [if_neg hi] at hj ⊢
      obtain ⟨q, ys, h1, h2, h3, h4, h5⟩ := r.own j es hj
      exact ⟨q, ys, h1, .inr h2, h3, e _ _ h4, (h5.more hp).same e⟩
  inj := fun j k es fs q hj hk sj sk => by
    have key : ∀ (j : Nat) (es : List PyData), (ρ.set i (Sl.own ds))[j]? = some (Sl.own es) → (σ.set i (some (V.ref p)))[j]? = some (some (V.ref q)) → (j = i ∧ q = p) ∨ (j ≠ i ∧ ρ[j]? = some (Sl.own es) ∧ σ[j]? = some (some (V.ref q)) ∧ q ≠ p) := fun j es hj sj => by
      by_cases hi : i = j
      · subst hi
        rw [List.getElem?_set, if_pos rfl] at sj
        split at sj
        · cases sj
          exact .inl ⟨rfl, rfl⟩
        · cases sj
      · rw [List.getElem?_set_ne hi] at hj sj
        refine .inr ⟨fun h => hi h.symm, hj, sj, fun h => ?_⟩
        obtain ⟨q', ys, h1, h2, h3, h4, h5⟩ := r.own j es hj
        rw [sj] at h1
        cases h1
        rw [h, hp] at h4
        cases h4
    rcases key j es hj sj with ⟨a1, a2⟩ | ⟨a1, a2, a3, a4⟩ <;> rcases key k fs hk sk with ⟨b1, b2⟩ | ⟨b1, b2, b3, b4⟩
    · rw [a1, b1]
    · exact absurd a2 b4
    · exact absurd b2 a4
    · exact r.inj j k es fs q a2 b2 a3 b3
  owl := fun a h => by
    rcases h with rfl | h
    · exact ⟨xs, hx⟩
    · exact r.owl.same e a h
  frm := r.frm.trans e
  sub := fun a h => .inr (r.sub a h)
  old := r.old
/-- an own list changes -/
theorem Rl.grow (r : Rl K A H0 O0 O σ H ρ) {i : Nat} {p : Addr} {ds es : List PyData} {xs ys : List V} (hi : ρ[i]? = some (.own ds)) (hs : σ[i]? = some (some (V.ref p))) (hx : H p = some (.lst xs)) (h : Fds K A O H ys es) :
    Rl K A H0 O0 O σ (upd H p (.lst ys)) (ρ.set i (.own es)) ∧ Evo O H O (upd H p (.lst ys)) := by
  obtain ⟨p', xs', s1, s2, s3, s4, s5⟩ := r.own i ds hi
  rw [hs] at s1
  cases s1
  have ev : Evo O H O (upd H p (.lst ys)) := fun a o ha hn => ⟨by
    rw [upd_ne (fun e => by subst e; exact hn s2)]
    exact ha, hn⟩
  refine ⟨⟨by rw [List.length_set, r.len], fun j d hj => ?_, fun j fs hj => ?_, fun j k fs gs q hj hk sj sk => ?_, fun a ha => ?_, fun a o ha => ?_, r.sub, r.old⟩, ev⟩
  · rw [List.getElem?_set] at hj
    by_cases hij : i = j
    · subst hij
      rw [if_pos rfl] at hj
      split at hj <;> cases hj
    · rw [if_neg hij] at hj
      obtain ⟨v, h1, h2⟩ := r.val j d hj
      exact ⟨v, h1, h2.evo r.owl ev⟩
  · rw [List.getElem?_set] at hj
    by_cases hij : i = j
    · subst hij
      rw [if_pos rfl] at hj
      split at hj
      · cases hj
        exact ⟨p, ys, hs, s2, s3, upd_same, h.evo r.owl ev⟩
      · cases hj
    · rw [if_neg hij] at hj
      obtain ⟨q, zs, h1, h2, h3, h4, h5⟩ := r.own j fs hj
      have hqp : q ≠ p := fun e => by
        subst e
        exact hij (r.inj i j ds fs q hi hj hs h1)
      exact ⟨q, zs, h1, h2, h3, by rw [upd_ne hqp]; exact h4, h5.evo r.owl ev⟩
  · have key : ∀ (j : Nat) (fs : List PyData), (ρ.set i (Sl.own es))[j]? = some (Sl.own fs) → ∃ gs, ρ[j]? = some (Sl.own gs) := fun j fs hj => by
      by_cases hij : i = j
      · subst hij
        exact ⟨ds, hi⟩
      · rw [List.getElem?_set_ne hij] at hj
        exact ⟨fs, hj⟩
    obtain ⟨f1, h1⟩ := key j fs hj
    obtain ⟨g1, h2⟩ := key k gs hk
    exact r.inj j k f1 g1 q h1 h2 sj sk
  · by_cases hap : a = p
    · subst hap
      exact ⟨ys, upd_same⟩
    · rw [upd_ne hap]
      exact r.owl a ha
  · have hap : a ≠ p := fun e => by
      subst e
      rw [s3] at ha
      cases ha
    rw [upd_ne hap]
    exact r.frm a o ha
/-- an own list is given away -/
def frz (i : Nat) (ρ : List Sl) : List Sl := match ρ[i]? with
  | some (.own ds) => ρ.set i (.val (.list ds))
  | _ => ρ
theorem Rl.frz (r : Rl K A H0 O0 O σ H ρ) (i : Nat) : ∃ O', Rl K A H0 O0 O' σ H (frz i ρ) ∧ Evo O H O' H ∧ ∀ a, O' a → O a := by
  unfold Sm.frz
  split
  · rename_i ds hi
    obtain ⟨p, xs, s1, s2, s3, s4, s5⟩ := r.own i ds hi
    have hl : i < σ.length := (List.getElem?_eq_some_iff.mp s1).1
    refine ⟨fun a => O a ∧ a ≠ p, ⟨by rw [List.length_set, r.len], fun j d hj => ?_, fun j fs hj => ?_, fun j k fs gs q hj hk sj sk => ?_, fun a ha => r.owl a ha.1, r.frm, fun a ha => ⟨r.sub a ha, fun e => r.old0 s3 (e ▸ ha)⟩, r.old⟩, fun a o ha hn => ⟨ha, fun h => hn h.1⟩, fun a h => h.1⟩
    · rw [List.getElem?_set] at hj
      by_cases hij : i = j
      · subst hij
        rw [if_pos rfl] at hj
        split at hj
        · cases hj
          exact ⟨_, s1, (s5.less fun a h => h.1).lst s4 fun h => h.2 rfl⟩
        · cases hj
      · rw [if_neg hij] at hj
        obtain ⟨v, h1, h2⟩ := r.val j d hj
        exact ⟨v, h1, h2.less fun a h => h.1⟩
    · rw [List.getElem?_set] at hj
      by_cases hij : i = j
      · subst hij
        rw [if_pos rfl] at hj
        split at hj <;> cases hj
      · rw [if_neg hij] at hj
        obtain ⟨q, zs, h1, h2, h3, h4, h5⟩ := r.own j fs hj
        have hqp : q ≠ p := fun e => by
          subst e
          exact hij (r.inj i j ds fs q hi hj s1 h1)
        exact ⟨q, zs, h1, ⟨h2, hqp⟩, h3, h4, h5.less fun a h => h.1⟩
    · have key : ∀ (j : Nat) (fs : List PyData), (ρ.set i (Sl.val (.list ds)))[j]? = some (Sl.own fs) → ρ[j]? = some (Sl.own fs) := fun j fs hj => by
        by_cases hij : i = j
        · subst hij
          rw [List.getElem?_set, if_pos rfl] at hj
          split at hj <;> cases hj
        · rw [List.getElem?_set_ne hij] at hj
          exact hj
      exact r.inj j k fs gs q (key j fs hj) (key k gs hk) sj sk
  · exact ⟨O, r, .refl, fun _ h => h⟩
/-- one more address is owned -/
theorem Rl.osn (r : Rl K A H0 O0 O σ H ρ) {p : Addr} {xs : List V} (hp : H p = none) (e : Same H H') (hx : H' p = some (.lst xs)) : Rl K A H0 O0 (Osn O p) σ H' ρ where
  len := r.len
  val := fun i d h => by
    obtain ⟨v, h1, h2⟩ := r.val i d h
    exact ⟨v, h1, (h2.more hp).same e⟩
  own := fun i ds h => by
    obtain ⟨q, xs, h1, h2, h3, h4, h5⟩ := r.own i ds h
    exact ⟨q, xs, h1, .inr h2, h3, e _ _ h4, (h5.more hp).same e⟩
  inj := r.inj
  owl := fun a h => by
    rcases h with rfl | h
    · exact ⟨xs, hx⟩
    · exact r.owl.same e a h
  frm := r.frm.trans e
  sub := fun a h => .inr (r.sub a h)
  old := r.old
end
end Sm
set_option maxRecDepth 10000000
namespace Sm
open PySem PySem.Spec PyProof.Rows L2 Evl
abbrev FE := List Sl → Option PyData
abbrev FT := List Sl → Option Bool
abbrev FA := List Sl → Option (List PyData)
abbrev FO := List Sl → Option (Option Int)
abbrev F1 := PyData → Option PyData
abbrev F2 := PyData → PyData → Option PyData
abbrev Fn := List PyData → Option PyData
section
variable (K : PySem.W.Frag) (A : Atm)
def SE (t : TE) (f : FE) : Prop := ∀ {H0 : Hp} {O0 O : Addr → Prop} {σ : L2.St} {H : Hp} {ρ : List Sl}, Rl K A H0 O0 O σ H ρ → ∀ d, f ρ = some d → ∀ Q : VK, (∀ v H', Same H H' → Fd K A O H' v d → Q v H') → t σ H Q
def ST (t : TT) (f : FT) : Prop := ∀ {H0 : Hp} {O0 O : Addr → Prop} {σ : L2.St} {H : Hp} {ρ : List Sl}, Rl K A H0 O0 O σ H ρ → ∀ b, f ρ = some b → ∀ Q : Bool → Hp → Prop, (∀ H', Same H H' → Q b H') → t σ H Q
def SA (t : TA) (f : FA) : Prop := ∀ {H0 : Hp} {O0 O : Addr → Prop} {σ : L2.St} {H : Hp} {ρ : List Sl}, Rl K A H0 O0 O σ H ρ → ∀ ds, f ρ = some ds → ∀ Q : List V → Hp → Prop, (∀ vs H', Same H H' → Fds K A O H' vs ds → Q vs H') → t σ H Q
def SL (t : TE) (f : FA) : Prop := ∀ {H0 : Hp} {O0 O : Addr → Prop} {σ : L2.St} {H : Hp} {ρ : List Sl}, Rl K A H0 O0 O σ H ρ → ∀ ds, f ρ = some ds → ∀ Q : VK, (∀ p xs H', H p = none → Same H H' → H' p = some (.lst xs) → Fds K A (Osn O p) H' xs ds → Q (.ref p) H') → t σ H Q
def SO (t : TO) (f : FO) : Prop := ∀ {H0 : Hp} {O0 O : Addr → Prop} {σ : L2.St} {H : Hp} {ρ : List Sl}, Rl K A H0 O0 O σ H ρ → ∀ o, f ρ = some o → ∀ Q : Option Int → Hp → Prop, (∀ H', Same H H' → Q o H') → t σ H Q
def RD (r : R2) (g : F2) : Prop := ∀ {O : Addr → Prop} {H : Hp} {x y : V} {a b : PyData}, Owl O H → Fd K A O H x a → Fd K A O H y b → ∀ c, g a b = some c → ∀ Q : VK, (∀ v H', Same H H' → Fd K A O H' v c → Q v H') → r x y H Q
def RDL (r : R2) (g : PyData → PyData → Option (List PyData)) : Prop := ∀ {O : Addr → Prop} {H : Hp} {x y : V} {a b : PyData}, Owl O H → Fd K A O H x a → Fd K A O H y b → ∀ ds, g a b = some ds → ∀ Q : VK, (∀ p xs H', H p = none → Same H H' → H' p = some (.lst xs) → Fds K A (Osn O p) H' xs ds → Q (.ref p) H') → r x y H Q
def RU1 (r : V → Hp → VK → Prop) (g : F1) : Prop := ∀ {O : Addr → Prop} {H : Hp} {x : V} {a : PyData}, Owl O H → Fd K A O H x a → ∀ c, g a = some c → ∀ Q : VK, (∀ v H', Same H H' → Fd K A O H' v c → Q v H') → r x H Q
def RDs (r : List V → Hp → VK → Prop) (g : Fn) : Prop := ∀ {O : Addr → Prop} {H : Hp} {xs : List V} {ds : List PyData}, Owl O H → Fds K A O H xs ds → ∀ c, g ds = some c → ∀ Q : VK, (∀ v H', Same H H' → Fd K A O H' v c → Q v H') → r xs H Q
def RDsL (r : List V → Hp → VK → Prop) (g : List PyData → Option (List PyData)) : Prop := ∀ {O : Addr → Prop} {H : Hp} {xs : List V} {ds : List PyData}, Owl O H → Fds K A O H xs ds → ∀ es, g ds = some es → ∀ Q : VK, (∀ p ys H', H p = none → Same H H' → H' p = some (.lst ys) → Fds K A (Osn O p) H' ys es → Q (.ref p) H') → r xs H Q
end
def fVar (i : Nat) : FE := fun ρ => match ρ[i]? with
  | some (.val d) => some d
  | _ => none
def fC (d : PyData) : FE := fun _ => some d
def fOp (g : F2) (fa fb : FE) : FE := fun ρ => (fa ρ).bind fun a => (fb ρ).bind fun b => g a b
def fOpL (g : PyData → PyData → Option (List PyData)) (fa fb : FE) : FA := fun ρ => (fa ρ).bind fun a => (fb ρ).bind fun b => g a b
def fUn (g : F1) (fa : FE) : FE := fun ρ => (fa ρ).bind g
def fNil : FA := fun _ => some []
def fCons (fe : FE) (fr : FA) : FA := fun ρ => (fe ρ).bind fun a => (fr ρ).bind fun r => some (a :: r)
def asB : PyData → Option Bool
  | .bool b => some b
  | _ => none
def fB (fe : FE) : FT := fun ρ => (fe ρ).bind asB
def fAnd (a b : FT) : FT := fun ρ => (a ρ).bind fun x => if x then b ρ else some false
def fOr (a b : FT) : FT := fun ρ => (a ρ).bind fun x => if x then some true else b ρ
def fNot (a : FT) : FT := fun ρ => (a ρ).bind fun x => some (!x)
def fAndV (a b : FE) : FE := fun ρ => (a ρ).bind fun x => (asB x).bind fun x => if x then b ρ else some (.bool false)
def fOrV (a b : FE) : FE := fun ρ => (a ρ).bind fun x => (asB x).bind fun x => if x then some (.bool true) else b ρ
def fNotV (a : FE) : FE := fun ρ => (a ρ).bind fun x => (asB x).bind fun x => some (.bool (!x))
def fIf (t : FT) (a b : FE) : FE := fun ρ => (t ρ).bind fun x => if x then a ρ else b ρ
def fChain (g g' : F2) (a b c : FE) : FE := fun ρ => (a ρ).bind fun x => (b ρ).bind fun y => (g x y).bind fun z => (asB z).bind fun z => if z then (c ρ).bind fun w => g' y w else some (.bool false)
def lim {α : Type} (n : Nat) (x : α) : Option α := if n ≤ 10000000 then some x else none
def fTup (fs : FA) : FE := fun ρ => (fs ρ).bind fun ds => lim ds.length (.tuple ds)
def fLst (fs : FA) : FA := fun ρ => (fs ρ).bind fun ds => lim ds.length ds
def fNoPart : FO := fun _ => some none
def fPart (fe : FE) : FO := fun ρ => (fe ρ).bind fun d => match d with
  | .int i => some (some i)
  | _ => none
def fSl (g : PyData → Option Int → Option Int → Option PyData) (fe : FE) (fl fh : FO) : FE := fun ρ => (fe ρ).bind fun d => (fl ρ).bind fun l => (fh ρ).bind fun h => g d l h
def fCall (fn : Fn) (fa : FA) : FE := fun ρ => (fa ρ).bind fn
def fCallL (fn : List PyData → Option (List PyData)) (fa : FA) : FA := fun ρ => (fa ρ).bind fn
theorem lim_some {α : Type} {n : Nat} {x y : α} (h : lim n x = some y) : n ≤ 10000000 ∧ x = y := by
  unfold lim at h
  split at h
  · rename_i hn
    exact ⟨hn, Option.some.inj h⟩
  · cases h
section
variable {K : PySem.W.Frag} {A : Atm} {ta tb tc te : TE} {fa fb fc fe : FE} {tt tu : TT} {ft fu : FT} {tas : TA} {fas : FA} {r r' : R2} {g g' : F2}
theorem bind_some' {α β : Type} {o : Option α} {f : α → Option β} {y : β} (h : o.bind f = some y) : ∃ x, o = some x ∧ f x = some y := Option.bind_eq_some_iff.mp h
theorem se_var (i : Nat) : SE K A (tVar i) (fVar i) := fun r d h Q q => by
  unfold fVar at h
  split at h
  · rename_i e hi
    cases h
    obtain ⟨v, h1, h2⟩ := r.val i d hi
    exact ⟨v, h1, q v _ (.refl _) h2⟩
  · cases h
theorem se_c {v : V} {d : PyData} (h : ∀ O H, Fd K A O H v d) : SE K A (tC v) (fC d) := fun r e he Q q => by
  cases he
  exact q v _ (.refl _) (h _ _)
theorem se_int {i : Int} : SE K A (tC (.int i)) (fC (.int i)) := se_c fun _ _ => .int i
theorem se_str {x : Str} : SE K A (tC (.str x)) (fC (.str x)) := se_c fun _ _ => .str x
theorem se_bl {b : Bool} : SE K A (tC (.bl b)) (fC (.bool b)) := se_c fun _ _ => .bl b
theorem se_non : SE K A (tC .non) (fC .none) := se_c fun _ _ => .non
theorem se_op (ha : SE K A ta fa) (hb : SE K A tb fb) (hr : RD K A r g) : SE K A (tOp r ta tb) (fOp g fa fb) := fun R d h Q q => by
  obtain ⟨a, h1, h⟩ := bind_some' h
  obtain ⟨b, h2, h⟩ := bind_some' h
  refine ha R a h1 _ fun x H1 e1 hx => hb (R.same e1) b h2 _ fun y H2 e2 hy => ?_
  exact hr (R.owl.same (e1.trans e2)) (hx.same e2) hy d h Q fun v H3 e3 hv => q v H3 ((e1.trans e2).trans e3) hv
theorem sl_op {r : R2} {g : PyData → PyData → Option (List PyData)} (ha : SE K A ta fa) (hb : SE K A tb fb) (hr : RDL K A r g) : SL K A (tOp r ta tb) (fOpL g fa fb) := fun R d h Q q => by
  obtain ⟨a, h1, h⟩ := bind_some' h
  obtain ⟨b, h2, h⟩ := bind_some' h
  refine ha R a h1 _ fun x H1 e1 hx => hb (R.same e1) b h2 _ fun y H2 e2 hy => ?_
  exact hr (R.owl.same (e1.trans e2)) (hx.same e2) hy d h Q fun p xs H3 hp e3 hq hv => q p xs H3 ((e1.trans e2).free hp) ((e1.trans e2).trans e3) hq hv
theorem se_un {r : V → Hp → VK → Prop} {g : F1} (ha : SE K A ta fa) (hr : RU1 K A r g) : SE K A (tUn r ta) (fUn g fa) := fun R d h Q q => by
  obtain ⟨a, h1, h⟩ := bind_some' h
  exact ha R a h1 _ fun x H1 e1 hx => hr (R.owl.same e1) hx d h Q fun v H2 e2 hv => q v H2 (e1.trans e2) hv
theorem sa_nil : SA K A tNil fNil := fun R ds h Q q => by
  cases h
  exact q [] _ (.refl _) .nil
theorem sa_cons (ha : SE K A ta fa) (hr : SA K A tas fas) : SA K A (tCons ta tas) (fCons fa fas) := fun R d h Q q => by
  obtain ⟨a, h1, h⟩ := bind_some' h
  obtain ⟨ds, h2, h⟩ := bind_some' h
  cases h
  exact ha R a h1 _ fun x H1 e1 hx => hr (R.same e1) ds h2 _ fun vs H2 e2 hvs => q _ H2 (e1.trans e2) (.cons (hx.same e2) hvs)
theorem st_B (h : SE K A te fe) : ST K A (tB te) (fB fe) := fun R b hb Q q => by
  obtain ⟨d, h1, h2⟩ := bind_some' hb
  cases d <;> try cases h2
  exact h R _ h1 _ fun v H1 e1 hv => ⟨b, hv.bl_inv, q H1 e1⟩
theorem st_test (h : SE K A te fe) : ST K A (tTest te) (fB fe) := fun R b hb Q q => by
  obtain ⟨d, h1, h2⟩ := bind_some' hb
  cases d <;> try cases h2
  exact h R _ h1 _ fun v H1 e1 hv => ⟨b, hv.bl_inv, q H1 e1⟩
theorem st_and (h : ST K A tt ft) (h' : ST K A tu fu) : ST K A (tAnd tt tu) (fAnd ft fu) := fun R b hb Q q => by
  obtain ⟨x, h1, h2⟩ := bind_some' hb
  refine h R x h1 _ fun H1 e1 => ?_
  cases x with
  | true => exact iteT (h' (R.same e1) b h2 Q fun H2 e2 => q H2 (e1.trans e2))
  | false =>
    cases h2
    exact iteF (q H1 e1)
theorem st_or (h : ST K A tt ft) (h' : ST K A tu fu) : ST K A (tOr tt tu) (fOr ft fu) := fun R b hb Q q => by
  obtain ⟨x, h1, h2⟩ := bind_some' hb
  refine h R x h1 _ fun H1 e1 => ?_
  cases x with
  | false => exact iteF (h' (R.same e1) b h2 Q fun H2 e2 => q H2 (e1.trans e2))
  | true =>
    cases h2
    exact iteT (q H1 e1)
theorem st_not (h : ST K A tt ft) : ST K A (tNot tt) (fNot ft) := fun R b hb Q q => by
  obtain ⟨x, h1, h2⟩ := bind_some' hb
  cases h2
  exact h R x h1 _ fun H1 e1 => q H1 e1
theorem st_yes : ST K A tYes (fun _ => some true) := fun R b hb Q q => by
  cases hb
  exact q _ (.refl _)
theorem asB_some {d : PyData} {b : Bool} (h : asB d = some b) : d = .bool b := by
  cases d <;> first | (cases h; rfl) | cases h
theorem se_and (ha : SE K A ta fa) (hb : SE K A tb fb) : SE K A (tAndV ta tb) (fAndV fa fb) := fun R d h Q q => by
  obtain ⟨x, h1, h⟩ := bind_some' h
  obtain ⟨c, h2, h⟩ := bind_some' h
  cases asB_some h2
  refine ha R _ h1 _ fun v H1 e1 hv => ⟨c, hv.bl_inv, ?_⟩
  cases c with
  | true => exact iteT (hb (R.same e1) d h Q fun v H2 e2 hv => q v H2 (e1.trans e2) hv)
  | false =>
    cases h
    exact iteF (q _ H1 e1 (.bl _))
theorem se_or (ha : SE K A ta fa) (hb : SE K A tb fb) : SE K A (tOrV ta tb) (fOrV fa fb) := fun R d h Q q => by
  obtain ⟨x, h1, h⟩ := bind_some' h
  obtain ⟨c, h2, h⟩ := bind_some' h
  cases asB_some h2
  refine ha R _ h1 _ fun v H1 e1 hv => ⟨c, hv.bl_inv, ?_⟩
  cases c with
  | false => exact iteF (hb (R.same e1) d h Q fun v H2 e2 hv => q v H2 (e1.trans e2) hv)
  | true =>
    cases h
    exact iteT (q _ H1 e1 (.bl _))
theorem se_one (h : SE K A te fe) : SE K A te fe := h
theorem se_not (ha : SE K A ta fa) : SE K A (tNotV ta) (fNotV fa) := fun R d h Q q => by
  obtain ⟨x, h1, h⟩ := bind_some' h
  obtain ⟨c, h2, h⟩ := bind_some' h
  cases asB_some h2
  cases h
  exact ha R _ h1 _ fun v H1 e1 hv => ⟨c, hv.bl_inv, q _ H1 e1 (.bl _)⟩
theorem se_if (ht : ST K A tt ft) (ha : SE K A ta fa) (hb : SE K A tb fb) : SE K A (tIf tt ta tb) (fIf ft fa fb) := fun R d h Q q => by
  obtain ⟨x, h1, h⟩ := bind_some' h
  refine ht R x h1 _ fun H1 e1 => ?_
  cases x with
  | true => exact iteT (ha (R.same e1) d h Q fun v H2 e2 hv => q v H2 (e1.trans e2) hv)
  | false => exact iteF (hb (R.same e1) d h Q fun v H2 e2 hv => q v H2 (e1.trans e2) hv)
theorem se_chain (ha : SE K A ta fa) (hb : SE K A tb fb) (hc : SE K A tc fc) (hr : RD K A r g) (hr' : RD K A r' g') : SE K A (tChain r r' ta tb tc) (fChain g g' fa fb fc) := fun R d h Q q => by
  obtain ⟨x, h1, h⟩ := bind_some' h
  obtain ⟨y, h2, h⟩ := bind_some' h
  obtain ⟨z, h3, h⟩ := bind_some' h
  obtain ⟨c, h4, h⟩ := bind_some' h
  cases asB_some h4
  refine ha R x h1 _ fun vx H1 e1 hx => hb (R.same e1) y h2 _ fun vy H2 e2 hy => hr (R.owl.same (e1.trans e2)) (hx.same e2) hy _ h3 _ fun vz H3 e3 hz => ⟨c, hz.bl_inv, ?_⟩
  have e13 := (e1.trans e2).trans e3
  cases c with
  | true =>
    refine iteT ?_
    have h : ((fc _).bind fun w => g' y w) = some d := h
    obtain ⟨w, h5, h⟩ := bind_some' h
    exact hc (R.same e13) w h5 _ fun vw H4 e4 hw => hr' (R.owl.same (e13.trans e4)) (hy.same (e3.trans e4)) hw d h Q fun v H5 e5 hv => q v H5 ((e13.trans e4).trans e5) hv
  | false =>
    cases h
    exact iteF (q _ H3 e13 (.bl _))
theorem sz100 {n : Nat} (h : n ≤ 10000000) : n ≤ sizeLine := Nat.le_trans h (by decide)
theorem se_tup (h : SA K A tas fas) : SE K A (tTup tas) (fTup fas) := fun R d hd Q q => by
  obtain ⟨ds, h1, h2⟩ := bind_some' hd
  obtain ⟨h3, rfl⟩ := lim_some h2
  exact h R ds h1 _ fun vs H1 e1 hvs => ⟨sz100 (by rw [hvs.1]; exact h3), fun p hp => q _ _ (e1.trans (Cr.same_new hp)) ((hvs.same (Cr.same_new hp)).tup (.of upd_same))⟩
theorem sl_lst (h : SA K A tas fas) : SL K A (tLst tas) (fLst fas) := fun R d hd Q q => by
  obtain ⟨ds, h1, h2⟩ := bind_some' hd
  obtain ⟨h3, rfl⟩ := lim_some h2
  exact h R ds h1 _ fun vs H1 e1 hvs => ⟨sz100 (by rw [hvs.1]; exact h3), fun p hp => q p vs _ (e1.free hp) (e1.trans (Cr.same_new hp)) upd_same ((hvs.more hp).same (Cr.same_new hp))⟩
/-- a new list as a value -/
def fV (f : FA) : FE := fun ρ => (f ρ).bind fun ds => some (.list ds)
theorem se_l (h : SL K A te fas) : SE K A te (fV fas) := fun R d hd Q q => by
  obtain ⟨ds, h1, h2⟩ := bind_some' hd
  cases h2
  exact h R ds h1 _ fun p xs H1 hp e1 hx hxs => q _ H1 e1 ((hxs.less fun a h => .inr h).lst hx (R.owl.none hp))
theorem so_none : SO K A tNoPart fNoPart := fun R o h Q q => by
  cases h
  exact q _ (.refl _)
theorem so_some (h : SE K A te fe) : SO K A (tPart te) (fPart fe) := fun R o ho Q q => by
  obtain ⟨d, h1, h2⟩ := bind_some' ho
  cases d <;> try cases h2
  exact h R _ h1 _ fun v H1 e1 hv => ⟨_, hv.int_inv, q H1 e1⟩
def RS (K : PySem.W.Frag) (A : Atm) (r : V → Option Int → Option Int → Hp → VK → Prop) (g : PyData → Option Int → Option Int → Option PyData) : Prop := ∀ {O : Addr → Prop} {H : Hp} {x : V} {a : PyData}, Owl O H → Fd K A O H x a → ∀ lo hi c, g a lo hi = some c → ∀ Q : VK, (∀ v H', Same H H' → Fd K A O H' v c → Q v H') → r x lo hi H Q
theorem se_sl {r : V → Option Int → Option Int → Hp → VK → Prop} {g : PyData → Option Int → Option Int → Option PyData} {tl th : TO} {fl fh : FO} (h : SE K A te fe) (hl : SO K A tl fl) (hh : SO K A th fh) (hr : RS K A r g) : SE K A (tSl r te tl th) (fSl g fe fl fh) := fun R d hd Q q => by
  obtain ⟨a, h1, hd⟩ := bind_some' hd
  obtain ⟨l, h2, hd⟩ := bind_some' hd
  obtain ⟨u, h3, hd⟩ := bind_some' hd
  exact h R a h1 _ fun x H1 e1 hx => hl (R.same e1) l h2 _ fun H2 e2 => hh (R.same (e1.trans e2)) u h3 _ fun H3 e3 =>
    hr (R.owl.same ((e1.trans e2).trans e3)) (hx.same (e2.trans e3)) l u d hd Q fun v H4 e4 hv => q v H4 (((e1.trans e2).trans e3).trans e4) hv
/-- a built-in's call -/
theorem se_cb {r : List V → Hp → VK → Prop} {gn : Fn} (h : SA K A tas fas) (hr : RDs K A r gn) : SE K A (tCB r tas) (fCall gn fas) := fun R d hd Q q => by
  obtain ⟨ds, h1, h2⟩ := bind_some' hd
  exact h R ds h1 _ fun vs H1 e1 hvs => hr (R.owl.same e1) hvs d h2 Q fun v H2 e2 hv => q v H2 (e1.trans e2) hv
theorem sl_cb {r : List V → Hp → VK → Prop} {gn : List PyData → Option (List PyData)} (h : SA K A tas fas) (hr : RDsL K A r gn) : SL K A (tCB r tas) (fCallL gn fas) := fun R d hd Q q => by
  obtain ⟨ds, h1, h2⟩ := bind_some' hd
  exact h R ds h1 _ fun vs H1 e1 hvs => hr (R.owl.same e1) hvs d h2 Q fun p xs H2 hp e2 hx hv => q p xs H2 (e1.free hp) (e1.trans e2) hx hv
/-- the promise of a def that follows a function of data -/
def spF (K : PySem.W.Frag) (A : Atm) (fn : Fn) : Sp := fun vs H Q _ => ∃ (O : Addr → Prop) (ds : List PyData) (r : PyData), Owl O H ∧ Fds K A O H vs ds ∧ fn ds = some r ∧ ∀ v H', Same H H' → Fd K A O H' v r → Q v H'
theorem se_call {E : XK} {fn : Fn} (h : SA K A tas fas) : SE K A (tCall (spF K A fn) [] E tas) (fCall fn fas) := fun {H0 O0 O σ H ρ} R d hd Q q => by
  obtain ⟨ds, h1, h2⟩ := bind_some' hd
  exact h R ds h1 _ fun vs H1 e1 hvs => ⟨O, ds, d, R.owl.same e1, by rw [List.append_nil]; exact hvs, h2, fun v H2 e2 hv => q v H2 (e1.trans e2) hv⟩
end
end Sm
set_option maxRecDepth 10000000
namespace Sm
open PySem PySem.Spec PyProof.Rows L2 Evl
/-! ### statements -/
inductive Fl where
  | nx | bk | ct | rt (d : PyData)
abbrev FS := List Sl → Option (Fl × List Sl)
def Post (K : PySem.W.Frag) (A : Atm) (H0 : Hp) (O0 O : Addr → Prop) (H : Hp) (D : Ends) (o : Fl × List Sl) : Prop := match o.1 with
  | .nx => ∀ σ' H' O', Rl K A H0 O0 O' σ' H' o.2 → Evo O H O' H' → D.nx σ' H'
  | .bk => ∀ σ' H' O', Rl K A H0 O0 O' σ' H' o.2 → Evo O H O' H' → D.bk σ' H'
  | .ct => ∀ σ' H' O', Rl K A H0 O0 O' σ' H' o.2 → Evo O H O' H' → D.ct σ' H'
  | .rt d => ∀ v H', Same H0 H' → Fd K A O0 H' v d → D.rt v H'
def SS (K : PySem.W.Frag) (A : Atm) (t : TS) (f : FS) : Prop := ∀ {H0 : Hp} {O0 O : Addr → Prop} {σ : L2.St} {H : Hp} {ρ : List Sl}, Rl K A H0 O0 O σ H ρ → ∀ o, f ρ = some o → ∀ D : Ends, Post K A H0 O0 O H D o → t D σ H
def SG (K : PySem.W.Frag) (A : Atm) (g : TG) (f : PyData → List Sl → Option (List Sl)) (ws : List Nat) : Prop := ∀ {H0 : Hp} {O0 O : Addr → Prop} {σ : L2.St} {H : Hp} {ρ : List Sl} {v : V} {d : PyData}, Rl K A H0 O0 O σ H ρ → Fd K A O H v d → ∀ ρ', f d ρ = some ρ' → ∀ Q : L2.St → Hp → Prop, (∀ σ', Rl K A H0 O0 O σ' H ρ' → σ'.length = σ.length → (∀ i, i ∉ ws → σ'[i]? = σ[i]?) → (∀ (i : Nat) (es : List PyData), ρ'[i]? = some (Sl.own es) → ρ[i]? = some (Sl.own es) ∧ i ∉ ws) → Q σ' H) → g v σ H Q
def SGs (K : PySem.W.Frag) (A : Atm) (g : TGs) (f : List PyData → List Sl → Option (List Sl)) (ws : List Nat) : Prop := ∀ {H0 : Hp} {O0 O : Addr → Prop} {σ : L2.St} {H : Hp} {ρ : List Sl} {vs : List V} {ds : List PyData}, Rl K A H0 O0 O σ H ρ → Fds K A O H vs ds → ∀ ρ', f ds ρ = some ρ' → ∀ Q : L2.St → Hp → Prop, (∀ σ', Rl K A H0 O0 O σ' H ρ' → σ'.length = σ.length → (∀ i, i ∉ ws → σ'[i]? = σ[i]?) → (∀ (i : Nat) (es : List PyData), ρ'[i]? = some (Sl.own es) → ρ[i]? = some (Sl.own es) ∧ i ∉ ws) → Q σ' H) → g vs σ H Q
def gS (i : Nat) : PyData → List Sl → Option (List Sl) := fun d ρ => some (ρ.set i (.val d))
def gT (n : Nat) (f : List PyData → List Sl → Option (List Sl)) : PyData → List Sl → Option (List Sl) := fun d ρ => match d with
  | .tuple ds => if ds.length = n then f ds ρ else none
  | _ => none
def gN : List PyData → List Sl → Option (List Sl) := fun ds ρ => match ds with
  | [] => some ρ
  | _ => none
def gC (f : PyData → List Sl → Option (List Sl)) (g : List PyData → List Sl → Option (List Sl)) : List PyData → List Sl → Option (List Sl) := fun ds ρ => match ds with
  | d :: ds => (f d ρ).bind fun ρ1 => g ds ρ1
  | [] => none
def fNext : FS := fun ρ => some (.nx, ρ)
def fThen (o : Option (Fl × List Sl)) (g : FS) : Option (Fl × List Sl) := match o with
  | some (.nx, ρ') => g ρ'
  | o => o
def fSeq (f g : FS) : FS := fun ρ => fThen (f ρ) g
def fRet (fe : FE) : FS := fun ρ => (fe ρ).bind fun d => some (.rt d, ρ)
def fIfS (t : FT) (f g : FS) : FS := fun ρ => (t ρ).bind fun b => if b then f ρ else g ρ
def fAsg (fe : FE) (g : PyData → List Sl → Option (List Sl)) : FS := fun ρ => (fe ρ).bind fun d => (g d ρ).bind fun ρ' => some (.nx, ρ')
def fOwn (i : Nat) (fa : FA) : FS := fun ρ => (fa ρ).bind fun ds => some (.nx, ρ.set i (.own ds))
def fApp (i : Nat) (fe : FE) : FS := fun ρ => match ρ[i]? with
  | some (.own ds) => (fe ρ).bind fun d => (lim (ds.length + 1) (ds ++ [d])).bind fun es => some (.nx, ρ.set i (.own es))
  | _ => none
def fExt (i : Nat) (fe : FE) : FS := fun ρ => match ρ[i]? with
  | some (.own ds) => (fe ρ).bind fun d => match d with
    | .list zs => (lim (ds.length + zs.length) (ds ++ zs)).bind fun es => some (.nx, ρ.set i (.own es))
    | _ => none
  | _ => none
def fBrk : FS := fun ρ => some (.bk, ρ)
def fCnt : FS := fun ρ => some (.ct, ρ)
def fDrop (fe : FE) : FS := fun ρ => (fe ρ).bind fun _ => some (.nx, ρ)
def fFrz (i : Nat) (f : FS) : FS := fun ρ => f (frz i ρ)
/-- one turn and the rest -/
def fTurn (o : Option (Fl × List Sl)) (g : List Sl → Option (Fl × List Sl)) : Option (Fl × List Sl) := match o with
  | some (.nx, ρ) => g ρ
  | some (.ct, ρ) => g ρ
  | some (.bk, ρ) => some (.nx, ρ)
  | some (.rt d, ρ) => some (.rt d, ρ)
  | none => none
def fLoop (g : PyData → List Sl → Option (List Sl)) (b : FS) : List PyData → List Sl → Option (Fl × List Sl)
  | [], ρ => some (.nx, ρ)
  | d :: ds, ρ => (g d ρ).bind fun ρ1 => fTurn (b ρ1) (fLoop g b ds)
def fFor (fi : FA) (g : PyData → List Sl → Option (List Sl)) (b : FS) : FS := fun ρ => (fi ρ).bind fun ds => fLoop g b ds ρ
def fWhile (t : FT) (b : FS) : Nat → List Sl → Option (Fl × List Sl)
  | 0, _ => none
  | n + 1, ρ => (t ρ).bind fun x => if x then fTurn (b ρ) (fWhile t b n) else some (.nx, ρ)
section
variable {K : PySem.W.Frag} {A : Atm} {H0 : Hp} {O0 O O' : Addr → Prop} {H H' : Hp} {te : TE} {fe : FE} {tt : TT} {ft : FT} {fas : FA} {t u : TS} {f g : FS} {D D' : Ends} {o : Fl × List Sl}
theorem Post.evo (e : Evo O H O' H') (p : Post K A H0 O0 O H D o) : Post K A H0 O0 O' H' D o := by
  obtain ⟨fl, ρ⟩ := o
  cases fl with
  | nx => exact fun σ' H'' O'' r ev => p σ' H'' O'' r (e.trans ev)
  | bk => exact fun σ' H'' O'' r ev => p σ' H'' O'' r (e.trans ev)
  | ct => exact fun σ' H'' O'' r ev => p σ' H'' O'' r (e.trans ev)
  | rt d => exact p
theorem ss_next : SS K A tNext fNext := fun r o h D p => by
  cases h
  exact p _ _ _ r .refl
theorem ss_seq (h1 : SS K A t f) (h2 : SS K A u g) : SS K A (tSeq t u) (fSeq f g) := fun {H0 O0 O σ H ρ} r o h D p => by
  have h : fThen (f ρ) g = some o := h
  cases e : f ρ with
  | none => rw [e] at h; cases h
  | some o1 =>
    rw [e] at h
    obtain ⟨fl, ρ1⟩ := o1
    cases fl with
    | nx => exact h1 r _ e _ fun σ' H' O' r' ev => h2 r' o h D (p.evo ev)
    | bk => cases h; exact h1 r _ e _ p
    | ct => cases h; exact h1 r _ e _ p
    | rt d => cases h; exact h1 r _ e _ p
theorem ss_ret (h : SE K A te fe) : SS K A (tRet te) (fRet fe) := fun r o ho D p => by
  obtain ⟨d, h1, h2⟩ := bind_some' ho
  cases h2
  exact h r d h1 _ fun v H' e hv => p v H' (r.frm.trans e) (hv.less r.sub)
theorem ss_if (ht : ST K A tt ft) (h1 : SS K A t f) (h2 : SS K A u g) : SS K A (tIfS tt t u) (fIfS ft f g) := fun {H0 O0 O σ H ρ} r o ho D p => by
  obtain ⟨b, hb, h⟩ := bind_some' ho
  refine ht r b hb _ fun H1 e1 => ?_
  cases b with
  | true => exact iteT (h1 (r.same e1) o (by simpa using h) D (p.evo (.same e1)))
  | false => exact iteF (h2 (r.same e1) o (by simpa using h) D (p.evo (.same e1)))
theorem ss_asg {tg : TG} {gg : PyData → List Sl → Option (List Sl)} {ws : List Nat} (h : SE K A te fe) (hg : SG K A tg gg ws) : SS K A (tAsg te tg) (fAsg fe gg) := fun r o ho D p => by
  obtain ⟨d, h1, h2⟩ := bind_some' ho
  obtain ⟨ρ', h3, h4⟩ := bind_some' h2
  cases h4
  exact h r d h1 _ fun v H1 e1 hv => hg (r.same e1) hv ρ' h3 _ fun σ' r' _ _ _ => p σ' H1 _ r' (.same e1)
theorem ss_own {i : Nat} (h : SL K A te fas) : SS K A (tAsg te (gName i)) (fOwn i fas) := fun {H0 O0 O σ H ρ} r o ho D p => by
  obtain ⟨ds, h1, h2⟩ := bind_some' ho
  cases h2
  refine h r ds h1 _ fun q xs H1 hq e1 hx hxs => ?_
  have p' : ∀ σ' H' O', Rl K A H0 O0 O' σ' H' (ρ.set i (.own ds)) → Evo O H O' H' → D.nx σ' H' := p
  refine p' (σ.set i (some (.ref q))) H1 (Osn O q) (r.setOwn i hq e1 hx hxs) fun a o ha hn => ⟨e1 _ _ ha, fun h => ?_⟩
  rcases h with h | h
  · rw [h, hq] at ha
    cases ha
  · exact hn h
theorem ss_app {i : Nat} (h : SE K A te fe) : SS K A (tDrop (tBM K "list" rAppend (tVar i) (tCons te tNil))) (fApp i fe) := fun {H0 O0 O σ H ρ} r o ho D p => by
  have ho : (match ρ[i]? with
    | some (.own ds) => (fe ρ).bind fun d => (lim (ds.length + 1) (ds ++ [d])).bind fun es => some (.nx, ρ.set i (.own es))
    | _ => none) = some o := ho
  split at ho
  · rename_i ds hi
    obtain ⟨d, h1, h2⟩ := bind_some' ho
    obtain ⟨es, h3, h4⟩ := bind_some' h2
    cases h4
    obtain ⟨h5, rfl⟩ := lim_some h3
    obtain ⟨q, xs, s1, s2, s3, s4, s5⟩ := r.own i ds hi
    refine ⟨_, s1, .inl ⟨rfl, xs, sq_of s4⟩, h r d h1 _ fun v H1 e1 hv => ?_⟩
    have hx : H1 q = some (.lst xs) := e1 _ _ s4
    refine ⟨q, xs, v, rfl, rfl, hx, Nat.lt_of_lt_of_le (Nat.lt_succ_self _) (sz100 (by rw [s5.1]; exact h5)), ?_⟩
    obtain ⟨r', ev⟩ := (r.same e1).grow hi s1 hx ((s5.same e1).snoc hv)
    exact p σ _ O r' ((Evo.same e1).trans ev)
  · cases ho
theorem ss_ext {i : Nat} (h : SE K A te fe) : SS K A (tDrop (tBM K "list" rExtend (tVar i) (tCons te tNil))) (fExt i fe) := fun {H0 O0 O σ H ρ} r o ho D p => by
  have ho : (match ρ[i]? with
    | some (.own ds) => (fe ρ).bind fun d => match d with
      | .list zs => (lim (ds.length + zs.length) (ds ++ zs)).bind fun es => some (.nx, ρ.set i (.own es))
      | _ => none
    | _ => none) = some o := ho
  split at ho
  · rename_i ds hi
    obtain ⟨d, h1, h2⟩ := bind_some' ho
    cases d <;> try cases h2
    rename_i zs
    obtain ⟨es, h3, h4⟩ := bind_some' h2
    cases h4
    obtain ⟨h5, rfl⟩ := lim_some h3
    obtain ⟨q, xs, s1, s2, s3, s4, s5⟩ := r.own i ds hi
    refine ⟨_, s1, .inl ⟨rfl, xs, sq_of s4⟩, h r _ h1 _ fun v H1 e1 hv => ?_⟩
    obtain ⟨b, ys, rfl, hb, hnb, hys⟩ := hv.lst_inv
    have hx : H1 q = some (.lst xs) := e1 _ _ s4
    refine ⟨q, b, xs, ys, rfl, rfl, hx, hb, sz100 (by rw [s5.1, hys.1]; exact h5), ?_⟩
    obtain ⟨r', ev⟩ := (r.same e1).grow hi s1 hx ((s5.same e1).app hys)
    exact p σ _ O r' ((Evo.same e1).trans ev)
  · cases ho
theorem ss_brk : SS K A tBreak fBrk := fun r o h D p => by
  cases h
  exact p _ _ _ r .refl
theorem ss_cnt : SS K A tCont fCnt := fun r o h D p => by
  cases h
  exact p _ _ _ r .refl
theorem ss_drop (h : SE K A te fe) : SS K A (tDrop te) (fDrop fe) := fun r o ho D p => by
  obtain ⟨d, h1, h2⟩ := bind_some' ho
  cases h2
  exact h r d h1 _ fun v H1 e1 _ => p _ H1 _ (r.same e1) (.same e1)
theorem ss_never : SS K A tNever (fun _ => none) := fun r o h => nomatch h
theorem ss_frz (i : Nat) (h : SS K A t f) : SS K A t (fFrz i f) := fun r o ho D p => by
  obtain ⟨O', r', ev, _⟩ := r.frz i
  exact h r' o ho D (p.evo ev)
theorem sg_name (i : Nat) : SG K A (gName i) (gS i) [i] := fun {H0 O0 O σ H ρ v d} r hv ρ' h Q q => by
  cases h
  refine q (σ.set i (some v)) (r.set i hv) (List.length_set ..) (fun j hj => ?_) fun j es hj => ?_
  · rw [List.getElem?_set_ne]
    intro e
    exact hj (by simp [e])
  · have hij : i ≠ j := fun e => by
      subst e
      rw [List.getElem?_set, if_pos rfl] at hj
      split at hj <;> cases hj
    rw [List.getElem?_set_ne hij] at hj
    exact ⟨hj, by simpa using fun e => hij e.symm⟩
theorem sgs_nil : SGs K A gNil gN [] := fun {H0 O0 O σ H ρ vs ds} r hv ρ' h Q q => by
  unfold gN at h
  split at h
  · cases h
    exact ⟨hv.nil_inv, q σ r rfl (fun _ _ => rfl) fun _ _ h => ⟨h, by simp⟩⟩
  · cases h
theorem sgs_cons {g1 : TG} {f1 : PyData → List Sl → Option (List Sl)} {gs : TGs} {fs : List PyData → List Sl → Option (List Sl)} {w1 ws : List Nat} (h1 : SG K A g1 f1 w1) (h2 : SGs K A gs fs ws) : SGs K A (gCons g1 gs) (gC f1 fs) (w1 ++ ws) := fun {H0 O0 O σ H ρ vs ds} r hv ρ' h Q q => by
  unfold gC at h
  split at h
  · rename_i d ds
    obtain ⟨ρ1, h3, h4⟩ := bind_some' h
    obtain ⟨v, ws', rfl, hv1, hvs⟩ := hv.head
    exact ⟨v, ws', rfl, h1 r hv1 ρ1 h3 _ fun σ1 r1 l1 k1 o1 => h2 r1 hvs ρ' h4 _ fun σ2 r2 l2 k2 o2 => q σ2 r2 (l2.trans l1) (fun i hi => (k2 i fun h => hi (List.mem_append.mpr (.inr h))).trans (k1 i fun h => hi (List.mem_append.mpr (.inl h)))) fun i es h => by
      obtain ⟨a1, a2⟩ := o2 i es h
      obtain ⟨b1, b2⟩ := o1 i es a1
      exact ⟨b1, fun h => (List.mem_append.mp h).elim b2 a2⟩⟩
  · cases h
theorem sg_tup {gs : TGs} {fs : List PyData → List Sl → Option (List Sl)} {ws : List Nat} (n : Nat) (h : SGs K A gs fs ws) : SG K A (gTup K n gs) (gT n fs) ws := fun {H0 O0 O σ H ρ v d} r hv ρ' hρ Q q => by
  unfold gT at hρ
  split at hρ
  · rename_i ds
    split at hρ
    · rename_i hl
      obtain ⟨a, xs, rfl, hs, hxs⟩ := hv.tup_inv
      exact ⟨a, xs, rfl, hs, by rw [hxs.1, hl], h r hxs ρ' hρ Q q⟩
    · cases hρ
  · cases hρ
/-! ### what is walked -/
def Wk (K : PySem.W.Frag) (A : Atm) (O : Addr → Prop) (H : Hp) (J : It) (ds : List PyData) : Prop := ∃ (G : Hp → Prop) (Y : Nat → Hp → V → Hp → Prop), Walk J ds.length G Y ∧ ∀ O' H', Owl O' H' → Evo O H O' H' → G H' ∧ ∀ i x H2, i < ds.length → Y i H' x H2 → Same H' H2 ∧ ∃ d, ds[i]? = some d ∧ Fd K A O' H2 x d
def SI (K : PySem.W.Frag) (A : Atm) (wi : TI) (f : FA) : Prop := ∀ {H0 : Hp} {O0 O : Addr → Prop} {σ : L2.St} {H : Hp} {ρ : List Sl}, Rl K A H0 O0 O σ H ρ → ∀ ds, f ρ = some ds → ∀ R : It → Hp → Prop, (∀ J H', Same H H' → Wk K A O H' J ds → R J H') → wi σ H R
theorem ss_for {wi : TI} {fi : FA} {tg : TG} {gg : PyData → List Sl → Option (List Sl)} {ws : List Nat} {tb : TS} {fb : FS} (hi : SI K A wi fi) (hg : SG K A tg gg ws) (hb : SS K A tb fb) : SS K A (tFor wi tg tb) (fFor fi gg fb) := fun {H0 O0 O σ H ρ} r o ho D p => by
  obtain ⟨ds, h1, h2⟩ := bind_some' ho
  refine hi r ds h1 _ fun J H1 e1 wk => ?_
  obtain ⟨G, Y, w, hw⟩ := wk
  refine for_it w (D := D) (fun i σ' H' => ∃ O' ρ', Rl K A H0 O0 O' σ' H' ρ' ∧ Evo O H1 O' H' ∧ fLoop gg fb (ds.drop i) ρ' = some o) ⟨O, ρ, r.same e1, .refl, h2⟩ (fun i σ' H' _ hP => ?_) (fun i x σ' H' H2 hi hP hy => ?_) (fun σ' H' hP => ?_)
  · obtain ⟨O', ρ', r', ev, _⟩ := hP
    exact (hw O' H' r'.owl ev).1
  · obtain ⟨O', ρ', r', ev, hl⟩ := hP
    obtain ⟨e2, d, hd, hx⟩ := (hw O' H' r'.owl ev).2 i x H2 hi hy
    have hdr : ds.drop i = d :: ds.drop (i + 1) := by
      obtain ⟨hlt, rfl⟩ := List.getElem?_eq_some_iff.mp hd
      exact List.drop_eq_getElem_cons hlt
    rw [hdr] at hl
    obtain ⟨ρ1, h3, h4⟩ := bind_some' hl
    refine hg (r'.same e2) hx ρ1 h3 _ fun σ2 r2 _ _ _ => ?_
    cases e : fb ρ1 with
    | none => rw [e] at h4; cases h4
    | some o1 =>
      rw [e] at h4
      obtain ⟨fl, ρ2⟩ := o1
      have ev2 : Evo O H1 O' H2 := ev.trans (.same e2)
      cases fl with
      | nx => exact hb r2 _ e _ fun σ3 H3 O3 r3 ev3 => ⟨O3, ρ2, r3, ev2.trans ev3, h4⟩
      | ct => exact hb r2 _ e _ fun σ3 H3 O3 r3 ev3 => ⟨O3, ρ2, r3, ev2.trans ev3, h4⟩
      | bk =>
        cases h4
        exact hb r2 _ e _ fun σ3 H3 O3 r3 ev3 => p σ3 H3 O3 r3 ((Evo.same e1).trans (ev2.trans ev3))
      | rt d' =>
        cases h4
        exact hb r2 _ e _ p
  · obtain ⟨O', ρ', r', ev, hl⟩ := hP
    rw [List.drop_length] at hl
    cases hl
    exact p σ' H' O' r' ((Evo.same e1).trans ev)
theorem ss_while {tb : TS} {fb : FS} (n : Nat) (ht : ST K A tt ft) (hb : SS K A tb fb) : SS K A (tWhile tt tb) (fun ρ => fWhile ft fb n ρ) := fun {H0 O0 O σ H ρ} r o ho D p => by
  refine ⟨fun m σ' H' => ∃ O' ρ', Rl K A H0 O0 O' σ' H' ρ' ∧ Evo O H O' H' ∧ fWhile ft fb m ρ' = some o, ⟨n, O, ρ, r, .refl, ho⟩, fun m σ' H' hP => ?_⟩
  obtain ⟨O', ρ', r', ev, hl⟩ := hP
  cases m with
  | zero => cases hl
  | succ m =>
    have hl : ((ft ρ').bind fun x => if x then fTurn (fb ρ') (fWhile ft fb m) else some (.nx, ρ')) = some o := hl
    obtain ⟨b, hb1, h4⟩ := bind_some' hl
    refine ht r' b hb1 _ fun H1 e1 => ?_
    cases b with
    | false =>
      cases h4
      exact iteF (p σ' H1 O' (r'.same e1) (ev.trans (.same e1)))
    | true =>
      refine iteT ?_
      have h4 : fTurn (fb ρ') (fWhile ft fb m) = some o := h4
      refine ⟨fun σ2 H2 => ∃ O2 ρ2, Rl K A H0 O0 O2 σ2 H2 ρ2 ∧ Evo O H O2 H2 ∧ fWhile ft fb m ρ2 = some o, fun σ2 H2 hN => ⟨m, Nat.lt_succ_self _, hN⟩, ?_⟩
      cases e : fb ρ' with
      | none => rw [e] at h4; cases h4
      | some o1 =>
        rw [e] at h4
        obtain ⟨fl, ρ2⟩ := o1
        have ev2 : Evo O H O' H1 := ev.trans (.same e1)
        cases fl with
        | nx => exact hb (r'.same e1) _ e _ fun σ3 H3 O3 r3 ev3 => ⟨O3, ρ2, r3, ev2.trans ev3, h4⟩
        | ct => exact hb (r'.same e1) _ e _ fun σ3 H3 O3 r3 ev3 => ⟨O3, ρ2, r3, ev2.trans ev3, h4⟩
        | bk =>
          cases h4
          exact hb (r'.same e1) _ e _ fun σ3 H3 O3 r3 ev3 => p σ3 H3 O3 r3 (ev2.trans ev3)
        | rt d' =>
          cases h4
          exact hb (r'.same e1) _ e _ p
end
/-! ### comprehensions -/
def wpS (ρ : List Sl) : List Nat → List Sl
  | [] => ρ
  | v :: vs => (wpS ρ vs).set v .un
def compM (step : PyData → Option (Option PyData)) : List PyData → Option (List PyData)
  | [] => some []
  | d :: ds => (step d).bind fun o => (compM step ds).bind fun r => some (match o with
    | some y => y :: r
    | none => r)
def cStep (g : PyData → List Sl → Option (List Sl)) (t : FT) (e : FE) (ρ : List Sl) : PyData → Option (Option PyData) := fun d => (g d ρ).bind fun ρ1 => (t ρ1).bind fun b => if b then (e ρ1).bind fun y => some (some y) else some none
def fComp (fi : FA) (g : PyData → List Sl → Option (List Sl)) (t : FT) (e : FE) (vs : List Nat) : FA := fun ρ => (fi ρ).bind fun ds => (compM (cStep g t e (wpS ρ vs)) ds).bind fun r => lim r.length r
theorem wipe_ext {σ σ' : L2.St} : ∀ {vs : List Nat}, σ'.length = σ.length → (∀ i, i ∉ vs → σ'[i]? = σ[i]?) → wipe σ' vs = wipe σ vs
  | [], _, h => List.ext_getElem? fun i => h i (by simp)
  | v :: vs, hl, h => by
    have key : ∀ (τ : L2.St) (us : List Nat) (i : Nat), (wipe τ us)[i]? = if i ∈ us then (if i < τ.length then some none else none) else τ[i]? := by
      intro τ us i
      induction us with
      | nil => simp [wipe]
      | cons u us ih =>
        unfold wipe
        rw [List.getElem?_set, wipe_length]
        by_cases hu : u = i
        · subst hu
          simp
        · rw [if_neg hu, ih]
          have : (i ∈ u :: us) ↔ i ∈ us := by
            rw [List.mem_cons]
            exact ⟨fun h => h.resolve_left fun e => hu e.symm, .inr⟩
          simp only [this]
    refine List.ext_getElem? fun i => ?_
    rw [key, key, hl]
    split
    · rfl
    · rename_i hi
      exact h i hi
theorem wipe_wipe (σ : L2.St) (vs : List Nat) : wipe (wipe σ vs) vs = wipe σ vs := wipe_ext (wipe_length σ vs) fun i hi => by
  have key : ∀ (us : List Nat), i ∉ us → (wipe σ us)[i]? = σ[i]? := by
    intro us
    induction us with
    | nil => intro _; rfl
    | cons u us ih =>
      intro hi
      unfold wipe
      rw [List.getElem?_set_ne (fun e => hi (by simp [e])), ih fun h => hi (List.mem_cons_of_mem _ h)]
  exact key vs hi
section
variable {K : PySem.W.Frag} {A : Atm} {H0 : Hp} {O0 O O' : Addr → Prop} {σ : L2.St} {ρ : List Sl} {H H' : Hp} {te : TE} {fe : FE} {tt : TT} {ft : FT}
theorem Rl.un (r : Rl K A H0 O0 O σ H ρ) (i : Nat) : Rl K A H0 O0 O (σ.set i none) H (ρ.set i .un) where
  len := by rw [List.length_set, List.length_set, r.len]
  val := fun j e hj => by
    rw [List.getElem?_set] at hj ⊢
    by_cases hi : i = j
    · subst hi
      rw [if_pos rfl] at hj
      split at hj <;> cases hj
    · rw [if_neg hi] at hj ⊢
      exact r.val j e hj
  own := fun j es hj => by
    rw [List.getElem?_set] at hj ⊢
    by_cases hi : i = j
    · subst hi
      rw [if_pos rfl] at hj
      split at hj <;> cases hj
    · rw [if_neg hi] at hj ⊢
      exact r.own j es hj
  inj := fun j k ds es p hj hk sj sk => by
    have hij : i ≠ j := fun e => by
      subst e
      rw [List.getElem?_set, if_pos rfl] at hj
      split at hj <;> cases hj
    have hik : i ≠ k := fun e => by
      subst e
      rw [List.getElem?_set, if_pos rfl] at hk
      split at hk <;> cases hk
    rw [List.getElem?_set_ne hij] at hj sj
    rw [List.getElem?_set_ne hik] at hk sk
    exact r.inj j k ds es p hj hk sj sk
  owl := r.owl
  frm := r.frm
  sub := r.sub
  old := r.old
theorem wpS_own {i : Nat} {es : List PyData} : ∀ {vs : List Nat}, (wpS ρ vs)[i]? = some (Sl.own es) → ρ[i]? = some (Sl.own es)
  | [], h => h
  | v :: vs, h => by
    have h : ((wpS ρ vs).set v Sl.un)[i]? = some (Sl.own es) := h
    have hvi : v ≠ i := fun e => by
      subst e
      rw [List.getElem?_set, if_pos rfl] at h
      split at h <;> cases h
    rw [List.getElem?_set_ne hvi] at h
    exact wpS_own h
theorem Rl.wipe (r : Rl K A H0 O0 O σ H ρ) : ∀ vs, Rl K A H0 O0 O (L2.wipe σ vs) H (wpS ρ vs)
  | [] => r
  | v :: vs => (r.wipe vs).un v
theorem compM_le {step : PyData → Option (Option PyData)} : ∀ {ds rs : List PyData}, compM step ds = some rs → rs.length ≤ ds.length
  | [], rs, h => by cases h; exact Nat.le_refl _
  | d :: ds, rs, h => by
    obtain ⟨o, h1, h2⟩ := bind_some' h
    obtain ⟨r, h3, h4⟩ := bind_some' h2
    have := compM_le h3
    cases o with
    | none =>
      have h4 : some r = some rs := h4
      cases h4
      rw [List.length_cons]
      omega
    | some y =>
      have h4 : some (y :: r) = some rs := h4
      cases h4
      rw [List.length_cons, List.length_cons]
      omega
theorem sl_lc {wi : TI} {fi : FA} {tg : TG} {gg : PyData → List Sl → Option (List Sl)} {ws vs : List Nat} (hi : SI K A wi fi) (hg : SG K A tg gg ws) (hsub : ∀ i ∈ ws, i ∈ vs) (ht : ST K A tt ft) (he : SE K A te fe) : SL K A (tLc wi tg tt te vs) (fComp fi gg ft fe vs) := fun {H0 O0 O σ H ρ} r rs hr Q q => by
  obtain ⟨ds, h1, h2⟩ := bind_some' hr
  obtain ⟨rs', h3, h4⟩ := bind_some' h2
  obtain ⟨h5, rfl⟩ := lim_some h4
  refine hi r ds h1 _ fun J H1 e1 wk Dl hD => ?_
  obtain ⟨G, Y, w, hw⟩ := wk
  have r1 := (r.same e1).wipe vs
  refine lc_it w (D := Dl) (fun i H' => ∃ acc done rest, Same H1 H' ∧ H' Dl = some (.lst acc) ∧ Fds K A (Osn O Dl) H' acc done ∧ compM (cStep gg ft fe (wpS ρ vs)) (ds.drop i) = some rest ∧ rs' = done ++ rest) ⟨[], [], rs', Cr.same_new hD, upd_same, .nil, h3, rfl⟩ (fun i H' _ hP => ?_) (fun i x H' H2 hi' hP hy => ?_) (fun H' hP => ?_)
  · obtain ⟨acc, done, rest, e, _⟩ := hP
    exact (hw O H' (r1.owl.same e) (.same e)).1
  · obtain ⟨acc, done, rest, e, hDl, hacc, hc, hrs⟩ := hP
    have r2 := r1.osn hD e hDl
    have ev : Evo O H1 (Osn O Dl) H' := fun a o ha hn => ⟨e _ _ ha, fun h => by
      rcases h with h | h
      · rw [h, hD] at ha
        cases ha
      · exact hn h⟩
    obtain ⟨e2, d, hd, hx⟩ := (hw (Osn O Dl) H' r2.owl ev).2 i x H2 hi' hy
    have hdr : ds.drop i = d :: ds.drop (i + 1) := by
      obtain ⟨hlt, rfl⟩ := List.getElem?_eq_some_iff.mp hd
      exact List.drop_eq_getElem_cons hlt
    rw [hdr] at hc
    obtain ⟨o, hs1, hs2⟩ := bind_some' hc
    obtain ⟨rr, hs3, hs4⟩ := bind_some' hs2
    obtain ⟨ρ1, hs5, hs6⟩ := bind_some' hs1
    obtain ⟨b, hs7, hs8⟩ := bind_some' hs6
    refine hg (r2.same e2) hx ρ1 hs5 _ fun σ2 r3 l3 k3 _ => ⟨?_, ht r3 b hs7 _ fun H3 e3 => ?_⟩
    · rw [wipe_ext (σ := L2.wipe σ vs) (by rw [l3]) (fun i hi => k3 i fun h => hi (hsub i h)), wipe_wipe]
    · cases b with
      | true =>
        obtain ⟨y, hy1, hy2⟩ := bind_some' (show ((fe ρ1).bind fun y => some (some y)) = some o from hs8)
        cases hy2
        cases hs4
        refine iteT (he (r3.same e3) y hy1 _ fun v H4 e4 hv => ?_)
        have e24 := (e2.trans e3).trans e4
        have hD4 : H4 Dl = some (.lst acc) := e24 _ _ hDl
        have hacc4 := hacc.same e24
        have ho4 : Owl (Osn O Dl) H4 := r2.owl.same e24
        have ev4 : Evo (Osn O Dl) H4 (Osn O Dl) (upd H4 Dl (.lst (acc ++ [v]))) := fun a o ha hn => ⟨by
          rw [upd_ne (fun e => hn (.inl e))]
          exact ha, hn⟩
        refine ⟨acc, hD4, ?_, acc ++ [v], done ++ [y], rr, ?_, upd_same, (hacc4.snoc hv).evo ho4 ev4, hs3, by rw [hrs]; simp⟩
        · have h6 : acc.length = done.length := hacc.1
          have h7 : (done ++ y :: rr).length ≤ 10000000 := by rw [← hrs]; exact h5
          rw [List.length_append, List.length_cons] at h7
          exact Nat.lt_of_lt_of_le (show acc.length < 10000000 by omega) (by decide)
        · exact Cr.same_mut (e.trans e24) hD
      | false =>
        cases hs8
        cases hs4
        exact iteF ⟨acc, done, rr, e.trans (e2.trans e3), (e2.trans e3) _ _ hDl, hacc.same (e2.trans e3), hs3, hrs⟩
  · obtain ⟨acc, done, rest, e, hDl, hacc, hc, hrs⟩ := hP
    rw [List.drop_length] at hc
    cases hc
    rw [List.append_nil] at hrs
    subst hrs
    exact q Dl acc H' (e1.free hD) (e1.trans e) hDl hacc
end
/-! ### a def's body -/
def runF (n k : Nat) (f : FS) : Fn := fun ds => if ds.length = k then match f (ds.map Sl.val ++ List.replicate (n - k) Sl.un) with
    | some (.rt d, _) => some d
    | some (.nx, _) => some .none
    | _ => none
  else none
theorem body_ok {K : PySem.W.Frag} {A : Atm} {N : List Str} {k : Nat} {t : TS} {f : FS} (h : SS K A t f) {vs : List V} {H : Hp} {Q : VK} {E : XK} (hs : spF K A (runF N.length k f) vs H Q E) : t { nx := fun _ H' => Q .non H', rt := Q } (L2.start N vs) H := by
  obtain ⟨O, ds, r, ho, hds, hr, q⟩ := hs
  unfold runF at hr
  split at hr
  · rename_i hk
    have R : Rl K A H O O (L2.start N vs) H (ds.map Sl.val ++ List.replicate (N.length - k) Sl.un) := by
      have hl : vs.length = ds.length := hds.1
      have key : ∀ i, (ds.map Sl.val ++ List.replicate (N.length - k) Sl.un)[i]? = if i < ds.length then ds[i]?.map Sl.val else if i - ds.length < N.length - k then some .un else none := fun i => by
        by_cases hi : i < ds.length
        · rw [if_pos hi, List.getElem?_append_left (by rw [List.length_map]; exact hi), List.getElem?_map]
        · rw [if_neg hi, List.getElem?_append_right (by rw [List.length_map]; omega), List.length_map, List.getElem?_replicate]
      refine ⟨?_, fun i d hi => ?_, fun i es hi => ?_, fun i j es fs p hi => ?_, ho, .refl _, fun _ h => h, ho⟩
      · unfold L2.start
        rw [List.length_append, List.length_map, List.length_replicate, List.length_append, List.length_map, List.length_replicate, hl, hk]
      · rw [key] at hi
        split at hi
        · rename_i hlt
          obtain ⟨d', hd, e⟩ := Option.map_eq_some_iff.mp hi
          cases e
          obtain ⟨v, h1, h2⟩ := hds.get hd
          refine ⟨v, ?_, h2⟩
          unfold L2.start
          rw [List.getElem?_append_left (by rw [List.length_map, hl]; exact hlt), List.getElem?_map, h1]
          rfl
        · split at hi <;> cases hi
      · rw [key] at hi
        split at hi
        · obtain ⟨d', hd, e⟩ := Option.map_eq_some_iff.mp hi
          cases e
        · split at hi <;> cases hi
      · rw [key] at hi
        split at hi
        · obtain ⟨d', hd, e⟩ := Option.map_eq_some_iff.mp hi
          cases e
        · split at hi <;> cases hi
    split at hr
    · rename_i d _ e
      cases hr
      exact h R _ e _ fun v H' s hv => q v H' s hv
    · rename_i _ e
      cases hr
      exact h R _ e _ fun σ' H' O' r' _ => q .non H' r'.frm .non
    · cases hr
  · cases hr
theorem body_len {K : PySem.W.Frag} {A : Atm} {n k : Nat} {f : FS} {vs : List V} {H : Hp} {Q : VK} {E : XK} (hs : spF K A (runF n k f) vs H Q E) : vs.length = k := by
  obtain ⟨O, ds, r, ho, hds, hr, q⟩ := hs
  unfold runF at hr
  split at hr
  · rename_i hk
    rw [hds.1, hk]
  · cases hr
end Sm
set_option maxRecDepth 10000000
/-! operators, built-ins and walks, each with its function of data -/
namespace Sm
open PySem PySem.Spec PyProof.Rows L2 Evl CrT Cr
/-! ### rules joined -/
section
variable {X : Cx}
theorem opr_or {f : Value → Value → Sem Value} {r r' : R2} (h : OpR X f r) (h' : OpR X f r') : OpR X f (fun x y H Q => r x y H Q ∨ r' x y H Q) := fun pins s σ H x y v u Q I rx ry q => by
  rcases q with q | q
  · exact h pins s σ H x y v u Q I rx ry q
  · exact h' pins s σ H x y v u Q I rx ry q
theorem cr_or {f : Value} {r r' : List V → Hp → VK → Prop} (h : CallR X f r) (h' : CallR X f r') : CallR X f (fun xs H Q => r xs H Q ∨ r' xs H Q) := fun pins s σ H xs us Q I rx q => by
  rcases q with q | q
  · exact h pins s σ H xs us Q I rx q
  · exact h' pins s σ H xs us Q I rx q
theorem pi_or {tg e : Expr} {w w' : TI} (h : PI X tg e w) (h' : PI X tg e w') : PI X tg e (fun σ H R => w σ H R ∨ w' σ H R) := ⟨fun pins s σ H R I q => by
  rcases q with q | q
  · exact h.run pins s σ H R I q
  · exact h'.run pins s σ H R I q⟩
def rStrCat : R2 := fun x y H Q => ∃ i j, x = .str i ∧ y = .str j ∧ i.length + j.length ≤ sizeLine ∧ Q (.str (i ++ j)) H
def rAddX (K : PySem.W.Frag) : R2 := fun x y H Q => rI0 (fun i j => .int (i + j)) x y H Q ∨ rCatA K x y H Q ∨ rCat x y H Q ∨ rStrCat x y H Q
theorem op_addX : OpR X (binaryOp .Add) (rAddX X.K) := opr_or op_add (opr_or op_catA (opr_or op_cat op_add_str))
def rMulX : R2 := fun x y H Q => rI CMul (fun i j => .int (i * j)) x y H Q ∨ rI CMulW (fun i j => .int (i * j)) x y H Q ∨ rRep x y H Q
theorem op_mulX : OpR X (binaryOp .Mult) rMulX := opr_or op_mul (opr_or op_mulW op_rep)
def rEqX (K : PySem.W.Frag) : R2 := fun x y H Q => rEq x y H Q ∨ rEqD K x y H Q
def rNeX (K : PySem.W.Frag) : R2 := fun x y H Q => rNe x y H Q ∨ rNeD K x y H Q
theorem op_eqX (hu : X.A.units + 64 < cLine) : OpR X (compareOp .Eq) (rEqX X.K) := opr_or op_eq (op_eqD hu)
theorem op_neX (hu : X.A.units + 64 < cLine) : OpR X (compareOp .NotEq) (rNeX X.K) := opr_or op_ne (op_neD hu)
def rLeS : R2 := fun x y H Q => ∃ i j, x = .str i ∧ y = .str j ∧ Q (.bl (!decide (j.cps.toList < i.cps.toList))) H
def rLeX : R2 := fun x y H Q => rI0 (fun i j => .bl (decide (i ≤ j))) x y H Q ∨ rLeS x y H Q
theorem op_leX : OpR X (compareOp .LtE) rLeX := opr_or op_le op_le_str
def rInX (K : PySem.W.Frag) : R2 := fun x y H Q => rIn K false x y H Q ∨ rInTup K false x y H Q ∨ rInD K x y H Q
def rNiX (K : PySem.W.Frag) : R2 := fun x y H Q => rIn K true x y H Q ∨ rInTup K true x y H Q ∨ rNotInD K x y H Q
theorem op_inX (hu : X.A.units + 65 < cLine) : OpR X (compareOp .In) (rInX X.K) := opr_or op_in_seq (opr_or (op_inTup hu) (op_inD hu))
theorem op_niX (hu : X.A.units + 65 < cLine) : OpR X (compareOp .NotIn) (rNiX X.K) := opr_or op_notIn_seq (opr_or (op_notInTup hu) (op_notInD hu))
def rSlX (K : PySem.W.Frag) : V → Option Int → Option Int → Hp → VK → Prop := fun x lo hi H Q => rSlA K x lo hi H Q ∨ rSlL K x lo hi H Q ∨ rSlS x lo hi H Q
theorem sl_X : SlR X (rSlX X.K) := sl_tupA.or (sl_list.or sl_str)
def rAllX (K : PySem.W.Frag) := rAll K
def rLenX (K : PySem.W.Frag) : List V → Hp → VK → Prop := fun xs H Q => ∃ x n, xs = [x] ∧ LenV K x H n ∧ Q (.int (n : Int)) H
theorem cr_lenX : CallR X (.builtin "len") (rLenX X.K) := call_len
def rSumX (K : PySem.W.Frag) : List V → Hp → VK → Prop := fun xs H Q => rSum K xs H Q ∨ rSumT K xs H Q
theorem cr_sumX (hc : X.calm = true) : CallR X (.builtin "sum") (rSumX X.K) := cr_or (cr_sum hc) (cr_sumT hc)
def rTupO (K : PySem.W.Frag) : List V → Hp → VK → Prop := fun xs H Q => ∃ p ys, xs = [.ref p] ∧ ((SqL K H p ys ∧ ∀ l, H l = none → Q (.ref l) (upd H l (.tup ys))) ∨ (SqT K H p ys ∧ Q (.ref p) H))
theorem cr_tupO : CallR X (.type "tuple") (rTupO X.K) := call_tuple_of
def rLstO (K : PySem.W.Frag) : List V → Hp → VK → Prop := fun xs H Q => ∃ p ys, xs = [.ref p] ∧ (SqL K H p ys ∨ SqT K H p ys) ∧ ∀ l, H l = none → Q (.ref l) (upd H l (.lst ys))
theorem cr_lstO : CallR X (.type "list") (rLstO X.K) := call_list_of
def iSeq (K : PySem.W.Frag) (te : TE) : TI := fun σ H R => iList K te σ H R ∨ iTup K te σ H R ∨ iStr te σ H R
theorem pi_seq {tg e : Expr} {te : TE} (he : PE X e te) : PI X tg e (iSeq X.K te) := pi_or (pi_list he) (pi_or (pi_tup he) (pi_str he))
def iEnu (K : PySem.W.Frag) (ta : TA) : TI := fun σ H R => iEnum K ta σ H R ∨ iEnumT K ta σ H R
end
/-! ### their functions of data -/
def gAdd : F2
  | .int i, .int j => some (.int (i + j))
  | .tuple xs, .tuple ys => (lim (xs.length + ys.length) (.tuple (xs ++ ys)))
  | .list xs, .list ys => (lim (xs.length + ys.length) (.list (xs ++ ys)))
  | .str x, .str y => (lim (x.length + y.length) (.str (x ++ y)))
  | _, _ => none
def gSub : F2
  | .int i, .int j => some (.int (i - j))
  | _, _ => none
def gMul : F2
  | .int i, .int j => if (i.natAbs < 18446744073709551616 ∨ j.natAbs < 18446744073709551616) ∨ i.natAbs.log2 + j.natAbs.log2 < 1000000 then some (.int (i * j)) else none
  | .list xs, .int k => if k.toNat ≤ 10000000 ∧ -10000000 ≤ k then lim (xs.length * k.toNat) (.list (List.replicate k.toNat xs).flatten) else none
  | _, _ => none
def gMod : F2
  | .int i, .int j => if 0 < j then some (.int (i % j)) else none
  | _, _ => none
def gDiv : F2
  | .int i, .int j => if 0 < j ∧ j.natAbs.log2 < 9000 then some (.int (i / j)) else none
  | _, _ => none
def gNeg : F1
  | .int i => some (.int (-i))
  | _ => none
def eqD (a b : PyData) : Option Bool := match a, b with
  | .int i, .int j => some (decide (i = j))
  | .str x, .str y => some (decide (x = y))
  | .int _, .str _ => some false
  | .str _, .int _ => some false
  | a, b => if SeqAt.shaped a && SeqAt.shaped b then some (PyData.eqv a b) else none
def gEq : F2 := fun a b => (eqD a b).bind fun x => some (.bool x)
def gNe : F2 := fun a b => (eqD a b).bind fun x => some (.bool (!x))
def gLt : F2
  | .int i, .int j => some (.bool (decide (i < j)))
  | _, _ => none
def gLe : F2
  | .int i, .int j => some (.bool (decide (i ≤ j)))
  | .str x, .str y => some (.bool (!decide (y.cps.toList < x.cps.toList)))
  | _, _ => none
def gGt : F2
  | .int i, .int j => some (.bool (decide (j < i)))
  | _, _ => none
def gGe : F2
  | .int i, .int j => some (.bool (decide (j ≤ i)))
  | _, _ => none
def gIsN : F2
  | a, .none => some (.bool (match a with | .none => true | _ => false))
  | _, _ => none
def gNotN : F2
  | a, .none => some (.bool (match a with | .none => false | _ => true))
  | _, _ => none
def fl : PyData → Bool
  | .int _ => true
  | .str _ => true
  | _ => false
def eqF : PyData → PyData → Bool
  | .int a, .int b => decide (a = b)
  | .str a, .str b => decide (a = b)
  | _, _ => false
def inD (a b : PyData) : Option Bool := match b with
  | .tuple ds => if fl a && ds.all fl then some (ds.any fun z => eqF z a) else if SeqAt.shaped a && SeqAt.shaped (.tuple ds) then some (ds.any fun z => PyData.eqv z a) else none
  | .list ds => if fl a && ds.all fl then some (ds.any fun z => eqF z a) else if SeqAt.shaped a && SeqAt.shaped (.list ds) then some (ds.any fun z => PyData.eqv z a) else none
  | _ => none
def gIn : F2 := fun a b => (inD a b).bind fun x => some (.bool x)
def gNi : F2 := fun a b => (inD a b).bind fun x => some (.bool (!x))
def gIx : F2
  | .tuple ds, .int i => atI ds i
  | .list ds, .int i => atI ds i
  | .str z, .int i => (lim z.length z).bind fun z => (atI z.cps.toList i).bind fun c => some (.str ⟨#[c]⟩)
  | _, _ => none
def cutD {α : Type} (xs : List α) (lo hi : Option Int) : List α := (xs.drop (HT.sIx xs.length 0 lo)).take (HT.sIx xs.length xs.length hi - HT.sIx xs.length 0 lo)
def gSl (d : PyData) (lo hi : Option Int) : Option PyData := match d with
  | .tuple ds => some (.tuple (cutD ds lo hi))
  | .list ds => some (.list (cutD ds lo hi))
  | .str z => (lim z.length z).bind fun z => some (.str (cutS z lo hi))
  | _ => none
def gRev : F1
  | .tuple ds => some (.tuple ds.reverse)
  | _ => none
def gLen : Fn
  | [.tuple ds] => some (.int ds.length)
  | [.list ds] => some (.int ds.length)
  | [.str z] => lim z.length (.int z.length)
  | _ => none
def allB : List PyData → Option Bool
  | [] => some true
  | .bool b :: ds => (allB ds).bind fun r => some (b && r)
  | _ => none
def anyB : List PyData → Option Bool
  | [] => some false
  | .bool b :: ds => (anyB ds).bind fun r => some (b || r)
  | _ => none
def sumI : List PyData → Option Int
  | [] => some 0
  | .int i :: ds => (sumI ds).bind fun r => some (i + r)
  | _ => none
def gAll : Fn
  | [.list ds] => (allB ds).bind fun b => some (.bool b)
  | _ => none
def gAny : Fn
  | [.list ds] => (anyB ds).bind fun b => some (.bool b)
  | _ => none
def gSum : Fn
  | [.list ds] => (sumI ds).bind fun i => some (.int i)
  | [.tuple ds] => (sumI ds).bind fun i => some (.int i)
  | _ => none
def gTuple : Fn
  | [.list ds] => some (.tuple ds)
  | [.tuple ds] => some (.tuple ds)
  | _ => none
def gList : List PyData → Option (List PyData)
  | [.list ds] => some ds
  | [.tuple ds] => some ds
  | _ => none
def gMax : Fn
  | [.int i, .int j] => some (.int (if j > i then j else i))
  | _ => none
def gMin : Fn
  | [.int i, .int j] => some (.int (if j < i then j else i))
  | _ => none
def tyO : PyData → Option String
  | .int _ => some "int"
  | .str _ => some "str"
  | .tuple _ => some "tuple"
  | .bool _ => some "bool"
  | _ => none
def gIsi (n : String) : Fn
  | [d] => (tyO d).bind fun t => (kitB t n).bind fun b => some (.bool b)
  | _ => none
section
variable {K : PySem.W.Frag} {A : Atm}
theorem rd_add : RD K A (rAddX K) gAdd := fun {O H x y a b} ho hx hy c hc Q q => by
  cases a <;> cases b <;> try cases hc
  · cases hx.int_inv; cases hy.int_inv
    exact .inl ⟨_, _, rfl, rfl, q _ _ (.refl _) (.int _)⟩
  · cases hx.str_inv; cases hy.str_inv
    obtain ⟨h1, rfl⟩ := lim_some hc
    exact .inr (.inr (.inr ⟨_, _, rfl, rfl, sz100 h1, q _ _ (.refl _) (.str _)⟩))
  · obtain ⟨h1, rfl⟩ := lim_some hc
    obtain ⟨p, xs, rfl, hp, hnp, hxs⟩ := hx.lst_inv
    obtain ⟨p2, ys, rfl, hp2, hnp2, hys⟩ := hy.lst_inv
    exact .inr (.inr (.inl ⟨p, p2, xs, ys, rfl, rfl, hp, hp2, sz100 (by rw [hxs.1, hys.1]; exact h1), fun l hl => q _ _ (Cr.same_new hl) (((hxs.app hys).same (Cr.same_new hl)).lst upd_same (ho.none hl))⟩))
  · obtain ⟨h1, rfl⟩ := lim_some hc
    obtain ⟨p, xs, rfl, hp, hxs⟩ := hx.tup_inv
    obtain ⟨p2, ys, rfl, hp2, hys⟩ := hy.tup_inv
    refine .inr (.inl ⟨p, p2, xs, ys, rfl, rfl, hp, hp2, sz100 (by rw [hxs.1, hys.1]; exact h1), fun e => ?_, fun _ e => ?_, fun _ _ l hl => ?_⟩)
    · subst e
      exact q _ _ (.refl _) ((by simpa using hxs.app hys : Fds K A O H ys _).tup hp2)
    · subst e
      exact q _ _ (.refl _) ((by simpa using hxs.app hys : Fds K A O H xs _).tup hp)
    · exact q _ _ (Cr.same_new hl) (((hxs.app hys).same (Cr.same_new hl)).tup (.of upd_same))
theorem rd_sub : RD K A (rI0 fun i j => .int (i - j)) gSub := fun {O H x y a b} ho hx hy c hc Q q => by
  cases a <;> cases b <;> cases hc
  cases hx.int_inv; cases hy.int_inv
  exact ⟨_, _, rfl, rfl, q _ _ (.refl _) (.int _)⟩
theorem rd_mul : RD K A rMulX gMul := fun {O H x y a b} ho hx hy c hc Q q => by
  cases a <;> cases b <;> try cases hc
  · rename_i i j
    have hc : (if (i.natAbs < 18446744073709551616 ∨ j.natAbs < 18446744073709551616) ∨ i.natAbs.log2 + j.natAbs.log2 < 1000000 then some (PyData.int (i * j)) else none) = some c := hc
    split at hc
    · rename_i hw
      cases hc
      cases hx.int_inv; cases hy.int_inv
      rcases hw with (hw | hw) | hw
      · exact .inl ⟨_, _, rfl, rfl, .inl ⟨by omega, by omega⟩, q _ _ (.refl _) (.int _)⟩
      · exact .inl ⟨_, _, rfl, rfl, .inr ⟨by omega, by omega⟩, q _ _ (.refl _) (.int _)⟩
      · exact .inr (.inl ⟨_, _, rfl, rfl, hw, q _ _ (.refl _) (.int _)⟩)
    · cases hc
  · rename_i xs k
    have hc : (if k.toNat ≤ 10000000 ∧ -10000000 ≤ k then lim (xs.length * k.toNat) (PyData.list (List.replicate k.toNat xs).flatten) else none) = some c := hc
    split at hc
    · rename_i hk
      obtain ⟨h1, rfl⟩ := lim_some hc
      obtain ⟨p, ys, rfl, hp, hnp, hys⟩ := hx.lst_inv
      cases hy.int_inv
      have hr : ∀ (n : Nat) H', Same H H' → Fds K A O H' (List.replicate n ys).flatten (List.replicate n xs).flatten := fun n H' s => by
        induction n with
        | zero => exact .nil
        | succ n ih =>
          rw [List.replicate_succ, List.replicate_succ, List.flatten_cons, List.flatten_cons]
          exact (hys.same s).app ih
      refine .inr (.inr ⟨p, k, ys, rfl, rfl, hp, by omega, by omega, sz100 (by rw [hys.1]; exact h1), fun l hl => q _ _ (Cr.same_new hl) ((hr _ _ (Cr.same_new hl)).lst upd_same (ho.none hl))⟩)
    · cases hc
theorem rd_mod : RD K A (rI (fun _ j => 0 < j) fun i j => .int (i % j)) gMod := fun {O H x y a b} ho hx hy c hc Q q => by
  cases a <;> cases b <;> try cases hc
  rename_i i j
  have hc : (if 0 < j then some (PyData.int (i % j)) else none) = some c := hc
  split at hc
  · cases hc
    cases hx.int_inv; cases hy.int_inv
    exact ⟨_, _, rfl, rfl, by assumption, q _ _ (.refl _) (.int _)⟩
  · cases hc
theorem rd_div : RD K A (rI CDivW fun i j => .int (i / j)) gDiv := fun {O H x y a b} ho hx hy c hc Q q => by
  cases a <;> cases b <;> try cases hc
  rename_i i j
  have hc : (if 0 < j ∧ j.natAbs.log2 < 9000 then some (PyData.int (i / j)) else none) = some c := hc
  split at hc
  · rename_i hw
    cases hc
    cases hx.int_inv; cases hy.int_inv
    exact ⟨_, _, rfl, rfl, hw, q _ _ (.refl _) (.int _)⟩
  · cases hc
theorem ru_neg1 : RU1 K A (rU fun i => .int (-i)) gNeg := fun {O H x a} ho hx c hc Q q => by
  cases a <;> cases hc
  cases hx.int_inv
  exact ⟨_, rfl, q _ _ (.refl _) (.int _)⟩
theorem eqD_cases {O : Addr → Prop} {H : Hp} {x y : V} {a b : PyData} {r : Bool} (hx : Fd K A O H x a) (hy : Fd K A O H y b) (h : eqD a b = some r) : (scal x y = true ∧ r = decide (x = y)) ∨ (Dp K H x a ∧ Dp K H y b ∧ SeqAt.shaped a = true ∧ SeqAt.shaped b = true ∧ r = PyData.eqv a b) := by
  unfold eqD at h
  split at h
  · cases h; cases hx.int_inv; cases hy.int_inv
    exact .inl ⟨rfl, decide_eq_decide.mpr ⟨fun e => by rw [e], fun e => V.int.inj e⟩⟩
  · cases h; cases hx.str_inv; cases hy.str_inv
    exact .inl ⟨rfl, decide_eq_decide.mpr ⟨fun e => by rw [e], fun e => V.str.inj e⟩⟩
  · cases h; cases hx.int_inv; cases hy.str_inv
    exact .inl ⟨rfl, (decide_eq_false fun e => nomatch e).symm⟩
  · cases h; cases hx.str_inv; cases hy.int_inv
    exact .inl ⟨rfl, (decide_eq_false fun e => nomatch e).symm⟩
  · split at h
    · rename_i hs
      cases h
      obtain ⟨s1, s2⟩ := Bool.and_eq_true_iff.mp hs
      exact .inr ⟨hx.dps s1, hy.dps s2, s1, s2, rfl⟩
    · cases h
theorem rd_eq : RD K A (rEqX K) gEq := fun {O H x y a b} ho hx hy c hc Q q => by
  obtain ⟨r, h1, h2⟩ := bind_some' hc
  cases h2
  rcases eqD_cases hx hy h1 with ⟨s, rfl⟩ | ⟨d1, d2, s1, s2, rfl⟩
  · exact .inl ⟨s, q _ _ (.refl _) (.bl _)⟩
  · exact .inr ⟨a, b, d1, d2, s1, s2, q _ _ (.refl _) (.bl _)⟩
theorem rd_ne : RD K A (rNeX K) gNe := fun {O H x y a b} ho hx hy c hc Q q => by
  obtain ⟨r, h1, h2⟩ := bind_some' hc
  cases h2
  rcases eqD_cases hx hy h1 with ⟨s, rfl⟩ | ⟨d1, d2, s1, s2, rfl⟩
  · exact .inl ⟨s, q _ _ (.refl _) (.bl _)⟩
  · exact .inr ⟨a, b, d1, d2, s1, s2, q _ _ (.refl _) (.bl _)⟩
theorem rd_lt : RD K A (rI0 fun i j => .bl (decide (i < j))) gLt := fun {O H x y a b} ho hx hy c hc Q q => by
  cases a <;> cases b <;> cases hc
  cases hx.int_inv; cases hy.int_inv
  exact ⟨_, _, rfl, rfl, q _ _ (.refl _) (.bl _)⟩
theorem rd_le : RD K A rLeX gLe := fun {O H x y a b} ho hx hy c hc Q q => by
  cases a <;> cases b <;> cases hc
  · cases hx.int_inv; cases hy.int_inv
    exact .inl ⟨_, _, rfl, rfl, q _ _ (.refl _) (.bl _)⟩
  · cases hx.str_inv; cases hy.str_inv
    exact .inr ⟨_, _, rfl, rfl, q _ _ (.refl _) (.bl _)⟩
theorem rd_gt : RD K A (rI0 fun i j => .bl (decide (j < i))) gGt := fun {O H x y a b} ho hx hy c hc Q q => by
  cases a <;> cases b <;> cases hc
  cases hx.int_inv; cases hy.int_inv
  exact ⟨_, _, rfl, rfl, q _ _ (.refl _) (.bl _)⟩
theorem rd_ge : RD K A (rI0 fun i j => .bl (decide (j ≤ i))) gGe := fun {O H x y a b} ho hx hy c hc Q q => by
  cases a <;> cases b <;> cases hc
  cases hx.int_inv; cases hy.int_inv
  exact ⟨_, _, rfl, rfl, q _ _ (.refl _) (.bl _)⟩
theorem rd_isN : RD K A (fun x y H Q => y = .non ∧ Q (.bl (decide (x = .non))) H) gIsN := fun {O H x y a b} ho hx hy c hc Q q => by
  cases b <;> try (cases a <;> cases hc; done)
  refine ⟨hy.non_inv, ?_⟩
  cases hx <;> (have hc := Option.some.inj hc; subst hc; exact q _ _ (.refl _) (.bl _))
theorem rd_notN : RD K A (fun x y H Q => y = .non ∧ Q (.bl (!decide (x = .non))) H) gNotN := fun {O H x y a b} ho hx hy c hc Q q => by
  cases b <;> try (cases a <;> cases hc; done)
  refine ⟨hy.non_inv, ?_⟩
  cases hx <;> (have hc := Option.some.inj hc; subst hc; exact q _ _ (.refl _) (.bl _))
theorem fl_v {O : Addr → Prop} {H : Hp} {x : V} {a : PyData} (h : Fd K A O H x a) (hf : fl a = true) : flatV x = true := by
  cases h <;> first | rfl | cases hf
theorem eqF_v {O : Addr → Prop} {H : Hp} {x y : V} {a b : PyData} (hx : Fd K A O H x a) (hy : Fd K A O H y b) (ha : fl a = true) (hb : fl b = true) : eqV x y = eqF a b := by
  cases hx <;> cases ha <;> cases hy <;> cases hb <;> first | rfl | (simp only [eqV, eqF]; rw [Bool.eq_iff_iff]; simp)
theorem fl_all {O : Addr → Prop} {H : Hp} : ∀ {ds : List PyData} {xs : List V}, Fds K A O H xs ds → ds.all fl = true → xs.all flatV = true
  | [], xs, h, _ => by rw [h.nil_inv]; rfl
  | d :: ds, xs, h, hf => by
    obtain ⟨v, ws, rfl, h1, h2⟩ := h.head
    obtain ⟨f1, f2⟩ := Bool.and_eq_true_iff.mp hf
    show (flatV v && ws.all flatV) = true
    rw [fl_v h1 f1, fl_all h2 f2]
    rfl
theorem in_v {O : Addr → Prop} {H : Hp} {x : V} {a : PyData} (hx : Fd K A O H x a) (hf : fl a = true) : ∀ {ds : List PyData} {xs : List V}, Fds K A O H xs ds → ds.all fl = true → inV x xs = ds.any fun z => eqF z a
  | [], xs, h, _ => by rw [h.nil_inv]; rfl
  | d :: ds, xs, h, hd => by
    obtain ⟨v, ws, rfl, h1, h2⟩ := h.head
    obtain ⟨f1, f2⟩ := Bool.and_eq_true_iff.mp hd
    show (eqV v x || inV x ws) = (eqF d a || ds.any fun z => eqF z a)
    rw [eqF_v h1 hx f1 hf, in_v hx hf h2 f2]
theorem inD_cases {O : Addr → Prop} {H : Hp} {x y : V} {a b : PyData} {r : Bool} (hx : Fd K A O H x a) (hy : Fd K A O H y b) (h : inD a b = some r) :
    (∃ p xs, y = .ref p ∧ (SqL K H p xs ∨ SqT K H p xs) ∧ flatV x = true ∧ xs.all flatV = true ∧ r = inV x xs) ∨ (∃ ds, b = .tuple ds ∧ Dp K H x a ∧ Dp K H y (.tuple ds) ∧ SeqAt.shaped a = true ∧ SeqAt.shaped (.tuple ds) = true ∧ r = ds.any fun z => PyData.eqv z a) ∨
    (∃ ds, b = .list ds ∧ Dp K H x a ∧ Dp K H y (.list ds) ∧ SeqAt.shaped a = true ∧ SeqAt.shaped (.list ds) = true ∧ r = ds.any fun z => PyData.eqv z a) := by
  unfold inD at h
  split at h
  · rename_i ds
    obtain ⟨p, xs, rfl, hp, hxs⟩ := hy.tup_inv
    split at h
    · rename_i hf
      obtain ⟨f1, f2⟩ := Bool.and_eq_true_iff.mp hf
      cases h
      exact .inl ⟨p, xs, rfl, .inr hp, fl_v hx f1, fl_all hxs f2, (in_v hx f1 hxs f2).symm⟩
    · split at h
      · rename_i hs
        obtain ⟨s1, s2⟩ := Bool.and_eq_true_iff.mp hs
        cases h
        exact .inr (.inl ⟨ds, rfl, hx.dps s1, hy.dps s2, s1, s2, rfl⟩)
      · cases h
  · rename_i ds
    obtain ⟨p, xs, rfl, hp, hnp, hxs⟩ := hy.lst_inv
    split at h
    · rename_i hf
      obtain ⟨f1, f2⟩ := Bool.and_eq_true_iff.mp hf
      cases h
      exact .inl ⟨p, xs, rfl, .inl (sq_of hp), fl_v hx f1, fl_all hxs f2, (in_v hx f1 hxs f2).symm⟩
    · split at h
      · rename_i hs
        obtain ⟨s1, s2⟩ := Bool.and_eq_true_iff.mp hs
        cases h
        exact .inr (.inr ⟨ds, rfl, hx.dps s1, hy.dps s2, s1, s2, rfl⟩)
      · cases h
  · cases h
theorem rd_in : RD K A (rInX K) gIn := fun {O H x y a b} ho hx hy c hc Q q => by
  obtain ⟨r, h1, h2⟩ := bind_some' hc
  cases h2
  rcases inD_cases hx hy h1 with ⟨p, xs, rfl, hs, f1, f2, rfl⟩ | ⟨ds, rfl, d1, d2, s1, s2, rfl⟩ | ⟨ds, rfl, d1, d2, s1, s2, rfl⟩
  · exact .inl ⟨p, xs, rfl, hs, f1, f2, q _ _ (.refl _) (.bl _)⟩
  · exact .inr (.inl ⟨a, ds, d1, d2, s1, s2, q _ _ (.refl _) (.bl _)⟩)
  · exact .inr (.inr ⟨a, ds, d1, d2, s1, s2, q _ _ (.refl _) (.bl _)⟩)
theorem rd_ni : RD K A (rNiX K) gNi := fun {O H x y a b} ho hx hy c hc Q q => by
  obtain ⟨r, h1, h2⟩ := bind_some' hc
  cases h2
  rcases inD_cases hx hy h1 with ⟨p, xs, rfl, hs, f1, f2, rfl⟩ | ⟨ds, rfl, d1, d2, s1, s2, rfl⟩ | ⟨ds, rfl, d1, d2, s1, s2, rfl⟩
  · exact .inl ⟨p, xs, rfl, hs, f1, f2, q _ _ (.refl _) (.bl _)⟩
  · exact .inr (.inl ⟨a, ds, d1, d2, s1, s2, q _ _ (.refl _) (.bl _)⟩)
  · exact .inr (.inr ⟨a, ds, d1, d2, s1, s2, q _ _ (.refl _) (.bl _)⟩)
theorem atI_get {O : Addr → Prop} {H : Hp} {xs : List V} {ds : List PyData} {i : Int} {c : PyData} (h : Fds K A O H xs ds) (hc : atI ds i = some c) : ∃ v, atI xs i = some v ∧ Fd K A O H v c := by
  unfold atI at hc ⊢
  rw [h.1]
  obtain ⟨j, h1, h2⟩ := Option.bind_eq_some_iff.mp hc
  obtain ⟨v, h3, h4⟩ := h.get h2
  exact ⟨v, by rw [h1]; exact h3, h4⟩
theorem rd_ix : RD K A (rIx K) gIx := fun {O H x y a b} ho hx hy c hc Q q => by
  cases a <;> cases b <;> try cases hc
  · rename_i z i
    cases hx.str_inv; cases hy.int_inv
    obtain ⟨z', h1, h2⟩ := bind_some' (show ((lim z.length z).bind fun z => (atI z.cps.toList i).bind fun c => some (PyData.str ⟨#[c]⟩)) = some c from hc)
    obtain ⟨h3, rfl⟩ := lim_some h1
    obtain ⟨cc, h4, h5⟩ := bind_some' h2
    cases h5
    exact .inr (.inr ⟨z, i, cc, rfl, rfl, sz100 h3, h4, q _ _ (.refl _) (.str _)⟩)
  · cases hy.int_inv
    obtain ⟨p, xs, rfl, hp, hnp, hxs⟩ := hx.lst_inv
    obtain ⟨v, h1, h2⟩ := atI_get hxs hc
    exact .inl ⟨p, xs, _, v, rfl, rfl, sq_of hp, h1, q _ _ (.refl _) h2⟩
  · cases hy.int_inv
    obtain ⟨p, xs, rfl, hp, hxs⟩ := hx.tup_inv
    obtain ⟨v, h1, h2⟩ := atI_get hxs hc
    exact .inr (.inl ⟨p, xs, _, v, rfl, rfl, hp, h1, q _ _ (.refl _) h2⟩)
theorem fds_cut {O : Addr → Prop} {H : Hp} {xs : List V} {ds : List PyData} (h : Fds K A O H xs ds) (lo hi : Option Int) : Fds K A O H (cutV xs lo hi) (cutD ds lo hi) := by
  unfold cutV cutD
  rw [h.1]
  exact (h.drop _).take _
theorem rs_sl : RS K A (rSlX K) gSl := fun {O H x a} ho hx lo hi c hc Q q => by
  cases a <;> try cases hc
  · rename_i z
    cases hx.str_inv
    obtain ⟨z', h1, h2⟩ := bind_some' (show ((lim z.length z).bind fun z => some (PyData.str (cutS z lo hi))) = some c from hc)
    obtain ⟨h3, rfl⟩ := lim_some h1
    cases h2
    exact .inr (.inr ⟨z, rfl, sz100 h3, q _ _ (.refl _) (.str _)⟩)
  · obtain ⟨p, xs, rfl, hp, hnp, hxs⟩ := hx.lst_inv
    exact .inr (.inl ⟨p, xs, rfl, sq_of hp, fun l hl => q _ _ (Cr.same_new hl) (((fds_cut hxs lo hi).same (Cr.same_new hl)).lst upd_same (ho.none hl))⟩)
  · obtain ⟨p, xs, rfl, hp, hxs⟩ := hx.tup_inv
    refine .inl ⟨p, xs, rfl, hp, fun hw => ?_, fun hw l hl => q _ _ (Cr.same_new hl) (((fds_cut hxs lo hi).same (Cr.same_new hl)).tup (.of upd_same))⟩
    have e : cutV xs lo hi = xs := by
      unfold cutV
      rw [hw.1, hw.2]
      show List.take (xs.length - 0) xs = xs
      exact List.take_of_length_le (by omega)
    have := fds_cut hxs lo hi
    rw [e] at this
    exact q _ _ (.refl _) (this.tup hp)
theorem se_rev {te : TE} {fe : FE} (h : SE K A te fe) : SE K A (tRevT K te) (fUn gRev fe) := fun R d hd Q q => by
  obtain ⟨a, h1, h2⟩ := bind_some' hd
  cases a <;> cases h2
  refine h R _ h1 _ fun v H1 e1 hv => ?_
  obtain ⟨p, xs, rfl, hp, hxs⟩ := hv.tup_inv
  exact ⟨p, xs, rfl, hp, fun l hl => q _ _ (e1.trans (Cr.same_new hl)) ((hxs.reverse.same (Cr.same_new hl)).tup (.of upd_same))⟩
theorem one_inv {O : Addr → Prop} {H : Hp} {xs : List V} {d : PyData} (h : Fds K A O H xs [d]) : ∃ v, xs = [v] ∧ Fd K A O H v d := by
  obtain ⟨v, ws, rfl, h1, h2⟩ := h.head
  rw [h2.nil_inv]
  exact ⟨v, rfl, h1⟩
theorem rc_len : RDs K A (rLenX K) gLen := fun {O H xs ds} ho hx c hc Q q => by
  unfold gLen at hc
  split at hc
  · cases hc
    obtain ⟨v, rfl, hv⟩ := one_inv hx
    obtain ⟨p, ys, rfl, hp, hys⟩ := hv.tup_inv
    exact ⟨_, _, rfl, .inr ⟨ys, hp, hys.1.symm⟩, q _ _ (.refl _) (.int _)⟩
  · cases hc
    obtain ⟨v, rfl, hv⟩ := one_inv hx
    obtain ⟨p, ys, rfl, hp, hnp, hys⟩ := hv.lst_inv
    exact ⟨_, _, rfl, .inl ⟨ys, sq_of hp, hys.1.symm⟩, q _ _ (.refl _) (.int _)⟩
  · obtain ⟨h1, rfl⟩ := lim_some hc
    obtain ⟨v, rfl, hv⟩ := one_inv hx
    cases hv.str_inv
    exact ⟨_, _, rfl, ⟨sz100 h1, rfl⟩, q _ _ (.refl _) (.int _)⟩
  · cases hc
theorem allB_v {O : Addr → Prop} {H : Hp} : ∀ {ds : List PyData} {xs : List V} {b : Bool}, Fds K A O H xs ds → allB ds = some b → ∃ bs : List Bool, xs = bs.map V.bl ∧ bs.all id = b
  | [], xs, b, h, hb => by cases hb; exact ⟨[], by rw [h.nil_inv]; rfl, rfl⟩
  | d :: ds, xs, b, h, hb => by
    cases d <;> try cases hb
    obtain ⟨r, h1, h2⟩ := bind_some' hb
    cases h2
    obtain ⟨v, ws, rfl, h3, h4⟩ := h.head
    obtain ⟨bs, rfl, h5⟩ := allB_v h4 h1
    cases h3.bl_inv
    exact ⟨_ :: bs, rfl, by rw [List.all_cons, h5]; rfl⟩
theorem anyB_v {O : Addr → Prop} {H : Hp} : ∀ {ds : List PyData} {xs : List V} {b : Bool}, Fds K A O H xs ds → anyB ds = some b → ∃ bs : List Bool, xs = bs.map V.bl ∧ bs.any id = b
  | [], xs, b, h, hb => by cases hb; exact ⟨[], by rw [h.nil_inv]; rfl, rfl⟩
  | d :: ds, xs, b, h, hb => by
    cases d <;> try cases hb
    obtain ⟨r, h1, h2⟩ := bind_some' hb
    cases h2
    obtain ⟨v, ws, rfl, h3, h4⟩ := h.head
    obtain ⟨bs, rfl, h5⟩ := anyB_v h4 h1
    cases h3.bl_inv
    exact ⟨_ :: bs, rfl, by rw [List.any_cons, h5]; rfl⟩
theorem sumI_v {O : Addr → Prop} {H : Hp} : ∀ {ds : List PyData} {xs : List V} {b : Int}, Fds K A O H xs ds → sumI ds = some b → ∃ bs : List Int, xs = bs.map V.int ∧ bs.sum = b
  | [], xs, b, h, hb => by cases hb; exact ⟨[], by rw [h.nil_inv]; rfl, rfl⟩
  | d :: ds, xs, b, h, hb => by
    cases d <;> try cases hb
    obtain ⟨r, h1, h2⟩ := bind_some' hb
    cases h2
    obtain ⟨v, ws, rfl, h3, h4⟩ := h.head
    obtain ⟨bs, rfl, h5⟩ := sumI_v h4 h1
    cases h3.int_inv
    exact ⟨_ :: bs, rfl, by rw [List.sum_cons, h5]⟩
theorem rc_all : RDs K A (rAll K) gAll := fun {O H xs ds} ho hx c hc Q q => by
  unfold gAll at hc
  split at hc
  · obtain ⟨b, h1, h2⟩ := bind_some' hc
    cases h2
    obtain ⟨v, rfl, hv⟩ := one_inv hx
    obtain ⟨p, ys, rfl, hp, hnp, hys⟩ := hv.lst_inv
    obtain ⟨bs, rfl, rfl⟩ := allB_v hys h1
    exact ⟨p, bs, rfl, sq_of hp, q _ _ (.refl _) (.bl _)⟩
  · cases hc
theorem rc_any : RDs K A (rAny K) gAny := fun {O H xs ds} ho hx c hc Q q => by
  unfold gAny at hc
  split at hc
  · obtain ⟨b, h1, h2⟩ := bind_some' hc
    cases h2
    obtain ⟨v, rfl, hv⟩ := one_inv hx
    obtain ⟨p, ys, rfl, hp, hnp, hys⟩ := hv.lst_inv
    obtain ⟨bs, rfl, rfl⟩ := anyB_v hys h1
    exact ⟨p, bs, rfl, sq_of hp, q _ _ (.refl _) (.bl _)⟩
  · cases hc
theorem rc_sum : RDs K A (rSumX K) gSum := fun {O H xs ds} ho hx c hc Q q => by
  unfold gSum at hc
  split at hc
  · obtain ⟨b, h1, h2⟩ := bind_some' hc
    cases h2
    obtain ⟨v, rfl, hv⟩ := one_inv hx
    obtain ⟨p, ys, rfl, hp, hnp, hys⟩ := hv.lst_inv
    obtain ⟨bs, rfl, rfl⟩ := sumI_v hys h1
    exact .inl ⟨p, bs, rfl, sq_of hp, q _ _ (.refl _) (.int _)⟩
  · obtain ⟨b, h1, h2⟩ := bind_some' hc
    cases h2
    obtain ⟨v, rfl, hv⟩ := one_inv hx
    obtain ⟨p, ys, rfl, hp, hys⟩ := hv.tup_inv
    obtain ⟨bs, rfl, rfl⟩ := sumI_v hys h1
    exact .inr ⟨p, bs, rfl, hp, q _ _ (.refl _) (.int _)⟩
  · cases hc
theorem rc_tuple : RDs K A (rTupO K) gTuple := fun {O H xs ds} ho hx c hc Q q => by
  unfold gTuple at hc
  split at hc
  · cases hc
    obtain ⟨v, rfl, hv⟩ := one_inv hx
    obtain ⟨p, ys, rfl, hp, hnp, hys⟩ := hv.lst_inv
    exact ⟨p, ys, rfl, .inl ⟨sq_of hp, fun l hl => q _ _ (Cr.same_new hl) ((hys.same (Cr.same_new hl)).tup (.of upd_same))⟩⟩
  · cases hc
    obtain ⟨v, rfl, hv⟩ := one_inv hx
    obtain ⟨p, ys, rfl, hp, hys⟩ := hv.tup_inv
    exact ⟨p, ys, rfl, .inr ⟨hp, q _ _ (.refl _) (hys.tup hp)⟩⟩
  · cases hc
theorem rc_list : RDsL K A (rLstO K) gList := fun {O H xs ds} ho hx es hc Q q => by
  unfold gList at hc
  split at hc
  · cases hc
    obtain ⟨v, rfl, hv⟩ := one_inv hx
    obtain ⟨p, ys, rfl, hp, hnp, hys⟩ := hv.lst_inv
    exact ⟨p, ys, rfl, .inl (sq_of hp), fun l hl => q l ys _ hl (Cr.same_new hl) upd_same ((hys.more hl).same (Cr.same_new hl))⟩
  · cases hc
    obtain ⟨v, rfl, hv⟩ := one_inv hx
    obtain ⟨p, ys, rfl, hp, hys⟩ := hv.tup_inv
    exact ⟨p, ys, rfl, .inr hp, fun l hl => q l ys _ hl (Cr.same_new hl) upd_same ((hys.more hl).same (Cr.same_new hl))⟩
  · cases hc
theorem rc_max : RDs K A rMax2 gMax := fun {O H xs ds} ho hx c hc Q q => by
  unfold gMax at hc
  split at hc
  · cases hc
    obtain ⟨v, ws, rfl, h1, h2⟩ := hx.head
    obtain ⟨u, rfl, h3⟩ := one_inv h2
    cases h1.int_inv; cases h3.int_inv
    exact ⟨_, _, rfl, q _ _ (.refl _) (.int _)⟩
  · cases hc
/-- len of a slot, own or not -/
def fLenV (i : Nat) : FE := fun ρ => match ρ[i]? with
  | some (.val d) => gLen [d]
  | some (.own ds) => some (.int ds.length)
  | _ => none
theorem se_lenV (i : Nat) : SE K A (tCB (rLenX K) (tCons (tVar i) tNil)) (fLenV i) := fun {H0 O0 O σ H ρ} R d hd Q q => by
  unfold fLenV at hd
  split at hd
  · rename_i d' hi
    obtain ⟨v, h1, h2⟩ := R.val i d' hi
    exact ⟨v, h1, rc_len R.owl (.cons h2 .nil) d hd Q q⟩
  · rename_i ds hi
    cases hd
    obtain ⟨p, xs, s1, s2, s3, s4, s5⟩ := R.own i ds hi
    exact ⟨_, s1, _, _, rfl, .inl ⟨xs, sq_of s4, s5.1.symm⟩, q _ _ (.refl _) (.int _)⟩
  · cases hd
/-- isinstance of data and a built-in class -/
theorem se_isi {te : TE} {fe : FE} {n : String} (h : SE K A te fe) : SE K A (tCB (rIsi K) (tCons te (tCons (tC (.ty n)) tNil))) (fCall (gIsi n) (fCons fe fNil)) := fun {H0 O0 O σ H ρ} R d hd Q q => by
  obtain ⟨ds, h1, h2⟩ := bind_some' hd
  obtain ⟨a, h3, h4⟩ := bind_some' h1
  cases h4
  obtain ⟨t, h5, h6⟩ := bind_some' (show ((tyO a).bind fun t => (kitB t n).bind fun b => some (PyData.bool b)) = some d from h2)
  obtain ⟨c, h7, h8⟩ := bind_some' h6
  cases h8
  refine h R a h3 _ fun v H1 e1 hv => ?_
  have ht : TyX K H1 v (.type t) := by
    cases hv with
    | int i => cases h5; exact .base (.int i)
    | str i => cases h5; exact .base (.str i)
    | bl i => cases h5; exact .base (.bl i)
    | tup hs _ _ =>
      cases h5
      rcases hs with (hs | ⟨o, hs⟩) | ⟨o, its, n, hk, hc, _⟩
      · exact .base (.tup hs)
      · exact .fTuple hs
      · exact .kTuple hk hc
    | non => cases h5
    | lst => cases h5
    | fn => cases h5
  exact ⟨v, .ty n, _, _, c, rfl, .ty n, ht, kit_ty h7, q _ _ e1 (.bl _)⟩
end
/-! ### walks -/
def fSeqI (fe : FE) : FA := fun ρ => (fe ρ).bind fun d => match d with
  | .list ds => some ds
  | .tuple ds => some ds
  | .str z => some (z.cps.toList.map fun c => .str ⟨#[c]⟩)
  | _ => none
def rngD (lo : Int) (n : Nat) : List PyData := (List.range n).map fun (i : Nat) => PyData.int (lo + (i : Int))
def fRng1 (fa : FA) : FA := fun ρ => (fa ρ).bind fun ds => match ds with
  | [.int n] => if -10000000 ≤ n ∧ n ≤ 10000000 then some (rngD 0 n.toNat) else none
  | _ => none
def fRng2 (fa : FA) : FA := fun ρ => (fa ρ).bind fun ds => match ds with
  | [.int a, .int b] => if (-10000000 ≤ a ∧ a ≤ 10000000) ∧ (-10000000 ≤ b ∧ b ≤ 10000000) then some (rngD a (b - a).toNat) else none
  | _ => none
def enuD : Nat → List PyData → List PyData
  | _, [] => []
  | i, d :: ds => .tuple [.int i, d] :: enuD (i + 1) ds
def fEnu (fa : FA) : FA := fun ρ => (fa ρ).bind fun ds => match ds with
  | [.list ds] => some (enuD 0 ds)
  | [.tuple ds] => some (enuD 0 ds)
  | _ => none
def zipD : List PyData → List PyData → List PyData
  | d :: ds, e :: es => .tuple [d, e] :: zipD ds es
  | _, _ => []
def fZip (fa : FA) : FA := fun ρ => (fa ρ).bind fun ds => match ds with
  | [.list ds, .list es] => some (zipD ds es)
  | [.tuple ds, .tuple es] => some (zipD ds es)
  | _ => none
section
variable {K : PySem.W.Frag} {A : Atm} {te : TE} {fe : FE} {ta : TA} {fa : FA}
theorem wk_list {O : Addr → Prop} {H : Hp} {p : Addr} {xs : List V} {ds : List PyData} (hp : H p = some (.lst xs)) (hn : ¬ O p) (h : Fds K A O H xs ds) (ho : Owl O H) : Wk K A O H (Itl K p) ds := by
  refine ⟨_, _, h.1 ▸ walk_list (xs := xs), fun O' H' ho' ev => ⟨sq_of (ev _ _ hp hn).1, fun i x H2 hi hy => ?_⟩⟩
  obtain ⟨rfl, hx⟩ := hy
  obtain ⟨d, hd, hv⟩ := h.get' hx
  exact ⟨.refl _, d, hd, hv.evo ho ev⟩
theorem wk_tup {O : Addr → Prop} {H : Hp} {p : Addr} {xs : List V} {ds : List PyData} (hp : SqT K H p xs) (h : Fds K A O H xs ds) (ho : Owl O H) : Wk K A O H (Itt K p) ds := by
  refine ⟨_, _, h.1 ▸ walk_tup (xs := xs), fun O' H' ho' ev => ⟨sqT_evo ho ev hp, fun i x H2 hi hy => ?_⟩⟩
  obtain ⟨rfl, hx⟩ := hy
  obtain ⟨d, hd, hv⟩ := h.get' hx
  exact ⟨.refl _, d, hd, hv.evo ho ev⟩
theorem si_seq (h : SE K A te fe) : SI K A (iSeq K te) (fSeqI fe) := fun R ds hds Rr q => by
  obtain ⟨d, h1, h2⟩ := bind_some' hds
  cases d <;> try cases h2
  · refine .inr (.inr (h R _ h1 _ fun v H1 e1 hv => ⟨_, hv.str_inv, q _ _ e1 ?_⟩))
    rename_i z
    refine ⟨_, _, by rw [List.length_map, Array.length_toList]; exact walk_str (z := z), fun O' H' ho' ev => ⟨trivial, fun i x H2 hi hy => ?_⟩⟩
    obtain ⟨rfl, c, hc, rfl⟩ := hy
    exact ⟨.refl _, .str ⟨#[c]⟩, by rw [List.getElem?_map, Array.getElem?_toList, hc]; rfl, .str _⟩
  · refine .inl (h R _ h1 _ fun v H1 e1 hv => ?_)
    obtain ⟨p, xs, rfl, hp, hnp, hxs⟩ := hv.lst_inv
    exact ⟨p, rfl, ⟨xs, sq_of hp⟩, q _ _ e1 (wk_list hp hnp hxs (R.owl.same e1))⟩
  · refine .inr (.inl (h R _ h1 _ fun v H1 e1 hv => ?_))
    obtain ⟨p, xs, rfl, hp, hxs⟩ := hv.tup_inv
    exact ⟨p, rfl, ⟨xs, hp⟩, q _ _ e1 (wk_tup hp hxs (R.owl.same e1))⟩
theorem wk_rng {O : Addr → Prop} {H : Hp} (lo : Int) (n : Nat) : Wk K A O H (Itr lo n) (rngD lo n) := by
  refine ⟨_, _, by unfold rngD; rw [List.length_map, List.length_range]; exact walk_range (lo := lo) (n := n), fun O' H' ho' ev => ⟨trivial, fun i x H2 hi hy => ?_⟩⟩
  obtain ⟨rfl, rfl⟩ := hy
  unfold rngD at hi ⊢
  rw [List.length_map, List.length_range] at hi
  exact ⟨.refl _, .int (lo + i), by rw [List.getElem?_map, List.getElem?_range hi]; rfl, .int _⟩
theorem si_rng1 (h : SA K A ta fa) : SI K A (iRng1 ta) (fRng1 fa) := fun R ds hds Rr q => by
  obtain ⟨es, h1, h2⟩ := bind_some' hds
  split at h2
  · rename_i n
    split at h2
    · cases h2
      refine h R _ h1 _ fun vs H1 e1 hvs => ?_
      obtain ⟨v, rfl, hv⟩ := one_inv hvs
      cases hv.int_inv
      exact ⟨n, rfl, by omega, by omega, q _ _ e1 (wk_rng 0 n.toNat)⟩
    · cases h2
  · cases h2
theorem si_rng2 (h : SA K A ta fa) : SI K A (iRng2 ta) (fRng2 fa) := fun R ds hds Rr q => by
  obtain ⟨es, h1, h2⟩ := bind_some' hds
  split at h2
  · rename_i a b
    split at h2
    · cases h2
      refine h R _ h1 _ fun vs H1 e1 hvs => ?_
      obtain ⟨v, ws, rfl, hv, hws⟩ := hvs.head
      obtain ⟨u, rfl, hu⟩ := one_inv hws
      cases hv.int_inv; cases hu.int_inv
      exact ⟨a, b, rfl, ⟨by omega, by omega, by omega, by omega⟩, q _ _ e1 (wk_rng a (b - a).toNat)⟩
    · cases h2
  · cases h2
theorem enu_get : ∀ (k : Nat) (ds : List PyData) (i : Nat) (d : PyData), ds[i]? = some d → (enuD k ds)[i]? = some (.tuple [.int ((k + i : Nat) : Int), d])
  | _, [], i, d, h => by simp at h
  | k, e :: ds, 0, d, h => by cases h; rfl
  | k, e :: ds, i + 1, d, h => by
    show (enuD (k + 1) ds)[i]? = _
    rw [enu_get (k + 1) ds i d (by simpa using h), show k + 1 + i = k + (i + 1) by omega]
theorem enu_len : ∀ (k : Nat) (ds : List PyData), (enuD k ds).length = ds.length
  | _, [] => rfl
  | k, d :: ds => by show (enuD (k + 1) ds).length + 1 = _; rw [enu_len]; rfl
theorem zip_get : ∀ (ds es : List PyData) (i : Nat) (d e : PyData), ds[i]? = some d → es[i]? = some e → (zipD ds es)[i]? = some (.tuple [d, e])
  | [], _, i, d, e, h, _ => by simp at h
  | _ :: _, [], i, d, e, _, h => by simp at h
  | a :: ds, b :: es, 0, d, e, h, h' => by cases h; cases h'; rfl
  | a :: ds, b :: es, i + 1, d, e, h, h' => by
    show (zipD ds es)[i]? = _
    exact zip_get ds es i d e (by simpa using h) (by simpa using h')
theorem zip_len : ∀ (ds es : List PyData), (zipD ds es).length = min ds.length es.length
  | [], es => by simp [zipD]
  | _ :: _, [] => by simp [zipD]
  | a :: ds, b :: es => by show (zipD ds es).length + 1 = _; rw [zip_len]; simp
theorem si_enu (h : SA K A ta fa) : SI K A (iEnu K ta) (fEnu fa) := fun {H0 O0 O σ H ρ} R ds hds Rr q => by
  obtain ⟨es, h1, h2⟩ := bind_some' hds
  split at h2
  · rename_i ds'
    cases h2
    refine .inl (h R _ h1 _ fun vs H1 e1 hvs => ?_)
    obtain ⟨v, rfl, hv⟩ := one_inv hvs
    obtain ⟨p, xs, rfl, hp, hnp, hxs⟩ := hv.lst_inv
    refine ⟨p, xs, rfl, sq_of hp, q _ _ e1 ⟨_, _, by rw [enu_len, ← hxs.1]; exact walk_enum (xs := xs), fun O' H' ho' ev => ⟨sq_of (ev _ _ hp hnp).1, fun i x H2 hi hy => ?_⟩⟩⟩
    obtain ⟨T, a, b, rfl, hT, rfl, f1, f2⟩ := hy
    cases f1
    obtain ⟨d, hd, hb⟩ := hxs.get' f2
    refine ⟨Cr.same_new hT, _, by rw [enu_get 0 ds' i d hd, Nat.zero_add], ?_⟩
    exact (Fds.cons (.int _) (.cons ((hb.evo (R.owl.same e1) ev).same (Cr.same_new hT)) .nil)).tup (.of upd_same)
  · rename_i ds'
    cases h2
    refine .inr (h R _ h1 _ fun vs H1 e1 hvs => ?_)
    obtain ⟨v, rfl, hv⟩ := one_inv hvs
    obtain ⟨p, xs, rfl, hp, hxs⟩ := hv.tup_inv
    refine ⟨p, xs, rfl, hp, q _ _ e1 ⟨_, _, by rw [enu_len, ← hxs.1]; exact walk_enumT (xs := xs), fun O' H' ho' ev => ⟨sqT_evo (R.owl.same e1) ev hp, fun i x H2 hi hy => ?_⟩⟩⟩
    obtain ⟨T, a, b, rfl, hT, rfl, f1, f2⟩ := hy
    cases f1
    obtain ⟨d, hd, hb⟩ := hxs.get' f2
    refine ⟨Cr.same_new hT, _, by rw [enu_get 0 ds' i d hd, Nat.zero_add], ?_⟩
    exact (Fds.cons (.int _) (.cons ((hb.evo (R.owl.same e1) ev).same (Cr.same_new hT)) .nil)).tup (.of upd_same)
  · cases h2
theorem si_zip (h : SA K A ta fa) : SI K A (RZ.iZipA K ta) (fZip fa) := fun {H0 O0 O σ H ρ} R ds hds Rr q => by
  obtain ⟨es, h1, h2⟩ := bind_some' hds
  split at h2
  · rename_i ds1 ds2
    cases h2
    refine h R _ h1 _ fun vs H1 e1 hvs => ?_
    obtain ⟨v, ws, rfl, hv, hws⟩ := hvs.head
    obtain ⟨u, rfl, hu⟩ := one_inv hws
    obtain ⟨p, xs, rfl, hp, hnp, hxs⟩ := hv.lst_inv
    obtain ⟨p2, ys, rfl, hp2, hnp2, hys⟩ := hu.lst_inv
    refine ⟨p, p2, xs, ys, rfl, .inl ⟨sq_of hp, sq_of hp2, q _ _ e1 ⟨_, _, walk_zip (xs := xs) (ys := ys) (by rw [zip_len, hxs.1, hys.1]), fun O' H' ho' ev => ⟨⟨sq_of (ev _ _ hp hnp).1, sq_of (ev _ _ hp2 hnp2).1⟩, fun i x H2 hi hy => ?_⟩⟩⟩⟩
    obtain ⟨T, a, b, rfl, hT, rfl, f1, f2⟩ := hy
    obtain ⟨d, hd, ha⟩ := hxs.get' f1
    obtain ⟨e, he, hb⟩ := hys.get' f2
    refine ⟨Cr.same_new hT, _, zip_get ds1 ds2 i d e hd he, ?_⟩
    exact (Fds.cons ((ha.evo (R.owl.same e1) ev).same (Cr.same_new hT)) (.cons ((hb.evo (R.owl.same e1) ev).same (Cr.same_new hT)) .nil)).tup (.of upd_same)
  · rename_i ds1 ds2
    cases h2
    refine h R _ h1 _ fun vs H1 e1 hvs => ?_
    obtain ⟨v, ws, rfl, hv, hws⟩ := hvs.head
    obtain ⟨u, rfl, hu⟩ := one_inv hws
    obtain ⟨p, xs, rfl, hp, hxs⟩ := hv.tup_inv
    obtain ⟨p2, ys, rfl, hp2, hys⟩ := hu.tup_inv
    refine ⟨p, p2, xs, ys, rfl, .inr ⟨hp, hp2, q _ _ e1 ⟨_, _, Cr.walk_zipT (xs := xs) (ys := ys) (by rw [zip_len, hxs.1, hys.1]), fun O' H' ho' ev => ⟨⟨sqT_evo (R.owl.same e1) ev hp, sqT_evo (R.owl.same e1) ev hp2⟩, fun i x H2 hi hy => ?_⟩⟩⟩⟩
    obtain ⟨T, a, b, rfl, hT, rfl, f1, f2⟩ := hy
    obtain ⟨d, hd, ha⟩ := hxs.get' f1
    obtain ⟨e, he, hb⟩ := hys.get' f2
    refine ⟨Cr.same_new hT, _, zip_get ds1 ds2 i d e hd he, ?_⟩
    exact (Fds.cons ((ha.evo (R.owl.same e1) ev).same (Cr.same_new hT)) (.cons ((hb.evo (R.owl.same e1) ev).same (Cr.same_new hT)) .nil)).tup (.of upd_same)
  · cases h2
end
end Sm
set_option maxRecDepth 10000000
/-! stars, in-place sums, comprehensions with two clauses, sorted -/
namespace Sm
open PySem PySem.Spec PyProof.Rows L2 Evl CrT Cr
def fStar (fe : FE) (fr : FA) : FA := fun ρ => (fe ρ).bind fun a => match a with
  | .tuple ds => (fr ρ).bind fun r => some (ds ++ r)
  | .list ds => (fr ρ).bind fun r => some (ds ++ r)
  | _ => none
def fAug (i : Nat) (fe : FE) : FS := fun ρ => match ρ[i]? with
  | some (.val (.int a)) => (fe ρ).bind fun d => match d with
    | .int b => some (.nx, ρ.set i (.val (.int (a + b))))
    | _ => none
  | _ => none
section
variable {K : PySem.W.Frag} {A : Atm} {te : TE} {fe : FE} {tas : TA} {fas : FA}
theorem sa_star (ha : SE K A te fe) (hr : SA K A tas fas) : SA K A (StX.tStar K te tas) (fStar fe fas) := fun R ds h Q q => by
  obtain ⟨a, h1, h⟩ := bind_some' h
  cases a <;> try cases h
  · obtain ⟨r, h2, h3⟩ := bind_some' h
    cases h3
    refine ha R _ h1 _ fun v H1 e1 hv => ?_
    obtain ⟨p, xs, rfl, hp, hnp, hxs⟩ := hv.lst_inv
    exact ⟨p, xs, rfl, .inr (sq_of hp), hr (R.same e1) r h2 _ fun vs H2 e2 hvs => q _ H2 (e1.trans e2) ((hxs.same e2).app hvs)⟩
  · obtain ⟨r, h2, h3⟩ := bind_some' h
    cases h3
    refine ha R _ h1 _ fun v H1 e1 hv => ?_
    obtain ⟨p, xs, rfl, hp, hxs⟩ := hv.tup_inv
    exact ⟨p, xs, rfl, .inl hp, hr (R.same e1) r h2 _ fun vs H2 e2 hvs => q _ H2 (e1.trans e2) ((hxs.same e2).app hvs)⟩
theorem ss_aug {i : Nat} (h : SE K A te fe) : SS K A (tAug i te (ipI fun i j => i + j)) (fAug i fe) := fun {H0 O0 O σ H ρ} r o ho D p => by
  unfold fAug at ho
  split at ho
  · rename_i a hi
    obtain ⟨d, h1, h2⟩ := bind_some' ho
    cases d <;> try cases h2
    rename_i b
    obtain ⟨v, s1, s2⟩ := r.val i _ hi
    cases s2.int_inv
    refine ⟨_, s1, h r _ h1 _ fun u H1 e1 hu => ?_⟩
    exact ⟨a, b, rfl, hu.int_inv, p _ H1 O ((r.same e1).set i (.int _)) (.same e1)⟩
  · cases ho
/-! ### two clauses -/
def cStep2 (g : PyData → List Sl → Option (List Sl)) (t : FT) (fi : FA) (g1 : PyData → List Sl → Option (List Sl)) (t1 : FT) (e : FE) (vs1 : List Nat) (ρ : List Sl) : PyData → Option (List PyData) := fun d => (g d ρ).bind fun ρ1 => (t ρ1).bind fun b => if b then (fi ρ1).bind fun ds => compM (cStep g1 t1 e (wpS ρ1 vs1)) ds else some []
def catM (step : PyData → Option (List PyData)) : List PyData → Option (List PyData)
  | [] => some []
  | d :: ds => (step d).bind fun xs => (catM step ds).bind fun r => some (xs ++ r)
def fComp2 (fi : FA) (g : PyData → List Sl → Option (List Sl)) (t : FT) (fi1 : FA) (g1 : PyData → List Sl → Option (List Sl)) (t1 : FT) (e : FE) (vs vs1 : List Nat) : FA := fun ρ => (fi ρ).bind fun ds => (catM (cStep2 g t fi1 g1 t1 e vs1 (wpS ρ vs)) ds).bind fun r => lim r.length r
theorem sl_lc2 {wi wi1 : TI} {fi fi1 : FA} {tg tg1 : TG} {gg gg1 : PyData → List Sl → Option (List Sl)} {ws ws1 vs vs1 : List Nat} {tt tt1 : TT} {ft ft1 : FT} (hi : SI K A wi fi) (hg : SG K A tg gg ws) (hsub : ∀ i ∈ ws, i ∈ vs) (ht : ST K A tt ft) (hi1 : SI K A wi1 fi1) (hg1 : SG K A tg1 gg1 ws1) (hsub1 : ∀ i ∈ ws1, i ∈ vs1) (hvv : ∀ i ∈ vs1, i ∈ vs) (ht1 : ST K A tt1 ft1) (he : SE K A te fe) : SL K A (tLc2 wi tg tt wi1 tg1 tt1 te vs vs1) (fComp2 fi gg ft fi1 gg1 ft1 fe vs vs1) := fun {H0 O0 O σ H ρ} r rs hr Q q => by
  obtain ⟨ds, h1, h2⟩ := bind_some' hr
  obtain ⟨rs', h3, h4⟩ := bind_some' h2
  obtain ⟨h5, rfl⟩ := lim_some h4
  refine hi r ds h1 _ fun J H1 e1 wk Dl hD => ?_
  obtain ⟨G, Y, w, hw⟩ := wk
  have r1 := (r.same e1).wipe vs
  -- what holds between the turns: done is made, rest is to come
  let Pv : Nat → Hp → Prop := fun i H' => ∃ acc done rst, Same H1 H' ∧ H' Dl = some (.lst acc) ∧ Fds K A (Osn O Dl) H' acc done ∧ catM (cStep2 gg ft fi1 gg1 ft1 fe vs1 (wpS ρ vs)) (ds.drop i) = some rst ∧ rs' = done ++ rst
  have hP0 : Pv 0 (upd H1 Dl (.lst [])) := ⟨[], [], rs', same_new hD, upd_same, .nil, h3, rfl⟩
  refine ⟨fun i m H => m = ds.length - i ∧ i ≤ ds.length ∧ Pv i H, ⟨ds.length, by simp, Nat.zero_le _, hP0⟩, ?_⟩
  rintro i m H' ⟨rfl, hile, hP⟩
  obtain ⟨acc, done, rst, e, hDl, hacc, hc, hrs⟩ := hP
  have r2 := r1.osn hD e hDl
  have ev : Evo O H1 (Osn O Dl) H' := fun a o ha hn => ⟨e _ _ ha, fun h => by
    rcases h with h | h
    · rw [h, hD] at ha
      cases ha
    · exact hn h⟩
  by_cases hlt : i < ds.length
  · refine .inr ⟨w.goes i H' hlt (hw _ H' r2.owl ev).1, Pv (i + 1), fun H'' p => ⟨ds.length - (i + 1), by omega, rfl, hlt, p⟩, fun x H2 hy => ?_⟩
    obtain ⟨e2, d, hd, hx⟩ := (hw (Osn O Dl) H' r2.owl ev).2 i x H2 hlt (w.yields i H' x H2 hlt (hw _ H' r2.owl ev).1 hy)
    have hdr : ds.drop i = d :: ds.drop (i + 1) := by
      obtain ⟨hlt, rfl⟩ := List.getElem?_eq_some_iff.mp hd
      exact List.drop_eq_getElem_cons hlt
    rw [hdr] at hc
    obtain ⟨ys, hs1, hs2⟩ := bind_some' hc
    obtain ⟨rr, hs3, hs4⟩ := bind_some' hs2
    cases hs4
    obtain ⟨ρ1, hs5, hs6⟩ := bind_some' hs1
    obtain ⟨b, hs7, hs8⟩ := bind_some' hs6
    refine hg (r2.same e2) hx ρ1 hs5 _ fun σ2 r3 l3 k3 o3 => ⟨?_, ht r3 b hs7 _ fun H3 e3 => ?_⟩
    · rw [wipe_ext (σ := L2.wipe σ vs) (by rw [l3]) (fun i hi => k3 i fun h => hi (hsub i h)), wipe_wipe]
    · cases b with
      | false =>
        cases hs8
        exact iteF ⟨acc, done, rr, e.trans (e2.trans e3), (e2.trans e3) _ _ hDl, hacc.same (e2.trans e3), hs3, by rw [hrs]; simp⟩
      | true =>
        have hs8 : ((fi1 ρ1).bind fun ds => compM (cStep gg1 ft1 fe (wpS ρ1 vs1)) ds) = some ys := hs8
        obtain ⟨es, hs9, hs10⟩ := bind_some' hs8
        refine iteT (hi1 (r3.same e3) es hs9 _ fun J1 H4 e4 wk1 => ?_)
        obtain ⟨G1, Y1, w1, hw1⟩ := wk1
        have r4 := (r3.same (e3.trans e4)).wipe vs1
        have e24 := (e2.trans e3).trans e4
        have hD4 : H4 Dl = some (.lst acc) := e24 _ _ hDl
        -- within: the list grows from acc
        let Pw : Nat → Hp → Prop := fun j H5 => ∃ acc' mid rst', (∀ a o, a ≠ Dl → H4 a = some o → H5 a = some o) ∧ H5 Dl = some (.lst acc') ∧ Fds K A (Osn O Dl) H5 acc' (done ++ mid) ∧ compM (cStep gg1 ft1 fe (wpS ρ1 vs1)) (es.drop j) = some rst' ∧ ys = mid ++ rst'
        refine ⟨fun j k H5 => k = es.length - j ∧ j ≤ es.length ∧ Pw j H5, ⟨es.length, by simp, Nat.zero_le _, acc, [], ys, fun _ _ _ h => h, hD4, by rw [List.append_nil]; exact hacc.same e24, hs10, rfl⟩, ?_⟩
        rintro j k H5 ⟨rfl, hjle, hQ⟩
        obtain ⟨acc', mid, rst', f5, hD5, hacc5, hc5, hys⟩ := hQ
        have ev5 : Evo (Osn O Dl) H4 (Osn O Dl) H5 := fun a o ha hn => ⟨f5 a o (fun h => hn (.inl h)) ha, hn⟩
        have s15 : Same H1 H5 := fun a o ha => f5 a o (fun h => by rw [h, hD] at ha; cases ha) (e24 _ _ (e _ _ ha))
        have ho5 : Owl (Osn O Dl) H5 := fun a h => by
          rcases h with rfl | h
          · exact ⟨_, hD5⟩
          · obtain ⟨zs, hz⟩ := r1.owl a h
            exact ⟨zs, s15 _ _ hz⟩
        have r5 : Rl K A H0 O0 (Osn O Dl) (L2.wipe σ2 vs1) H5 (wpS ρ1 vs1) := ⟨r4.len, fun i d h => by
            obtain ⟨v, a1, a2⟩ := r4.val i d h
            exact ⟨v, a1, a2.evo r4.owl ev5⟩, fun i es h => by
            obtain ⟨p, xs, a1, a2, a3, a4, a5⟩ := r4.own i es h
            obtain ⟨g1, g2⟩ := o3 i es (wpS_own h)
            obtain ⟨p', xs', b1, b2, b3, b4, b5⟩ := r1.own i es g1
            have hs2 := (wipe_some a1).1
            rw [k3 i g2, b1] at hs2
            cases hs2
            have hpD : p ≠ Dl := fun hp => by
              rw [hp, hD] at b4
              cases b4
            exact ⟨p, xs, a1, a2, a3, f5 _ _ hpD a4, a5.evo r4.owl ev5⟩, r4.inj, ho5, r1.frm.trans s15, r4.sub, r4.old⟩
        have ev5' : Evo O H1 (Osn O Dl) H5 := fun a o ha hn => ⟨s15 _ _ ha, fun h => by
          rcases h with h | h
          · rw [h, hD] at ha
            cases ha
          · exact hn h⟩
        by_cases hlt1 : j < es.length
        · refine .inr ⟨w1.goes j H5 hlt1 (hw1 _ H5 ho5 ev5).1, Pw (j + 1), fun H'' p => ⟨es.length - (j + 1), by omega, rfl, hlt1, p⟩, fun x1 H6 hy1 => ?_⟩
          obtain ⟨e6, d1, hd1, hx1⟩ := (hw1 (Osn O Dl) H5 ho5 ev5).2 j x1 H6 hlt1 (w1.yields j H5 x1 H6 hlt1 (hw1 _ H5 ho5 ev5).1 hy1)
          have hdr1 : es.drop j = d1 :: es.drop (j + 1) := by
            obtain ⟨hlt, rfl⟩ := List.getElem?_eq_some_iff.mp hd1
            exact List.drop_eq_getElem_cons hlt
          rw [hdr1] at hc5
          obtain ⟨o', hs1', hs2'⟩ := bind_some' hc5
          obtain ⟨rr', hs3', hs4'⟩ := bind_some' hs2'
          obtain ⟨ρ2, hs5', hs6'⟩ := bind_some' hs1'
          obtain ⟨b', hs7', hs8'⟩ := bind_some' hs6'
          refine hg1 (r5.same e6) hx1 ρ2 hs5' _ fun σ3 r6 l6 k6 _ => ⟨?_, ht1 r6 b' hs7' _ fun H7 e7 => ?_⟩
          · rw [wipe_ext (σ := L2.wipe σ2 vs1) (by rw [l6]) (fun i hi => k6 i fun h => hi (hsub1 i h)), wipe_wipe]
          · have keep : ∀ H8, Same H5 H8 → ∀ a o, a ≠ Dl → H4 a = some o → H8 a = some o := fun H8 s a o ha h => s _ _ (f5 a o ha h)
            cases b' with
            | true =>
              obtain ⟨y, hy1', hy2'⟩ := bind_some' (show ((fe ρ2).bind fun y => some (some y)) = some o' from hs8')
              cases hy2'
              cases hs4'
              refine iteT (he (r6.same e7) y hy1' _ fun v H8 e8 hv => ?_)
              have e58 := (e6.trans e7).trans e8
              have hD8 : H8 Dl = some (.lst acc') := e58 _ _ hD5
              have hacc8 := hacc5.same e58
              have ho8 : Owl (Osn O Dl) H8 := ho5.same e58
              have ev8 : Evo (Osn O Dl) H8 (Osn O Dl) (upd H8 Dl (.lst (acc' ++ [v]))) := fun a o ha hn => ⟨by
                rw [upd_ne (fun e => hn (.inl e))]
                exact ha, hn⟩
              refine ⟨acc', hD8, ?_, acc' ++ [v], mid ++ [y], rr', fun a o ha h => by rw [upd_ne ha]; exact keep H8 e58 a o ha h, upd_same, ?_, hs3', by rw [hys]; simp⟩
              · have h6 : acc'.length = (done ++ mid).length := hacc5.1
                have h7 : (done ++ (mid ++ y :: rr') ++ rr).length ≤ 10000000 := by rw [← hys, List.append_assoc, ← hrs]; exact h5
                simp only [List.length_append, List.length_cons] at h6 h7
                exact Nat.lt_of_lt_of_le (show acc'.length < 10000000 by omega) (by decide)
              · rw [← List.append_assoc]
                exact (hacc8.snoc hv).evo ho8 ev8
            | false =>
              cases hs8'
              cases hs4'
              exact iteF ⟨acc', mid, rr', fun a o ha h => keep H7 (e6.trans e7) a o ha h, (e6.trans e7) _ _ hD5, hacc5.same (e6.trans e7), hs3', hys⟩
        · have ej : j = es.length := by omega
          subst ej
          rw [List.drop_length] at hc5
          cases hc5
          rw [List.append_nil] at hys
          subst hys
          exact .inl ⟨w1.stops H5 (hw1 _ H5 ho5 ev5).1, acc', done ++ ys, rr, s15, hD5, hacc5, hs3, by rw [hrs]; simp⟩
  · have ei : i = ds.length := by omega
    subst ei
    rw [List.drop_length] at hc
    cases hc
    rw [List.append_nil] at hrs
    subst hrs
    exact .inl ⟨w.stops H' (hw _ H' r2.owl ev).1, q Dl acc H' (e1.free hD) (e1.trans e) hDl hacc⟩
end
end Sm
set_option maxRecDepth 10000000
/-! reckoning with the functions of data -/
namespace Sm
open PySem PySem.Spec PyProof.Rows L2 Evl CrT Cr
theorem charNat {c d : Char} (h : c.toNat = d.toNat) : c = d := by
  apply Char.ext
  exact UInt32.toNat_inj.mp h
theorem strEq (a b : String) : (Str.ofString a = Str.ofString b) = (a = b) := by
  apply propext
  constructor
  · intro h
    rw [Str.ofString_eq_toList, Str.ofString_eq_toList] at h
    injection h with h
    injection h with h
    have h2 : ∀ {l m : List Char}, l.map Char.toNat = m.map Char.toNat → l = m := by
      intro l
      induction l with
      | nil => intro m h; cases m <;> simp at h ⊢
      | cons x l ih =>
        intro m h
        cases m with
        | nil => simp at h
        | cons y m =>
          simp only [List.map_cons, List.cons.injEq] at h
          rw [charNat h.1, ih h.2]
    exact String.toList_inj.mp (h2 h)
  · intro h
    rw [h]
def resF (o : Option (Fl × List Sl)) : Option PyData := match o with
  | some (.rt d, _) => some d
  | some (.nx, _) => some .none
  | _ => none
theorem run_1 {n : Nat} {f : FS} {a : PyData} : runF n 1 f [a] = resF (f (.val a :: List.replicate (n - 1) .un)) := rfl
theorem run_2 {n : Nat} {f : FS} {a b : PyData} : runF n 2 f [a, b] = resF (f (.val a :: .val b :: List.replicate (n - 2) .un)) := rfl
theorem run_3 {n : Nat} {f : FS} {a b c : PyData} : runF n 3 f [a, b, c] = resF (f (.val a :: .val b :: .val c :: List.replicate (n - 3) .un)) := rfl
theorem run_4 {n : Nat} {f : FS} {a b c d : PyData} : runF n 4 f [a, b, c, d] = resF (f (.val a :: .val b :: .val c :: .val d :: List.replicate (n - 4) .un)) := rfl
theorem ix0 {a : PyData} {as : List PyData} : atI (a :: as) 0 = some a := atI_nat (j := 0) rfl
theorem ix1 {a b : PyData} {as : List PyData} : atI (a :: b :: as) 1 = some b := atI_nat (j := 1) rfl
theorem ix2 {a b c : PyData} {as : List PyData} : atI (a :: b :: c :: as) 2 = some c := atI_nat (j := 2) rfl
theorem ix3 {a b c d : PyData} {as : List PyData} : atI (a :: b :: c :: d :: as) 3 = some d := atI_nat (j := 3) rfl
theorem lim_ok {α : Type} {n : Nat} {x : α} (h : n ≤ 10000000) : lim n x = some x := if_pos h
theorem then_nx {ρ : List Sl} {g : FS} : fThen (some (.nx, ρ)) g = g ρ := rfl
theorem then_rt {d : PyData} {ρ : List Sl} {g : FS} : fThen (some (.rt d, ρ)) g = some (.rt d, ρ) := rfl
theorem then_bk {ρ : List Sl} {g : FS} : fThen (some (.bk, ρ)) g = some (.bk, ρ) := rfl
theorem then_ct {ρ : List Sl} {g : FS} : fThen (some (.ct, ρ)) g = some (.ct, ρ) := rfl
theorem turn_nx {ρ : List Sl} {g : List Sl → Option (Fl × List Sl)} : fTurn (some (.nx, ρ)) g = g ρ := rfl
theorem turn_ct {ρ : List Sl} {g : List Sl → Option (Fl × List Sl)} : fTurn (some (.ct, ρ)) g = g ρ := rfl
theorem turn_bk {ρ : List Sl} {g : List Sl → Option (Fl × List Sl)} : fTurn (some (.bk, ρ)) g = some (.nx, ρ) := rfl
theorem turn_rt {d : PyData} {ρ : List Sl} {g : List Sl → Option (Fl × List Sl)} : fTurn (some (.rt d, ρ)) g = some (.rt d, ρ) := rfl
theorem res_rt {d : PyData} {ρ : List Sl} : resF (some (.rt d, ρ)) = some d := rfl
theorem asB_b {b : Bool} : asB (.bool b) = some b := rfl
theorem while_s {t : FT} {b : FS} {n : Nat} {ρ : List Sl} : fWhile t b (n + 1) ρ = (t ρ).bind fun x => if x then fTurn (b ρ) (fWhile t b n) else some (.nx, ρ) := rfl
theorem loop_n {g : PyData → List Sl → Option (List Sl)} {b : FS} {ρ : List Sl} : fLoop g b [] ρ = some (.nx, ρ) := rfl
theorem loop_c {g : PyData → List Sl → Option (List Sl)} {b : FS} {d : PyData} {ds : List PyData} {ρ : List Sl} : fLoop g b (d :: ds) ρ = (g d ρ).bind fun ρ1 => fTurn (b ρ1) (fLoop g b ds) := rfl
theorem gIx_t {ds : List PyData} {i : Int} : gIx (.tuple ds) (.int i) = atI ds i := rfl
theorem gIx_l {ds : List PyData} {i : Int} : gIx (.list ds) (.int i) = atI ds i := rfl
theorem gAdd_i {i j : Int} : gAdd (.int i) (.int j) = some (.int (i + j)) := rfl
theorem gSub_i {i j : Int} : gSub (.int i) (.int j) = some (.int (i - j)) := rfl
theorem gAdd_t {xs ys : List PyData} : gAdd (.tuple xs) (.tuple ys) = lim (xs.length + ys.length) (.tuple (xs ++ ys)) := rfl
theorem gAdd_l {xs ys : List PyData} : gAdd (.list xs) (.list ys) = lim (xs.length + ys.length) (.list (xs ++ ys)) := rfl
theorem gLt_i {i j : Int} : gLt (.int i) (.int j) = some (.bool (decide (i < j))) := rfl
theorem gLe_i {i j : Int} : gLe (.int i) (.int j) = some (.bool (decide (i ≤ j))) := rfl
theorem gGt_i {i j : Int} : gGt (.int i) (.int j) = some (.bool (decide (j < i))) := rfl
theorem gGe_i {i j : Int} : gGe (.int i) (.int j) = some (.bool (decide (j ≤ i))) := rfl
theorem eq_i {i j : Int} : gEq (.int i) (.int j) = some (.bool (decide (i = j))) := rfl
theorem eq_s {x y : Str} : gEq (.str x) (.str y) = some (.bool (decide (x = y))) := rfl
theorem ne_i {i j : Int} : gNe (.int i) (.int j) = some (.bool (!decide (i = j))) := rfl
theorem ne_s {x y : Str} : gNe (.str x) (.str y) = some (.bool (!decide (x = y))) := rfl
theorem gLen_t {ds : List PyData} : gLen [.tuple ds] = some (.int ds.length) := rfl
theorem gLen_l {ds : List PyData} : gLen [.list ds] = some (.int ds.length) := rfl
theorem gTup_l {ds : List PyData} : gTuple [.list ds] = some (.tuple ds) := rfl
theorem gTup_t {ds : List PyData} : gTuple [.tuple ds] = some (.tuple ds) := rfl
theorem gIn_t {x : Str} {ds : List PyData} (h : ds.all fl = true) : gIn (.str x) (.tuple ds) = some (.bool (ds.any fun z => eqF z (.str x))) := by
  show (inD _ _).bind _ = _
  unfold inD
  simp only [fl, h, Bool.and_self, if_true, Option.bind_some]
theorem gIn_l {x : Str} {ds : List PyData} (h : ds.all fl = true) : gIn (.str x) (.list ds) = some (.bool (ds.any fun z => eqF z (.str x))) := by
  show (inD _ _).bind _ = _
  unfold inD
  simp only [fl, h, Bool.and_self, if_true, Option.bind_some]
theorem gNi_l {x : Str} {ds : List PyData} (h : ds.all fl = true) : gNi (.str x) (.list ds) = some (.bool (!ds.any fun z => eqF z (.str x))) := by
  show (inD _ _).bind _ = _
  unfold inD
  simp only [fl, h, Bool.and_self, if_true, Option.bind_some]
end Sm
set_option maxRecDepth 10000000
/-! sorted; defs whose promise was shown otherwise -/
namespace Sm
open PySem PySem.Spec PyProof.Rows L2 Evl CrT Cr
def SortOk (ds : List PyData) : Prop := (PySem.W.AllAlike ds ∧ PySem.W.Sortable ds ∧ ∀ d ∈ ds, d.depth ≤ 60) ∧ ds.all (fun d => d.canLay0) = true
open Classical in
noncomputable def gSorted : List PyData → Option (List PyData)
  | [.list ds] => if SortOk ds then some (sortD ds) else none
  | [.tuple ds] => if SortOk ds then some (sortD ds) else none
  | _ => none
theorem gSorted_t {ds : List PyData} (h : SortOk ds) : gSorted [.tuple ds] = some (sortD ds) := if_pos h
theorem gSorted_l {ds : List PyData} (h : SortOk ds) : gSorted [.list ds] = some (sortD ds) := if_pos h
section
variable {K : PySem.W.Frag} {A : Atm} {O : Addr → Prop} {H : Hp}
theorem fds_sorted {xs : List V} {ds : List PyData} (h : Fds K A O H xs ds) : Fds K A O H ((sortZ xs ds).map Prod.fst) (sortD ds) := by
  rw [← sortZ_snd h.1]
  refine ⟨by rw [List.length_map, List.length_map], fun i v d h1 h2 => ?_⟩
  rw [List.getElem?_map] at h1 h2
  cases e : (sortZ xs ds)[i]? with
  | none => rw [e] at h1; cases h1
  | some z =>
    rw [e] at h1 h2
    cases h1
    cases h2
    have hz : z ∈ xs.zip ds := (List.mergeSort_perm _ _).mem_iff.mp (List.mem_of_getElem? e)
    obtain ⟨j, hj⟩ := List.mem_iff_getElem?.mp hz
    rw [List.getElem?_zip_eq_some] at hj
    exact h.2 j z.1 z.2 hj.1 hj.2
theorem fds_dp {xs : List V} {ds : List PyData} (h : Fds K A O H xs ds) (hc : ds.all (fun d => d.canLay0) = true) : DpAll K H xs ds := dp_all h.1 fun i v d h1 h2 => (h.2 i v d h1 h2).dp (List.all_eq_true.mp hc d (List.mem_of_getElem? h2))
theorem rc_sorted : RDsL K A (rSortedD K) gSorted := fun {O H xs ds} ho hx es hc Q q => by
  unfold gSorted at hc
  split at hc
  · split at hc
    · rename_i hs
      cases hc
      obtain ⟨v, rfl, hv⟩ := one_inv hx
      obtain ⟨p, ys, rfl, hp, hnp, hys⟩ := hv.lst_inv
      exact ⟨p, ys, _, rfl, .inl (sq_of hp), fds_dp hys hs.2, hs.1.1, hs.1.2.1, hs.1.2.2, fun l hl => q l _ _ hl (same_new hl) upd_same (((fds_sorted hys).more hl).same (same_new hl))⟩
    · cases hc
  · split at hc
    · rename_i hs
      cases hc
      obtain ⟨v, rfl, hv⟩ := one_inv hx
      obtain ⟨p, ys, rfl, hp, hys⟩ := hv.tup_inv
      exact ⟨p, ys, _, rfl, .inr hp, fds_dp hys hs.2, hs.1.1, hs.1.2.1, hs.1.2.2, fun l hl => q l _ _ hl (same_new hl) upd_same (((fds_sorted hys).more hl).same (same_new hl))⟩
    · cases hc
  · cases hc
end
/-! ### relations as functions -/
open Classical in
noncomputable def fnOf (R : List PyData → PyData → Prop) : Fn := fun ds => if h : ∃ r, R ds r then some h.choose else none
theorem fnOf_eq {R : List PyData → PyData → Prop} {ds : List PyData} {r : PyData} (hu : ∀ r', R ds r' → r' = r) (h : R ds r) : fnOf R ds = some r := by
  unfold fnOf
  have hx : ∃ r, R ds r := ⟨r, h⟩
  rw [dif_pos hx]
  exact congrArg some (hu _ hx.choose_spec)
theorem fnOf_inv {R : List PyData → PyData → Prop} {ds : List PyData} {r : PyData} (h : fnOf R ds = some r) : R ds r := by
  unfold fnOf at h
  split at h
  · rename_i hx
    cases h
    exact hx.choose_spec
  · cases h
end Sm
set_option maxRecDepth 10000000
/-! flat data; promises changed into one another -/
namespace Sm
open PySem PySem.Spec PyProof.Rows L2 Evl CrT Cr
abbrev A0 : Atm := fun _ _ => False
abbrev O0 : Addr → Prop := fun _ => False
theorem owl0 {H : Hp} : Owl O0 H := fun _ h => h.elim
theorem flat_kd {n : Nat} {k : Kd} (h : OkK n k) : flatD k.data = true := by
  induction h with
  | int => rw [Kd.data]; rfl
  | word => rw [Kd.data]; rfl
  | lst _ ih => rw [Kd.data]; simp [flatD, flatDs, ih]
  | tup _ _ ih =>
    rw [Kd.data, dataAll_map]
    have : flatDs (List.map Kd.data _) = true := flatDs_of fun d hd => by
      obtain ⟨k, hk, rfl⟩ := List.mem_map.mp hd
      exact ih k hk
    simp [flatD, flatDs, this]
mutual
theorem flat_isk : ∀ (k : Kd) (d : PyData), isk k d = true → flatD d = true
  | .int, d, h => by
    obtain ⟨i, rfl⟩ := isk_int h
    rfl
  | .word, d, h => by
    obtain ⟨i, rfl⟩ := isk_word h
    rfl
  | .lst k, d, h => by
    obtain ⟨ds, rfl, hd⟩ := isk_lst h
    rw [flatD]
    exact flatDs_of fun d hd' => flat_isk k d (hd d hd')
  | .tup ks, d, h => by
    obtain ⟨ds, rfl, hd⟩ := isk_tup h
    rw [flatD]
    exact flat_iskAll ks ds hd
theorem flat_iskAll : ∀ (ks : List Kd) (ds : List PyData), iskAll ks ds = true → flatDs ds = true
  | [], [], _ => by rw [flatDs]
  | [], _ :: _, h => by simp [iskAll] at h
  | _ :: _, [], h => by simp [iskAll] at h
  | k :: ks, d :: ds, h => by
    rw [iskAll] at h
    obtain ⟨h1, h2⟩ := Bool.and_eq_true_iff.mp h
    rw [flatDs, flat_isk k d h1, flat_iskAll ks ds h2]
    rfl
end
theorem flat_cd (c : Cd) : flatD c.data = true := by
  induction c <;> rw [Cd.data] <;> simp_all [flatD, flatDs]
theorem flat_mp (m : Mp) : flatD m.data = true := by
  cases m <;> rw [Mp.data] <;> simp [flatD, flatDs]
theorem flat_gn {k n : Nat} {g : Gn} (h : OkGk k n g) : flatD g.data = true := by
  induction h with
  | int => rw [Gn.data]; rfl
  | pick => 
    rw [Gn.data]
    have : ∀ ws : List Str, flatDs (ws.map PyData.str) = true := fun ws => flatDs_of fun d hd => by
      obtain ⟨w, _, rfl⟩ := List.mem_map.mp hd
      rfl
    simp [flatD, flatDs, this]
  | @tuple n gs _ _ ih =>
    rw [Gn.data, gnAll_map]
    have : flatDs (gs.map Gn.data) = true := flatDs_of fun d hd => by
      obtain ⟨g, hg, rfl⟩ := List.mem_map.mp hd
      exact ih g hg
    simp [flatD, flatDs, this]
  | list a b _ ih => rw [Gn.data]; simp [flatD, flatDs, ih]
  | @one n gs _ _ ih =>
    rw [Gn.data, gnAll_map]
    have : flatDs (gs.map Gn.data) = true := flatDs_of fun d hd => by
      obtain ⟨g, hg, rfl⟩ := List.mem_map.mp hd
      exact ih g hg
    simp [flatD, flatDs, this]
  | @kept n g c _ _ ih => rw [Gn.data]; simp [flatD, flatDs, ih, flat_cd c]
  | @turned n g m _ ih => rw [Gn.data]; simp [flatD, flatDs, ih, flat_mp m]
  | repeat_ _ _ ih1 ih2 => rw [Gn.data]; simp [flatD, flatDs, ih1, ih2]
def clMono {P : Program} {w : World} {K : PySem.W.Frag} {mg : Str → Option Value} {base : Heap} {x : Str} {ps : List Str} {k l : Nat} {sp : Sp} (c : Cl P w K mg base x ps k sp) (h : k ≤ l) : Cl P w K mg base x ps l sp := ⟨c.f, c.fd, c.ok.mono h, c.b, c.kp, c.m⟩
def clImp {P : Program} {w : World} {K : PySem.W.Frag} {mg : Str → Option Value} {base : Heap} {x : Str} {ps : List Str} {k : Nat} {sp sp' : Sp} (c : Cl P w K mg base x ps k sp) (h : ∀ vs H Q E, sp' vs H Q E → sp vs H Q E) : Cl P w K mg base x ps k sp' := ⟨c.f, c.fd, c.ok.imp h, c.b, c.kp, c.m⟩
end Sm
/-! tests of three links; len(set(t)) -/
namespace Sm
open PySem PySem.Spec PyProof.Rows L2 Evl CrT Cr CrU
def tChain3 (r r' r2 : R2) (ta tb tc td : TE) : TT := fun σ H Q => ta σ H fun x H1 => tb σ H1 fun y H2 => r x y H2 fun z H3 => ∃ k, z = .bl k ∧
  (if k = true then tc σ H3 fun u H4 => r' y u H4 fun z' H5 => ∃ k', z' = .bl k' ∧ (if k' = true then td σ H5 fun v H6 => r2 u v H6 fun z2 H7 => ∃ k2, z2 = .bl k2 ∧ Q k2 H7 else Q false H5) else Q false H3)
theorem pt_chain3 {X : Cx} {a b c d : Expr} {ta tb tc td : TE} {pos : Pos} {op op' op2 : CmpOp} {r r' r2 : R2} (ho : OpR X (compareOp op) r) (ho' : OpR X (compareOp op') r') (ho2 : OpR X (compareOp op2) r2) (ha : PE X a ta) (hb : PE X b tb) (hc : PE X c tc) (hd : PE X d td)
    (hm : lastMarks [op, op', op2] [b, c, d] = false := by with_unfolding_all rfl) : PT X (.Compare a [op, op', op2] [b, c, d] pos) (tChain3 r r' r2 ta tb tc td) := ⟨fun pins s σ H Q I h => by
  refine isTrue_chain (thn (ha.run pins s σ H _ I h) fun v s1 ⟨x, H1, I1, q1r, q1⟩ => test_link (thn (hb.run pins s1 σ H1 _ I1 q1) fun u s2 ⟨y, H2, I2, q2r, q2⟩ => thn (ho pins s2 σ H2 x y v u _ I2 q1r q2r q2) fun cv s3 ⟨z, H3, I3, q3r, k, e, q3⟩ => ?_)) hm
  subst e; cases q3r
  refine wpAny_truthy_bool ?_
  cases k with
  | false => exact ite_ff ⟨H3, I3, q3⟩
  | true =>
    refine ite_tt (test_link (thn (hc.run pins s3 σ H3 _ I3 q3) fun w s4 ⟨z4, H4, I4, q4r, q4⟩ => thn (ho' pins s4 σ H4 y z4 u w _ I4 q2r q4r q4) fun cv2 s5 ⟨z5, H5, I5, q5r, k2, e2, q5⟩ => ?_))
    subst e2; cases q5r
    refine wpAny_truthy_bool ?_
    cases k2 with
    | false => exact ite_ff ⟨H5, I5, q5⟩
    | true =>
      refine ite_tt (test_last (thn (hd.run pins s5 σ H5 _ I5 q5) fun w' s6 ⟨z6, H6, I6, q6r, q6⟩ => thn (ho2 pins s6 σ H6 z4 z6 w w' _ I6 q4r q6r q6) fun cv3 s7 ⟨z7, H7, I7, q7r, k3, e3, q7⟩ => ?_))
      subst e3; cases q7r
      exact wpAny_truthy_bool ⟨H7, I7, q7⟩⟩
def fChain3 (g g' g2 : F2) (a b c d : FE) : FT := fun ρ => (a ρ).bind fun x => (b ρ).bind fun y => (g x y).bind fun z => (asB z).bind fun z => if z then (c ρ).bind fun u => (g' y u).bind fun z => (asB z).bind fun z => if z then (d ρ).bind fun v => (g2 u v).bind asB else some false else some false
theorem st_chain3 {K : PySem.W.Frag} {A : Atm} {ta tb tc td : TE} {fa fb fc fd : FE} {r r' r2 : R2} {g g' g2 : F2} (ha : SE K A ta fa) (hb : SE K A tb fb) (hc : SE K A tc fc) (hd : SE K A td fd) (hr : RD K A r g) (hr' : RD K A r' g') (hr2 : RD K A r2 g2) : ST K A (tChain3 r r' r2 ta tb tc td) (fChain3 g g' g2 fa fb fc fd) := fun R d h Q q => by
  obtain ⟨x, h1, h⟩ := bind_some' h
  obtain ⟨y, h2, h⟩ := bind_some' h
  obtain ⟨z, h3, h⟩ := bind_some' h
  obtain ⟨c, h4, h⟩ := bind_some' h
  cases asB_some h4
  refine ha R x h1 _ fun vx H1 e1 hx => hb (R.same e1) y h2 _ fun vy H2 e2 hy => hr (R.owl.same (e1.trans e2)) (hx.same e2) hy _ h3 _ fun vz H3 e3 hz => ⟨c, hz.bl_inv, ?_⟩
  have e13 := (e1.trans e2).trans e3
  cases c with
  | false =>
    have h : some false = some d := h
    cases h
    exact iteF (q H3 e13)
  | true =>
    refine iteT ?_
    have h : ((fc _).bind fun u => (g' y u).bind fun z => (asB z).bind fun z => if z = true then (fd _).bind fun v => (g2 u v).bind asB else some false) = some d := h
    obtain ⟨u, h5, h⟩ := bind_some' h
    obtain ⟨z', h6, h⟩ := bind_some' h
    obtain ⟨c2, h7, h⟩ := bind_some' h
    cases asB_some h7
    refine hc (R.same e13) u h5 _ fun vu H4 e4 hu => hr' (R.owl.same (e13.trans e4)) (hy.same (e3.trans e4)) hu _ h6 _ fun vz' H5 e5 hz' => ⟨c2, hz'.bl_inv, ?_⟩
    have e15 := (e13.trans e4).trans e5
    cases c2 with
    | false =>
      have h : some false = some d := h
      cases h
      exact iteF (q H5 e15)
    | true =>
      refine iteT ?_
      have h : ((fd _).bind fun v => (g2 u v).bind asB) = some d := h
      obtain ⟨v, h8, h⟩ := bind_some' h
      obtain ⟨z2, h9, h10⟩ := bind_some' h
      cases asB_some h10
      exact hd (R.same e15) v h8 _ fun vv H6 e6 hv => hr2 (R.owl.same (e15.trans e6)) (hu.same (e5.trans e6)) hv _ h9 _ fun vz2 H7 e7 hz2 => ⟨d, hz2.bl_inv, q H7 ((e15.trans e6).trans e7)⟩
def strsOf : List PyData → Option (List Str)
  | [] => some []
  | .str s :: ds => (strsOf ds).bind fun r => some (s :: r)
  | _ => none
theorem strsOf_map : ∀ ws : List Str, strsOf (ws.map .str) = some ws
  | [] => rfl
  | w :: ws => by
    show (strsOf (ws.map .str)).bind _ = _
    rw [strsOf_map ws]
    rfl
def gLenW : F1
  | .tuple ds => (strsOf ds).bind fun ws => if ws.length ≤ 1000 then some (.int (metN ws ws.length : Nat)) else none
  | _ => none
theorem strsOf_v {K : PySem.W.Frag} {A : Atm} {O : Addr → Prop} {H : Hp} : ∀ {ds : List PyData} {xs : List V} {ws : List Str}, Fds K A O H xs ds → strsOf ds = some ws → xs = ws.map V.str
  | [], xs, ws, h, hw => by cases hw; rw [h.nil_inv]; rfl
  | d :: ds, xs, ws, h, hw => by
    cases d <;> try cases hw
    obtain ⟨r, h1, h2⟩ := bind_some' hw
    cases h2
    obtain ⟨v, vs, rfl, h3, h4⟩ := h.head
    rw [strsOf_v h4 h1, h3.str_inv]
    rfl
theorem se_lenW {K : PySem.W.Frag} {A : Atm} {te : TE} {fe : FE} (h : SE K A te fe) : SE K A (tLenW K te) (fUn gLenW fe) := fun R d hd Q q => by
  obtain ⟨a, h1, h2⟩ := bind_some' hd
  cases a <;> try cases h2
  obtain ⟨ws, h3, h4⟩ := bind_some' h2
  split at h4
  · rename_i hz
    cases h4
    refine h R _ h1 _ fun v H1 e1 hv => ?_
    obtain ⟨p, xs, rfl, hp, hxs⟩ := hv.tup_inv
    rw [strsOf_v hxs h3] at hp
    exact ⟨p, ws, rfl, hp, hz, q _ _ e1 (.int _)⟩
  · cases h4
theorem pa_starK {X : Cx} (K : PySem.W.Frag) {e : Expr} {es : List Expr} {p : Pos} {te : TE} {t : TA} (he : PE X e te) (hr : PA X es t) (hK : X.K = K := by rfl) (hs : starEach (.Starred e p :: es) X.env = (true, eval e X.env) :: starEach es X.env := by rfl) : PA X (.Starred e p :: es) (StX.tStar K te t) := by
  subst hK
  exact StX.pa_star he hr hs
end Sm
namespace Fb
open PySem PySem.Spec PyProof.Rows L2 Evl CrT Cr Sm
def b_kinds_in_tuple : FS :=
      (fSeq (fIfS (fAnd (fB (fCall (gIsi "tuple") (fCons (fVar 0) fNil))) (fB (fOp gEq (fOp gIx (fVar 0) (fC (.int 0))) (fC (.str "tuple"))))) (fRet (fOp gIx (fVar 0) (fC (.int 1)))) fNext)
      (fRet (fTup fNil)))
def b_kind_in_list : FS :=
      (fSeq (fIfS (fAnd (fB (fCall (gIsi "tuple") (fCons (fVar 0) fNil))) (fB (fOp gEq (fOp gIx (fVar 0) (fC (.int 0))) (fC (.str "list"))))) (fRet (fOp gIx (fVar 0) (fC (.int 1)))) fNext)
      (fRet (fC .none)))
def b_kind_behind (f_kinds_in_tuple : Fn) (f_kind_in_list : Fn) : FS :=
      (fSeq (fAsg (fOp gIx (fVar 0) (fC (.int 0))) (gS 2))
      (fSeq (fIfS (fB (fOp gIn (fVar 2) (fTup (fCons (fC (.str "plus")) (fCons (fC (.str "times")) fNil))))) (fRet (fIf (fAnd (fB (fOp gEq (fVar 1) (fC (.str "int")))) (fB (fChain gLe gLe (fUn gNeg (fC (.int 1000))) (fOp gIx (fVar 0) (fC (.int 1))) (fC (.int 1000))))) (fC (.str "int")) (fC .none))) fNext)
      (fSeq (fIfS (fB (fOp gEq (fVar 2) (fC (.str "item")))) (fSeq (fAsg (fCall f_kinds_in_tuple (fCons (fVar 1) fNil)) (gS 3))
        (fRet (fIf (fB (fChain gLe gLt (fC (.int 0)) (fOp gIx (fVar 0) (fC (.int 1))) (fLenV 3))) (fOp gIx (fVar 3) (fOp gIx (fVar 0) (fC (.int 1)))) (fC .none)))) fNext)
      (fSeq (fAsg (fCall f_kind_in_list (fCons (fVar 1) fNil)) (gS 4))
      (fSeq (fIfS (fB (fOp gIsN (fVar 4) (fC .none))) (fRet (fC .none)) fNext)
      (fSeq (fIfS (fB (fOp gEq (fVar 2) (fC (.str "length")))) (fRet (fC (.str "int"))) fNext)
      (fSeq (fIfS (fB (fOp gEq (fVar 2) (fC (.str "sum")))) (fRet (fIf (fB (fOp gEq (fVar 4) (fC (.str "int")))) (fC (.str "int")) (fC .none))) fNext)
      (fSeq (fIfS (fB (fOp gEq (fVar 2) (fC (.str "sorted")))) (fRet (fIf (fB (fOp gIn (fVar 4) (fTup (fCons (fC (.str "int")) (fCons (fC (.str "word")) fNil))))) (fVar 1) (fC .none))) fNext)
      (fRet (fVar 1))))))))))
noncomputable section
def b_turn : FS :=
      (fSeq (fAsg (fOp gIx (fVar 0) (fC (.int 0))) (gS 2))
      (fSeq (fIfS (fB (fOp gEq (fVar 2) (fC (.str "plus")))) (fRet (fOp gAdd (fVar 1) (fOp gIx (fVar 0) (fC (.int 1))))) fNext)
      (fSeq (fIfS (fB (fOp gEq (fVar 2) (fC (.str "times")))) (fRet (fOp gMul (fVar 1) (fOp gIx (fVar 0) (fC (.int 1))))) fNext)
      (fSeq (fIfS (fB (fOp gEq (fVar 2) (fC (.str "item")))) (fRet (fOp gIx (fVar 1) (fOp gIx (fVar 0) (fC (.int 1))))) fNext)
      (fSeq (fIfS (fB (fOp gEq (fVar 2) (fC (.str "length")))) (fRet (fLenV 1)) fNext)
      (fSeq (fIfS (fB (fOp gEq (fVar 2) (fC (.str "sum")))) (fRet (fCall gSum (fCons (fVar 1) fNil))) fNext)
      (fSeq (fIfS (fB (fOp gEq (fVar 2) (fC (.str "sorted")))) (fRet (fCall gTuple (fCons (fV (fCallL gSorted (fCons (fVar 1) fNil))) fNil))) fNext)
      (fRet (fUn gRev (fVar 1))))))))))
end
end Fb
namespace Fb
open PySem PySem.Spec PyProof.Rows L2 Evl CrT Cr Sm
def D_kit : Fn := runF 1 1 b_kinds_in_tuple
def D_kil : Fn := runF 1 1 b_kind_in_list
def listedK : Kd → Option Kd
  | .lst j => some j
  | _ => none
theorem isi_s (x : Str) : gIsi "tuple" [.str x] = some (.bool false) := by simp only [gIsi, tyO, Option.bind_some, k_st]
theorem isi_t (ds : List PyData) : gIsi "tuple" [.tuple ds] = some (.bool true) := by simp only [gIsi, tyO, Option.bind_some, k_tt]
theorem isi_i (i : Int) : gIsi "tuple" [.int i] = some (.bool false) := by simp only [gIsi, tyO, Option.bind_some, k_it]
theorem m_kit (k : Kd) : D_kit [k.data] = some (.tuple (dataAll k.parts)) := by
  unfold D_kit
  cases k <;> simp only [fSeq, fIfS, fRet, fAsg, fOwn, fApp, fExt, fBrk, fCnt, fDrop, fFrz, frz, fNext, fFor, fB, fAnd, fOr, fNot, fAndV, fOrV, fNotV, fIf, fChain, fOp, fUn, fVar, fC, fTup, fLst, fV, fCons, fNil, fCall, fCallL, fLenV, fSl, fPart, fNoPart, fStar, fAug, gS, gT, gN, gC, fSeqI, run_1, run_2, run_3, run_4, ix0, ix1, ix2, ix3, then_nx, then_rt, then_bk, then_ct, turn_nx, turn_ct, turn_bk, turn_rt, res_rt, asB_b, gIx_t, gIx_l, gAdd_i, gSub_i, gLt_i, gLe_i, gGt_i, gGe_i, eq_i, eq_s, ne_i, ne_s, gLen_t, gLen_l, gTup_l, gTup_t, strEq, Option.bind_some, List.getElem?_cons_zero, List.getElem?_cons_succ, List.set_cons_zero, List.set_cons_succ, List.replicate_succ, List.replicate_zero, Nat.reduceSub, Nat.reduceAdd, if_true, if_false, decide_true, decide_false, Bool.not_true, Bool.not_false, Bool.false_eq_true, String.reduceEq, reduceIte, List.length_cons, List.length_nil, Nat.reduceLeDiff, lim, b_kinds_in_tuple, Kd.data, Kd.parts, dataAll, isi_s, isi_t]
theorem m_kil (k : Kd) : D_kil [k.data] = some (match listedK k with | none => .none | some j => j.data) := by
  unfold D_kil
  cases k <;> simp only [fSeq, fIfS, fRet, fAsg, fOwn, fApp, fExt, fBrk, fCnt, fDrop, fFrz, frz, fNext, fFor, fB, fAnd, fOr, fNot, fAndV, fOrV, fNotV, fIf, fChain, fOp, fUn, fVar, fC, fTup, fLst, fV, fCons, fNil, fCall, fCallL, fLenV, fSl, fPart, fNoPart, fStar, fAug, gS, gT, gN, gC, fSeqI, run_1, run_2, run_3, run_4, ix0, ix1, ix2, ix3, then_nx, then_rt, then_bk, then_ct, turn_nx, turn_ct, turn_bk, turn_rt, res_rt, asB_b, gIx_t, gIx_l, gAdd_i, gSub_i, gLt_i, gLe_i, gGt_i, gGe_i, eq_i, eq_s, ne_i, ne_s, gLen_t, gLen_l, gTup_l, gTup_t, strEq, Option.bind_some, List.getElem?_cons_zero, List.getElem?_cons_succ, List.set_cons_zero, List.set_cons_succ, List.replicate_succ, List.replicate_zero, Nat.reduceSub, Nat.reduceAdd, if_true, if_false, decide_true, decide_false, Bool.not_true, Bool.not_false, Bool.false_eq_true, String.reduceEq, reduceIte, List.length_cons, List.length_nil, Nat.reduceLeDiff, lim, b_kind_in_list, Kd.data, listedK, isi_s, isi_t]
def D_behind : Fn := runF 5 2 (b_kind_behind D_kit D_kil)
theorem eq_int (k : Kd) (h : ∃ n, OkK n k ∧ n ≤ 20) : gEq k.data (.str "int") = some (.bool k.isInt) := by
  obtain ⟨n, hk, hn⟩ := h
  have hs := OkK.shaped hk hn
  have e := eqv_int k
  cases k with
  | int => rw [Kd.data]; simp only [eq_s, decide_true, Kd.isInt]
  | word => rw [Kd.data]; simp only [fSeq, fIfS, fRet, fAsg, fOwn, fApp, fExt, fBrk, fCnt, fDrop, fFrz, frz, fNext, fFor, fB, fAnd, fOr, fNot, fAndV, fOrV, fNotV, fIf, fChain, fOp, fUn, fVar, fC, fTup, fLst, fV, fCons, fNil, fCall, fCallL, fLenV, fSl, fPart, fNoPart, fStar, fAug, gS, gT, gN, gC, fSeqI, run_1, run_2, run_3, run_4, ix0, ix1, ix2, ix3, then_nx, then_rt, then_bk, then_ct, turn_nx, turn_ct, turn_bk, turn_rt, res_rt, asB_b, gIx_t, gIx_l, gAdd_i, gSub_i, gLt_i, gLe_i, gGt_i, gGe_i, eq_i, eq_s, ne_i, ne_s, gLen_t, gLen_l, gTup_l, gTup_t, strEq, Option.bind_some, List.getElem?_cons_zero, List.getElem?_cons_succ, List.set_cons_zero, List.set_cons_succ, List.replicate_succ, List.replicate_zero, Nat.reduceSub, Nat.reduceAdd, if_true, if_false, decide_true, decide_false, Bool.not_true, Bool.not_false, Bool.false_eq_true, String.reduceEq, reduceIte, List.length_cons, List.length_nil, Nat.reduceLeDiff, lim, Kd.isInt]
  | lst j =>
    rw [Kd.data] at hs e ⊢
    show (eqD _ _).bind _ = _
    unfold eqD
    simp only [hs, shaped_int, e, Bool.and_self, if_true, Option.bind_some]
  | tup ks =>
    rw [Kd.data] at hs e ⊢
    show (eqD _ _).bind _ = _
    unfold eqD
    simp only [hs, shaped_int, e, Bool.and_self, if_true, Option.bind_some]
theorem any2 (x : Str) (a b : Str) : ([.str a, .str b] : List PyData).any (fun z => eqF z (.str x)) = (decide (a = x) || decide (b = x)) := by simp [eqF]
theorem dataAll_get {ks : List Kd} {i : Nat} (h : i < ks.length) : atI (dataAll ks) (i : Int) = some (ks.getD i .int).data := by
  apply atI_nat
  rw [dataAll_map, List.getElem?_map, getD_at (a0 := Kd.int) h]
  rfl
theorem kd_int : Kd.int.data = .str "int" := by rw [Kd.data]
theorem isN_kd (j : Kd) : gIsN j.data .none = some (.bool false) := by cases j <;> rfl
theorem lst_ok {j : Kd} (h : ∃ n, OkK n (.lst j) ∧ n ≤ 20) : ∃ n, OkK n j ∧ n ≤ 20 := by
  obtain ⟨n, hk, hn⟩ := h
  cases hk with
  | lst h => exact ⟨_, h, by omega⟩
theorem in_flat (k : Kd) (h : ∃ n, OkK n k ∧ n ≤ 20) : gIn k.data (.tuple [.str "int", .str "word"]) = some (.bool k.isFlat) := by
  obtain ⟨n, hk, hn⟩ := h
  have hs := OkK.shaped hk hn
  have e := flat_in k
  have sf : SeqAt.shaped (.tuple [.str "int", .str "word"]) = true := by decide +kernel
  cases k with
  | int => rw [Kd.data]; simp only [fSeq, fIfS, fRet, fAsg, fOwn, fApp, fExt, fBrk, fCnt, fDrop, fFrz, frz, fNext, fFor, fB, fAnd, fOr, fNot, fAndV, fOrV, fNotV, fIf, fChain, fOp, fUn, fVar, fC, fTup, fLst, fV, fCons, fNil, fCall, fCallL, fLenV, fSl, fPart, fNoPart, fStar, fAug, gS, gT, gN, gC, fSeqI, run_1, run_2, run_3, run_4, ix0, ix1, ix2, ix3, then_nx, then_rt, then_bk, then_ct, turn_nx, turn_ct, turn_bk, turn_rt, res_rt, asB_b, gIx_t, gIx_l, gAdd_i, gSub_i, gLt_i, gLe_i, gGt_i, gGe_i, eq_i, eq_s, ne_i, ne_s, gLen_t, gLen_l, gTup_l, gTup_t, strEq, Option.bind_some, List.getElem?_cons_zero, List.getElem?_cons_succ, List.set_cons_zero, List.set_cons_succ, List.replicate_succ, List.replicate_zero, Nat.reduceSub, Nat.reduceAdd, if_true, if_false, decide_true, decide_false, Bool.not_true, Bool.not_false, Bool.false_eq_true, String.reduceEq, reduceIte, List.length_cons, List.length_nil, Nat.reduceLeDiff, lim, gIn_t, List.all_cons, List.all_nil, fl, Bool.and_self, any2, Bool.or_false, Kd.isFlat]
  | word => rw [Kd.data]; simp only [fSeq, fIfS, fRet, fAsg, fOwn, fApp, fExt, fBrk, fCnt, fDrop, fFrz, frz, fNext, fFor, fB, fAnd, fOr, fNot, fAndV, fOrV, fNotV, fIf, fChain, fOp, fUn, fVar, fC, fTup, fLst, fV, fCons, fNil, fCall, fCallL, fLenV, fSl, fPart, fNoPart, fStar, fAug, gS, gT, gN, gC, fSeqI, run_1, run_2, run_3, run_4, ix0, ix1, ix2, ix3, then_nx, then_rt, then_bk, then_ct, turn_nx, turn_ct, turn_bk, turn_rt, res_rt, asB_b, gIx_t, gIx_l, gAdd_i, gSub_i, gLt_i, gLe_i, gGt_i, gGe_i, eq_i, eq_s, ne_i, ne_s, gLen_t, gLen_l, gTup_l, gTup_t, strEq, Option.bind_some, List.getElem?_cons_zero, List.getElem?_cons_succ, List.set_cons_zero, List.set_cons_succ, List.replicate_succ, List.replicate_zero, Nat.reduceSub, Nat.reduceAdd, if_true, if_false, decide_true, decide_false, Bool.not_true, Bool.not_false, Bool.false_eq_true, String.reduceEq, reduceIte, List.length_cons, List.length_nil, Nat.reduceLeDiff, lim, gIn_t, List.all_cons, List.all_nil, fl, Bool.and_self, any2, Bool.or_true, Kd.isFlat]
  | lst j =>
    rw [Kd.data] at hs e ⊢
    show (inD _ _).bind _ = _
    unfold inD
    simp only [fl, hs, sf, e, Bool.and_self, Bool.false_and, Bool.false_eq_true, if_false, if_true, Option.bind_some]
  | tup ks =>
    rw [Kd.data] at hs e ⊢
    show (inD _ _).bind _ = _
    unfold inD
    simp only [fl, hs, sf, e, Bool.and_self, Bool.false_and, Bool.false_eq_true, if_false, if_true, Option.bind_some]
theorem m_behind (m : Mp) (k : Kd) (h : ∃ n, OkK n k ∧ n ≤ 20) : D_behind [m.data, k.data] = some (match behind m k with | none => .none | some j => j.data) := by
  unfold D_behind
  have hi := eq_int k h
  have t1 := m_kit k
  have t2 := m_kil k
  cases m with
  | plus n =>
    cases e : k.isInt <;> by_cases h1 : -1000 ≤ n <;> by_cases h2 : n ≤ 1000
    all_goals
      rw [e] at hi
      simp only [fSeq, fIfS, fRet, fAsg, fOwn, fApp, fExt, fBrk, fCnt, fDrop, fFrz, frz, fNext, fFor, fB, fAnd, fOr, fNot, fAndV, fOrV, fNotV, fIf, fChain, fOp, fUn, fVar, fC, fTup, fLst, fV, fCons, fNil, fCall, fCallL, fLenV, fSl, fPart, fNoPart, fStar, fAug, gS, gT, gN, gC, fSeqI, run_1, run_2, run_3, run_4, ix0, ix1, ix2, ix3, then_nx, then_rt, then_bk, then_ct, turn_nx, turn_ct, turn_bk, turn_rt, res_rt, asB_b, gIx_t, gIx_l, gAdd_i, gSub_i, gLt_i, gLe_i, gGt_i, gGe_i, eq_i, eq_s, ne_i, ne_s, gLen_t, gLen_l, gTup_l, gTup_t, strEq, Option.bind_some, List.getElem?_cons_zero, List.getElem?_cons_succ, List.set_cons_zero, List.set_cons_succ, List.replicate_succ, List.replicate_zero, Nat.reduceSub, Nat.reduceAdd, if_true, if_false, decide_true, decide_false, Bool.not_true, Bool.not_false, Bool.false_eq_true, String.reduceEq, reduceIte, List.length_cons, List.length_nil, Nat.reduceLeDiff, lim, b_kind_behind, Mp.data, behind, hi, e, h1, h2, gIn_t, gIn_l, List.all_cons, List.all_nil, fl, Bool.and_self, any2, Bool.or_true, Bool.or_false, Bool.true_or, Bool.false_or, Bool.and_true, Bool.and_false, Bool.false_and, Bool.true_and, gNeg, Kd.data]
  | times n =>
    cases e : k.isInt <;> by_cases h1 : -1000 ≤ n <;> by_cases h2 : n ≤ 1000
    all_goals
      rw [e] at hi
      simp only [fSeq, fIfS, fRet, fAsg, fOwn, fApp, fExt, fBrk, fCnt, fDrop, fFrz, frz, fNext, fFor, fB, fAnd, fOr, fNot, fAndV, fOrV, fNotV, fIf, fChain, fOp, fUn, fVar, fC, fTup, fLst, fV, fCons, fNil, fCall, fCallL, fLenV, fSl, fPart, fNoPart, fStar, fAug, gS, gT, gN, gC, fSeqI, run_1, run_2, run_3, run_4, ix0, ix1, ix2, ix3, then_nx, then_rt, then_bk, then_ct, turn_nx, turn_ct, turn_bk, turn_rt, res_rt, asB_b, gIx_t, gIx_l, gAdd_i, gSub_i, gLt_i, gLe_i, gGt_i, gGe_i, eq_i, eq_s, ne_i, ne_s, gLen_t, gLen_l, gTup_l, gTup_t, strEq, Option.bind_some, List.getElem?_cons_zero, List.getElem?_cons_succ, List.set_cons_zero, List.set_cons_succ, List.replicate_succ, List.replicate_zero, Nat.reduceSub, Nat.reduceAdd, if_true, if_false, decide_true, decide_false, Bool.not_true, Bool.not_false, Bool.false_eq_true, String.reduceEq, reduceIte, List.length_cons, List.length_nil, Nat.reduceLeDiff, lim, b_kind_behind, Mp.data, behind, hi, e, h1, h2, gIn_t, gIn_l, List.all_cons, List.all_nil, fl, Bool.and_self, any2, Bool.or_true, Bool.or_false, Bool.true_or, Bool.false_or, Bool.and_true, Bool.and_false, Bool.false_and, Bool.true_and, gNeg, Kd.data]
  | item i =>
    have hl : (dataAll k.parts).length = k.parts.length := by rw [dataAll_map, List.length_map]
    by_cases h1 : 0 ≤ i <;> by_cases h2 : i < (k.parts.length : Int)
    · obtain ⟨j, rfl⟩ := Int.eq_ofNat_of_zero_le h1
      have hg := dataAll_get (show j < k.parts.length by omega)
      simp only [fSeq, fIfS, fRet, fAsg, fOwn, fApp, fExt, fBrk, fCnt, fDrop, fFrz, frz, fNext, fFor, fB, fAnd, fOr, fNot, fAndV, fOrV, fNotV, fIf, fChain, fOp, fUn, fVar, fC, fTup, fLst, fV, fCons, fNil, fCall, fCallL, fLenV, fSl, fPart, fNoPart, fStar, fAug, gS, gT, gN, gC, fSeqI, run_1, run_2, run_3, run_4, ix0, ix1, ix2, ix3, then_nx, then_rt, then_bk, then_ct, turn_nx, turn_ct, turn_bk, turn_rt, res_rt, asB_b, gIx_t, gIx_l, gAdd_i, gSub_i, gLt_i, gLe_i, gGt_i, gGe_i, eq_i, eq_s, ne_i, ne_s, gLen_t, gLen_l, gTup_l, gTup_t, strEq, Option.bind_some, List.getElem?_cons_zero, List.getElem?_cons_succ, List.set_cons_zero, List.set_cons_succ, List.replicate_succ, List.replicate_zero, Nat.reduceSub, Nat.reduceAdd, if_true, if_false, decide_true, decide_false, Bool.not_true, Bool.not_false, Bool.false_eq_true, String.reduceEq, reduceIte, List.length_cons, List.length_nil, Nat.reduceLeDiff, lim, b_kind_behind, Mp.data, behind, t1, hl, hg, h1, h2, gIn_t, gIn_l, List.all_cons, List.all_nil, fl, Bool.and_self, any2, Bool.or_true, Bool.or_false, Bool.true_or, Bool.false_or, Bool.and_true, Bool.and_false, Bool.false_and, Bool.true_and, Kd.data, Int.toNat_natCast]
    all_goals simp only [fSeq, fIfS, fRet, fAsg, fOwn, fApp, fExt, fBrk, fCnt, fDrop, fFrz, frz, fNext, fFor, fB, fAnd, fOr, fNot, fAndV, fOrV, fNotV, fIf, fChain, fOp, fUn, fVar, fC, fTup, fLst, fV, fCons, fNil, fCall, fCallL, fLenV, fSl, fPart, fNoPart, fStar, fAug, gS, gT, gN, gC, fSeqI, run_1, run_2, run_3, run_4, ix0, ix1, ix2, ix3, then_nx, then_rt, then_bk, then_ct, turn_nx, turn_ct, turn_bk, turn_rt, res_rt, asB_b, gIx_t, gIx_l, gAdd_i, gSub_i, gLt_i, gLe_i, gGt_i, gGe_i, eq_i, eq_s, ne_i, ne_s, gLen_t, gLen_l, gTup_l, gTup_t, strEq, Option.bind_some, List.getElem?_cons_zero, List.getElem?_cons_succ, List.set_cons_zero, List.set_cons_succ, List.replicate_succ, List.replicate_zero, Nat.reduceSub, Nat.reduceAdd, if_true, if_false, decide_true, decide_false, Bool.not_true, Bool.not_false, Bool.false_eq_true, String.reduceEq, reduceIte, List.length_cons, List.length_nil, Nat.reduceLeDiff, lim, b_kind_behind, Mp.data, behind, t1, hl, h1, h2, gIn_t, gIn_l, List.all_cons, List.all_nil, fl, Bool.and_self, any2, Bool.or_true, Bool.or_false, Bool.true_or, Bool.false_or, Bool.and_true, Bool.and_false, Bool.false_and, Bool.true_and, Kd.data]
  | length =>
    cases k with
    | lst j =>
      have t2 : D_kil [(Kd.lst j).data] = some j.data := t2
      simp only [fSeq, fIfS, fRet, fAsg, fOwn, fApp, fExt, fBrk, fCnt, fDrop, fFrz, frz, fNext, fFor, fB, fAnd, fOr, fNot, fAndV, fOrV, fNotV, fIf, fChain, fOp, fUn, fVar, fC, fTup, fLst, fV, fCons, fNil, fCall, fCallL, fLenV, fSl, fPart, fNoPart, fStar, fAug, gS, gT, gN, gC, fSeqI, run_1, run_2, run_3, run_4, ix0, ix1, ix2, ix3, then_nx, then_rt, then_bk, then_ct, turn_nx, turn_ct, turn_bk, turn_rt, res_rt, asB_b, gIx_t, gIx_l, gAdd_i, gSub_i, gLt_i, gLe_i, gGt_i, gGe_i, eq_i, eq_s, ne_i, ne_s, gLen_t, gLen_l, gTup_l, gTup_t, strEq, Option.bind_some, List.getElem?_cons_zero, List.getElem?_cons_succ, List.set_cons_zero, List.set_cons_succ, List.replicate_succ, List.replicate_zero, Nat.reduceSub, Nat.reduceAdd, if_true, if_false, decide_true, decide_false, Bool.not_true, Bool.not_false, Bool.false_eq_true, String.reduceEq, reduceIte, List.length_cons, List.length_nil, Nat.reduceLeDiff, lim, gIn_t, gIn_l, List.all_cons, List.all_nil, fl, Bool.and_self, any2, Bool.or_true, Bool.or_false, Bool.true_or, Bool.false_or, Bool.and_true, Bool.and_false, Bool.false_and, Bool.true_and, b_kind_behind, Mp.data, behind, t2, isN_kd, kd_int]
    | _ => simp only [fSeq, fIfS, fRet, fAsg, fOwn, fApp, fExt, fBrk, fCnt, fDrop, fFrz, frz, fNext, fFor, fB, fAnd, fOr, fNot, fAndV, fOrV, fNotV, fIf, fChain, fOp, fUn, fVar, fC, fTup, fLst, fV, fCons, fNil, fCall, fCallL, fLenV, fSl, fPart, fNoPart, fStar, fAug, gS, gT, gN, gC, fSeqI, run_1, run_2, run_3, run_4, ix0, ix1, ix2, ix3, then_nx, then_rt, then_bk, then_ct, turn_nx, turn_ct, turn_bk, turn_rt, res_rt, asB_b, gIx_t, gIx_l, gAdd_i, gSub_i, gLt_i, gLe_i, gGt_i, gGe_i, eq_i, eq_s, ne_i, ne_s, gLen_t, gLen_l, gTup_l, gTup_t, strEq, Option.bind_some, List.getElem?_cons_zero, List.getElem?_cons_succ, List.set_cons_zero, List.set_cons_succ, List.replicate_succ, List.replicate_zero, Nat.reduceSub, Nat.reduceAdd, if_true, if_false, decide_true, decide_false, Bool.not_true, Bool.not_false, Bool.false_eq_true, String.reduceEq, reduceIte, List.length_cons, List.length_nil, Nat.reduceLeDiff, lim, gIn_t, gIn_l, List.all_cons, List.all_nil, fl, Bool.and_self, any2, Bool.or_true, Bool.or_false, Bool.true_or, Bool.false_or, Bool.and_true, Bool.and_false, Bool.false_and, Bool.true_and, b_kind_behind, Mp.data, behind, t2, listedK, gIsN]
  | sum =>
    cases k with
    | lst j =>
      have t2 : D_kil [(Kd.lst j).data] = some j.data := t2
      have hj := eq_int j (lst_ok h)
      cases e : j.isInt <;> (rw [e] at hj; simp only [fSeq, fIfS, fRet, fAsg, fOwn, fApp, fExt, fBrk, fCnt, fDrop, fFrz, frz, fNext, fFor, fB, fAnd, fOr, fNot, fAndV, fOrV, fNotV, fIf, fChain, fOp, fUn, fVar, fC, fTup, fLst, fV, fCons, fNil, fCall, fCallL, fLenV, fSl, fPart, fNoPart, fStar, fAug, gS, gT, gN, gC, fSeqI, run_1, run_2, run_3, run_4, ix0, ix1, ix2, ix3, then_nx, then_rt, then_bk, then_ct, turn_nx, turn_ct, turn_bk, turn_rt, res_rt, asB_b, gIx_t, gIx_l, gAdd_i, gSub_i, gLt_i, gLe_i, gGt_i, gGe_i, eq_i, eq_s, ne_i, ne_s, gLen_t, gLen_l, gTup_l, gTup_t, strEq, Option.bind_some, List.getElem?_cons_zero, List.getElem?_cons_succ, List.set_cons_zero, List.set_cons_succ, List.replicate_succ, List.replicate_zero, Nat.reduceSub, Nat.reduceAdd, if_true, if_false, decide_true, decide_false, Bool.not_true, Bool.not_false, Bool.false_eq_true, String.reduceEq, reduceIte, List.length_cons, List.length_nil, Nat.reduceLeDiff, lim, gIn_t, gIn_l, List.all_cons, List.all_nil, fl, Bool.and_self, any2, Bool.or_true, Bool.or_false, Bool.true_or, Bool.false_or, Bool.and_true, Bool.and_false, Bool.false_and, Bool.true_and, b_kind_behind, Mp.data, behind, t2, isN_kd, hj, e, kd_int])
    | _ => simp only [fSeq, fIfS, fRet, fAsg, fOwn, fApp, fExt, fBrk, fCnt, fDrop, fFrz, frz, fNext, fFor, fB, fAnd, fOr, fNot, fAndV, fOrV, fNotV, fIf, fChain, fOp, fUn, fVar, fC, fTup, fLst, fV, fCons, fNil, fCall, fCallL, fLenV, fSl, fPart, fNoPart, fStar, fAug, gS, gT, gN, gC, fSeqI, run_1, run_2, run_3, run_4, ix0, ix1, ix2, ix3, then_nx, then_rt, then_bk, then_ct, turn_nx, turn_ct, turn_bk, turn_rt, res_rt, asB_b, gIx_t, gIx_l, gAdd_i, gSub_i, gLt_i, gLe_i, gGt_i, gGe_i, eq_i, eq_s, ne_i, ne_s, gLen_t, gLen_l, gTup_l, gTup_t, strEq, Option.bind_some, List.getElem?_cons_zero, List.getElem?_cons_succ, List.set_cons_zero, List.set_cons_succ, List.replicate_succ, List.replicate_zero, Nat.reduceSub, Nat.reduceAdd, if_true, if_false, decide_true, decide_false, Bool.not_true, Bool.not_false, Bool.false_eq_true, String.reduceEq, reduceIte, List.length_cons, List.length_nil, Nat.reduceLeDiff, lim, gIn_t, gIn_l, List.all_cons, List.all_nil, fl, Bool.and_self, any2, Bool.or_true, Bool.or_false, Bool.true_or, Bool.false_or, Bool.and_true, Bool.and_false, Bool.false_and, Bool.true_and, b_kind_behind, Mp.data, behind, t2, listedK, gIsN]
  | sorted =>
    cases k with
    | lst j =>
      have t2 : D_kil [(Kd.lst j).data] = some j.data := t2
      have hj := in_flat j (lst_ok h)
      cases e : j.isFlat <;> (rw [e] at hj; simp only [fSeq, fIfS, fRet, fAsg, fOwn, fApp, fExt, fBrk, fCnt, fDrop, fFrz, frz, fNext, fFor, fB, fAnd, fOr, fNot, fAndV, fOrV, fNotV, fIf, fChain, fOp, fUn, fVar, fC, fTup, fLst, fV, fCons, fNil, fCall, fCallL, fLenV, fSl, fPart, fNoPart, fStar, fAug, gS, gT, gN, gC, fSeqI, run_1, run_2, run_3, run_4, ix0, ix1, ix2, ix3, then_nx, then_rt, then_bk, then_ct, turn_nx, turn_ct, turn_bk, turn_rt, res_rt, asB_b, gIx_t, gIx_l, gAdd_i, gSub_i, gLt_i, gLe_i, gGt_i, gGe_i, eq_i, eq_s, ne_i, ne_s, gLen_t, gLen_l, gTup_l, gTup_t, strEq, Option.bind_some, List.getElem?_cons_zero, List.getElem?_cons_succ, List.set_cons_zero, List.set_cons_succ, List.replicate_succ, List.replicate_zero, Nat.reduceSub, Nat.reduceAdd, if_true, if_false, decide_true, decide_false, Bool.not_true, Bool.not_false, Bool.false_eq_true, String.reduceEq, reduceIte, List.length_cons, List.length_nil, Nat.reduceLeDiff, lim, gIn_t, gIn_l, List.all_cons, List.all_nil, fl, Bool.and_self, any2, Bool.or_true, Bool.or_false, Bool.true_or, Bool.false_or, Bool.and_true, Bool.and_false, Bool.false_and, Bool.true_and, b_kind_behind, Mp.data, behind, t2, isN_kd, hj, e, kd_int])
    | _ => simp only [fSeq, fIfS, fRet, fAsg, fOwn, fApp, fExt, fBrk, fCnt, fDrop, fFrz, frz, fNext, fFor, fB, fAnd, fOr, fNot, fAndV, fOrV, fNotV, fIf, fChain, fOp, fUn, fVar, fC, fTup, fLst, fV, fCons, fNil, fCall, fCallL, fLenV, fSl, fPart, fNoPart, fStar, fAug, gS, gT, gN, gC, fSeqI, run_1, run_2, run_3, run_4, ix0, ix1, ix2, ix3, then_nx, then_rt, then_bk, then_ct, turn_nx, turn_ct, turn_bk, turn_rt, res_rt, asB_b, gIx_t, gIx_l, gAdd_i, gSub_i, gLt_i, gLe_i, gGt_i, gGe_i, eq_i, eq_s, ne_i, ne_s, gLen_t, gLen_l, gTup_l, gTup_t, strEq, Option.bind_some, List.getElem?_cons_zero, List.getElem?_cons_succ, List.set_cons_zero, List.set_cons_succ, List.replicate_succ, List.replicate_zero, Nat.reduceSub, Nat.reduceAdd, if_true, if_false, decide_true, decide_false, Bool.not_true, Bool.not_false, Bool.false_eq_true, String.reduceEq, reduceIte, List.length_cons, List.length_nil, Nat.reduceLeDiff, lim, gIn_t, gIn_l, List.all_cons, List.all_nil, fl, Bool.and_self, any2, Bool.or_true, Bool.or_false, Bool.true_or, Bool.false_or, Bool.and_true, Bool.and_false, Bool.false_and, Bool.true_and, b_kind_behind, Mp.data, behind, t2, listedK, gIsN]
  | reversed =>
    cases k with
    | lst j =>
      have t2 : D_kil [(Kd.lst j).data] = some j.data := t2
      simp only [fSeq, fIfS, fRet, fAsg, fOwn, fApp, fExt, fBrk, fCnt, fDrop, fFrz, frz, fNext, fFor, fB, fAnd, fOr, fNot, fAndV, fOrV, fNotV, fIf, fChain, fOp, fUn, fVar, fC, fTup, fLst, fV, fCons, fNil, fCall, fCallL, fLenV, fSl, fPart, fNoPart, fStar, fAug, gS, gT, gN, gC, fSeqI, run_1, run_2, run_3, run_4, ix0, ix1, ix2, ix3, then_nx, then_rt, then_bk, then_ct, turn_nx, turn_ct, turn_bk, turn_rt, res_rt, asB_b, gIx_t, gIx_l, gAdd_i, gSub_i, gLt_i, gLe_i, gGt_i, gGe_i, eq_i, eq_s, ne_i, ne_s, gLen_t, gLen_l, gTup_l, gTup_t, strEq, Option.bind_some, List.getElem?_cons_zero, List.getElem?_cons_succ, List.set_cons_zero, List.set_cons_succ, List.replicate_succ, List.replicate_zero, Nat.reduceSub, Nat.reduceAdd, if_true, if_false, decide_true, decide_false, Bool.not_true, Bool.not_false, Bool.false_eq_true, String.reduceEq, reduceIte, List.length_cons, List.length_nil, Nat.reduceLeDiff, lim, gIn_t, gIn_l, List.all_cons, List.all_nil, fl, Bool.and_self, any2, Bool.or_true, Bool.or_false, Bool.true_or, Bool.false_or, Bool.and_true, Bool.and_false, Bool.false_and, Bool.true_and, b_kind_behind, Mp.data, behind, t2, isN_kd, kd_int]
    | _ => simp only [fSeq, fIfS, fRet, fAsg, fOwn, fApp, fExt, fBrk, fCnt, fDrop, fFrz, frz, fNext, fFor, fB, fAnd, fOr, fNot, fAndV, fOrV, fNotV, fIf, fChain, fOp, fUn, fVar, fC, fTup, fLst, fV, fCons, fNil, fCall, fCallL, fLenV, fSl, fPart, fNoPart, fStar, fAug, gS, gT, gN, gC, fSeqI, run_1, run_2, run_3, run_4, ix0, ix1, ix2, ix3, then_nx, then_rt, then_bk, then_ct, turn_nx, turn_ct, turn_bk, turn_rt, res_rt, asB_b, gIx_t, gIx_l, gAdd_i, gSub_i, gLt_i, gLe_i, gGt_i, gGe_i, eq_i, eq_s, ne_i, ne_s, gLen_t, gLen_l, gTup_l, gTup_t, strEq, Option.bind_some, List.getElem?_cons_zero, List.getElem?_cons_succ, List.set_cons_zero, List.set_cons_succ, List.replicate_succ, List.replicate_zero, Nat.reduceSub, Nat.reduceAdd, if_true, if_false, decide_true, decide_false, Bool.not_true, Bool.not_false, Bool.false_eq_true, String.reduceEq, reduceIte, List.length_cons, List.length_nil, Nat.reduceLeDiff, lim, gIn_t, gIn_l, List.all_cons, List.all_nil, fl, Bool.and_self, any2, Bool.or_true, Bool.or_false, Bool.true_or, Bool.false_or, Bool.and_true, Bool.and_false, Bool.false_and, Bool.true_and, b_kind_behind, Mp.data, behind, t2, listedK, gIsN]
noncomputable def D_turn : Fn := runF 3 2 b_turn
theorem sumI_int : ∀ ns : List Int, sumI (ns.map PyData.int) = some ns.sum
  | [] => rfl
  | n :: ns => by
    show (sumI (ns.map PyData.int)).bind _ = _
    rw [sumI_int ns, List.sum_cons]
    rfl
theorem flat_sort {j : Kd} {ds : List PyData} (hj : j.isFlat = true) (h : ∀ d ∈ ds, isk j d = true) (hd : Dk 20 (.tuple ds)) : SortOk ds := by
  refine ⟨⟨fun d hd e he => isk_alike j d e (h d hd) (h e he), .inr fun d hd => flat_not hj (h d hd), fun d hd => by rw [flat_depth hj (h d hd)]; omega⟩, List.all_eq_true.mpr fun d he => ?_⟩
  exact (hd.item.2 d he).lay.1
theorem m_turn {m : Mp} {k k' : Kd} {d : PyData} (hb : behind m k = some k') (hi : isk k d = true) (hd : Dk 20 d) : D_turn [m.data, d] = some (turnD m d) := by
  unfold D_turn
  cases m with
  | plus n =>
    obtain ⟨rfl, h1, h2, rfl⟩ := behind_num (.inl rfl) hb
    obtain ⟨i, rfl⟩ := isk_int hi
    simp only [fSeq, fIfS, fRet, fAsg, fOwn, fApp, fExt, fBrk, fCnt, fDrop, fFrz, frz, fNext, fFor, fB, fAnd, fOr, fNot, fAndV, fOrV, fNotV, fIf, fChain, fOp, fUn, fVar, fC, fTup, fLst, fV, fCons, fNil, fCall, fCallL, fLenV, fSl, fPart, fNoPart, fStar, fAug, gS, gT, gN, gC, fSeqI, run_1, run_2, run_3, run_4, ix0, ix1, ix2, ix3, then_nx, then_rt, then_bk, then_ct, turn_nx, turn_ct, turn_bk, turn_rt, res_rt, asB_b, gIx_t, gIx_l, gAdd_i, gSub_i, gLt_i, gLe_i, gGt_i, gGe_i, eq_i, eq_s, ne_i, ne_s, gLen_t, gLen_l, gTup_l, gTup_t, strEq, Option.bind_some, List.getElem?_cons_zero, List.getElem?_cons_succ, List.set_cons_zero, List.set_cons_succ, List.replicate_succ, List.replicate_zero, Nat.reduceSub, Nat.reduceAdd, if_true, if_false, decide_true, decide_false, Bool.not_true, Bool.not_false, Bool.false_eq_true, String.reduceEq, reduceIte, List.length_cons, List.length_nil, Nat.reduceLeDiff, lim, b_turn, Mp.data, turnD]
  | times n =>
    obtain ⟨rfl, h1, h2, rfl⟩ := behind_num (.inr rfl) hb
    obtain ⟨i, rfl⟩ := isk_int hi
    have hm : gMul (.int i) (.int n) = some (.int (i * n)) := if_pos (.inl (.inr (by omega)))
    simp only [fSeq, fIfS, fRet, fAsg, fOwn, fApp, fExt, fBrk, fCnt, fDrop, fFrz, frz, fNext, fFor, fB, fAnd, fOr, fNot, fAndV, fOrV, fNotV, fIf, fChain, fOp, fUn, fVar, fC, fTup, fLst, fV, fCons, fNil, fCall, fCallL, fLenV, fSl, fPart, fNoPart, fStar, fAug, gS, gT, gN, gC, fSeqI, run_1, run_2, run_3, run_4, ix0, ix1, ix2, ix3, then_nx, then_rt, then_bk, then_ct, turn_nx, turn_ct, turn_bk, turn_rt, res_rt, asB_b, gIx_t, gIx_l, gAdd_i, gSub_i, gLt_i, gLe_i, gGt_i, gGe_i, eq_i, eq_s, ne_i, ne_s, gLen_t, gLen_l, gTup_l, gTup_t, strEq, Option.bind_some, List.getElem?_cons_zero, List.getElem?_cons_succ, List.set_cons_zero, List.set_cons_succ, List.replicate_succ, List.replicate_zero, Nat.reduceSub, Nat.reduceAdd, if_true, if_false, decide_true, decide_false, Bool.not_true, Bool.not_false, Bool.false_eq_true, String.reduceEq, reduceIte, List.length_cons, List.length_nil, Nat.reduceLeDiff, lim, b_turn, Mp.data, turnD, hm]
  | item j =>
    obtain ⟨ks, rfl, hj, hk, rfl⟩ := behind_item hb
    obtain ⟨ds, rfl, hds⟩ := isk_tup hi
    obtain ⟨i, rfl⟩ := Int.eq_ofNat_of_zero_le hj
    obtain ⟨hl, hat⟩ := iskAll_get hds
    have hil : i < ds.length := by rw [← hl]; simpa using hk
    have e : atI ds (i : Int) = some (ds.getD i .none) := atI_nat (getD_at hil)
    simp only [fSeq, fIfS, fRet, fAsg, fOwn, fApp, fExt, fBrk, fCnt, fDrop, fFrz, frz, fNext, fFor, fB, fAnd, fOr, fNot, fAndV, fOrV, fNotV, fIf, fChain, fOp, fUn, fVar, fC, fTup, fLst, fV, fCons, fNil, fCall, fCallL, fLenV, fSl, fPart, fNoPart, fStar, fAug, gS, gT, gN, gC, fSeqI, run_1, run_2, run_3, run_4, ix0, ix1, ix2, ix3, then_nx, then_rt, then_bk, then_ct, turn_nx, turn_ct, turn_bk, turn_rt, res_rt, asB_b, gIx_t, gIx_l, gAdd_i, gSub_i, gLt_i, gLe_i, gGt_i, gGe_i, eq_i, eq_s, ne_i, ne_s, gLen_t, gLen_l, gTup_l, gTup_t, strEq, Option.bind_some, List.getElem?_cons_zero, List.getElem?_cons_succ, List.set_cons_zero, List.set_cons_succ, List.replicate_succ, List.replicate_zero, Nat.reduceSub, Nat.reduceAdd, if_true, if_false, decide_true, decide_false, Bool.not_true, Bool.not_false, Bool.false_eq_true, String.reduceEq, reduceIte, List.length_cons, List.length_nil, Nat.reduceLeDiff, lim, b_turn, Mp.data, turnD, e, Int.toNat_natCast]
  | length =>
    obtain ⟨j, rfl⟩ := behind_lst hb (.inl rfl)
    obtain ⟨ds, rfl, hds⟩ := isk_lst hi
    simp only [fSeq, fIfS, fRet, fAsg, fOwn, fApp, fExt, fBrk, fCnt, fDrop, fFrz, frz, fNext, fFor, fB, fAnd, fOr, fNot, fAndV, fOrV, fNotV, fIf, fChain, fOp, fUn, fVar, fC, fTup, fLst, fV, fCons, fNil, fCall, fCallL, fLenV, fSl, fPart, fNoPart, fStar, fAug, gS, gT, gN, gC, fSeqI, run_1, run_2, run_3, run_4, ix0, ix1, ix2, ix3, then_nx, then_rt, then_bk, then_ct, turn_nx, turn_ct, turn_bk, turn_rt, res_rt, asB_b, gIx_t, gIx_l, gAdd_i, gSub_i, gLt_i, gLe_i, gGt_i, gGe_i, eq_i, eq_s, ne_i, ne_s, gLen_t, gLen_l, gTup_l, gTup_t, strEq, Option.bind_some, List.getElem?_cons_zero, List.getElem?_cons_succ, List.set_cons_zero, List.set_cons_succ, List.replicate_succ, List.replicate_zero, Nat.reduceSub, Nat.reduceAdd, if_true, if_false, decide_true, decide_false, Bool.not_true, Bool.not_false, Bool.false_eq_true, String.reduceEq, reduceIte, List.length_cons, List.length_nil, Nat.reduceLeDiff, lim, b_turn, Mp.data, turnD]
  | sum =>
    obtain ⟨j, rfl⟩ := behind_lst hb (.inr (.inl rfl))
    have hj : j = .int := by
      have h' : (if j.isInt then some Kd.int else none) = some k' := hb
      split at h'
      · rename_i hi; exact isInt_of hi
      · cases h'
    subst hj
    obtain ⟨ds, rfl, hds⟩ := isk_lst hi
    have e : gSum [.tuple ds] = some (.int (ds.map intOf).sum) := by
      have e1 : ds = (ds.map intOf).map PyData.int := ints_of hds
      show (sumI ds).bind _ = _
      rw [show sumI ds = some (ds.map intOf).sum from by
        conv => lhs; rw [e1]
        exact sumI_int _]
      rfl
    simp only [fSeq, fIfS, fRet, fAsg, fOwn, fApp, fExt, fBrk, fCnt, fDrop, fFrz, frz, fNext, fFor, fB, fAnd, fOr, fNot, fAndV, fOrV, fNotV, fIf, fChain, fOp, fUn, fVar, fC, fTup, fLst, fV, fCons, fNil, fCall, fCallL, fLenV, fSl, fPart, fNoPart, fStar, fAug, gS, gT, gN, gC, fSeqI, run_1, run_2, run_3, run_4, ix0, ix1, ix2, ix3, then_nx, then_rt, then_bk, then_ct, turn_nx, turn_ct, turn_bk, turn_rt, res_rt, asB_b, gIx_t, gIx_l, gAdd_i, gSub_i, gLt_i, gLe_i, gGt_i, gGe_i, eq_i, eq_s, ne_i, ne_s, gLen_t, gLen_l, gTup_l, gTup_t, strEq, Option.bind_some, List.getElem?_cons_zero, List.getElem?_cons_succ, List.set_cons_zero, List.set_cons_succ, List.replicate_succ, List.replicate_zero, Nat.reduceSub, Nat.reduceAdd, if_true, if_false, decide_true, decide_false, Bool.not_true, Bool.not_false, Bool.false_eq_true, String.reduceEq, reduceIte, List.length_cons, List.length_nil, Nat.reduceLeDiff, lim, b_turn, Mp.data, turnD, e]
  | sorted =>
    obtain ⟨j, rfl⟩ := behind_lst hb (.inr (.inr (.inl rfl)))
    have hj : j.isFlat = true := by
      have h' : (if j.isFlat then some (Kd.lst j) else none) = some k' := hb
      split at h'
      · assumption
      · cases h'
    obtain ⟨ds, rfl, hds⟩ := isk_lst hi
    have e := gSorted_t (flat_sort hj hds hd)
    simp only [fSeq, fIfS, fRet, fAsg, fOwn, fApp, fExt, fBrk, fCnt, fDrop, fFrz, frz, fNext, fFor, fB, fAnd, fOr, fNot, fAndV, fOrV, fNotV, fIf, fChain, fOp, fUn, fVar, fC, fTup, fLst, fV, fCons, fNil, fCall, fCallL, fLenV, fSl, fPart, fNoPart, fStar, fAug, gS, gT, gN, gC, fSeqI, run_1, run_2, run_3, run_4, ix0, ix1, ix2, ix3, then_nx, then_rt, then_bk, then_ct, turn_nx, turn_ct, turn_bk, turn_rt, res_rt, asB_b, gIx_t, gIx_l, gAdd_i, gSub_i, gLt_i, gLe_i, gGt_i, gGe_i, eq_i, eq_s, ne_i, ne_s, gLen_t, gLen_l, gTup_l, gTup_t, strEq, Option.bind_some, List.getElem?_cons_zero, List.getElem?_cons_succ, List.set_cons_zero, List.set_cons_succ, List.replicate_succ, List.replicate_zero, Nat.reduceSub, Nat.reduceAdd, if_true, if_false, decide_true, decide_false, Bool.not_true, Bool.not_false, Bool.false_eq_true, String.reduceEq, reduceIte, List.length_cons, List.length_nil, Nat.reduceLeDiff, lim, b_turn, Mp.data, turnD, e]
  | reversed =>
    obtain ⟨j, rfl⟩ := behind_lst hb (.inr (.inr (.inr rfl)))
    obtain ⟨ds, rfl, hds⟩ := isk_lst hi
    simp only [fSeq, fIfS, fRet, fAsg, fOwn, fApp, fExt, fBrk, fCnt, fDrop, fFrz, frz, fNext, fFor, fB, fAnd, fOr, fNot, fAndV, fOrV, fNotV, fIf, fChain, fOp, fUn, fVar, fC, fTup, fLst, fV, fCons, fNil, fCall, fCallL, fLenV, fSl, fPart, fNoPart, fStar, fAug, gS, gT, gN, gC, fSeqI, run_1, run_2, run_3, run_4, ix0, ix1, ix2, ix3, then_nx, then_rt, then_bk, then_ct, turn_nx, turn_ct, turn_bk, turn_rt, res_rt, asB_b, gIx_t, gIx_l, gAdd_i, gSub_i, gLt_i, gLe_i, gGt_i, gGe_i, eq_i, eq_s, ne_i, ne_s, gLen_t, gLen_l, gTup_l, gTup_t, strEq, Option.bind_some, List.getElem?_cons_zero, List.getElem?_cons_succ, List.set_cons_zero, List.set_cons_succ, List.replicate_succ, List.replicate_zero, Nat.reduceSub, Nat.reduceAdd, if_true, if_false, decide_true, decide_false, Bool.not_true, Bool.not_false, Bool.false_eq_true, String.reduceEq, reduceIte, List.length_cons, List.length_nil, Nat.reduceLeDiff, lim, b_turn, Mp.data, turnD, gRev]
end Fb
namespace Fb
open PySem PySem.Spec PyProof.Rows L2 Evl CrT Cr Sm
theorem behind_sp {K : PySem.W.Frag} : ∀ vs H Q E, spBehind K vs H Q E → spF K A0 D_behind vs H Q E := fun vs H Q E h => by
  obtain ⟨v, u, m, k, rfl, hv, hu, hk, q⟩ := h
  refine ⟨O0, _, _, owl0, .cons (.of_vd hv) (.cons (.of_vd hu) .nil), m_behind m k ⟨10, hk, by decide⟩, fun r H' s hr => q r H' s (fun k' e => ?_) fun e => ?_⟩
  · rw [e] at hr
    exact hr.vd (flat_kd (behind_ok e hk))
  · rw [e] at hr
    exact hr.non_inv
theorem turn_sp {K : PySem.W.Frag} : ∀ vs H Q E, spTurn K vs H Q E → spF K A0 D_turn vs H Q E := fun vs H Q E h => by
  obtain ⟨v, u, m, d, k, k', rfl, hv, hu, hi, hb, hd, q⟩ := h
  exact ⟨O0, _, _, owl0, .cons (.of_vd hv) (.cons (.of_vd hu) .nil), m_turn hb hi hd, fun r H' s hr => q r H' s (hr.vd (flat_isk k' _ (turn_isk hb hi)))⟩
end Fb
namespace Fb
open PySem PySem.Spec PyProof.Rows L2 Evl CrT Cr Sm
def b_parts_in : FS :=
      (fSeq (fAsg (fOp gIx (fVar 0) (fC (.int 0))) (gS 1))
      (fSeq (fIfS (fB (fOp gIn (fVar 1) (fTup (fCons (fC (.str "tuple")) (fCons (fC (.str "one")) fNil))))) (fRet (fOp gIx (fVar 0) (fC (.int 1)))) fNext)
      (fSeq (fIfS (fB (fOp gIn (fVar 1) (fTup (fCons (fC (.str "list")) (fCons (fC (.str "kept")) (fCons (fC (.str "turned")) fNil)))))) (fRet (fTup (fCons (fOp gIx (fVar 0) (fC (.int 1))) fNil))) fNext)
      (fSeq (fIfS (fB (fOp gEq (fVar 1) (fC (.str "repeat")))) (fRet (fTup (fCons (fOp gIx (fVar 0) (fC (.int 1))) (fCons (fOp gIx (fVar 0) (fC (.int 2))) fNil)))) fNext)
      (fRet (fTup fNil))))))
def b_merged (f_merged : Fn) (f_parts_in : Fn) (f__merged_kept : Fn) (f__merged_turned : Fn) : FS :=
      (fSeq (fAsg (fOp gIx (fVar 0) (fC (.int 0))) (gS 1))
      (fSeq (fAsg (fV (fComp (fSeqI (fCall f_parts_in (fCons (fVar 0) fNil))) (gS 3) (fun _ => some true) (fCall f_merged (fCons (fVar 3) fNil)) [3])) (gS 2))
      (fSeq (fIfS (fB (fOp gIn (fVar 1) (fTup (fCons (fC (.str "tuple")) (fCons (fC (.str "one")) fNil))))) (fRet (fTup (fCons (fVar 1) (fCons (fCall gTuple (fCons (fVar 2) fNil)) fNil)))) fNext)
      (fSeq (fIfS (fB (fOp gEq (fVar 1) (fC (.str "list")))) (fRet (fTup (fCons (fC (.str "list")) (fCons (fOp gIx (fVar 2) (fC (.int 0))) (fCons (fOp gIx (fVar 0) (fC (.int 2))) (fCons (fOp gIx (fVar 0) (fC (.int 3))) fNil)))))) fNext)
      (fSeq (fIfS (fB (fOp gEq (fVar 1) (fC (.str "kept")))) (fRet (fCall f__merged_kept (fCons (fOp gIx (fVar 2) (fC (.int 0))) (fCons (fOp gIx (fVar 0) (fC (.int 2))) fNil)))) fNext)
      (fSeq (fIfS (fB (fOp gEq (fVar 1) (fC (.str "turned")))) (fRet (fCall f__merged_turned (fCons (fOp gIx (fVar 2) (fC (.int 0))) (fCons (fOp gIx (fVar 0) (fC (.int 2))) fNil)))) fNext)
      (fSeq (fIfS (fB (fOp gEq (fVar 1) (fC (.str "repeat")))) (fRet (fTup (fCons (fC (.str "repeat")) (fCons (fOp gIx (fVar 2) (fC (.int 0))) (fCons (fOp gIx (fVar 2) (fC (.int 1))) fNil))))) fNext)
      (fRet (fVar 0)))))))))
def b__merged_kept : FS :=
      (fSeq (fIfS (fB (fOp gEq (fOp gIx (fVar 0) (fC (.int 0))) (fC (.str "kept")))) (fRet (fTup (fCons (fC (.str "kept")) (fCons (fOp gIx (fVar 0) (fC (.int 1))) (fCons (fTup (fCons (fC (.str "and")) (fCons (fOp gIx (fVar 0) (fC (.int 2))) (fCons (fVar 1) fNil)))) fNil))))) fNext)
      (fRet (fTup (fCons (fC (.str "kept")) (fCons (fVar 0) (fCons (fVar 1) fNil))))))
def b__merged_turned : FS :=
      (fSeq (fIfS (fAnd (fB (fOp gEq (fOp gIx (fVar 0) (fC (.int 0))) (fC (.str "int")))) (fB (fOp gEq (fOp gIx (fVar 1) (fC (.int 0))) (fC (.str "plus"))))) (fSeq (fAsg (fV (fComp (fSeqI (fSl gSl (fVar 0) (fPart (fC (.int 1))) fNoPart)) (gS 3) (fun _ => some true) (fOp gAdd (fVar 3) (fOp gIx (fVar 1) (fC (.int 1)))) [3])) (gS 2))
        (fIfS (fB (fCall gAll (fCons (fV (fComp (fSeqI (fVar 2)) (gS 3) (fun _ => some true) (fChain gLe gLe (fUn gNeg (fC (.int 1000))) (fVar 3) (fC (.int 1000))) [3])) fNil))) (fRet (fTup (fCons (fC (.str "int")) (fStar (fVar 2) fNil)))) fNext)) fNext)
      (fRet (fTup (fCons (fC (.str "turned")) (fCons (fVar 0) (fCons (fVar 1) fNil))))))
def b_is_plain (f_is_plain : Fn) (f_parts_in : Fn) : FS :=
      (fSeq (fIfS (fB (fOp gIn (fOp gIx (fVar 0) (fC (.int 0))) (fTup (fCons (fC (.str "kept")) (fCons (fC (.str "repeat")) fNil))))) (fRet (fC (.bool false))) fNext)
      (fRet (fCall gAll (fCons (fV (fComp (fSeqI (fCall f_parts_in (fCons (fVar 0) fNil))) (gS 1) (fun _ => some true) (fCall f_is_plain (fCons (fVar 1) fNil)) [1])) fNil))))
end Fb
namespace Fb
open PySem PySem.Spec PyProof.Rows L2 Evl CrT Cr Sm
theorem compM_map {α : Type} {step : PyData → Option (Option PyData)} {f φ : α → PyData} : ∀ {l : List α}, (∀ a ∈ l, step (f a) = some (some (φ a))) → compM step (l.map f) = some (l.map φ)
  | [], _ => rfl
  | a :: l, h => by
    show (step (f a)).bind _ = _
    rw [h a List.mem_cons_self, Option.bind_some, compM_map fun b hb => h b (List.mem_cons_of_mem _ hb)]
    rfl
theorem fComp_map {α : Type} {fi : FA} {g : PyData → List Sl → Option (List Sl)} {t : FT} {e : FE} {vs : List Nat} {ρ : List Sl} {l : List α} {f φ : α → PyData} (hi : fi ρ = some (l.map f)) (hl : l.length ≤ 10000000) (hs : ∀ a ∈ l, cStep g t e (Sm.wpS ρ vs) (f a) = some (some (φ a))) : fComp fi g t e vs ρ = some (l.map φ) := by
  unfold fComp
  rw [hi, Option.bind_some, compM_map hs, Option.bind_some]
  exact if_pos (by rw [List.length_map]; exact hl)
/-! ### bounds in order -/
inductive LeG : Gn → Prop
  | int {lo hi : Int} : lo ≤ hi → LeG (.int lo hi)
  | pick {ws : List Str} : LeG (.pick ws)
  | tuple {gs : List Gn} : (∀ g ∈ gs, LeG g) → LeG (.tuple gs)
  | list {g : Gn} {a b : Int} : LeG g → LeG (.list g a b)
  | one {gs : List Gn} : (∀ g ∈ gs, LeG g) → LeG (.one gs)
  | kept {g : Gn} {c : Cd} : LeG g → LeG (.kept g c)
  | turned {g : Gn} {m : Mp} : LeG g → LeG (.turned g m)
  | repeat_ {g h : Gn} : LeG g → LeG h → LeG (.repeat_ g h)
theorem leG_of {g : Gn} {k : Kd} (h : GenK g k) : LeG g := by
  induction h with
  | int _ h _ => exact .int h
  | pick => exact .pick
  | @tuple gs ks _ hl _ ih =>
    refine .tuple fun g hg => ?_
    obtain ⟨i, hi⟩ := List.mem_iff_getElem?.mp hg
    have hlt := (List.getElem?_eq_some_iff.mp hi).1
    exact ih i g _ hi (List.getElem?_eq_getElem (by omega))
  | list _ _ _ _ ih => exact .list ih
  | one _ _ _ ih => exact .one ih
  | kept _ _ ih => exact .kept ih
  | turned _ _ ih => exact .turned ih
  | repeat_ _ _ ih1 ih2 => exact .repeat_ ih1 ih2
theorem leG_merge {g : Gn} (h : LeG g) : LeG (mergeG g) := by
  induction h with
  | int h => rw [mergeG]; exact .int h
  | pick => rw [mergeG]; exact .pick
  | tuple _ ih =>
    rw [mergeG, mergeAll_map]
    refine .tuple fun g hg => ?_
    obtain ⟨g', h1, rfl⟩ := List.mem_map.mp hg
    exact ih g' h1
  | list _ ih => rw [mergeG]; exact .list ih
  | one _ ih =>
    rw [mergeG, mergeAll_map]
    refine .one fun g hg => ?_
    obtain ⟨g', h1, rfl⟩ := List.mem_map.mp hg
    exact ih g' h1
  | @kept g c _ ih =>
    rw [mergeG]
    rcases kept_or (mergeG g) with ⟨g', c', e⟩ | ⟨_, e⟩
    · rw [e] at ih ⊢
      cases ih with
      | kept h => exact .kept h
    · rw [e]; exact .kept ih
  | @turned g m _ ih =>
    rw [mergeG]
    rcases int_or (mergeG g) with ⟨a, b, e⟩ | ⟨_, e⟩
    · rw [e] at ih ⊢
      cases ih with
      | int h =>
        rcases plus_or m with ⟨n, rfl⟩ | ⟨_, e2⟩
        · show LeG (if decide (-1000 ≤ a + n) && decide (b + n ≤ 1000) then .int (a + n) (b + n) else .turned (.int a b) (.plus n))
          split
          · exact .int (by omega)
          · exact .turned (.int h)
        · rw [e2]; exact .turned (.int h)
    · rw [e]; exact .turned ih
  | repeat_ _ _ ih1 ih2 => rw [mergeG]; exact .repeat_ ih1 ih2
/-! ### the program's defs -/
def D_parts : Fn := runF 2 1 b_parts_in
theorem m_parts (g : Gn) : D_parts [g.data] = some (.tuple ((partsG g).map Gn.data)) := by
  unfold D_parts
  cases g <;> simp only [fSeq, fIfS, fRet, fAsg, fOwn, fApp, fExt, fBrk, fCnt, fDrop, fFrz, frz, fNext, fFor, fB, fAnd, fOr, fNot, fAndV, fOrV, fNotV, fIf, fChain, fOp, fUn, fVar, fC, fTup, fLst, fV, fCons, fNil, fCall, fCallL, fLenV, fSl, fPart, fNoPart, fStar, fAug, gS, gT, gN, gC, fSeqI, run_1, run_2, run_3, run_4, ix0, ix1, ix2, ix3, then_nx, then_rt, then_bk, then_ct, turn_nx, turn_ct, turn_bk, turn_rt, res_rt, asB_b, gIx_t, gIx_l, gAdd_i, gSub_i, gLt_i, gLe_i, gGt_i, gGe_i, eq_i, eq_s, ne_i, ne_s, gLen_t, gLen_l, gTup_l, gTup_t, strEq, Option.bind_some, List.getElem?_cons_zero, List.getElem?_cons_succ, List.set_cons_zero, List.set_cons_succ, List.replicate_succ, List.replicate_zero, Nat.reduceSub, Nat.reduceAdd, if_true, if_false, decide_true, decide_false, Bool.not_true, Bool.not_false, Bool.false_eq_true, String.reduceEq, reduceIte, List.length_cons, List.length_nil, Nat.reduceLeDiff, lim, gIn_t, gIn_l, gNi_l, List.all_cons, List.all_nil, fl, Bool.and_self, eqF, List.any_cons, List.any_nil, Bool.or_true, Bool.or_false, Bool.true_or, Bool.false_or, Bool.and_true, Bool.and_false, Bool.false_and, Bool.true_and, b_parts_in, Gn.data, partsG, gnAll_map, List.map_cons, List.map_nil]
def D_mkept : Fn := runF 2 2 b__merged_kept
def D_mturned : Fn := runF 4 2 b__merged_turned
def D_merged : Nat → Fn
  | 0 => fun _ => none
  | n + 1 => runF 4 1 (b_merged (D_merged n) D_parts D_mkept D_mturned)
def D_plain : Nat → Fn
  | 0 => fun _ => none
  | n + 1 => runF 2 1 (b_is_plain (D_plain n) D_parts)
theorem m_mkept (g : Gn) (c : Cd) : D_mkept [g.data, c.data] = some (joinK g c).data := by
  unfold D_mkept
  cases g <;> simp only [fSeq, fIfS, fRet, fAsg, fOwn, fApp, fExt, fBrk, fCnt, fDrop, fFrz, frz, fNext, fFor, fB, fAnd, fOr, fNot, fAndV, fOrV, fNotV, fIf, fChain, fOp, fUn, fVar, fC, fTup, fLst, fV, fCons, fNil, fCall, fCallL, fLenV, fSl, fPart, fNoPart, fStar, fAug, gS, gT, gN, gC, fSeqI, run_1, run_2, run_3, run_4, ix0, ix1, ix2, ix3, then_nx, then_rt, then_bk, then_ct, turn_nx, turn_ct, turn_bk, turn_rt, res_rt, asB_b, gIx_t, gIx_l, gAdd_i, gSub_i, gLt_i, gLe_i, gGt_i, gGe_i, eq_i, eq_s, ne_i, ne_s, gLen_t, gLen_l, gTup_l, gTup_t, strEq, Option.bind_some, List.getElem?_cons_zero, List.getElem?_cons_succ, List.set_cons_zero, List.set_cons_succ, List.replicate_succ, List.replicate_zero, Nat.reduceSub, Nat.reduceAdd, if_true, if_false, decide_true, decide_false, Bool.not_true, Bool.not_false, Bool.false_eq_true, String.reduceEq, reduceIte, List.length_cons, List.length_nil, Nat.reduceLeDiff, lim, b__merged_kept, Gn.data, Cd.data, joinK]
theorem m_mturned {g : Gn} (hg : LeG g) (m : Mp) : D_mturned [g.data, m.data] = some (joinT g m).data := by
  unfold D_mturned
  cases g with
  | int a b =>
    cases hg with
    | int hab =>
    cases m with
    | plus n =>
      have hsl : gSl (.tuple [.str "int", .int a, .int b]) (some 1) none = some (.tuple [.int a, .int b]) := by rfl
      by_cases h1 : -1000 ≤ a + n <;> by_cases h2 : b + n ≤ 1000
      · have h3 : a + n ≤ 1000 := by omega
        have h4 : -1000 ≤ b + n := by omega
        simp only [fSeq, fIfS, fRet, fAsg, fOwn, fApp, fExt, fBrk, fCnt, fDrop, fFrz, frz, fNext, fFor, fB, fAnd, fOr, fNot, fAndV, fOrV, fNotV, fIf, fChain, fOp, fUn, fVar, fC, fTup, fLst, fV, fCons, fNil, fCall, fCallL, fLenV, fSl, fPart, fNoPart, fStar, fAug, gS, gT, gN, gC, fSeqI, run_1, run_2, run_3, run_4, ix0, ix1, ix2, ix3, then_nx, then_rt, then_bk, then_ct, turn_nx, turn_ct, turn_bk, turn_rt, res_rt, asB_b, gIx_t, gIx_l, gAdd_i, gSub_i, gLt_i, gLe_i, gGt_i, gGe_i, eq_i, eq_s, ne_i, ne_s, gLen_t, gLen_l, gTup_l, gTup_t, strEq, Option.bind_some, List.getElem?_cons_zero, List.getElem?_cons_succ, List.set_cons_zero, List.set_cons_succ, List.replicate_succ, List.replicate_zero, Nat.reduceSub, Nat.reduceAdd, if_true, if_false, decide_true, decide_false, Bool.not_true, Bool.not_false, Bool.false_eq_true, String.reduceEq, reduceIte, List.length_cons, List.length_nil, Nat.reduceLeDiff, lim, b__merged_turned, Gn.data, Mp.data, joinT, hsl, fComp, compM, cStep, Sm.wpS, gNeg, h1, h2, h3, h4, gAll, Sm.allB, Bool.and_self, List.cons_append, List.nil_append]
      · have h4 : -1000 ≤ b + n := by omega
        by_cases h3 : a + n ≤ 1000 <;> simp only [fSeq, fIfS, fRet, fAsg, fOwn, fApp, fExt, fBrk, fCnt, fDrop, fFrz, frz, fNext, fFor, fB, fAnd, fOr, fNot, fAndV, fOrV, fNotV, fIf, fChain, fOp, fUn, fVar, fC, fTup, fLst, fV, fCons, fNil, fCall, fCallL, fLenV, fSl, fPart, fNoPart, fStar, fAug, gS, gT, gN, gC, fSeqI, run_1, run_2, run_3, run_4, ix0, ix1, ix2, ix3, then_nx, then_rt, then_bk, then_ct, turn_nx, turn_ct, turn_bk, turn_rt, res_rt, asB_b, gIx_t, gIx_l, gAdd_i, gSub_i, gLt_i, gLe_i, gGt_i, gGe_i, eq_i, eq_s, ne_i, ne_s, gLen_t, gLen_l, gTup_l, gTup_t, strEq, Option.bind_some, List.getElem?_cons_zero, List.getElem?_cons_succ, List.set_cons_zero, List.set_cons_succ, List.replicate_succ, List.replicate_zero, Nat.reduceSub, Nat.reduceAdd, if_true, if_false, decide_true, decide_false, Bool.not_true, Bool.not_false, Bool.false_eq_true, String.reduceEq, reduceIte, List.length_cons, List.length_nil, Nat.reduceLeDiff, lim, b__merged_turned, Gn.data, Mp.data, joinT, hsl, fComp, compM, cStep, Sm.wpS, gNeg, h1, h2, h3, h4, gAll, Sm.allB, Bool.and_self, Bool.and_false, Bool.false_and, Bool.and_true]
      · have h3 : a + n ≤ 1000 := by omega
        by_cases h4 : -1000 ≤ b + n <;> simp only [fSeq, fIfS, fRet, fAsg, fOwn, fApp, fExt, fBrk, fCnt, fDrop, fFrz, frz, fNext, fFor, fB, fAnd, fOr, fNot, fAndV, fOrV, fNotV, fIf, fChain, fOp, fUn, fVar, fC, fTup, fLst, fV, fCons, fNil, fCall, fCallL, fLenV, fSl, fPart, fNoPart, fStar, fAug, gS, gT, gN, gC, fSeqI, run_1, run_2, run_3, run_4, ix0, ix1, ix2, ix3, then_nx, then_rt, then_bk, then_ct, turn_nx, turn_ct, turn_bk, turn_rt, res_rt, asB_b, gIx_t, gIx_l, gAdd_i, gSub_i, gLt_i, gLe_i, gGt_i, gGe_i, eq_i, eq_s, ne_i, ne_s, gLen_t, gLen_l, gTup_l, gTup_t, strEq, Option.bind_some, List.getElem?_cons_zero, List.getElem?_cons_succ, List.set_cons_zero, List.set_cons_succ, List.replicate_succ, List.replicate_zero, Nat.reduceSub, Nat.reduceAdd, if_true, if_false, decide_true, decide_false, Bool.not_true, Bool.not_false, Bool.false_eq_true, String.reduceEq, reduceIte, List.length_cons, List.length_nil, Nat.reduceLeDiff, lim, b__merged_turned, Gn.data, Mp.data, joinT, hsl, fComp, compM, cStep, Sm.wpS, gNeg, h1, h2, h3, h4, gAll, Sm.allB, Bool.and_self, Bool.and_false, Bool.false_and, Bool.and_true]
      · by_cases h3 : a + n ≤ 1000 <;> by_cases h4 : -1000 ≤ b + n <;> simp only [fSeq, fIfS, fRet, fAsg, fOwn, fApp, fExt, fBrk, fCnt, fDrop, fFrz, frz, fNext, fFor, fB, fAnd, fOr, fNot, fAndV, fOrV, fNotV, fIf, fChain, fOp, fUn, fVar, fC, fTup, fLst, fV, fCons, fNil, fCall, fCallL, fLenV, fSl, fPart, fNoPart, fStar, fAug, gS, gT, gN, gC, fSeqI, run_1, run_2, run_3, run_4, ix0, ix1, ix2, ix3, then_nx, then_rt, then_bk, then_ct, turn_nx, turn_ct, turn_bk, turn_rt, res_rt, asB_b, gIx_t, gIx_l, gAdd_i, gSub_i, gLt_i, gLe_i, gGt_i, gGe_i, eq_i, eq_s, ne_i, ne_s, gLen_t, gLen_l, gTup_l, gTup_t, strEq, Option.bind_some, List.getElem?_cons_zero, List.getElem?_cons_succ, List.set_cons_zero, List.set_cons_succ, List.replicate_succ, List.replicate_zero, Nat.reduceSub, Nat.reduceAdd, if_true, if_false, decide_true, decide_false, Bool.not_true, Bool.not_false, Bool.false_eq_true, String.reduceEq, reduceIte, List.length_cons, List.length_nil, Nat.reduceLeDiff, lim, b__merged_turned, Gn.data, Mp.data, joinT, hsl, fComp, compM, cStep, Sm.wpS, gNeg, h1, h2, h3, h4, gAll, Sm.allB, Bool.and_self, Bool.and_false, Bool.false_and, Bool.and_true]
    | _ => simp only [fSeq, fIfS, fRet, fAsg, fOwn, fApp, fExt, fBrk, fCnt, fDrop, fFrz, frz, fNext, fFor, fB, fAnd, fOr, fNot, fAndV, fOrV, fNotV, fIf, fChain, fOp, fUn, fVar, fC, fTup, fLst, fV, fCons, fNil, fCall, fCallL, fLenV, fSl, fPart, fNoPart, fStar, fAug, gS, gT, gN, gC, fSeqI, run_1, run_2, run_3, run_4, ix0, ix1, ix2, ix3, then_nx, then_rt, then_bk, then_ct, turn_nx, turn_ct, turn_bk, turn_rt, res_rt, asB_b, gIx_t, gIx_l, gAdd_i, gSub_i, gLt_i, gLe_i, gGt_i, gGe_i, eq_i, eq_s, ne_i, ne_s, gLen_t, gLen_l, gTup_l, gTup_t, strEq, Option.bind_some, List.getElem?_cons_zero, List.getElem?_cons_succ, List.set_cons_zero, List.set_cons_succ, List.replicate_succ, List.replicate_zero, Nat.reduceSub, Nat.reduceAdd, if_true, if_false, decide_true, decide_false, Bool.not_true, Bool.not_false, Bool.false_eq_true, String.reduceEq, reduceIte, List.length_cons, List.length_nil, Nat.reduceLeDiff, lim, b__merged_turned, Gn.data, Mp.data, joinT]
  | _ => simp only [fSeq, fIfS, fRet, fAsg, fOwn, fApp, fExt, fBrk, fCnt, fDrop, fFrz, frz, fNext, fFor, fB, fAnd, fOr, fNot, fAndV, fOrV, fNotV, fIf, fChain, fOp, fUn, fVar, fC, fTup, fLst, fV, fCons, fNil, fCall, fCallL, fLenV, fSl, fPart, fNoPart, fStar, fAug, gS, gT, gN, gC, fSeqI, run_1, run_2, run_3, run_4, ix0, ix1, ix2, ix3, then_nx, then_rt, then_bk, then_ct, turn_nx, turn_ct, turn_bk, turn_rt, res_rt, asB_b, gIx_t, gIx_l, gAdd_i, gSub_i, gLt_i, gLe_i, gGt_i, gGe_i, eq_i, eq_s, ne_i, ne_s, gLen_t, gLen_l, gTup_l, gTup_t, strEq, Option.bind_some, List.getElem?_cons_zero, List.getElem?_cons_succ, List.set_cons_zero, List.set_cons_succ, List.replicate_succ, List.replicate_zero, Nat.reduceSub, Nat.reduceAdd, if_true, if_false, decide_true, decide_false, Bool.not_true, Bool.not_false, Bool.false_eq_true, String.reduceEq, reduceIte, List.length_cons, List.length_nil, Nat.reduceLeDiff, lim, b__merged_turned, Gn.data, Mp.data, joinT]
theorem leG_parts {g : Gn} (hle : LeG g) : ∀ p ∈ partsG g, LeG p := fun p hp => by
  cases hle with
  | int => cases hp
  | pick => cases hp
  | tuple hh => exact hh p hp
  | list hh => cases List.mem_singleton.mp hp; exact hh
  | one hh => exact hh p hp
  | kept hh => cases List.mem_singleton.mp hp; exact hh
  | turned hh => cases List.mem_singleton.mp hp; exact hh
  | repeat_ h1 h2 =>
    rcases List.mem_cons.mp hp with rfl | hp
    · exact h1
    · cases List.mem_singleton.mp hp; exact h2
theorem m_merged : ∀ (n : Nat) {k : Nat} {g : Gn}, OkGk k n g → LeG g → D_merged n [g.data] = some (mergeG g).data
  | 0, k, g, h, _ => absurd h.pos (by omega)
  | n + 1, k, g, h, hle => by
    have ih : ∀ p ∈ partsG g, D_merged n [p.data] = some (mergeG p).data := fun p hp => m_merged n (h.parts p hp) (leG_parts hle p hp)
    have hpl := h.parts_len
    have hp := m_parts g
    unfold D_merged
    have hc : ∀ (ρ : List Sl), ρ[0]? = some (.val g.data) → 3 < ρ.length → fComp (fSeqI (fCall D_parts (fCons (fVar 0) fNil))) (gS 3) (fun _ => some true) (fCall (D_merged n) (fCons (fVar 3) fNil)) [3] ρ = some ((partsG g).map fun p => (mergeG p).data) := fun ρ h0 h3 => by
      refine fComp_map (l := partsG g) (f := Gn.data) ?_ (by omega) fun p hpm => ?_
      · simp only [fSeq, fIfS, fRet, fAsg, fOwn, fApp, fExt, fBrk, fCnt, fDrop, fFrz, frz, fNext, fFor, fB, fAnd, fOr, fNot, fAndV, fOrV, fNotV, fIf, fChain, fOp, fUn, fVar, fC, fTup, fLst, fV, fCons, fNil, fCall, fCallL, fLenV, fSl, fPart, fNoPart, fStar, fAug, gS, gT, gN, gC, fSeqI, run_1, run_2, run_3, run_4, ix0, ix1, ix2, ix3, then_nx, then_rt, then_bk, then_ct, turn_nx, turn_ct, turn_bk, turn_rt, res_rt, asB_b, gIx_t, gIx_l, gAdd_i, gSub_i, gLt_i, gLe_i, gGt_i, gGe_i, eq_i, eq_s, ne_i, ne_s, gLen_t, gLen_l, gTup_l, gTup_t, strEq, Option.bind_some, List.getElem?_cons_zero, List.getElem?_cons_succ, List.set_cons_zero, List.set_cons_succ, List.replicate_succ, List.replicate_zero, Nat.reduceSub, Nat.reduceAdd, if_true, if_false, decide_true, decide_false, Bool.not_true, Bool.not_false, Bool.false_eq_true, String.reduceEq, reduceIte, List.length_cons, List.length_nil, Nat.reduceLeDiff, lim, h0, hp]
      · have e3 : ((Sm.wpS ρ [3]).set 3 (.val p.data))[3]? = some (Sl.val p.data) := by
          rw [List.getElem?_set_self]
          show 3 < (ρ.set 3 .un).length
          rw [List.length_set]; exact h3
        simp only [fSeq, fIfS, fRet, fAsg, fOwn, fApp, fExt, fBrk, fCnt, fDrop, fFrz, frz, fNext, fFor, fB, fAnd, fOr, fNot, fAndV, fOrV, fNotV, fIf, fChain, fOp, fUn, fVar, fC, fTup, fLst, fV, fCons, fNil, fCall, fCallL, fLenV, fSl, fPart, fNoPart, fStar, fAug, gS, gT, gN, gC, fSeqI, run_1, run_2, run_3, run_4, ix0, ix1, ix2, ix3, then_nx, then_rt, then_bk, then_ct, turn_nx, turn_ct, turn_bk, turn_rt, res_rt, asB_b, gIx_t, gIx_l, gAdd_i, gSub_i, gLt_i, gLe_i, gGt_i, gGe_i, eq_i, eq_s, ne_i, ne_s, gLen_t, gLen_l, gTup_l, gTup_t, strEq, Option.bind_some, List.getElem?_cons_zero, List.getElem?_cons_succ, List.set_cons_zero, List.set_cons_succ, List.replicate_succ, List.replicate_zero, Nat.reduceSub, Nat.reduceAdd, if_true, if_false, decide_true, decide_false, Bool.not_true, Bool.not_false, Bool.false_eq_true, String.reduceEq, reduceIte, List.length_cons, List.length_nil, Nat.reduceLeDiff, lim, cStep, e3, ih p hpm]
    have hc1 := hc [.val g.data, .val (.str (nameG g)), .un, .un] rfl (by show 3 < 4; decide)
    cases g with
    | int a b =>
      simp only [Gn.data, nameG, partsG, List.map_nil] at hc1
      simp only [fSeq, fIfS, fRet, fAsg, fOwn, fApp, fExt, fBrk, fCnt, fDrop, fFrz, frz, fNext, fFor, fB, fAnd, fOr, fNot, fAndV, fOrV, fNotV, fIf, fChain, fOp, fUn, fVar, fC, fTup, fLst, fV, fCons, fNil, fCall, fCallL, fLenV, fSl, fPart, fNoPart, fStar, fAug, gS, gT, gN, gC, fSeqI, run_1, run_2, run_3, run_4, ix0, ix1, ix2, ix3, then_nx, then_rt, then_bk, then_ct, turn_nx, turn_ct, turn_bk, turn_rt, res_rt, asB_b, gIx_t, gIx_l, gAdd_i, gSub_i, gLt_i, gLe_i, gGt_i, gGe_i, eq_i, eq_s, ne_i, ne_s, gLen_t, gLen_l, gTup_l, gTup_t, strEq, Option.bind_some, List.getElem?_cons_zero, List.getElem?_cons_succ, List.set_cons_zero, List.set_cons_succ, List.replicate_succ, List.replicate_zero, Nat.reduceSub, Nat.reduceAdd, if_true, if_false, decide_true, decide_false, Bool.not_true, Bool.not_false, Bool.false_eq_true, String.reduceEq, reduceIte, List.length_cons, List.length_nil, Nat.reduceLeDiff, lim, gIn_t, gIn_l, gNi_l, List.all_cons, List.all_nil, fl, Bool.and_self, eqF, List.any_cons, List.any_nil, Bool.or_true, Bool.or_false, Bool.true_or, Bool.false_or, Bool.and_true, Bool.and_false, Bool.false_and, Bool.true_and, b_merged, hc1, Gn.data, mergeG]
    | pick ws =>
      simp only [Gn.data, nameG, partsG, List.map_nil] at hc1
      simp only [fSeq, fIfS, fRet, fAsg, fOwn, fApp, fExt, fBrk, fCnt, fDrop, fFrz, frz, fNext, fFor, fB, fAnd, fOr, fNot, fAndV, fOrV, fNotV, fIf, fChain, fOp, fUn, fVar, fC, fTup, fLst, fV, fCons, fNil, fCall, fCallL, fLenV, fSl, fPart, fNoPart, fStar, fAug, gS, gT, gN, gC, fSeqI, run_1, run_2, run_3, run_4, ix0, ix1, ix2, ix3, then_nx, then_rt, then_bk, then_ct, turn_nx, turn_ct, turn_bk, turn_rt, res_rt, asB_b, gIx_t, gIx_l, gAdd_i, gSub_i, gLt_i, gLe_i, gGt_i, gGe_i, eq_i, eq_s, ne_i, ne_s, gLen_t, gLen_l, gTup_l, gTup_t, strEq, Option.bind_some, List.getElem?_cons_zero, List.getElem?_cons_succ, List.set_cons_zero, List.set_cons_succ, List.replicate_succ, List.replicate_zero, Nat.reduceSub, Nat.reduceAdd, if_true, if_false, decide_true, decide_false, Bool.not_true, Bool.not_false, Bool.false_eq_true, String.reduceEq, reduceIte, List.length_cons, List.length_nil, Nat.reduceLeDiff, lim, gIn_t, gIn_l, gNi_l, List.all_cons, List.all_nil, fl, Bool.and_self, eqF, List.any_cons, List.any_nil, Bool.or_true, Bool.or_false, Bool.true_or, Bool.false_or, Bool.and_true, Bool.and_false, Bool.false_and, Bool.true_and, b_merged, hc1, Gn.data, mergeG]
    | tuple gs =>
      simp only [Gn.data, nameG, partsG, gnAll_map] at hc1
      simp only [fSeq, fIfS, fRet, fAsg, fOwn, fApp, fExt, fBrk, fCnt, fDrop, fFrz, frz, fNext, fFor, fB, fAnd, fOr, fNot, fAndV, fOrV, fNotV, fIf, fChain, fOp, fUn, fVar, fC, fTup, fLst, fV, fCons, fNil, fCall, fCallL, fLenV, fSl, fPart, fNoPart, fStar, fAug, gS, gT, gN, gC, fSeqI, run_1, run_2, run_3, run_4, ix0, ix1, ix2, ix3, then_nx, then_rt, then_bk, then_ct, turn_nx, turn_ct, turn_bk, turn_rt, res_rt, asB_b, gIx_t, gIx_l, gAdd_i, gSub_i, gLt_i, gLe_i, gGt_i, gGe_i, eq_i, eq_s, ne_i, ne_s, gLen_t, gLen_l, gTup_l, gTup_t, strEq, Option.bind_some, List.getElem?_cons_zero, List.getElem?_cons_succ, List.set_cons_zero, List.set_cons_succ, List.replicate_succ, List.replicate_zero, Nat.reduceSub, Nat.reduceAdd, if_true, if_false, decide_true, decide_false, Bool.not_true, Bool.not_false, Bool.false_eq_true, String.reduceEq, reduceIte, List.length_cons, List.length_nil, Nat.reduceLeDiff, lim, gIn_t, gIn_l, gNi_l, List.all_cons, List.all_nil, fl, Bool.and_self, eqF, List.any_cons, List.any_nil, Bool.or_true, Bool.or_false, Bool.true_or, Bool.false_or, Bool.and_true, Bool.and_false, Bool.false_and, Bool.true_and, b_merged, hc1, Gn.data, mergeG, gnAll_map, mergeAll_map, List.map_map, Function.comp_def]
    | one gs =>
      simp only [Gn.data, nameG, partsG, gnAll_map] at hc1
      simp only [fSeq, fIfS, fRet, fAsg, fOwn, fApp, fExt, fBrk, fCnt, fDrop, fFrz, frz, fNext, fFor, fB, fAnd, fOr, fNot, fAndV, fOrV, fNotV, fIf, fChain, fOp, fUn, fVar, fC, fTup, fLst, fV, fCons, fNil, fCall, fCallL, fLenV, fSl, fPart, fNoPart, fStar, fAug, gS, gT, gN, gC, fSeqI, run_1, run_2, run_3, run_4, ix0, ix1, ix2, ix3, then_nx, then_rt, then_bk, then_ct, turn_nx, turn_ct, turn_bk, turn_rt, res_rt, asB_b, gIx_t, gIx_l, gAdd_i, gSub_i, gLt_i, gLe_i, gGt_i, gGe_i, eq_i, eq_s, ne_i, ne_s, gLen_t, gLen_l, gTup_l, gTup_t, strEq, Option.bind_some, List.getElem?_cons_zero, List.getElem?_cons_succ, List.set_cons_zero, List.set_cons_succ, List.replicate_succ, List.replicate_zero, Nat.reduceSub, Nat.reduceAdd, if_true, if_false, decide_true, decide_false, Bool.not_true, Bool.not_false, Bool.false_eq_true, String.reduceEq, reduceIte, List.length_cons, List.length_nil, Nat.reduceLeDiff, lim, gIn_t, gIn_l, gNi_l, List.all_cons, List.all_nil, fl, Bool.and_self, eqF, List.any_cons, List.any_nil, Bool.or_true, Bool.or_false, Bool.true_or, Bool.false_or, Bool.and_true, Bool.and_false, Bool.false_and, Bool.true_and, b_merged, hc1, Gn.data, mergeG, gnAll_map, mergeAll_map, List.map_map, Function.comp_def]
    | list g a b =>
      simp only [Gn.data, nameG, partsG, List.map_cons, List.map_nil] at hc1
      simp only [fSeq, fIfS, fRet, fAsg, fOwn, fApp, fExt, fBrk, fCnt, fDrop, fFrz, frz, fNext, fFor, fB, fAnd, fOr, fNot, fAndV, fOrV, fNotV, fIf, fChain, fOp, fUn, fVar, fC, fTup, fLst, fV, fCons, fNil, fCall, fCallL, fLenV, fSl, fPart, fNoPart, fStar, fAug, gS, gT, gN, gC, fSeqI, run_1, run_2, run_3, run_4, ix0, ix1, ix2, ix3, then_nx, then_rt, then_bk, then_ct, turn_nx, turn_ct, turn_bk, turn_rt, res_rt, asB_b, gIx_t, gIx_l, gAdd_i, gSub_i, gLt_i, gLe_i, gGt_i, gGe_i, eq_i, eq_s, ne_i, ne_s, gLen_t, gLen_l, gTup_l, gTup_t, strEq, Option.bind_some, List.getElem?_cons_zero, List.getElem?_cons_succ, List.set_cons_zero, List.set_cons_succ, List.replicate_succ, List.replicate_zero, Nat.reduceSub, Nat.reduceAdd, if_true, if_false, decide_true, decide_false, Bool.not_true, Bool.not_false, Bool.false_eq_true, String.reduceEq, reduceIte, List.length_cons, List.length_nil, Nat.reduceLeDiff, lim, gIn_t, gIn_l, gNi_l, List.all_cons, List.all_nil, fl, Bool.and_self, eqF, List.any_cons, List.any_nil, Bool.or_true, Bool.or_false, Bool.true_or, Bool.false_or, Bool.and_true, Bool.and_false, Bool.false_and, Bool.true_and, b_merged, hc1, Gn.data, mergeG]
    | kept g c =>
      simp only [Gn.data, nameG, partsG, List.map_cons, List.map_nil] at hc1
      simp only [fSeq, fIfS, fRet, fAsg, fOwn, fApp, fExt, fBrk, fCnt, fDrop, fFrz, frz, fNext, fFor, fB, fAnd, fOr, fNot, fAndV, fOrV, fNotV, fIf, fChain, fOp, fUn, fVar, fC, fTup, fLst, fV, fCons, fNil, fCall, fCallL, fLenV, fSl, fPart, fNoPart, fStar, fAug, gS, gT, gN, gC, fSeqI, run_1, run_2, run_3, run_4, ix0, ix1, ix2, ix3, then_nx, then_rt, then_bk, then_ct, turn_nx, turn_ct, turn_bk, turn_rt, res_rt, asB_b, gIx_t, gIx_l, gAdd_i, gSub_i, gLt_i, gLe_i, gGt_i, gGe_i, eq_i, eq_s, ne_i, ne_s, gLen_t, gLen_l, gTup_l, gTup_t, strEq, Option.bind_some, List.getElem?_cons_zero, List.getElem?_cons_succ, List.set_cons_zero, List.set_cons_succ, List.replicate_succ, List.replicate_zero, Nat.reduceSub, Nat.reduceAdd, if_true, if_false, decide_true, decide_false, Bool.not_true, Bool.not_false, Bool.false_eq_true, String.reduceEq, reduceIte, List.length_cons, List.length_nil, Nat.reduceLeDiff, lim, gIn_t, gIn_l, gNi_l, List.all_cons, List.all_nil, fl, Bool.and_self, eqF, List.any_cons, List.any_nil, Bool.or_true, Bool.or_false, Bool.true_or, Bool.false_or, Bool.and_true, Bool.and_false, Bool.false_and, Bool.true_and, b_merged, hc1, Gn.data, mergeG, m_mkept]
    | turned g m =>
      have ihm := m_mturned (leG_merge (leG_parts hle g (List.mem_singleton.mpr rfl))) m
      simp only [Gn.data, nameG, partsG, List.map_cons, List.map_nil] at hc1
      simp only [fSeq, fIfS, fRet, fAsg, fOwn, fApp, fExt, fBrk, fCnt, fDrop, fFrz, frz, fNext, fFor, fB, fAnd, fOr, fNot, fAndV, fOrV, fNotV, fIf, fChain, fOp, fUn, fVar, fC, fTup, fLst, fV, fCons, fNil, fCall, fCallL, fLenV, fSl, fPart, fNoPart, fStar, fAug, gS, gT, gN, gC, fSeqI, run_1, run_2, run_3, run_4, ix0, ix1, ix2, ix3, then_nx, then_rt, then_bk, then_ct, turn_nx, turn_ct, turn_bk, turn_rt, res_rt, asB_b, gIx_t, gIx_l, gAdd_i, gSub_i, gLt_i, gLe_i, gGt_i, gGe_i, eq_i, eq_s, ne_i, ne_s, gLen_t, gLen_l, gTup_l, gTup_t, strEq, Option.bind_some, List.getElem?_cons_zero, List.getElem?_cons_succ, List.set_cons_zero, List.set_cons_succ, List.replicate_succ, List.replicate_zero, Nat.reduceSub, Nat.reduceAdd, if_true, if_false, decide_true, decide_false, Bool.not_true, Bool.not_false, Bool.false_eq_true, String.reduceEq, reduceIte, List.length_cons, List.length_nil, Nat.reduceLeDiff, lim, gIn_t, gIn_l, gNi_l, List.all_cons, List.all_nil, fl, Bool.and_self, eqF, List.any_cons, List.any_nil, Bool.or_true, Bool.or_false, Bool.true_or, Bool.false_or, Bool.and_true, Bool.and_false, Bool.false_and, Bool.true_and, b_merged, hc1, Gn.data, mergeG, ihm]
    | repeat_ g h =>
      simp only [Gn.data, nameG, partsG, List.map_cons, List.map_nil] at hc1
      simp only [fSeq, fIfS, fRet, fAsg, fOwn, fApp, fExt, fBrk, fCnt, fDrop, fFrz, frz, fNext, fFor, fB, fAnd, fOr, fNot, fAndV, fOrV, fNotV, fIf, fChain, fOp, fUn, fVar, fC, fTup, fLst, fV, fCons, fNil, fCall, fCallL, fLenV, fSl, fPart, fNoPart, fStar, fAug, gS, gT, gN, gC, fSeqI, run_1, run_2, run_3, run_4, ix0, ix1, ix2, ix3, then_nx, then_rt, then_bk, then_ct, turn_nx, turn_ct, turn_bk, turn_rt, res_rt, asB_b, gIx_t, gIx_l, gAdd_i, gSub_i, gLt_i, gLe_i, gGt_i, gGe_i, eq_i, eq_s, ne_i, ne_s, gLen_t, gLen_l, gTup_l, gTup_t, strEq, Option.bind_some, List.getElem?_cons_zero, List.getElem?_cons_succ, List.set_cons_zero, List.set_cons_succ, List.replicate_succ, List.replicate_zero, Nat.reduceSub, Nat.reduceAdd, if_true, if_false, decide_true, decide_false, Bool.not_true, Bool.not_false, Bool.false_eq_true, String.reduceEq, reduceIte, List.length_cons, List.length_nil, Nat.reduceLeDiff, lim, gIn_t, gIn_l, gNi_l, List.all_cons, List.all_nil, fl, Bool.and_self, eqF, List.any_cons, List.any_nil, Bool.or_true, Bool.or_false, Bool.true_or, Bool.false_or, Bool.and_true, Bool.and_false, Bool.false_and, Bool.true_and, b_merged, hc1, Gn.data, mergeG]
theorem allB_map {α : Type} (f : α → Bool) : ∀ l : List α, Sm.allB (l.map fun a => .bool (f a)) = some (l.all f)
  | [] => rfl
  | a :: l => by
    show (Sm.allB (l.map fun a => .bool (f a))).bind _ = _
    rw [allB_map f l]
    rfl
theorem m_plain : ∀ (n : Nat) {k : Nat} {g : Gn}, OkGk k n g → D_plain n [g.data] = some (.bool (plainG g))
  | 0, k, g, h => absurd h.pos (by omega)
  | n + 1, k, g, h => by
    have ih : ∀ p ∈ partsG g, D_plain n [p.data] = some (.bool (plainG p)) := fun p hp => m_plain n (h.parts p hp)
    have hpl := h.parts_len
    have hp := m_parts g
    have hn := plain_eq g
    have hc : fComp (fSeqI (fCall D_parts (fCons (fVar 0) fNil))) (gS 1) (fun _ => some true) (fCall (D_plain n) (fCons (fVar 1) fNil)) [1] [.val g.data, .un] = some ((partsG g).map fun p => .bool (plainG p)) := by
      refine fComp_map (l := partsG g) (f := Gn.data) ?_ (by omega) fun p hpm => ?_
      · simp only [fSeq, fIfS, fRet, fAsg, fOwn, fApp, fExt, fBrk, fCnt, fDrop, fFrz, frz, fNext, fFor, fB, fAnd, fOr, fNot, fAndV, fOrV, fNotV, fIf, fChain, fOp, fUn, fVar, fC, fTup, fLst, fV, fCons, fNil, fCall, fCallL, fLenV, fSl, fPart, fNoPart, fStar, fAug, gS, gT, gN, gC, fSeqI, run_1, run_2, run_3, run_4, ix0, ix1, ix2, ix3, then_nx, then_rt, then_bk, then_ct, turn_nx, turn_ct, turn_bk, turn_rt, res_rt, asB_b, gIx_t, gIx_l, gAdd_i, gSub_i, gLt_i, gLe_i, gGt_i, gGe_i, eq_i, eq_s, ne_i, ne_s, gLen_t, gLen_l, gTup_l, gTup_t, strEq, Option.bind_some, List.getElem?_cons_zero, List.getElem?_cons_succ, List.set_cons_zero, List.set_cons_succ, List.replicate_succ, List.replicate_zero, Nat.reduceSub, Nat.reduceAdd, if_true, if_false, decide_true, decide_false, Bool.not_true, Bool.not_false, Bool.false_eq_true, String.reduceEq, reduceIte, List.length_cons, List.length_nil, Nat.reduceLeDiff, lim, hp]
      · simp only [fSeq, fIfS, fRet, fAsg, fOwn, fApp, fExt, fBrk, fCnt, fDrop, fFrz, frz, fNext, fFor, fB, fAnd, fOr, fNot, fAndV, fOrV, fNotV, fIf, fChain, fOp, fUn, fVar, fC, fTup, fLst, fV, fCons, fNil, fCall, fCallL, fLenV, fSl, fPart, fNoPart, fStar, fAug, gS, gT, gN, gC, fSeqI, run_1, run_2, run_3, run_4, ix0, ix1, ix2, ix3, then_nx, then_rt, then_bk, then_ct, turn_nx, turn_ct, turn_bk, turn_rt, res_rt, asB_b, gIx_t, gIx_l, gAdd_i, gSub_i, gLt_i, gLe_i, gGt_i, gGe_i, eq_i, eq_s, ne_i, ne_s, gLen_t, gLen_l, gTup_l, gTup_t, strEq, Option.bind_some, List.getElem?_cons_zero, List.getElem?_cons_succ, List.set_cons_zero, List.set_cons_succ, List.replicate_succ, List.replicate_zero, Nat.reduceSub, Nat.reduceAdd, if_true, if_false, decide_true, decide_false, Bool.not_true, Bool.not_false, Bool.false_eq_true, String.reduceEq, reduceIte, List.length_cons, List.length_nil, Nat.reduceLeDiff, lim, cStep, Sm.wpS, ih p hpm]
    have ha : gAll [.list ((partsG g).map fun p => .bool (plainG p))] = some (.bool ((partsG g).all plainG)) := by
      show (Sm.allB _).bind _ = _
      rw [allB_map]
      rfl
    rw [hn]
    unfold D_plain
    cases g <;> (simp only [Gn.data] at hc; simp only [fSeq, fIfS, fRet, fAsg, fOwn, fApp, fExt, fBrk, fCnt, fDrop, fFrz, frz, fNext, fFor, fB, fAnd, fOr, fNot, fAndV, fOrV, fNotV, fIf, fChain, fOp, fUn, fVar, fC, fTup, fLst, fV, fCons, fNil, fCall, fCallL, fLenV, fSl, fPart, fNoPart, fStar, fAug, gS, gT, gN, gC, fSeqI, run_1, run_2, run_3, run_4, ix0, ix1, ix2, ix3, then_nx, then_rt, then_bk, then_ct, turn_nx, turn_ct, turn_bk, turn_rt, res_rt, asB_b, gIx_t, gIx_l, gAdd_i, gSub_i, gLt_i, gLe_i, gGt_i, gGe_i, eq_i, eq_s, ne_i, ne_s, gLen_t, gLen_l, gTup_l, gTup_t, strEq, Option.bind_some, List.getElem?_cons_zero, List.getElem?_cons_succ, List.set_cons_zero, List.set_cons_succ, List.replicate_succ, List.replicate_zero, Nat.reduceSub, Nat.reduceAdd, if_true, if_false, decide_true, decide_false, Bool.not_true, Bool.not_false, Bool.false_eq_true, String.reduceEq, reduceIte, List.length_cons, List.length_nil, Nat.reduceLeDiff, lim, gIn_t, gIn_l, gNi_l, List.all_cons, List.all_nil, fl, Bool.and_self, eqF, List.any_cons, List.any_nil, Bool.or_true, Bool.or_false, Bool.true_or, Bool.false_or, Bool.and_true, Bool.and_false, Bool.false_and, Bool.true_and, b_is_plain, Gn.data, nameG, inV, eqV, hc, ha] <;> first | rfl | decide | skip)
end Fb
namespace Fb
open PySem PySem.Spec PyProof.Rows L2 Evl CrT Cr Sm
def spMergedP (K : PySem.W.Frag) (n : Nat) : Sp := fun vs H Q _ => ∃ (v : V) (g : Gn) (k : Nat), vs = [v] ∧ Vd K H v g.data ∧ OkGk k n g ∧ LeG g ∧ ∀ r H', Same H H' → Vd K H' r (mergeG g).data → Q r H'
theorem merged_sp {K : PySem.W.Frag} {n : Nat} : ∀ vs H Q E, spMergedP K n vs H Q E → spF K A0 (D_merged n) vs H Q E := fun vs H Q E h => by
  obtain ⟨v, g, k, rfl, hv, hg, hl, q⟩ := h
  exact ⟨O0, _, _, owl0, .cons (.of_vd hv) .nil, m_merged n hg hl, fun r H' s hr => q r H' s (hr.vd (flat_gn (merge_ok hg)))⟩
theorem plain_sp {K : PySem.W.Frag} {n : Nat} : ∀ vs H Q E, spPlain K n vs H Q E → spF K A0 (D_plain n) vs H Q E := fun vs H Q E h => by
  obtain ⟨v, g, k, rfl, hv, hg, hn, q⟩ := h
  exact ⟨O0, _, _, owl0, .cons (.of_vd hv) .nil, m_plain n hg, fun r H' s hr => by cases hr.bl_inv; exact q H' s⟩
end Fb
namespace Fb
open PySem PySem.Spec PyProof.Rows L2 Evl CrT Cr Sm
def b_is_word : FS :=
      (fRet (fAndV (fChain gLe gLe (fC (.int 1)) (fLenV 0) (fC (.int 8))) (fCall gAll (fCons (fV (fComp (fSeqI (fVar 0)) (gS 1) (fun _ => some true) (fChain gLe gLe (fC (.str "a")) (fVar 1) (fC (.str "z"))) [1])) fNil))))
def b_kind_of (f__kind_at : Fn) : FS :=
      (fRet (fCall f__kind_at (fCons (fVar 0) (fCons (fTup fNil) fNil))))
def b__kind_at (f__kind_at : Fn) (f_parts_in : Fn) (f__fault_itself : Fn) (f__kind_made : Fn) : FS :=
      (fSeq (fAsg (fV (fComp (fEnu (fCons (fCall f_parts_in (fCons (fVar 0) fNil)) fNil)) (gT 2 (gC (gS 4) (gC (gS 5) gN))) (fun _ => some true) (fCall f__kind_at (fCons (fVar 5) (fCons (fTup (fStar (fVar 1) (fCons (fVar 4) fNil))) fNil))) [4, 5])) (gS 2))
      (fSeq (fAsg (fCall f__fault_itself (fCons (fVar 0) (fCons (fVar 2) fNil))) (gS 3))
      (fSeq (fIfS (fB (fOp gNotN (fVar 3) (fC .none))) (fun _ => none) fNext)
      (fRet (fCall f__kind_made (fCons (fVar 0) (fCons (fVar 2) fNil)))))))
def b__fault_itself (f__are_right_words : Fn) (f_fits : Fn) (f_kind_behind : Fn) : FS :=
      (fSeq (fAsg (fOp gIx (fVar 0) (fC (.int 0))) (gS 2))
      (fSeq (fIfS (fAnd (fB (fOp gEq (fVar 2) (fC (.str "int")))) (fNot (fChain3 gLe gLe gLe (fUn gNeg (fC (.int 1000))) (fOp gIx (fVar 0) (fC (.int 1))) (fOp gIx (fVar 0) (fC (.int 2))) (fC (.int 1000))))) (fRet (fC (.str "wrong bounds"))) fNext)
      (fSeq (fIfS (fAnd (fB (fOp gEq (fVar 2) (fC (.str "list")))) (fNot (fChain3 gLe gLe gLe (fC (.int 0)) (fOp gIx (fVar 0) (fC (.int 2))) (fOp gIx (fVar 0) (fC (.int 3))) (fC (.int 6))))) (fRet (fC (.str "wrong bounds"))) fNext)
      (fSeq (fIfS (fAnd (fB (fOp gEq (fVar 2) (fC (.str "pick")))) (fNot (fB (fCall f__are_right_words (fCons (fOp gIx (fVar 0) (fC (.int 1))) fNil))))) (fRet (fC (.str "wrong words"))) fNext)
      (fSeq (fIfS (fAnd (fB (fOp gEq (fVar 2) (fC (.str "tuple")))) (fB (fOp gGt (fLenV 1) (fC (.int 4))))) (fRet (fC (.str "wrong number"))) fNext)
      (fSeq (fIfS (fAnd (fB (fOp gEq (fVar 2) (fC (.str "one")))) (fNot (fB (fChain gLe gLe (fC (.int 1)) (fLenV 1) (fC (.int 4)))))) (fRet (fC (.str "wrong number"))) fNext)
      (fSeq (fIfS (fAnd (fB (fOp gEq (fVar 2) (fC (.str "one")))) (fB (fCall gAny (fCons (fV (fComp (fSeqI (fVar 1)) (gS 3) (fun _ => some true) (fOp gNe (fVar 3) (fOp gIx (fVar 1) (fC (.int 0)))) [3])) fNil)))) (fRet (fC (.str "other kinds"))) fNext)
      (fSeq (fIfS (fAnd (fB (fOp gEq (fVar 2) (fC (.str "kept")))) (fNot (fB (fCall f_fits (fCons (fOp gIx (fVar 0) (fC (.int 2))) (fCons (fOp gIx (fVar 1) (fC (.int 0))) fNil)))))) (fRet (fC (.str "does not fit"))) fNext)
      (fSeq (fIfS (fAnd (fB (fOp gEq (fVar 2) (fC (.str "turned")))) (fB (fOp gIsN (fCall f_kind_behind (fCons (fOp gIx (fVar 0) (fC (.int 2))) (fCons (fOp gIx (fVar 1) (fC (.int 0))) fNil))) (fC .none)))) (fRet (fC (.str "does not fit"))) fNext)
      (fSeq (fIfS (fAnd (fB (fOp gEq (fVar 2) (fC (.str "repeat")))) (fB (fOp gNe (fOp gIx (fVar 1) (fC (.int 0))) (fC (.str "int"))))) (fRet (fC (.str "does not fit"))) fNext)
      (fRet (fC .none))))))))))))
def b__are_right_words (f_is_word : Fn) : FS :=
      (fSeq (fAsg (fOp gEq (fUn gLenW (fVar 0)) (fLenV 0)) (gS 1))
      (fRet (fAndV (fChain gLe gLe (fC (.int 1)) (fLenV 0) (fC (.int 10))) (fAndV (fVar 1) (fCall gAll (fCons (fV (fComp (fSeqI (fVar 0)) (gS 2) (fun _ => some true) (fCall f_is_word (fCons (fVar 2) fNil)) [2])) fNil))))))
def b__kind_made (f_kind_behind : Fn) : FS :=
      (fSeq (fAsg (fOp gIx (fVar 0) (fC (.int 0))) (gS 2))
      (fSeq (fIfS (fB (fOp gEq (fVar 2) (fC (.str "int")))) (fRet (fC (.str "int"))) fNext)
      (fSeq (fIfS (fB (fOp gEq (fVar 2) (fC (.str "pick")))) (fRet (fC (.str "word"))) fNext)
      (fSeq (fIfS (fB (fOp gEq (fVar 2) (fC (.str "tuple")))) (fRet (fTup (fCons (fC (.str "tuple")) (fCons (fCall gTuple (fCons (fVar 1) fNil)) fNil)))) fNext)
      (fSeq (fIfS (fB (fOp gEq (fVar 2) (fC (.str "list")))) (fRet (fTup (fCons (fC (.str "list")) (fCons (fOp gIx (fVar 1) (fC (.int 0))) fNil)))) fNext)
      (fSeq (fIfS (fB (fOp gEq (fVar 2) (fC (.str "turned")))) (fRet (fCall f_kind_behind (fCons (fOp gIx (fVar 0) (fC (.int 2))) (fCons (fOp gIx (fVar 1) (fC (.int 0))) fNil)))) fNext)
      (fSeq (fIfS (fB (fOp gEq (fVar 2) (fC (.str "repeat")))) (fRet (fTup (fCons (fC (.str "list")) (fCons (fOp gIx (fVar 1) (fC (.int 1))) fNil)))) fNext)
      (fRet (fOp gIx (fVar 1) (fC (.int 0)))))))))))
end Fb
namespace Fb
open PySem PySem.Spec PyProof.Rows L2 Evl CrT Cr Sm CrU
/-! ### words -/
def D_word : Fn := runF 2 1 b_is_word
theorem gLen_s {z : Str} (h : z.length ≤ 10000000) : gLen [.str z] = some (.int z.length) := if_pos h
theorem gLe_s {x y : Str} : gLe (.str x) (.str y) = some (.bool (!decide (y.cps.toList < x.cps.toList))) := rfl
theorem m_word {s : Str} (h : s.length ≤ 1000) : D_word [.str s] = some (.bool (isWord s)) := by
  unfold D_word
  have hl := gLen_s (show s.length ≤ 10000000 by omega)
  have hc : fComp (fSeqI (fVar 0)) (gS 1) (fun _ => some true) (fChain gLe gLe (fC (.str "a")) (fVar 1) (fC (.str "z"))) [1] [.val (.str s), .un] = some (s.cps.toList.map fun c => .bool (decide (97 ≤ c) && decide (c ≤ 122))) := by
    refine fComp_map (l := s.cps.toList) (f := fun c => .str ⟨#[c]⟩) ?_ (by have : s.cps.toList.length = s.length := rfl; omega) fun c _ => ?_
    · simp only [fSeq, fIfS, fRet, fAsg, fOwn, fApp, fExt, fBrk, fCnt, fDrop, fFrz, frz, fNext, fFor, fB, fAnd, fOr, fNot, fAndV, fOrV, fNotV, fIf, fChain, fOp, fUn, fVar, fC, fTup, fLst, fV, fCons, fNil, fCall, fCallL, fLenV, fSl, fPart, fNoPart, fStar, fAug, gS, gT, gN, gC, fSeqI, run_1, run_2, run_3, run_4, ix0, ix1, ix2, ix3, then_nx, then_rt, then_bk, then_ct, turn_nx, turn_ct, turn_bk, turn_rt, res_rt, asB_b, gIx_t, gIx_l, gAdd_i, gSub_i, gLt_i, gLe_i, gGt_i, gGe_i, eq_i, eq_s, ne_i, ne_s, gLen_t, gLen_l, gTup_l, gTup_t, strEq, Option.bind_some, List.getElem?_cons_zero, List.getElem?_cons_succ, List.set_cons_zero, List.set_cons_succ, List.replicate_succ, List.replicate_zero, Nat.reduceSub, Nat.reduceAdd, if_true, if_false, decide_true, decide_false, Bool.not_true, Bool.not_false, Bool.false_eq_true, String.reduceEq, reduceIte, List.length_cons, List.length_nil, Nat.reduceLeDiff, lim]
    · have e := sign_ok c
      rw [← e]
      simp only [fSeq, fIfS, fRet, fAsg, fOwn, fApp, fExt, fBrk, fCnt, fDrop, fFrz, frz, fNext, fFor, fB, fAnd, fOr, fNot, fAndV, fOrV, fNotV, fIf, fChain, fOp, fUn, fVar, fC, fTup, fLst, fV, fCons, fNil, fCall, fCallL, fLenV, fSl, fPart, fNoPart, fStar, fAug, gS, gT, gN, gC, fSeqI, run_1, run_2, run_3, run_4, ix0, ix1, ix2, ix3, then_nx, then_rt, then_bk, then_ct, turn_nx, turn_ct, turn_bk, turn_rt, res_rt, asB_b, gIx_t, gIx_l, gAdd_i, gSub_i, gLt_i, gLe_i, gGt_i, gGe_i, eq_i, eq_s, ne_i, ne_s, gLen_t, gLen_l, gTup_l, gTup_t, strEq, Option.bind_some, List.getElem?_cons_zero, List.getElem?_cons_succ, List.set_cons_zero, List.set_cons_succ, List.replicate_succ, List.replicate_zero, Nat.reduceSub, Nat.reduceAdd, if_true, if_false, decide_true, decide_false, Bool.not_true, Bool.not_false, Bool.false_eq_true, String.reduceEq, reduceIte, List.length_cons, List.length_nil, Nat.reduceLeDiff, lim, cStep, Sm.wpS, gLe_s]
      cases decide ((⟨#[c]⟩ : Str).cps.toList < ("a" : Str).cps.toList) <;> simp only [fSeq, fIfS, fRet, fAsg, fOwn, fApp, fExt, fBrk, fCnt, fDrop, fFrz, frz, fNext, fFor, fB, fAnd, fOr, fNot, fAndV, fOrV, fNotV, fIf, fChain, fOp, fUn, fVar, fC, fTup, fLst, fV, fCons, fNil, fCall, fCallL, fLenV, fSl, fPart, fNoPart, fStar, fAug, gS, gT, gN, gC, fSeqI, run_1, run_2, run_3, run_4, ix0, ix1, ix2, ix3, then_nx, then_rt, then_bk, then_ct, turn_nx, turn_ct, turn_bk, turn_rt, res_rt, asB_b, gIx_t, gIx_l, gAdd_i, gSub_i, gLt_i, gLe_i, gGt_i, gGe_i, eq_i, eq_s, ne_i, ne_s, gLen_t, gLen_l, gTup_l, gTup_t, strEq, Option.bind_some, List.getElem?_cons_zero, List.getElem?_cons_succ, List.set_cons_zero, List.set_cons_succ, List.replicate_succ, List.replicate_zero, Nat.reduceSub, Nat.reduceAdd, if_true, if_false, decide_true, decide_false, Bool.not_true, Bool.not_false, Bool.false_eq_true, String.reduceEq, reduceIte, List.length_cons, List.length_nil, Nat.reduceLeDiff, lim, Bool.true_and, Bool.false_and]
  have ha : gAll [.list (s.cps.toList.map fun c => .bool (decide (97 ≤ c) && decide (c ≤ 122)))] = some (.bool (s.cps.toList.all fun c => decide (97 ≤ c) && decide (c ≤ 122))) := by
    show (Sm.allB _).bind _ = _
    rw [allB_map]
    rfl
  unfold isWord
  by_cases h1 : (1 : Int) ≤ s.length <;> by_cases h2 : (s.length : Int) ≤ 8
  all_goals simp only [fSeq, fIfS, fRet, fAsg, fOwn, fApp, fExt, fBrk, fCnt, fDrop, fFrz, frz, fNext, fFor, fB, fAnd, fOr, fNot, fAndV, fOrV, fNotV, fIf, fChain, fOp, fUn, fVar, fC, fTup, fLst, fV, fCons, fNil, fCall, fCallL, fLenV, fSl, fPart, fNoPart, fStar, fAug, gS, gT, gN, gC, fSeqI, run_1, run_2, run_3, run_4, ix0, ix1, ix2, ix3, then_nx, then_rt, then_bk, then_ct, turn_nx, turn_ct, turn_bk, turn_rt, res_rt, asB_b, gIx_t, gIx_l, gAdd_i, gSub_i, gLt_i, gLe_i, gGt_i, gGe_i, eq_i, eq_s, ne_i, ne_s, gLen_t, gLen_l, gTup_l, gTup_t, strEq, Option.bind_some, List.getElem?_cons_zero, List.getElem?_cons_succ, List.set_cons_zero, List.set_cons_succ, List.replicate_succ, List.replicate_zero, Nat.reduceSub, Nat.reduceAdd, if_true, if_false, decide_true, decide_false, Bool.not_true, Bool.not_false, Bool.false_eq_true, String.reduceEq, reduceIte, List.length_cons, List.length_nil, Nat.reduceLeDiff, lim, b_is_word, hl, h1, h2, hc, ha, Bool.and_true, Bool.and_false, Bool.true_and, Bool.false_and, Bool.and_self]
def D_rw : Fn := runF 3 1 (b__are_right_words D_word)
theorem m_rw {ws : List Str} (h60 : ws.length ≤ 60) (hw : ∀ w ∈ ws, w.length ≤ 1000) : D_rw [.tuple (ws.map .str)] = some (.bool ((decide ((1 : Int) ≤ ws.length) && decide ((ws.length : Int) ≤ 10)) && (decide (ws.Nodup) && ws.all isWord))) := by
  unfold D_rw
  have hg : gLenW (.tuple (ws.map .str)) = some (.int (metN ws ws.length : Nat)) := by
    show (strsOf _).bind _ = _
    rw [strsOf_map]
    exact if_pos (by omega)
  have hc : ∀ z, fComp (fSeqI (fVar 0)) (gS 2) (fun _ => some true) (fCall D_word (fCons (fVar 2) fNil)) [2] [.val (.tuple (ws.map .str)), z, .un] = some (ws.map fun w => .bool (isWord w)) := fun z => by
    refine fComp_map (l := ws) (f := .str) ?_ (by omega) fun w hwm => ?_
    · simp only [fSeq, fIfS, fRet, fAsg, fOwn, fApp, fExt, fBrk, fCnt, fDrop, fFrz, frz, fNext, fFor, fB, fAnd, fOr, fNot, fAndV, fOrV, fNotV, fIf, fChain, fOp, fUn, fVar, fC, fTup, fLst, fV, fCons, fNil, fCall, fCallL, fLenV, fSl, fPart, fNoPart, fStar, fAug, gS, gT, gN, gC, fSeqI, run_1, run_2, run_3, run_4, ix0, ix1, ix2, ix3, then_nx, then_rt, then_bk, then_ct, turn_nx, turn_ct, turn_bk, turn_rt, res_rt, asB_b, gIx_t, gIx_l, gAdd_i, gSub_i, gLt_i, gLe_i, gGt_i, gGe_i, eq_i, eq_s, ne_i, ne_s, gLen_t, gLen_l, gTup_l, gTup_t, strEq, Option.bind_some, List.getElem?_cons_zero, List.getElem?_cons_succ, List.set_cons_zero, List.set_cons_succ, List.replicate_succ, List.replicate_zero, Nat.reduceSub, Nat.reduceAdd, if_true, if_false, decide_true, decide_false, Bool.not_true, Bool.not_false, Bool.false_eq_true, String.reduceEq, reduceIte, List.length_cons, List.length_nil, Nat.reduceLeDiff, lim]
    · have e := m_word (hw w hwm)
      simp only [fSeq, fIfS, fRet, fAsg, fOwn, fApp, fExt, fBrk, fCnt, fDrop, fFrz, frz, fNext, fFor, fB, fAnd, fOr, fNot, fAndV, fOrV, fNotV, fIf, fChain, fOp, fUn, fVar, fC, fTup, fLst, fV, fCons, fNil, fCall, fCallL, fLenV, fSl, fPart, fNoPart, fStar, fAug, gS, gT, gN, gC, fSeqI, run_1, run_2, run_3, run_4, ix0, ix1, ix2, ix3, then_nx, then_rt, then_bk, then_ct, turn_nx, turn_ct, turn_bk, turn_rt, res_rt, asB_b, gIx_t, gIx_l, gAdd_i, gSub_i, gLt_i, gLe_i, gGt_i, gGe_i, eq_i, eq_s, ne_i, ne_s, gLen_t, gLen_l, gTup_l, gTup_t, strEq, Option.bind_some, List.getElem?_cons_zero, List.getElem?_cons_succ, List.set_cons_zero, List.set_cons_succ, List.replicate_succ, List.replicate_zero, Nat.reduceSub, Nat.reduceAdd, if_true, if_false, decide_true, decide_false, Bool.not_true, Bool.not_false, Bool.false_eq_true, String.reduceEq, reduceIte, List.length_cons, List.length_nil, Nat.reduceLeDiff, lim, cStep, Sm.wpS, e]
  have ha : gAll [.list (ws.map fun w => .bool (isWord w))] = some (.bool (ws.all isWord)) := by
    show (Sm.allB _).bind _ = _
    rw [allB_map]
    rfl
  have hn : decide ((metN ws ws.length : Int) = (ws.length : Int)) = decide ws.Nodup := by
    have := metN_full (ws := ws) ws.length (Nat.le_refl _)
    rw [List.take_length] at this
    exact decide_eq_decide.mpr ⟨fun h => this.mp (by omega), fun h => by have := this.mpr h; omega⟩
  by_cases h1 : (1 : Int) ≤ ws.length <;> by_cases h2 : (ws.length : Int) ≤ 10 <;> cases h3 : decide ws.Nodup
  all_goals
    rw [h3] at hn
    simp only [fSeq, fIfS, fRet, fAsg, fOwn, fApp, fExt, fBrk, fCnt, fDrop, fFrz, frz, fNext, fFor, fB, fAnd, fOr, fNot, fAndV, fOrV, fNotV, fIf, fChain, fOp, fUn, fVar, fC, fTup, fLst, fV, fCons, fNil, fCall, fCallL, fLenV, fSl, fPart, fNoPart, fStar, fAug, gS, gT, gN, gC, fSeqI, run_1, run_2, run_3, run_4, ix0, ix1, ix2, ix3, then_nx, then_rt, then_bk, then_ct, turn_nx, turn_ct, turn_bk, turn_rt, res_rt, asB_b, gIx_t, gIx_l, gAdd_i, gSub_i, gLt_i, gLe_i, gGt_i, gGe_i, eq_i, eq_s, ne_i, ne_s, gLen_t, gLen_l, gTup_l, gTup_t, strEq, Option.bind_some, List.getElem?_cons_zero, List.getElem?_cons_succ, List.set_cons_zero, List.set_cons_succ, List.replicate_succ, List.replicate_zero, Nat.reduceSub, Nat.reduceAdd, if_true, if_false, decide_true, decide_false, Bool.not_true, Bool.not_false, Bool.false_eq_true, String.reduceEq, reduceIte, List.length_cons, List.length_nil, Nat.reduceLeDiff, lim, b__are_right_words, hg, List.length_map, hn, h1, h2, h3, hc, ha, Bool.and_true, Bool.and_false, Bool.true_and, Bool.false_and, Bool.and_self]
/-! ### kinds of generators -/
theorem gen_okk {g : Gn} {kd : Kd} (h : GenK g kd) : ∀ k n, OkGk k n g → OkK n kd := by
  induction h with
  | int => intro k n ho; obtain ⟨m, rfl⟩ : ∃ m, n = m + 1 := ⟨n - 1, by have := ho.pos; omega⟩; exact .int
  | pick => intro k n ho; obtain ⟨m, rfl⟩ : ∃ m, n = m + 1 := ⟨n - 1, by have := ho.pos; omega⟩; exact .word
  | @tuple gs ks h4 hl _ ih =>
    intro k n ho
    cases ho with
    | tuple h1 h2 =>
      refine .tup (by omega) fun j hj => ?_
      obtain ⟨t, ht⟩ := List.mem_iff_getElem?.mp hj
      have htl := (List.getElem?_eq_some_iff.mp ht).1
      exact ih t _ j (List.getElem?_eq_getElem (by omega)) ht k _ (h2 _ (List.getElem_mem (by omega)))
  | list _ _ _ _ ih => intro k n ho; cases ho with | list _ _ ho => exact .lst (ih k _ ho)
  | @one gs kd h0 _ _ ih =>
    intro k n ho
    cases ho with
    | one h1 h2 => exact (ih _ (List.getElem_mem h0) k _ (h2 _ (List.getElem_mem h0))).mono (by omega)
  | kept _ _ ih => intro k n ho; cases ho with | kept ho _ => exact (ih k _ ho).mono (by omega)
  | turned _ hb ih => intro k n ho; cases ho with | turned _ ho => exact behind_ok hb ((ih k _ ho).mono (by omega))
  | repeat_ _ _ _ ih2 => intro k n ho; cases ho with | repeat_ _ ho2 => exact .lst (ih2 k _ ho2)
def FitOk (fit : Fn) : Prop := ∀ c k, OkC 10 c → OkK 10 k → fit [c.data, k.data] = some (.bool (fitsC c k))
def D_fault (fit : Fn) : Fn := runF 4 2 (b__fault_itself D_rw fit D_behind)
def D_made : Fn := runF 3 2 (b__kind_made D_behind)
def D_kindat (fit : Fn) : Nat → Fn
  | 0 => fun _ => none
  | n + 1 => runF 6 2 (b__kind_at (D_kindat fit n) D_parts (D_fault fit) D_made)
def D_kindof (fit : Fn) (n : Nat) : Fn := runF 1 1 (b_kind_of (D_kindat fit n))
theorem ne_kd {k : Kd} (h : OkK 10 k) : gNe k.data k.data = some (.bool false) := by
  have hs := h.shaped (by decide)
  show (eqD _ _).bind _ = _
  cases k with
  | int => rw [Kd.data]; simp only [eqD, decide_true, Option.bind_some, Bool.not_true]
  | word => rw [Kd.data]; simp only [eqD, decide_true, Option.bind_some, Bool.not_true]
  | lst j =>
    rw [Kd.data] at hs ⊢
    unfold eqD
    simp only [hs, Bool.and_self, if_true, Option.bind_some, SeqAt.eqv_refl _ (SeqAt.canLay_of_shaped hs), Bool.not_true]
  | tup ks =>
    rw [Kd.data] at hs ⊢
    unfold eqD
    simp only [hs, Bool.and_self, if_true, Option.bind_some, SeqAt.eqv_refl _ (SeqAt.canLay_of_shaped hs), Bool.not_true]
theorem anyB_false : ∀ n : Nat, Sm.anyB (List.replicate n (.bool false)) = some false
  | 0 => rfl
  | n + 1 => by
    rw [List.replicate_succ]
    show (Sm.anyB (List.replicate n (.bool false))).bind _ = _
    rw [anyB_false n]
    rfl
/-- the kinds of the parts, no fault, the kind -/
theorem m_self {fit : Fn} (hf : FitOk fit) {g : Gn} {kd : Kd} (hk : GenK g kd) {n : Nat} (h : OkGk 10 n g) (hn : n ≤ 10) :
    ∃ rs : List Kd, rs.length = (partsG g).length ∧ (∀ (i : Nat) p r, (partsG g)[i]? = some p → rs[i]? = some r → GenK p r) ∧ D_fault fit [g.data, .list (rs.map Kd.data)] = some .none ∧ D_made [g.data, .list (rs.map Kd.data)] = some kd.data := by
  unfold D_fault D_made
  cases hk with
  | @int lo hi h1 h2 h3 =>
    refine ⟨[], rfl, fun i p r hp => by simp [partsG] at hp, ?_, ?_⟩
    · simp only [fSeq, fIfS, fRet, fAsg, fOwn, fApp, fExt, fBrk, fCnt, fDrop, fFrz, frz, fNext, fFor, fB, fAnd, fOr, fNot, fAndV, fOrV, fNotV, fIf, fChain, fOp, fUn, fVar, fC, fTup, fLst, fV, fCons, fNil, fCall, fCallL, fLenV, fSl, fPart, fNoPart, fStar, fAug, gS, gT, gN, gC, fSeqI, run_1, run_2, run_3, run_4, ix0, ix1, ix2, ix3, then_nx, then_rt, then_bk, then_ct, turn_nx, turn_ct, turn_bk, turn_rt, res_rt, asB_b, gIx_t, gIx_l, gAdd_i, gSub_i, gLt_i, gLe_i, gGt_i, gGe_i, eq_i, eq_s, ne_i, ne_s, gLen_t, gLen_l, gTup_l, gTup_t, strEq, Option.bind_some, List.getElem?_cons_zero, List.getElem?_cons_succ, List.set_cons_zero, List.set_cons_succ, List.replicate_succ, List.replicate_zero, Nat.reduceSub, Nat.reduceAdd, if_true, if_false, decide_true, decide_false, Bool.not_true, Bool.not_false, Bool.false_eq_true, String.reduceEq, reduceIte, List.length_cons, List.length_nil, Nat.reduceLeDiff, lim, b__fault_itself, Gn.data, fChain3, gNeg, h1, h2, h3]
    · simp only [fSeq, fIfS, fRet, fAsg, fOwn, fApp, fExt, fBrk, fCnt, fDrop, fFrz, frz, fNext, fFor, fB, fAnd, fOr, fNot, fAndV, fOrV, fNotV, fIf, fChain, fOp, fUn, fVar, fC, fTup, fLst, fV, fCons, fNil, fCall, fCallL, fLenV, fSl, fPart, fNoPart, fStar, fAug, gS, gT, gN, gC, fSeqI, run_1, run_2, run_3, run_4, ix0, ix1, ix2, ix3, then_nx, then_rt, then_bk, then_ct, turn_nx, turn_ct, turn_bk, turn_rt, res_rt, asB_b, gIx_t, gIx_l, gAdd_i, gSub_i, gLt_i, gLe_i, gGt_i, gGe_i, eq_i, eq_s, ne_i, ne_s, gLen_t, gLen_l, gTup_l, gTup_t, strEq, Option.bind_some, List.getElem?_cons_zero, List.getElem?_cons_succ, List.set_cons_zero, List.set_cons_succ, List.replicate_succ, List.replicate_zero, Nat.reduceSub, Nat.reduceAdd, if_true, if_false, decide_true, decide_false, Bool.not_true, Bool.not_false, Bool.false_eq_true, String.reduceEq, reduceIte, List.length_cons, List.length_nil, Nat.reduceLeDiff, lim, b__kind_made, Gn.data, Kd.data]
  | @pick ws h0 h10 hd hw =>
    refine ⟨[], rfl, fun i p r hp => by simp [partsG] at hp, ?_, ?_⟩
    · have hr := m_rw (ws := ws) (by omega) (by cases h with | pick _ h2 => exact fun w hw => (h2 w hw).2)
      have h1 : decide ((1 : Int) ≤ ws.length) = true := decide_eq_true (by omega)
      have h2 : decide ((ws.length : Int) ≤ 10) = true := decide_eq_true (by omega)
      rw [h1, h2, decide_eq_true hd, List.all_eq_true.mpr hw] at hr
      simp only [fSeq, fIfS, fRet, fAsg, fOwn, fApp, fExt, fBrk, fCnt, fDrop, fFrz, frz, fNext, fFor, fB, fAnd, fOr, fNot, fAndV, fOrV, fNotV, fIf, fChain, fOp, fUn, fVar, fC, fTup, fLst, fV, fCons, fNil, fCall, fCallL, fLenV, fSl, fPart, fNoPart, fStar, fAug, gS, gT, gN, gC, fSeqI, run_1, run_2, run_3, run_4, ix0, ix1, ix2, ix3, then_nx, then_rt, then_bk, then_ct, turn_nx, turn_ct, turn_bk, turn_rt, res_rt, asB_b, gIx_t, gIx_l, gAdd_i, gSub_i, gLt_i, gLe_i, gGt_i, gGe_i, eq_i, eq_s, ne_i, ne_s, gLen_t, gLen_l, gTup_l, gTup_t, strEq, Option.bind_some, List.getElem?_cons_zero, List.getElem?_cons_succ, List.set_cons_zero, List.set_cons_succ, List.replicate_succ, List.replicate_zero, Nat.reduceSub, Nat.reduceAdd, if_true, if_false, decide_true, decide_false, Bool.not_true, Bool.not_false, Bool.false_eq_true, String.reduceEq, reduceIte, List.length_cons, List.length_nil, Nat.reduceLeDiff, lim, b__fault_itself, Gn.data, hr, Bool.and_self]
    · simp only [fSeq, fIfS, fRet, fAsg, fOwn, fApp, fExt, fBrk, fCnt, fDrop, fFrz, frz, fNext, fFor, fB, fAnd, fOr, fNot, fAndV, fOrV, fNotV, fIf, fChain, fOp, fUn, fVar, fC, fTup, fLst, fV, fCons, fNil, fCall, fCallL, fLenV, fSl, fPart, fNoPart, fStar, fAug, gS, gT, gN, gC, fSeqI, run_1, run_2, run_3, run_4, ix0, ix1, ix2, ix3, then_nx, then_rt, then_bk, then_ct, turn_nx, turn_ct, turn_bk, turn_rt, res_rt, asB_b, gIx_t, gIx_l, gAdd_i, gSub_i, gLt_i, gLe_i, gGt_i, gGe_i, eq_i, eq_s, ne_i, ne_s, gLen_t, gLen_l, gTup_l, gTup_t, strEq, Option.bind_some, List.getElem?_cons_zero, List.getElem?_cons_succ, List.set_cons_zero, List.set_cons_succ, List.replicate_succ, List.replicate_zero, Nat.reduceSub, Nat.reduceAdd, if_true, if_false, decide_true, decide_false, Bool.not_true, Bool.not_false, Bool.false_eq_true, String.reduceEq, reduceIte, List.length_cons, List.length_nil, Nat.reduceLeDiff, lim, b__kind_made, Gn.data, Kd.data]
  | @tuple gs ks h4 hl hat =>
    refine ⟨ks, hl.symm, hat, ?_, ?_⟩
    · have e : ¬ ((4 : Int) < (ks.length : Int)) := by omega
      simp only [fSeq, fIfS, fRet, fAsg, fOwn, fApp, fExt, fBrk, fCnt, fDrop, fFrz, frz, fNext, fFor, fB, fAnd, fOr, fNot, fAndV, fOrV, fNotV, fIf, fChain, fOp, fUn, fVar, fC, fTup, fLst, fV, fCons, fNil, fCall, fCallL, fLenV, fSl, fPart, fNoPart, fStar, fAug, gS, gT, gN, gC, fSeqI, run_1, run_2, run_3, run_4, ix0, ix1, ix2, ix3, then_nx, then_rt, then_bk, then_ct, turn_nx, turn_ct, turn_bk, turn_rt, res_rt, asB_b, gIx_t, gIx_l, gAdd_i, gSub_i, gLt_i, gLe_i, gGt_i, gGe_i, eq_i, eq_s, ne_i, ne_s, gLen_t, gLen_l, gTup_l, gTup_t, strEq, Option.bind_some, List.getElem?_cons_zero, List.getElem?_cons_succ, List.set_cons_zero, List.set_cons_succ, List.replicate_succ, List.replicate_zero, Nat.reduceSub, Nat.reduceAdd, if_true, if_false, decide_true, decide_false, Bool.not_true, Bool.not_false, Bool.false_eq_true, String.reduceEq, reduceIte, List.length_cons, List.length_nil, Nat.reduceLeDiff, lim, b__fault_itself, Gn.data, List.length_map, e]
    · simp only [fSeq, fIfS, fRet, fAsg, fOwn, fApp, fExt, fBrk, fCnt, fDrop, fFrz, frz, fNext, fFor, fB, fAnd, fOr, fNot, fAndV, fOrV, fNotV, fIf, fChain, fOp, fUn, fVar, fC, fTup, fLst, fV, fCons, fNil, fCall, fCallL, fLenV, fSl, fPart, fNoPart, fStar, fAug, gS, gT, gN, gC, fSeqI, run_1, run_2, run_3, run_4, ix0, ix1, ix2, ix3, then_nx, then_rt, then_bk, then_ct, turn_nx, turn_ct, turn_bk, turn_rt, res_rt, asB_b, gIx_t, gIx_l, gAdd_i, gSub_i, gLt_i, gLe_i, gGt_i, gGe_i, eq_i, eq_s, ne_i, ne_s, gLen_t, gLen_l, gTup_l, gTup_t, strEq, Option.bind_some, List.getElem?_cons_zero, List.getElem?_cons_succ, List.set_cons_zero, List.set_cons_succ, List.replicate_succ, List.replicate_zero, Nat.reduceSub, Nat.reduceAdd, if_true, if_false, decide_true, decide_false, Bool.not_true, Bool.not_false, Bool.false_eq_true, String.reduceEq, reduceIte, List.length_cons, List.length_nil, Nat.reduceLeDiff, lim, b__kind_made, Gn.data, Kd.data, dataAll_map]
  | @list g k a b hg h0 hab hb =>
    refine ⟨[k], rfl, fun i p r hp hr => ?_, ?_, ?_⟩
    · match i with
      | 0 => cases hp; cases hr; exact hg
      | i + 1 => simp [partsG] at hp
    · simp only [fSeq, fIfS, fRet, fAsg, fOwn, fApp, fExt, fBrk, fCnt, fDrop, fFrz, frz, fNext, fFor, fB, fAnd, fOr, fNot, fAndV, fOrV, fNotV, fIf, fChain, fOp, fUn, fVar, fC, fTup, fLst, fV, fCons, fNil, fCall, fCallL, fLenV, fSl, fPart, fNoPart, fStar, fAug, gS, gT, gN, gC, fSeqI, run_1, run_2, run_3, run_4, ix0, ix1, ix2, ix3, then_nx, then_rt, then_bk, then_ct, turn_nx, turn_ct, turn_bk, turn_rt, res_rt, asB_b, gIx_t, gIx_l, gAdd_i, gSub_i, gLt_i, gLe_i, gGt_i, gGe_i, eq_i, eq_s, ne_i, ne_s, gLen_t, gLen_l, gTup_l, gTup_t, strEq, Option.bind_some, List.getElem?_cons_zero, List.getElem?_cons_succ, List.set_cons_zero, List.set_cons_succ, List.replicate_succ, List.replicate_zero, Nat.reduceSub, Nat.reduceAdd, if_true, if_false, decide_true, decide_false, Bool.not_true, Bool.not_false, Bool.false_eq_true, String.reduceEq, reduceIte, List.length_cons, List.length_nil, Nat.reduceLeDiff, lim, b__fault_itself, Gn.data, fChain3, h0, hab, hb, List.map_cons, List.map_nil]
    · simp only [fSeq, fIfS, fRet, fAsg, fOwn, fApp, fExt, fBrk, fCnt, fDrop, fFrz, frz, fNext, fFor, fB, fAnd, fOr, fNot, fAndV, fOrV, fNotV, fIf, fChain, fOp, fUn, fVar, fC, fTup, fLst, fV, fCons, fNil, fCall, fCallL, fLenV, fSl, fPart, fNoPart, fStar, fAug, gS, gT, gN, gC, fSeqI, run_1, run_2, run_3, run_4, ix0, ix1, ix2, ix3, then_nx, then_rt, then_bk, then_ct, turn_nx, turn_ct, turn_bk, turn_rt, res_rt, asB_b, gIx_t, gIx_l, gAdd_i, gSub_i, gLt_i, gLe_i, gGt_i, gGe_i, eq_i, eq_s, ne_i, ne_s, gLen_t, gLen_l, gTup_l, gTup_t, strEq, Option.bind_some, List.getElem?_cons_zero, List.getElem?_cons_succ, List.set_cons_zero, List.set_cons_succ, List.replicate_succ, List.replicate_zero, Nat.reduceSub, Nat.reduceAdd, if_true, if_false, decide_true, decide_false, Bool.not_true, Bool.not_false, Bool.false_eq_true, String.reduceEq, reduceIte, List.length_cons, List.length_nil, Nat.reduceLeDiff, lim, b__kind_made, Gn.data, Kd.data, List.map_cons, List.map_nil]
  | @one gs k h0 h4 hat =>
    have hko : OkK 10 kd := (gen_okk (.one h0 h4 hat) 10 n h).mono hn
    refine ⟨List.replicate gs.length kd, by rw [List.length_replicate]; rfl, fun i p r hp hr => ?_, ?_, ?_⟩
    · rw [List.getElem?_replicate] at hr
      split at hr
      · cases hr; exact hat p (List.mem_of_getElem? hp)
      · cases hr
    · have e1 : (1 : Int) ≤ (gs.length : Int) := by omega
      have e4 : (gs.length : Int) ≤ 4 := by omega
      rw [List.map_replicate]
      have hc : fComp (fSeqI (fVar 1)) (gS 3) (fun _ => some true) (fOp gNe (fVar 3) (fOp gIx (fVar 1) (fC (.int 0)))) [3] [.val (Gn.one gs).data, .val (.list (List.replicate gs.length kd.data)), .val (.str "one"), .un] = some (List.replicate gs.length (.bool false)) := by
        obtain ⟨m, hm⟩ : ∃ m, gs.length = m + 1 := ⟨gs.length - 1, by omega⟩
        have hi : atI (List.replicate gs.length kd.data) 0 = some kd.data := by rw [hm, List.replicate_succ]; exact ix0
        have hq := fComp_map (fi := fSeqI (fVar 1)) (g := gS 3) (t := fun _ => some true) (e := fOp gNe (fVar 3) (fOp gIx (fVar 1) (fC (.int 0)))) (vs := [3]) (ρ := [.val (Gn.one gs).data, .val (.list (List.replicate gs.length kd.data)), .val (.str "one"), .un]) (l := List.replicate gs.length ()) (f := fun _ => kd.data) (φ := fun _ => .bool false) (by simp only [fSeq, fIfS, fRet, fAsg, fOwn, fApp, fExt, fBrk, fCnt, fDrop, fFrz, frz, fNext, fFor, fB, fAnd, fOr, fNot, fAndV, fOrV, fNotV, fIf, fChain, fOp, fUn, fVar, fC, fTup, fLst, fV, fCons, fNil, fCall, fCallL, fLenV, fSl, fPart, fNoPart, fStar, fAug, gS, gT, gN, gC, fSeqI, run_1, run_2, run_3, run_4, ix0, ix1, ix2, ix3, then_nx, then_rt, then_bk, then_ct, turn_nx, turn_ct, turn_bk, turn_rt, res_rt, asB_b, gIx_t, gIx_l, gAdd_i, gSub_i, gLt_i, gLe_i, gGt_i, gGe_i, eq_i, eq_s, ne_i, ne_s, gLen_t, gLen_l, gTup_l, gTup_t, strEq, Option.bind_some, List.getElem?_cons_zero, List.getElem?_cons_succ, List.set_cons_zero, List.set_cons_succ, List.replicate_succ, List.replicate_zero, Nat.reduceSub, Nat.reduceAdd, if_true, if_false, decide_true, decide_false, Bool.not_true, Bool.not_false, Bool.false_eq_true, String.reduceEq, reduceIte, List.length_cons, List.length_nil, Nat.reduceLeDiff, lim, List.map_replicate]) (by rw [List.length_replicate]; omega) (fun _ _ => by simp only [fSeq, fIfS, fRet, fAsg, fOwn, fApp, fExt, fBrk, fCnt, fDrop, fFrz, frz, fNext, fFor, fB, fAnd, fOr, fNot, fAndV, fOrV, fNotV, fIf, fChain, fOp, fUn, fVar, fC, fTup, fLst, fV, fCons, fNil, fCall, fCallL, fLenV, fSl, fPart, fNoPart, fStar, fAug, gS, gT, gN, gC, fSeqI, run_1, run_2, run_3, run_4, ix0, ix1, ix2, ix3, then_nx, then_rt, then_bk, then_ct, turn_nx, turn_ct, turn_bk, turn_rt, res_rt, asB_b, gIx_t, gIx_l, gAdd_i, gSub_i, gLt_i, gLe_i, gGt_i, gGe_i, eq_i, eq_s, ne_i, ne_s, gLen_t, gLen_l, gTup_l, gTup_t, strEq, Option.bind_some, List.getElem?_cons_zero, List.getElem?_cons_succ, List.set_cons_zero, List.set_cons_succ, List.replicate_succ, List.replicate_zero, Nat.reduceSub, Nat.reduceAdd, if_true, if_false, decide_true, decide_false, Bool.not_true, Bool.not_false, Bool.false_eq_true, String.reduceEq, reduceIte, List.length_cons, List.length_nil, Nat.reduceLeDiff, lim, cStep, Sm.wpS, hi, ne_kd hko])
        rw [List.map_replicate] at hq
        exact hq
      have ha : gAny [.list (List.replicate gs.length (.bool false))] = some (.bool false) := by
        show (Sm.anyB _).bind _ = _
        rw [anyB_false]
        rfl
      simp only [Gn.data] at hc
      simp only [fSeq, fIfS, fRet, fAsg, fOwn, fApp, fExt, fBrk, fCnt, fDrop, fFrz, frz, fNext, fFor, fB, fAnd, fOr, fNot, fAndV, fOrV, fNotV, fIf, fChain, fOp, fUn, fVar, fC, fTup, fLst, fV, fCons, fNil, fCall, fCallL, fLenV, fSl, fPart, fNoPart, fStar, fAug, gS, gT, gN, gC, fSeqI, run_1, run_2, run_3, run_4, ix0, ix1, ix2, ix3, then_nx, then_rt, then_bk, then_ct, turn_nx, turn_ct, turn_bk, turn_rt, res_rt, asB_b, gIx_t, gIx_l, gAdd_i, gSub_i, gLt_i, gLe_i, gGt_i, gGe_i, eq_i, eq_s, ne_i, ne_s, gLen_t, gLen_l, gTup_l, gTup_t, strEq, Option.bind_some, List.getElem?_cons_zero, List.getElem?_cons_succ, List.set_cons_zero, List.set_cons_succ, List.replicate_succ, List.replicate_zero, Nat.reduceSub, Nat.reduceAdd, if_true, if_false, decide_true, decide_false, Bool.not_true, Bool.not_false, Bool.false_eq_true, String.reduceEq, reduceIte, List.length_cons, List.length_nil, Nat.reduceLeDiff, lim, b__fault_itself, Gn.data, List.length_replicate, e1, e4, hc, ha]
    · obtain ⟨m, hm⟩ : ∃ m, gs.length = m + 1 := ⟨gs.length - 1, by omega⟩
      have hi : atI (List.replicate gs.length kd.data) 0 = some kd.data := by rw [hm, List.replicate_succ]; exact ix0
      rw [List.map_replicate]
      simp only [fSeq, fIfS, fRet, fAsg, fOwn, fApp, fExt, fBrk, fCnt, fDrop, fFrz, frz, fNext, fFor, fB, fAnd, fOr, fNot, fAndV, fOrV, fNotV, fIf, fChain, fOp, fUn, fVar, fC, fTup, fLst, fV, fCons, fNil, fCall, fCallL, fLenV, fSl, fPart, fNoPart, fStar, fAug, gS, gT, gN, gC, fSeqI, run_1, run_2, run_3, run_4, ix0, ix1, ix2, ix3, then_nx, then_rt, then_bk, then_ct, turn_nx, turn_ct, turn_bk, turn_rt, res_rt, asB_b, gIx_t, gIx_l, gAdd_i, gSub_i, gLt_i, gLe_i, gGt_i, gGe_i, eq_i, eq_s, ne_i, ne_s, gLen_t, gLen_l, gTup_l, gTup_t, strEq, Option.bind_some, List.getElem?_cons_zero, List.getElem?_cons_succ, List.set_cons_zero, List.set_cons_succ, List.replicate_succ, List.replicate_zero, Nat.reduceSub, Nat.reduceAdd, if_true, if_false, decide_true, decide_false, Bool.not_true, Bool.not_false, Bool.false_eq_true, String.reduceEq, reduceIte, List.length_cons, List.length_nil, Nat.reduceLeDiff, lim, b__kind_made, Gn.data, hi]
  | @kept g k c hg hfc =>
    have hgo : OkGk 10 (n - 1) g ∧ OkC 10 c := by cases h with | kept h1 h2 => exact ⟨by simpa using h1, h2⟩
    have e := hf c kd hgo.2 ((gen_okk hg 10 _ hgo.1).mono (by omega))
    rw [hfc] at e
    refine ⟨[kd], rfl, fun i p r hp hr => ?_, ?_, ?_⟩
    · match i with
      | 0 => cases hp; cases hr; exact hg
      | i + 1 => simp [partsG] at hp
    · simp only [fSeq, fIfS, fRet, fAsg, fOwn, fApp, fExt, fBrk, fCnt, fDrop, fFrz, frz, fNext, fFor, fB, fAnd, fOr, fNot, fAndV, fOrV, fNotV, fIf, fChain, fOp, fUn, fVar, fC, fTup, fLst, fV, fCons, fNil, fCall, fCallL, fLenV, fSl, fPart, fNoPart, fStar, fAug, gS, gT, gN, gC, fSeqI, run_1, run_2, run_3, run_4, ix0, ix1, ix2, ix3, then_nx, then_rt, then_bk, then_ct, turn_nx, turn_ct, turn_bk, turn_rt, res_rt, asB_b, gIx_t, gIx_l, gAdd_i, gSub_i, gLt_i, gLe_i, gGt_i, gGe_i, eq_i, eq_s, ne_i, ne_s, gLen_t, gLen_l, gTup_l, gTup_t, strEq, Option.bind_some, List.getElem?_cons_zero, List.getElem?_cons_succ, List.set_cons_zero, List.set_cons_succ, List.replicate_succ, List.replicate_zero, Nat.reduceSub, Nat.reduceAdd, if_true, if_false, decide_true, decide_false, Bool.not_true, Bool.not_false, Bool.false_eq_true, String.reduceEq, reduceIte, List.length_cons, List.length_nil, Nat.reduceLeDiff, lim, b__fault_itself, Gn.data, List.map_cons, List.map_nil, e]
    · simp only [fSeq, fIfS, fRet, fAsg, fOwn, fApp, fExt, fBrk, fCnt, fDrop, fFrz, frz, fNext, fFor, fB, fAnd, fOr, fNot, fAndV, fOrV, fNotV, fIf, fChain, fOp, fUn, fVar, fC, fTup, fLst, fV, fCons, fNil, fCall, fCallL, fLenV, fSl, fPart, fNoPart, fStar, fAug, gS, gT, gN, gC, fSeqI, run_1, run_2, run_3, run_4, ix0, ix1, ix2, ix3, then_nx, then_rt, then_bk, then_ct, turn_nx, turn_ct, turn_bk, turn_rt, res_rt, asB_b, gIx_t, gIx_l, gAdd_i, gSub_i, gLt_i, gLe_i, gGt_i, gGe_i, eq_i, eq_s, ne_i, ne_s, gLen_t, gLen_l, gTup_l, gTup_t, strEq, Option.bind_some, List.getElem?_cons_zero, List.getElem?_cons_succ, List.set_cons_zero, List.set_cons_succ, List.replicate_succ, List.replicate_zero, Nat.reduceSub, Nat.reduceAdd, if_true, if_false, decide_true, decide_false, Bool.not_true, Bool.not_false, Bool.false_eq_true, String.reduceEq, reduceIte, List.length_cons, List.length_nil, Nat.reduceLeDiff, lim, b__kind_made, Gn.data, List.map_cons, List.map_nil]
  | @turned g k k' m hg hb =>
    have hgo : OkGk 10 (n - 1) g := by cases h with | turned _ h1 => simpa using h1
    have e := m_behind m k ⟨10, (gen_okk hg 10 _ hgo).mono (by omega), by decide⟩
    rw [hb] at e
    refine ⟨[k], rfl, fun i p r hp hr => ?_, ?_, ?_⟩
    · match i with
      | 0 => cases hp; cases hr; exact hg
      | i + 1 => simp [partsG] at hp
    · simp only [fSeq, fIfS, fRet, fAsg, fOwn, fApp, fExt, fBrk, fCnt, fDrop, fFrz, frz, fNext, fFor, fB, fAnd, fOr, fNot, fAndV, fOrV, fNotV, fIf, fChain, fOp, fUn, fVar, fC, fTup, fLst, fV, fCons, fNil, fCall, fCallL, fLenV, fSl, fPart, fNoPart, fStar, fAug, gS, gT, gN, gC, fSeqI, run_1, run_2, run_3, run_4, ix0, ix1, ix2, ix3, then_nx, then_rt, then_bk, then_ct, turn_nx, turn_ct, turn_bk, turn_rt, res_rt, asB_b, gIx_t, gIx_l, gAdd_i, gSub_i, gLt_i, gLe_i, gGt_i, gGe_i, eq_i, eq_s, ne_i, ne_s, gLen_t, gLen_l, gTup_l, gTup_t, strEq, Option.bind_some, List.getElem?_cons_zero, List.getElem?_cons_succ, List.set_cons_zero, List.set_cons_succ, List.replicate_succ, List.replicate_zero, Nat.reduceSub, Nat.reduceAdd, if_true, if_false, decide_true, decide_false, Bool.not_true, Bool.not_false, Bool.false_eq_true, String.reduceEq, reduceIte, List.length_cons, List.length_nil, Nat.reduceLeDiff, lim, b__fault_itself, Gn.data, List.map_cons, List.map_nil, e, isN_kd]
    · simp only [fSeq, fIfS, fRet, fAsg, fOwn, fApp, fExt, fBrk, fCnt, fDrop, fFrz, frz, fNext, fFor, fB, fAnd, fOr, fNot, fAndV, fOrV, fNotV, fIf, fChain, fOp, fUn, fVar, fC, fTup, fLst, fV, fCons, fNil, fCall, fCallL, fLenV, fSl, fPart, fNoPart, fStar, fAug, gS, gT, gN, gC, fSeqI, run_1, run_2, run_3, run_4, ix0, ix1, ix2, ix3, then_nx, then_rt, then_bk, then_ct, turn_nx, turn_ct, turn_bk, turn_rt, res_rt, asB_b, gIx_t, gIx_l, gAdd_i, gSub_i, gLt_i, gLe_i, gGt_i, gGe_i, eq_i, eq_s, ne_i, ne_s, gLen_t, gLen_l, gTup_l, gTup_t, strEq, Option.bind_some, List.getElem?_cons_zero, List.getElem?_cons_succ, List.set_cons_zero, List.set_cons_succ, List.replicate_succ, List.replicate_zero, Nat.reduceSub, Nat.reduceAdd, if_true, if_false, decide_true, decide_false, Bool.not_true, Bool.not_false, Bool.false_eq_true, String.reduceEq, reduceIte, List.length_cons, List.length_nil, Nat.reduceLeDiff, lim, b__kind_made, Gn.data, List.map_cons, List.map_nil, e]
  | @repeat_ g h' k hg hh =>
    refine ⟨[.int, k], rfl, fun i p r hp hr => ?_, ?_, ?_⟩
    · match i with
      | 0 => cases hp; cases hr; exact hg
      | 1 => cases hp; cases hr; exact hh
      | i + 2 => simp [partsG] at hp
    · simp only [fSeq, fIfS, fRet, fAsg, fOwn, fApp, fExt, fBrk, fCnt, fDrop, fFrz, frz, fNext, fFor, fB, fAnd, fOr, fNot, fAndV, fOrV, fNotV, fIf, fChain, fOp, fUn, fVar, fC, fTup, fLst, fV, fCons, fNil, fCall, fCallL, fLenV, fSl, fPart, fNoPart, fStar, fAug, gS, gT, gN, gC, fSeqI, run_1, run_2, run_3, run_4, ix0, ix1, ix2, ix3, then_nx, then_rt, then_bk, then_ct, turn_nx, turn_ct, turn_bk, turn_rt, res_rt, asB_b, gIx_t, gIx_l, gAdd_i, gSub_i, gLt_i, gLe_i, gGt_i, gGe_i, eq_i, eq_s, ne_i, ne_s, gLen_t, gLen_l, gTup_l, gTup_t, strEq, Option.bind_some, List.getElem?_cons_zero, List.getElem?_cons_succ, List.set_cons_zero, List.set_cons_succ, List.replicate_succ, List.replicate_zero, Nat.reduceSub, Nat.reduceAdd, if_true, if_false, decide_true, decide_false, Bool.not_true, Bool.not_false, Bool.false_eq_true, String.reduceEq, reduceIte, List.length_cons, List.length_nil, Nat.reduceLeDiff, lim, b__fault_itself, Gn.data, List.map_cons, List.map_nil, kd_int]
    · simp only [fSeq, fIfS, fRet, fAsg, fOwn, fApp, fExt, fBrk, fCnt, fDrop, fFrz, frz, fNext, fFor, fB, fAnd, fOr, fNot, fAndV, fOrV, fNotV, fIf, fChain, fOp, fUn, fVar, fC, fTup, fLst, fV, fCons, fNil, fCall, fCallL, fLenV, fSl, fPart, fNoPart, fStar, fAug, gS, gT, gN, gC, fSeqI, run_1, run_2, run_3, run_4, ix0, ix1, ix2, ix3, then_nx, then_rt, then_bk, then_ct, turn_nx, turn_ct, turn_bk, turn_rt, res_rt, asB_b, gIx_t, gIx_l, gAdd_i, gSub_i, gLt_i, gLe_i, gGt_i, gGe_i, eq_i, eq_s, ne_i, ne_s, gLen_t, gLen_l, gTup_l, gTup_t, strEq, Option.bind_some, List.getElem?_cons_zero, List.getElem?_cons_succ, List.set_cons_zero, List.set_cons_succ, List.replicate_succ, List.replicate_zero, Nat.reduceSub, Nat.reduceAdd, if_true, if_false, decide_true, decide_false, Bool.not_true, Bool.not_false, Bool.false_eq_true, String.reduceEq, reduceIte, List.length_cons, List.length_nil, Nat.reduceLeDiff, lim, b__kind_made, Gn.data, List.map_cons, List.map_nil, Kd.data]
theorem compM_enu {step : PyData → Option (Option PyData)} : ∀ (l rs : List PyData) (k : Nat), l.length = rs.length → (∀ (i : Nat) d r, l[i]? = some d → rs[i]? = some r → step (.tuple [.int ((k + i : Nat) : Int), d]) = some (some r)) → compM step (enuD k l) = some rs
  | [], [], k, _, _ => rfl
  | [], _ :: _, k, h, _ => by simp at h
  | _ :: _, [], k, h, _ => by simp at h
  | d :: l, r :: rs, k, hl, h => by
    have h0 := h 0 d r rfl rfl
    show (step (.tuple [.int ((k : Nat) : Int), d])).bind _ = _
    rw [show ((k + 0 : Nat) : Int) = ((k : Nat) : Int) by omega] at h0
    rw [h0, Option.bind_some, compM_enu l rs (k + 1) (by simpa using hl) fun i d' r' h1 h2 => by
      have := h (i + 1) d' r' (by simpa using h1) (by simpa using h2)
      rw [show k + 1 + i = k + (i + 1) by omega]
      exact this]
    rfl
theorem m_kindat {fit : Fn} (hf : FitOk fit) : ∀ (n : Nat) {g : Gn} {kd : Kd} (path : List PyData), OkGk 10 n g → n ≤ 10 → GenK g kd → path.length + n ≤ 1000 → D_kindat fit n [g.data, .tuple path] = some kd.data
  | 0, g, kd, path, h, _, _, _ => absurd h.pos (by omega)
  | n + 1, g, kd, path, h, hn, hk, hp => by
    obtain ⟨rs, h1, h2, h3, h4⟩ := m_self hf hk h hn
    have hpt := m_parts g
    have hpl := h.parts_len
    have hc : fComp (fEnu (fCons (fCall D_parts (fCons (fVar 0) fNil)) fNil)) (gT 2 (gC (gS 4) (gC (gS 5) gN))) (fun _ => some true) (fCall (D_kindat fit n) (fCons (fVar 5) (fCons (fTup (fStar (fVar 1) (fCons (fVar 4) fNil))) fNil))) [4, 5] [.val g.data, .val (.tuple path), .un, .un, .un, .un] = some (rs.map Kd.data) := by
      unfold fComp
      have hi : fEnu (fCons (fCall D_parts (fCons (fVar 0) fNil)) fNil) [.val g.data, .val (.tuple path), .un, .un, .un, .un] = some (enuD 0 ((partsG g).map Gn.data)) := by
        simp only [fSeq, fIfS, fRet, fAsg, fOwn, fApp, fExt, fBrk, fCnt, fDrop, fFrz, frz, fNext, fFor, fB, fAnd, fOr, fNot, fAndV, fOrV, fNotV, fIf, fChain, fOp, fUn, fVar, fC, fTup, fLst, fV, fCons, fNil, fCall, fCallL, fLenV, fSl, fPart, fNoPart, fStar, fAug, gS, gT, gN, gC, fSeqI, run_1, run_2, run_3, run_4, ix0, ix1, ix2, ix3, then_nx, then_rt, then_bk, then_ct, turn_nx, turn_ct, turn_bk, turn_rt, res_rt, asB_b, gIx_t, gIx_l, gAdd_i, gSub_i, gLt_i, gLe_i, gGt_i, gGe_i, eq_i, eq_s, ne_i, ne_s, gLen_t, gLen_l, gTup_l, gTup_t, strEq, Option.bind_some, List.getElem?_cons_zero, List.getElem?_cons_succ, List.set_cons_zero, List.set_cons_succ, List.replicate_succ, List.replicate_zero, Nat.reduceSub, Nat.reduceAdd, if_true, if_false, decide_true, decide_false, Bool.not_true, Bool.not_false, Bool.false_eq_true, String.reduceEq, reduceIte, List.length_cons, List.length_nil, Nat.reduceLeDiff, lim, fEnu, hpt]
      rw [hi, Option.bind_some, compM_enu _ (rs.map Kd.data) 0 (by rw [List.length_map, List.length_map, h1]) fun i d r hd hr => ?_, Option.bind_some]
      · exact if_pos (by rw [List.length_map, h1]; omega)
      · rw [List.getElem?_map] at hd hr
        obtain ⟨p, hp1, rfl⟩ := Option.map_eq_some_iff.mp hd
        obtain ⟨r', hr1, rfl⟩ := Option.map_eq_some_iff.mp hr
        have ih := m_kindat hf n (path ++ [.int ((0 + i : Nat) : Int)]) (h.parts p (List.mem_of_getElem? hp1)) (by omega) (h2 i p r' hp1 hr1) (by rw [List.length_append, List.length_cons, List.length_nil]; omega)
        have hz : (path ++ [PyData.int ((0 + i : Nat) : Int)]).length ≤ 10000000 := by rw [List.length_append, List.length_cons, List.length_nil]; omega
        generalize PyData.int ((0 + i : Nat) : Int) = z at ih hz ⊢
        simp only [fSeq, fIfS, fRet, fAsg, fOwn, fApp, fExt, fBrk, fCnt, fDrop, fFrz, frz, fNext, fFor, fB, fAnd, fOr, fNot, fAndV, fOrV, fNotV, fIf, fChain, fOp, fUn, fVar, fC, fTup, fLst, fV, fCons, fNil, fCall, fCallL, fLenV, fSl, fPart, fNoPart, fStar, fAug, gS, gT, gN, gC, fSeqI, run_1, run_2, run_3, run_4, ix0, ix1, ix2, ix3, then_nx, then_rt, then_bk, then_ct, turn_nx, turn_ct, turn_bk, turn_rt, res_rt, asB_b, gIx_t, gIx_l, gAdd_i, gSub_i, gLt_i, gLe_i, gGt_i, gGe_i, eq_i, eq_s, ne_i, ne_s, gLen_t, gLen_l, gTup_l, gTup_t, strEq, Option.bind_some, List.getElem?_cons_zero, List.getElem?_cons_succ, List.set_cons_zero, List.set_cons_succ, List.replicate_succ, List.replicate_zero, Nat.reduceSub, Nat.reduceAdd, if_true, if_false, decide_true, decide_false, Bool.not_true, Bool.not_false, Bool.false_eq_true, String.reduceEq, reduceIte, List.length_cons, List.length_nil, Nat.reduceLeDiff, lim, cStep, Sm.wpS, hz, ih]
    unfold D_kindat
    simp only [fSeq, fIfS, fRet, fAsg, fOwn, fApp, fExt, fBrk, fCnt, fDrop, fFrz, frz, fNext, fFor, fB, fAnd, fOr, fNot, fAndV, fOrV, fNotV, fIf, fChain, fOp, fUn, fVar, fC, fTup, fLst, fV, fCons, fNil, fCall, fCallL, fLenV, fSl, fPart, fNoPart, fStar, fAug, gS, gT, gN, gC, fSeqI, run_1, run_2, run_3, run_4, ix0, ix1, ix2, ix3, then_nx, then_rt, then_bk, then_ct, turn_nx, turn_ct, turn_bk, turn_rt, res_rt, asB_b, gIx_t, gIx_l, gAdd_i, gSub_i, gLt_i, gLe_i, gGt_i, gGe_i, eq_i, eq_s, ne_i, ne_s, gLen_t, gLen_l, gTup_l, gTup_t, strEq, Option.bind_some, List.getElem?_cons_zero, List.getElem?_cons_succ, List.set_cons_zero, List.set_cons_succ, List.replicate_succ, List.replicate_zero, Nat.reduceSub, Nat.reduceAdd, if_true, if_false, decide_true, decide_false, Bool.not_true, Bool.not_false, Bool.false_eq_true, String.reduceEq, reduceIte, List.length_cons, List.length_nil, Nat.reduceLeDiff, lim, b__kind_at, hc, h3, h4, gNotN]
theorem m_kindof {fit : Fn} (hf : FitOk fit) {n : Nat} {g : Gn} {kd : Kd} (h : OkGk 10 n g) (hn : n ≤ 10) (hk : GenK g kd) : D_kindof fit n [g.data] = some kd.data := by
  have e := m_kindat hf n [] h hn hk (by simp; omega)
  unfold D_kindof
  simp only [fSeq, fIfS, fRet, fAsg, fOwn, fApp, fExt, fBrk, fCnt, fDrop, fFrz, frz, fNext, fFor, fB, fAnd, fOr, fNot, fAndV, fOrV, fNotV, fIf, fChain, fOp, fUn, fVar, fC, fTup, fLst, fV, fCons, fNil, fCall, fCallL, fLenV, fSl, fPart, fNoPart, fStar, fAug, gS, gT, gN, gC, fSeqI, run_1, run_2, run_3, run_4, ix0, ix1, ix2, ix3, then_nx, then_rt, then_bk, then_ct, turn_nx, turn_ct, turn_bk, turn_rt, res_rt, asB_b, gIx_t, gIx_l, gAdd_i, gSub_i, gLt_i, gLe_i, gGt_i, gGe_i, eq_i, eq_s, ne_i, ne_s, gLen_t, gLen_l, gTup_l, gTup_t, strEq, Option.bind_some, List.getElem?_cons_zero, List.getElem?_cons_succ, List.set_cons_zero, List.set_cons_succ, List.replicate_succ, List.replicate_zero, Nat.reduceSub, Nat.reduceAdd, if_true, if_false, decide_true, decide_false, Bool.not_true, Bool.not_false, Bool.false_eq_true, String.reduceEq, reduceIte, List.length_cons, List.length_nil, Nat.reduceLeDiff, lim, b_kind_of, e]
end Fb
namespace Fb
open PySem PySem.Spec PyProof.Rows L2 Evl CrT Cr Sm
mutual
theorem kd_inj : ∀ k j : Kd, k.data = j.data → k = j
  | .int, j, h => by
    cases j <;> simp only [Kd.data, PyData.str.injEq, strEq, String.reduceEq, reduceCtorEq] at h ⊢
  | .word, j, h => by
    cases j <;> simp only [Kd.data, PyData.str.injEq, strEq, String.reduceEq, reduceCtorEq] at h ⊢
  | .lst k, j, h => by
    cases j with
    | lst j =>
      simp only [Kd.data, PyData.tuple.injEq, List.cons.injEq, and_true, true_and] at h
      rw [kd_inj k j h]
    | _ => simp only [Kd.data, PyData.tuple.injEq, PyData.str.injEq, List.cons.injEq, strEq, String.reduceEq, reduceCtorEq, false_and] at h
  | .tup ks, j, h => by
    cases j with
    | tup js =>
      simp only [Kd.data, PyData.tuple.injEq, List.cons.injEq, and_true, true_and] at h
      rw [kds_inj ks js h]
    | _ => simp only [Kd.data, PyData.tuple.injEq, PyData.str.injEq, List.cons.injEq, strEq, String.reduceEq, reduceCtorEq, false_and] at h
theorem kds_inj : ∀ ks js : List Kd, dataAll ks = dataAll js → ks = js
  | [], [], _ => rfl
  | [], _ :: _, h => by simp [dataAll] at h
  | _ :: _, [], h => by simp [dataAll] at h
  | k :: ks, j :: js, h => by
    simp only [dataAll, List.cons.injEq] at h
    rw [kd_inj k j h.1, kds_inj ks js h.2]
end
theorem cd_inj : ∀ c d : Cd, c.data = d.data → c = d := by
  intro c
  induction c with
  | item i c ih => 
    intro d h
    cases d <;> simp only [Cd.data, PyData.tuple.injEq, PyData.str.injEq, PyData.int.injEq, List.cons.injEq, strEq, String.reduceEq, reduceCtorEq, false_and, and_false, and_true, true_and] at h
    obtain ⟨rfl, h⟩ := h
    rw [ih _ h]
  | and_ c1 c2 ih1 ih2 =>
    intro d h
    cases d <;> simp only [Cd.data, PyData.tuple.injEq, PyData.str.injEq, PyData.int.injEq, List.cons.injEq, strEq, String.reduceEq, reduceCtorEq, false_and, and_false, and_true, true_and] at h
    rw [ih1 _ h.1, ih2 _ h.2]
  | or_ c1 c2 ih1 ih2 =>
    intro d h
    cases d <;> simp only [Cd.data, PyData.tuple.injEq, PyData.str.injEq, PyData.int.injEq, List.cons.injEq, strEq, String.reduceEq, reduceCtorEq, false_and, and_false, and_true, true_and] at h
    rw [ih1 _ h.1, ih2 _ h.2]
  | atmost | divides | is =>
    intro d h
    cases d <;> simp only [Cd.data, PyData.tuple.injEq, PyData.str.injEq, PyData.int.injEq, List.cons.injEq, strEq, String.reduceEq, reduceCtorEq, false_and, and_false, and_true, true_and] at h
    rw [h]
  | rising | different =>
    intro d h
    cases d <;> first | rfl | simp only [Cd.data, PyData.tuple.injEq, PyData.str.injEq, PyData.int.injEq, List.cons.injEq, strEq, String.reduceEq, reduceCtorEq, false_and, and_false, and_true, true_and] at h
  | _ c ih =>
    intro d h
    cases d <;> simp only [Cd.data, PyData.tuple.injEq, PyData.str.injEq, PyData.int.injEq, List.cons.injEq, strEq, String.reduceEq, reduceCtorEq, false_and, and_false, and_true, true_and] at h
    rw [ih _ h]
/-! ### fits and holds, shown otherwise -/
def RFits : List PyData → PyData → Prop := fun ds r => ∃ c k, ds = [Cd.data c, Kd.data k] ∧ OkC 10 c ∧ OkK 10 k ∧ r = .bool (fitsC c k)
noncomputable def D_fits : Fn := fnOf RFits
theorem m_fits {c : Cd} {k : Kd} (hc : OkC 10 c) (hk : OkK 10 k) : D_fits [c.data, k.data] = some (.bool (fitsC c k)) := fnOf_eq (fun r h => by
  obtain ⟨c', k', e, _, _, rfl⟩ := h
  injection e with e1 e
  injection e with e2 _
  rw [cd_inj _ _ e1, kd_inj _ _ e2]) ⟨c, k, rfl, hc, hk, rfl⟩
theorem fits_sp {K : PySem.W.Frag} {A : Atm} : ∀ vs H Q E, spF K A D_fits vs H Q E → spFits K 10 vs H Q E := fun vs H Q E h => by
  obtain ⟨O, ds, r, ho, hds, hr, q⟩ := h
  obtain ⟨c, k, rfl, hc, hk, rfl⟩ := fnOf_inv hr
  obtain ⟨v, ws, rfl, h1, h2⟩ := hds.head
  obtain ⟨u, rfl, h3⟩ := one_inv h2
  exact ⟨v, u, c, k, rfl, h1.vd (flat_cd c), hc, h3.vd (flat_kd hk), hk, fun H' s => q _ H' s (.bl _)⟩
def RHolds : List PyData → PyData → Prop := fun ds r => ∃ c k v, ds = [Cd.data c, v] ∧ OkC 10 c ∧ fitsC c k = true ∧ isk k v = true ∧ Dk 20 v ∧ r = .bool (holdsC c v)
noncomputable def D_holds : Fn := fnOf RHolds
theorem m_holds {c : Cd} {k : Kd} {v : PyData} (hc : OkC 10 c) (hf : fitsC c k = true) (hi : isk k v = true) (hd : Dk 20 v) : D_holds [c.data, v] = some (.bool (holdsC c v)) := fnOf_eq (fun r h => by
  obtain ⟨c', k', v', e, _, _, _, _, rfl⟩ := h
  injection e with e1 e
  injection e with e2 _
  rw [cd_inj _ _ e1, e2]) ⟨c, k, v, rfl, hc, hf, hi, hd, rfl⟩
theorem holds_sp {K : PySem.W.Frag} {A : Atm} : ∀ vs H Q E, spF K A D_holds vs H Q E → spHolds K 10 vs H Q E := fun vs H Q E h => by
  obtain ⟨O, ds, r, ho, hds, hr, q⟩ := h
  obtain ⟨c, k, x, rfl, hc, hf, hi, hd, rfl⟩ := fnOf_inv hr
  obtain ⟨v, ws, rfl, h1, h2⟩ := hds.head
  obtain ⟨u, rfl, h3⟩ := one_inv h2
  exact ⟨v, u, c, k, x, rfl, h1.vd (flat_cd c), hc, h3.vd (flat_isk k x hi), hd, hf, hi, fun H' s => q _ H' s (.bl _)⟩
end Fb
namespace Fb
open PySem PySem.Spec PyProof.Rows L2 Evl CrT Cr Sm
theorem word_sp : ∀ {K : PySem.W.Frag} vs H Q E, spWord vs H Q E → spF K A0 D_word vs H Q E := fun vs H Q E h => by
  obtain ⟨s, rfl, hs, q⟩ := h
  exact ⟨O0, _, _, owl0, .cons (.str s) .nil, m_word hs, fun r H' e hr => by cases hr.bl_inv; exact q H' e⟩
theorem kit_sp {K : PySem.W.Frag} : ∀ vs H Q E, spKit K vs H Q E → spF K A0 D_kit vs H Q E := fun vs H Q E h => by
  obtain ⟨v, k, n, rfl, hv, hk, hn, q⟩ := h
  refine ⟨O0, _, _, owl0, .cons (.of_vd hv) .nil, m_kit k, fun r H' e hr => ?_⟩
  have fl : flatD (.tuple (dataAll k.parts)) = true := by
    rw [flatD, dataAll_map]
    refine flatDs_of fun d hd => ?_
    obtain ⟨j, hj, rfl⟩ := List.mem_map.mp hd
    cases hk with
    | tup _ h2 => exact flat_kd (h2 j hj)
    | _ => cases hj
  have hr := hr.vd fl
  obtain ⟨a, rfl⟩ := hr.ref
  refine q _ H' e (fun ks e => ⟨a, rfl, by subst e; exact hr⟩) fun hn => ⟨a, rfl, ?_⟩
  cases k with
  | tup ks => exact absurd rfl (hn ks)
  | _ => simpa [Kd.parts, dataAll] using hr
theorem kil_sp {K : PySem.W.Frag} : ∀ vs H Q E, spKil K vs H Q E → spF K A0 D_kil vs H Q E := fun vs H Q E h => by
  obtain ⟨v, k, n, rfl, hv, hk, hn, q⟩ := h
  refine ⟨O0, _, _, owl0, .cons (.of_vd hv) .nil, m_kil k, fun r H' e hr => ?_⟩
  cases k with
  | lst j =>
    have hr : Fd K A0 O0 H' r j.data := hr
    have hv := hr.vd (by cases hk with | lst h => exact flat_kd h)
    exact q _ H' e (fun j' e => by cases e; exact ⟨vd_non hv, hv⟩) fun hn => absurd rfl (hn j)
  | _ => exact q _ H' e (fun j' e => by cases e) fun _ => Fd.non_inv hr
theorem kindof_sp {K : PySem.W.Frag} {n : Nat} (hn : n ≤ 10) : ∀ vs H Q E, spKindOk K n vs H Q E → spF K A0 (D_kindof D_fits n) vs H Q E := fun vs H Q E h => by
  obtain ⟨v, g, kd, rfl, hv, hg, hk, q⟩ := h
  exact ⟨O0, _, _, owl0, .cons (.of_vd hv) .nil, m_kindof (fun c k => m_fits) hg.k hn hk, fun r H' e hr => q r H' e (hr.vd (flat_kd (gen_okk hk 10 n hg.k)))⟩
end Fb
namespace K4
open PySem PySem.Spec PyProof.Rows L2 Evl Cr CrT
def topS (i : Nat) : Stmt := PySem.Challenge.pw_choicerows_k04_kinds_of_generators.main.body.getD i (.Pass ⟨0, 0, 0, 0⟩)
structure Tx (mg : Str → Option Value) : Prop where
  z_len : mg "len" = none
  z_all : mg "all" = none
  z_any : mg "any" = none
  z_isinstance : mg "isinstance" = none
  z_tuple : mg "tuple" = none
  z_list : mg "list" = none
  z_int : mg "int" = none
  z_str : mg "str" = none
  z_bool : mg "bool" = none
  z_range : mg "range" = none
  z_zip : mg "zip" = none
  z_enumerate : mg "enumerate" = none
  z_sum : mg "sum" = none
  z_sorted : mg "sorted" = none
  z_min : mg "min" = none
  z_max : mg "max" = none
  z_set : mg "set" = none
  m_GREAT : ∃ t, mg "GREAT" = some (.int 1000 t)
  m_WORDS : ∃ t, mg "WORDS" = some (.int 10 t)
  m_LETTERS : ∃ t, mg "LETTERS" = some (.int 8 t)
  m_ITEMS : ∃ t, mg "ITEMS" = some (.int 4 t)
  m_LONG : ∃ t, mg "LONG" = some (.int 6 t)
  m_DIVISOR : ∃ t, mg "DIVISOR" = some (.int 100 t)

section
variable {P : Program} {w : World} {K : PySem.W.Frag} {mg : Str → Option Value} {base : Heap}
abbrev s__law_cell : Stmt := topS 25
abbrev N__law_cell : List Str := ["script", "k"]
theorem sc__law_cell : FnScope N__law_cell ["script", "k"] (defScope s__law_cell) := ⟨rfl, rfl, rfl, by decide +kernel, rfl, by decide +kernel, by decide +kernel⟩
theorem ok__law_cell {f : Addr} {fd : FuncData} {k : Nat} (T : Tx mg) (F : Fun K "_law_cell" "_law_cell" s__law_cell f fd) : FnOk P w K mg base CX0 (k + 1) f fd ["script", "k"] (Cr.spCell K) := by
  refine F.ok sc__law_cell (fun vs H Q E h => ?_) (fun cdv A outer s H vs Q E hr h => ?_)
  · obtain ⟨a, ns, j, rfl, _⟩ := h
    rfl
  obtain ⟨a, ns, j, rfl, ha, q⟩ := h
  refine ⟨_, (pss_cons (ps_if (pt_cmpR op_lt (pv 1) (pe_callB call_len_seq (by rfl) T.z_len PySem.boot_len (pa_cons (pv 0) pa_nil)) (nomark _)) (pss_one (ps_ret (pe_ix (r := rIxL K) ix_list (pv 0) (pv 1) (fun _ _ => rfl)))) pss_nil)
      (pss_one (ps_ret pe_int))), ?_⟩
  refine q_when (et_test (ev_op (ev_var rfl) (ev_lenL (ev_var rfl) ha) rv_I0)) (fun hb H1 e1 => ?_) (fun hb H1 e1 => ?_)
  · have hlt : j < ns.length := by
      have h := of_decide_eq_true hb
      rw [List.length_map] at h
      omega
    have hx : (ns.map V.int)[j]? = some (.int ns[j]) := by
      rw [List.getElem?_map, List.getElem?_eq_getElem hlt]
      rfl
    exact s_ret (ev_ixL (j := j) (ev_var rfl) (ev_var rfl) (ex_l e1 ha) hx) fun H2 e2 => q _ H2 (e1.trans e2)
  · exact s_ret ev_c fun H2 e2 => q _ H2 (e1.trans e2)
abbrev s__law_draw : Stmt := topS 26
abbrev N__law_draw : List Str := ["script", "k", "sizes", "cell", "drawn", "size", "stirred", "j"]
theorem sc__law_draw : FnScope N__law_draw ["script", "k", "sizes"] (defScope s__law_draw) := ⟨rfl, rfl, rfl, by decide +kernel, rfl, by decide +kernel, by decide +kernel⟩
theorem ok__law_draw {f : Addr} {fd : FuncData} (T : Tx mg) (F : Fun K "_law_draw" "_law_draw" s__law_draw f fd) (c__law_cell : Cl P w K mg base "_law_cell" ["script", "k"] 1 (Cr.spCell K)) : FnOk P w K mg base CX0 2 f fd ["script", "k", "sizes"] (spDraw K) := by
  refine F.ok sc__law_draw (fun vs H Q E h => ?_) (fun cdv A outer s H vs Q E hr h => ?_)
  · obtain ⟨a, b, ns, ms, j, rfl, _⟩ := h
    rfl
  obtain ⟨a, b, ns, ms, k, rfl, ha, hb, hm, hms, q⟩ := h
  refine ⟨_, (pss_cons (ps_set (i := 3) sc__law_draw.nd rfl (Or.inl rfl) (pe_call c__law_cell.ok (hr.mono (by omega)) (by rfl) c__law_cell.m c__law_cell.kp c__law_cell.b .nil pass0 (pa_cons (pv 0) (pa_cons (pv 1) pa_nil))))
      (pss_cons (ps_if (pt_cmpR op_lt (pv 3) pe_int (nomark _)) (pss_one (ps_set (i := 3) sc__law_draw.nd rfl (Or.inl rfl) (pe_un un_neg (pv 3)))) pss_nil)
      (pss_cons (ps_set (i := 4) sc__law_draw.nd rfl (Or.inl rfl) (pe_lst pa_nil))
      (pss_cons (ps_if (pt_cmpR op_ge (pv 3) (pe_op op_pow pe_int pe_int) (nomark _)) (pss_cons (ps_set (i := 3) sc__law_draw.nd rfl (Or.inl rfl) (pe_op op_sub (pv 3) (pe_op op_pow pe_int pe_int)))
        (pss_cons (ps_for PassesOwn.never rfl (pi_list (pv 2)) (pg_name (i := 5) sc__law_draw.nd rfl (Or.inl rfl)) (pss_cons (ps_expr (pe_bm PySem.F.plainAttrs_list PySem.F.slot_list_append PySem.F.type_list_append mt_append (pv 4) (pa_cons (pe_op op_mod (pv 3) (pv 5)) pa_nil)))
          (pss_one (ps_set (i := 3) sc__law_draw.nd rfl (Or.inl rfl) (pe_op op_fdiv (pv 3) (pv 5))))))
        (pss_one (ps_ret (pv 4))))) pss_nil)
      (pss_cons (ps_set (i := 6) sc__law_draw.nd rfl (Or.inl rfl) (pe_op op_mod (pe_op op_add (pe_op op_add (pv 3) pe_int) (pe_op op_mul pe_int (pv 1))) pe_int))
      (pss_cons (ps_for PassesOwn.never rfl (pi_range1 (by rfl) T.z_range (pa_cons (pe_callB call_len_seq (by rfl) T.z_len PySem.boot_len (pa_cons (pv 2) pa_nil)) pa_nil)) (pg_name (i := 7) sc__law_draw.nd rfl (Or.inl rfl)) (pss_cons (ps_set (i := 6) sc__law_draw.nd rfl (Or.inl rfl) (pe_op op_mod (pe_op op_add (pe_op op_add (pe_op op_mul (pv 6) pe_int) pe_int) (pv 7)) pe_int))
        (pss_cons (ps_set (i := 6) sc__law_draw.nd rfl (Or.inl rfl) (pe_op op_mod (pe_op op_add (pe_op op_mul (pv 6) pe_int) pe_int) pe_int))
        (pss_one (ps_expr (pe_bm PySem.F.plainAttrs_list PySem.F.slot_list_append PySem.F.type_list_append mt_append (pv 4) (pa_cons (pe_op op_mod (pe_op op_fdiv (pv 6) pe_int) (pe_ix (r := rIxL K) ix_list (pv 2) (pv 7) (fun _ _ => rfl))) pa_nil)))))))
      (pss_one (ps_ret (pv 4))))))))), ?_⟩
  -- cell = _law_cell(script, k)
  refine ⟨_, rfl, _, rfl, a, ns, k, rfl, ha, fun c H1 e1 => ?_⟩
  refine q_ifAsg (b := decide (c < 0)) (v := .int (if c < 0 then -c else c)) (et_test (ev_op (ev_var rfl) ev_c rv_I0)) (fun hc => ev_is (ev_un (ev_var rfl) ru_neg) (by rw [if_pos (of_decide_eq_true hc)])) (fun hc => by rw [if_neg (of_decide_eq_false hc)]; rfl) fun H2 e2' => ?_
  have e2 := e1.trans e2'
  generalize (if c < 0 then -c else c) = c
  -- drawn = []
  refine q_asgL (el_lst ea_nil (by decide)) fun p H3 hp3 e3 h3 => ?_
  have hp : H p = none := Same.free e2 hp3
  have e03 : Same H H3 := e2.trans e3
  have fin : ∀ (acc : List Int) H', Same H H' → H' p = some (.lst (acc.map V.int)) → acc.length = ms.length → Q (.ref p) H' := fun acc H' e h hl => q p acc H' e hp h hl
  refine q_when (et_test (ev_op (ev_var rfl) (ev_op ev_c ev_c (rv_I ⟨by decide, by decide, by decide⟩)) rv_I0)) (fun _ H4 e4 => ?_) (fun _ H4 e4 => ?_)
  · refine q_asg (ev_op (ev_var rfl) (ev_op ev_c ev_c (rv_I ⟨by decide, by decide, by decide⟩)) rv_I0) fun H5 e5 => ?_
    have e05 := e03.trans (e4.trans e5)
    refine q_forLn (a := b) (xs := ms.map V.int) (ev_var rfl) (ex_l e05 hb) (fun i σ' H' => ∃ (c : Int) (z : Option V) (acc : List Int), σ' = [some (.ref a), some (.int (k : Int)), some (.ref b), some (.int c), some (.ref p), z, none, none] ∧ Same H H' ∧ H' p = some (.lst (acc.map V.int)) ∧ acc.length = i)
      (fun H6 e6 => ⟨_, none, [], rfl, e05.trans e6, e6 _ _ (e5 _ _ (e4 _ _ h3)), rfl⟩) (fun i σ' H' _ ⟨_, _, _, _, e, _, _⟩ => ex_l e hb) (fun i x σ' H' hx hP => ?_) (fun σ' H' hP => ?_)
    · obtain ⟨c', z, acc, rfl, e, hpl, hl⟩ := hP
      obtain ⟨m, hmi, rfl⟩ := map_int hx
      have him := (List.getElem?_eq_some_iff.mp hmi).1
      obtain ⟨m0, m1⟩ := hms m (List.mem_of_getElem? hmi)
      refine q_app hpl (ev_var rfl) (ev_op (ev_var rfl) (ev_var rfl) (rv_I m0)) (by rw [List.length_map]; omega) fun H7 e7 => ?_
      refine s_asg (ev_op (ev_var rfl) (ev_var rfl) (rv_I ⟨m0, m1⟩)) fun H8 e8 => ⟨_, _, acc ++ [c' % m], rfl, ?_, ?_, ?_⟩
      · exact (same_mut (e.trans e7) hp).trans e8
      · exact e8 _ _ (by rw [upd_same, List.map_append]; rfl)
      · rw [List.length_append, hl]; rfl
    · obtain ⟨c', z, acc, rfl, e, hpl, hl⟩ := hP
      exact s_ret (ev_var rfl) fun H9 e9 => fin acc H9 (e.trans e9) (e9 _ _ hpl) (by rw [hl, List.length_map])
  · refine q_asg (ev_op (ev_op (ev_op (ev_var rfl) ev_c rv_I0) (ev_op ev_c (ev_var rfl) (rv_I (.inl ⟨by decide, by decide⟩))) rv_I0) ev_c (rv_I (by decide))) fun H5 e5 => ?_
    have e05 := e03.trans (e4.trans e5)
    refine q_forR1 (n := ((ms.map V.int).length : Int)) (ea_cons (ev_lenL (ev_var rfl) (ex_l e05 hb)) ea_nil) (by rw [List.length_map]; omega) (fun i σ' H' => ∃ (c : Int) (z : Option V) (acc : List Int), σ' = [some (.ref a), some (.int (k : Int)), some (.ref b), σ'.getD 3 none, some (.ref p), none, some (.int c), z] ∧ Same H H' ∧ H' p = some (.lst (acc.map V.int)) ∧ acc.length = i)
      (fun H6 e6 => ⟨_, none, [], rfl, e05.trans e6, e6 _ _ (e5 _ _ (e4 _ _ h3)), rfl⟩) (fun i σ' H' hi hP => ?_) (fun σ' H' hP => ?_)
    · obtain ⟨c', z, acc, hσ, e, hpl, hl⟩ := hP
      rw [List.length_map] at hi
      generalize σ'.getD 3 none = y at hσ
      subst hσ
      have hmi : ms[i]? = some ms[i] := List.getElem?_eq_getElem (by omega)
      obtain ⟨m0, m1⟩ := hms ms[i] (List.mem_of_getElem? hmi)
      have hx : (ms.map V.int)[i]? = some (.int ms[i]) := by rw [List.getElem?_map, hmi]; rfl
      refine q_asg (ev_op (ev_op (ev_op (ev_op (ev_var rfl) ev_c (rv_I (.inr ⟨by decide, by decide⟩))) ev_c rv_I0) (ev_var rfl) rv_I0) ev_c (rv_I (by decide))) fun H7 e7 => ?_
      refine q_asg (ev_op (ev_op (ev_op (ev_var rfl) ev_c (rv_I (.inr ⟨by decide, by decide⟩))) ev_c rv_I0) ev_c (rv_I (by decide))) fun H8 e8 => ?_
      have e78 := e7.trans e8
      refine s_app (e78 _ _ hpl) (ev_var rfl) (ev_op (ev_op (ev_var rfl) ev_c (rv_I ⟨by decide, by decide⟩)) (ev_ixL (j := i) (ev_var rfl) (ev_var rfl) (ex_l (e.trans e78) hb) hx) (rv_I m0)) (by rw [List.length_map]; omega) fun H9 e9 => ⟨_, _, acc ++ [((c' * 48271 + 11 + (i : Int)) % 2147483647 * 69621 + 3) % 2147483647 / 7 % ms[i]], rfl, ?_, ?_, ?_⟩
      · exact same_mut ((e.trans e78).trans e9) hp
      · rw [upd_same, List.map_append]; rfl
      · rw [List.length_append, hl]; rfl
    · obtain ⟨c', z, acc, hσ, e, hpl, hl⟩ := hP
      rw [hσ]
      exact s_ret (ev_var rfl) fun H9 e9 => fin acc H9 (e.trans e9) (e9 _ _ hpl) (by rw [hl, List.length_map]; rfl)
abbrev s__law_box : Stmt := topS 27
abbrev N__law_box : List Str := ["script", "k"]
theorem sc__law_box : FnScope N__law_box ["script", "k"] (defScope s__law_box) := ⟨rfl, rfl, rfl, by decide +kernel, rfl, by decide +kernel, by decide +kernel⟩
theorem ok__law_box {f : Addr} {fd : FuncData} (T : Tx mg) (F : Fun K "_law_box" "_law_box" s__law_box f fd) (c__law_draw : Cl P w K mg base "_law_draw" ["script", "k", "sizes"] 2 (spDraw K)) : FnOk P w K mg base CX0 3 f fd ["script", "k"] (spBox K) := by
  refine F.ok sc__law_box (fun vs H Q E h => ?_) (fun cdv A outer s H vs Q E hr h => ?_)
  · obtain ⟨a, ns, j, rfl, _⟩ := h
    rfl
  obtain ⟨a, ns, k, rfl, ha, q⟩ := h
  refine ⟨_, (pss_one (ps_ret (pe_lst (pa_cons (pe_op op_cat (pe_call c__law_draw.ok (hr.mono (by omega)) (by rfl) c__law_draw.m c__law_draw.kp c__law_draw.b .nil pass0 (pa_cons (pv 0) (pa_cons (pv 1) (pa_cons (pe_op op_rep (pe_lst (pa_cons pe_int pa_nil)) pe_int) pa_nil)))) (pe_call c__law_draw.ok (hr.mono (by omega)) (by rfl) c__law_draw.m c__law_draw.kp c__law_draw.b .nil pass0 (pa_cons (pv 0) (pa_cons (pe_op op_add (pv 1) pe_int) (pa_cons (pe_op op_rep (pe_lst (pa_cons pe_int pa_nil)) pe_int) pa_nil))))) (pa_cons pe_int pa_nil))))), ?_⟩
  -- the first draw
  refine ⟨_, rfl, _, rfl, by decide, fun p1 h1 => ⟨p1, 20, [.int 97], rfl, rfl, upd_same, by decide, by decide, by decide, fun p2 h2 => ?_⟩⟩
  have e2 : Same H (upd (upd H p1 (.lst [.int 97])) p2 (.lst (List.replicate (Int.toNat 20) [V.int 97]).flatten)) := (same_new h1).trans (same_new h2)
  refine ⟨a, p2, ns, List.replicate 20 97, k, rfl, e2.seq ha, .of (by rw [upd_same, rep97]), by decide, m97, fun p3 xs H3 e3 _ h3 l3 => ?_⟩
  have e03 := e2.trans e3
  -- the second one
  refine ⟨_, rfl, _, rfl, _, _, rfl, rfl, by decide, fun p4 h4 => ⟨p4, 20, [.int 97], rfl, rfl, upd_same, by decide, by decide, by decide, fun p5 h5 => ?_⟩⟩
  have e5 : Same H3 (upd (upd H3 p4 (.lst [.int 97])) p5 (.lst (List.replicate (Int.toNat 20) [V.int 97]).flatten)) := (same_new h4).trans (same_new h5)
  refine ⟨a, p5, ns, List.replicate 20 97, k + 1, rfl, (e03.trans e5).seq ha, .of (by rw [upd_same, rep97]), by decide, m97, fun p6 ys H6 e6 _ h6 l6 => ?_⟩
  have e36 := e5.trans e6
  refine ⟨p3, p6, _, _, rfl, rfl, e36 _ _ h3, h6, ?_, fun p7 h7 => ⟨(by show 2 ≤ sizeLine; decide), fun p8 h8 => ?_⟩⟩
  · rw [List.length_map, List.length_map, l3, l6]
    decide
  · have e68 := (same_new (o := .lst (xs.map V.int ++ ys.map V.int)) h7).trans (same_new (o := .lst [.ref p7, .int 0]) h8)
    have n8 : p7 ≠ p8 := fun e => by rw [← e, upd_same] at h8; cases h8
    refine q p8 p7 _ ((e03.trans e36).trans e68) (Same.free (e03.trans (e36.trans (same_new h7))) h8) ⟨xs ++ ys, 0, upd_same, ?_, n8⟩
    rw [upd_ne n8, upd_same, List.map_append]
abbrev s__law_take : Stmt := topS 28
abbrev N__law_take : List Str := ["box", "many", "at"]
theorem sc__law_take : FnScope N__law_take ["box", "many"] (defScope s__law_take) := ⟨rfl, rfl, rfl, by decide +kernel, rfl, by decide +kernel, by decide +kernel⟩
theorem ok__law_take {f : Addr} {fd : FuncData} (T : Tx mg) (F : Fun K "_law_take" "_law_take" s__law_take f fd) : FnOk P w K mg base CX0 1 f fd ["box", "many"] spTake := by
  refine F.ok sc__law_take (fun vs H Q E h => ?_) (fun cdv A outer s H vs Q E hr h => ?_)
  · obtain ⟨b, d, m, rfl, _⟩ := h
    rfl
  obtain ⟨b, d, m, rfl, hB, hm, q⟩ := h
  refine ⟨_, (pss_cons (ps_set (i := 2) sc__law_take.nd rfl (Or.inl rfl) (pe_ix (r := rIxL K) ix_list (pv 0) pe_int (fun _ _ => rfl)))
      (pss_cons (ps_asg (pe_op op_add (pv 2) pe_int) (pg_sub (pv 0) pe_int set_list))
      (pss_cons (ps_if (pt_cmpR op_lt (pv 2) (pe_callB call_len_seq (by rfl) T.z_len PySem.boot_len (pa_cons (pe_ix (r := rIxL K) ix_list (pv 0) pe_int (fun _ _ => rfl)) pa_nil)) (nomark _)) (pss_one (ps_ret (pe_op op_mod (pe_ix (r := rIxL K) ix_list (pe_ix (r := rIxL K) ix_list (pv 0) pe_int (fun _ _ => rfl)) (pv 2) (fun _ _ => rfl)) (pv 1)))) pss_nil)
      (pss_one (ps_ret pe_int))))), ?_⟩
  obtain ⟨ns, i, h1, h2, h3⟩ := hB
  refine q_asg (ev_ixL (j := 1) (ev_var rfl) ev_c (.of h1) rfl) fun H1 e1 => ?_
  refine q_setL (j := 1) (e1 _ _ h1) (ev_op (ev_var rfl) ev_c rv_I0) (ev_var rfl) ev_c (by show 1 < 2; decide) fun H2 e2 => ?_
  have hbox : upd H2 b (.lst [.ref d, .int ((i : Int) + 1)]) b = some (.lst [.ref d, .int ((i : Int) + 1)]) := upd_same
  have hd : upd H2 b (.lst [.ref d, .int ((i : Int) + 1)]) d = some (.lst (ns.map V.int)) := by rw [upd_ne h3]; exact e2 _ _ (e1 _ _ h2)
  have mv : Mv b d H (upd H2 b (.lst [.ref d, .int ((i : Int) + 1)])) := ⟨fun a o ne h => by rw [upd_ne ne]; exact e2 _ _ (e1 _ _ h), ns, i + 1, upd_same, hd, h3⟩
  refine q_when (b := decide ((i : Int) < ((ns.map V.int).length : Int))) (et_test (ev_op (ev_var rfl) (ev_lenL (ev_ixL (j := 0) (ev_var rfl) ev_c (.of hbox) rfl) (.of hd)) rv_I0)) (fun hb H3 e3 => ?_) (fun hb H3 e3 => ?_)
  · have hlt : i < ns.length := by
      have h := of_decide_eq_true hb
      rw [List.length_map] at h
      omega
    have hx : (ns.map V.int)[i]? = some (.int ns[i]) := by
      rw [List.getElem?_map, List.getElem?_eq_getElem hlt]
      rfl
    refine s_ret (ev_op (ev_ixL (j := i) (ev_ixL (j := 0) (ev_var rfl) ev_c (.of (e3 _ _ hbox)) rfl) (ev_var rfl) (.of (e3 _ _ hd)) hx) (ev_var rfl) (rv_I hm)) fun H4 e4 => q _ H4 (Int.emod_nonneg _ (by omega)) (Int.emod_lt_of_pos _ hm) (mv.ext (e3.trans e4))
  · exact s_ret ev_c fun H4 e4 => q _ H4 (Int.le_refl _) hm (mv.ext (e3.trans e4))
abbrev s__law_kind : Stmt := topS 29
abbrev N__law_kind : List Str := ["box", "depth", "which", "j"]
theorem sc__law_kind : FnScope N__law_kind ["box", "depth"] (defScope s__law_kind) := ⟨rfl, rfl, rfl, by decide +kernel, rfl, by decide +kernel, by decide +kernel⟩
theorem ok__law_kind {f : Addr} {fd : FuncData} {N : Nat} (T : Tx mg) (F : Fun K "_law_kind" "_law_kind" s__law_kind f fd) (c__law_take : Cl P w K mg base "_law_take" ["box", "many"] 1 spTake)
    (c__law_kind : Cl P w K mg base "_law_kind" ["box", "depth"] (N + 1) (spLKind2 K N)) : FnOk P w K mg base CX0 (N + 1 + 1) f fd ["box", "depth"] (spLKind2 K (N + 1)) := by
  refine F.ok sc__law_kind (fun vs H Q E h => ?_) (fun cdv A outer s H vs Q E hr h => ?_)
  · obtain ⟨b, d, n, rfl, _⟩ := h
    rfl
  obtain ⟨b, d, n, rfl, hB, hn, q⟩ := h
  refine ⟨_, (pss_cons (ps_set (i := 2) sc__law_kind.nd rfl (Or.inl rfl) (pe_call c__law_take.ok (hr.mono (by omega)) (by rfl) c__law_take.m c__law_take.kp c__law_take.b .nil pass0 (pa_cons (pv 0) (pa_cons pe_int pa_nil))))
      (pss_cons (ps_if (PW.pt (pw_or (pt_cmpR op_eq (pv 1) pe_int (nomark _)) (pw_or1 (pt_cmpR op_lt (pv 2) pe_int (nomark _))))) (pss_one (ps_ret (pe_ix (r := rIxL K) ix_list (pe_lst (pa_cons pe_str (pa_cons pe_str pa_nil))) (pe_op op_fdiv (pe_call c__law_take.ok (hr.mono (by omega)) (by rfl) c__law_take.m c__law_take.kp c__law_take.b .nil pass0 (pa_cons (pv 0) (pa_cons pe_int pa_nil))) pe_int) (fun _ _ => rfl)))) pss_nil)
      (pss_cons (ps_if (pt_cmpR op_lt (pv 2) pe_int (nomark _)) (pss_one (ps_ret (pe_tup (pa_cons pe_str (pa_cons (pe_call c__law_kind.ok (hr.mono (by omega)) (by rfl) c__law_kind.m c__law_kind.kp c__law_kind.b .nil pass0 (pa_cons (pv 0) (pa_cons (pe_op op_sub (pv 1) pe_int) pa_nil))) pa_nil))))) pss_nil)
      (pss_one (ps_ret (pe_tup (pa_cons pe_str (pa_cons (pe_callTy call_tuple_of (by rfl) T.z_tuple (by decide +kernel) (pa_cons (pe_lc (own := [("j", 3)]) (g := gName 3) (by rfl) sc__law_kind.nd (pi_range1 (by rfl) T.z_range (pa_cons (pe_op op_add pe_int (pe_call c__law_take.ok (hr.mono (by omega)) (by rfl) c__law_take.m c__law_take.kp c__law_take.b .nil pass0 (pa_cons (pv 0) (pa_cons pe_int pa_nil)))) pa_nil)) (blkOk_by (own := [("j", 3)]) (N := N__law_kind) (sc := defScope s__law_kind) (by decide +kernel)) (fun _ _ _ _ _ => (pg_name (i := 3) sc__law_kind.nd rfl (Or.inl rfl))) (fun _ _ _ _ _ => pts_nil) (fun _ _ _ _ _ => (pe_call c__law_kind.ok (hr.mono (by omega)) (by rfl) c__law_kind.m c__law_kind.kp c__law_kind.b .nil pass0 (pa_cons (pv 0) (pa_cons pe_int pa_nil))))) pa_nil)) pa_nil)))))))), ?_⟩
  -- which
  refine ⟨_, rfl, b, d, 6, rfl, hB, by decide, fun r H1 r0 r1 m1 => ?_⟩
  refine q_when (b := decide (V.int (n : Int) = V.int 0) || decide (r < 2)) (et_or (et_test (ev_op (ev_var rfl) ev_c (rv_eq rfl))) (fun _ => et_test (ev_op (ev_var rfl) ev_c rv_I0))) (fun hb H2 e2 => ?_) (fun hb H2 e2 => ?_)
  · have m2 := m1.ext e2
    refine ⟨by decide, fun p hp => ?_⟩
    have m3 := m2.new (o := .lst [.str "int", .str "word"]) hp
    have npb : p ≠ b := (m2.2.neb hp).1
    refine ⟨_, rfl, b, d, 3, rfl, m3.2, by decide, fun x H4 x0 x1 m4 => ⟨x, 2, rfl, rfl, ⟨by decide, by decide⟩, ?_⟩⟩
    have hl : SqL K H4 p [.str "int", .str "word"] := m4.sql npb (.of upd_same)
    rcases (by omega : x / 2 = 0 ∨ x / 2 = 1) with hx | hx
    · exact ⟨p, _, x / 2, .str "int", rfl, rfl, hl, (by rw [hx]; rfl), q _ .int H4 (m3.trans m4) (by rw [Kd.data]; exact .str _) .int .int⟩
    · exact ⟨p, _, x / 2, .str "word", rfl, rfl, hl, (by rw [hx]; rfl), q _ .word H4 (m3.trans m4) (by rw [Kd.data]; exact .str _) .word .word⟩
  · have m2 := m1.ext e2
    have hn0 : n ≠ 0 := by
      intro e
      subst e
      rw [decide_eq_true (by rfl)] at hb
      cases hb
    refine q_when (et_test (ev_op (ev_var rfl) ev_c rv_I0)) (fun _ H3 e3 => ?_) (fun _ H3 e3 => ?_)
    · have m3 := m2.ext e3
      have en : (n : Int) - 1 = ((n - 1 : Nat) : Int) := by omega
      refine ⟨_, rfl, _, rfl, _, _, rfl, rfl, b, d, n - 1, (by rw [← en]; rfl), m3.2, by omega, fun v kd H4 m4 hv hk hne => ⟨(by show 2 ≤ sizeLine; decide), fun p hp => ?_⟩⟩
      have hk' : OkK n kd := by
        have e : n - 1 + 1 = n := by omega
        rw [e] at hk
        exact hk
      refine q _ (.lst kd) _ ((m3.trans m4).new hp) ?_ (.lst hk') (.lst hne)
      rw [Kd.data]
      exact .t2 (.of upd_same) (.str _) (hv.keep (Kt.new hp))
    · have m3 := m2.ext e3
      refine ⟨_, rfl, b, d, 2, rfl, m3.2, by decide, fun x H4 x0 x1 m4 => ⟨1, x, rfl, rfl, 1 + x, rfl, by omega, by omega, fun D hD => ?_⟩⟩
      have m34 := m3.trans m4
      have nDb : D ≠ b := (m34.2.neb hD).1
      refine lc_range (lo := 0) (n := (1 + x).toNat) (fun i H' => ∃ (vs : List V) (ks : List Kd), H' D = some (.lst vs) ∧ vs.length = i ∧ Vds K H' vs (ks.map Kd.data) ∧ (∀ k ∈ ks, OkK 1 k ∧ NeK k) ∧ Mv b d H4 H') ⟨[], [], upd_same, rfl, .nil, fun _ h => (nomatch h), (Mv.refl m34.2).new hD⟩ (fun i H5 hi hP => ⟨rfl, ?_⟩) (fun H5 hP => ?_)
      · obtain ⟨vs, ks, hDv, hl, hvs, hks, m5⟩ := hP
        refine ⟨_, rfl, b, d, 0, rfl, m5.2, by omega, fun v kd H6 m6 hv hk hne => ⟨vs, m6.1 _ _ nDb hDv, small1000 (by omega), vs ++ [v], ks ++ [kd], upd_same, by rw [List.length_append, hl]; rfl, ?_, ?_, (m5.trans m6).mut m34.2 hD⟩⟩
        · rw [List.map_append]
          have hk6 : Kt K H6 (upd H6 D (.lst (vs ++ [v]))) := Kt.lst (m6.1 _ _ nDb hDv)
          exact ((hvs.keep (m6.kt m5.2)).snoc hv).keep hk6
        · intro k hk1
          rcases List.mem_append.mp hk1 with h | h
          · exact hks k h
          · cases List.mem_singleton.mp h
            exact ⟨hk, hne⟩
      · obtain ⟨vs, ks, hDv, hl, hvs, hks, m5⟩ := hP
        refine ⟨D, vs, rfl, .inl ⟨.of hDv, fun l hl' => ⟨(by show 2 ≤ sizeLine; decide), fun p hp => ?_⟩⟩⟩
        have e5 := (same_new (o := .tup vs) hl').trans (same_new (o := .tup [.str "tuple", .ref l]) hp)
        refine q _ (.tup ks) _ ((m34.trans m5).ext e5) ?_ (.tup (by have h := hvs.1; rw [List.length_map] at h; omega) fun k hk => (hks k hk).1.mono (by omega)) (.tup (by have h := hvs.1; rw [List.length_map] at h; omega) (by have h := hvs.1; rw [List.length_map] at h; omega) (fun k hk => (hks k hk).2) fun k hk => flat_of (hks k hk).1 (hks k hk).2)
        rw [Kd.data, dataAll_map]
        exact .t2 (.of upd_same) (.str _) ((hvs.keep (Kt.same e5)).tup (ex_t (same_new hp) (.of upd_same)))
abbrev s__law_limit : Stmt := topS 30
abbrev N__law_limit : List Str := ["box", "kind", "depth", "which", "first", "place"]
theorem sc__law_limit : FnScope N__law_limit ["box", "kind", "depth"] (defScope s__law_limit) := ⟨rfl, rfl, rfl, by decide +kernel, rfl, by decide +kernel, by decide +kernel⟩
theorem ok__law_limit {f : Addr} {fd : FuncData} {N : Nat} (T : Tx mg) (F : Fun K "_law_limit" "_law_limit" s__law_limit f fd) (c__law_take : Cl P w K mg base "_law_take" ["box", "many"] 1 spTake)
    (c__law_limit : Cl P w K mg base "_law_limit" ["box", "kind", "depth"] (N + 1) (spLLimit2 K N)) : FnOk P w K mg base CX0 (N + 1 + 1) f fd ["box", "kind", "depth"] (spLLimit2 K (N + 1)) := by
  refine F.ok sc__law_limit (fun vs H Q E h => ?_) (fun cdv A outer s H vs Q E hr h => ?_)
  · obtain ⟨b, d, u, kd, n, m, rfl, _⟩ := h
    rfl
  obtain ⟨b, d, u, kd, n, m, rfl, hB, hu, hk, hne, hnm, hN, q⟩ := h
  refine ⟨_, (pss_cons (ps_set (i := 3) sc__law_limit.nd rfl (Or.inl rfl) (pe_call c__law_take.ok (hr.mono (by omega)) (by rfl) c__law_take.m c__law_take.kp c__law_take.b .nil pass0 (pa_cons (pv 0) (pa_cons pe_int pa_nil))))
      (pss_cons (ps_if (PW.pt (pw_and (pt_cmpR op_gt (pv 2) pe_int (nomark _)) (pw_and1 (pt_cmpR op_gt (pv 3) pe_int (nomark _))))) (pss_cons (ps_set (i := 4) sc__law_limit.nd rfl (Or.inl rfl) (pe_call c__law_limit.ok (hr.mono (by omega)) (by rfl) c__law_limit.m c__law_limit.kp c__law_limit.b .nil pass0 (pa_cons (pv 0) (pa_cons (pv 1) (pa_cons (pe_op op_sub (pv 2) pe_int) pa_nil)))))
        (pss_cons (ps_if (pt_cmpR op_eq (pv 3) pe_int (nomark _)) (pss_one (ps_ret (pe_tup (pa_cons pe_str (pa_cons (pv 4) pa_nil))))) pss_nil)
        (pss_one (ps_ret (pe_tup (pa_cons (pe_ix (r := rIxL K) ix_list (pe_lst (pa_cons pe_str (pa_cons pe_str pa_nil))) (pe_op op_sub (pv 3) pe_int) (fun _ _ => rfl)) (pa_cons (pv 4) (pa_cons (pe_call c__law_limit.ok (hr.mono (by omega)) (by rfl) c__law_limit.m c__law_limit.kp c__law_limit.b .nil pass0 (pa_cons (pv 0) (pa_cons (pv 1) (pa_cons (pe_op op_sub (pv 2) pe_int) pa_nil)))) pa_nil)))))))) pss_nil)
      (pss_cons (ps_if (pt_cmpR (op_eqD hr.units) (pv 1) pe_str (nomark _)) (pss_cons (ps_if (pt_cmpR op_eq (pe_op op_mod (pv 3) pe_int) pe_int (nomark _)) (pss_one (ps_ret (pe_tup (pa_cons pe_str (pa_cons (pe_op op_sub (pe_call c__law_take.ok (hr.mono (by omega)) (by rfl) c__law_take.m c__law_take.kp c__law_take.b .nil pass0 (pa_cons (pv 0) (pa_cons pe_int pa_nil))) pe_int) pa_nil))))) pss_nil)
        (pss_one (ps_ret (pe_tup (pa_cons pe_str (pa_cons (pe_op op_add pe_int (pe_call c__law_take.ok (hr.mono (by omega)) (by rfl) c__law_take.m c__law_take.kp c__law_take.b .nil pass0 (pa_cons (pv 0) (pa_cons pe_int pa_nil)))) pa_nil)))))) pss_nil)
      (pss_cons (ps_if (pt_cmpR (op_eqD hr.units) (pv 1) pe_str (nomark _)) (pss_one (ps_ret (pe_tup (pa_cons pe_str (pa_cons (pe_ix (r := rIxL K) ix_list (pe_lst (pa_cons pe_str (pa_cons pe_str (pa_cons pe_str pa_nil)))) (pe_call c__law_take.ok (hr.mono (by omega)) (by rfl) c__law_take.m c__law_take.kp c__law_take.b .nil pass0 (pa_cons (pv 0) (pa_cons pe_int pa_nil))) (fun _ _ => rfl)) pa_nil))))) pss_nil)
      (pss_cons (ps_if (pt_cmpR op_eq (pe_ix (r := rIxT K) ix_tup (pv 1) pe_int (fun _ _ => rfl)) pe_str (nomark _)) (pss_cons (ps_set (i := 5) sc__law_limit.nd rfl (Or.inl rfl) (pe_call c__law_take.ok (hr.mono (by omega)) (by rfl) c__law_take.m c__law_take.kp c__law_take.b .nil pass0 (pa_cons (pv 0) (pa_cons (pe_callB call_len_seq (by rfl) T.z_len PySem.boot_len (pa_cons (pe_ix (r := rIxT K) ix_tup (pv 1) pe_int (fun _ _ => rfl)) pa_nil)) pa_nil))))
        (pss_one (ps_ret (pe_tup (pa_cons pe_str (pa_cons (pv 5) (pa_cons (pe_call c__law_limit.ok (hr.mono (by omega)) (by rfl) c__law_limit.m c__law_limit.kp c__law_limit.b .nil pass0 (pa_cons (pv 0) (pa_cons (pe_ix (r := rIxT K) ix_tup (pe_ix (r := rIxT K) ix_tup (pv 1) pe_int (fun _ _ => rfl)) (pv 5) (fun _ _ => rfl)) (pa_cons pe_int pa_nil)))) pa_nil))))))) pss_nil)
      (pss_cons (ps_if (PW.pt (pw_and (pt_cmpR (op_eqD hr.units) (pv 1) (pe_tup (pa_cons pe_str (pa_cons pe_str pa_nil))) (nomark _)) (pw_and1 (pt_cmpR op_lt (pv 3) pe_int (nomark _))))) (pss_one (ps_ret (pe_ix (r := rIxL K) ix_list (pe_lst (pa_cons (pe_tup (pa_cons pe_str pa_nil)) (pa_cons (pe_tup (pa_cons pe_str pa_nil)) (pa_cons (pe_tup (pa_cons pe_str (pa_cons (pe_call c__law_limit.ok (hr.mono (by omega)) (by rfl) c__law_limit.m c__law_limit.kp c__law_limit.b .nil pass0 (pa_cons (pv 0) (pa_cons pe_str (pa_cons pe_int pa_nil)))) pa_nil))) pa_nil)))) (pv 3) (fun _ _ => rfl)))) pss_nil)
      (pss_cons (ps_if (pt_cmpR op_eq (pv 3) pe_int (nomark _)) (pss_one (ps_ret (pe_tup (pa_cons pe_str pa_nil)))) pss_nil)
      (pss_cons (ps_if (pt_cmpR op_eq (pv 3) pe_int (nomark _)) (pss_one (ps_ret (pe_tup (pa_cons pe_str (pa_cons (pe_call c__law_limit.ok (hr.mono (by omega)) (by rfl) c__law_limit.m c__law_limit.kp c__law_limit.b .nil pass0 (pa_cons (pv 0) (pa_cons pe_str (pa_cons pe_int pa_nil)))) pa_nil))))) pss_nil)
      (pss_one (ps_ret (pe_tup (pa_cons (pe_ix (r := rIxL K) ix_list (pe_lst (pa_cons pe_str (pa_cons pe_str pa_nil))) (pe_op op_mod (pv 3) pe_int) (fun _ _ => rfl)) (pa_cons (pe_call c__law_limit.ok (hr.mono (by omega)) (by rfl) c__law_limit.m c__law_limit.kp c__law_limit.b .nil pass0 (pa_cons (pv 0) (pa_cons (pe_ix (r := rIxT K) ix_tup (pv 1) pe_int (fun _ _ => rfl)) (pa_cons pe_int pa_nil)))) pa_nil))))))))))))), ?_⟩
  have hmp := hk.pos
  refine ⟨_, rfl, b, d, 9, rfl, hB, by decide, fun r H1 r0 r1 m1 => ?_⟩
  refine q_when (et_and (et_test (ev_op (ev_var rfl) ev_c rv_I0)) (fun _ => et_test (ev_op (ev_var rfl) ev_c rv_I0))) (fun hb H2 e2 => ?_) (fun hb H2 e2 => ?_)
  · -- not, and, or
    obtain ⟨hb1, hb2⟩ := Bool.and_eq_true_iff.mp hb
    have hb1 := of_decide_eq_true hb1
    have hb2 := of_decide_eq_true hb2
    have m2 := m1.ext e2
    have en : (n : Int) - 1 = ((n - 1 : Nat) : Int) := by omega
    refine ⟨_, rfl, _, rfl, _, rfl, _, _, rfl, rfl, b, d, u, kd, n - 1, m, (by rw [← en]; rfl), m2.2, hu.keep (m2.kt hB), hk, hne, by omega, by omega, fun v c H3 m3 hv hc hfc => ?_⟩
    refine q_when (et_test (ev_op (ev_var rfl) ev_c (rv_eq rfl))) (fun _ H4 e4 => ?_) (fun h6 H4 e4 => ?_)
    · refine ⟨_, rfl, (by show 2 ≤ sizeLine; decide), fun p hp => ?_⟩
      have m4 := ((m2.trans m3).ext e4).new (o := .tup [.str "not", v]) hp
      refine q _ (.not_ c) _ m4 ?_ (.not_ hc) hfc
      rw [Cd.data]
      exact .t2 (.of upd_same) (.str _) (hv.keep (Kt.same (e4.trans (same_new hp))))
    · have h6 : r ≠ 6 := fun e => by
        have h := of_decide_eq_false h6
        exact h (by rw [e])
      have m4 := (m2.trans m3).ext e4
      refine ⟨by decide, fun p hp => ?_⟩
      have e5 := same_new (o := .lst [.str "and", .str "or"]) hp
      rcases (by omega : r = 7 ∨ r = 8) with rfl | rfl
      · refine ⟨_, rfl, _, _, rfl, rfl, p, _, 7 - 7, .str "and", rfl, rfl, .of upd_same, rfl, _, rfl, _, rfl, _, rfl, _, rfl, _, _, rfl, rfl, b, d, u, kd, n - 1, m, (by rw [← en]; rfl), (m4.ext e5).2, hu.keep ((m4.ext e5).kt hB), hk, hne, by omega, by omega, fun v2 c2 H6 m6 hv2 hc2 hfc2 => ⟨(by show 3 ≤ sizeLine; decide), fun p2 hp2 => ?_⟩⟩
        refine q _ (.and_ c c2) _ (((m4.ext e5).trans m6).new hp2) ?_ (.and_ hc hc2) (Bool.and_eq_true_iff.mpr ⟨hfc, hfc2⟩)
        rw [Cd.data]
        exact .t3 (.of upd_same) (.str _) (((hv.keep (Kt.same (e4.trans e5))).keep (m6.kt (m4.ext e5).2)).keep (Kt.new hp2)) (hv2.keep (Kt.new hp2))
      · refine ⟨_, rfl, _, _, rfl, rfl, p, _, 8 - 7, .str "or", rfl, rfl, .of upd_same, rfl, _, rfl, _, rfl, _, rfl, _, rfl, _, _, rfl, rfl, b, d, u, kd, n - 1, m, (by rw [← en]; rfl), (m4.ext e5).2, hu.keep ((m4.ext e5).kt hB), hk, hne, by omega, by omega, fun v2 c2 H6 m6 hv2 hc2 hfc2 => ⟨(by show 3 ≤ sizeLine; decide), fun p2 hp2 => ?_⟩⟩
        refine q _ (.or_ c c2) _ (((m4.ext e5).trans m6).new hp2) ?_ (.or_ hc hc2) (Bool.and_eq_true_iff.mpr ⟨hfc, hfc2⟩)
        rw [Cd.data]
        exact .t3 (.of upd_same) (.str _) (((hv.keep (Kt.same (e4.trans e5))).keep (m6.kt (m4.ext e5).2)).keep (Kt.new hp2)) (hv2.keep (Kt.new hp2))
  have m2 := m1.ext e2
  have hu2 := hu.keep (m2.kt hB)
  have sk := OkK.shaped hk (by omega)
  refine q_when (et_test (ev_isInt (ev_var rfl) hu2 hk (by omega))) (fun hi H3 e3 => ?_) (fun hi H3 e3 => ?_)
  · have m3 := m2.ext e3
    refine q_when (et_test (ev_op (ev_op (ev_var rfl) ev_c (rv_I (by decide))) ev_c (rv_eq rfl))) (fun _ H4 e4 => ?_) (fun _ H4 e4 => ?_)
    · have m4 := m3.ext e4
      refine ⟨_, rfl, b, d, 7, rfl, m4.2, by decide, fun x H5 x0 x1 m5 => ⟨_, _, rfl, rfl, (by show 2 ≤ sizeLine; decide), fun p hp => ?_⟩⟩
      refine q _ (.atmost (x - 2)) _ ((m4.trans m5).new hp) ?_ (.atmost _) hi
      rw [Cd.data]
      exact .t2 (.of upd_same) (.str _) (.int _)
    · have m4 := m3.ext e4
      refine ⟨_, rfl, b, d, 3, rfl, m4.2, by decide, fun x H5 x0 x1 m5 => ⟨_, _, rfl, rfl, (by show 2 ≤ sizeLine; decide), fun p hp => ?_⟩⟩
      refine q _ (.divides (1 + x)) _ ((m4.trans m5).new hp) ?_ (.divides _) (Bool.and_eq_true_iff.mpr ⟨hi, Bool.and_eq_true_iff.mpr ⟨decide_eq_true (by omega), decide_eq_true (by omega)⟩⟩)
      rw [Cd.data]
      exact .t2 (.of upd_same) (.str _) (.int _)
  have m3 := m2.ext e3
  have hu3 := hu2.keep (Kt.same e3)
  refine q_when (et_test (ev_isWord (ev_var rfl) hu3 hk (by omega))) (fun hw H4 e4 => ?_) (fun hw H4 e4 => ?_)
  · have m4 := m3.ext e4
    refine ⟨by decide, fun p hp => ?_⟩
    have m5 := m4.new (o := .lst [.str "ab", .str "c", .str "zz"]) hp
    have npb : p ≠ b := (m4.2.neb hp).1
    refine ⟨_, rfl, b, d, 3, rfl, m5.2, by decide, fun x H6 x0 x1 m6 => ?_⟩
    have hl : SqL K H6 p [.str "ab", .str "c", .str "zz"] := m6.sql npb (.of upd_same)
    have done : ∀ (s : Str), SeqAt.shaped (.str s) = true → s.length ≤ 1000 → isWord s = true → ∀ p2, H6 p2 = none → Q (.ref p2) (upd H6 p2 (.tup [.str "is", .str s])) := fun s h1 h2 h3 p2 hp2 => by
      refine q _ (.is s) _ ((m5.trans m6).new hp2) ?_ (.is h1 h2) (Bool.and_eq_true_iff.mpr ⟨hw, h3⟩)
      rw [Cd.data]
      exact .t2 (.of upd_same) (.str _) (.str _)
    rcases (by omega : x = 0 ∨ x = 1 ∨ x = 2) with rfl | rfl | rfl
    · exact ⟨p, _, 0, .str "ab", rfl, rfl, hl, rfl, (by show 2 ≤ sizeLine; decide), done "ab" (by decide +kernel) (by decide +kernel) (by decide +kernel)⟩
    · exact ⟨p, _, 1, .str "c", rfl, rfl, hl, rfl, (by show 2 ≤ sizeLine; decide), done "c" (by decide +kernel) (by decide +kernel) (by decide +kernel)⟩
    · exact ⟨p, _, 2, .str "zz", rfl, rfl, hl, rfl, (by show 2 ≤ sizeLine; decide), done "zz" (by decide +kernel) (by decide +kernel) (by decide +kernel)⟩
  have m4 := m3.ext e4
  have hu4 := hu3.keep (Kt.same e4)
  cases kd with
  | int => cases hi
  | word => cases hw
  | tup ks =>
    have hu5 := hu4
    rw [Kd.data] at hu5
    obtain ⟨a, y0, y1, rfl, ha, h0, h1⟩ := hu5.g2
    cases h0.str_inv
    obtain ⟨c, rfl⟩ := h1.ref
    obtain ⟨ys, hys, hyl, hyi⟩ := h1.get
    have hyk : ys.length = ks.length := by rw [hyl, dataAll_map, List.length_map]
    have hkp : 0 < ks.length ∧ ∀ j ∈ ks, NeK j := by cases hne with | tup h1 _ h2 _ => exact ⟨h1, h2⟩
    have hm2 : ∀ j ∈ ks, OkK (m - 1) j := by cases hk with | tup _ h => exact h
    refine q_when (b := true) (et_is (et_test (ev_op (ev_ixT (j := 0) (ev_var rfl) ev_c ha rfl) ev_c (rv_eq rfl))) (by decide +kernel)) (fun _ H5 e5 => ?_) (fun h => Bool.noConfusion h)
    have m5 := m4.ext e5
    refine ⟨_, rfl, _, rfl, a, _, 1, .ref c, rfl, rfl, ex_t e5 ha, rfl, c, _, rfl, .inr (ex_t e5 hys), b, d, (ys.length : Int), rfl, m5.2, by omega, fun x H6 x0 x1 m6 => ?_⟩
    obtain ⟨j, rfl⟩ := Int.eq_ofNat_of_zero_le x0
    have hj : j < ks.length := by omega
    have hyd : (dataAll ks)[j]? = some (ks.getD j .int).data := by rw [dataAll_map, List.getElem?_map, getD_at (a0 := Kd.int) hj]; rfl
    have hyj : ys[j]? = some (ys.getD j .non) := getD_at (by omega)
    have k6 : Kt K H4 H6 := (Kt.same e5).trans (m6.kt m5.2)
    refine ⟨_, rfl, _, rfl, _, rfl, a, _, 1, .ref c, rfl, rfl, k6 _ _ ha, rfl, _, rfl, c, _, _, _, rfl, rfl, k6 _ _ hys, atI_nat hyj, b, d, _, ks.getD j .int, 0, m - 1, rfl, m6.2, (hyi _ _ _ hyj hyd).keep k6, hm2 _ (List.mem_of_getElem? (getD_at hj)), hkp.2 _ (List.mem_of_getElem? (getD_at hj)), by omega, by omega, fun v cc H7 m7 hv hc hfc => ⟨(by show 3 ≤ sizeLine; decide), fun p hp => ?_⟩⟩
    refine q _ (.item j cc) _ (((m5.trans m6).trans m7).new hp) ?_ (.item _ hc) (item_fits hj hfc)
    rw [Cd.data]
    exact .t3 (.of upd_same) (.str _) (.int _) (hv.keep (Kt.new hp))
  | lst kj =>
    have hu5 := hu4
    rw [Kd.data] at hu5
    obtain ⟨a, y0, y1, rfl, ha, h0, h1⟩ := hu5.g2
    cases h0.str_inv
    have hkj : OkK (m - 1) kj := by cases hk with | lst h => exact h
    have hnj : NeK kj := by cases hne with | lst h => exact h
    have hmj := hkj.pos
    refine q_when (b := false) (et_is (et_test (ev_op (ev_ixT (j := 0) (ev_var rfl) ev_c ha rfl) ev_c (rv_eq rfl))) (by decide +kernel)) (fun h => Bool.noConfusion h) (fun _ H5 e5 => ?_)
    have m5 := m4.ext e5
    -- _law_limit(box, 'int', 0)
    refine q_when (b := PyData.eqv (Kd.lst kj).data (Kd.lst Kd.int).data && decide (r < 3)) (et_and (et_test (ev_opU (xs := [.str "list", .str "int"]) (ev_var rfl) (eu_tup (ea_cons ev_c (ea_cons ev_c ea_nil)) (by show 2 ≤ 100000; decide)) fun p Hx hp ex => rv_eqD (hu4.keep (Kt.same (e5.trans ex))) (by rw [Kd.data, Kd.data]; exact .t2 (.of hp) (.str _) (.str _)) sk (OkK.shaped (n := 2) (.lst .int) (by omega)))) (fun _ => et_test (ev_op (ev_var rfl) ev_c rv_I0))) (fun hb3 H6 e6 => ?_) (fun hb3 H6 e6 => ?_)
    · have hr3 : r < 3 := of_decide_eq_true (Bool.and_eq_true_iff.mp hb3).2
      have hji : kj.isInt = true := lst_int (Bool.and_eq_true_iff.mp hb3).1
      have m6 := m5.ext e6
      refine ⟨by decide, fun p1 hp1 => ⟨by decide, fun p2 hp2 => ?_⟩⟩
      have e7 := (same_new (o := .tup [.str "rising"]) hp1).trans (same_new (o := .tup [.str "different"]) hp2)
      have m7 := m6.ext e7
      refine ⟨_, rfl, b, d, .str "int", .int, 0, 1, rfl, m7.2, int_data, .int, .int, by omega, by omega, fun v cc H8 m8 hv hc hfc => ⟨(by show 2 ≤ sizeLine; decide), fun p3 hp3 => ⟨(by show 3 ≤ sizeLine; decide), fun p4 hp4 => ?_⟩⟩⟩
      have e9 := (same_new (o := .tup [.str "sum", v]) hp3).trans (same_new (o := .lst [.ref p1, .ref p2, .ref p3]) hp4)
      have m9 := (m7.trans m8).ext e9
      have n1 : p1 ≠ b := (m6.2.neb hp1).1
      have n2 : p2 ≠ b := ((m6.ext (same_new hp1)).2.neb hp2).1
      have t1 := e9 _ _ (m8.1 _ _ n1 ((same_new (o := .tup [.str "different"]) hp2) _ _ (upd_same (H := H6) (a := p1) (o := .tup [.str "rising"]))))
      have t2 := e9 _ _ (m8.1 _ _ n2 (upd_same (H := upd H6 p1 (.tup [.str "rising"])) (a := p2) (o := .tup [.str "different"])))
      have t3 := (same_new (o := .lst [.ref p1, .ref p2, .ref p3]) hp4) _ _ (upd_same (H := H8) (a := p3) (o := .tup [.str "sum", v]))
      refine ⟨_, rfl, p4, [.ref p1, .ref p2, .ref p3], r, ?_⟩
      rcases (by omega : r = 0 ∨ r = 1 ∨ r = 2) with rfl | rfl | rfl
      · exact ⟨.ref p1, rfl, rfl, .of upd_same, rfl, q _ .rising _ m9 (by rw [Cd.data]; exact .t1 (.of t1) (.str _)) .rising hji⟩
      · exact ⟨.ref p2, rfl, rfl, .of upd_same, rfl, q _ .different _ m9 (by rw [Cd.data]; exact .t1 (.of t2) (.str _)) .different rfl⟩
      · exact ⟨.ref p3, rfl, rfl, .of upd_same, rfl, q _ (.sum cc) _ m9 (by rw [Cd.data]; exact .t2 (.of t3) (.str _) (hv.keep (Kt.same e9))) (.sum hc) (Bool.and_eq_true_iff.mpr ⟨hji, hfc⟩)⟩
    have m6 := m5.ext e6
    refine q_when (et_test (ev_op (ev_var rfl) ev_c (rv_eq rfl))) (fun _ H7 e7 => ?_) (fun _ H7 e7 => ?_)
    · refine ⟨by decide, fun p hp => ?_⟩
      exact q _ .different _ ((m6.ext e7).new hp) (by rw [Cd.data]; exact .t1 (.of upd_same) (.str _)) .different rfl
    have m7 := m6.ext e7
    refine q_when (et_test (ev_op (ev_var rfl) ev_c (rv_eq rfl))) (fun _ H8 e8 => ?_) (fun _ H8 e8 => ?_)
    · have m8 := m7.ext e8
      refine ⟨_, rfl, b, d, .str "int", .int, 0, 1, rfl, m8.2, int_data, .int, .int, by omega, by omega, fun v cc H9 m9 hv hc hfc => ⟨(by show 2 ≤ sizeLine; decide), fun p hp => ?_⟩⟩
      exact q _ (.size cc) _ ((m8.trans m9).new hp) (by rw [Cd.data]; exact .t2 (.of upd_same) (.str _) (hv.keep (Kt.new hp))) (.size hc) hfc
    have m8 := m7.ext e8
    refine ⟨by decide, fun p hp => ?_⟩
    have e9 := same_new (o := .lst [.str "every", .str "some"]) hp
    have m9 := m8.ext e9
    have e59 := e5.trans (e6.trans (e7.trans (e8.trans e9)))
    refine ⟨_, rfl, _, _, rfl, rfl, (by show (0 : Int) < 2; decide), p, [.str "every", .str "some"], r % 2, ?_⟩
    rcases (by omega : r % 2 = 0 ∨ r % 2 = 1) with hr2 | hr2
    · refine ⟨.str "every", rfl, rfl, .of upd_same, (by rw [hr2]; rfl), _, rfl, _, rfl, a, _, 1, _, rfl, rfl, ex_t e59 ha, rfl, b, d, _, kj, 0, m - 1, rfl, m9.2, h1.keep (Kt.same e59), hkj, hnj, by omega, by omega, fun v cc Hb mb hv hc hfc => ⟨(by show 2 ≤ sizeLine; decide), fun p2 hp2 => ?_⟩⟩
      exact q _ (.every cc) _ ((m9.trans mb).new hp2) (by rw [Cd.data]; exact .t2 (.of upd_same) (.str _) (hv.keep (Kt.new hp2))) (.every hc) hfc
    · refine ⟨.str "some", rfl, rfl, .of upd_same, (by rw [hr2]; rfl), _, rfl, _, rfl, a, _, 1, _, rfl, rfl, ex_t e59 ha, rfl, b, d, _, kj, 0, m - 1, rfl, m9.2, h1.keep (Kt.same e59), hkj, hnj, by omega, by omega, fun v cc Hb mb hv hc hfc => ⟨(by show 2 ≤ sizeLine; decide), fun p2 hp2 => ?_⟩⟩
      exact q _ (.some_ cc) _ ((m9.trans mb).new hp2) (by rw [Cd.data]; exact .t2 (.of upd_same) (.str _) (hv.keep (Kt.new hp2))) (.some_ hc) hfc
end
end K4
namespace K4
open PySem PySem.Spec PyProof.Rows L2 Evl Cr CrT
section
variable {P : Program} {w : World} {K : PySem.W.Frag} {mg : Str → Option Value} {base : Heap}
abbrev s__law_gen : Stmt := topS 31
abbrev N__law_gen : List Str := ["box", "kind", "depth", "which", "some", "low", "least", "j", "part"]
theorem sc__law_gen : FnScope N__law_gen ["box", "kind", "depth"] (defScope s__law_gen) := ⟨rfl, rfl, rfl, by decide +kernel, rfl, by decide +kernel, by decide +kernel⟩
theorem ok__law_gen {f : Addr} {fd : FuncData} {N : Nat} (T : Tx mg) (F : Fun K "_law_gen" "_law_gen" s__law_gen f fd) (c__law_take : Cl P w K mg base "_law_take" ["box", "many"] 1 spTake) (c__law_limit : Cl P w K mg base "_law_limit" ["box", "kind", "depth"] 6 (spLLimit2 K 5))
    (c__law_gen : Cl P w K mg base "_law_gen" ["box", "kind", "depth"] (N + 7) (spLGen K N)) : FnOk P w K mg base CX0 (N + 7 + 1) f fd ["box", "kind", "depth"] (spLGen K (N + 1)) := by
  refine F.ok sc__law_gen (fun vs H Q E h => ?_) (fun cdv A outer s H vs Q E hr h => ?_)
  · obtain ⟨b, d, u, kd, n, m, rfl, _⟩ := h
    rfl
  obtain ⟨b, d, u, kd, n, m, rfl, hB, hu, hk, hne, hnm, hn4, hm4, q⟩ := h
  have up : 0 < n → ∀ {z : Nat}, z ≤ 2 ^ (n - 1) * baseK kd → z ≤ 2 ^ n * baseK kd := fun h0 _ hz => Nat.le_trans hz (pow_up h0 _)
  have upC : 0 < n → ∀ {g : Gn}, CapG (2 ^ (n - 1) * baseK kd) g → CapG (2 ^ n * baseK kd) g := fun h0 _ hz => hz.mono (pow_up h0 _)
  refine ⟨_, (pss_cons (ps_set (i := 3) sc__law_gen.nd rfl (Or.inl rfl) (pe_call c__law_take.ok (hr.mono (by omega)) (by rfl) c__law_take.m c__law_take.kp c__law_take.b .nil pass0 (pa_cons (pv 0) (pa_cons pe_int pa_nil))))
      (pss_cons (ps_if (PW.pt (pw_and (pt_cmpR op_gt (pv 2) pe_int (nomark _)) (pw_and1 (pt_cmpR op_eq (pv 3) pe_int (nomark _))))) (pss_one (ps_ret (pe_tup (pa_cons pe_str (pa_cons (pe_callTy call_tuple_of (by rfl) T.z_tuple (by decide +kernel) (pa_cons (pe_lc (own := [("j", 7)]) (g := gName 7) (by rfl) sc__law_gen.nd (pi_range1 (by rfl) T.z_range (pa_cons (pe_op op_add pe_int (pe_call c__law_take.ok (hr.mono (by omega)) (by rfl) c__law_take.m c__law_take.kp c__law_take.b .nil pass0 (pa_cons (pv 0) (pa_cons pe_int pa_nil)))) pa_nil)) (blkOk_by (own := [("j", 7)]) (N := N__law_gen) (sc := defScope s__law_gen) (by decide +kernel)) (fun _ _ _ _ _ => (pg_name (i := 7) sc__law_gen.nd rfl (Or.inl rfl))) (fun _ _ _ _ _ => pts_nil) (fun _ _ _ _ _ => (pe_call c__law_gen.ok (hr.mono (by omega)) (by rfl) c__law_gen.m c__law_gen.kp c__law_gen.b .nil pass0 (pa_cons (pv 0) (pa_cons (pv 1) (pa_cons (pe_op op_sub (pv 2) pe_int) pa_nil)))))) pa_nil)) pa_nil))))) pss_nil)
      (pss_cons (ps_if (PW.pt (pw_and (pt_cmpR op_gt (pv 2) pe_int (nomark _)) (pw_and1 (pt_cmpR op_eq (pv 3) pe_int (nomark _))))) (pss_one (ps_ret (pe_tup (pa_cons pe_str (pa_cons (pe_call c__law_gen.ok (hr.mono (by omega)) (by rfl) c__law_gen.m c__law_gen.kp c__law_gen.b .nil pass0 (pa_cons (pv 0) (pa_cons (pv 1) (pa_cons (pe_op op_sub (pv 2) pe_int) pa_nil)))) (pa_cons (pe_call c__law_limit.ok (hr.mono (by omega)) (by rfl) c__law_limit.m c__law_limit.kp c__law_limit.b .nil pass0 (pa_cons (pv 0) (pa_cons (pv 1) (pa_cons pe_int pa_nil)))) pa_nil)))))) pss_nil)
      (pss_cons (ps_if (pt_cmpR (op_eqD hr.units) (pv 1) pe_str (nomark _)) (pss_cons (ps_if (PW.pt (pw_and (pt_cmpR op_gt (pv 2) pe_int (nomark _)) (pw_and1 (pt_cmpR op_in_seq (pv 3) (pe_lst (pa_cons pe_int (pa_cons pe_int (pa_cons pe_int pa_nil)))) (by rfl))))) (pss_cons (ps_set (i := 4) sc__law_gen.nd rfl (Or.inl rfl) (pe_ix (r := rIxL K) ix_list (pe_lst (pa_cons (pe_tup (pa_cons pe_str (pa_cons (pe_op op_sub (pe_call c__law_take.ok (hr.mono (by omega)) (by rfl) c__law_take.m c__law_take.kp c__law_take.b .nil pass0 (pa_cons (pv 0) (pa_cons pe_int pa_nil))) pe_int) pa_nil))) (pa_cons (pe_tup (pa_cons pe_str (pa_cons (pe_op op_sub (pe_call c__law_take.ok (hr.mono (by omega)) (by rfl) c__law_take.m c__law_take.kp c__law_take.b .nil pass0 (pa_cons (pv 0) (pa_cons pe_int pa_nil))) pe_int) pa_nil))) (pa_cons (pe_tup (pa_cons pe_str pa_nil)) pa_nil)))) (pe_op op_sub (pv 3) pe_int) (fun _ _ => rfl)))
          (pss_cons (ps_if (pt_cmpR op_eq (pv 3) pe_int (nomark _)) (pss_one (ps_ret (pe_tup (pa_cons pe_str (pa_cons (pe_tup (pa_cons pe_str (pa_cons (pe_tup (pa_cons pe_str (pa_cons pe_int (pa_cons pe_int pa_nil)))) (pa_cons pe_int (pa_cons pe_int pa_nil))))) (pa_cons (pe_ix (r := rIxL K) ix_list (pe_lst (pa_cons (pe_tup (pa_cons pe_str pa_nil)) (pa_cons (pe_tup (pa_cons pe_str pa_nil)) pa_nil))) (pe_call c__law_take.ok (hr.mono (by omega)) (by rfl) c__law_take.m c__law_take.kp c__law_take.b .nil pass0 (pa_cons (pv 0) (pa_cons pe_int pa_nil))) (fun _ _ => rfl)) pa_nil)))))) pss_nil)
          (pss_one (ps_ret (pe_tup (pa_cons pe_str (pa_cons (pe_call c__law_gen.ok (hr.mono (by omega)) (by rfl) c__law_gen.m c__law_gen.kp c__law_gen.b .nil pass0 (pa_cons (pv 0) (pa_cons pe_str (pa_cons (pe_op op_sub (pv 2) pe_int) pa_nil)))) (pa_cons (pv 4) pa_nil)))))))) pss_nil)
        (pss_cons (ps_set (i := 5) sc__law_gen.nd rfl (Or.inl rfl) (pe_op op_sub (pe_call c__law_take.ok (hr.mono (by omega)) (by rfl) c__law_take.m c__law_take.kp c__law_take.b .nil pass0 (pa_cons (pv 0) (pa_cons pe_int pa_nil))) pe_int))
        (pss_one (ps_ret (pe_tup (pa_cons pe_str (pa_cons (pv 5) (pa_cons (pe_op op_add (pv 5) (pe_call c__law_take.ok (hr.mono (by omega)) (by rfl) c__law_take.m c__law_take.kp c__law_take.b .nil pass0 (pa_cons (pv 0) (pa_cons pe_int pa_nil)))) pa_nil)))))))) pss_nil)
      (pss_cons (ps_if (pt_cmpR (op_eqD hr.units) (pv 1) pe_str (nomark _)) (pss_one (ps_ret (pe_tup (pa_cons pe_str (pa_cons (pe_slice (r := rSlA K) sl_tupA (pe_tup (pa_cons pe_str (pa_cons pe_str (pa_cons pe_str pa_nil)))) po_none (po_some (pe_op op_add pe_int (pe_call c__law_take.ok (hr.mono (by omega)) (by rfl) c__law_take.m c__law_take.kp c__law_take.b .nil pass0 (pa_cons (pv 0) (pa_cons pe_int pa_nil)))))) pa_nil))))) pss_nil)
      (pss_cons (ps_if (pt_cmpR op_eq (pe_ix (r := rIxT K) ix_tup (pv 1) pe_int (fun _ _ => rfl)) pe_str (nomark _)) (pss_one (ps_ret (pe_tup (pa_cons pe_str (pa_cons (pe_callTy call_tuple_of (by rfl) T.z_tuple (by decide +kernel) (pa_cons (pe_lc (own := [("part", 8)]) (g := gName 8) (by rfl) sc__law_gen.nd (pi_tup (pe_ix (r := rIxT K) ix_tup (pv 1) pe_int (fun _ _ => rfl))) (blkOk_by (own := [("part", 8)]) (N := N__law_gen) (sc := defScope s__law_gen) (by decide +kernel)) (fun _ _ _ _ _ => (pg_name (i := 8) sc__law_gen.nd rfl (Or.inl rfl))) (fun _ _ _ _ _ => pts_nil) (fun _ _ _ _ _ => (pe_call c__law_gen.ok (hr.mono (by omega)) (by rfl) c__law_gen.m c__law_gen.kp c__law_gen.b .nil pass0 (pa_cons (pv 0) (pa_cons (pv 8) (pa_cons pe_int pa_nil)))))) pa_nil)) pa_nil))))) pss_nil)
      (pss_cons (ps_if (PW.pt (pw_and (pt_cmpR op_eq (pv 3) pe_int (nomark _)) (pw_and1 (pt_cmpR op_gt (pv 2) pe_int (nomark _))))) (pss_one (ps_ret (pe_tup (pa_cons pe_str (pa_cons (pe_call c__law_gen.ok (hr.mono (by omega)) (by rfl) c__law_gen.m c__law_gen.kp c__law_gen.b .nil pass0 (pa_cons (pv 0) (pa_cons (pv 1) (pa_cons (pe_op op_sub (pv 2) pe_int) pa_nil)))) (pa_cons (pe_tup (pa_cons pe_str pa_nil)) pa_nil)))))) pss_nil)
      (pss_cons (ps_if (PW.pt (pw_and (pt_cmpR op_eq (pv 3) pe_int (nomark _)) (pw_and (pt_cmpR op_gt (pv 2) pe_int (nomark _)) (pw_and1 (pt_cmpR (op_inD (Cr.Room.u65 hr)) (pe_ix (r := rIxT K) ix_tup (pv 1) pe_int (fun _ _ => rfl)) (pe_lst (pa_cons pe_str (pa_cons pe_str pa_nil))) (by rfl)))))) (pss_one (ps_ret (pe_tup (pa_cons pe_str (pa_cons (pe_call c__law_gen.ok (hr.mono (by omega)) (by rfl) c__law_gen.m c__law_gen.kp c__law_gen.b .nil pass0 (pa_cons (pv 0) (pa_cons (pv 1) (pa_cons (pe_op op_sub (pv 2) pe_int) pa_nil)))) (pa_cons (pe_tup (pa_cons pe_str pa_nil)) pa_nil)))))) pss_nil)
      (pss_cons (ps_if (pt_cmpR op_eq (pv 3) pe_int (nomark _)) (pss_one (ps_ret (pe_tup (pa_cons pe_str (pa_cons (pe_tup (pa_cons pe_str (pa_cons (pe_op op_sub (pe_call c__law_take.ok (hr.mono (by omega)) (by rfl) c__law_take.m c__law_take.kp c__law_take.b .nil pass0 (pa_cons (pv 0) (pa_cons pe_int pa_nil))) pe_int) (pa_cons (pe_op op_add pe_int (pe_call c__law_take.ok (hr.mono (by omega)) (by rfl) c__law_take.m c__law_take.kp c__law_take.b .nil pass0 (pa_cons (pv 0) (pa_cons pe_int pa_nil)))) pa_nil)))) (pa_cons (pe_call c__law_gen.ok (hr.mono (by omega)) (by rfl) c__law_gen.m c__law_gen.kp c__law_gen.b .nil pass0 (pa_cons (pv 0) (pa_cons (pe_ix (r := rIxT K) ix_tup (pv 1) pe_int (fun _ _ => rfl)) (pa_cons pe_int pa_nil)))) pa_nil)))))) pss_nil)
      (pss_cons (ps_set (i := 6) sc__law_gen.nd rfl (Or.inl rfl) (pe_call c__law_take.ok (hr.mono (by omega)) (by rfl) c__law_take.m c__law_take.kp c__law_take.b .nil pass0 (pa_cons (pv 0) (pa_cons pe_int pa_nil))))
      (pss_one (ps_ret (pe_tup (pa_cons pe_str (pa_cons (pe_call c__law_gen.ok (hr.mono (by omega)) (by rfl) c__law_gen.m c__law_gen.kp c__law_gen.b .nil pass0 (pa_cons (pv 0) (pa_cons (pe_ix (r := rIxT K) ix_tup (pv 1) pe_int (fun _ _ => rfl)) (pa_cons (pe_callB (call_max2 rfl) (by rfl) T.z_max (by decide +kernel) (pa_cons pe_int (pa_cons (pe_op op_sub (pv 2) pe_int) pa_nil))) pa_nil)))) (pa_cons (pv 6) (pa_cons (pe_op op_add (pv 6) (pe_call c__law_take.ok (hr.mono (by omega)) (by rfl) c__law_take.m c__law_take.kp c__law_take.b .nil pass0 (pa_cons (pv 0) (pa_cons (pe_op op_sub pe_int (pv 6)) pa_nil)))) pa_nil))))))))))))))))), ?_⟩
  have hmp := hk.pos
  refine ⟨_, rfl, b, d, 10, rfl, hB, by decide, fun r H1 r0 r1 m1 => ?_⟩
  -- one
  refine q_when (et_and (et_test (ev_op (ev_var rfl) ev_c rv_I0)) (fun _ => et_test (ev_op (ev_var rfl) ev_c (rv_eq rfl)))) (fun hb H2 e2 => ?_) (fun _ H2 e2 => ?_)
  · have hn0 : (n : Int) > 0 := of_decide_eq_true (Bool.and_eq_true_iff.mp hb).1
    have en : (n : Int) - 1 = ((n - 1 : Nat) : Int) := by omega
    have m2 := m1.ext e2
    refine ⟨_, rfl, b, d, 2, rfl, m2.2, by decide, fun x H3 x0 x1 m3 => ⟨1, x, rfl, rfl, 1 + x, rfl, by omega, by omega, fun D hD => ?_⟩⟩
    have m23 := m2.trans m3
    have nDb : D ≠ b := (m23.2.neb hD).1
    have hu3 := hu.keep (m23.kt hB)
    refine lc_range (lo := 0) (n := (1 + x).toNat) (fun i H' => ∃ (vs : List V) (gs : List Gn), H' D = some (.lst vs) ∧ vs.length = i ∧ Vds K H' vs (gs.map Gn.data) ∧ (∀ g ∈ gs, OkG (N + 1) g ∧ GenK g kd ∧ CapG (2 ^ (n - 1) * baseK kd) g) ∧ Mv b d H3 H') ⟨[], [], upd_same, rfl, .nil, fun _ h => (nomatch h), (Mv.refl m23.2).new hD⟩ (fun i H5 hi hP => ⟨rfl, ?_⟩) (fun H5 hP => ?_)
    · obtain ⟨vs, gs, hDv, hl, hvs, hgs, m5⟩ := hP
      refine ⟨_, rfl, _, rfl, _, rfl, _, _, rfl, rfl, b, d, u, kd, n - 1, m, (by rw [← en]; rfl), m5.2, hu3.keep (m5.kt m23.2), hk, hne, by omega, by omega, hm4, fun v g H6 m6 hv hg hgk hcn => ⟨vs, m6.1 _ _ nDb hDv, small1000 (by omega), vs ++ [v], gs ++ [g], upd_same, by rw [List.length_append, hl]; rfl, ?_, ?_, (m5.trans m6).mut m23.2 hD⟩⟩
      · rw [List.map_append]
        exact ((hvs.keep (m6.kt m5.2)).snoc hv).keep (Kt.lst (m6.1 _ _ nDb hDv))
      · intro g' hg'
        rcases List.mem_append.mp hg' with h | h
        · exact hgs g' h
        · cases List.mem_singleton.mp h
          exact ⟨hg, hgk, hcn⟩
    · obtain ⟨vs, gs, hDv, hl, hvs, hgs, m5⟩ := hP
      have hgl : gs.length = (1 + x).toNat := by have h := hvs.1; rw [List.length_map] at h; omega
      refine ⟨D, vs, rfl, .inl ⟨.of hDv, fun l hl' => ⟨len2, fun p hp => ?_⟩⟩⟩
      have e5 := (same_new (o := .tup vs) hl').trans (same_new (o := .tup [.str "one", .ref l]) hp)
      refine q _ (.one gs) _ ((m23.trans m5).ext e5) ?_ (.one (by omega) fun g hg => (hgs g hg).1) (.one (by omega) (by omega) fun g hg => (hgs g hg).2.1) (.one (fun g hg => upC (by omega) (hgs g hg).2.2) (one_le (by omega) (by omega) fun g hg => (hgs g hg).2.2.cnt))
      rw [Gn.data, gnAll_map]
      exact .t2 (.of upd_same) (.str _) ((hvs.keep (Kt.same e5)).tup (ex_t (same_new hp) (.of upd_same)))
  -- kept
  have m2 := m1.ext e2
  refine q_when (et_and (et_test (ev_op (ev_var rfl) ev_c rv_I0)) (fun _ => et_test (ev_op (ev_var rfl) ev_c (rv_eq rfl)))) (fun hb H3 e3 => ?_) (fun _ H3 e3 => ?_)
  · have hn0 : (n : Int) > 0 := of_decide_eq_true (Bool.and_eq_true_iff.mp hb).1
    have en : (n : Int) - 1 = ((n - 1 : Nat) : Int) := by omega
    have m3 := m2.ext e3
    refine ⟨_, rfl, _, rfl, _, rfl, _, _, rfl, rfl, b, d, u, kd, n - 1, m, (by rw [← en]; rfl), m3.2, hu.keep (m3.kt hB), hk, hne, by omega, by omega, hm4, fun v g H4 m4 hv hg hgk hcn => ?_⟩
    have m34 := m3.trans m4
    refine ⟨_, rfl, _, rfl, b, d, u, kd, 1, m, rfl, m34.2, hu.keep (m34.kt hB), hk, hne, by omega, by omega, fun w c H5 m5 hw hc hf => ⟨len3, fun p hp => ?_⟩⟩
    refine q _ (.kept g c) _ ((m34.trans m5).new hp) ?_ (.kept hg (hc.mono (by omega))) (.kept hgk hf) (.kept (upC (by omega) hcn) (by rw [cntG]; exact up (by omega) hcn.cnt))
    rw [Gn.data]
    exact .t3 (.of upd_same) (.str _) ((hv.keep (m5.kt m34.2)).keep (Kt.new hp)) (hw.keep (Kt.new hp))
  have m3 := m2.ext e3
  have hu3 := hu.keep (m3.kt hB)
  have sk := OkK.shaped hk (by omega)
  -- int
  refine q_when (et_test (ev_isInt (ev_var rfl) hu3 hk (by omega))) (fun hi H4 e4 => ?_) (fun hi H4 e4 => ?_)
  · cases isInt_of hi
    have m4 := m3.ext e4
    refine q_when (b := decide ((n : Int) > 0) && inV (.int r) [.int 5, .int 6, .int 7]) (et_and (et_test (ev_op (ev_var rfl) ev_c rv_I0)) (fun _ => et_test (ev_opL (ev_var rfl) (el_lst (ea_cons ev_c (ea_cons ev_c (ea_cons ev_c ea_nil))) (by show 3 ≤ 100000; decide)) fun p Hx hp ex => rv_isL (sq_of hp) rfl rfl))) (fun hb H5 e5 => ?_) (fun _ H5 e5 => ?_)
    · have hn0 : (n : Int) > 0 := of_decide_eq_true (Bool.and_eq_true_iff.mp hb).1
      have hr : r = 5 ∨ r = 6 ∨ r = 7 := by
        have h := (Bool.and_eq_true_iff.mp hb).2
        simp [inV, eqV] at h
        omega
      have en : (n : Int) - 1 = ((n - 1 : Nat) : Int) := by omega
      have m5 := m4.ext e5
      refine ⟨_, rfl, b, d, 9, rfl, m5.2, by decide, fun x H6 x0 x1 m6 => ⟨_, _, rfl, rfl, len2, fun p1 hp1 => ?_⟩⟩
      have m7 := (m5.trans m6).new (o := .tup [.str "plus", .int (x - 4)]) hp1
      have n1 : p1 ≠ b := ((m5.trans m6).2.neb hp1).1
      refine ⟨_, rfl, b, d, 5, rfl, m7.2, by decide, fun y H8 y0 y1 m8 => ⟨_, _, rfl, rfl, len2, fun p2 hp2 => ⟨len1, fun p3 hp3 => ⟨len3, fun p4 hp4 => ?_⟩⟩⟩⟩
      have s1 := same_new (o := .tup [.str "times", .int (y - 2)]) hp2
      have s2 := same_new (o := .tup [.str "length"]) hp3
      have s3 := same_new (o := .lst [.ref p1, .ref p2, .ref p3]) hp4
      have t1 := (s1.trans (s2.trans s3)) _ _ (m8.1 _ _ n1 (upd_same (H := H6) (a := p1) (o := .tup [.str "plus", .int (x - 4)])))
      have t2 := (s2.trans s3) _ _ (upd_same (H := H8) (a := p2) (o := .tup [.str "times", .int (y - 2)]))
      have m9 := (m7.trans m8).ext (s1.trans (s2.trans s3))
      have t4 := upd_same (H := upd (upd H8 p2 (.tup [.str "times", .int (y - 2)])) p3 (.tup [.str "length"])) (a := p4) (o := .lst [.ref p1, .ref p2, .ref p3])
      refine ⟨_, rfl, _, _, rfl, rfl, p4, [.ref p1, .ref p2, .ref p3], r - 5, ?_⟩
      generalize upd (upd (upd H8 p2 (.tup [.str "times", .int (y - 2)])) p3 (.tup [.str "length"])) p4 (.lst [.ref p1, .ref p2, .ref p3]) = H9 at t1 t2 t4 m9 ⊢
      have hu9 := hu.keep (m9.kt hB)
      rcases hr with rfl | rfl | rfl
      · refine ⟨.ref p1, rfl, rfl, .of t4, rfl, ?_⟩
        refine q_when (b := false) (et_is (et_test (ev_op (ev_var rfl) ev_c (rv_eq rfl))) (by decide)) (fun h => Bool.noConfusion h) (fun _ Ha ea => ?_)
        refine ⟨_, rfl, _, rfl, _, _, rfl, rfl, b, d, .str "int", .int, n - 1, 1, (by rw [← en]; rfl), (m9.ext ea).2, int_data, .int, .int, by omega, by omega, by omega, fun v g Hb mb hv hg hgk hcn => ⟨_, rfl, len3, fun p hp => ?_⟩⟩
        refine q _ (.turned g (.plus (x - 4))) _ (((m9.ext ea).trans mb).new hp) ?_ (.turned _ hg) (.turned hgk (by
          show (if Kd.int.isInt && (decide (-1000 ≤ x - 4) && decide (x - 4 ≤ 1000)) then some Kd.int else none) = some .int
          rw [decide_eq_true (show -1000 ≤ x - 4 by omega), decide_eq_true (show x - 4 ≤ 1000 by omega)]
          rfl)) (.turned (upC (by omega) hcn) (by rw [cntG]; exact up (by omega) hcn.cnt))
        rw [Gn.data]
        have k1 : Kt K H9 _ := ((Kt.same ea).trans (mb.kt (m9.ext ea).2)).trans (Kt.new (o := .tup [.str "turned", v, .ref p1]) hp)
        exact .t3 (.of upd_same) (.str _) (hv.keep (Kt.new hp)) (.t2 (k1 _ _ (.of t1)) (.str _) (.int _))
      · refine ⟨.ref p2, rfl, rfl, .of t4, rfl, ?_⟩
        refine q_when (b := false) (et_is (et_test (ev_op (ev_var rfl) ev_c (rv_eq rfl))) (by decide)) (fun h => Bool.noConfusion h) (fun _ Ha ea => ?_)
        refine ⟨_, rfl, _, rfl, _, _, rfl, rfl, b, d, .str "int", .int, n - 1, 1, (by rw [← en]; rfl), (m9.ext ea).2, int_data, .int, .int, by omega, by omega, by omega, fun v g Hb mb hv hg hgk hcn => ⟨_, rfl, len3, fun p hp => ?_⟩⟩
        refine q _ (.turned g (.times (y - 2))) _ (((m9.ext ea).trans mb).new hp) ?_ (.turned _ hg) (.turned hgk (by
          show (if Kd.int.isInt && (decide (-1000 ≤ y - 2) && decide (y - 2 ≤ 1000)) then some Kd.int else none) = some .int
          rw [decide_eq_true (show -1000 ≤ y - 2 by omega), decide_eq_true (show y - 2 ≤ 1000 by omega)]
          rfl)) (.turned (upC (by omega) hcn) (by rw [cntG]; exact up (by omega) hcn.cnt))
        rw [Gn.data]
        have k1 : Kt K H9 _ := ((Kt.same ea).trans (mb.kt (m9.ext ea).2)).trans (Kt.new (o := .tup [.str "turned", v, .ref p2]) hp)
        exact .t3 (.of upd_same) (.str _) (hv.keep (Kt.new hp)) (.t2 (k1 _ _ (.of t2)) (.str _) (.int _))
      · refine ⟨.ref p3, rfl, rfl, .of t4, rfl, ?_⟩
        refine q_when (b := true) (et_is (et_test (ev_op (ev_var rfl) ev_c (rv_eq rfl))) (by decide)) (fun _ Ha ea => ?_) (fun h => Bool.noConfusion h)
        refine ⟨len3, fun g1 hg1 => ⟨len4, fun g2 hg2 => ⟨len1, fun g3 hg3 => ⟨len1, fun g4 hg4 => ⟨len2, fun g5 hg5 => ?_⟩⟩⟩⟩⟩
        have z1 := same_new (o := .tup [.str "int", .int 0, .int 1]) hg1
        have z2 := same_new (o := .tup [.str "list", .ref g1, .int 0, .int 2]) hg2
        have z3 := same_new (o := .tup [.str "length"]) hg3
        have z4 := same_new (o := .tup [.str "sum"]) hg4
        have z5 := same_new (o := .lst [.ref g3, .ref g4]) hg5
        have w1 := (z2.trans (z3.trans (z4.trans z5))) _ _ (upd_same (H := Ha) (a := g1) (o := .tup [.str "int", .int 0, .int 1]))
        have w2 := (z3.trans (z4.trans z5)) _ _ (upd_same (a := g2) (o := .tup [.str "list", .ref g1, .int 0, .int 2]))
        have w3 := (z4.trans z5) _ _ (upd_same (a := g3) (o := .tup [.str "length"]))
        have w4 := z5 _ _ (upd_same (a := g4) (o := .tup [.str "sum"]))
        have w5 := upd_same (H := upd (upd (upd (upd Ha g1 (.tup [.str "int", .int 0, .int 1])) g2 (.tup [.str "list", .ref g1, .int 0, .int 2])) g3 (.tup [.str "length"])) g4 (.tup [.str "sum"])) (a := g5) (o := .lst [.ref g3, .ref g4])
        have mA := (m9.ext ea).ext (z1.trans (z2.trans (z3.trans (z4.trans z5))))
        have n5 : g5 ≠ b := ((m9.ext ea).ext (z1.trans (z2.trans (z3.trans z4)))).2.neb hg5 |>.1
        generalize upd (upd (upd (upd (upd Ha g1 (.tup [.str "int", .int 0, .int 1])) g2 (.tup [.str "list", .ref g1, .int 0, .int 2])) g3 (.tup [.str "length"])) g4 (.tup [.str "sum"])) g5 (.lst [.ref g3, .ref g4]) = HA at w1 w2 w3 w4 w5 mA ⊢
        refine ⟨_, rfl, b, d, 2, rfl, mA.2, by decide, fun z HB z0 z1' mB => ?_⟩
        have kB : Kt K HA HB := mB.kt mA.2
        have gOk : OkG (N + 1 + 1) (.turned (.list (.int 0 1) 0 2) .length) := by
          obtain ⟨N', rfl⟩ : ∃ N', N = N' + 1 := ⟨N - 1, by omega⟩
          exact .turned _ (.list _ _ (.int _ _))
        have gOk2 : OkG (N + 1 + 1) (.turned (.list (.int 0 1) 0 2) .sum) := by
          obtain ⟨N', rfl⟩ : ∃ N', N = N' + 1 := ⟨N - 1, by omega⟩
          exact .turned _ (.list _ _ (.int _ _))
        have seven : ∀ mp, CapG (2 ^ n * baseK .int) (.turned (.list (.int 0 1) 0 2) mp) := fun mp => by
          have e : cntG (.turned (.list (.int 0 1) 0 2) mp) = 7 := by rw [cntG, cntG, cntG]; decide +kernel
          have e2 : cntG (.list (.int 0 1) 0 2) = 7 := by rw [cntG, cntG]; decide +kernel
          have e3 : cntG (.int 0 1) = 2 := by rw [cntG]; decide +kernel
          have h2 := Nat.pow_le_pow_right (show 0 < 2 by decide) (show 1 ≤ n by omega)
          have h3 : 8 ≤ 2 ^ n * baseK .int := by rw [baseK]; omega
          exact .turned (.list (.int (by omega)) (by omega)) (by omega)
        have gk0 : GenK (.list (.int 0 1) 0 2) (.lst .int) := .list (.int (by decide) (by decide) (by decide)) (by decide) (by decide) (by decide)
        have lB : SqL K HB g5 [.ref g3, .ref g4] := mB.sql n5 (.of w5)
        have inner : ∀ (p : Addr) (o : HO) (hp : HB p = none), Vd K (upd HB p o) (.ref g2) (.tuple [.str "list", .tuple [.str "int", .int 0, .int 1], .int 0, .int 2]) := fun p o hp => by
          refine (Vd.tup (kB _ _ (.of w2)) rfl fun i v e h1 h2 => ?_ : Vd K HB (.ref g2) _).keep (Kt.new hp)
          match i with
          | 0 => cases h1; cases h2; exact .str _
          | 1 => cases h1; cases h2; exact .t3 (kB _ _ (.of w1)) (.str _) (.int _) (.int _)
          | 2 => cases h1; cases h2; exact .int _
          | 3 => cases h1; cases h2; exact .int _
          | i + 4 => simp at h1
        rcases (by omega : z = 0 ∨ z = 1) with rfl | rfl
        · refine ⟨g5, _, 0, .ref g3, rfl, rfl, lB, rfl, len3, fun p hp => q _ (.turned (.list (.int 0 1) 0 2) .length) _ ((mA.trans mB).new hp) ?_ gOk (.turned gk0 rfl) (seven _)⟩
          rw [Gn.data, Gn.data, Gn.data, Mp.data]
          exact .t3 (.of upd_same) (.str _) (inner p _ hp) (.t1 ((Kt.new hp) _ _ (kB _ _ (.of w3))) (.str _))
        · refine ⟨g5, _, 1, .ref g4, rfl, rfl, lB, rfl, len3, fun p hp => q _ (.turned (.list (.int 0 1) 0 2) .sum) _ ((mA.trans mB).new hp) ?_ gOk2 (.turned gk0 rfl) (seven _)⟩
          rw [Gn.data, Gn.data, Gn.data, Mp.data]
          exact .t3 (.of upd_same) (.str _) (inner p _ hp) (.t1 ((Kt.new hp) _ _ (kB _ _ (.of w4))) (.str _))
    · have m5 := m4.ext e5
      refine ⟨_, rfl, b, d, 6, rfl, m5.2, by decide, fun x H6 x0 x1 m6 => ⟨_, _, rfl, rfl, ?_⟩⟩
      refine ⟨_, rfl, _, rfl, _, rfl, b, d, 4, rfl, m6.2, by decide, fun y H7 y0 y1 m7 => ⟨_, _, rfl, rfl, len3, fun p hp => ?_⟩⟩
      refine q _ (.int (x - 3) (x - 3 + y)) _ (((m5.trans m6).trans m7).new hp) ?_ (.int _ _) (.int (by omega) (by omega) (by omega)) (.int (by rw [cntG, baseK]; exact four_le n (by omega)))
      rw [Gn.data]
      exact .t3 (.of upd_same) (.str _) (.int _) (.int _)
  have m4 := m3.ext e4
  have hu4 := hu3.keep (Kt.same e4)
  -- word
  refine q_when (et_test (ev_isWord (ev_var rfl) hu4 hk (by omega))) (fun hw H5 e5 => ?_) (fun hw H5 e5 => ?_)
  · cases isWord_of hw
    have m5 := m4.ext e5
    refine ⟨len3, fun p1 hp1 => ?_⟩
    have m6 := m5.new (o := .tup [.str "zz", .str "ab", .str "c"]) hp1
    refine ⟨_, rfl, b, d, 3, rfl, m6.2, by decide, fun x H7 x0 x1 m7 => ⟨1, x, rfl, rfl, 1 + x, rfl, p1, [.str "zz", .str "ab", .str "c"], rfl, m7.kt m6.2 _ _ (.of upd_same), ?_⟩⟩
    have m67 := m6.trans m7
    have done : ∀ (ws : List Str) (r2 : Addr) (H8 : Hp), Same H7 H8 → SqT K H8 r2 (ws.map V.str) → 0 < ws.length → ws.length ≤ 3 → ws.Nodup → (∀ w ∈ ws, SeqAt.shaped (.str w) = true ∧ w.length ≤ 1000 ∧ isWord w = true) →
        [V.str "pick", V.ref r2].length ≤ sizeLine ∧ ∀ p, H8 p = none → Q (.ref p) (upd H8 p (.tup [.str "pick", .ref r2])) := fun ws r2 H8 e8 h8 h0 h3 hnd hws => ⟨len2, fun p hp => by
      refine q _ (.pick ws) _ ((m67.ext e8).new hp) ?_ (.pick (by omega) fun w hw => ⟨(hws w hw).1, (hws w hw).2.1⟩) (.pick h0 (by omega) hnd fun w hw => (hws w hw).2.2) (.pick (by rw [cntG, baseK]; exact four_le n (by omega)))
      rw [Gn.data]
      refine .t2 (.of upd_same) (.str _) (Vd.tup ((Kt.new hp) _ _ h8) (by rw [List.length_map, List.length_map]) fun i v e h1 h2 => ?_)
      rw [List.getElem?_map] at h1 h2
      cases hwi : ws[i]? with
      | none => rw [hwi] at h1; cases h1
      | some w =>
        rw [hwi] at h1 h2
        cases h1
        cases h2
        exact .str w⟩
    have ww : ∀ w ∈ ([("zz" : Str), "ab", "c"] : List Str), SeqAt.shaped (.str w) = true ∧ w.length ≤ 1000 ∧ isWord w = true := by decide +kernel
    rcases (by omega : x = 0 ∨ x = 1 ∨ x = 2) with rfl | rfl | rfl
    · refine ⟨fun hw => absurd hw.2 (by decide), fun _ p2 hp2 => done ["zz"] p2 _ (same_new hp2) (.of upd_same) (by decide) (by decide) (by decide +kernel) fun w hw => ww w ?_⟩
      exact List.mem_of_mem_take (i := 1) hw
    · refine ⟨fun hw => absurd hw.2 (by decide), fun _ p2 hp2 => done ["zz", "ab"] p2 _ (same_new hp2) (.of upd_same) (by decide) (by decide) (by decide +kernel) fun w hw => ww w ?_⟩
      exact List.mem_of_mem_take (i := 2) hw
    · exact ⟨fun hw => done ["zz", "ab", "c"] p1 _ (Ex.refl _) (m7.kt m6.2 _ _ (.of upd_same)) (by decide) (by decide) (by decide +kernel) ww, fun hw => absurd ⟨rfl, rfl⟩ hw⟩
  have m5 := m4.ext e5
  have hu5 := hu4.keep (Kt.same e5)
  cases kd with
  | int => cases hi
  | word => cases hw
  | tup ks =>
    have hu6 := hu5
    rw [Kd.data] at hu6
    obtain ⟨a, y0, y1, rfl, ha, h0, h1⟩ := hu6.g2
    cases h0.str_inv
    obtain ⟨c, rfl⟩ := h1.ref
    obtain ⟨ys, hys, hyl, hyi⟩ := h1.get
    have hyk : ys.length = ks.length := by rw [hyl, dataAll_map, List.length_map]
    have hkn : 0 < ks.length ∧ ks.length ≤ 2 ∧ ∀ j ∈ ks, NeK j := by cases hne with | tup h1 h2 h3 _ => exact ⟨h1, h2, h3⟩
    have hkf : ∀ j ∈ ks, j.isFlat = true := by cases hne with | tup _ _ _ h => exact h
    have hkk : ∀ j ∈ ks, OkK (m - 1) j := by cases hk with | tup _ h => exact h
    refine q_when (b := true) (et_is (et_test (ev_op (ev_ixT (j := 0) (ev_var rfl) ev_c ha rfl) ev_c (rv_eq rfl))) (by decide +kernel)) (fun _ H6 e6 => ?_) (fun h => Bool.noConfusion h)
    have m6 := m5.ext e6
    refine ⟨_, rfl, a, _, 1, .ref c, rfl, rfl, ex_t e6 ha, rfl, c, rfl, ⟨ys, ex_t e6 hys⟩, fun D hD => ?_⟩
    have nDb : D ≠ b := (m6.2.neb hD).1
    refine lc_tup (K := K) (a := c) (xs := ys) (fun i H' => ∃ (vs : List V) (gs : List Gn), H' D = some (.lst vs) ∧ vs.length = i ∧ Vds K H' vs (gs.map Gn.data) ∧ (∀ g ∈ gs, OkG (N + 1) g ∧ CapG 4 g) ∧ (∀ (j : Nat) g k, gs[j]? = some g → ks[j]? = some k → GenK g k) ∧ Mv b d H6 H')
      ⟨[], [], upd_same, rfl, .nil, fun _ h => (nomatch h), fun j g k h _ => by simp at h, (Mv.refl m6.2).new hD⟩ (fun i H' _ ⟨_, _, _, _, _, _, _, m⟩ => m.kt m6.2 _ _ (ex_t e6 hys)) (fun i y H7 hy hP => ⟨rfl, ?_⟩) (fun H7 hP => ?_)
    · obtain ⟨vs, gs, hDv, hl, hvs, hgs, hgk, m7⟩ := hP
      have hi6 : i < ks.length := by have := (List.getElem?_eq_some_iff.mp hy).1; omega
      have hgl : gs.length = i := by have h := hvs.1; rw [List.length_map] at h; omega
      have hyd : (dataAll ks)[i]? = some (ks.getD i .int).data := by rw [dataAll_map, List.getElem?_map, getD_at (a0 := Kd.int) hi6]; rfl
      have hkin := List.mem_of_getElem? (getD_at (a0 := Kd.int) hi6)
      have hkip := (hkk _ hkin).pos
      refine ⟨_, rfl, _, rfl, b, d, y, ks.getD i .int, 0, m - 1, rfl, m7.2, ((hyi i y _ hy hyd).keep (Kt.same e6)).keep (m7.kt m6.2), hkk _ hkin, hkn.2.2 _ hkin, by omega, by omega, by omega, fun v g H8 m8 hv hg hgk1 hcn => ⟨vs, m8.1 _ _ nDb hDv, small1000 (by omega), vs ++ [v], gs ++ [g], upd_same, by rw [List.length_append, hl]; rfl, ?_, ?_, ?_, (m7.trans m8).mut m6.2 hD⟩⟩
      · rw [List.map_append]
        exact ((hvs.keep (m8.kt m7.2)).snoc hv).keep (Kt.lst (m8.1 _ _ nDb hDv))
      · intro g' hg'
        rcases List.mem_append.mp hg' with h | h
        · exact hgs g' h
        · cases List.mem_singleton.mp h
          refine ⟨hg, ?_⟩
          have hfl := hkf _ hkin
          rw [Nat.pow_zero, Nat.one_mul, flat_base hfl] at hcn
          exact hcn
      · intro j g' k' hg' hk'
        by_cases hj : j < i
        · rw [List.getElem?_append_left (by omega)] at hg'
          exact hgk j g' k' hg' hk'
        · rw [List.getElem?_append_right (by omega)] at hg'
          have hj0 : j - gs.length = 0 := by
            have := (List.getElem?_eq_some_iff.mp hg').1
            simp at this
            omega
          rw [hj0] at hg'
          cases hg'
          have hji : j = i := by omega
          subst hji
          rw [getD_at (a0 := Kd.int) hi6] at hk'
          cases hk'
          exact hgk1
    · obtain ⟨vs, gs, hDv, hl, hvs, hgs, hgk, m7⟩ := hP
      have hgl : gs.length = ks.length := by have h := hvs.1; rw [List.length_map] at h; omega
      refine ⟨D, vs, rfl, .inl ⟨.of hDv, fun l hl' => ⟨len2, fun p hp => ?_⟩⟩⟩
      have e8 := (same_new (o := .tup vs) hl').trans (same_new (o := .tup [.str "tuple", .ref l]) hp)
      refine q _ (.tuple gs) _ ((m6.trans m7).ext e8) ?_ (.tuple (by omega) fun g hg => (hgs g hg).1) (.tuple (by omega) hgl hgk) (.tuple (fun g hg => (hgs g hg).2.mono (Nat.le_trans (base_four (.tup ks)) (Nat.le_mul_of_pos_left _ (Nat.pow_pos (by decide))))) (tup_le n (by omega) fun g hg => (hgs g hg).2.cnt))
      rw [Gn.data, gnAll_map]
      exact .t2 (.of upd_same) (.str _) ((hvs.keep (Kt.same e8)).tup (ex_t (same_new hp) (.of upd_same)))
  | lst kj =>
    have hu6 := hu5
    rw [Kd.data] at hu6
    obtain ⟨a, y0, y1, rfl, ha, h0, h1⟩ := hu6.g2
    cases h0.str_inv
    have hkj : OkK (m - 1) kj := by cases hk with | lst h => exact h
    have hnj : NeK kj := by cases hne with | lst h => exact h
    have hmj := hkj.pos
    have sj := hkj.shaped (by omega)
    refine q_when (b := false) (et_is (et_test (ev_op (ev_ixT (j := 0) (ev_var rfl) ev_c ha rfl) ev_c (rv_eq rfl))) (by decide +kernel)) (fun h => Bool.noConfusion h) (fun _ H6 e6 => ?_)
    have m6 := m5.ext e6
    -- reversed
    refine q_when (et_and (et_test (ev_op (ev_var rfl) ev_c (rv_eq rfl))) (fun _ => et_test (ev_op (ev_var rfl) ev_c rv_I0))) (fun hb H7 e7 => ?_) (fun _ H7 e7 => ?_)
    · have hn0 : (n : Int) > 0 := of_decide_eq_true (Bool.and_eq_true_iff.mp hb).2
      have en : (n : Int) - 1 = ((n - 1 : Nat) : Int) := by omega
      have m7 := m6.ext e7
      refine ⟨_, rfl, _, rfl, _, rfl, _, _, rfl, rfl, b, d, _, .lst kj, n - 1, m, (by rw [← en]; rfl), m7.2, hu5.keep (Kt.same (e6.trans e7)), hk, hne, by omega, by omega, hm4, fun v g H8 m8 hv hg hgk hcn => ⟨len1, fun p1 hp1 => ⟨len3, fun p hp => ?_⟩⟩⟩
      have e9 := (same_new (o := .tup [.str "reversed"]) hp1).trans (same_new (o := .tup [.str "turned", v, .ref p1]) hp)
      refine q _ (.turned g .reversed) _ ((m7.trans m8).ext e9) ?_ (.turned _ hg) (.turned hgk rfl) (.turned (upC (by omega) hcn) (by rw [cntG]; exact up (by omega) hcn.cnt))
      rw [Gn.data, Mp.data]
      exact .t3 (.of upd_same) (.str _) (hv.keep (Kt.same e9)) (.t1 (ex_t (same_new hp) (.of upd_same)) (.str _))
    have m7 := m6.ext e7
    -- sorted
    have in_flat : EvT (tTest (tOp (rInD K) (tOp (rIxT K) (tVar 1) (tC (.int 1))) (tLst (tCons (tC (.str "int")) (tCons (tC (.str "word")) tNil))))) [some (.ref b), some (.ref a), some (.int (n : Int)), some (.int r), none, none, none, none, none] H7 kj.isFlat := by
      refine et_test (ev_opL (xs := [.str "int", .str "word"]) (ev_ixT (j := 1) (ev_var rfl) ev_c (ex_t (e6.trans e7) ha) rfl) (el_lst (ea_cons ev_c (ea_cons ev_c ea_nil)) (by show 2 ≤ 100000; decide)) fun p Hx hp ex => fun H9 e9 Q k => ?_)
      refine ⟨kj.data, [.str "int", .str "word"], (h1.keep (Kt.same ((e6.trans e7).trans (ex.trans e9)))).dp, .lst (.of (e9 _ _ hp)) (.cons (.str _) (.cons (.str _) .nil)), sj, shaped_flat, ?_⟩
      rw [flat_in]
      exact k H9 (Ex.refl _)
    refine q_when (et_and (et_test (ev_op (ev_var rfl) ev_c (rv_eq rfl))) (fun _ => et_and (et_test (ev_op (ev_var rfl) ev_c rv_I0)) (fun _ => in_flat))) (fun hb H8 e8 => ?_) (fun _ H8 e8 => ?_)
    · have hb2 := Bool.and_eq_true_iff.mp (Bool.and_eq_true_iff.mp hb).2
      have hn0 : (n : Int) > 0 := of_decide_eq_true hb2.1
      have en : (n : Int) - 1 = ((n - 1 : Nat) : Int) := by omega
      have m8 := m7.ext e8
      refine ⟨_, rfl, _, rfl, _, rfl, _, _, rfl, rfl, b, d, _, .lst kj, n - 1, m, (by rw [← en]; rfl), m8.2, hu5.keep (Kt.same (e6.trans (e7.trans e8))), hk, hne, by omega, by omega, hm4, fun v g H9 m9 hv hg hgk hcn => ⟨len1, fun p1 hp1 => ⟨len3, fun p hp => ?_⟩⟩⟩
      have e10 := (same_new (o := .tup [.str "sorted"]) hp1).trans (same_new (o := .tup [.str "turned", v, .ref p1]) hp)
      refine q _ (.turned g .sorted) _ ((m8.trans m9).ext e10) ?_ (.turned _ hg) (.turned hgk (by show (if kj.isFlat then some (Kd.lst kj) else none) = _; rw [hb2.2]; rfl)) (.turned (upC (by omega) hcn) (by rw [cntG]; exact up (by omega) hcn.cnt))
      rw [Gn.data, Mp.data]
      exact .t3 (.of upd_same) (.str _) (hv.keep (Kt.same e10)) (.t1 (ex_t (same_new hp) (.of upd_same)) (.str _))
    have m8 := m7.ext e8
    have ha8 := ex_t (e6.trans (e7.trans e8)) ha
    -- repeat
    refine q_when (et_test (ev_op (ev_var rfl) ev_c (rv_eq rfl))) (fun _ H9 e9 => ?_) (fun _ H9 e9 => ?_)
    · have m9 := m8.ext e9
      refine ⟨_, rfl, b, d, 2, rfl, m9.2, by decide, fun x Ha x0 x1 ma => ⟨_, _, rfl, rfl, _, rfl, b, d, 2, rfl, ma.2, by decide, fun y Hb y0 y1 mb => ⟨_, _, rfl, rfl, len3, fun p1 hp1 => ?_⟩⟩⟩
      have mc := (((m9.trans ma).trans mb).new (o := .tup [.str "int", .int (x - 1), .int (1 + y)]) hp1)
      have kc : Kt K H9 (upd Hb p1 (.tup [.str "int", .int (x - 1), .int (1 + y)])) := ((ma.kt m9.2).trans (mb.kt ma.2)).trans (Kt.new hp1)
      have hac := kc _ _ (ex_t e9 ha8)
      refine ⟨_, rfl, _, rfl, a, _, 1, _, rfl, rfl, hac, rfl, b, d, _, kj, 0, m - 1, rfl, mc.2, ((h1.keep (Kt.same (e6.trans (e7.trans (e8.trans e9))))).keep kc), hkj, hnj, by omega, by omega, by omega, fun v g Hd md hv hg hgk hcn => ⟨len3, fun p hp => ?_⟩⟩
      have gOk : OkG (N + 1) (.int (x - 1) (1 + y)) := .int _ _
      refine q _ (.repeat_ (.int (x - 1) (1 + y)) g) _ ((mc.trans md).new hp) ?_ (.repeat_ gOk hg) (.repeat_ (.int (by omega) (by omega) (by omega)) hgk) (.repeat_ (.int (by rw [cntG]; refine Nat.le_trans ?_ (Nat.le_trans (base_four (.lst kj)) (Nat.le_mul_of_pos_left _ (Nat.pow_pos (by decide)))); omega)) (hcn.mono (Nat.le_trans (by rw [Nat.pow_zero, Nat.one_mul, baseK]; omega : 2 ^ 0 * baseK kj ≤ baseK (.lst kj)) (Nat.le_mul_of_pos_left _ (Nat.pow_pos (by decide))))) (by rw [cntG, baseK]; exact Nat.le_trans (powSum_le (by omega)) (base_up n (by have hcn := hcn.cnt; rw [Nat.pow_zero, Nat.one_mul] at hcn; exact hcn))))
      rw [Gn.data, Gn.data]
      exact .t3 (.of upd_same) (.str _) (.t3 ((Kt.new hp) _ _ (md.kt mc.2 _ _ (.of upd_same))) (.str _) (.int _) (.int _)) (hv.keep (Kt.new hp))
    have m9 := m8.ext e9
    have ha9 := ex_t e9 ha8
    -- list
    refine ⟨_, rfl, b, d, 2, rfl, m9.2, by decide, fun x Ha x0 x1 ma => ?_⟩
    have haa := ma.kt m9.2 _ _ ha9
    have hka := (h1.keep (Kt.same (e6.trans (e7.trans (e8.trans e9))))).keep (ma.kt m9.2)
    have emax : (if (n : Int) - 1 > 0 then (n : Int) - 1 else 0) = ((n - 1 : Nat) : Int) := by
      split <;> omega
    refine ⟨_, rfl, _, rfl, a, _, 1, _, rfl, rfl, haa, rfl, _, rfl, _, _, rfl, rfl, _, _, rfl, b, d, _, kj, n - 1, m - 1, (by rw [← emax]; rfl), ma.2, hka, hkj, hnj, by omega, by omega, by omega, fun v g Hb mb hv hg hgk hcn => ?_⟩
    refine ⟨_, rfl, _, rfl, _, rfl, _, rfl, _, _, rfl, rfl, b, d, 3 - x, rfl, mb.2, by omega, fun y Hc y0 y1 mc => ⟨_, _, rfl, rfl, len4, fun p hp => ?_⟩⟩
    refine q _ (.list g x (x + y)) _ ((((m9.trans ma).trans mb).trans mc).new hp) ?_ (.list _ _ hg) (.list hgk (by omega) (by omega) (by omega)) (.list (hcn.mono (base_lst n kj)) (by rw [cntG, baseK]; exact Nat.le_trans (powSum_le (by omega)) (two_up hn4 hcn.cnt)))
    rw [Gn.data]
    refine Vd.tup (.of upd_same) rfl fun i w e h1 h2 => ?_
    match i with
    | 0 => cases h1; cases h2; exact .str _
    | 1 => cases h1; cases h2; exact (hv.keep (mc.kt mb.2)).keep (Kt.new hp)
    | 2 => cases h1; cases h2; exact .int _
    | 3 => cases h1; cases h2; exact .int _
    | i + 4 => simp at h1
end
end K4
namespace K4
open PySem PySem.Spec PyProof.Rows L2 Evl Cr CrT
section
variable {P : Program} {w : World} {K : PySem.W.Frag} {mg : Str → Option Value} {base : Heap}
abbrev s__law_some : Stmt := topS 32
abbrev N__law_some : List Str := ["script", "k", "box", "kind"]
theorem sc__law_some : FnScope N__law_some ["script", "k"] (defScope s__law_some) := ⟨rfl, rfl, rfl, by decide +kernel, rfl, by decide +kernel, by decide +kernel⟩
theorem ok__law_some {f : Addr} {fd : FuncData} (T : Tx mg) (F : Fun K "_law_some" "_law_some" s__law_some f fd) (c__law_box : Cl P w K mg base "_law_box" ["script", "k"] 3 (spBox K)) (c__law_kind : Cl P w K mg base "_law_kind" ["box", "depth"] 4 (spLKind2 K 3))
    (c__law_gen : Cl P w K mg base "_law_gen" ["box", "kind", "depth"] 12 (spLGen K 5)) : FnOk P w K mg base CX0 13 f fd ["script", "k"] (spLSome K) := by
  refine F.ok sc__law_some (fun vs H Q E h => ?_) (fun cdv A outer s H vs Q E hr h => ?_)
  · obtain ⟨a, ns, k, rfl, _⟩ := h
    rfl
  obtain ⟨a, ns, k, rfl, ha, q⟩ := h
  refine ⟨_, (pss_cons (ps_set (i := 2) sc__law_some.nd rfl (Or.inl rfl) (pe_call c__law_box.ok (hr.mono (by omega)) (by rfl) c__law_box.m c__law_box.kp c__law_box.b .nil pass0 (pa_cons (pv 0) (pa_cons (pv 1) pa_nil))))
      (pss_cons (ps_set (i := 3) sc__law_some.nd rfl (Or.inl rfl) (pe_call c__law_kind.ok (hr.mono (by omega)) (by rfl) c__law_kind.m c__law_kind.kp c__law_kind.b .nil pass0 (pa_cons (pv 2) (pa_cons pe_int pa_nil))))
      (pss_one (ps_ret (pe_tup (pa_cons (pe_call c__law_gen.ok (hr.mono (by omega)) (by rfl) c__law_gen.m c__law_gen.kp c__law_gen.b .nil pass0 (pa_cons (pv 2) (pa_cons (pv 3) (pa_cons pe_int pa_nil)))) (pa_cons (pv 3) (pa_cons (pv 2) pa_nil)))))))), ?_⟩
  refine ⟨_, rfl, _, rfl, a, ns, k, rfl, ha, fun b d H1 e1 hb hB => ?_⟩
  refine ⟨_, rfl, b, d, 2, rfl, hB, by omega, fun u kd H2 m2 hu hk hn => ?_⟩
  refine ⟨_, rfl, _, rfl, b, d, u, kd, 2, 3, rfl, m2.2, hu, hk, hn, by omega, by omega, by omega, fun v g H3 m3 hv hg hgk hcn => ⟨_, rfl, _, rfl, len3, fun p hp => ?_⟩⟩
  have m := (m2.trans m3).new (o := .tup [v, u, .ref b]) hp
  exact q p v u b d g kd _ (same_of_mv e1 hb m) hb m.2 upd_same (hv.keep (Kt.new hp)) ((hu.keep (m3.kt m2.2)).keep (Kt.new hp)) hg hgk hk hn hcn
abbrev s_law : Stmt := topS 33
abbrev N_law : List Str := ["script", "k", "gen", "kind", "box"]
theorem sc_law : FnScope N_law ["script"] (defScope s_law) := ⟨rfl, rfl, rfl, by decide +kernel, rfl, by decide +kernel, by decide +kernel⟩
theorem ok_law {f : Addr} {fd : FuncData} {L : Nat} (T : Tx mg) (F : Fun K "law" "law" s_law f fd) (c_kind_of : Cl P w K mg base "kind_of" ["generator"] L (spKindOk K 6)) (c__law_some : Cl P w K mg base "_law_some" ["script", "k"] 13 (spLSome K)) : FnOk P w K mg base CX0 (L + 14) f fd ["script"] (spLaw K) := by
  refine F.ok sc_law (fun vs H Q E h => ?_) (fun cdv A outer s H vs Q E hr h => ?_)
  · obtain ⟨a, ns, rfl, _⟩ := h
    rfl
  obtain ⟨a, ns, rfl, ha, h63, q⟩ := h
  refine ⟨_, (pss_cons (ps_for PassesOwn.never rfl (pi_range1 (by rfl) T.z_range (pa_cons (pe_callB (call_min2 rfl) (by rfl) T.z_min (by decide +kernel) (pa_cons pe_int (pa_cons (pe_callB (call_max2 rfl) (by rfl) T.z_max (by decide +kernel) (pa_cons pe_int (pa_cons (pe_op op_fdiv (pe_callB call_len_seq (by rfl) T.z_len PySem.boot_len (pa_cons (pv 0) pa_nil)) pe_int) pa_nil))) pa_nil))) pa_nil)) (pg_name (i := 1) sc_law.nd rfl (Or.inl rfl)) (pss_cons (ps_asg (pe_call c__law_some.ok (hr.mono (by omega)) (by rfl) c__law_some.m c__law_some.kp c__law_some.b .nil pass0 (pa_cons (pv 0) (pa_cons (pe_op op_mul pe_int (pv 1)) pa_nil))) (pg_tup rfl (pgs_cons (pg_name (i := 2) sc_law.nd rfl (Or.inl rfl)) (pgs_cons (pg_name (i := 3) sc_law.nd rfl (Or.inl rfl)) (pgs_cons (pg_name (i := 4) sc_law.nd rfl (Or.inl rfl)) pgs_nil)))))
        (pss_one (ps_if (pt_cmpR (op_neD hr.units) (pe_call c_kind_of.ok (hr.mono (by omega)) (by rfl) c_kind_of.m c_kind_of.kp c_kind_of.b .nil pass0 (pa_cons (pv 2) pa_nil)) (pv 3) (nomark _)) (pss_one (ps_ret pe_bl)) pss_nil))))
      (pss_one (ps_ret pe_bl))), ?_⟩
  refine ⟨_, rfl, a, _, rfl, .inl ha, _, _, rfl, rfl, ⟨by decide, by decide⟩, _, _, rfl, _, _, rfl, _, rfl, ?_, ?_, for_range (lo := 0) (fun i σ' H' => ∃ z1 z2 z3 z4 : Option V, σ' = [some (.ref a), z1, z2, z3, z4] ∧ SqL K H' a (ns.map V.int)) ⟨_, _, _, _, rfl, ha⟩ (fun i σ' H' hi hP => ?_) (fun σ' H' hP => ?_)⟩
  · omega
  · rw [List.length_map]
    omega
  case refine_4 =>
    obtain ⟨z1, z2, z3, z4, rfl, _⟩ := hP
    exact q _
  obtain ⟨z1, z2, z3, z4, rfl, hS⟩ := hP
  refine ⟨_, rfl, _, rfl, _, _, rfl, rfl, .inl ⟨by decide, by decide⟩, a, ns, 2 * i, (by simp), hS, fun p v u b d g kd H1 e1 hb hB hp hv hu hg hgk hk hn hcn => ⟨p, _, rfl, .inl (.inl hp), rfl, v, _, rfl, u, _, rfl, .ref b, _, rfl, rfl, ?_⟩⟩
  have sk := OkK.shaped hk (by omega)
  have t : EvT (tTest (tOp (rNeD K) (tCall (spKindOk K 6) [] E0 (tCons (tVar 2) tNil)) (tVar 3))) [some (.ref a), some (.int (0 + (i : Int))), some v, some u, some (.ref b)] H1 false := fun H2 e2 Q2 q2 =>
    ⟨_, rfl, v, g, kd, rfl, hv.keep (Kt.same e2), hg, hgk, fun w H3 e3 hw => ⟨_, rfl, kd.data, kd.data, hw.dp, (hu.keep (Kt.same (e2.trans e3))).dp, sk, sk, false, by rw [SeqAt.eqv_refl _ (SeqAt.canLay_of_shaped sk)]; rfl, q2 H3 e3⟩⟩
  refine s_when (b := false) t (fun h => Bool.noConfusion h) (fun _ H8 e8 => ?_)
  exact ⟨_, _, _, _, rfl, (e1.trans e8).seq hS⟩
end
end K4
namespace K4
open PySem PySem.Spec PyProof.Rows L2 Evl Cr CrT Sm Fb
section
variable {P : Program} {w : World} {K : PySem.W.Frag} {mg : Str → Option Value} {base : Heap}
abbrev s_fits : Stmt := topS 10
abbrev N_fits : List Str := ["condition", "kind", "name", "listed", "part"]
theorem sc_fits : FnScope N_fits ["condition", "kind"] (defScope s_fits) := ⟨rfl, rfl, rfl, by decide +kernel, rfl, by decide +kernel, by decide +kernel⟩
abbrev s__fits_item : Stmt := topS 11
abbrev N__fits_item : List Str := ["place", "condition", "kinds"]
theorem sc__fits_item : FnScope N__fits_item ["place", "condition", "kinds"] (defScope s__fits_item) := ⟨rfl, rfl, rfl, by decide +kernel, rfl, by decide +kernel, by decide +kernel⟩
abbrev s__fits_list : Stmt := topS 12
abbrev N__fits_list : List Str := ["condition", "listed", "name"]
theorem sc__fits_list : FnScope N__fits_list ["condition", "listed"] (defScope s__fits_list) := ⟨rfl, rfl, rfl, by decide +kernel, rfl, by decide +kernel, by decide +kernel⟩
theorem ok_fits {f : Addr} {fd : FuncData} {n : Nat} (T : Tx mg) (F : Fun K "fits" "fits" s_fits f fd) (c_is_word : Cl P w K mg base "is_word" ["text"] 1 spWord) (c_kinds_in_tuple : Cl P w K mg base "kinds_in_tuple" ["kind"] 1 (spKit K))
    (c_kind_in_list : Cl P w K mg base "kind_in_list" ["kind"] 1 (spKil K)) (c_fits : Cl P w K mg base "fits" ["condition", "kind"] (2 * n + 1) (spFits K n)) (c__fits_item : Cl P w K mg base "_fits_item" ["place", "condition", "kinds"] (2 * n + 2) (spFitsItem K n))
    (c__fits_list : Cl P w K mg base "_fits_list" ["condition", "listed"] (2 * n + 2) (spFitsList K n)) : FnOk P w K mg base CX0 (2 * n + 2 + 1) f fd ["condition", "kind"] (spFits K (n + 1)) := by
  obtain ⟨tD, m_DIVISOR⟩ := T.m_DIVISOR
  refine F.ok sc_fits (fun vs H Q E h => ?_) (fun cdv A outer s H vs Q E hr h => ?_)
  · obtain ⟨v, u, c, k, rfl, _⟩ := h
    rfl
  obtain ⟨v, u, c, k, rfl, hv, hc, hu, hk, q⟩ := h
  refine ⟨_, (pss_cons (ps_set (i := 2) sc_fits.nd rfl (Or.inl rfl) (pe_ix (r := rIxT K) ix_tup (pv 0) pe_int (fun _ _ => rfl)))
      (pss_cons (ps_if (pt_cmpR op_in_seq (pv 2) (pe_tup (pa_cons pe_str (pa_cons pe_str (pa_cons pe_str pa_nil)))) (by rfl)) (pss_one (ps_ret (pe_callB (cr_all rfl) (by rfl) T.z_all (by decide +kernel) (pa_cons (pe_lc (own := [("part", 4)]) (g := gName 4) (by rfl) sc_fits.nd (pi_tup (pe_slice (r := rSlT K) sl_tup (pv 0) (po_some pe_int) po_none)) (blkOk_by (own := [("part", 4)]) (N := N_fits) (sc := defScope s_fits) (by decide +kernel)) (fun _ _ _ _ _ => (pg_name (i := 4) sc_fits.nd rfl (Or.inl rfl))) (fun _ _ _ _ _ => pts_nil) (fun _ _ _ _ _ => (pe_call c_fits.ok (hr.mono (by omega)) (by rfl) c_fits.m c_fits.kp c_fits.b .nil pass0 (pa_cons (pv 4) (pa_cons (pv 1) pa_nil))))) pa_nil)))) pss_nil)
      (pss_cons (ps_if (pt_cmpR op_eq (pv 2) pe_str (nomark _)) (pss_one (ps_ret (pe_cmpR (op_eqD hr.units) (pv 1) pe_str (nomark _)))) pss_nil)
      (pss_cons (ps_if (pt_cmpR op_eq (pv 2) pe_str (nomark _)) (pss_one (ps_ret (pe_and (pe_cmpR (op_eqD hr.units) (pv 1) pe_str (nomark _)) (pe_one (pe_chain op_le op_le pe_int (pe_ix (r := rIxT K) ix_tup (pv 0) pe_int (fun _ _ => rfl)) (pe_glob (v := .int 100) (by rfl) m_DIVISOR ⟨_, rfl⟩)))))) pss_nil)
      (pss_cons (ps_if (pt_cmpR op_eq (pv 2) pe_str (nomark _)) (pss_one (ps_ret (pe_and (pe_cmpR (op_eqD hr.units) (pv 1) pe_str (nomark _)) (pe_one (pe_call c_is_word.ok (hr.mono (by omega)) (by rfl) c_is_word.m c_is_word.kp c_is_word.b .nil pass0 (pa_cons (pe_ix (r := rIxT K) ix_tup (pv 0) pe_int (fun _ _ => rfl)) pa_nil)))))) pss_nil)
      (pss_cons (ps_if (pt_cmpR op_eq (pv 2) pe_str (nomark _)) (pss_one (ps_ret (pe_call c__fits_item.ok (hr.mono (by omega)) (by rfl) c__fits_item.m c__fits_item.kp c__fits_item.b .nil pass0 (pa_cons (pe_ix (r := rIxT K) ix_tup (pv 0) pe_int (fun _ _ => rfl)) (pa_cons (pe_ix (r := rIxT K) ix_tup (pv 0) pe_int (fun _ _ => rfl)) (pa_cons (pe_call c_kinds_in_tuple.ok (hr.mono (by omega)) (by rfl) c_kinds_in_tuple.m c_kinds_in_tuple.kp c_kinds_in_tuple.b .nil pass0 (pa_cons (pv 1) pa_nil)) pa_nil)))))) pss_nil)
      (pss_cons (ps_set (i := 3) sc_fits.nd rfl (Or.inl rfl) (pe_call c_kind_in_list.ok (hr.mono (by omega)) (by rfl) c_kind_in_list.m c_kind_in_list.kp c_kind_in_list.b .nil pass0 (pa_cons (pv 1) pa_nil)))
      (pss_one (ps_ret (pe_and (pe_cmpR op_notN (pv 3) pe_non (nomark _)) (pe_one (pe_call c__fits_list.ok (hr.mono (by omega)) (by rfl) c__fits_list.m c__fits_list.kp c__fits_list.b .nil pass0 (pa_cons (pv 0) (pa_cons (pv 3) pa_nil)))))))))))))), ?_⟩
  cases c with
  | not_ c =>
    rw [Cd.data] at hv
    obtain ⟨a, x, y, rfl, hs, hx, hy⟩ := hv.g2
    cases hx.str_inv
    refine q_asg (ev_ixT (j := 0) (ev_var rfl) ev_c hs rfl) fun H1 e1 => ?_
    refine takeT e1 rfl (ea_cons ev_c (ea_cons ev_c (ea_cons ev_c ea_nil))) (by show 3 ≤ 100000; decide) rfl (by decide +kernel) fun H2 e2 => ?_
    have hc1 : OkC n c := by cases hc with | not_ h => exact h
    refine s_ret (ev_is (ev_all (el_is (el_lcNT (fun _ => true) (fun _ => .bl (fitsC c k)) (eu_sl1 (ev_var rfl) (ex_t e2 hs)) (by show 1 ≤ 40000; decide) (fun _ => rfl) (fun _ _ _ _ _ => et_yes) (fun i x H9 e9 hx _ => ?_)) (given_all _ _))) ?_) fun H9 e9 => q H9 (e2.trans e9)
    · have e09 := e2.trans e9
      match i, hx with
      | 0, hx =>
        cases hx
        exact ev_callC (ea_cons (ev_var rfl) (ea_cons (ev_var rfl) ea_nil)) (fits_call (hy.keep (Kt.same e09)) hc1 (hu.keep (Kt.same e09)) hk)
    · show V.bl ([fitsC c k].all id) = V.bl (fitsC c k)
      cases fitsC c k <;> rfl
  | and_ c d =>
    rw [Cd.data] at hv
    obtain ⟨a, x, y, z, rfl, hs, hx, hy, hz⟩ := hv.g3
    cases hx.str_inv
    refine q_asg (ev_ixT (j := 0) (ev_var rfl) ev_c hs rfl) fun H1 e1 => ?_
    refine takeT e1 rfl (ea_cons ev_c (ea_cons ev_c (ea_cons ev_c ea_nil))) (by show 3 ≤ 100000; decide) rfl (by decide +kernel) fun H2 e2 => ?_
    have hc1 : OkC n c ∧ OkC n d := by cases hc with | and_ h g => exact ⟨h, g⟩
    refine s_ret (ev_is (ev_all (el_is (el_lcNT (fun _ => true) (fun i => .bl (if i = 0 then fitsC c k else fitsC d k)) (eu_sl1 (ev_var rfl) (ex_t e2 hs)) (by show 2 ≤ 40000; decide) (fun _ => rfl) (fun _ _ _ _ _ => et_yes) (fun i x H9 e9 hx _ => ?_)) (given_all _ _))) ?_) fun H9 e9 => q H9 (e2.trans e9)
    · have e09 := e2.trans e9
      match i, hx with
      | 0, hx =>
        cases hx
        exact ev_callC (ea_cons (ev_var rfl) (ea_cons (ev_var rfl) ea_nil)) (fits_call (hy.keep (Kt.same e09)) hc1.1 (hu.keep (Kt.same e09)) hk)
      | 1, hx =>
        cases hx
        exact ev_callC (ea_cons (ev_var rfl) (ea_cons (ev_var rfl) ea_nil)) (fits_call (hz.keep (Kt.same e09)) hc1.2 (hu.keep (Kt.same e09)) hk)
    · show V.bl ([fitsC c k, fitsC d k].all id) = V.bl (fitsC c k && fitsC d k)
      cases fitsC c k <;> cases fitsC d k <;> rfl
  | or_ c d =>
    rw [Cd.data] at hv
    obtain ⟨a, x, y, z, rfl, hs, hx, hy, hz⟩ := hv.g3
    cases hx.str_inv
    refine q_asg (ev_ixT (j := 0) (ev_var rfl) ev_c hs rfl) fun H1 e1 => ?_
    refine takeT e1 rfl (ea_cons ev_c (ea_cons ev_c (ea_cons ev_c ea_nil))) (by show 3 ≤ 100000; decide) rfl (by decide +kernel) fun H2 e2 => ?_
    have hc1 : OkC n c ∧ OkC n d := by cases hc with | or_ h g => exact ⟨h, g⟩
    refine s_ret (ev_is (ev_all (el_is (el_lcNT (fun _ => true) (fun i => .bl (if i = 0 then fitsC c k else fitsC d k)) (eu_sl1 (ev_var rfl) (ex_t e2 hs)) (by show 2 ≤ 40000; decide) (fun _ => rfl) (fun _ _ _ _ _ => et_yes) (fun i x H9 e9 hx _ => ?_)) (given_all _ _))) ?_) fun H9 e9 => q H9 (e2.trans e9)
    · have e09 := e2.trans e9
      match i, hx with
      | 0, hx =>
        cases hx
        exact ev_callC (ea_cons (ev_var rfl) (ea_cons (ev_var rfl) ea_nil)) (fits_call (hy.keep (Kt.same e09)) hc1.1 (hu.keep (Kt.same e09)) hk)
      | 1, hx =>
        cases hx
        exact ev_callC (ea_cons (ev_var rfl) (ea_cons (ev_var rfl) ea_nil)) (fits_call (hz.keep (Kt.same e09)) hc1.2 (hu.keep (Kt.same e09)) hk)
    · show V.bl ([fitsC c k, fitsC d k].all id) = V.bl (fitsC c k && fitsC d k)
      cases fitsC c k <;> cases fitsC d k <;> rfl
  | atmost m =>
    rw [Cd.data] at hv
    obtain ⟨a, x, y, rfl, hs, hx, hy⟩ := hv.g2
    cases hx.str_inv
    refine q_asg (ev_ixT (j := 0) (ev_var rfl) ev_c hs rfl) fun H1 e1 => ?_
    refine skipT e1 rfl (ea_cons ev_c (ea_cons ev_c (ea_cons ev_c ea_nil))) (by show 3 ≤ 100000; decide) rfl (by decide +kernel) fun H2 e2 => ?_
    refine takeS e2 rfl (by decide +kernel) fun H3 e3 => ?_
    exact s_ret (ev_isInt (ev_var rfl) (hu.keep (Kt.same e3)) hk (by omega)) fun H9 e9 => q H9 (e3.trans e9)
  | divides m =>
    rw [Cd.data] at hv
    obtain ⟨a, x, y, rfl, hs, hx, hy⟩ := hv.g2
    cases hx.str_inv
    refine q_asg (ev_ixT (j := 0) (ev_var rfl) ev_c hs rfl) fun H1 e1 => ?_
    refine skipT e1 rfl (ea_cons ev_c (ea_cons ev_c (ea_cons ev_c ea_nil))) (by show 3 ≤ 100000; decide) rfl (by decide +kernel) fun H2 e2 => ?_
    refine skipS e2 rfl (by decide +kernel) fun H3 e3 => ?_
    refine takeS e3 rfl (by decide +kernel) fun H4 e4 => ?_
    cases hy.int_inv
    exact s_ret (ev_andV (ev_isInt (ev_var rfl) (hu.keep (Kt.same e4)) hk (by omega)) fun _ => ev_one (ev_chain ev_c (ev_ixT (j := 1) (ev_var rfl) ev_c (ex_t e4 hs) rfl) ev_c rv_I0 rv_I0)) fun H9 e9 => q H9 (e4.trans e9)
  | is m =>
    rw [Cd.data] at hv
    obtain ⟨a, x, y, rfl, hs, hx, hy⟩ := hv.g2
    cases hx.str_inv
    refine q_asg (ev_ixT (j := 0) (ev_var rfl) ev_c hs rfl) fun H1 e1 => ?_
    refine skipT e1 rfl (ea_cons ev_c (ea_cons ev_c (ea_cons ev_c ea_nil))) (by show 3 ≤ 100000; decide) rfl (by decide +kernel) fun H2 e2 => ?_
    refine skipS e2 rfl (by decide +kernel) fun H3 e3 => ?_
    refine skipS e3 rfl (by decide +kernel) fun H4 e4 => ?_
    refine takeS e4 rfl (by decide +kernel) fun H5 e5 => ?_
    cases hy.str_inv
    have hm : m.length ≤ 1000 := by cases hc with | is _ h => exact h
    exact s_ret (ev_andV (ev_isWord (ev_var rfl) (hu.keep (Kt.same e5)) hk (by omega)) fun _ => ev_one (ev_callC (ea_cons (ev_ixT (j := 1) (ev_var rfl) ev_c (ex_t e5 hs) rfl) ea_nil) fun H1 e Q q E => ⟨m, rfl, hm, fun H' e' => q H' e'⟩)) fun H9 e9 => q H9 (e5.trans e9)
  | item m c =>
    rw [Cd.data] at hv
    obtain ⟨a, x, y, z, rfl, hs, hx, hy, hz⟩ := hv.g3
    cases hx.str_inv
    refine q_asg (ev_ixT (j := 0) (ev_var rfl) ev_c hs rfl) fun H1 e1 => ?_
    refine skipT e1 rfl (ea_cons ev_c (ea_cons ev_c (ea_cons ev_c ea_nil))) (by show 3 ≤ 100000; decide) rfl (by decide +kernel) fun H2 e2 => ?_
    refine skipS e2 rfl (by decide +kernel) fun H3 e3 => ?_
    refine skipS e3 rfl (by decide +kernel) fun H4 e4 => ?_
    refine skipS e4 rfl (by decide +kernel) fun H5 e5 => ?_
    refine takeS e5 rfl (by decide +kernel) fun H6 e6 => ?_
    cases hy.int_inv
    have hc1 : OkC n c := by cases hc with | item _ h => exact h
    refine ⟨_, rfl, a, _, 1, _, rfl, rfl, ex_t e6 hs, rfl, _, rfl, a, _, 2, _, rfl, rfl, ex_t e6 hs, rfl, _, rfl, u, k, 10, rfl, hu.keep (Kt.same e6), hk, by omega, fun r H8 e8 ht hn => ?_⟩
    have e08 := e6.trans e8
    have hb : ∃ b, r = .ref b ∧ Vd K H8 (.ref b) (.tuple (dataAll k.parts)) ∧ ∀ j ∈ k.parts, OkK 10 j := by
      cases hk with
      | int => obtain ⟨b, rfl, hb⟩ := hn (fun _ e => Kd.noConfusion e); exact ⟨b, rfl, hb, fun _ h => nomatch h⟩
      | word => obtain ⟨b, rfl, hb⟩ := hn (fun _ e => Kd.noConfusion e); exact ⟨b, rfl, hb, fun _ h => nomatch h⟩
      | lst _ => obtain ⟨b, rfl, hb⟩ := hn (fun _ e => Kd.noConfusion e); exact ⟨b, rfl, hb, fun _ h => nomatch h⟩
      | tup _ hks => obtain ⟨b, rfl, hb⟩ := ht _ rfl; exact ⟨b, rfl, hb, fun j hj => (hks j hj).mono (by omega)⟩
    obtain ⟨b, rfl, hb, hkp⟩ := hb
    exact ⟨m, _, _, c, k.parts, rfl, hz.keep (Kt.same e08), hc1, hb, hkp, fun H9 e9 => q H9 (e08.trans e9)⟩
  | every c =>
    have hv0 := hv
    rw [Cd.data] at hv
    obtain ⟨a, x, y, rfl, hs, hx, hy⟩ := hv.g2
    cases hx.str_inv
    refine q_asg (ev_ixT (j := 0) (ev_var rfl) ev_c hs rfl) fun H1 e1 => ?_
    refine skipT e1 rfl (ea_cons ev_c (ea_cons ev_c (ea_cons ev_c ea_nil))) (by show 3 ≤ 100000; decide) rfl (by decide +kernel) fun H2 e2 => ?_
    refine skipS e2 rfl (by decide +kernel) fun H3 e3 => ?_
    refine skipS e3 rfl (by decide +kernel) fun H4 e4 => ?_
    refine skipS e4 rfl (by decide +kernel) fun H5 e5 => ?_
    refine skipS e5 rfl (by decide +kernel) fun H6 e6 => ?_
    refine ⟨_, rfl, u, k, 10, rfl, hu.keep (Kt.same e6), hk, by omega, fun r H8 e8 hl hn => ?_⟩
    have e08 := e6.trans e8
    have no : (∀ j, k ≠ .lst j) → tRet (tAndV (tOp (fun x y H Q => y = .non ∧ Q (.bl (!decide (x = .non))) H) (tVar 3) (tC .non)) (tCall (spFitsList K n) [] E0 (tCons (tVar 0) (tCons (tVar 3) tNil)))) { nx := fun _ H' => Q .non H', rt := Q } [some (.ref a), some u, some (.str "every"), some r, none] H8 := fun nk => by
      cases hn nk
      have hf : fitsC (.every c) k = false := by
        cases k with
        | lst j => exact absurd rfl (nk j)
        | _ => rfl
      rw [hf] at q
      exact s_ret (ev_andF (ev_is (ev_op (ev_var rfl) ev_c rv_notN) (by decide))) fun H9 e9 => q H9 (e08.trans e9)
    cases k with
    | int => exact no fun _ e => Kd.noConfusion e
    | word => exact no fun _ e => Kd.noConfusion e
    | tup _ => exact no fun _ e => Kd.noConfusion e
    | lst j =>
      obtain ⟨hr0, hj⟩ := hl j rfl
      have hj1 : OkK 10 j := by cases hk with | lst h => exact h.mono (by omega)
      exact s_ret (ev_andT (ev_is (ev_op (ev_var rfl) ev_c rv_notN) (by rw [decide_eq_false hr0]; rfl)) (ev_one (ev_callC (ea_cons (ev_var rfl) (ea_cons (ev_var rfl) ea_nil)) fun H7 e7 Q q E => ⟨_, r, .every c, j, rfl, hv0.keep (Kt.same (e08.trans e7)), hc, rfl, hj.keep (Kt.same e7), hj1, fun H' e' => q H' e'⟩))) fun H9 e9 => q H9 (e08.trans e9)
  | some_ c =>
    have hv0 := hv
    rw [Cd.data] at hv
    obtain ⟨a, x, y, rfl, hs, hx, hy⟩ := hv.g2
    cases hx.str_inv
    refine q_asg (ev_ixT (j := 0) (ev_var rfl) ev_c hs rfl) fun H1 e1 => ?_
    refine skipT e1 rfl (ea_cons ev_c (ea_cons ev_c (ea_cons ev_c ea_nil))) (by show 3 ≤ 100000; decide) rfl (by decide +kernel) fun H2 e2 => ?_
    refine skipS e2 rfl (by decide +kernel) fun H3 e3 => ?_
    refine skipS e3 rfl (by decide +kernel) fun H4 e4 => ?_
    refine skipS e4 rfl (by decide +kernel) fun H5 e5 => ?_
    refine skipS e5 rfl (by decide +kernel) fun H6 e6 => ?_
    refine ⟨_, rfl, u, k, 10, rfl, hu.keep (Kt.same e6), hk, by omega, fun r H8 e8 hl hn => ?_⟩
    have e08 := e6.trans e8
    have no : (∀ j, k ≠ .lst j) → tRet (tAndV (tOp (fun x y H Q => y = .non ∧ Q (.bl (!decide (x = .non))) H) (tVar 3) (tC .non)) (tCall (spFitsList K n) [] E0 (tCons (tVar 0) (tCons (tVar 3) tNil)))) { nx := fun _ H' => Q .non H', rt := Q } [some (.ref a), some u, some (.str "some"), some r, none] H8 := fun nk => by
      cases hn nk
      have hf : fitsC (.some_ c) k = false := by
        cases k with
        | lst j => exact absurd rfl (nk j)
        | _ => rfl
      rw [hf] at q
      exact s_ret (ev_andF (ev_is (ev_op (ev_var rfl) ev_c rv_notN) (by decide))) fun H9 e9 => q H9 (e08.trans e9)
    cases k with
    | int => exact no fun _ e => Kd.noConfusion e
    | word => exact no fun _ e => Kd.noConfusion e
    | tup _ => exact no fun _ e => Kd.noConfusion e
    | lst j =>
      obtain ⟨hr0, hj⟩ := hl j rfl
      have hj1 : OkK 10 j := by cases hk with | lst h => exact h.mono (by omega)
      exact s_ret (ev_andT (ev_is (ev_op (ev_var rfl) ev_c rv_notN) (by rw [decide_eq_false hr0]; rfl)) (ev_one (ev_callC (ea_cons (ev_var rfl) (ea_cons (ev_var rfl) ea_nil)) fun H7 e7 Q q E => ⟨_, r, .some_ c, j, rfl, hv0.keep (Kt.same (e08.trans e7)), hc, rfl, hj.keep (Kt.same e7), hj1, fun H' e' => q H' e'⟩))) fun H9 e9 => q H9 (e08.trans e9)
  | size c =>
    have hv0 := hv
    rw [Cd.data] at hv
    obtain ⟨a, x, y, rfl, hs, hx, hy⟩ := hv.g2
    cases hx.str_inv
    refine q_asg (ev_ixT (j := 0) (ev_var rfl) ev_c hs rfl) fun H1 e1 => ?_
    refine skipT e1 rfl (ea_cons ev_c (ea_cons ev_c (ea_cons ev_c ea_nil))) (by show 3 ≤ 100000; decide) rfl (by decide +kernel) fun H2 e2 => ?_
    refine skipS e2 rfl (by decide +kernel) fun H3 e3 => ?_
    refine skipS e3 rfl (by decide +kernel) fun H4 e4 => ?_
    refine skipS e4 rfl (by decide +kernel) fun H5 e5 => ?_
    refine skipS e5 rfl (by decide +kernel) fun H6 e6 => ?_
    refine ⟨_, rfl, u, k, 10, rfl, hu.keep (Kt.same e6), hk, by omega, fun r H8 e8 hl hn => ?_⟩
    have e08 := e6.trans e8
    have no : (∀ j, k ≠ .lst j) → tRet (tAndV (tOp (fun x y H Q => y = .non ∧ Q (.bl (!decide (x = .non))) H) (tVar 3) (tC .non)) (tCall (spFitsList K n) [] E0 (tCons (tVar 0) (tCons (tVar 3) tNil)))) { nx := fun _ H' => Q .non H', rt := Q } [some (.ref a), some u, some (.str "size"), some r, none] H8 := fun nk => by
      cases hn nk
      have hf : fitsC (.size c) k = false := by
        cases k with
        | lst j => exact absurd rfl (nk j)
        | _ => rfl
      rw [hf] at q
      exact s_ret (ev_andF (ev_is (ev_op (ev_var rfl) ev_c rv_notN) (by decide))) fun H9 e9 => q H9 (e08.trans e9)
    cases k with
    | int => exact no fun _ e => Kd.noConfusion e
    | word => exact no fun _ e => Kd.noConfusion e
    | tup _ => exact no fun _ e => Kd.noConfusion e
    | lst j =>
      obtain ⟨hr0, hj⟩ := hl j rfl
      have hj1 : OkK 10 j := by cases hk with | lst h => exact h.mono (by omega)
      exact s_ret (ev_andT (ev_is (ev_op (ev_var rfl) ev_c rv_notN) (by rw [decide_eq_false hr0]; rfl)) (ev_one (ev_callC (ea_cons (ev_var rfl) (ea_cons (ev_var rfl) ea_nil)) fun H7 e7 Q q E => ⟨_, r, .size c, j, rfl, hv0.keep (Kt.same (e08.trans e7)), hc, rfl, hj.keep (Kt.same e7), hj1, fun H' e' => q H' e'⟩))) fun H9 e9 => q H9 (e08.trans e9)
  | sum c =>
    have hv0 := hv
    rw [Cd.data] at hv
    obtain ⟨a, x, y, rfl, hs, hx, hy⟩ := hv.g2
    cases hx.str_inv
    refine q_asg (ev_ixT (j := 0) (ev_var rfl) ev_c hs rfl) fun H1 e1 => ?_
    refine skipT e1 rfl (ea_cons ev_c (ea_cons ev_c (ea_cons ev_c ea_nil))) (by show 3 ≤ 100000; decide) rfl (by decide +kernel) fun H2 e2 => ?_
    refine skipS e2 rfl (by decide +kernel) fun H3 e3 => ?_
    refine skipS e3 rfl (by decide +kernel) fun H4 e4 => ?_
    refine skipS e4 rfl (by decide +kernel) fun H5 e5 => ?_
    refine skipS e5 rfl (by decide +kernel) fun H6 e6 => ?_
    refine ⟨_, rfl, u, k, 10, rfl, hu.keep (Kt.same e6), hk, by omega, fun r H8 e8 hl hn => ?_⟩
    have e08 := e6.trans e8
    have no : (∀ j, k ≠ .lst j) → tRet (tAndV (tOp (fun x y H Q => y = .non ∧ Q (.bl (!decide (x = .non))) H) (tVar 3) (tC .non)) (tCall (spFitsList K n) [] E0 (tCons (tVar 0) (tCons (tVar 3) tNil)))) { nx := fun _ H' => Q .non H', rt := Q } [some (.ref a), some u, some (.str "sum"), some r, none] H8 := fun nk => by
      cases hn nk
      have hf : fitsC (.sum c) k = false := by
        cases k with
        | lst j => exact absurd rfl (nk j)
        | _ => rfl
      rw [hf] at q
      exact s_ret (ev_andF (ev_is (ev_op (ev_var rfl) ev_c rv_notN) (by decide))) fun H9 e9 => q H9 (e08.trans e9)
    cases k with
    | int => exact no fun _ e => Kd.noConfusion e
    | word => exact no fun _ e => Kd.noConfusion e
    | tup _ => exact no fun _ e => Kd.noConfusion e
    | lst j =>
      obtain ⟨hr0, hj⟩ := hl j rfl
      have hj1 : OkK 10 j := by cases hk with | lst h => exact h.mono (by omega)
      exact s_ret (ev_andT (ev_is (ev_op (ev_var rfl) ev_c rv_notN) (by rw [decide_eq_false hr0]; rfl)) (ev_one (ev_callC (ea_cons (ev_var rfl) (ea_cons (ev_var rfl) ea_nil)) fun H7 e7 Q q E => ⟨_, r, .sum c, j, rfl, hv0.keep (Kt.same (e08.trans e7)), hc, rfl, hj.keep (Kt.same e7), hj1, fun H' e' => q H' e'⟩))) fun H9 e9 => q H9 (e08.trans e9)
  | rising =>
    have hv0 := hv
    rw [Cd.data] at hv
    obtain ⟨a, x, rfl, hs, hx⟩ := hv.g1
    cases hx.str_inv
    refine q_asg (ev_ixT (j := 0) (ev_var rfl) ev_c hs rfl) fun H1 e1 => ?_
    refine skipT e1 rfl (ea_cons ev_c (ea_cons ev_c (ea_cons ev_c ea_nil))) (by show 3 ≤ 100000; decide) rfl (by decide +kernel) fun H2 e2 => ?_
    refine skipS e2 rfl (by decide +kernel) fun H3 e3 => ?_
    refine skipS e3 rfl (by decide +kernel) fun H4 e4 => ?_
    refine skipS e4 rfl (by decide +kernel) fun H5 e5 => ?_
    refine skipS e5 rfl (by decide +kernel) fun H6 e6 => ?_
    refine ⟨_, rfl, u, k, 10, rfl, hu.keep (Kt.same e6), hk, by omega, fun r H8 e8 hl hn => ?_⟩
    have e08 := e6.trans e8
    have no : (∀ j, k ≠ .lst j) → tRet (tAndV (tOp (fun x y H Q => y = .non ∧ Q (.bl (!decide (x = .non))) H) (tVar 3) (tC .non)) (tCall (spFitsList K n) [] E0 (tCons (tVar 0) (tCons (tVar 3) tNil)))) { nx := fun _ H' => Q .non H', rt := Q } [some (.ref a), some u, some (.str "rising"), some r, none] H8 := fun nk => by
      cases hn nk
      have hf : fitsC (.rising) k = false := by
        cases k with
        | lst j => exact absurd rfl (nk j)
        | _ => rfl
      rw [hf] at q
      exact s_ret (ev_andF (ev_is (ev_op (ev_var rfl) ev_c rv_notN) (by decide))) fun H9 e9 => q H9 (e08.trans e9)
    cases k with
    | int => exact no fun _ e => Kd.noConfusion e
    | word => exact no fun _ e => Kd.noConfusion e
    | tup _ => exact no fun _ e => Kd.noConfusion e
    | lst j =>
      obtain ⟨hr0, hj⟩ := hl j rfl
      have hj1 : OkK 10 j := by cases hk with | lst h => exact h.mono (by omega)
      exact s_ret (ev_andT (ev_is (ev_op (ev_var rfl) ev_c rv_notN) (by rw [decide_eq_false hr0]; rfl)) (ev_one (ev_callC (ea_cons (ev_var rfl) (ea_cons (ev_var rfl) ea_nil)) fun H7 e7 Q q E => ⟨_, r, .rising, j, rfl, hv0.keep (Kt.same (e08.trans e7)), hc, rfl, hj.keep (Kt.same e7), hj1, fun H' e' => q H' e'⟩))) fun H9 e9 => q H9 (e08.trans e9)
  | different =>
    have hv0 := hv
    rw [Cd.data] at hv
    obtain ⟨a, x, rfl, hs, hx⟩ := hv.g1
    cases hx.str_inv
    refine q_asg (ev_ixT (j := 0) (ev_var rfl) ev_c hs rfl) fun H1 e1 => ?_
    refine skipT e1 rfl (ea_cons ev_c (ea_cons ev_c (ea_cons ev_c ea_nil))) (by show 3 ≤ 100000; decide) rfl (by decide +kernel) fun H2 e2 => ?_
    refine skipS e2 rfl (by decide +kernel) fun H3 e3 => ?_
    refine skipS e3 rfl (by decide +kernel) fun H4 e4 => ?_
    refine skipS e4 rfl (by decide +kernel) fun H5 e5 => ?_
    refine skipS e5 rfl (by decide +kernel) fun H6 e6 => ?_
    refine ⟨_, rfl, u, k, 10, rfl, hu.keep (Kt.same e6), hk, by omega, fun r H8 e8 hl hn => ?_⟩
    have e08 := e6.trans e8
    have no : (∀ j, k ≠ .lst j) → tRet (tAndV (tOp (fun x y H Q => y = .non ∧ Q (.bl (!decide (x = .non))) H) (tVar 3) (tC .non)) (tCall (spFitsList K n) [] E0 (tCons (tVar 0) (tCons (tVar 3) tNil)))) { nx := fun _ H' => Q .non H', rt := Q } [some (.ref a), some u, some (.str "different"), some r, none] H8 := fun nk => by
      cases hn nk
      have hf : fitsC (.different) k = false := by
        cases k with
        | lst j => exact absurd rfl (nk j)
        | _ => rfl
      rw [hf] at q
      exact s_ret (ev_andF (ev_is (ev_op (ev_var rfl) ev_c rv_notN) (by decide))) fun H9 e9 => q H9 (e08.trans e9)
    cases k with
    | int => exact no fun _ e => Kd.noConfusion e
    | word => exact no fun _ e => Kd.noConfusion e
    | tup _ => exact no fun _ e => Kd.noConfusion e
    | lst j =>
      obtain ⟨hr0, hj⟩ := hl j rfl
      have hj1 : OkK 10 j := by cases hk with | lst h => exact h.mono (by omega)
      exact s_ret (ev_andT (ev_is (ev_op (ev_var rfl) ev_c rv_notN) (by rw [decide_eq_false hr0]; rfl)) (ev_one (ev_callC (ea_cons (ev_var rfl) (ea_cons (ev_var rfl) ea_nil)) fun H7 e7 Q q E => ⟨_, r, .different, j, rfl, hv0.keep (Kt.same (e08.trans e7)), hc, rfl, hj.keep (Kt.same e7), hj1, fun H' e' => q H' e'⟩))) fun H9 e9 => q H9 (e08.trans e9)
theorem ok__fits_item {f : Addr} {fd : FuncData} {n : Nat} (T : Tx mg) (F : Fun K "_fits_item" "_fits_item" s__fits_item f fd) (c_fits : Cl P w K mg base "fits" ["condition", "kind"] (2 * n + 1) (spFits K n)) : FnOk P w K mg base CX0 (2 * n + 1 + 1) f fd ["place", "condition", "kinds"] (spFitsItem K n) := by
  refine F.ok sc__fits_item (fun vs H Q E h => ?_) (fun cdv A outer s H vs Q E hr h => ?_)
  · obtain ⟨i, v, u, c, ks, rfl, _⟩ := h
    rfl
  obtain ⟨i, v, u, c, ks, rfl, hv, hc, hu, hk, q⟩ := h
  refine ⟨_, (pss_one (ps_ret (pe_and (pe_chain op_le op_lt pe_int (pv 0) (pe_callB call_len_seq (by rfl) T.z_len PySem.boot_len (pa_cons (pv 2) pa_nil))) (pe_one (pe_call c_fits.ok (hr.mono (by omega)) (by rfl) c_fits.m c_fits.kp c_fits.b .nil pass0 (pa_cons (pv 1) (pa_cons (pe_ix (r := rIxT K) ix_tup (pv 2) (pv 0) (fun _ _ => rfl)) pa_nil))))))), ?_⟩
  obtain ⟨b, rfl⟩ := hu.ref
  obtain ⟨ys, hys, hyl, hyi⟩ := hu.get
  have hyk : ys.length = ks.length := by rw [hyl, dataAll_map, List.length_map]
  refine s_ret (ev_is (ev_andV (b := fitsC c (ks.getD i.toNat .int)) (ev_chain ev_c (ev_var rfl) (ev_lenT (ev_var rfl) hys) rv_I0 rv_I0) fun hb => ev_one (ev_callC (vs := [v, ys.getD i.toNat .non]) (ea_cons (ev_var rfl) (ea_cons ?_ ea_nil)) ?_)) ?_) q
  · obtain ⟨h0, h1⟩ := Bool.and_eq_true_iff.mp hb
    have h0 := of_decide_eq_true h0
    have h1 := of_decide_eq_true h1
    obtain ⟨j, rfl⟩ := Int.eq_ofNat_of_zero_le h0
    exact ev_ixT (j := j) (ev_var rfl) (ev_var rfl) hys (getD_at (by omega))
  · obtain ⟨h0, h1⟩ := Bool.and_eq_true_iff.mp hb
    have h0 := of_decide_eq_true h0
    have h1 := of_decide_eq_true h1
    have hi : i.toNat < ks.length := by omega
    have hyd : (dataAll ks)[i.toNat]? = some (ks.getD i.toNat .int).data := by rw [dataAll_map, List.getElem?_map, getD_at (a0 := Kd.int) hi]; rfl
    exact fits_call hv hc (hyi _ _ _ (getD_at (by omega)) hyd) (hk _ (List.mem_of_getElem? (getD_at hi)))
  · rw [hyk]
theorem ok__fits_list {f : Addr} {fd : FuncData} {n : Nat} (T : Tx mg) (F : Fun K "_fits_list" "_fits_list" s__fits_list f fd) (c_fits : Cl P w K mg base "fits" ["condition", "kind"] (2 * n + 1) (spFits K n)) : FnOk P w K mg base CX0 (2 * n + 1 + 1) f fd ["condition", "listed"] (spFitsList K n) := by
  refine F.ok sc__fits_list (fun vs H Q E h => ?_) (fun cdv A outer s H vs Q E hr h => ?_)
  · obtain ⟨v, u, c, j, rfl, _⟩ := h
    rfl
  obtain ⟨v, u, c, j, rfl, hv, hc, ho, hu, hj, q⟩ := h
  refine ⟨_, (pss_cons (ps_set (i := 2) sc__fits_list.nd rfl (Or.inl rfl) (pe_ix (r := rIxT K) ix_tup (pv 0) pe_int (fun _ _ => rfl)))
      (pss_cons (ps_if (pt_cmpR op_in_seq (pv 2) (pe_tup (pa_cons pe_str (pa_cons pe_str pa_nil))) (by rfl)) (pss_one (ps_ret (pe_call c_fits.ok (hr.mono (by omega)) (by rfl) c_fits.m c_fits.kp c_fits.b .nil pass0 (pa_cons (pe_ix (r := rIxT K) ix_tup (pv 0) pe_int (fun _ _ => rfl)) (pa_cons (pv 1) pa_nil))))) pss_nil)
      (pss_cons (ps_if (pt_cmpR op_eq (pv 2) pe_str (nomark _)) (pss_one (ps_ret (pe_call c_fits.ok (hr.mono (by omega)) (by rfl) c_fits.m c_fits.kp c_fits.b .nil pass0 (pa_cons (pe_ix (r := rIxT K) ix_tup (pv 0) pe_int (fun _ _ => rfl)) (pa_cons pe_str pa_nil))))) pss_nil)
      (pss_cons (ps_if (pt_cmpR op_eq (pv 2) pe_str (nomark _)) (pss_one (ps_ret (pe_and (pe_cmpR (op_eqD hr.units) (pv 1) pe_str (nomark _)) (pe_one (pe_call c_fits.ok (hr.mono (by omega)) (by rfl) c_fits.m c_fits.kp c_fits.b .nil pass0 (pa_cons (pe_ix (r := rIxT K) ix_tup (pv 0) pe_int (fun _ _ => rfl)) (pa_cons pe_str pa_nil))))))) pss_nil)
      (pss_cons (ps_if (pt_cmpR op_eq (pv 2) pe_str (nomark _)) (pss_one (ps_ret (pe_cmpR (op_eqD hr.units) (pv 1) pe_str (nomark _)))) pss_nil)
      (pss_one (ps_ret (pe_cmpR op_eq (pv 2) pe_str (nomark _))))))))), ?_⟩
  cases c with
  | atmost m => cases ho
  | divides m => cases ho
  | is m => cases ho
  | item m c => cases ho
  | not_ c => cases ho
  | and_ c d => cases ho
  | or_ c d => cases ho
  | every c =>
    rw [Cd.data] at hv
    obtain ⟨a, x, y, rfl, hs, hx, hy⟩ := hv.g2
    cases hx.str_inv
    refine q_asg (ev_ixT (j := 0) (ev_var rfl) ev_c hs rfl) fun H1 e1 => ?_
    have hc1 : OkC n c := by cases hc with | every h => exact h
    refine takeT e1 rfl (ea_cons ev_c (ea_cons ev_c ea_nil)) (by show 2 ≤ 100000; decide) rfl (by decide +kernel) fun H2 e2 => ?_
    exact s_ret (ev_callC (ea_cons (ev_ixT (j := 1) (ev_var rfl) ev_c (ex_t e2 hs) rfl) (ea_cons (ev_var rfl) ea_nil)) (fits_call (hy.keep (Kt.same e2)) hc1 (hu.keep (Kt.same e2)) hj)) fun H9 e9 => q H9 (e2.trans e9)
  | some_ c =>
    rw [Cd.data] at hv
    obtain ⟨a, x, y, rfl, hs, hx, hy⟩ := hv.g2
    cases hx.str_inv
    refine q_asg (ev_ixT (j := 0) (ev_var rfl) ev_c hs rfl) fun H1 e1 => ?_
    have hc1 : OkC n c := by cases hc with | some_ h => exact h
    refine takeT e1 rfl (ea_cons ev_c (ea_cons ev_c ea_nil)) (by show 2 ≤ 100000; decide) rfl (by decide +kernel) fun H2 e2 => ?_
    exact s_ret (ev_callC (ea_cons (ev_ixT (j := 1) (ev_var rfl) ev_c (ex_t e2 hs) rfl) (ea_cons (ev_var rfl) ea_nil)) (fits_call (hy.keep (Kt.same e2)) hc1 (hu.keep (Kt.same e2)) hj)) fun H9 e9 => q H9 (e2.trans e9)
  | size c =>
    rw [Cd.data] at hv
    obtain ⟨a, x, y, rfl, hs, hx, hy⟩ := hv.g2
    cases hx.str_inv
    refine q_asg (ev_ixT (j := 0) (ev_var rfl) ev_c hs rfl) fun H1 e1 => ?_
    have hc1 : OkC n c := by cases hc with | size h => exact h
    refine skipT e1 rfl (ea_cons ev_c (ea_cons ev_c ea_nil)) (by show 2 ≤ 100000; decide) rfl (by decide +kernel) fun H2 e2 => ?_
    refine takeS e2 rfl (by decide +kernel) fun H3 e3 => ?_
    exact s_ret (ev_callC (ea_cons (ev_ixT (j := 1) (ev_var rfl) ev_c (ex_t e3 hs) rfl) (ea_cons ev_c ea_nil)) (fits_call (hy.keep (Kt.same e3)) hc1 int_data .int)) fun H9 e9 => q H9 (e3.trans e9)
  | sum c =>
    rw [Cd.data] at hv
    obtain ⟨a, x, y, rfl, hs, hx, hy⟩ := hv.g2
    cases hx.str_inv
    refine q_asg (ev_ixT (j := 0) (ev_var rfl) ev_c hs rfl) fun H1 e1 => ?_
    have hc1 : OkC n c := by cases hc with | sum h => exact h
    refine skipT e1 rfl (ea_cons ev_c (ea_cons ev_c ea_nil)) (by show 2 ≤ 100000; decide) rfl (by decide +kernel) fun H2 e2 => ?_
    refine skipS e2 rfl (by decide +kernel) fun H3 e3 => ?_
    refine takeS e3 rfl (by decide +kernel) fun H4 e4 => ?_
    exact s_ret (ev_andV (ev_isInt (ev_var rfl) (hu.keep (Kt.same e4)) hj (by omega)) fun _ => ev_one (ev_callC (ea_cons (ev_ixT (j := 1) (ev_var rfl) ev_c (ex_t e4 hs) rfl) (ea_cons ev_c ea_nil)) (fits_call (hy.keep (Kt.same e4)) hc1 int_data .int))) fun H9 e9 => q H9 (e4.trans e9)
  | rising =>
    rw [Cd.data] at hv
    obtain ⟨a, x, rfl, hs, hx⟩ := hv.g1
    cases hx.str_inv
    refine q_asg (ev_ixT (j := 0) (ev_var rfl) ev_c hs rfl) fun H1 e1 => ?_
    refine skipT e1 rfl (ea_cons ev_c (ea_cons ev_c ea_nil)) (by show 2 ≤ 100000; decide) rfl (by decide +kernel) fun H2 e2 => ?_
    refine skipS e2 rfl (by decide +kernel) fun H3 e3 => ?_
    refine skipS e3 rfl (by decide +kernel) fun H4 e4 => ?_
    refine takeS e4 rfl (by decide +kernel) fun H5 e5 => ?_
    exact s_ret (ev_isInt (ev_var rfl) (hu.keep (Kt.same e5)) hj (by omega)) fun H9 e9 => q H9 (e5.trans e9)
  | different =>
    rw [Cd.data] at hv
    obtain ⟨a, x, rfl, hs, hx⟩ := hv.g1
    cases hx.str_inv
    refine q_asg (ev_ixT (j := 0) (ev_var rfl) ev_c hs rfl) fun H1 e1 => ?_
    refine skipT e1 rfl (ea_cons ev_c (ea_cons ev_c ea_nil)) (by show 2 ≤ 100000; decide) rfl (by decide +kernel) fun H2 e2 => ?_
    refine skipS e2 rfl (by decide +kernel) fun H3 e3 => ?_
    refine skipS e3 rfl (by decide +kernel) fun H4 e4 => ?_
    refine skipS e4 rfl (by decide +kernel) fun H5 e5 => ?_
    exact s_ret (ev_is (ev_op (ev_var rfl) ev_c (rv_eq rfl)) (by rw [decide_eq_true rfl]; rfl)) fun H9 e9 => q H9 (e5.trans e9)
end
end K4
namespace K4
open PySem PySem.Spec PyProof.Rows L2 Evl CrT Cr Sm Fb
section
variable {P : Program} {w : World} {K : PySem.W.Frag} {mg : Str → Option Value} {base : Heap}
variable {A : Atm}
abbrev s_is_word : Stmt := topS 7
abbrev N_is_word : List Str := ["text", "letter"]
theorem sc_is_word : FnScope N_is_word ["text"] (defScope s_is_word) := ⟨rfl, rfl, rfl, by decide +kernel, rfl, by decide +kernel, by decide +kernel⟩
theorem ok_is_word {f : Addr} {fd : FuncData} {L : Nat} (T : Tx mg) (F : Fun K "is_word" "is_word" s_is_word f fd)  :
    FnOk P w K mg base CX0 (L + 1) f fd ["text"] (spF K A (runF 2 1 (b_is_word))) := by
  obtain ⟨_, m_LETTERS⟩ := T.m_LETTERS
  refine F.ok sc_is_word (fun vs H Q E h => body_len h) (fun cdv A' outer s H vs Q E hr h => ?_)
  refine ⟨_, (pss_one (ps_ret (pe_and (pe_chain op_leX op_leX pe_int (pe_callB (r := rLenX K) cr_lenX (by rfl) T.z_len PySem.boot_len (pa_cons (pv 0) pa_nil)) (pe_glob (v := .int 8) (by rfl) m_LETTERS ⟨_, rfl⟩)) (pe_one (pe_callB (r := rAll K) (cr_all rfl) (by rfl) T.z_all (by decide +kernel) (pa_cons (pe_lc (own := [("letter", 1)]) (g := gName 1) (by rfl) sc_is_word.nd (pi_seq (pv 0)) (blkOk_by (own := [("letter", 1)]) (N := N_is_word) (sc := defScope s_is_word) (by decide +kernel)) (fun _ _ _ _ _ => (pg_name (i := 1) sc_is_word.nd rfl (Or.inl rfl))) (fun _ _ _ _ _ => pts_nil) (fun _ _ _ _ _ => (pe_chain op_leX op_leX pe_str (pv 1) pe_str))) pa_nil)))))), ?_⟩
  exact body_ok (N := N_is_word) (f := b_is_word) (ss_ret (se_and (se_chain se_int (se_lenV 0) se_int rd_le rd_le) (se_cb (sa_cons (se_l (sl_lc (vs := [1]) (si_seq (se_var 0)) (sg_name 1) (by decide) st_yes (se_chain se_str (se_var 1) se_str rd_le rd_le))) sa_nil) rc_all))) h
abbrev s_kinds_in_tuple : Stmt := topS 8
abbrev N_kinds_in_tuple : List Str := ["kind"]
theorem sc_kinds_in_tuple : FnScope N_kinds_in_tuple ["kind"] (defScope s_kinds_in_tuple) := ⟨rfl, rfl, rfl, by decide +kernel, rfl, by decide +kernel, by decide +kernel⟩
theorem ok_kinds_in_tuple {f : Addr} {fd : FuncData} {L : Nat} (T : Tx mg) (F : Fun K "kinds_in_tuple" "kinds_in_tuple" s_kinds_in_tuple f fd)  :
    FnOk P w K mg base CX0 (L + 1) f fd ["kind"] (spF K A (runF 1 1 (b_kinds_in_tuple))) := by
  refine F.ok sc_kinds_in_tuple (fun vs H Q E h => body_len h) (fun cdv A' outer s H vs Q E hr h => ?_)
  refine ⟨_, (pss_cons (ps_if (PW.pt (pw_and (pt_val (pe_callB (r := rIsi K) call_isi (by rfl) T.z_isinstance (by decide +kernel) (pa_cons (pv 0) (pa_cons (pe_bltn (v := .ty "tuple") (u := .type "tuple") (by rfl) T.z_tuple (by decide +kernel) rfl) pa_nil)))) (pw_and1 (pt_cmpR (r := rEqX K) (op_eqX hr.units) (pe_ix (r := rIx K) ix_seq (pv 0) pe_int (fun _ _ => rfl)) pe_str (nomark _))))) (pss_one (ps_ret (pe_ix (r := rIx K) ix_seq (pv 0) pe_int (fun _ _ => rfl)))) pss_nil)
      (pss_one (ps_ret (pe_tup pa_nil)))), ?_⟩
  exact body_ok (N := N_kinds_in_tuple) (f := b_kinds_in_tuple) (ss_seq (ss_if (st_and (st_B (se_isi (se_var 0))) (st_test (se_op (se_op (se_var 0) se_int rd_ix) se_str rd_eq))) (ss_ret (se_op (se_var 0) se_int rd_ix)) ss_next)
      (ss_ret (se_tup sa_nil))) h
abbrev s_kind_in_list : Stmt := topS 9
abbrev N_kind_in_list : List Str := ["kind"]
theorem sc_kind_in_list : FnScope N_kind_in_list ["kind"] (defScope s_kind_in_list) := ⟨rfl, rfl, rfl, by decide +kernel, rfl, by decide +kernel, by decide +kernel⟩
theorem ok_kind_in_list {f : Addr} {fd : FuncData} {L : Nat} (T : Tx mg) (F : Fun K "kind_in_list" "kind_in_list" s_kind_in_list f fd)  :
    FnOk P w K mg base CX0 (L + 1) f fd ["kind"] (spF K A (runF 1 1 (b_kind_in_list))) := by
  refine F.ok sc_kind_in_list (fun vs H Q E h => body_len h) (fun cdv A' outer s H vs Q E hr h => ?_)
  refine ⟨_, (pss_cons (ps_if (PW.pt (pw_and (pt_val (pe_callB (r := rIsi K) call_isi (by rfl) T.z_isinstance (by decide +kernel) (pa_cons (pv 0) (pa_cons (pe_bltn (v := .ty "tuple") (u := .type "tuple") (by rfl) T.z_tuple (by decide +kernel) rfl) pa_nil)))) (pw_and1 (pt_cmpR (r := rEqX K) (op_eqX hr.units) (pe_ix (r := rIx K) ix_seq (pv 0) pe_int (fun _ _ => rfl)) pe_str (nomark _))))) (pss_one (ps_ret (pe_ix (r := rIx K) ix_seq (pv 0) pe_int (fun _ _ => rfl)))) pss_nil)
      (pss_one (ps_ret pe_non))), ?_⟩
  exact body_ok (N := N_kind_in_list) (f := b_kind_in_list) (ss_seq (ss_if (st_and (st_B (se_isi (se_var 0))) (st_test (se_op (se_op (se_var 0) se_int rd_ix) se_str rd_eq))) (ss_ret (se_op (se_var 0) se_int rd_ix)) ss_next)
      (ss_ret se_non)) h
abbrev s_kind_behind : Stmt := topS 23
abbrev N_kind_behind : List Str := ["some_map", "kind", "name", "kinds", "listed"]
theorem sc_kind_behind : FnScope N_kind_behind ["some_map", "kind"] (defScope s_kind_behind) := ⟨rfl, rfl, rfl, by decide +kernel, rfl, by decide +kernel, by decide +kernel⟩
theorem ok_kind_behind {f : Addr} {fd : FuncData} {L : Nat} {f_kinds_in_tuple f_kind_in_list : Fn} (T : Tx mg) (F : Fun K "kind_behind" "kind_behind" s_kind_behind f fd) (c_kinds_in_tuple : Cl P w K mg base "kinds_in_tuple" ["kind"] L (spF K A f_kinds_in_tuple)) (c_kind_in_list : Cl P w K mg base "kind_in_list" ["kind"] L (spF K A f_kind_in_list)) :
    FnOk P w K mg base CX0 (L + 1) f fd ["some_map", "kind"] (spF K A (runF 5 2 (b_kind_behind f_kinds_in_tuple f_kind_in_list))) := by
  obtain ⟨_, m_GREAT⟩ := T.m_GREAT
  refine F.ok sc_kind_behind (fun vs H Q E h => body_len h) (fun cdv A' outer s H vs Q E hr h => ?_)
  refine ⟨_, (pss_cons (ps_set (i := 2) sc_kind_behind.nd rfl (Or.inl rfl) (pe_ix (r := rIx K) ix_seq (pv 0) pe_int (fun _ _ => rfl)))
      (pss_cons (ps_if (pt_cmpR (r := rInX K) (op_inX (Cr.Room.u65 hr)) (pv 2) (pe_tup (pa_cons pe_str (pa_cons pe_str pa_nil))) (by rfl)) (pss_one (ps_ret (pe_ifExp (PW.pt (pw_and (pt_cmpR (r := rEqX K) (op_eqX hr.units) (pv 1) pe_str (nomark _)) (pw_and1 (pt_chain op_leX op_leX (pe_un un_neg (pe_glob (v := .int 1000) (by rfl) m_GREAT ⟨_, rfl⟩)) (pe_ix (r := rIx K) ix_seq (pv 0) pe_int (fun _ _ => rfl)) (pe_glob (v := .int 1000) (by rfl) m_GREAT ⟨_, rfl⟩))))) pe_str pe_non))) pss_nil)
      (pss_cons (ps_if (pt_cmpR (r := rEqX K) (op_eqX hr.units) (pv 2) pe_str (nomark _)) (pss_cons (ps_set (i := 3) sc_kind_behind.nd rfl (Or.inl rfl) (pe_call c_kinds_in_tuple.ok hr (by rfl) c_kinds_in_tuple.m c_kinds_in_tuple.kp c_kinds_in_tuple.b .nil pass0 (pa_cons (pv 1) pa_nil)))
        (pss_one (ps_ret (pe_ifExp (pt_chain op_leX op_lt pe_int (pe_ix (r := rIx K) ix_seq (pv 0) pe_int (fun _ _ => rfl)) (pe_callB (r := rLenX K) cr_lenX (by rfl) T.z_len PySem.boot_len (pa_cons (pv 3) pa_nil))) (pe_ix (r := rIx K) ix_seq (pv 3) (pe_ix (r := rIx K) ix_seq (pv 0) pe_int (fun _ _ => rfl)) (fun _ _ => rfl)) pe_non)))) pss_nil)
      (pss_cons (ps_set (i := 4) sc_kind_behind.nd rfl (Or.inl rfl) (pe_call c_kind_in_list.ok hr (by rfl) c_kind_in_list.m c_kind_in_list.kp c_kind_in_list.b .nil pass0 (pa_cons (pv 1) pa_nil)))
      (pss_cons (ps_if (pt_cmpR op_isN (pv 4) pe_non (nomark _)) (pss_one (ps_ret pe_non)) pss_nil)
      (pss_cons (ps_if (pt_cmpR (r := rEqX K) (op_eqX hr.units) (pv 2) pe_str (nomark _)) (pss_one (ps_ret pe_str)) pss_nil)
      (pss_cons (ps_if (pt_cmpR (r := rEqX K) (op_eqX hr.units) (pv 2) pe_str (nomark _)) (pss_one (ps_ret (pe_ifExp (pt_cmpR (r := rEqX K) (op_eqX hr.units) (pv 4) pe_str (nomark _)) pe_str pe_non))) pss_nil)
      (pss_cons (ps_if (pt_cmpR (r := rEqX K) (op_eqX hr.units) (pv 2) pe_str (nomark _)) (pss_one (ps_ret (pe_ifExp (pt_cmpR (r := rInX K) (op_inX (Cr.Room.u65 hr)) (pv 4) (pe_tup (pa_cons pe_str (pa_cons pe_str pa_nil))) (by rfl)) (pv 1) pe_non))) pss_nil)
      (pss_one (ps_ret (pv 1))))))))))), ?_⟩
  exact body_ok (N := N_kind_behind) (f := b_kind_behind f_kinds_in_tuple f_kind_in_list) (ss_seq (ss_asg (se_op (se_var 0) se_int rd_ix) (sg_name 2))
      (ss_seq (ss_if (st_test (se_op (se_var 2) (se_tup (sa_cons se_str (sa_cons se_str sa_nil))) rd_in)) (ss_ret (se_if (st_and (st_test (se_op (se_var 1) se_str rd_eq)) (st_test (se_chain (se_un se_int ru_neg1) (se_op (se_var 0) se_int rd_ix) se_int rd_le rd_le))) se_str se_non)) ss_next)
      (ss_seq (ss_if (st_test (se_op (se_var 2) se_str rd_eq)) (ss_seq (ss_asg (se_call (sa_cons (se_var 1) sa_nil)) (sg_name 3))
        (ss_ret (se_if (st_test (se_chain se_int (se_op (se_var 0) se_int rd_ix) (se_lenV 3) rd_le rd_lt)) (se_op (se_var 3) (se_op (se_var 0) se_int rd_ix) rd_ix) se_non))) ss_next)
      (ss_seq (ss_asg (se_call (sa_cons (se_var 1) sa_nil)) (sg_name 4))
      (ss_seq (ss_if (st_test (se_op (se_var 4) se_non rd_isN)) (ss_ret se_non) ss_next)
      (ss_seq (ss_if (st_test (se_op (se_var 2) se_str rd_eq)) (ss_ret se_str) ss_next)
      (ss_seq (ss_if (st_test (se_op (se_var 2) se_str rd_eq)) (ss_ret (se_if (st_test (se_op (se_var 4) se_str rd_eq)) se_str se_non)) ss_next)
      (ss_seq (ss_if (st_test (se_op (se_var 2) se_str rd_eq)) (ss_ret (se_if (st_test (se_op (se_var 4) (se_tup (sa_cons se_str (sa_cons se_str sa_nil))) rd_in)) (se_var 1) se_non)) ss_next)
      (ss_ret (se_var 1)))))))))) h
abbrev s_parts_in : Stmt := topS 17
abbrev N_parts_in : List Str := ["generator", "name"]
theorem sc_parts_in : FnScope N_parts_in ["generator"] (defScope s_parts_in) := ⟨rfl, rfl, rfl, by decide +kernel, rfl, by decide +kernel, by decide +kernel⟩
theorem ok_parts_in {f : Addr} {fd : FuncData} {L : Nat} (T : Tx mg) (F : Fun K "parts_in" "parts_in" s_parts_in f fd)  :
    FnOk P w K mg base CX0 (L + 1) f fd ["generator"] (spF K A (runF 2 1 (b_parts_in))) := by
  refine F.ok sc_parts_in (fun vs H Q E h => body_len h) (fun cdv A' outer s H vs Q E hr h => ?_)
  refine ⟨_, (pss_cons (ps_set (i := 1) sc_parts_in.nd rfl (Or.inl rfl) (pe_ix (r := rIx K) ix_seq (pv 0) pe_int (fun _ _ => rfl)))
      (pss_cons (ps_if (pt_cmpR (r := rInX K) (op_inX (Cr.Room.u65 hr)) (pv 1) (pe_tup (pa_cons pe_str (pa_cons pe_str pa_nil))) (by rfl)) (pss_one (ps_ret (pe_ix (r := rIx K) ix_seq (pv 0) pe_int (fun _ _ => rfl)))) pss_nil)
      (pss_cons (ps_if (pt_cmpR (r := rInX K) (op_inX (Cr.Room.u65 hr)) (pv 1) (pe_tup (pa_cons pe_str (pa_cons pe_str (pa_cons pe_str pa_nil)))) (by rfl)) (pss_one (ps_ret (pe_tup (pa_cons (pe_ix (r := rIx K) ix_seq (pv 0) pe_int (fun _ _ => rfl)) pa_nil)))) pss_nil)
      (pss_cons (ps_if (pt_cmpR (r := rEqX K) (op_eqX hr.units) (pv 1) pe_str (nomark _)) (pss_one (ps_ret (pe_tup (pa_cons (pe_ix (r := rIx K) ix_seq (pv 0) pe_int (fun _ _ => rfl)) (pa_cons (pe_ix (r := rIx K) ix_seq (pv 0) pe_int (fun _ _ => rfl)) pa_nil))))) pss_nil)
      (pss_one (ps_ret (pe_tup pa_nil))))))), ?_⟩
  exact body_ok (N := N_parts_in) (f := b_parts_in) (ss_seq (ss_asg (se_op (se_var 0) se_int rd_ix) (sg_name 1))
      (ss_seq (ss_if (st_test (se_op (se_var 1) (se_tup (sa_cons se_str (sa_cons se_str sa_nil))) rd_in)) (ss_ret (se_op (se_var 0) se_int rd_ix)) ss_next)
      (ss_seq (ss_if (st_test (se_op (se_var 1) (se_tup (sa_cons se_str (sa_cons se_str (sa_cons se_str sa_nil)))) rd_in)) (ss_ret (se_tup (sa_cons (se_op (se_var 0) se_int rd_ix) sa_nil))) ss_next)
      (ss_seq (ss_if (st_test (se_op (se_var 1) se_str rd_eq)) (ss_ret (se_tup (sa_cons (se_op (se_var 0) se_int rd_ix) (sa_cons (se_op (se_var 0) se_int rd_ix) sa_nil)))) ss_next)
      (ss_ret (se_tup sa_nil)))))) h
abbrev s__are_right_words : Stmt := topS 21
abbrev N__are_right_words : List Str := ["words", "are_different", "word"]
theorem sc__are_right_words : FnScope N__are_right_words ["words"] (defScope s__are_right_words) := ⟨rfl, rfl, rfl, by decide +kernel, rfl, by decide +kernel, by decide +kernel⟩
theorem ok__are_right_words {f : Addr} {fd : FuncData} {L : Nat} {f_is_word : Fn} (T : Tx mg) (F : Fun K "_are_right_words" "_are_right_words" s__are_right_words f fd) (c_is_word : Cl P w K mg base "is_word" ["text"] L (spF K A f_is_word)) :
    FnOk P w K mg base CX0 (L + 1) f fd ["words"] (spF K A (runF 3 1 (b__are_right_words f_is_word))) := by
  obtain ⟨_, m_WORDS⟩ := T.m_WORDS
  refine F.ok sc__are_right_words (fun vs H Q E h => body_len h) (fun cdv A' outer s H vs Q E hr h => ?_)
  refine ⟨_, (pss_cons (ps_set (i := 1) sc__are_right_words.nd rfl (Or.inl rfl) (pe_cmpR (r := rEqX K) (op_eqX hr.units) (CrU.pe_lenW rfl (by rfl) T.z_len (by rfl) T.z_set (pv 0)) (pe_callB (r := rLenX K) cr_lenX (by rfl) T.z_len PySem.boot_len (pa_cons (pv 0) pa_nil)) (nomark _)))
      (pss_one (ps_ret (pe_and (pe_chain op_leX op_leX pe_int (pe_callB (r := rLenX K) cr_lenX (by rfl) T.z_len PySem.boot_len (pa_cons (pv 0) pa_nil)) (pe_glob (v := .int 10) (by rfl) m_WORDS ⟨_, rfl⟩)) (pe_and (pv 1) (pe_one (pe_callB (r := rAll K) (cr_all rfl) (by rfl) T.z_all (by decide +kernel) (pa_cons (pe_lc (own := [("word", 2)]) (g := gName 2) (by rfl) sc__are_right_words.nd (pi_seq (pv 0)) (blkOk_by (own := [("word", 2)]) (N := N__are_right_words) (sc := defScope s__are_right_words) (by decide +kernel)) (fun _ _ _ _ _ => (pg_name (i := 2) sc__are_right_words.nd rfl (Or.inl rfl))) (fun _ _ _ _ _ => pts_nil) (fun _ _ _ _ _ => (pe_call c_is_word.ok hr (by rfl) c_is_word.m c_is_word.kp c_is_word.b .nil pass0 (pa_cons (pv 2) pa_nil)))) pa_nil)))))))), ?_⟩
  exact body_ok (N := N__are_right_words) (f := b__are_right_words f_is_word) (ss_seq (ss_asg (se_op (se_lenW (se_var 0)) (se_lenV 0) rd_eq) (sg_name 1))
      (ss_ret (se_and (se_chain se_int (se_lenV 0) se_int rd_le rd_le) (se_and (se_var 1) (se_cb (sa_cons (se_l (sl_lc (vs := [2]) (si_seq (se_var 0)) (sg_name 2) (by decide) st_yes (se_call (sa_cons (se_var 2) sa_nil)))) sa_nil) rc_all))))) h
abbrev s__fault_itself : Stmt := topS 20
abbrev N__fault_itself : List Str := ["generator", "kinds", "name", "kind"]
theorem sc__fault_itself : FnScope N__fault_itself ["generator", "kinds"] (defScope s__fault_itself) := ⟨rfl, rfl, rfl, by decide +kernel, rfl, by decide +kernel, by decide +kernel⟩
theorem ok__fault_itself {f : Addr} {fd : FuncData} {L : Nat} {f__are_right_words f_fits f_kind_behind : Fn} (T : Tx mg) (F : Fun K "_fault_itself" "_fault_itself" s__fault_itself f fd) (c__are_right_words : Cl P w K mg base "_are_right_words" ["words"] L (spF K A f__are_right_words)) (c_fits : Cl P w K mg base "fits" ["condition", "kind"] L (spF K A f_fits)) (c_kind_behind : Cl P w K mg base "kind_behind" ["some_map", "kind"] L (spF K A f_kind_behind)) :
    FnOk P w K mg base CX0 (L + 1) f fd ["generator", "kinds"] (spF K A (runF 4 2 (b__fault_itself f__are_right_words f_fits f_kind_behind))) := by
  obtain ⟨_, m_GREAT⟩ := T.m_GREAT
  obtain ⟨_, m_ITEMS⟩ := T.m_ITEMS
  obtain ⟨_, m_LONG⟩ := T.m_LONG
  refine F.ok sc__fault_itself (fun vs H Q E h => body_len h) (fun cdv A' outer s H vs Q E hr h => ?_)
  refine ⟨_, (pss_cons (ps_set (i := 2) sc__fault_itself.nd rfl (Or.inl rfl) (pe_ix (r := rIx K) ix_seq (pv 0) pe_int (fun _ _ => rfl)))
      (pss_cons (ps_if (PW.pt (pw_and (pt_cmpR (r := rEqX K) (op_eqX hr.units) (pv 2) pe_str (nomark _)) (pw_and1 (pt_not (pt_chain3 op_leX op_leX op_leX (pe_un un_neg (pe_glob (v := .int 1000) (by rfl) m_GREAT ⟨_, rfl⟩)) (pe_ix (r := rIx K) ix_seq (pv 0) pe_int (fun _ _ => rfl)) (pe_ix (r := rIx K) ix_seq (pv 0) pe_int (fun _ _ => rfl)) (pe_glob (v := .int 1000) (by rfl) m_GREAT ⟨_, rfl⟩)))))) (pss_one (ps_ret pe_str)) pss_nil)
      (pss_cons (ps_if (PW.pt (pw_and (pt_cmpR (r := rEqX K) (op_eqX hr.units) (pv 2) pe_str (nomark _)) (pw_and1 (pt_not (pt_chain3 op_leX op_leX op_leX pe_int (pe_ix (r := rIx K) ix_seq (pv 0) pe_int (fun _ _ => rfl)) (pe_ix (r := rIx K) ix_seq (pv 0) pe_int (fun _ _ => rfl)) (pe_glob (v := .int 6) (by rfl) m_LONG ⟨_, rfl⟩)))))) (pss_one (ps_ret pe_str)) pss_nil)
      (pss_cons (ps_if (PW.pt (pw_and (pt_cmpR (r := rEqX K) (op_eqX hr.units) (pv 2) pe_str (nomark _)) (pw_and1 (pt_not (pt_val (pe_call c__are_right_words.ok hr (by rfl) c__are_right_words.m c__are_right_words.kp c__are_right_words.b .nil pass0 (pa_cons (pe_ix (r := rIx K) ix_seq (pv 0) pe_int (fun _ _ => rfl)) pa_nil))))))) (pss_one (ps_ret pe_str)) pss_nil)
      (pss_cons (ps_if (PW.pt (pw_and (pt_cmpR (r := rEqX K) (op_eqX hr.units) (pv 2) pe_str (nomark _)) (pw_and1 (pt_cmpR op_gt (pe_callB (r := rLenX K) cr_lenX (by rfl) T.z_len PySem.boot_len (pa_cons (pv 1) pa_nil)) (pe_glob (v := .int 4) (by rfl) m_ITEMS ⟨_, rfl⟩) (nomark _))))) (pss_one (ps_ret pe_str)) pss_nil)
      (pss_cons (ps_if (PW.pt (pw_and (pt_cmpR (r := rEqX K) (op_eqX hr.units) (pv 2) pe_str (nomark _)) (pw_and1 (pt_not (pt_chain op_leX op_leX pe_int (pe_callB (r := rLenX K) cr_lenX (by rfl) T.z_len PySem.boot_len (pa_cons (pv 1) pa_nil)) (pe_glob (v := .int 4) (by rfl) m_ITEMS ⟨_, rfl⟩)))))) (pss_one (ps_ret pe_str)) pss_nil)
      (pss_cons (ps_if (PW.pt (pw_and (pt_cmpR (r := rEqX K) (op_eqX hr.units) (pv 2) pe_str (nomark _)) (pw_and1 (pt_val (pe_callB (r := rAny K) (cr_any rfl) (by rfl) T.z_any (by decide +kernel) (pa_cons (pe_lc (own := [("kind", 3)]) (g := gName 3) (by rfl) sc__fault_itself.nd (pi_seq (pv 1)) (blkOk_by (own := [("kind", 3)]) (N := N__fault_itself) (sc := defScope s__fault_itself) (by decide +kernel)) (fun _ _ _ _ _ => (pg_name (i := 3) sc__fault_itself.nd rfl (Or.inl rfl))) (fun _ _ _ _ _ => pts_nil) (fun _ _ _ _ _ => (pe_cmpR (r := rNeX K) (op_neX hr.units) (pv 3) (pe_ix (r := rIx K) ix_seq (pv 1) pe_int (fun _ _ => rfl)) (nomark _)))) pa_nil)))))) (pss_one (ps_ret pe_str)) pss_nil)
      (pss_cons (ps_if (PW.pt (pw_and (pt_cmpR (r := rEqX K) (op_eqX hr.units) (pv 2) pe_str (nomark _)) (pw_and1 (pt_not (pt_val (pe_call c_fits.ok hr (by rfl) c_fits.m c_fits.kp c_fits.b .nil pass0 (pa_cons (pe_ix (r := rIx K) ix_seq (pv 0) pe_int (fun _ _ => rfl)) (pa_cons (pe_ix (r := rIx K) ix_seq (pv 1) pe_int (fun _ _ => rfl)) pa_nil)))))))) (pss_one (ps_ret pe_str)) pss_nil)
      (pss_cons (ps_if (PW.pt (pw_and (pt_cmpR (r := rEqX K) (op_eqX hr.units) (pv 2) pe_str (nomark _)) (pw_and1 (pt_cmpR op_isN (pe_call c_kind_behind.ok hr (by rfl) c_kind_behind.m c_kind_behind.kp c_kind_behind.b .nil pass0 (pa_cons (pe_ix (r := rIx K) ix_seq (pv 0) pe_int (fun _ _ => rfl)) (pa_cons (pe_ix (r := rIx K) ix_seq (pv 1) pe_int (fun _ _ => rfl)) pa_nil))) pe_non (nomark _))))) (pss_one (ps_ret pe_str)) pss_nil)
      (pss_cons (ps_if (PW.pt (pw_and (pt_cmpR (r := rEqX K) (op_eqX hr.units) (pv 2) pe_str (nomark _)) (pw_and1 (pt_cmpR (r := rNeX K) (op_neX hr.units) (pe_ix (r := rIx K) ix_seq (pv 1) pe_int (fun _ _ => rfl)) pe_str (nomark _))))) (pss_one (ps_ret pe_str)) pss_nil)
      (pss_one (ps_ret pe_non)))))))))))), ?_⟩
  exact body_ok (N := N__fault_itself) (f := b__fault_itself f__are_right_words f_fits f_kind_behind) (ss_seq (ss_asg (se_op (se_var 0) se_int rd_ix) (sg_name 2))
      (ss_seq (ss_if (st_and (st_test (se_op (se_var 2) se_str rd_eq)) (st_not (st_chain3 (se_un se_int ru_neg1) (se_op (se_var 0) se_int rd_ix) (se_op (se_var 0) se_int rd_ix) se_int rd_le rd_le rd_le))) (ss_ret se_str) ss_next)
      (ss_seq (ss_if (st_and (st_test (se_op (se_var 2) se_str rd_eq)) (st_not (st_chain3 se_int (se_op (se_var 0) se_int rd_ix) (se_op (se_var 0) se_int rd_ix) se_int rd_le rd_le rd_le))) (ss_ret se_str) ss_next)
      (ss_seq (ss_if (st_and (st_test (se_op (se_var 2) se_str rd_eq)) (st_not (st_B (se_call (sa_cons (se_op (se_var 0) se_int rd_ix) sa_nil))))) (ss_ret se_str) ss_next)
      (ss_seq (ss_if (st_and (st_test (se_op (se_var 2) se_str rd_eq)) (st_test (se_op (se_lenV 1) se_int rd_gt))) (ss_ret se_str) ss_next)
      (ss_seq (ss_if (st_and (st_test (se_op (se_var 2) se_str rd_eq)) (st_not (st_test (se_chain se_int (se_lenV 1) se_int rd_le rd_le)))) (ss_ret se_str) ss_next)
      (ss_seq (ss_if (st_and (st_test (se_op (se_var 2) se_str rd_eq)) (st_B (se_cb (sa_cons (se_l (sl_lc (vs := [3]) (si_seq (se_var 1)) (sg_name 3) (by decide) st_yes (se_op (se_var 3) (se_op (se_var 1) se_int rd_ix) rd_ne))) sa_nil) rc_any))) (ss_ret se_str) ss_next)
      (ss_seq (ss_if (st_and (st_test (se_op (se_var 2) se_str rd_eq)) (st_not (st_B (se_call (sa_cons (se_op (se_var 0) se_int rd_ix) (sa_cons (se_op (se_var 1) se_int rd_ix) sa_nil)))))) (ss_ret se_str) ss_next)
      (ss_seq (ss_if (st_and (st_test (se_op (se_var 2) se_str rd_eq)) (st_test (se_op (se_call (sa_cons (se_op (se_var 0) se_int rd_ix) (sa_cons (se_op (se_var 1) se_int rd_ix) sa_nil))) se_non rd_isN))) (ss_ret se_str) ss_next)
      (ss_seq (ss_if (st_and (st_test (se_op (se_var 2) se_str rd_eq)) (st_test (se_op (se_op (se_var 1) se_int rd_ix) se_str rd_ne))) (ss_ret se_str) ss_next)
      (ss_ret se_non))))))))))) h
abbrev s__kind_made : Stmt := topS 22
abbrev N__kind_made : List Str := ["generator", "kinds", "name"]
theorem sc__kind_made : FnScope N__kind_made ["generator", "kinds"] (defScope s__kind_made) := ⟨rfl, rfl, rfl, by decide +kernel, rfl, by decide +kernel, by decide +kernel⟩
theorem ok__kind_made {f : Addr} {fd : FuncData} {L : Nat} {f_kind_behind : Fn} (T : Tx mg) (F : Fun K "_kind_made" "_kind_made" s__kind_made f fd) (c_kind_behind : Cl P w K mg base "kind_behind" ["some_map", "kind"] L (spF K A f_kind_behind)) :
    FnOk P w K mg base CX0 (L + 1) f fd ["generator", "kinds"] (spF K A (runF 3 2 (b__kind_made f_kind_behind))) := by
  refine F.ok sc__kind_made (fun vs H Q E h => body_len h) (fun cdv A' outer s H vs Q E hr h => ?_)
  refine ⟨_, (pss_cons (ps_set (i := 2) sc__kind_made.nd rfl (Or.inl rfl) (pe_ix (r := rIx K) ix_seq (pv 0) pe_int (fun _ _ => rfl)))
      (pss_cons (ps_if (pt_cmpR (r := rEqX K) (op_eqX hr.units) (pv 2) pe_str (nomark _)) (pss_one (ps_ret pe_str)) pss_nil)
      (pss_cons (ps_if (pt_cmpR (r := rEqX K) (op_eqX hr.units) (pv 2) pe_str (nomark _)) (pss_one (ps_ret pe_str)) pss_nil)
      (pss_cons (ps_if (pt_cmpR (r := rEqX K) (op_eqX hr.units) (pv 2) pe_str (nomark _)) (pss_one (ps_ret (pe_tup (pa_cons pe_str (pa_cons (pe_callTy (r := rTupO K) cr_tupO (by rfl) T.z_tuple (by decide +kernel) (pa_cons (pv 1) pa_nil)) pa_nil))))) pss_nil)
      (pss_cons (ps_if (pt_cmpR (r := rEqX K) (op_eqX hr.units) (pv 2) pe_str (nomark _)) (pss_one (ps_ret (pe_tup (pa_cons pe_str (pa_cons (pe_ix (r := rIx K) ix_seq (pv 1) pe_int (fun _ _ => rfl)) pa_nil))))) pss_nil)
      (pss_cons (ps_if (pt_cmpR (r := rEqX K) (op_eqX hr.units) (pv 2) pe_str (nomark _)) (pss_one (ps_ret (pe_call c_kind_behind.ok hr (by rfl) c_kind_behind.m c_kind_behind.kp c_kind_behind.b .nil pass0 (pa_cons (pe_ix (r := rIx K) ix_seq (pv 0) pe_int (fun _ _ => rfl)) (pa_cons (pe_ix (r := rIx K) ix_seq (pv 1) pe_int (fun _ _ => rfl)) pa_nil))))) pss_nil)
      (pss_cons (ps_if (pt_cmpR (r := rEqX K) (op_eqX hr.units) (pv 2) pe_str (nomark _)) (pss_one (ps_ret (pe_tup (pa_cons pe_str (pa_cons (pe_ix (r := rIx K) ix_seq (pv 1) pe_int (fun _ _ => rfl)) pa_nil))))) pss_nil)
      (pss_one (ps_ret (pe_ix (r := rIx K) ix_seq (pv 1) pe_int (fun _ _ => rfl))))))))))), ?_⟩
  exact body_ok (N := N__kind_made) (f := b__kind_made f_kind_behind) (ss_seq (ss_asg (se_op (se_var 0) se_int rd_ix) (sg_name 2))
      (ss_seq (ss_if (st_test (se_op (se_var 2) se_str rd_eq)) (ss_ret se_str) ss_next)
      (ss_seq (ss_if (st_test (se_op (se_var 2) se_str rd_eq)) (ss_ret se_str) ss_next)
      (ss_seq (ss_if (st_test (se_op (se_var 2) se_str rd_eq)) (ss_ret (se_tup (sa_cons se_str (sa_cons (se_cb (sa_cons (se_var 1) sa_nil) rc_tuple) sa_nil)))) ss_next)
      (ss_seq (ss_if (st_test (se_op (se_var 2) se_str rd_eq)) (ss_ret (se_tup (sa_cons se_str (sa_cons (se_op (se_var 1) se_int rd_ix) sa_nil)))) ss_next)
      (ss_seq (ss_if (st_test (se_op (se_var 2) se_str rd_eq)) (ss_ret (se_call (sa_cons (se_op (se_var 0) se_int rd_ix) (sa_cons (se_op (se_var 1) se_int rd_ix) sa_nil)))) ss_next)
      (ss_seq (ss_if (st_test (se_op (se_var 2) se_str rd_eq)) (ss_ret (se_tup (sa_cons se_str (sa_cons (se_op (se_var 1) se_int rd_ix) sa_nil)))) ss_next)
      (ss_ret (se_op (se_var 1) se_int rd_ix))))))))) h
abbrev s__kind_at : Stmt := topS 19
abbrev N__kind_at : List Str := ["generator", "path", "kinds", "what", "at", "part"]
theorem sc__kind_at : FnScope N__kind_at ["generator", "path"] (defScope s__kind_at) := ⟨rfl, rfl, rfl, by decide +kernel, rfl, by decide +kernel, by decide +kernel⟩
theorem ok__kind_at {f : Addr} {fd : FuncData} {L : Nat} {f__kind_at f_parts_in f__fault_itself f__kind_made : Fn} (T : Tx mg) (F : Fun K "_kind_at" "_kind_at" s__kind_at f fd) (c__kind_at : Cl P w K mg base "_kind_at" ["generator", "path"] L (spF K A f__kind_at)) (c_parts_in : Cl P w K mg base "parts_in" ["generator"] L (spF K A f_parts_in)) (c__fault_itself : Cl P w K mg base "_fault_itself" ["generator", "kinds"] L (spF K A f__fault_itself)) (c__kind_made : Cl P w K mg base "_kind_made" ["generator", "kinds"] L (spF K A f__kind_made)) :
    FnOk P w K mg base CX0 (L + 1) f fd ["generator", "path"] (spF K A (runF 6 2 (b__kind_at f__kind_at f_parts_in f__fault_itself f__kind_made))) := by
  refine F.ok sc__kind_at (fun vs H Q E h => body_len h) (fun cdv A' outer s H vs Q E hr h => ?_)
  refine ⟨_, (pss_cons (ps_setLc (i := 2) (own := [("at", 4), ("part", 5)]) (g := gTup K 2 (gCons (gName 4) (gCons (gName 5) gNil))) (by rfl) sc__kind_at.nd rfl rfl (sw_true rfl rfl rfl (by decide +kernel)) (pi_or (pi_enum (by rfl) T.z_enumerate (pa_cons (pe_call c_parts_in.ok hr (by rfl) c_parts_in.m c_parts_in.kp c_parts_in.b .nil pass0 (pa_cons (pv 0) pa_nil)) pa_nil)) (pi_enumT (by rfl) T.z_enumerate (pa_cons (pe_call c_parts_in.ok hr (by rfl) c_parts_in.m c_parts_in.kp c_parts_in.b .nil pass0 (pa_cons (pv 0) pa_nil)) pa_nil))) (blkOk_by (own := [("at", 4), ("part", 5)]) (N := N__kind_at) (sc := defScope s__kind_at) (by decide +kernel)) (fun _ _ _ _ _ => (pg_tup rfl (pgs_cons (pg_name (i := 4) sc__kind_at.nd rfl (Or.inl rfl) (hf := Or.inr rfl)) (pgs_cons (pg_name (i := 5) sc__kind_at.nd rfl (Or.inl rfl) (hf := Or.inr rfl)) pgs_nil)))) (fun _ _ _ _ _ => pts_nil) (fun _ _ _ _ _ => (pe_call c__kind_at.ok hr (by rfl) c__kind_at.m c__kind_at.kp c__kind_at.b .nil pass0 (pa_cons (pv 5) (pa_cons (pe_tup (pa_starK K (pv 1) (pa_cons (pv 4) pa_nil))) pa_nil)))))
      (pss_cons (ps_set (i := 3) sc__kind_at.nd rfl (Or.inl rfl) (pe_call c__fault_itself.ok hr (by rfl) c__fault_itself.m c__fault_itself.kp c__fault_itself.b .nil pass0 (pa_cons (pv 0) (pa_cons (pv 2) pa_nil))))
      (pss_cons (ps_if (pt_cmpR op_notN (pv 3) pe_non (nomark _)) (pss_one ps_never) pss_nil)
      (pss_one (ps_ret (pe_call c__kind_made.ok hr (by rfl) c__kind_made.m c__kind_made.kp c__kind_made.b .nil pass0 (pa_cons (pv 0) (pa_cons (pv 2) pa_nil)))))))), ?_⟩
  exact body_ok (N := N__kind_at) (f := b__kind_at f__kind_at f_parts_in f__fault_itself f__kind_made) (ss_seq (ss_asg (se_l (sl_lc (vs := [4, 5]) (si_enu (sa_cons (se_call (sa_cons (se_var 0) sa_nil)) sa_nil)) (sg_tup 2 (sgs_cons (sg_name 4) (sgs_cons (sg_name 5) sgs_nil))) (by decide) st_yes (se_call (sa_cons (se_var 5) (sa_cons (se_tup (sa_star (se_var 1) (sa_cons (se_var 4) sa_nil))) sa_nil))))) (sg_name 2))
      (ss_seq (ss_asg (se_call (sa_cons (se_var 0) (sa_cons (se_var 2) sa_nil))) (sg_name 3))
      (ss_seq (ss_if (st_test (se_op (se_var 3) se_non rd_notN)) ss_never ss_next)
      (ss_ret (se_call (sa_cons (se_var 0) (sa_cons (se_var 2) sa_nil))))))) h
abbrev s_kind_of : Stmt := topS 18
abbrev N_kind_of : List Str := ["generator"]
theorem sc_kind_of : FnScope N_kind_of ["generator"] (defScope s_kind_of) := ⟨rfl, rfl, rfl, by decide +kernel, rfl, by decide +kernel, by decide +kernel⟩
theorem ok_kind_of {f : Addr} {fd : FuncData} {L : Nat} {f__kind_at : Fn} (T : Tx mg) (F : Fun K "kind_of" "kind_of" s_kind_of f fd) (c__kind_at : Cl P w K mg base "_kind_at" ["generator", "path"] L (spF K A f__kind_at)) :
    FnOk P w K mg base CX0 (L + 1) f fd ["generator"] (spF K A (runF 1 1 (b_kind_of f__kind_at))) := by
  refine F.ok sc_kind_of (fun vs H Q E h => body_len h) (fun cdv A' outer s H vs Q E hr h => ?_)
  refine ⟨_, (pss_one (ps_ret (pe_call c__kind_at.ok hr (by rfl) c__kind_at.m c__kind_at.kp c__kind_at.b .nil pass0 (pa_cons (pv 0) (pa_cons (pe_tup pa_nil) pa_nil))))), ?_⟩
  exact body_ok (N := N_kind_of) (f := b_kind_of f__kind_at) (ss_ret (se_call (sa_cons (se_var 0) (sa_cons (se_tup sa_nil) sa_nil)))) h
theorem no_fn {k : Nat} {f : Addr} {fd : FuncData} {ps : List Str} : FnOk P w K mg base CX0 k f fd ps (spF K A fun _ => none) := no_call fun vs H Q E h => by
  obtain ⟨_, _, _, _, _, h, _⟩ := h
  cases h
theorem rec_kindat {fit : Fn} {L : Nat} {f : Addr} {fd : FuncData} (T : Tx mg) (F : Fun K "_kind_at" "_kind_at" s__kind_at f fd) (b : Binds K fd ["generator", "path"] []) (m : mg "_kind_at" = some (.ref f)) (c_parts_in : Cr.Cl P w K mg base "parts_in" ["generator"] L (spF K A D_parts)) (c__fault_itself : Cr.Cl P w K mg base "_fault_itself" ["generator", "kinds"] L (spF K A (D_fault fit))) (c__kind_made : Cr.Cl P w K mg base "_kind_made" ["generator", "kinds"] L (spF K A D_made)) :
    ∀ n : Nat, FnOk P w K mg base CX0 (L + n) f fd ["generator", "path"] (spF K A (D_kindat fit n))
  | 0 => no_fn
  | n + 1 => ok__kind_at T F ⟨f, fd, rec_kindat T F b m c_parts_in c__fault_itself c__kind_made n, b, F.kp, m⟩ (clMono c_parts_in (Nat.le_add_right _ _)) (clMono c__fault_itself (Nat.le_add_right _ _)) (clMono c__kind_made (Nat.le_add_right _ _))
end
end K4
namespace K4
open PySem PySem.Spec PyProof.Rows L2 Evl Cr CrT Sm Fb
theorem rec_lkind {P : Program} {w : World} {K : PySem.W.Frag} {mg : Str → Option Value} {base : Heap} {f : Addr} {fd : FuncData} (T : Tx mg) (F : Fun K "_law_kind" "_law_kind" s__law_kind f fd) (b : Binds K fd ["box", "depth"] []) (m : mg "_law_kind" = some (.ref f)) (c__law_take : Cl P w K mg base "_law_take" ["box", "many"] 1 spTake) :
    ∀ n : Nat, FnOk P w K mg base CX0 (n + 1) f fd ["box", "depth"] (spLKind2 K n)
  | 0 => no_call fun vs H Q E h => by
    obtain ⟨_, _, _, _, _, h, _⟩ := h
    omega
  | n + 1 => ok__law_kind T F c__law_take ⟨f, fd, rec_lkind T F b m c__law_take n, b, F.kp, m⟩
theorem rec_llimit2 {P : Program} {w : World} {K : PySem.W.Frag} {mg : Str → Option Value} {base : Heap} {f : Addr} {fd : FuncData} (T : Tx mg) (F : Fun K "_law_limit" "_law_limit" s__law_limit f fd) (b : Binds K fd ["box", "kind", "depth"] []) (m : mg "_law_limit" = some (.ref f)) (c__law_take : Cl P w K mg base "_law_take" ["box", "many"] 1 spTake) :
    ∀ n : Nat, FnOk P w K mg base CX0 (n + 1) f fd ["box", "kind", "depth"] (spLLimit2 K n)
  | 0 => no_call spLLimit2_0
  | n + 1 => ok__law_limit T F c__law_take ⟨f, fd, rec_llimit2 T F b m c__law_take n, b, F.kp, m⟩
theorem rec_lgen {P : Program} {w : World} {K : PySem.W.Frag} {mg : Str → Option Value} {base : Heap} {f : Addr} {fd : FuncData} (T : Tx mg) (F : Fun K "_law_gen" "_law_gen" s__law_gen f fd) (b : Binds K fd ["box", "kind", "depth"] []) (m : mg "_law_gen" = some (.ref f)) (c__law_take : Cl P w K mg base "_law_take" ["box", "many"] 1 spTake)
    (c__law_limit : Cl P w K mg base "_law_limit" ["box", "kind", "depth"] 6 (spLLimit2 K 5)) : ∀ n : Nat, FnOk P w K mg base CX0 (n + 7) f fd ["box", "kind", "depth"] (spLGen K n)
  | 0 => no_call fun vs H Q E h => by
    obtain ⟨_, _, _, _, n, m, _, _, _, hk, _, hn, _⟩ := h
    have := hk.pos
    omega
  | n + 1 => ok__law_gen T F c__law_take c__law_limit ⟨f, fd, rec_lgen T F b m c__law_take c__law_limit n, b, F.kp, m⟩
theorem rec_fits {P : Program} {w : World} {K : PySem.W.Frag} {mg : Str → Option Value} {base : Heap} {f fi fl : Addr} {fd fdi fdl : FuncData} (T : Tx mg) (F : Fun K "fits" "fits" s_fits f fd) (b : Binds K fd ["condition", "kind"] []) (m : mg "fits" = some (.ref f))
    (Fi : Fun K "_fits_item" "_fits_item" s__fits_item fi fdi) (bi : Binds K fdi ["place", "condition", "kinds"] []) (mi : mg "_fits_item" = some (.ref fi)) (Fl : Fun K "_fits_list" "_fits_list" s__fits_list fl fdl) (bl : Binds K fdl ["condition", "listed"] []) (ml : mg "_fits_list" = some (.ref fl))
    (c_is_word : Cl P w K mg base "is_word" ["text"] 1 spWord) (c_kinds_in_tuple : Cl P w K mg base "kinds_in_tuple" ["kind"] 1 (spKit K)) (c_kind_in_list : Cl P w K mg base "kind_in_list" ["kind"] 1 (spKil K)) : ∀ n : Nat, FnOk P w K mg base CX0 (2 * n + 1) f fd ["condition", "kind"] (spFits K n)
  | 0 => no_call spFits_0
  | n + 1 =>
    have G := rec_fits T F b m Fi bi mi Fl bl ml c_is_word c_kinds_in_tuple c_kind_in_list n
    ok_fits T F c_is_word c_kinds_in_tuple c_kind_in_list ⟨f, fd, G, b, F.kp, m⟩ ⟨fi, fdi, ok__fits_item T Fi ⟨f, fd, G, b, F.kp, m⟩, bi, Fi.kp, mi⟩ ⟨fl, fdl, ok__fits_list T Fl ⟨f, fd, G, b, F.kp, m⟩, bl, Fl.kp, ml⟩
theorem all_mk {l : PySem.W.OpenLaw} {w : World} {K : PySem.W.Frag} {h : Heap} {mg : Str → Option Value} {fa : Addr} (X : K.In h) (G : h.Ns mainGlobals mg) (hfa : mg "law" = some (.ref fa))
    {f1 : Addr} {od1 an1 : Option Addr} {sl1 : Array (Option Value)} {oc1 kV1 dc1 pm1 cd1 ct1 : Value}
    {f2 : Addr} {od2 an2 : Option Addr} {sl2 : Array (Option Value)} {oc2 kV2 dc2 pm2 cd2 ct2 : Value}
    {f3 : Addr} {od3 an3 : Option Addr} {sl3 : Array (Option Value)} {oc3 kV3 dc3 pm3 cd3 ct3 : Value}
    {f4 : Addr} {od4 an4 : Option Addr} {sl4 : Array (Option Value)} {oc4 kV4 dc4 pm4 cd4 ct4 : Value}
    {f5 : Addr} {od5 an5 : Option Addr} {sl5 : Array (Option Value)} {oc5 kV5 dc5 pm5 cd5 ct5 : Value}
    {f6 : Addr} {od6 an6 : Option Addr} {sl6 : Array (Option Value)} {oc6 kV6 dc6 pm6 cd6 ct6 : Value}
    {f7 : Addr} {od7 an7 : Option Addr} {sl7 : Array (Option Value)} {oc7 kV7 dc7 pm7 cd7 ct7 : Value}
    {f8 : Addr} {od8 an8 : Option Addr} {sl8 : Array (Option Value)} {oc8 kV8 dc8 pm8 cd8 ct8 : Value}
    {f9 : Addr} {od9 an9 : Option Addr} {sl9 : Array (Option Value)} {oc9 kV9 dc9 pm9 cd9 ct9 : Value}
    {f10 : Addr} {od10 an10 : Option Addr} {sl10 : Array (Option Value)} {oc10 kV10 dc10 pm10 cd10 ct10 : Value}
    {f11 : Addr} {od11 an11 : Option Addr} {sl11 : Array (Option Value)} {oc11 kV11 dc11 pm11 cd11 ct11 : Value}
    {f12 : Addr} {od12 an12 : Option Addr} {sl12 : Array (Option Value)} {oc12 kV12 dc12 pm12 cd12 ct12 : Value}
    {f13 : Addr} {od13 an13 : Option Addr} {sl13 : Array (Option Value)} {oc13 kV13 dc13 pm13 cd13 ct13 : Value}
    {f14 : Addr} {od14 an14 : Option Addr} {sl14 : Array (Option Value)} {oc14 kV14 dc14 pm14 cd14 ct14 : Value}
    {f15 : Addr} {od15 an15 : Option Addr} {sl15 : Array (Option Value)} {oc15 kV15 dc15 pm15 cd15 ct15 : Value}
    {f16 : Addr} {od16 an16 : Option Addr} {sl16 : Array (Option Value)} {oc16 kV16 dc16 pm16 cd16 ct16 : Value}
    {f17 : Addr} {od17 an17 : Option Addr} {sl17 : Array (Option Value)} {oc17 kV17 dc17 pm17 cd17 ct17 : Value}
    {f18 : Addr} {od18 an18 : Option Addr} {sl18 : Array (Option Value)} {oc18 kV18 dc18 pm18 cd18 ct18 : Value}
    {f19 : Addr} {od19 an19 : Option Addr} {sl19 : Array (Option Value)} {oc19 kV19 dc19 pm19 cd19 ct19 : Value}
    {f20 : Addr} {od20 an20 : Option Addr} {sl20 : Array (Option Value)} {oc20 kV20 dc20 pm20 cd20 ct20 : Value}
    {f21 : Addr} {od21 an21 : Option Addr} {sl21 : Array (Option Value)} {oc21 kV21 dc21 pm21 cd21 ct21 : Value}
    {f22 : Addr} {od22 an22 : Option Addr} {sl22 : Array (Option Value)} {oc22 kV22 dc22 pm22 cd22 ct22 : Value}
    {t_GREAT : Tok}
    {t_WORDS : Tok}
    {t_LETTERS : Tok}
    {t_ITEMS : Tok}
    {t_LONG : Tok}
    {t_DIVISOR : Tok}
    (a1 : PySem.W.nsIn K mainGlobals "is_word" = some (some (.ref f1))) (l1 : K.lookup f1 = some ⟨oc1, od1, .func (PySem.W.fnOf "is_word" "is_word" (defArgs s_is_word) (defBody s_is_word) (defScope s_is_word) .none kV1 dc1 pm1 an1 cd1 ct1), sl1⟩) (c1 : PySem.W.codeIn K cd1 "is_word" = true) (k1 : PySem.W.keepIn K (.ref f1) = true)
    (a2 : PySem.W.nsIn K mainGlobals "kinds_in_tuple" = some (some (.ref f2))) (l2 : K.lookup f2 = some ⟨oc2, od2, .func (PySem.W.fnOf "kinds_in_tuple" "kinds_in_tuple" (defArgs s_kinds_in_tuple) (defBody s_kinds_in_tuple) (defScope s_kinds_in_tuple) .none kV2 dc2 pm2 an2 cd2 ct2), sl2⟩) (c2 : PySem.W.codeIn K cd2 "kinds_in_tuple" = true) (k2 : PySem.W.keepIn K (.ref f2) = true)
    (a3 : PySem.W.nsIn K mainGlobals "kind_in_list" = some (some (.ref f3))) (l3 : K.lookup f3 = some ⟨oc3, od3, .func (PySem.W.fnOf "kind_in_list" "kind_in_list" (defArgs s_kind_in_list) (defBody s_kind_in_list) (defScope s_kind_in_list) .none kV3 dc3 pm3 an3 cd3 ct3), sl3⟩) (c3 : PySem.W.codeIn K cd3 "kind_in_list" = true) (k3 : PySem.W.keepIn K (.ref f3) = true)
    (a4 : PySem.W.nsIn K mainGlobals "fits" = some (some (.ref f4))) (l4 : K.lookup f4 = some ⟨oc4, od4, .func (PySem.W.fnOf "fits" "fits" (defArgs s_fits) (defBody s_fits) (defScope s_fits) .none kV4 dc4 pm4 an4 cd4 ct4), sl4⟩) (c4 : PySem.W.codeIn K cd4 "fits" = true) (k4 : PySem.W.keepIn K (.ref f4) = true)
    (a5 : PySem.W.nsIn K mainGlobals "_fits_item" = some (some (.ref f5))) (l5 : K.lookup f5 = some ⟨oc5, od5, .func (PySem.W.fnOf "_fits_item" "_fits_item" (defArgs s__fits_item) (defBody s__fits_item) (defScope s__fits_item) .none kV5 dc5 pm5 an5 cd5 ct5), sl5⟩) (c5 : PySem.W.codeIn K cd5 "_fits_item" = true) (k5 : PySem.W.keepIn K (.ref f5) = true)
    (a6 : PySem.W.nsIn K mainGlobals "_fits_list" = some (some (.ref f6))) (l6 : K.lookup f6 = some ⟨oc6, od6, .func (PySem.W.fnOf "_fits_list" "_fits_list" (defArgs s__fits_list) (defBody s__fits_list) (defScope s__fits_list) .none kV6 dc6 pm6 an6 cd6 ct6), sl6⟩) (c6 : PySem.W.codeIn K cd6 "_fits_list" = true) (k6 : PySem.W.keepIn K (.ref f6) = true)
    (a7 : PySem.W.nsIn K mainGlobals "parts_in" = some (some (.ref f7))) (l7 : K.lookup f7 = some ⟨oc7, od7, .func (PySem.W.fnOf "parts_in" "parts_in" (defArgs s_parts_in) (defBody s_parts_in) (defScope s_parts_in) .none kV7 dc7 pm7 an7 cd7 ct7), sl7⟩) (c7 : PySem.W.codeIn K cd7 "parts_in" = true) (k7 : PySem.W.keepIn K (.ref f7) = true)
    (a8 : PySem.W.nsIn K mainGlobals "kind_of" = some (some (.ref f8))) (l8 : K.lookup f8 = some ⟨oc8, od8, .func (PySem.W.fnOf "kind_of" "kind_of" (defArgs s_kind_of) (defBody s_kind_of) (defScope s_kind_of) .none kV8 dc8 pm8 an8 cd8 ct8), sl8⟩) (c8 : PySem.W.codeIn K cd8 "kind_of" = true) (k8 : PySem.W.keepIn K (.ref f8) = true)
    (a9 : PySem.W.nsIn K mainGlobals "_kind_at" = some (some (.ref f9))) (l9 : K.lookup f9 = some ⟨oc9, od9, .func (PySem.W.fnOf "_kind_at" "_kind_at" (defArgs s__kind_at) (defBody s__kind_at) (defScope s__kind_at) .none kV9 dc9 pm9 an9 cd9 ct9), sl9⟩) (c9 : PySem.W.codeIn K cd9 "_kind_at" = true) (k9 : PySem.W.keepIn K (.ref f9) = true)
    (a10 : PySem.W.nsIn K mainGlobals "_fault_itself" = some (some (.ref f10))) (l10 : K.lookup f10 = some ⟨oc10, od10, .func (PySem.W.fnOf "_fault_itself" "_fault_itself" (defArgs s__fault_itself) (defBody s__fault_itself) (defScope s__fault_itself) .none kV10 dc10 pm10 an10 cd10 ct10), sl10⟩) (c10 : PySem.W.codeIn K cd10 "_fault_itself" = true) (k10 : PySem.W.keepIn K (.ref f10) = true)
    (a11 : PySem.W.nsIn K mainGlobals "_are_right_words" = some (some (.ref f11))) (l11 : K.lookup f11 = some ⟨oc11, od11, .func (PySem.W.fnOf "_are_right_words" "_are_right_words" (defArgs s__are_right_words) (defBody s__are_right_words) (defScope s__are_right_words) .none kV11 dc11 pm11 an11 cd11 ct11), sl11⟩) (c11 : PySem.W.codeIn K cd11 "_are_right_words" = true) (k11 : PySem.W.keepIn K (.ref f11) = true)
    (a12 : PySem.W.nsIn K mainGlobals "_kind_made" = some (some (.ref f12))) (l12 : K.lookup f12 = some ⟨oc12, od12, .func (PySem.W.fnOf "_kind_made" "_kind_made" (defArgs s__kind_made) (defBody s__kind_made) (defScope s__kind_made) .none kV12 dc12 pm12 an12 cd12 ct12), sl12⟩) (c12 : PySem.W.codeIn K cd12 "_kind_made" = true) (k12 : PySem.W.keepIn K (.ref f12) = true)
    (a13 : PySem.W.nsIn K mainGlobals "kind_behind" = some (some (.ref f13))) (l13 : K.lookup f13 = some ⟨oc13, od13, .func (PySem.W.fnOf "kind_behind" "kind_behind" (defArgs s_kind_behind) (defBody s_kind_behind) (defScope s_kind_behind) .none kV13 dc13 pm13 an13 cd13 ct13), sl13⟩) (c13 : PySem.W.codeIn K cd13 "kind_behind" = true) (k13 : PySem.W.keepIn K (.ref f13) = true)
    (a14 : PySem.W.nsIn K mainGlobals "_law_cell" = some (some (.ref f14))) (l14 : K.lookup f14 = some ⟨oc14, od14, .func (PySem.W.fnOf "_law_cell" "_law_cell" (defArgs s__law_cell) (defBody s__law_cell) (defScope s__law_cell) .none kV14 dc14 pm14 an14 cd14 ct14), sl14⟩) (c14 : PySem.W.codeIn K cd14 "_law_cell" = true) (k14 : PySem.W.keepIn K (.ref f14) = true)
    (a15 : PySem.W.nsIn K mainGlobals "_law_draw" = some (some (.ref f15))) (l15 : K.lookup f15 = some ⟨oc15, od15, .func (PySem.W.fnOf "_law_draw" "_law_draw" (defArgs s__law_draw) (defBody s__law_draw) (defScope s__law_draw) .none kV15 dc15 pm15 an15 cd15 ct15), sl15⟩) (c15 : PySem.W.codeIn K cd15 "_law_draw" = true) (k15 : PySem.W.keepIn K (.ref f15) = true)
    (a16 : PySem.W.nsIn K mainGlobals "_law_box" = some (some (.ref f16))) (l16 : K.lookup f16 = some ⟨oc16, od16, .func (PySem.W.fnOf "_law_box" "_law_box" (defArgs s__law_box) (defBody s__law_box) (defScope s__law_box) .none kV16 dc16 pm16 an16 cd16 ct16), sl16⟩) (c16 : PySem.W.codeIn K cd16 "_law_box" = true) (k16 : PySem.W.keepIn K (.ref f16) = true)
    (a17 : PySem.W.nsIn K mainGlobals "_law_take" = some (some (.ref f17))) (l17 : K.lookup f17 = some ⟨oc17, od17, .func (PySem.W.fnOf "_law_take" "_law_take" (defArgs s__law_take) (defBody s__law_take) (defScope s__law_take) .none kV17 dc17 pm17 an17 cd17 ct17), sl17⟩) (c17 : PySem.W.codeIn K cd17 "_law_take" = true) (k17 : PySem.W.keepIn K (.ref f17) = true)
    (a18 : PySem.W.nsIn K mainGlobals "_law_kind" = some (some (.ref f18))) (l18 : K.lookup f18 = some ⟨oc18, od18, .func (PySem.W.fnOf "_law_kind" "_law_kind" (defArgs s__law_kind) (defBody s__law_kind) (defScope s__law_kind) .none kV18 dc18 pm18 an18 cd18 ct18), sl18⟩) (c18 : PySem.W.codeIn K cd18 "_law_kind" = true) (k18 : PySem.W.keepIn K (.ref f18) = true)
    (a19 : PySem.W.nsIn K mainGlobals "_law_limit" = some (some (.ref f19))) (l19 : K.lookup f19 = some ⟨oc19, od19, .func (PySem.W.fnOf "_law_limit" "_law_limit" (defArgs s__law_limit) (defBody s__law_limit) (defScope s__law_limit) .none kV19 dc19 pm19 an19 cd19 ct19), sl19⟩) (c19 : PySem.W.codeIn K cd19 "_law_limit" = true) (k19 : PySem.W.keepIn K (.ref f19) = true)
    (a20 : PySem.W.nsIn K mainGlobals "_law_gen" = some (some (.ref f20))) (l20 : K.lookup f20 = some ⟨oc20, od20, .func (PySem.W.fnOf "_law_gen" "_law_gen" (defArgs s__law_gen) (defBody s__law_gen) (defScope s__law_gen) .none kV20 dc20 pm20 an20 cd20 ct20), sl20⟩) (c20 : PySem.W.codeIn K cd20 "_law_gen" = true) (k20 : PySem.W.keepIn K (.ref f20) = true)
    (a21 : PySem.W.nsIn K mainGlobals "_law_some" = some (some (.ref f21))) (l21 : K.lookup f21 = some ⟨oc21, od21, .func (PySem.W.fnOf "_law_some" "_law_some" (defArgs s__law_some) (defBody s__law_some) (defScope s__law_some) .none kV21 dc21 pm21 an21 cd21 ct21), sl21⟩) (c21 : PySem.W.codeIn K cd21 "_law_some" = true) (k21 : PySem.W.keepIn K (.ref f21) = true)
    (a22 : PySem.W.nsIn K mainGlobals "law" = some (some (.ref f22))) (l22 : K.lookup f22 = some ⟨oc22, od22, .func (PySem.W.fnOf "law" "law" (defArgs s_law) (defBody s_law) (defScope s_law) .none kV22 dc22 pm22 an22 cd22 ct22), sl22⟩) (c22 : PySem.W.codeIn K cd22 "law" = true) (k22 : PySem.W.keepIn K (.ref f22) = true)
    (z_len : PySem.W.nsIn K mainGlobals "len" = some none)
    (z_all : PySem.W.nsIn K mainGlobals "all" = some none)
    (z_any : PySem.W.nsIn K mainGlobals "any" = some none)
    (z_isinstance : PySem.W.nsIn K mainGlobals "isinstance" = some none)
    (z_tuple : PySem.W.nsIn K mainGlobals "tuple" = some none)
    (z_list : PySem.W.nsIn K mainGlobals "list" = some none)
    (z_int : PySem.W.nsIn K mainGlobals "int" = some none)
    (z_str : PySem.W.nsIn K mainGlobals "str" = some none)
    (z_bool : PySem.W.nsIn K mainGlobals "bool" = some none)
    (z_range : PySem.W.nsIn K mainGlobals "range" = some none)
    (z_zip : PySem.W.nsIn K mainGlobals "zip" = some none)
    (z_enumerate : PySem.W.nsIn K mainGlobals "enumerate" = some none)
    (z_sum : PySem.W.nsIn K mainGlobals "sum" = some none)
    (z_sorted : PySem.W.nsIn K mainGlobals "sorted" = some none)
    (z_min : PySem.W.nsIn K mainGlobals "min" = some none)
    (z_max : PySem.W.nsIn K mainGlobals "max" = some none)
    (z_set : PySem.W.nsIn K mainGlobals "set" = some none)
    (m_GREAT : PySem.W.nsIn K mainGlobals "GREAT" = some (some (.int 1000 t_GREAT)))
    (m_WORDS : PySem.W.nsIn K mainGlobals "WORDS" = some (some (.int 10 t_WORDS)))
    (m_LETTERS : PySem.W.nsIn K mainGlobals "LETTERS" = some (some (.int 8 t_LETTERS)))
    (m_ITEMS : PySem.W.nsIn K mainGlobals "ITEMS" = some (some (.int 4 t_ITEMS)))
    (m_LONG : PySem.W.nsIn K mainGlobals "LONG" = some (some (.int 6 t_LONG)))
    (m_DIVISOR : PySem.W.nsIn K mainGlobals "DIVISOR" = some (some (.int 100 t_DIVISOR))) :
    ∃ fd : FuncData, (∀ (s : Shared) (v : Value), BindsTo s fd ⟨[v], []⟩ [("script", v)]) ∧ ∀ base : Heap, K.In base → base.Ns mainGlobals mg → FnOk l.prog w K mg base CX0 44 fa fd ["script"] (spLaw K) := by
  have F_is_word := fun_mk (st := s_is_word) l1 c1 k1
  have b_is_word := F_is_word.binds (ps := ["text"]) fun _ _ _ _ _ _ us hl => match us, hl with | [_], _ => rfl
  have m_is_word := PySem.W.mg_of X G a1
  have F_kinds_in_tuple := fun_mk (st := s_kinds_in_tuple) l2 c2 k2
  have b_kinds_in_tuple := F_kinds_in_tuple.binds (ps := ["kind"]) fun _ _ _ _ _ _ us hl => match us, hl with | [_], _ => rfl
  have m_kinds_in_tuple := PySem.W.mg_of X G a2
  have F_kind_in_list := fun_mk (st := s_kind_in_list) l3 c3 k3
  have b_kind_in_list := F_kind_in_list.binds (ps := ["kind"]) fun _ _ _ _ _ _ us hl => match us, hl with | [_], _ => rfl
  have m_kind_in_list := PySem.W.mg_of X G a3
  have F_fits := fun_mk (st := s_fits) l4 c4 k4
  have b_fits := F_fits.binds (ps := ["condition", "kind"]) fun _ _ _ _ _ _ us hl => match us, hl with | [_, _], _ => rfl
  have m_fits := PySem.W.mg_of X G a4
  have F__fits_item := fun_mk (st := s__fits_item) l5 c5 k5
  have b__fits_item := F__fits_item.binds (ps := ["place", "condition", "kinds"]) fun _ _ _ _ _ _ us hl => match us, hl with | [_, _, _], _ => rfl
  have m__fits_item := PySem.W.mg_of X G a5
  have F__fits_list := fun_mk (st := s__fits_list) l6 c6 k6
  have b__fits_list := F__fits_list.binds (ps := ["condition", "listed"]) fun _ _ _ _ _ _ us hl => match us, hl with | [_, _], _ => rfl
  have m__fits_list := PySem.W.mg_of X G a6
  have F_parts_in := fun_mk (st := s_parts_in) l7 c7 k7
  have b_parts_in := F_parts_in.binds (ps := ["generator"]) fun _ _ _ _ _ _ us hl => match us, hl with | [_], _ => rfl
  have m_parts_in := PySem.W.mg_of X G a7
  have F_kind_of := fun_mk (st := s_kind_of) l8 c8 k8
  have b_kind_of := F_kind_of.binds (ps := ["generator"]) fun _ _ _ _ _ _ us hl => match us, hl with | [_], _ => rfl
  have m_kind_of := PySem.W.mg_of X G a8
  have F__kind_at := fun_mk (st := s__kind_at) l9 c9 k9
  have b__kind_at := F__kind_at.binds (ps := ["generator", "path"]) fun _ _ _ _ _ _ us hl => match us, hl with | [_, _], _ => rfl
  have m__kind_at := PySem.W.mg_of X G a9
  have F__fault_itself := fun_mk (st := s__fault_itself) l10 c10 k10
  have b__fault_itself := F__fault_itself.binds (ps := ["generator", "kinds"]) fun _ _ _ _ _ _ us hl => match us, hl with | [_, _], _ => rfl
  have m__fault_itself := PySem.W.mg_of X G a10
  have F__are_right_words := fun_mk (st := s__are_right_words) l11 c11 k11
  have b__are_right_words := F__are_right_words.binds (ps := ["words"]) fun _ _ _ _ _ _ us hl => match us, hl with | [_], _ => rfl
  have m__are_right_words := PySem.W.mg_of X G a11
  have F__kind_made := fun_mk (st := s__kind_made) l12 c12 k12
  have b__kind_made := F__kind_made.binds (ps := ["generator", "kinds"]) fun _ _ _ _ _ _ us hl => match us, hl with | [_, _], _ => rfl
  have m__kind_made := PySem.W.mg_of X G a12
  have F_kind_behind := fun_mk (st := s_kind_behind) l13 c13 k13
  have b_kind_behind := F_kind_behind.binds (ps := ["some_map", "kind"]) fun _ _ _ _ _ _ us hl => match us, hl with | [_, _], _ => rfl
  have m_kind_behind := PySem.W.mg_of X G a13
  have F__law_cell := fun_mk (st := s__law_cell) l14 c14 k14
  have b__law_cell := F__law_cell.binds (ps := ["script", "k"]) fun _ _ _ _ _ _ us hl => match us, hl with | [_, _], _ => rfl
  have m__law_cell := PySem.W.mg_of X G a14
  have F__law_draw := fun_mk (st := s__law_draw) l15 c15 k15
  have b__law_draw := F__law_draw.binds (ps := ["script", "k", "sizes"]) fun _ _ _ _ _ _ us hl => match us, hl with | [_, _, _], _ => rfl
  have m__law_draw := PySem.W.mg_of X G a15
  have F__law_box := fun_mk (st := s__law_box) l16 c16 k16
  have b__law_box := F__law_box.binds (ps := ["script", "k"]) fun _ _ _ _ _ _ us hl => match us, hl with | [_, _], _ => rfl
  have m__law_box := PySem.W.mg_of X G a16
  have F__law_take := fun_mk (st := s__law_take) l17 c17 k17
  have b__law_take := F__law_take.binds (ps := ["box", "many"]) fun _ _ _ _ _ _ us hl => match us, hl with | [_, _], _ => rfl
  have m__law_take := PySem.W.mg_of X G a17
  have F__law_kind := fun_mk (st := s__law_kind) l18 c18 k18
  have b__law_kind := F__law_kind.binds (ps := ["box", "depth"]) fun _ _ _ _ _ _ us hl => match us, hl with | [_, _], _ => rfl
  have m__law_kind := PySem.W.mg_of X G a18
  have F__law_limit := fun_mk (st := s__law_limit) l19 c19 k19
  have b__law_limit := F__law_limit.binds (ps := ["box", "kind", "depth"]) fun _ _ _ _ _ _ us hl => match us, hl with | [_, _, _], _ => rfl
  have m__law_limit := PySem.W.mg_of X G a19
  have F__law_gen := fun_mk (st := s__law_gen) l20 c20 k20
  have b__law_gen := F__law_gen.binds (ps := ["box", "kind", "depth"]) fun _ _ _ _ _ _ us hl => match us, hl with | [_, _, _], _ => rfl
  have m__law_gen := PySem.W.mg_of X G a20
  have F__law_some := fun_mk (st := s__law_some) l21 c21 k21
  have b__law_some := F__law_some.binds (ps := ["script", "k"]) fun _ _ _ _ _ _ us hl => match us, hl with | [_, _], _ => rfl
  have m__law_some := PySem.W.mg_of X G a21
  have F_law := fun_mk (st := s_law) l22 c22 k22
  have b_law := F_law.binds (ps := ["script"]) fun _ _ _ _ _ _ us hl => match us, hl with | [_], _ => rfl
  have m_law := PySem.W.mg_of X G a22
  cases hfa.symm.trans m_law
  have T : Tx mg := { z_len := PySem.W.mg_none_of X G z_len, z_all := PySem.W.mg_none_of X G z_all, z_any := PySem.W.mg_none_of X G z_any, z_isinstance := PySem.W.mg_none_of X G z_isinstance, z_tuple := PySem.W.mg_none_of X G z_tuple, z_list := PySem.W.mg_none_of X G z_list, z_int := PySem.W.mg_none_of X G z_int, z_str := PySem.W.mg_none_of X G z_str, z_bool := PySem.W.mg_none_of X G z_bool, z_range := PySem.W.mg_none_of X G z_range, z_zip := PySem.W.mg_none_of X G z_zip, z_enumerate := PySem.W.mg_none_of X G z_enumerate, z_sum := PySem.W.mg_none_of X G z_sum, z_sorted := PySem.W.mg_none_of X G z_sorted, z_min := PySem.W.mg_none_of X G z_min, z_max := PySem.W.mg_none_of X G z_max, z_set := PySem.W.mg_none_of X G z_set, m_GREAT := ⟨_, PySem.W.mg_of X G m_GREAT⟩, m_WORDS := ⟨_, PySem.W.mg_of X G m_WORDS⟩, m_LETTERS := ⟨_, PySem.W.mg_of X G m_LETTERS⟩, m_ITEMS := ⟨_, PySem.W.mg_of X G m_ITEMS⟩, m_LONG := ⟨_, PySem.W.mg_of X G m_LONG⟩, m_DIVISOR := ⟨_, PySem.W.mg_of X G m_DIVISOR⟩ }
  refine ⟨PySem.W.fnOf "law" "law" (defArgs s_law) (defBody s_law) (defScope s_law) .none kV22 dc22 pm22 an22 cd22 ct22, fun s v => .of_eq rfl, fun base _ _ => ?_⟩
  have c_word : Cr.Cl l.prog w K mg base "is_word" ["text"] 1 (spF K A0 D_word) := ⟨_, _, ok_is_word T F_is_word, b_is_word, F_is_word.kp, m_is_word⟩
  have c_kit : Cr.Cl l.prog w K mg base "kinds_in_tuple" ["kind"] 1 (spF K A0 D_kit) := ⟨_, _, ok_kinds_in_tuple T F_kinds_in_tuple, b_kinds_in_tuple, F_kinds_in_tuple.kp, m_kinds_in_tuple⟩
  have c_kil : Cr.Cl l.prog w K mg base "kind_in_list" ["kind"] 1 (spF K A0 D_kil) := ⟨_, _, ok_kind_in_list T F_kind_in_list, b_kind_in_list, F_kind_in_list.kp, m_kind_in_list⟩
  have c_beh : Cr.Cl l.prog w K mg base "kind_behind" ["some_map", "kind"] 2 (spF K A0 D_behind) := ⟨_, _, ok_kind_behind T F_kind_behind c_kit c_kil, b_kind_behind, F_kind_behind.kp, m_kind_behind⟩
  have c_parts : Cr.Cl l.prog w K mg base "parts_in" ["generator"] 1 (spF K A0 D_parts) := ⟨_, _, ok_parts_in T F_parts_in, b_parts_in, F_parts_in.kp, m_parts_in⟩
  have c_rw : Cr.Cl l.prog w K mg base "_are_right_words" ["words"] 2 (spF K A0 D_rw) := ⟨_, _, ok__are_right_words T F__are_right_words c_word, b__are_right_words, F__are_right_words.kp, m__are_right_words⟩
  have c_fits0 : Cr.Cl l.prog w K mg base "fits" ["condition", "kind"] 21 (spFits K 10) := ⟨_, _, rec_fits T F_fits b_fits m_fits F__fits_item b__fits_item m__fits_item F__fits_list b__fits_list m__fits_list (clImp c_word word_sp) (clImp c_kit kit_sp) (clImp c_kil kil_sp) 10, b_fits, F_fits.kp, m_fits⟩
  have c_fits : Cr.Cl l.prog w K mg base "fits" ["condition", "kind"] 21 (spF K A0 D_fits) := clImp c_fits0 fits_sp
  have c_fault : Cr.Cl l.prog w K mg base "_fault_itself" ["generator", "kinds"] 22 (spF K A0 (D_fault D_fits)) := ⟨_, _, ok__fault_itself T F__fault_itself (clMono c_rw (by decide)) c_fits (clMono c_beh (by decide)), b__fault_itself, F__fault_itself.kp, m__fault_itself⟩
  have c_made : Cr.Cl l.prog w K mg base "_kind_made" ["generator", "kinds"] 3 (spF K A0 D_made) := ⟨_, _, ok__kind_made T F__kind_made c_beh, b__kind_made, F__kind_made.kp, m__kind_made⟩
  have c_kat : Cr.Cl l.prog w K mg base "_kind_at" ["generator", "path"] 28 (spF K A0 (D_kindat D_fits 6)) := ⟨_, _, rec_kindat T F__kind_at b__kind_at m__kind_at (clMono c_parts (by decide)) c_fault (clMono c_made (by decide)) 6, b__kind_at, F__kind_at.kp, m__kind_at⟩
  have c_kindof : Cr.Cl l.prog w K mg base "kind_of" ["generator"] 29 (spF K A0 (D_kindof D_fits 6)) := ⟨_, _, ok_kind_of T F_kind_of c_kat, b_kind_of, F_kind_of.kp, m_kind_of⟩
  have c_take : Cr.Cl l.prog w K mg base "_law_take" ["box", "many"] 1 spTake := ⟨_, _, ok__law_take T F__law_take, b__law_take, F__law_take.kp, m__law_take⟩
  have c_box : Cr.Cl l.prog w K mg base "_law_box" ["script", "k"] 3 (spBox K) := ⟨_, _, ok__law_box T F__law_box ⟨_, _, ok__law_draw T F__law_draw ⟨_, _, ok__law_cell T F__law_cell, b__law_cell, F__law_cell.kp, m__law_cell⟩, b__law_draw, F__law_draw.kp, m__law_draw⟩, b__law_box, F__law_box.kp, m__law_box⟩
  have c_kind : Cr.Cl l.prog w K mg base "_law_kind" ["box", "depth"] 4 (spLKind2 K 3) := ⟨_, _, rec_lkind T F__law_kind b__law_kind m__law_kind c_take 3, b__law_kind, F__law_kind.kp, m__law_kind⟩
  have c_limit : Cr.Cl l.prog w K mg base "_law_limit" ["box", "kind", "depth"] 6 (spLLimit2 K 5) := ⟨_, _, rec_llimit2 T F__law_limit b__law_limit m__law_limit c_take 5, b__law_limit, F__law_limit.kp, m__law_limit⟩
  have c_gen : Cr.Cl l.prog w K mg base "_law_gen" ["box", "kind", "depth"] 12 (spLGen K 5) := ⟨_, _, rec_lgen T F__law_gen b__law_gen m__law_gen c_take c_limit 5, b__law_gen, F__law_gen.kp, m__law_gen⟩
  exact (ok_law (L := 29) T F_law (clImp c_kindof (kindof_sp (by decide))) ⟨_, _, ok__law_some T F__law_some c_box c_kind c_gen, b__law_some, F__law_some.kp, m__law_some⟩).mono (by decide)
end K4
open PySem PySem.W PyProof.Rows
set_option maxHeartbeats 0 in
theorem PySem.Challenge.cw_choicerows_k04_kinds_of_generators_holds : PySem.Challenge.rw_choicerows_k04_kinds_of_generators.Holds := by
  w_on; o_law; k_head; (case hw => w_witness2)
  k_fill
  refine L2.walk_of (l := PySem.Challenge.rw_choicerows_k04_kinds_of_generators) (n := 63) (k := 44) (x := "script") (CX := fun _ => L2.CX0) (sp := fun w => Cr.spLaw _) rfl (by decide) rfl ⟨rfl, by decide, by decide⟩ (fun w h Y => PySem.W.kIn_of Y) ?F (fun _ _ a ns hl _ hS => ⟨a, ns, rfl, hS, hl, fun _ => rfl⟩) (fun _ _ _ _ _ h => h)
  case F =>
    intro w mg fa h KX G hmg
    refine' K4.all_mk KX G hmg ?a1 ?l1 ?c1 ?k1 ?a2 ?l2 ?c2 ?k2 ?a3 ?l3 ?c3 ?k3 ?a4 ?l4 ?c4 ?k4 ?a5 ?l5 ?c5 ?k5 ?a6 ?l6 ?c6 ?k6 ?a7 ?l7 ?c7 ?k7 ?a8 ?l8 ?c8 ?k8 ?a9 ?l9 ?c9 ?k9 ?a10 ?l10 ?c10 ?k10 ?a11 ?l11 ?c11 ?k11 ?a12 ?l12 ?c12 ?k12 ?a13 ?l13 ?c13 ?k13 ?a14 ?l14 ?c14 ?k14 ?a15 ?l15 ?c15 ?k15 ?a16 ?l16 ?c16 ?k16 ?a17 ?l17 ?c17 ?k17 ?a18 ?l18 ?c18 ?k18 ?a19 ?l19 ?c19 ?k19 ?a20 ?l20 ?c20 ?k20 ?a21 ?l21 ?c21 ?k21 ?a22 ?l22 ?c22 ?k22 ?z_len ?z_all ?z_any ?z_isinstance ?z_tuple ?z_list ?z_int ?z_str ?z_bool ?z_range ?z_zip ?z_enumerate ?z_sum ?z_sorted ?z_min ?z_max ?z_set ?m_GREAT ?m_WORDS ?m_LETTERS ?m_ITEMS ?m_LONG ?m_DIVISOR
    (case a1 => k_is)
    (case l1 => k_is)
    (case c1 => k_is)
    (case k1 => k_is)
    (case a2 => k_is)
    (case l2 => k_is)
    (case c2 => k_is)
    (case k2 => k_is)
    (case a3 => k_is)
    (case l3 => k_is)
    (case c3 => k_is)
    (case k3 => k_is)
    (case a4 => k_is)
    (case l4 => k_is)
    (case c4 => k_is)
    (case k4 => k_is)
    (case a5 => k_is)
    (case l5 => k_is)
    (case c5 => k_is)
    (case k5 => k_is)
    (case a6 => k_is)
    (case l6 => k_is)
    (case c6 => k_is)
    (case k6 => k_is)
    (case a7 => k_is)
    (case l7 => k_is)
    (case c7 => k_is)
    (case k7 => k_is)
    (case a8 => k_is)
    (case l8 => k_is)
    (case c8 => k_is)
    (case k8 => k_is)
    (case a9 => k_is)
    (case l9 => k_is)
    (case c9 => k_is)
    (case k9 => k_is)
    (case a10 => k_is)
    (case l10 => k_is)
    (case c10 => k_is)
    (case k10 => k_is)
    (case a11 => k_is)
    (case l11 => k_is)
    (case c11 => k_is)
    (case k11 => k_is)
    (case a12 => k_is)
    (case l12 => k_is)
    (case c12 => k_is)
    (case k12 => k_is)
    (case a13 => k_is)
    (case l13 => k_is)
    (case c13 => k_is)
    (case k13 => k_is)
    (case a14 => k_is)
    (case l14 => k_is)
    (case c14 => k_is)
    (case k14 => k_is)
    (case a15 => k_is)
    (case l15 => k_is)
    (case c15 => k_is)
    (case k15 => k_is)
    (case a16 => k_is)
    (case l16 => k_is)
    (case c16 => k_is)
    (case k16 => k_is)
    (case a17 => k_is)
    (case l17 => k_is)
    (case c17 => k_is)
    (case k17 => k_is)
    (case a18 => k_is)
    (case l18 => k_is)
    (case c18 => k_is)
    (case k18 => k_is)
    (case a19 => k_is)
    (case l19 => k_is)
    (case c19 => k_is)
    (case k19 => k_is)
    (case a20 => k_is)
    (case l20 => k_is)
    (case c20 => k_is)
    (case k20 => k_is)
    (case a21 => k_is)
    (case l21 => k_is)
    (case c21 => k_is)
    (case k21 => k_is)
    (case a22 => k_is)
    (case l22 => k_is)
    (case c22 => k_is)
    (case k22 => k_is)
    (case z_len => k_is)
    (case z_all => k_is)
    (case z_any => k_is)
    (case z_isinstance => k_is)
    (case z_tuple => k_is)
    (case z_list => k_is)
    (case z_int => k_is)
    (case z_str => k_is)
    (case z_bool => k_is)
    (case z_range => k_is)
    (case z_zip => k_is)
    (case z_enumerate => k_is)
    (case z_sum => k_is)
    (case z_sorted => k_is)
    (case z_min => k_is)
    (case z_max => k_is)
    (case z_set => k_is)
    (case m_GREAT => k_is)
    (case m_WORDS => k_is)
    (case m_LETTERS => k_is)
    (case m_ITEMS => k_is)
    (case m_LONG => k_is)
    (case m_DIVISOR => k_is)
