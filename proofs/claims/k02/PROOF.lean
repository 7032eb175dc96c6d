import PyProof.Rows.All
import Wide.All
import OpenK.AllK
import Wide.FinOn
import HandS.ForMost
import HandS.IsInst
import HandS.Zip
import HandS.Walk
import HandS.Evl
import PySem.Challenge.RW_choicerows_k02_conditions_that_fit
set_option Elab.async false
set_option linter.all false
set_option maxRecDepth 100000
set_option maxHeartbeats 4000000
set_option autoImplicit false
namespace Cr
open PySem PySem.Spec PyProof.Rows L2 Evl

/-! ### data in the heap: ints, texts, tuples -/
/-- tuples that can be read stay so -/
def Kt (K : PySem.W.Frag) (H H' : Hp) : Prop := ∀ a xs, SqT K H a xs → SqT K H' a xs
section
variable {K : PySem.W.Frag} {H H1 H2 H' : Hp}
theorem Kt.refl : Kt K H H := fun _ _ h => h
theorem Kt.trans (a : Kt K H H1) (b : Kt K H1 H2) : Kt K H H2 := fun p xs h => b p xs (a p xs h)
theorem Kt.same (e : Same H H') : Kt K H H' := fun _ _ h => ex_t e h
theorem same_new {p : Addr} {o : HO} (h : H p = none) : Same H (upd H p o) := Ex.new h
theorem same_mut {p : Addr} {o : HO} (e : Same H H') (h : H p = none) : Same H (upd H' p o) := Ex.mut e h
theorem Kt.new {p : Addr} {o : HO} (h : H p = none) : Kt K H (upd H p o) := Kt.same (same_new h)
/-- a list is changed -/
theorem Kt.lst {l : Addr} {xs : List V} {o : HO} (h : H l = some (.lst xs)) : Kt K H (upd H l o) := fun a ys q => by
  rcases q with (q | ⟨ob, q⟩) | q
  · exact .inl (.inl (by rw [upd_ne (ne_of q h (fun z => nomatch z))]; exact q))
  · exact .inl (.inr ⟨ob, by rw [upd_ne (ne_of q h (fun z => nomatch z))]; exact q⟩)
  · exact .inr q
end

inductive Vd (K : PySem.W.Frag) (H : Hp) : V → PyData → Prop
  | int (i : Int) : Vd K H (.int i) (.int i)
  | str (x : Str) : Vd K H (.str x) (.str x)
  | tup {a : Addr} {xs : List V} {ds : List PyData} : SqT K H a xs → xs.length = ds.length → (∀ (i : Nat) v d, xs[i]? = some v → ds[i]? = some d → Vd K H v d) → Vd K H (.ref a) (.tuple ds)
section
variable {K : PySem.W.Frag} {H H' : Hp}
theorem Vd.keep (k : Kt K H H') {v : V} {d : PyData} (h : Vd K H v d) : Vd K H' v d := by
  induction h with
  | int i => exact .int i
  | str x => exact .str x
  | tup hs hl _ ih => exact .tup (k _ _ hs) hl ih
theorem dpAll_of : ∀ {xs : List V} {ds : List PyData}, xs.length = ds.length → (∀ (i : Nat) v d, xs[i]? = some v → ds[i]? = some d → Dp K H v d) → DpAll K H xs ds
  | [], [], _, _ => .nil
  | [], _ :: _, h, _ => by simp at h
  | _ :: _, [], h, _ => by simp at h
  | x :: xs, d :: ds, h, q => .cons (q 0 x d rfl rfl) (dpAll_of (by simpa using h) fun i v e h1 h2 => q (i + 1) v e (by simpa using h1) (by simpa using h2))
theorem Vd.dp {v : V} {d : PyData} (h : Vd K H v d) : Dp K H v d := by
  induction h with
  | int i => exact .int i
  | str x => exact .str x
  | tup hs hl _ ih => exact .tup hs (dpAll_of hl ih)
theorem Vd.get {a : Addr} {ds : List PyData} (h : Vd K H (.ref a) (.tuple ds)) : ∃ xs, SqT K H a xs ∧ xs.length = ds.length ∧ ∀ (i : Nat) v d, xs[i]? = some v → ds[i]? = some d → Vd K H v d := by
  cases h with
  | tup hs hl q => exact ⟨_, hs, hl, q⟩
theorem Vd.ref {v : V} {ds : List PyData} (h : Vd K H v (.tuple ds)) : ∃ a, v = .ref a := by
  cases h with
  | tup hs hl q => exact ⟨_, rfl⟩
theorem Vd.int_inv {v : V} {i : Int} (h : Vd K H v (.int i)) : v = .int i := by cases h; rfl
theorem Vd.str_inv {v : V} {x : Str} (h : Vd K H v (.str x)) : v = .str x := by cases h; rfl
/-- a tuple of one, of two -/
theorem Vd.t0 {p : Addr} (h : SqT K H p []) : Vd K H (.ref p) (.tuple []) := .tup h rfl fun i v d h1 _ => by simp at h1
theorem Vd.t1 {p : Addr} {x : V} {d : PyData} (h : SqT K H p [x]) (hx : Vd K H x d) : Vd K H (.ref p) (.tuple [d]) := .tup h rfl fun i v e h1 h2 => by
  match i with
  | 0 => cases h1; cases h2; exact hx
  | i + 1 => simp at h1
theorem Vd.t2 {p : Addr} {x y : V} {d e : PyData} (h : SqT K H p [x, y]) (hx : Vd K H x d) (hy : Vd K H y e) : Vd K H (.ref p) (.tuple [d, e]) := .tup h rfl fun i v e h1 h2 => by
  match i with
  | 0 => cases h1; cases h2; exact hx
  | 1 => cases h1; cases h2; exact hy
  | i + 2 => simp at h1
theorem Vd.t3 {p : Addr} {x y z : V} {d e f : PyData} (h : SqT K H p [x, y, z]) (hx : Vd K H x d) (hy : Vd K H y e) (hz : Vd K H z f) : Vd K H (.ref p) (.tuple [d, e, f]) := .tup h rfl fun i v e h1 h2 => by
  match i with
  | 0 => cases h1; cases h2; exact hx
  | 1 => cases h1; cases h2; exact hy
  | 2 => cases h1; cases h2; exact hz
  | i + 3 => simp at h1
theorem Vd.g1 {v : V} {d : PyData} (h : Vd K H v (.tuple [d])) : ∃ a x, v = .ref a ∧ SqT K H a [x] ∧ Vd K H x d := by
  obtain ⟨a, rfl⟩ := h.ref
  obtain ⟨xs, hs, hl, q⟩ := h.get
  match xs, hl with
  | [x], _ => exact ⟨a, x, rfl, hs, q 0 x d rfl rfl⟩
theorem Vd.g2 {v : V} {d e : PyData} (h : Vd K H v (.tuple [d, e])) : ∃ a x y, v = .ref a ∧ SqT K H a [x, y] ∧ Vd K H x d ∧ Vd K H y e := by
  obtain ⟨a, rfl⟩ := h.ref
  obtain ⟨xs, hs, hl, q⟩ := h.get
  match xs, hl with
  | [x, y], _ => exact ⟨a, x, y, rfl, hs, q 0 x d rfl rfl, q 1 y e rfl rfl⟩
theorem Vd.g3 {v : V} {d e f : PyData} (h : Vd K H v (.tuple [d, e, f])) : ∃ a x y z, v = .ref a ∧ SqT K H a [x, y, z] ∧ Vd K H x d ∧ Vd K H y e ∧ Vd K H z f := by
  obtain ⟨a, rfl⟩ := h.ref
  obtain ⟨xs, hs, hl, q⟩ := h.get
  match xs, hl with
  | [x, y, z], _ => exact ⟨a, x, y, z, rfl, hs, q 0 x d rfl rfl, q 1 y e rfl rfl, q 2 z f rfl rfl⟩
/-- the value's type, for isinstance -/
def tyN : PyData → String
  | .int _ => "int"
  | .str _ => "str"
  | _ => "tuple"
theorem Vd.ty {v : V} {d : PyData} (h : Vd K H v d) : TyX K H v (.type (tyN d)) := by
  cases h with
  | int i => exact .base (.int i)
  | str x => exact .base (.str x)
  | tup hs hl q =>
    rcases hs with (hs | ⟨o, hs⟩) | ⟨o, its, n, hk, hc, _⟩
    · exact .base (.tup hs)
    · exact .fTuple hs
    · exact .kTuple hk hc
end
/-! ### how deep and how long -/
inductive Dk : Nat → PyData → Prop
  | int {n : Nat} (i : Int) : Dk n (.int i)
  | str {n : Nat} {x : Str} : SeqAt.shaped (.str x) = true → x.length ≤ 1000 → Dk n (.str x)
  | tup {n : Nat} {ds : List PyData} : ds.length ≤ 1000 → (∀ d ∈ ds, Dk n d) → Dk (n + 1) (.tuple ds)
theorem lay_all : ∀ {ds : List PyData}, (∀ d ∈ ds, d.canLay0 = true) → PyData.canLayAll0 ds = true
  | [], _ => rfl
  | d :: ds, h => by
    unfold PyData.canLayAll0
    rw [h d List.mem_cons_self, lay_all fun e he => h e (List.mem_cons_of_mem _ he)]
    rfl
theorem depth_all {n : Nat} : ∀ {ds : List PyData}, (∀ d ∈ ds, d.depth ≤ n) → PyData.depthAll ds ≤ n
  | [], _ => Nat.zero_le _
  | d :: ds, h => by
    unfold PyData.depthAll
    exact Nat.max_le.mpr ⟨h d List.mem_cons_self, depth_all fun e he => h e (List.mem_cons_of_mem _ he)⟩
theorem Dk.lay {n : Nat} {d : PyData} (h : Dk n d) : d.canLay0 = true ∧ d.depth ≤ n := by
  induction h with
  | int i => exact ⟨rfl, Nat.zero_le _⟩
  | str hs _ => exact ⟨SeqAt.canLay_of_shaped hs, Nat.zero_le _⟩
  | tup _ _ ih => exact ⟨lay_all fun d hd => (ih d hd).1, Nat.succ_le_succ (depth_all fun d hd => (ih d hd).2)⟩
theorem Dk.shaped {n : Nat} {d : PyData} (h : Dk n d) (hn : n ≤ 64) : SeqAt.shaped d = true := by
  unfold SeqAt.shaped
  rw [h.lay.1, decide_eq_true (Nat.le_trans h.lay.2 hn)]
  rfl
theorem Dk.mono {n m : Nat} {d : PyData} (h : Dk n d) (hm : n ≤ m) : Dk m d := by
  induction h generalizing m with
  | int i => exact .int i
  | str hs hl => exact .str hs hl
  | tup hl _ ih =>
    obtain ⟨m', rfl⟩ : ∃ m', m = m' + 1 := ⟨m - 1, by omega⟩
    exact .tup hl fun d hd => ih d hd (by omega)
/-! ### words -/
def isWord (s : Str) : Bool := (decide ((1 : Int) ≤ (s.length : Int)) && decide ((s.length : Int) ≤ 8)) && s.cps.toList.all fun c => decide (97 ≤ c) && decide (c ≤ 122)
theorem lt_sign (a b : Nat) : decide ([a] < [b]) = decide (a < b) := by
  rw [Bool.eq_iff_iff, decide_eq_true_iff, decide_eq_true_iff, List.cons_lt_cons_iff]
  constructor
  · rintro (h | ⟨_, h⟩)
    · exact h
    · exact absurd h (List.not_lt_nil _)
  · exact fun h => .inl h
/-! ### kinds -/
inductive Kd where
  | int | word | lst (k : Kd) | tup (ks : List Kd)
mutual
def Kd.data : Kd → PyData
  | .int => .str "int"
  | .word => .str "word"
  | .lst k => .tuple [.str "list", k.data]
  | .tup ks => .tuple [.str "tuple", .tuple (dataAll ks)]
def dataAll : List Kd → List PyData
  | [] => []
  | k :: ks => k.data :: dataAll ks
end
theorem dataAll_map : ∀ ks : List Kd, dataAll ks = ks.map Kd.data
  | [] => by rw [dataAll]; rfl
  | k :: ks => by rw [dataAll, dataAll_map ks]; rfl
mutual
def isk : Kd → PyData → Bool
  | .int, d => match d with | .int _ => true | _ => false
  | .word, d => match d with | .str s => isWord s | _ => false
  | .lst k, d => match d with | .tuple ds => ds.all (isk k) | _ => false
  | .tup ks, d => match d with | .tuple ds => iskAll ks ds | _ => false
def iskAll : List Kd → List PyData → Bool
  | [], ds => match ds with | [] => true | _ => false
  | k :: ks, ds => match ds with | [] => false | d :: ds => isk k d && iskAll ks ds
end
inductive OkK : Nat → Kd → Prop
  | int {n : Nat} : OkK (n + 1) .int
  | word {n : Nat} : OkK (n + 1) .word
  | lst {n : Nat} {k : Kd} : OkK n k → OkK (n + 1) (.lst k)
  | tup {n : Nat} {ks : List Kd} : ks.length ≤ 1000 → (∀ k ∈ ks, OkK n k) → OkK (n + 1) (.tup ks)
theorem dk_str {n : Nat} {x : Str} (h : SeqAt.shaped (.str x) = true := by decide +kernel) (hl : x.length ≤ 1000 := by decide +kernel) : Dk n (.str x) := .str h hl
theorem dk_t2 {n : Nat} {a b : PyData} (ha : Dk n a) (hb : Dk n b) : Dk (n + 1) (.tuple [a, b]) := .tup (show 2 ≤ 1000 by decide) fun d hd => by
  rcases List.mem_cons.mp hd with rfl | hd
  · exact ha
  · rcases List.mem_cons.mp hd with rfl | hd
    · exact hb
    · cases hd
theorem OkK.dk {n : Nat} {k : Kd} (h : OkK n k) : Dk (2 * n) k.data := by
  induction h with
  | int => rw [Kd.data]; exact dk_str
  | word => rw [Kd.data]; exact dk_str
  | lst _ ih => rw [Kd.data]; exact (dk_t2 dk_str (ih.mono (Nat.le_succ _)))
  | tup hl _ ih =>
    rw [Kd.data, dataAll_map]
    refine dk_t2 dk_str (.tup (by rw [List.length_map]; exact hl) fun d hd => ?_)
    obtain ⟨k, hk, rfl⟩ := List.mem_map.mp hd
    exact ih k hk
theorem OkK.mono {n m : Nat} {k : Kd} (h : OkK n k) (hm : n ≤ m) : OkK m k := by
  induction h generalizing m with
  | int => obtain ⟨m', rfl⟩ : ∃ m', m = m' + 1 := ⟨m - 1, by omega⟩; exact .int
  | word => obtain ⟨m', rfl⟩ : ∃ m', m = m' + 1 := ⟨m - 1, by omega⟩; exact .word
  | lst _ ih => obtain ⟨m', rfl⟩ : ∃ m', m = m' + 1 := ⟨m - 1, by omega⟩; exact .lst (ih (by omega))
  | tup hl _ ih => obtain ⟨m', rfl⟩ : ∃ m', m = m' + 1 := ⟨m - 1, by omega⟩; exact .tup hl fun k hk => ih k hk (by omega)
/-- the callee: where it stands, its promise -/
structure Cl (P : Program) (w : World) (K : PySem.W.Frag) (mg : Str → Option Value) (base : Heap) (x : Str) (ps : List Str) (k : Nat) (sp : Sp) where
  f : Addr
  fd : FuncData
  ok : FnOk P w K mg base CX0 k f fd ps sp
  b : Binds K fd ps []
  kp : PySem.W.keepIn K (.ref f) = true
  m : mg x = some (.ref f)
theorem no_call {P : Program} {w : World} {K : PySem.W.Frag} {mg : Str → Option Value} {base : Heap} {k : Nat} {f : Addr} {fd : FuncData} {ps : List Str} {sp : Sp} (no : ∀ vs H Q E, ¬ sp vs H Q E) : FnOk P w K mg base CX0 k f fd ps sp :=
  ⟨fun vs H Q E h => absurd h (no vs H Q E), fun A outer s H args us vs Q E _ _ _ _ h => absurd h (no vs H Q E)⟩
/-! ### further rules of evaluation -/
section
variable {K : PySem.W.Frag} {σ : L2.St} {H H' : Hp} {ta tb tc te tx : TE} {t u : TT} {x y z v w : V} {r r' : R2}
theorem ev_chain {k k' : Bool} (ha : Ev ta σ H x) (hb : Ev tb σ H y) (hc : Ev tc σ H w) (hr : RV r x y H (.bl k)) (hr' : RV r' y w H (.bl k')) : Ev (tChain r r' ta tb tc) σ H (.bl (k && k')) := fun H1 e Q q =>
  ha H1 e _ fun H2 e2 => hb H2 (e.trans e2) _ fun H3 e3 => hr H3 ((e.trans e2).trans e3) _ fun H4 e4 => ⟨k, rfl, by
    cases k with
    | true => exact hc H4 (((e.trans e2).trans e3).trans e4) _ fun H5 e5 => hr' H5 ((((e.trans e2).trans e3).trans e4).trans e5) Q fun H6 e6 => q H6 ((((e2.trans e3).trans e4).trans e5).trans e6)
    | false => exact q H4 ((e2.trans e3).trans e4)⟩
theorem ev_one {v : V} (h : Ev ta σ H v) : Ev ta σ H v := h
theorem et_yes : EvT tYes σ H true := fun H1 _ _ q => q H1 (Ex.refl H1)
theorem ev_all {bs : List Bool} (h : EvL te σ H (bs.map V.bl)) : Ev (tCB (rAll K) (tCons te tNil)) σ H (.bl (bs.all id)) := fun H1 e Q q =>
  h H1 e _ fun p H2 _ e2 hp => ⟨p, bs, rfl, sq_of hp, q H2 e2⟩
theorem ev_any {bs : List Bool} (h : EvL te σ H (bs.map V.bl)) : Ev (tCB (rAny K) (tCons te tNil)) σ H (.bl (bs.any id)) := fun H1 e Q q =>
  h H1 e _ fun p H2 _ e2 hp => ⟨p, bs, rfl, sq_of hp, q H2 e2⟩
/-- isinstance of data and a built-in class -/
theorem ev_isi {d : PyData} {n : String} {b : Bool} (ha : Ev ta σ H v) (hb : Ev tb σ H (.ty n)) (h : Vd K H v d) (hk : kitB (tyN d) n = some b) : Ev (tCB (rIsi K) (tCons ta (tCons tb tNil))) σ H (.bl b) := fun H1 e Q q =>
  ha H1 e _ fun H2 e2 => hb H2 (e.trans e2) _ fun H3 e3 => ⟨v, .ty n, _, _, b, rfl, .ty n, (h.keep (Kt.same ((e.trans e2).trans e3))).ty, kit_ty hk, q H3 (e2.trans e3)⟩
theorem ev_isiB {c : Bool} {n : String} {b : Bool} (ha : Ev ta σ H (.bl c)) (hb : Ev tb σ H (.ty n)) (hk : kitB "bool" n = some b) : Ev (tCB (rIsi K) (tCons ta (tCons tb tNil))) σ H (.bl b) := fun H1 e Q q =>
  ha H1 e _ fun H2 e2 => hb H2 (e.trans e2) _ fun H3 e3 => ⟨.bl c, .ty n, _, _, b, rfl, .ty n, .base (.bl c), kit_ty hk, q H3 (e2.trans e3)⟩
theorem rv_eqD {d e : PyData} (hx : Vd K H x d) (hy : Vd K H y e) (sd : SeqAt.shaped d = true) (se : SeqAt.shaped e = true) : RV (rEqD K) x y H (.bl (PyData.eqv d e)) := fun H1 e1 _ q =>
  ⟨d, e, (hx.keep (Kt.same e1)).dp, (hy.keep (Kt.same e1)).dp, sd, se, q H1 (Ex.refl H1)⟩
theorem rv_neD {d e : PyData} (hx : Vd K H x d) (hy : Vd K H y e) (sd : SeqAt.shaped d = true) (se : SeqAt.shaped e = true) : RV (rNeD K) x y H (.bl (!PyData.eqv d e)) := fun H1 e1 _ q =>
  ⟨d, e, (hx.keep (Kt.same e1)).dp, (hy.keep (Kt.same e1)).dp, sd, se, q H1 (Ex.refl H1)⟩
theorem rv_leS {i j : Str} : RV (fun x y H Q => ∃ i j, x = .str i ∧ y = .str j ∧ Q (.bl (!decide (j.cps.toList < i.cps.toList))) H) (.str i) (.str j) H (.bl (!decide (j.cps.toList < i.cps.toList))) := fun H1 _ _ q => ⟨i, j, rfl, rfl, q H1 (Ex.refl H1)⟩
theorem rv_notN : RV (fun x y H Q => y = .non ∧ Q (.bl (!decide (x = .non))) H) x .non H (.bl (!decide (x = .non))) := fun H1 _ _ q => ⟨rfl, q H1 (Ex.refl H1)⟩
theorem ev_lenS {s : Str} (hs : s.length ≤ 1000) (ha : Ev ta σ H (.str s)) : Ev (tCB (fun xs H Q => ∃ z, xs = [.str z] ∧ z.length ≤ sizeLine ∧ Q (.int z.length) H) (tCons ta tNil)) σ H (.int s.length) := fun H1 e Q q =>
  ha H1 e _ fun H2 e2 => ⟨s, rfl, Nat.le_of_lt (small1000 hs), q H2 e2⟩
theorem ev_lenT {p : Addr} {xs : List V} (ha : Ev ta σ H (.ref p)) (h : SqT K H p xs) : Ev (tCB (fun xs H Q => ∃ p ys, xs = [.ref p] ∧ (SqL K H p ys ∨ SqT K H p ys) ∧ Q (.int ys.length) H) (tCons ta tNil)) σ H (.int (xs.length : Int)) := fun H1 e Q q =>
  ha H1 e _ fun H2 e2 => ⟨p, xs, rfl, .inr (ex_t (e.trans e2) h), q H2 e2⟩
theorem ev_lenL {p : Addr} {xs : List V} (ha : Ev ta σ H (.ref p)) (h : SqL K H p xs) : Ev (tCB (fun xs H Q => ∃ p ys, xs = [.ref p] ∧ (SqL K H p ys ∨ SqT K H p ys) ∧ Q (.int ys.length) H) (tCons ta tNil)) σ H (.int (xs.length : Int)) := fun H1 e Q q =>
  ha H1 e _ fun H2 e2 => ⟨p, xs, rfl, .inl (ex_l (e.trans e2) h), q H2 e2⟩
/-- an item of a tuple, at a written place -/
theorem ev_ixT {a : Addr} {xs : List V} {j : Nat} (ha : Ev ta σ H (.ref a)) (hb : Ev tb σ H (.int (j : Int))) (h : SqT K H a xs) (hv : xs[j]? = some v) : Ev (tOp (rIxT K) ta tb) σ H v := ev_op ha hb (rv_ixT h (atI_nat hv))
theorem ev_ixL {a : Addr} {xs : List V} {j : Nat} (ha : Ev ta σ H (.ref a)) (hb : Ev tb σ H (.int (j : Int))) (h : SqL K H a xs) (hv : xs[j]? = some v) : Ev (tOp (rIxL K) ta tb) σ H v := ev_op ha hb (rv_ixL h (atI_nat hv))
theorem given_all (n : Nat) (b : Nat → Bool) : given n (fun _ => true) (fun i => .bl (b i)) = ((List.range n).map b).map V.bl := by
  unfold given
  rw [List.filter_eq_self.mpr (fun _ _ => rfl), List.map_map]
  rfl
theorem el_is {xs ys : List V} (h : EvL te σ H xs) (e : xs = ys) : EvL te σ H ys := by
  rw [← e]
  exact h
/-- comprehensions over a tuple, over a text, over two tuples -/
theorem el_lcT {a : Addr} {xs : List V} {tl : TE} {j : Nat} {vs : List Nat} (f : Nat → Bool) (v : Nat → V) (h : Ev tl σ H (.ref a)) (hx : SqT K H a xs) (hz : xs.length ≤ 40000) (hw : ∀ x, wipe ((wipe σ vs).set j (some x)) vs = wipe σ vs)
    (ht : ∀ (i : Nat) (x : V) H1, Ex H H1 → xs[i]? = some x → EvT t ((wipe σ vs).set j (some x)) H1 (f i)) (he : ∀ (i : Nat) (x : V) H1, Ex H H1 → xs[i]? = some x → f i = true → Ev te ((wipe σ vs).set j (some x)) H1 (v i)) :
    EvL (tLc (iTup K tl) (gName j) t te vs) σ H (given xs.length f v) := fun H0 e Q q => h H0 e _ fun H1 e1 => ⟨a, rfl, ⟨xs, ex_t (e.trans e1) hx⟩, fun Dl hD =>
  lc_tup (xs := xs) (Cw H1 f v Dl) ⟨hD, Ex.new hD, upd_same⟩ (fun i H' _ p => ex_t ((e.trans e1).trans p.2.1) hx) (fun i x H' hi p => ⟨hw x, cw_turn p (by have := (List.getElem?_eq_some_iff.mp hi).1; omega) (ht i x H1 (e.trans e1) hi) (fun hf => he i x H1 (e.trans e1) hi hf)⟩)
    (fun H' p => q Dl H' (fresh_back e1 p.1) (e1.trans p.2.1) p.2.2)⟩
theorem el_lcS {s : Str} {tl : TE} {j : Nat} {vs : List Nat} (f : Nat → Bool) (v : Nat → V) (h : Ev tl σ H (.str s)) (hz : s.cps.size ≤ 40000) (hw : ∀ x, wipe ((wipe σ vs).set j (some x)) vs = wipe σ vs)
    (ht : ∀ (i c : Nat) H1, Ex H H1 → s.cps[i]? = some c → EvT t ((wipe σ vs).set j (some (.str ⟨#[c]⟩))) H1 (f i)) (he : ∀ (i c : Nat) H1, Ex H H1 → s.cps[i]? = some c → f i = true → Ev te ((wipe σ vs).set j (some (.str ⟨#[c]⟩))) H1 (v i)) :
    EvL (tLc (iStr tl) (gName j) t te vs) σ H (given s.cps.size f v) := fun H0 e Q q => h H0 e _ fun H1 e1 => ⟨s, rfl, fun Dl hD =>
  lc_it (walk_str (z := s)) (Cw H1 f v Dl) ⟨hD, Ex.new hD, upd_same⟩ (fun _ _ _ _ => True.intro) (fun i x H2 H' hi p y => by
    obtain ⟨rfl, c, hc, rfl⟩ := y
    exact ⟨hw _, cw_turn p (by omega) (ht i c H1 (e.trans e1) hc) (fun hf => he i c H1 (e.trans e1) hc hf)⟩)
    (fun H' p => q Dl H' (fresh_back e1 p.1) (e1.trans p.2.1) p.2.2)⟩
theorem walk_zipT {a b : Addr} {xs ys : List V} {n : Nat} (hn : n = min xs.length ys.length) : Walk (RZ.ItzT K a b) n (fun H => SqT K H a xs ∧ SqT K H b ys) (YPair (fun i => xs[i]?) (fun i => ys[i]?)) := by
  subst hn
  refine ⟨fun i _ hi q => ?_, fun _ q => ⟨xs, ys, q.1, q.2, by omega⟩, fun i H v H' _ q y => ?_⟩
  · have h1 : i < xs.length := by omega
    have h2 : i < ys.length := by omega
    exact ⟨xs, ys, xs[i], ys[i], q.1, q.2, by simp [h1], by simp [h2]⟩
  · obtain ⟨T, x, z, h1, h2, h3, h4, h5⟩ := y
    exact ⟨T, x, z, h1, h2, h3, h4 xs q.1, h5 ys q.2⟩
theorem el_lcZ {a b : Addr} {xs ys : List V} {tl tm : TE} {j1 j2 : Nat} {vs : List Nat} (v : Nat → V) (h : Ev tl σ H (.ref a)) (h2 : Ev tm σ H (.ref b)) (hx : SqT K H a xs) (hy : SqT K H b ys) (hz : min xs.length ys.length ≤ 40000)
    (hw : ∀ x y, wipe (((wipe σ vs).set j1 (some x)).set j2 (some y)) vs = wipe σ vs)
    (he : ∀ (i : Nat) (x y : V) H1, Ex H H1 → xs[i]? = some x → ys[i]? = some y → Ev te (((wipe σ vs).set j1 (some x)).set j2 (some y)) H1 (v i)) :
    EvL (tLc (RZ.iZipA K (tCons tl (tCons tm tNil))) (gTup K 2 (gCons (gName j1) (gCons (gName j2) gNil))) tYes te vs) σ H (given (min xs.length ys.length) (fun _ => true) v) := fun H0 e Q q => h H0 e _ fun H1 e1 => h2 H1 (e.trans e1) _ fun H2 e2 =>
  ⟨a, b, xs, ys, rfl, .inr ⟨ex_t ((e.trans e1).trans e2) hx, ex_t ((e.trans e1).trans e2) hy, fun Dl hD =>
  lc_it (walk_zipT rfl) (Cw H2 (fun _ => true) v Dl) ⟨hD, Ex.new hD, upd_same⟩ (fun _ _ _ p => ⟨ex_t (((e.trans e1).trans e2).trans p.2.1) hx, ex_t (((e.trans e1).trans e2).trans p.2.1) hy⟩) (fun i x H3 H' hi p y => by
    obtain ⟨T, x1, x2, rfl, hT, rfl, f1, f2⟩ := y
    have p' : Cw H2 (fun _ => true) v Dl i (upd H3 T (.tup [x1, x2])) := ⟨p.1, p.2.1.trans (Ex.new hT), by rw [upd_ne (ne_of_none p.2.2 hT)]; exact p.2.2⟩
    exact ⟨T, [x1, x2], rfl, .inl (.inl upd_same), rfl, x1, [x2], rfl, x2, [], rfl, rfl, hw _ _, cw_turn p' (by omega) et_yes (fun _ => he i x1 x2 H2 ((e.trans e1).trans e2) f1 f2)⟩)
    (fun H' p => q Dl H' (fresh_back (e1.trans e2) p.1) ((e1.trans e2).trans p.2.1) p.2.2)⟩⟩
theorem et_andF (h1 : EvT t σ H false) : EvT (tAnd t u) σ H false := fun H1 e Q q => h1 H1 e _ fun H2 e2 => q H2 e2
theorem et_andT {b : Bool} (h1 : EvT t σ H true) (h2 : EvT u σ H b) : EvT (tAnd t u) σ H b := fun H1 e Q q => h1 H1 e _ fun H2 e2 => h2 H2 (e.trans e2) Q fun H3 e3 => q H3 (e2.trans e3)
theorem et_orT (h1 : EvT t σ H true) : EvT (tOr t u) σ H true := fun H1 e Q q => h1 H1 e _ fun H2 e2 => q H2 e2
theorem et_orF {b : Bool} (h1 : EvT t σ H false) (h2 : EvT u σ H b) : EvT (tOr t u) σ H b := fun H1 e Q q => h1 H1 e _ fun H2 e2 => h2 H2 (e.trans e2) Q fun H3 e3 => q H3 (e2.trans e3)
theorem ev_andF (h1 : Ev ta σ H (.bl false)) : Ev (tAndV ta tb) σ H (.bl false) := fun H1 e Q q => h1 H1 e _ fun H2 e2 => ⟨false, rfl, q H2 e2⟩
theorem ev_andT {b : Bool} (h1 : Ev ta σ H (.bl true)) (h2 : Ev tb σ H (.bl b)) : Ev (tAndV ta tb) σ H (.bl b) := fun H1 e Q q => h1 H1 e _ fun H2 e2 => ⟨true, rfl, h2 H2 (e.trans e2) Q fun H3 e3 => q H3 (e2.trans e3)⟩
theorem k_tt : kitB "tuple" "tuple" = some true := by decide +kernel
theorem k_it : kitB "int" "tuple" = some false := by decide +kernel
theorem k_st : kitB "str" "tuple" = some false := by decide +kernel
theorem k_ti : kitB "tuple" "int" = some false := by decide +kernel
theorem k_ii : kitB "int" "int" = some true := by decide +kernel
theorem k_si : kitB "str" "int" = some false := by decide +kernel
theorem k_ts : kitB "tuple" "str" = some false := by decide +kernel
theorem k_is : kitB "int" "str" = some false := by decide +kernel
theorem k_ss : kitB "str" "str" = some true := by decide +kernel
theorem k_ib : kitB "int" "bool" = some false := by decide +kernel
theorem k_bb : kitB "bool" "bool" = some true := by decide +kernel
theorem ev_callC {sp : Sp} {vs : List V} {E : XK} {ta : TA} (h : EvA ta σ H vs) (hs : SpV sp vs H z) : Ev (tCall sp [] E ta) σ H z := ev_call h (by rw [List.append_nil]; exact hs)
end
/-! ### lists of data, empty or not -/
theorem all_items {α : Type} (a0 : α) (p : α → Bool) (ds : List α) : ((List.range ds.length).map fun i => p (ds.getD i a0)).all id = ds.all p := by
  have h : ((List.range ds.length).map fun i => p (ds.getD i a0)) = ds.map p := by
    apply List.ext_getElem
    · simp
    · intro i h1 h2
      simp at h1
      simp [List.getD_eq_getElem?_getD, List.getElem?_eq_getElem h1]
  rw [h, List.all_map]
  rfl
theorem zip_items {α β : Type} (a0 : α) (b0 : β) (p : α → β → Bool) : ∀ (ks : List α) (ds : List β), ks.length = ds.length → ((List.range ds.length).map fun i => p (ks.getD i a0) (ds.getD i b0)).all id = (List.zipWith p ks ds).all id := fun ks ds hl => by
  have h : ((List.range ds.length).map fun i => p (ks.getD i a0) (ds.getD i b0)) = List.zipWith p ks ds := by
    apply List.ext_getElem
    · simp [hl]
    · intro i h1 h2
      simp at h1
      have h3 : i < ks.length := by omega
      simp [List.getD_eq_getElem?_getD, List.getElem?_eq_getElem h1, List.getElem?_eq_getElem h3]
  rw [h]
theorem iskAll_zip : ∀ (ks : List Kd) (ds : List PyData), iskAll ks ds = (decide (ds.length = ks.length) && (List.zipWith isk ks ds).all id)
  | [], [] => by rw [iskAll]; rfl
  | [], _ :: _ => by simp [iskAll]
  | _ :: _, [] => by rw [iskAll]; rfl
  | k :: ks, d :: ds => by
    rw [iskAll, iskAll_zip ks ds]
    have e : decide ((d :: ds).length = (k :: ks).length) = decide (ds.length = ks.length) := decide_eq_decide.mpr (by simp)
    rw [e]
    show (isk k d && (decide (ds.length = ks.length) && (List.zipWith isk ks ds).all id)) = (decide (ds.length = ks.length) && (isk k d && (List.zipWith isk ks ds).all id))
    cases isk k d <;> cases decide (ds.length = ks.length) <;> rfl
theorem iskAll_at (ks : List Kd) (ds : List PyData) : (decide (V.int (ds.length : Int) = V.int (ks.length : Int)) && (decide (ds.length = ks.length) && ((List.range ds.length).map fun i => isk (ks.getD i .int) (ds.getD i .none)).all id)) = iskAll ks ds := by
  rw [iskAll_zip]
  by_cases h : ds.length = ks.length
  · rw [zip_items .int .none isk ks ds h.symm, decide_eq_true h, h, decide_eq_true rfl]
    rfl
  · rw [decide_eq_false h, decide_eq_false (fun e => h (by injection e with e; exact Int.ofNat.inj e))]
    rfl
theorem mem_given {n : Nat} {f : Nat → Bool} {v : Nat → V} {x : V} (h : x ∈ given n f v) : ∃ i, i < n ∧ f i = true ∧ x = v i := by
  unfold given at h
  obtain ⟨i, hi, rfl⟩ := List.mem_map.mp h
  obtain ⟨h1, h2⟩ := List.mem_filter.mp hi
  exact ⟨i, List.mem_range.mp h1, h2, rfl⟩
theorem given_empty (n : Nat) (f : Nat → Bool) (v : Nat → V) : (given n f v).isEmpty = ((List.range n).map fun i => !f i).all id := by
  unfold given
  rw [Bool.eq_iff_iff, List.isEmpty_iff, List.map_eq_nil_iff, List.filter_eq_nil_iff, List.all_map, List.all_eq_true]
  constructor
  · intro h i hi
    have := h i hi
    simpa using this
  · intro h i hi
    have := h i hi
    simpa using this
section
variable {K : PySem.W.Frag} {σ : L2.St} {H H' : Hp} {ta tb tc te tx : TE}
theorem dpAll_some {m : Nat} : ∀ {xs : List V}, (∀ x ∈ xs, ∃ d, Vd K H x d ∧ Dk m d) → ∃ ds, DpAll K H xs ds ∧ ds.isEmpty = xs.isEmpty ∧ ∀ d ∈ ds, Dk m d
  | [], _ => ⟨[], .nil, rfl, fun _ h => nomatch h⟩
  | x :: xs, h => by
    obtain ⟨d, h1, h2⟩ := h x List.mem_cons_self
    obtain ⟨ds, h3, h4, h5⟩ := dpAll_some fun y hy => h y (List.mem_cons_of_mem _ hy)
    refine ⟨d :: ds, .cons h1.dp h3, rfl, fun e he => ?_⟩
    rcases List.mem_cons.mp he with rfl | he
    · exact h2
    · exact h5 e he
theorem shaped_list {m : Nat} {ds : List PyData} (hm : m ≤ 60) (h : ∀ d ∈ ds, Dk m d) : SeqAt.shaped (.list ds) = true := by
  unfold SeqAt.shaped
  have h1 : (PyData.list ds).canLay0 = true := lay_all fun d hd => (h d hd).lay.1
  have h2 : (PyData.list ds).depth ≤ 64 := Nat.le_trans (Nat.succ_le_succ (depth_all fun d hd => (h d hd).lay.2)) (by omega)
  rw [h1, decide_eq_true h2]
  rfl
/-- [..] == [] -/
theorem ev_nil {m : Nat} {xs : List V} (hm : m ≤ 60) (ha : EvL ta σ H xs) (hx : ∀ x ∈ xs, ∀ H1, Ex H H1 → ∃ d, Vd K H1 x d ∧ Dk m d) : Ev (tOp (rEqD K) ta (tLst tNil)) σ H (.bl xs.isEmpty) :=
  ev_opLL ha (el_lst ea_nil (by decide)) fun p q H1 hp hq e => fun H2 e2 Q k => by
    obtain ⟨ds, h3, h4, h5⟩ := dpAll_some (K := K) (H := H2) fun x hx' => hx x hx' H2 (e.trans e2)
    refine ⟨.list ds, .list [], .lst (sq_of (e2 _ _ hp)) h3, .lst (sq_of (e2 _ _ hq)) .nil, shaped_list hm h5, by decide +kernel, ?_⟩
    have e3 : PyData.eqv (.list ds) (.list []) = xs.isEmpty := by
      rw [← h4]
      cases ds with
      | nil => rfl
      | cons d ds => rfl
    rw [e3]
    exact k H2 (Ex.refl H2)
theorem et_val {b : Bool} (h : Ev te σ H (.bl b)) : EvT (tB te) σ H b := et_B h
end
theorem Dk.item {n : Nat} {ds : List PyData} (h : Dk (n + 1) (.tuple ds)) : ds.length ≤ 1000 ∧ ∀ d ∈ ds, Dk n d := by
  cases h with
  | tup h1 h2 => exact ⟨h1, h2⟩
theorem getD_at {α : Type} {ds : List α} {i : Nat} {a0 : α} (h : i < ds.length) : ds[i]? = some (ds.getD i a0) := by
  rw [List.getD_eq_getElem?_getD, List.getElem?_eq_getElem h]
  rfl
theorem OkK.shaped {n : Nat} {k : Kd} (h : OkK n k) (hn : n ≤ 20) : SeqAt.shaped k.data = true := h.dk.shaped (by omega)
theorem shaped_int : SeqAt.shaped (.str "int") = true := by decide +kernel
theorem shaped_word : SeqAt.shaped (.str "word") = true := by decide +kernel
end Cr
namespace Cr
open PySem PySem.Spec PyProof.Rows L2 Evl
section
variable {P : Program} {w : World} {K : PySem.W.Frag} {mg : Str → Option Value} {base : Heap}
def spWord : Sp := fun vs H Q _ => ∃ s : Str, vs = [.str s] ∧ s.length ≤ 1000 ∧ ∀ H', Same H H' → Q (.bl (isWord s)) H'
theorem sign_ok (c : Nat) : (!decide ((⟨#[c]⟩ : Str).cps.toList < ("a" : Str).cps.toList) && !decide (("z" : Str).cps.toList < (⟨#[c]⟩ : Str).cps.toList)) = (decide (97 ≤ c) && decide (c ≤ 122)) := by
  rw [show ("a" : Str).cps.toList = [97] by decide +kernel, show ("z" : Str).cps.toList = [122] by decide +kernel, show (⟨#[c]⟩ : Str).cps.toList = [c] from rfl, lt_sign, lt_sign, ← decide_not, ← decide_not]
  congr 1
  · exact decide_eq_decide.mpr (by omega)
  · exact decide_eq_decide.mpr (by omega)
theorem all_signs (z : Str) (p : Nat → Bool) : ((List.range z.cps.size).map fun i => p (z.cps.toList.getD i 0)).all id = z.cps.toList.all p := by
  have h : ∀ l : List Nat, ((List.range l.length).map fun i => p (l.getD i 0)) = l.map p := fun l => by
    apply List.ext_getElem
    · simp
    · intro i h1 h2
      simp at h1
      simp [List.getD_eq_getElem?_getD, List.getElem?_eq_getElem h1]
  rw [← Array.length_toList, h, List.all_map]
  rfl
def spKit (K : PySem.W.Frag) : Sp := fun vs H Q _ => ∃ (v : V) (k : Kd) (n : Nat), vs = [v] ∧ Vd K H v k.data ∧ OkK n k ∧ n ≤ 20 ∧
  ∀ r H', Same H H' → (∀ ks, k = .tup ks → ∃ a, r = .ref a ∧ Vd K H' (.ref a) (.tuple (dataAll ks))) → ((∀ ks, k ≠ .tup ks) → ∃ a, r = .ref a ∧ Vd K H' (.ref a) (.tuple [])) → Q r H'
def spKil (K : PySem.W.Frag) : Sp := fun vs H Q _ => ∃ (v : V) (k : Kd) (n : Nat), vs = [v] ∧ Vd K H v k.data ∧ OkK n k ∧ n ≤ 20 ∧
  ∀ r H', Same H H' → (∀ j, k = .lst j → r ≠ .non ∧ Vd K H' r j.data) → ((∀ j, k ≠ .lst j) → r = .non) → Q r H'
theorem vd_non {H : Hp} {v : V} {d : PyData} (h : Vd K H v d) : v ≠ .non := by cases h <;> exact fun e => nomatch e
end
section
variable {P : Program} {w : World} {K : PySem.W.Frag} {mg : Str → Option Value} {base : Heap}
def spIs (K : PySem.W.Frag) (n : Nat) : Sp := fun vs H Q _ => ∃ (v u : V) (d : PyData) (k : Kd), vs = [v, u] ∧ Vd K H v d ∧ Dk 20 d ∧ Vd K H u k.data ∧ OkK n k ∧ n ≤ 20 ∧ ∀ H', Same H H' → Q (.bl (isk k d)) H'
theorem spIs_0 (vs : List V) (H : Hp) (Q : VK) (E : XK) : ¬ spIs K 0 vs H Q E := fun h => by
  obtain ⟨_, _, _, _, _, _, _, _, h, _⟩ := h
  cases h
theorem is_call {n : Nat} {H : Hp} {v u : V} {d : PyData} {k : Kd} (hv : Vd K H v d) (hd : Dk 20 d) (hu : Vd K H u k.data) (hk : OkK n k) (hn : n ≤ 20) : SpV (spIs K n) [v, u] H (.bl (isk k d)) := fun H1 e Q q E =>
  ⟨v, u, d, k, rfl, hv.keep (Kt.same e), hd, hu.keep (Kt.same e), hk, hn, fun H' e' => q H' e'⟩
end
section
variable {P : Program} {w : World} {K : PySem.W.Frag} {mg : Str → Option Value} {base : Heap}
def spLWord : Sp := fun vs H Q _ => ∃ s : Str, vs = [.str s] ∧ s.length ≤ 1000 ∧ SeqAt.shaped (.str s) = true ∧ ∀ H', Same H H' → Q (.bl (isWord s)) H'
theorem abc_list : ("abcdefghijklmnopqrstuvwxyz" : Str).cps.toList = List.range' 97 26 := by decide +kernel
theorem abc_sign (c : Nat) : (!(!decide (c ∈ ("abcdefghijklmnopqrstuvwxyz" : Str).cps.toList))) = (decide (97 ≤ c) && decide (c ≤ 122)) := by
  rw [abc_list, Bool.not_not, Bool.eq_iff_iff, Bool.and_eq_true, decide_eq_true_iff, decide_eq_true_iff, decide_eq_true_iff, List.mem_range'_1]
  omega
theorem sign_shaped {s : Str} {i c : Nat} (h : SeqAt.shaped (.str s) = true) (hc : s.cps[i]? = some c) : SeqAt.shaped (.str ⟨#[c]⟩) = true := by
  have h1 : PyData.strOk s = true := SeqAt.canLay_of_shaped h
  obtain ⟨hi, rfl⟩ := Array.getElem?_eq_some_iff.mp hc
  have h2 : s.cps.all (· < 0x110000) = true := h1
  have h3 := (Array.all_eq_true.mp h2) i hi
  unfold SeqAt.shaped
  have h4 : (PyData.str ⟨#[s.cps[i]]⟩).canLay0 = true := by
    show PyData.strOk ⟨#[s.cps[i]]⟩ = true
    show (#[s.cps[i]]).all (· < 0x110000) = true
    simpa using h3
  rw [h4]
  rfl
theorem one_items {n : Nat} {f : Nat → Bool} {H : Hp} : ∀ x ∈ given n f (fun _ => V.int 1), ∀ H1, Ex H H1 → ∃ d, Vd K H1 x d ∧ Dk 0 d := fun x hx H1 _ => by
  obtain ⟨i, _, _, rfl⟩ := mem_given hx
  exact ⟨_, .int 1, .int 1⟩
end
section
variable {P : Program} {w : World} {K : PySem.W.Frag} {mg : Str → Option Value} {base : Heap}
def spCell (K : PySem.W.Frag) : Sp := fun vs H Q _ => ∃ (a : Addr) (ns : List Int) (k : Nat), vs = [.ref a, .int (k : Int)] ∧ SqL K H a (ns.map V.int) ∧ ∀ c H', Same H H' → Q (.int c) H'
def spDraw (K : PySem.W.Frag) : Sp := fun vs H Q _ => ∃ (a b : Addr) (ns ms : List Int) (k : Nat), vs = [.ref a, .int (k : Int), .ref b] ∧ SqL K H a (ns.map V.int) ∧ SqL K H b (ms.map V.int) ∧ ms.length ≤ 1000 ∧ (∀ m ∈ ms, 0 < m ∧ m < 1073741824) ∧
  ∀ p (xs : List Int) H', Same H H' → H p = none → H' p = some (.lst (xs.map V.int)) → xs.length = ms.length → Q (.ref p) H'
theorem map_int {ms : List Int} {i : Nat} {x : V} (h : (ms.map V.int)[i]? = some x) : ∃ m, ms[i]? = some m ∧ x = .int m := by
  rw [List.getElem?_map] at h
  cases e : ms[i]? with
  | none =>
    rw [e] at h
    cases h
  | some m =>
    rw [e] at h
    cases h
    exact ⟨m, rfl, rfl⟩
def Bx (H : Hp) (b d : Addr) : Prop := ∃ (ns : List Int) (i : Nat), H b = some (.lst [.ref d, .int (i : Int)]) ∧ H d = some (.lst (ns.map V.int)) ∧ d ≠ b
def Mv (b d : Addr) (H H' : Hp) : Prop := (∀ a o, a ≠ b → H a = some o → H' a = some o) ∧ Bx H' b d
section
variable {H H1 H2 H' : Hp} {b d p : Addr} {o : HO}
theorem Bx.same (h : Bx H b d) (e : Same H H') : Bx H' b d := by
  obtain ⟨ns, i, h1, h2, h3⟩ := h
  exact ⟨ns, i, e _ _ h1, e _ _ h2, h3⟩
theorem Mv.refl (h : Bx H b d) : Mv b d H H := ⟨fun _ _ _ h => h, h⟩
theorem Mv.trans (m : Mv b d H H1) (n : Mv b d H1 H2) : Mv b d H H2 := ⟨fun a o ne h => n.1 a o ne (m.1 a o ne h), n.2⟩
theorem Mv.same (h : Bx H b d) (e : Same H H') : Mv b d H H' := ⟨fun a o _ h => e a o h, h.same e⟩
theorem Mv.ext (m : Mv b d H H1) (e : Same H1 H2) : Mv b d H H2 := m.trans (.same m.2 e)
theorem Mv.new (m : Mv b d H H1) (h : H1 p = none) : Mv b d H (upd H1 p o) := m.ext (same_new h)
theorem Bx.neb (h : Bx H b d) (hp : H p = none) : p ≠ b ∧ p ≠ d := by
  obtain ⟨ns, i, h1, h2, h3⟩ := h
  exact ⟨fun e => (by rw [e, h1] at hp; cases hp), fun e => (by rw [e, h2] at hp; cases hp)⟩
/-- an object that H does not know changes -/
theorem Mv.mut (m : Mv b d H H1) (hb : Bx H b d) (hp : H p = none) : Mv b d H (upd H1 p o) := by
  obtain ⟨n1, n2⟩ := hb.neb hp
  obtain ⟨ns, i, h1, h2, h3⟩ := m.2
  exact ⟨fun a u ne h => by rw [upd_ne (ne_of_none h hp)]; exact m.1 a u ne h, ns, i, by rw [upd_ne n1.symm]; exact h1, by rw [upd_ne n2.symm]; exact h2, h3⟩
theorem Mv.kt (m : Mv b d H H1) (hb : Bx H b d) : Kt K H H1 := fun a ys q => by
  obtain ⟨ns, i, h1, h2, h3⟩ := hb
  rcases q with (q | ⟨ob, q⟩) | q
  · exact .inl (.inl (m.1 _ _ (ne_of q h1 (fun z => nomatch z)) q))
  · exact .inl (.inr ⟨ob, m.1 _ _ (ne_of q h1 (fun z => nomatch z)) q⟩)
  · exact .inr q
/-- a list that is not the box -/
theorem Mv.sql {a : Addr} {xs : List V} (m : Mv b d H H1) (ne : a ≠ b) (h : SqL K H a xs) : SqL K H1 a xs := by
  rcases h with (h | ⟨ob, h⟩) | h
  · exact .inl (.inl (m.1 _ _ ne h))
  · exact .inl (.inr ⟨ob, m.1 _ _ ne h⟩)
  · exact .inr h
end
def spBox (K : PySem.W.Frag) : Sp := fun vs H Q _ => ∃ (a : Addr) (ns : List Int) (k : Nat), vs = [.ref a, .int (k : Int)] ∧ SqL K H a (ns.map V.int) ∧
  ∀ b d H', Same H H' → H b = none → Bx H' b d → Q (.ref b) H'
theorem rep97 : (List.replicate (Int.toNat 20) [V.int 97]).flatten = (List.replicate 20 (97 : Int)).map V.int := by decide
theorem m97 : ∀ m ∈ List.replicate 20 (97 : Int), 0 < m ∧ m < 1073741824 := fun m h => by
  obtain ⟨_, rfl⟩ := List.mem_replicate.mp h
  decide
def spTake : Sp := fun vs H Q _ => ∃ (b d : Addr) (m : Int), vs = [.ref b, .int m] ∧ Bx H b d ∧ 0 < m ∧ ∀ r H', 0 ≤ r → r < m → Mv b d H H' → Q (.int r) H'
end
def Vds (K : PySem.W.Frag) (H : Hp) (vs : List V) (ds : List PyData) : Prop := vs.length = ds.length ∧ ∀ (i : Nat) v d, vs[i]? = some v → ds[i]? = some d → Vd K H v d
section
variable {K : PySem.W.Frag} {H H' : Hp}
theorem Vds.nil : Vds K H [] [] := ⟨rfl, fun i v d h _ => by simp at h⟩
theorem Vds.keep {vs : List V} {ds : List PyData} (k : Kt K H H') (h : Vds K H vs ds) : Vds K H' vs ds := ⟨h.1, fun i v d h1 h2 => (h.2 i v d h1 h2).keep k⟩
theorem Vds.snoc {vs : List V} {ds : List PyData} {v : V} {d : PyData} (h : Vds K H vs ds) (hv : Vd K H v d) : Vds K H (vs ++ [v]) (ds ++ [d]) := by
  refine ⟨by rw [List.length_append, List.length_append, h.1]; rfl, fun i x e h1 h2 => ?_⟩
  have hl := h.1
  by_cases hi : i < vs.length
  · rw [List.getElem?_append_left hi] at h1
    rw [List.getElem?_append_left (by omega)] at h2
    exact h.2 i x e h1 h2
  · rw [List.getElem?_append_right (by omega)] at h1
    rw [List.getElem?_append_right (by omega), ← hl] at h2
    obtain ⟨z, hz⟩ : ∃ z, i - vs.length = z := ⟨_, rfl⟩
    rw [hz] at h1 h2
    match z with
    | 0 =>
      cases h1
      cases h2
      exact hv
    | z + 1 => simp at h1
theorem Vds.cons {vs : List V} {ds : List PyData} {v : V} {d : PyData} (hv : Vd K H v d) (h : Vds K H vs ds) : Vds K H (v :: vs) (d :: ds) := by
  refine ⟨by rw [List.length_cons, List.length_cons, h.1], fun i x e h1 h2 => ?_⟩
  match i with
  | 0 =>
    cases h1
    cases h2
    exact hv
  | i + 1 => exact h.2 i x e (by simpa using h1) (by simpa using h2)
theorem Vds.app {vs ws : List V} {ds es : List PyData} (h : Vds K H vs ds) (g : Vds K H ws es) : Vds K H (vs ++ ws) (ds ++ es) := by
  refine ⟨by rw [List.length_append, List.length_append, h.1, g.1], fun i x e h1 h2 => ?_⟩
  have hl := h.1
  by_cases hi : i < vs.length
  · rw [List.getElem?_append_left hi] at h1
    rw [List.getElem?_append_left (by omega)] at h2
    exact h.2 i x e h1 h2
  · rw [List.getElem?_append_right (by omega)] at h1
    rw [List.getElem?_append_right (by omega), ← hl] at h2
    exact g.2 _ x e h1 h2
theorem Vds.tup {vs : List V} {ds : List PyData} {a : Addr} (h : Vds K H vs ds) (ha : SqT K H a vs) : Vd K H (.ref a) (.tuple ds) := .tup ha h.1 h.2
end
section
variable {P : Program} {w : World} {K : PySem.W.Frag} {mg : Str → Option Value} {base : Heap}
def spLKind (K : PySem.W.Frag) (N : Nat) : Sp := fun vs H Q _ => ∃ (b d : Addr) (n : Nat), vs = [.ref b, .int (n : Int)] ∧ Bx H b d ∧ n < N ∧ ∀ v kd H', Mv b d H H' → Vd K H' v (Kd.data kd) → OkK (n + 1) kd → Q v H'
def spLVal (K : PySem.W.Frag) (N : Nat) : Sp := fun vs H Q _ => ∃ (b d : Addr) (u : V) (kd : Kd), vs = [.ref b, u] ∧ Bx H b d ∧ Vd K H u kd.data ∧ OkK N kd ∧ N ≤ 10 ∧ ∀ v e H', Mv b d H H' → Vd K H' v e → Dk N e → isk kd e = true → Q v H'
theorem iskAll_of : ∀ {ks : List Kd} {ds : List PyData}, ks.length = ds.length → (∀ (i : Nat) k d, ks[i]? = some k → ds[i]? = some d → isk k d = true) → iskAll ks ds = true
  | [], [], _, _ => by rw [iskAll]
  | [], _ :: _, h, _ => by simp at h
  | _ :: _, [], h, _ => by simp at h
  | k :: ks, d :: ds, h, q => by
    rw [iskAll, q 0 k d rfl rfl, iskAll_of (by simpa using h) fun i j e h1 h2 => q (i + 1) j e (by simpa using h1) (by simpa using h2)]
    rfl
theorem spLVal_0 (vs : List V) (H : Hp) (Q : VK) (E : XK) : ¬ spLVal K 0 vs H Q E := fun h => by
  obtain ⟨_, _, _, _, _, _, _, h, _⟩ := h
  cases h
end
end Cr
namespace Cr
open PySem PySem.Spec PyProof.Rows L2 Evl
/-! ### conditions -/
inductive Cd where
  | atmost (n : Int) | divides (n : Int) | is (s : Str) | item (i : Int) (c : Cd) | every (c : Cd) | some_ (c : Cd) | size (c : Cd) | sum (c : Cd) | rising | different | not_ (c : Cd) | and_ (c d : Cd) | or_ (c d : Cd)
def Cd.data : Cd → PyData
  | .atmost n => .tuple [.str "atmost", .int n]
  | .divides n => .tuple [.str "divides", .int n]
  | .is s => .tuple [.str "is", .str s]
  | .item i c => .tuple [.str "item", .int i, c.data]
  | .every c => .tuple [.str "every", c.data]
  | .some_ c => .tuple [.str "some", c.data]
  | .size c => .tuple [.str "size", c.data]
  | .sum c => .tuple [.str "sum", c.data]
  | .rising => .tuple [.str "rising"]
  | .different => .tuple [.str "different"]
  | .not_ c => .tuple [.str "not", c.data]
  | .and_ c d => .tuple [.str "and", c.data, d.data]
  | .or_ c d => .tuple [.str "or", c.data, d.data]
inductive OkC : Nat → Cd → Prop
  | atmost {n : Nat} (i : Int) : OkC (n + 1) (.atmost i)
  | divides {n : Nat} (i : Int) : OkC (n + 1) (.divides i)
  | is {n : Nat} {s : Str} : SeqAt.shaped (.str s) = true → s.length ≤ 1000 → OkC (n + 1) (.is s)
  | item {n : Nat} (i : Int) {c : Cd} : OkC n c → OkC (n + 1) (.item i c)
  | every {n : Nat} {c : Cd} : OkC n c → OkC (n + 1) (.every c)
  | some_ {n : Nat} {c : Cd} : OkC n c → OkC (n + 1) (.some_ c)
  | size {n : Nat} {c : Cd} : OkC n c → OkC (n + 1) (.size c)
  | sum {n : Nat} {c : Cd} : OkC n c → OkC (n + 1) (.sum c)
  | rising {n : Nat} : OkC (n + 1) .rising
  | different {n : Nat} : OkC (n + 1) .different
  | not_ {n : Nat} {c : Cd} : OkC n c → OkC (n + 1) (.not_ c)
  | and_ {n : Nat} {c d : Cd} : OkC n c → OkC n d → OkC (n + 1) (.and_ c d)
  | or_ {n : Nat} {c d : Cd} : OkC n c → OkC n d → OkC (n + 1) (.or_ c d)
theorem OkC.mono {n m : Nat} {c : Cd} (h : OkC n c) (hm : n ≤ m) : OkC m c := by
  induction h generalizing m with
  | _ => obtain ⟨m', rfl⟩ : ∃ m', m = m' + 1 := ⟨m - 1, by omega⟩; first | exact .atmost _ | exact .divides _ | exact .rising | exact .different | (constructor <;> first | assumption | (rename_i ih; exact ih (by omega)) | (rename_i ih _; exact ih (by omega)))
/-! ### which condition fits which kind -/
def Kd.isInt : Kd → Bool
  | .int => true
  | _ => false
def Kd.isWord : Kd → Bool
  | .word => true
  | _ => false
def Kd.parts : Kd → List Kd
  | .tup ks => ks
  | _ => []
def fitsC : Cd → Kd → Bool
  | .atmost _, k => k.isInt
  | .divides n, k => k.isInt && (decide (1 ≤ n) && decide (n ≤ 100))
  | .is s, k => k.isWord && Cr.isWord s
  | .item i c, k => (decide (0 ≤ i) && decide (i < (k.parts.length : Int))) && fitsC c (k.parts.getD i.toNat .int)
  | .every c, k => match k with | .lst j => fitsC c j | _ => false
  | .some_ c, k => match k with | .lst j => fitsC c j | _ => false
  | .size c, k => match k with | .lst _ => fitsC c .int | _ => false
  | .sum c, k => match k with | .lst j => j.isInt && fitsC c .int | _ => false
  | .rising, k => match k with | .lst j => j.isInt | _ => false
  | .different, k => match k with | .lst _ => true | _ => false
  | .not_ c, k => fitsC c k
  | .and_ c d, k => fitsC c k && fitsC d k
  | .or_ c d, k => fitsC c k && fitsC d k
def Cd.onList : Cd → Bool
  | .every _ | .some_ _ | .size _ | .sum _ | .rising | .different => true
  | _ => false
theorem eqv_int (k : Kd) : PyData.eqv k.data (.str "int") = k.isInt := by
  cases k with
  | int => rw [Kd.data]; decide +kernel
  | word => rw [Kd.data]; decide +kernel
  | lst j => rw [Kd.data]; rfl
  | tup ks => rw [Kd.data]; rfl
theorem eqv_word (k : Kd) : PyData.eqv k.data (.str "word") = k.isWord := by
  cases k with
  | int => rw [Kd.data]; decide +kernel
  | word => rw [Kd.data]; decide +kernel
  | lst j => rw [Kd.data]; rfl
  | tup ks => rw [Kd.data]; rfl
section
variable {K : PySem.W.Frag} {σ : L2.St} {H0 H H' : Hp} {ta tb tc te tx tl : TE} {t u : TT} {x y z v w : V} {r r' : R2} {tu tz tw : TS} {D : Ends}
/-- kind == 'int', kind == 'word' -/
theorem ev_isInt {k : Kd} {n : Nat} (h : Ev ta σ H v) (hv : Vd K H v k.data) (hk : OkK n k) (hn : n ≤ 20) : Ev (tOp (rEqD K) ta (tC (.str "int"))) σ H (.bl k.isInt) := ev_is (ev_op h ev_c (rv_eqD hv (.str "int") (OkK.shaped hk hn) shaped_int)) (by rw [eqv_int])
theorem ev_isWord {k : Kd} {n : Nat} (h : Ev ta σ H v) (hv : Vd K H v k.data) (hk : OkK n k) (hn : n ≤ 20) : Ev (tOp (rEqD K) ta (tC (.str "word"))) σ H (.bl k.isWord) := ev_is (ev_op h ev_c (rv_eqD hv (.str "word") (OkK.shaped hk hn) shaped_word)) (by rw [eqv_word])
/-- if name == 'x': not so; so -/
theorem skipS {i : Nat} {x y : Str} (e0 : Same H0 H) (h : σ[i]? = some (some (.str x))) (ne : decide (V.str x = V.str y) = false) (k : ∀ H1, Same H0 H1 → tz D σ H1) : tSeq (tIfS (tTest (tOp rEq (tVar i) (tC (.str y)))) tu tNext) tz D σ H :=
  q_when (b := false) (et_is (et_test (ev_op (ev_var h) ev_c (rv_eq rfl))) ne) (fun h => Bool.noConfusion h) fun _ H1 e1 => k H1 (e0.trans e1)
theorem takeS {i : Nat} {x y : Str} (e0 : Same H0 H) (h : σ[i]? = some (some (.str x))) (eq : decide (V.str x = V.str y) = true) (k : ∀ H1, Same H0 H1 → tu { D with nx := tz D } σ H1) : tSeq (tIfS (tTest (tOp rEq (tVar i) (tC (.str y)))) tu tNext) tz D σ H :=
  q_when (b := true) (et_is (et_test (ev_op (ev_var h) ev_c (rv_eq rfl))) eq) (fun _ H1 e1 => k H1 (e0.trans e1)) (fun h => Bool.noConfusion h)
/-- if name in ('x', ..): not so; so -/
theorem skipT {i : Nat} {x : Str} {ys : List V} {ta : TA} (e0 : Same H0 H) (h : σ[i]? = some (some (.str x))) (hy : EvA ta σ H ys) (hl : ys.length ≤ 100000) (fl : ys.all flatV = true) (ne : inV (.str x) ys = false) (k : ∀ H1, Same H0 H1 → tz D σ H1) : tSeq (tIfS (tTest (tOp (rIn K false) (tVar i) (tTup ta))) tu tNext) tz D σ H :=
  q_when (b := false) (et_is (et_test (ev_inU (ev_var h) (eu_tup hy hl) rfl fl)) ne) (fun h => Bool.noConfusion h) fun _ H1 e1 => k H1 (e0.trans e1)
theorem takeT {i : Nat} {x : Str} {ys : List V} {ta : TA} (e0 : Same H0 H) (h : σ[i]? = some (some (.str x))) (hy : EvA ta σ H ys) (hl : ys.length ≤ 100000) (fl : ys.all flatV = true) (eq : inV (.str x) ys = true) (k : ∀ H1, Same H0 H1 → tu { D with nx := tz D } σ H1) : tSeq (tIfS (tTest (tOp (rIn K false) (tVar i) (tTup ta))) tu tNext) tz D σ H :=
  q_when (b := true) (et_is (et_test (ev_inU (ev_var h) (eu_tup hy hl) rfl fl)) eq) (fun _ H1 e1 => k H1 (e0.trans e1)) (fun h => Bool.noConfusion h)
theorem skipL {i : Nat} {x : Str} {ys : List V} {ta : TA} (e0 : Same H0 H) (h : σ[i]? = some (some (.str x))) (hy : EvA ta σ H ys) (hl : ys.length ≤ 100000) (fl : ys.all flatV = true) (ne : inV (.str x) ys = false) (k : ∀ H1, Same H0 H1 → tz D σ H1) : tSeq (tIfS (tTest (tOp (rIn K false) (tVar i) (tLst ta))) tu tNext) tz D σ H :=
  q_when (b := false) (et_is (et_test (ev_opL (ev_var h) (el_lst hy hl) fun p H1 hp e => rv_isL (sq_of hp) rfl fl)) ne) (fun h => Bool.noConfusion h) fun _ H1 e1 => k H1 (e0.trans e1)
theorem takeL {i : Nat} {x : Str} {ys : List V} {ta : TA} (e0 : Same H0 H) (h : σ[i]? = some (some (.str x))) (hy : EvA ta σ H ys) (hl : ys.length ≤ 100000) (fl : ys.all flatV = true) (eq : inV (.str x) ys = true) (k : ∀ H1, Same H0 H1 → tu { D with nx := tz D } σ H1) : tSeq (tIfS (tTest (tOp (rIn K false) (tVar i) (tLst ta))) tu tNext) tz D σ H :=
  q_when (b := true) (et_is (et_test (ev_opL (ev_var h) (el_lst hy hl) fun p H1 hp e => rv_isL (sq_of hp) rfl fl)) eq) (fun _ H1 e1 => k H1 (e0.trans e1)) (fun h => Bool.noConfusion h)
/-- t[1:], a new tuple; a comprehension over a new tuple -/
theorem eu_sl1 {a : Addr} {x : V} {xs : List V} (h : Ev te σ H (.ref a)) (hs : SqT K H a (x :: xs)) : EvU (tSl (rSlT K) te (tPart (tC (.int 1))) tNoPart) σ H xs := fun H1 e Q q => h H1 e _ fun H2 e2 => by
  refine ⟨1, rfl, a, x :: xs, rfl, ex_t (e.trans e2) hs, fun hw => ?_, fun p hp => ?_⟩
  · have h1 := hw.1
    rw [show HT.sIx (x :: xs).length 0 (some 1) = min 1 (x :: xs).length from HT.sIx_nat _ 0 1, List.length_cons] at h1
    omega
  · have hc : cutV (x :: xs) (some 1) none = xs := by
      unfold cutV
      rw [show HT.sIx (x :: xs).length 0 (some 1) = min 1 (x :: xs).length from HT.sIx_nat _ 0 1, HT.sIx_none, List.length_cons, show min 1 (xs.length + 1) = 1 by omega]
      show (List.take (xs.length + 1 - 1) xs) = xs
      rw [Nat.add_sub_cancel]
      exact List.take_length
    rw [hc]
    exact q p _ (fresh_back e2 hp) (e2.trans (Ex.new hp)) upd_same
theorem el_lcNT {xs : List V} {j : Nat} {vs : List Nat} (f : Nat → Bool) (v : Nat → V) (h : EvU tl σ H xs) (hz : xs.length ≤ 40000) (hw : ∀ x, wipe ((wipe σ vs).set j (some x)) vs = wipe σ vs)
    (ht : ∀ (i : Nat) (x : V) H1, Ex H H1 → xs[i]? = some x → EvT t ((wipe σ vs).set j (some x)) H1 (f i)) (he : ∀ (i : Nat) (x : V) H1, Ex H H1 → xs[i]? = some x → f i = true → Ev te ((wipe σ vs).set j (some x)) H1 (v i)) :
    EvL (tLc (iTup K tl) (gName j) t te vs) σ H (given xs.length f v) := fun H0 e Q q => h H0 e _ fun a H1 ha e1 hx => ⟨a, rfl, ⟨xs, st_of hx⟩, fun Dl hD =>
  lc_tup (xs := xs) (Cw H1 f v Dl) ⟨hD, Ex.new hD, upd_same⟩ (fun i H' _ p => st_of (p.2.1 a _ hx)) (fun i x H' hi p => ⟨hw x, cw_turn p (by have := (List.getElem?_eq_some_iff.mp hi).1; omega) (ht i x H1 (e.trans e1) hi) (fun hf => he i x H1 (e.trans e1) hi hf)⟩)
    (fun H' p => q Dl H' (fresh_back e1 p.1) (e1.trans p.2.1) p.2.2)⟩
end
def spFits (K : PySem.W.Frag) (n : Nat) : Sp := fun vs H Q _ => ∃ (v u : V) (c : Cd) (k : Kd), vs = [v, u] ∧ Vd K H v c.data ∧ OkC n c ∧ Vd K H u k.data ∧ OkK 10 k ∧ ∀ H', Same H H' → Q (.bl (fitsC c k)) H'
def spFitsItem (K : PySem.W.Frag) (n : Nat) : Sp := fun vs H Q _ => ∃ (i : Int) (v u : V) (c : Cd) (ks : List Kd), vs = [.int i, v, u] ∧ Vd K H v c.data ∧ OkC n c ∧ Vd K H u (.tuple (dataAll ks)) ∧ (∀ k ∈ ks, OkK 10 k) ∧
  ∀ H', Same H H' → Q (.bl ((decide (0 ≤ i) && decide (i < (ks.length : Int))) && fitsC c (ks.getD i.toNat .int))) H'
def spFitsList (K : PySem.W.Frag) (n : Nat) : Sp := fun vs H Q _ => ∃ (v u : V) (c : Cd) (j : Kd), vs = [v, u] ∧ Vd K H v c.data ∧ OkC (n + 1) c ∧ c.onList = true ∧ Vd K H u j.data ∧ OkK 10 j ∧ ∀ H', Same H H' → Q (.bl (fitsC c (.lst j))) H'
section
variable {K : PySem.W.Frag} {H : Hp}
theorem spFits_0 (vs : List V) (H : Hp) (Q : VK) (E : XK) : ¬ spFits K 0 vs H Q E := fun h => by
  obtain ⟨_, _, _, _, _, _, h, _⟩ := h
  cases h
theorem fits_call {n : Nat} {v u : V} {c : Cd} {k : Kd} (hv : Vd K H v c.data) (hc : OkC n c) (hu : Vd K H u k.data) (hk : OkK 10 k) : SpV (spFits K n) [v, u] H (.bl (fitsC c k)) := fun H1 e Q q E =>
  ⟨v, u, c, k, rfl, hv.keep (Kt.same e), hc, hu.keep (Kt.same e), hk, fun H' e' => q H' e'⟩
/-- the condition's tuple: its name and the rest -/
theorem Cd.name {v : V} {c : Cd} (h : Vd K H v c.data) : ∃ a x xs, v = .ref a ∧ SqT K H a (x :: xs) := by
  cases c <;> (rw [Cd.data] at h; first | (obtain ⟨a, x, rfl, hs, _⟩ := h.g1; exact ⟨a, x, _, rfl, hs⟩) | (obtain ⟨a, x, y, rfl, hs, _⟩ := h.g2; exact ⟨a, x, _, rfl, hs⟩) | (obtain ⟨a, x, y, z, rfl, hs, _⟩ := h.g3; exact ⟨a, x, _, rfl, hs⟩))
theorem int_data : Vd K H (.str "int") Kd.int.data := by rw [Kd.data]; exact .str _
end
/-! ### kinds without empty tuples; what the law's draws of kinds and conditions promise -/
inductive NeK : Kd → Prop
  | int : NeK .int
  | word : NeK .word
  | lst {k : Kd} : NeK k → NeK (.lst k)
  | tup {ks : List Kd} : 0 < ks.length → (∀ k ∈ ks, NeK k) → NeK (.tup ks)
def spLKind2 (K : PySem.W.Frag) (N : Nat) : Sp := fun vs H Q _ => ∃ (b d : Addr) (n : Nat), vs = [.ref b, .int (n : Int)] ∧ Bx H b d ∧ n < N ∧ ∀ v kd H', Mv b d H H' → Vd K H' v (Kd.data kd) → OkK (n + 1) kd → NeK kd → Q v H'
def spLLimit (K : PySem.W.Frag) (N : Nat) : Sp := fun vs H Q _ => ∃ (b d : Addr) (u : V) (kd : Kd) (n m : Nat), vs = [.ref b, u, .int (n : Int)] ∧ Bx H b d ∧ Vd K H u kd.data ∧ OkK m kd ∧ NeK kd ∧ n + m ≤ N ∧ N ≤ 15 ∧ ∀ v c H', Mv b d H H' → Vd K H' v (Cd.data c) → OkC N c → Q v H'
theorem OkK.pos {n : Nat} {k : Kd} (h : OkK n k) : 0 < n := by cases h <;> omega
theorem spLLimit_0 {K : PySem.W.Frag} (vs : List V) (H : Hp) (Q : VK) (E : XK) : ¬ spLLimit K 0 vs H Q E := fun h => by
  obtain ⟨_, _, _, _, n, m, _, _, _, hk, _, hn, _⟩ := h
  have := hk.pos
  omega
theorem item_none {m : Int} {c : Cd} {k : Kd} (h : k.parts = []) : fitsC (.item m c) k = false := by
  show ((decide (0 ≤ m) && decide (m < (k.parts.length : Int))) && fitsC c (k.parts.getD m.toNat .int)) = false
  rw [h]
  by_cases h0 : 0 ≤ m
  · rw [decide_eq_false (show ¬ m < (([] : List Kd).length : Int) from fun h => by simp at h; omega), Bool.and_false]
    rfl
  · rw [decide_eq_false h0]
    rfl
/-! ### what evaluates to data -/
def EvD (K : PySem.W.Frag) (te : TE) (σ : L2.St) (H : Hp) (d : PyData) : Prop := ∀ H1, Ex H H1 → ∀ Q : VK, (∀ v H2, Ex H1 H2 → Vd K H2 v d → Q v H2) → te σ H1 Q
def EvDs (K : PySem.W.Frag) (ta : TA) (σ : L2.St) (H : Hp) (ds : List PyData) : Prop := ∀ H1, Ex H H1 → ∀ Q : List V → Hp → Prop, (∀ vs H2, Ex H1 H2 → Vds K H2 vs ds → Q vs H2) → ta σ H1 Q
section
variable {K : PySem.W.Frag} {σ : L2.St} {H H' : Hp} {te : TE} {ta : TA} {tz : TS} {D : Ends}
theorem evd_int {i : Int} : EvD K (tC (.int i)) σ H (.int i) := fun H1 _ _ q => q _ H1 (Ex.refl H1) (.int i)
theorem evd_str {x : Str} : EvD K (tC (.str x)) σ H (.str x) := fun H1 _ _ q => q _ H1 (Ex.refl H1) (.str x)
theorem evd_neg {i : Int} : EvD K (tUn (rU fun i => .int (-i)) (tC (.int i))) σ H (.int (-i)) := fun H1 _ _ q => ⟨i, rfl, q _ H1 (Ex.refl H1) (.int _)⟩
theorem evd_var {i : Nat} {v : V} {d : PyData} (h : σ[i]? = some (some v)) (hv : Vd K H v d) : EvD K (tVar i) σ H d := fun H1 e _ q => ⟨v, h, q v H1 (Ex.refl H1) (hv.keep (Kt.same e))⟩
theorem evds_nil : EvDs K tNil σ H [] := fun H1 _ _ q => q [] H1 (Ex.refl H1) .nil
theorem evds_cons {d : PyData} {ds : List PyData} (h : EvD K te σ H d) (hr : EvDs K ta σ H ds) : EvDs K (tCons te ta) σ H (d :: ds) := fun H1 e Q q =>
  h H1 e _ fun v H2 e2 hv => hr H2 (e.trans e2) _ fun vs H3 e3 hvs => q (v :: vs) H3 (e2.trans e3) (.cons (hv.keep (Kt.same e3)) hvs)
theorem evd_tup {ds : List PyData} (h : EvDs K ta σ H ds) (hl : ds.length ≤ 1000) : EvD K (tTup ta) σ H (.tuple ds) := fun H1 e Q q =>
  h H1 e _ fun vs H2 e2 hvs => ⟨Nat.le_of_lt (small1000 (by rw [hvs.1]; exact hl)), fun p hp => q (.ref p) _ (e2.trans (Ex.new hp)) ((hvs.keep (Kt.new hp)).tup (.of upd_same))⟩
theorem q_asgDs {i : Nat} {ds : List PyData} (h : EvDs K ta σ H ds) (hl : ds.length ≤ 1000) (k : ∀ p vs H1, H p = none → Ex H H1 → H1 p = some (.lst vs) → Vds K H1 vs ds → tz D (σ.set i (some (.ref p))) H1) : tSeq (tAsg (tLst ta) (gName i)) tz D σ H :=
  h H (Ex.refl H) _ fun vs H2 e2 hvs => ⟨Nat.le_of_lt (small1000 (by rw [hvs.1]; exact hl)), fun p hp => k p vs _ (fresh_back e2 hp) (e2.trans (Ex.new hp)) upd_same (hvs.keep (Kt.new hp))⟩
theorem evds_is {ds es : List PyData} (h : EvDs K ta σ H ds) (e : ds = es) : EvDs K ta σ H es := by
  rw [← e]
  exact h
end
/-- the script stays, whatever a new box lives through -/
theorem script_stays {K : PySem.W.Frag} {H H1 H2 : Hp} {a b d : Addr} {xs : List V} (h : SqL K H a xs) (hb : H b = none) (e : Same H H1) (m : Mv b d H1 H2) : SqL K H2 a xs := by
  rcases h with (h | ⟨o, h⟩) | h
  · exact .inl (.inl (m.1 _ _ (ne_of_none h hb) (e _ _ h)))
  · exact .inl (.inr ⟨o, m.1 _ _ (ne_of_none h hb) (e _ _ h)⟩)
  · exact .inr h
def spLaw (K : PySem.W.Frag) : Sp := fun vs H Q _ => ∃ (a : Addr) (ns : List Int), vs = [.ref a] ∧ SqL K H a (ns.map V.int) ∧ ns.length ≤ 63 ∧ ∀ H', Q (.bl true) H'
end Cr
namespace K2
open PySem PySem.Spec PyProof.Rows L2 Evl Cr
def topS (i : Nat) : Stmt := PySem.Challenge.pw_choicerows_k02_conditions_that_fit.main.body.getD i (.Pass ⟨0, 0, 0, 0⟩)
structure Tx (mg : Str → Option Value) : Prop where
  z_len : mg "len" = none
  z_all : mg "all" = none
  z_isinstance : mg "isinstance" = none
  z_tuple : mg "tuple" = none
  z_str : mg "str" = none
  z_bool : mg "bool" = none
  z_range : mg "range" = none
  z_min : mg "min" = none
  z_max : mg "max" = none
  m_LETTERS : ∃ t, mg "LETTERS" = some (.int 8 t)
  m_DIVISOR : ∃ t, mg "DIVISOR" = some (.int 100 t)

section
variable {P : Program} {w : World} {K : PySem.W.Frag} {mg : Str → Option Value} {base : Heap}
abbrev s_is_word : Stmt := topS 3
abbrev N_is_word : List Str := ["text", "letter"]
theorem sc_is_word : FnScope N_is_word ["text"] (defScope s_is_word) := ⟨rfl, rfl, rfl, by decide +kernel, rfl, by decide +kernel, by decide +kernel⟩
theorem ok_is_word {f : Addr} {fd : FuncData} {k : Nat} (T : Tx mg) (F : Fun K "is_word" "is_word" s_is_word f fd) : FnOk P w K mg base CX0 (k + 1) f fd ["text"] spWord := by
  obtain ⟨tL, m_LETTERS⟩ := T.m_LETTERS
  refine F.ok sc_is_word (fun vs H Q E h => ?_) (fun cdv A outer s H vs Q E hr h => ?_)
  · obtain ⟨z, rfl, _⟩ := h
    rfl
  obtain ⟨z, rfl, hz, q⟩ := h
  refine ⟨_, (pss_one (ps_ret (pe_and (pe_chain op_le op_le pe_int (pe_callB call_len_str (by rfl) T.z_len PySem.boot_len (pa_cons (pv 0) pa_nil)) (pe_glob (v := .int 8) (by rfl) m_LETTERS ⟨_, rfl⟩)) (pe_one (pe_callB (cr_all rfl) (by rfl) T.z_all (by decide +kernel) (pa_cons (pe_lc (own := [("letter", 1)]) (g := gName 1) (by rfl) sc_is_word.nd (pi_str (pv 0)) (blkOk_by (own := [("letter", 1)]) (N := N_is_word) (sc := defScope s_is_word) (by decide +kernel)) (fun _ _ _ _ _ => (pg_name (i := 1) sc_is_word.nd rfl (Or.inl rfl))) (fun _ _ _ _ _ => pts_nil) (fun _ _ _ _ _ => (pe_chain op_le_str op_le_str pe_str (pv 1) pe_str))) pa_nil)))))), ?_⟩
  refine s_ret (v := .bl (isWord z)) (ev_is (ev_andV (ev_chain ev_c (ev_lenS hz (ev_var rfl)) ev_c rv_I0 rv_I0) fun _ => ev_all (el_is (el_lcS (fun _ => true) (fun i => .bl ((fun c => decide (97 ≤ c) && decide (c ≤ 122)) (z.cps.toList.getD i 0))) (ev_var rfl) (Nat.le_trans hz (by decide)) (fun _ => rfl) (fun _ _ _ _ _ => et_yes)
    (fun i c H1 _ hc _ => ev_is (ev_chain ev_c (ev_var rfl) ev_c rv_leS rv_leS) ?_)) (given_all _ _))) ?_) fun H1 e => q H1 e
  · rw [sign_ok]
    have hc' : z.cps.toList.getD i 0 = c := by
      rw [List.getD_eq_getElem?_getD, Array.getElem?_toList, hc]
      rfl
    rw [hc']
  · exact congrArg (fun t => V.bl ((decide ((1 : Int) ≤ (z.length : Int)) && decide ((z.length : Int) ≤ 8)) && t)) (all_signs z fun c => decide (97 ≤ c) && decide (c ≤ 122))
abbrev s_kinds_in_tuple : Stmt := topS 4
abbrev N_kinds_in_tuple : List Str := ["kind"]
theorem sc_kinds_in_tuple : FnScope N_kinds_in_tuple ["kind"] (defScope s_kinds_in_tuple) := ⟨rfl, rfl, rfl, by decide +kernel, rfl, by decide +kernel, by decide +kernel⟩
theorem ok_kinds_in_tuple {f : Addr} {fd : FuncData} {k : Nat} (T : Tx mg) (F : Fun K "kinds_in_tuple" "kinds_in_tuple" s_kinds_in_tuple f fd) : FnOk P w K mg base CX0 (k + 1) f fd ["kind"] (spKit K) := by
  refine F.ok sc_kinds_in_tuple (fun vs H Q E h => ?_) (fun cdv A outer s H vs Q E hr h => ?_)
  · obtain ⟨v, kd, n, rfl, _⟩ := h
    rfl
  obtain ⟨v, kd, n, rfl, hv, hk, hn, q⟩ := h
  refine ⟨_, (pss_cons (ps_if (PW.pt (pw_and (pt_val (pe_callB call_isi (by rfl) T.z_isinstance (by decide +kernel) (pa_cons (pv 0) (pa_cons (pe_bltn (v := .ty "tuple") (u := .type "tuple") (by rfl) T.z_tuple (by decide +kernel) rfl) pa_nil)))) (pw_and1 (pt_cmpR op_eq (pe_ix (r := rIxT K) ix_tup (pv 0) pe_int (fun _ _ => rfl)) pe_str (nomark _))))) (pss_one (ps_ret (pe_ix (r := rIxT K) ix_tup (pv 0) pe_int (fun _ _ => rfl)))) pss_nil)
      (pss_one (ps_ret (pe_tup pa_nil)))), ?_⟩
  have none_ : (∀ ks, kd ≠ .tup ks) → ∀ H1, Same H H1 → ∀ p, H1 p = none → Q (.ref p) (upd H1 p (.tup [])) := fun nk H1 e p hp => q _ _ (e.trans (same_new hp)) (fun ks e => absurd e (nk ks)) fun _ => ⟨p, rfl, .t0 (.of upd_same)⟩
  cases kd with
  | int =>
    rw [Kd.data] at hv
    refine q_when (b := false) (et_andF (et_B (ev_isi (ev_var rfl) ev_c hv k_st))) (fun h => Bool.noConfusion h) fun _ H1 e1 => ?_
    exact ⟨by decide, fun p hp => none_ (fun _ e => Kd.noConfusion e) H1 e1 p hp⟩
  | word =>
    rw [Kd.data] at hv
    refine q_when (b := false) (et_andF (et_B (ev_isi (ev_var rfl) ev_c hv k_st))) (fun h => Bool.noConfusion h) fun _ H1 e1 => ?_
    exact ⟨by decide, fun p hp => none_ (fun _ e => Kd.noConfusion e) H1 e1 p hp⟩
  | lst j =>
    rw [Kd.data] at hv
    obtain ⟨a, x, y, rfl, hs, hx, hy⟩ := hv.g2
    cases hx.str_inv
    refine q_when (b := false) (et_is (et_andT (et_B (ev_isi (ev_var rfl) ev_c hv k_tt)) (et_test (ev_op (ev_ixT (j := 0) (ev_var rfl) ev_c hs rfl) ev_c (rv_eq rfl)))) (by decide +kernel)) (fun h => Bool.noConfusion h) fun _ H1 e1 => ?_
    exact ⟨by decide, fun p hp => none_ (fun _ e => Kd.noConfusion e) H1 e1 p hp⟩
  | tup ks =>
    rw [Kd.data] at hv
    obtain ⟨a, x, y, rfl, hs, hx, hy⟩ := hv.g2
    cases hx.str_inv
    obtain ⟨b, rfl⟩ := hy.ref
    refine q_when (b := true) (et_is (et_andT (et_B (ev_isi (ev_var rfl) ev_c hv k_tt)) (et_test (ev_op (ev_ixT (j := 0) (ev_var rfl) ev_c hs rfl) ev_c (rv_eq rfl)))) (by decide +kernel)) (fun _ H1 e1 => ?_) (fun h => Bool.noConfusion h)
    refine s_ret (ev_ixT (j := 1) (ev_var rfl) ev_c (ex_t e1 hs) rfl) fun H2 e2 => q _ H2 (e1.trans e2) (fun ks' e => ?_) (fun nk => absurd rfl (nk ks))
    cases e
    exact ⟨b, rfl, hy.keep (Kt.same (e1.trans e2))⟩
abbrev s_kind_in_list : Stmt := topS 5
abbrev N_kind_in_list : List Str := ["kind"]
theorem sc_kind_in_list : FnScope N_kind_in_list ["kind"] (defScope s_kind_in_list) := ⟨rfl, rfl, rfl, by decide +kernel, rfl, by decide +kernel, by decide +kernel⟩
theorem ok_kind_in_list {f : Addr} {fd : FuncData} {k : Nat} (T : Tx mg) (F : Fun K "kind_in_list" "kind_in_list" s_kind_in_list f fd) : FnOk P w K mg base CX0 (k + 1) f fd ["kind"] (spKil K) := by
  refine F.ok sc_kind_in_list (fun vs H Q E h => ?_) (fun cdv A outer s H vs Q E hr h => ?_)
  · obtain ⟨v, kd, n, rfl, _⟩ := h
    rfl
  obtain ⟨v, kd, n, rfl, hv, hk, hn, q⟩ := h
  refine ⟨_, (pss_cons (ps_if (PW.pt (pw_and (pt_val (pe_callB call_isi (by rfl) T.z_isinstance (by decide +kernel) (pa_cons (pv 0) (pa_cons (pe_bltn (v := .ty "tuple") (u := .type "tuple") (by rfl) T.z_tuple (by decide +kernel) rfl) pa_nil)))) (pw_and1 (pt_cmpR op_eq (pe_ix (r := rIxT K) ix_tup (pv 0) pe_int (fun _ _ => rfl)) pe_str (nomark _))))) (pss_one (ps_ret (pe_ix (r := rIxT K) ix_tup (pv 0) pe_int (fun _ _ => rfl)))) pss_nil)
      (pss_one (ps_ret pe_non))), ?_⟩
  have none_ : (∀ j, kd ≠ .lst j) → ∀ H1, Same H H1 → Q .non H1 := fun nk H1 e => q _ _ e (fun ks e => absurd e (nk ks)) fun _ => rfl
  cases kd with
  | int =>
    rw [Kd.data] at hv
    refine q_when (b := false) (et_andF (et_B (ev_isi (ev_var rfl) ev_c hv k_st))) (fun h => Bool.noConfusion h) fun _ H1 e1 => ?_
    exact s_ret ev_c fun H2 e2 => none_ (fun _ e => Kd.noConfusion e) H2 (e1.trans e2)
  | word =>
    rw [Kd.data] at hv
    refine q_when (b := false) (et_andF (et_B (ev_isi (ev_var rfl) ev_c hv k_st))) (fun h => Bool.noConfusion h) fun _ H1 e1 => ?_
    exact s_ret ev_c fun H2 e2 => none_ (fun _ e => Kd.noConfusion e) H2 (e1.trans e2)
  | tup j =>
    rw [Kd.data] at hv
    obtain ⟨a, x, y, rfl, hs, hx, hy⟩ := hv.g2
    cases hx.str_inv
    refine q_when (b := false) (et_is (et_andT (et_B (ev_isi (ev_var rfl) ev_c hv k_tt)) (et_test (ev_op (ev_ixT (j := 0) (ev_var rfl) ev_c hs rfl) ev_c (rv_eq rfl)))) (by decide +kernel)) (fun h => Bool.noConfusion h) fun _ H1 e1 => ?_
    exact s_ret ev_c fun H2 e2 => none_ (fun _ e => Kd.noConfusion e) H2 (e1.trans e2)
  | lst j =>
    rw [Kd.data] at hv
    obtain ⟨a, x, y, rfl, hs, hx, hy⟩ := hv.g2
    cases hx.str_inv
    refine q_when (b := true) (et_is (et_andT (et_B (ev_isi (ev_var rfl) ev_c hv k_tt)) (et_test (ev_op (ev_ixT (j := 0) (ev_var rfl) ev_c hs rfl) ev_c (rv_eq rfl)))) (by decide +kernel)) (fun _ H1 e1 => ?_) (fun h => Bool.noConfusion h)
    refine s_ret (ev_ixT (j := 1) (ev_var rfl) ev_c (ex_t e1 hs) rfl) fun H2 e2 => q _ H2 (e1.trans e2) (fun ks' e => ?_) (fun nk => absurd rfl (nk j))
    cases e
    exact ⟨vd_non hy, hy.keep (Kt.same (e1.trans e2))⟩
abbrev s_fits : Stmt := topS 6
abbrev N_fits : List Str := ["condition", "kind", "name", "listed", "part"]
theorem sc_fits : FnScope N_fits ["condition", "kind"] (defScope s_fits) := ⟨rfl, rfl, rfl, by decide +kernel, rfl, by decide +kernel, by decide +kernel⟩
abbrev s__fits_item : Stmt := topS 7
abbrev N__fits_item : List Str := ["place", "condition", "kinds"]
theorem sc__fits_item : FnScope N__fits_item ["place", "condition", "kinds"] (defScope s__fits_item) := ⟨rfl, rfl, rfl, by decide +kernel, rfl, by decide +kernel, by decide +kernel⟩
abbrev s__fits_list : Stmt := topS 8
abbrev N__fits_list : List Str := ["condition", "listed", "name"]
theorem sc__fits_list : FnScope N__fits_list ["condition", "listed"] (defScope s__fits_list) := ⟨rfl, rfl, rfl, by decide +kernel, rfl, by decide +kernel, by decide +kernel⟩
theorem ok_fits {f : Addr} {fd : FuncData} {n : Nat} (T : Tx mg) (F : Fun K "fits" "fits" s_fits f fd) (c_is_word : Cl P w K mg base "is_word" ["text"] 1 spWord) (c_kinds_in_tuple : Cl P w K mg base "kinds_in_tuple" ["kind"] 1 (spKit K))
    (c_kind_in_list : Cl P w K mg base "kind_in_list" ["kind"] 1 (spKil K)) (c_fits : Cl P w K mg base "fits" ["condition", "kind"] (2 * n + 1) (spFits K n)) (c__fits_item : Cl P w K mg base "_fits_item" ["place", "condition", "kinds"] (2 * n + 2) (spFitsItem K n))
    (c__fits_list : Cl P w K mg base "_fits_list" ["condition", "listed"] (2 * n + 2) (spFitsList K n)) : FnOk P w K mg base CX0 (2 * n + 2 + 1) f fd ["condition", "kind"] (spFits K (n + 1)) := by
  obtain ⟨tD, m_DIVISOR⟩ := T.m_DIVISOR
  refine F.ok sc_fits (fun vs H Q E h => ?_) (fun cdv A outer s H vs Q E hr h => ?_)
  · obtain ⟨v, u, c, k, rfl, _⟩ := h
    rfl
  obtain ⟨v, u, c, k, rfl, hv, hc, hu, hk, q⟩ := h
  refine ⟨_, (pss_cons (ps_set (i := 2) sc_fits.nd rfl (Or.inl rfl) (pe_ix (r := rIxT K) ix_tup (pv 0) pe_int (fun _ _ => rfl)))
      (pss_cons (ps_if (pt_cmpR op_in_seq (pv 2) (pe_tup (pa_cons pe_str (pa_cons pe_str (pa_cons pe_str pa_nil)))) (by rfl)) (pss_one (ps_ret (pe_callB (cr_all rfl) (by rfl) T.z_all (by decide +kernel) (pa_cons (pe_lc (own := [("part", 4)]) (g := gName 4) (by rfl) sc_fits.nd (pi_tup (pe_slice sl_tup (pv 0) (po_some pe_int) po_none)) (blkOk_by (own := [("part", 4)]) (N := N_fits) (sc := defScope s_fits) (by decide +kernel)) (fun _ _ _ _ _ => (pg_name (i := 4) sc_fits.nd rfl (Or.inl rfl))) (fun _ _ _ _ _ => pts_nil) (fun _ _ _ _ _ => (pe_call c_fits.ok (hr.mono (by omega)) (by rfl) c_fits.m c_fits.kp c_fits.b .nil pass0 (pa_cons (pv 4) (pa_cons (pv 1) pa_nil))))) pa_nil)))) pss_nil)
      (pss_cons (ps_if (pt_cmpR op_eq (pv 2) pe_str (nomark _)) (pss_one (ps_ret (pe_cmpR (op_eqD hr.units) (pv 1) pe_str (nomark _)))) pss_nil)
      (pss_cons (ps_if (pt_cmpR op_eq (pv 2) pe_str (nomark _)) (pss_one (ps_ret (pe_and (pe_cmpR (op_eqD hr.units) (pv 1) pe_str (nomark _)) (pe_one (pe_chain op_le op_le pe_int (pe_ix (r := rIxT K) ix_tup (pv 0) pe_int (fun _ _ => rfl)) (pe_glob (v := .int 100) (by rfl) m_DIVISOR ⟨_, rfl⟩)))))) pss_nil)
      (pss_cons (ps_if (pt_cmpR op_eq (pv 2) pe_str (nomark _)) (pss_one (ps_ret (pe_and (pe_cmpR (op_eqD hr.units) (pv 1) pe_str (nomark _)) (pe_one (pe_call c_is_word.ok (hr.mono (by omega)) (by rfl) c_is_word.m c_is_word.kp c_is_word.b .nil pass0 (pa_cons (pe_ix (r := rIxT K) ix_tup (pv 0) pe_int (fun _ _ => rfl)) pa_nil)))))) pss_nil)
      (pss_cons (ps_if (pt_cmpR op_eq (pv 2) pe_str (nomark _)) (pss_one (ps_ret (pe_call c__fits_item.ok (hr.mono (by omega)) (by rfl) c__fits_item.m c__fits_item.kp c__fits_item.b .nil pass0 (pa_cons (pe_ix (r := rIxT K) ix_tup (pv 0) pe_int (fun _ _ => rfl)) (pa_cons (pe_ix (r := rIxT K) ix_tup (pv 0) pe_int (fun _ _ => rfl)) (pa_cons (pe_call c_kinds_in_tuple.ok (hr.mono (by omega)) (by rfl) c_kinds_in_tuple.m c_kinds_in_tuple.kp c_kinds_in_tuple.b .nil pass0 (pa_cons (pv 1) pa_nil)) pa_nil)))))) pss_nil)
      (pss_cons (ps_set (i := 3) sc_fits.nd rfl (Or.inl rfl) (pe_call c_kind_in_list.ok (hr.mono (by omega)) (by rfl) c_kind_in_list.m c_kind_in_list.kp c_kind_in_list.b .nil pass0 (pa_cons (pv 1) pa_nil)))
      (pss_one (ps_ret (pe_and (pe_cmpR op_notN (pv 3) pe_non (nomark _)) (pe_one (pe_call c__fits_list.ok (hr.mono (by omega)) (by rfl) c__fits_list.m c__fits_list.kp c__fits_list.b .nil pass0 (pa_cons (pv 0) (pa_cons (pv 3) pa_nil)))))))))))))), ?_⟩
  cases c with
  | not_ c =>
    rw [Cd.data] at hv
    obtain ⟨a, x, y, rfl, hs, hx, hy⟩ := hv.g2
    cases hx.str_inv
    refine q_asg (ev_ixT (j := 0) (ev_var rfl) ev_c hs rfl) fun H1 e1 => ?_
    refine takeT e1 rfl (ea_cons ev_c (ea_cons ev_c (ea_cons ev_c ea_nil))) (by show 3 ≤ 100000; decide) rfl (by decide +kernel) fun H2 e2 => ?_
    have hc1 : OkC n c := by cases hc with | not_ h => exact h
    refine s_ret (ev_is (ev_all (el_is (el_lcNT (fun _ => true) (fun _ => .bl (fitsC c k)) (eu_sl1 (ev_var rfl) (ex_t e2 hs)) (by show 1 ≤ 40000; decide) (fun _ => rfl) (fun _ _ _ _ _ => et_yes) (fun i x H9 e9 hx _ => ?_)) (given_all _ _))) ?_) fun H9 e9 => q H9 (e2.trans e9)
    · have e09 := e2.trans e9
      match i, hx with
      | 0, hx =>
        cases hx
        exact ev_callC (ea_cons (ev_var rfl) (ea_cons (ev_var rfl) ea_nil)) (fits_call (hy.keep (Kt.same e09)) hc1 (hu.keep (Kt.same e09)) hk)
    · show V.bl ([fitsC c k].all id) = V.bl (fitsC c k)
      cases fitsC c k <;> rfl
  | and_ c d =>
    rw [Cd.data] at hv
    obtain ⟨a, x, y, z, rfl, hs, hx, hy, hz⟩ := hv.g3
    cases hx.str_inv
    refine q_asg (ev_ixT (j := 0) (ev_var rfl) ev_c hs rfl) fun H1 e1 => ?_
    refine takeT e1 rfl (ea_cons ev_c (ea_cons ev_c (ea_cons ev_c ea_nil))) (by show 3 ≤ 100000; decide) rfl (by decide +kernel) fun H2 e2 => ?_
    have hc1 : OkC n c ∧ OkC n d := by cases hc with | and_ h g => exact ⟨h, g⟩
    refine s_ret (ev_is (ev_all (el_is (el_lcNT (fun _ => true) (fun i => .bl (if i = 0 then fitsC c k else fitsC d k)) (eu_sl1 (ev_var rfl) (ex_t e2 hs)) (by show 2 ≤ 40000; decide) (fun _ => rfl) (fun _ _ _ _ _ => et_yes) (fun i x H9 e9 hx _ => ?_)) (given_all _ _))) ?_) fun H9 e9 => q H9 (e2.trans e9)
    · have e09 := e2.trans e9
      match i, hx with
      | 0, hx =>
        cases hx
        exact ev_callC (ea_cons (ev_var rfl) (ea_cons (ev_var rfl) ea_nil)) (fits_call (hy.keep (Kt.same e09)) hc1.1 (hu.keep (Kt.same e09)) hk)
      | 1, hx =>
        cases hx
        exact ev_callC (ea_cons (ev_var rfl) (ea_cons (ev_var rfl) ea_nil)) (fits_call (hz.keep (Kt.same e09)) hc1.2 (hu.keep (Kt.same e09)) hk)
    · show V.bl ([fitsC c k, fitsC d k].all id) = V.bl (fitsC c k && fitsC d k)
      cases fitsC c k <;> cases fitsC d k <;> rfl
  | or_ c d =>
    rw [Cd.data] at hv
    obtain ⟨a, x, y, z, rfl, hs, hx, hy, hz⟩ := hv.g3
    cases hx.str_inv
    refine q_asg (ev_ixT (j := 0) (ev_var rfl) ev_c hs rfl) fun H1 e1 => ?_
    refine takeT e1 rfl (ea_cons ev_c (ea_cons ev_c (ea_cons ev_c ea_nil))) (by show 3 ≤ 100000; decide) rfl (by decide +kernel) fun H2 e2 => ?_
    have hc1 : OkC n c ∧ OkC n d := by cases hc with | or_ h g => exact ⟨h, g⟩
    refine s_ret (ev_is (ev_all (el_is (el_lcNT (fun _ => true) (fun i => .bl (if i = 0 then fitsC c k else fitsC d k)) (eu_sl1 (ev_var rfl) (ex_t e2 hs)) (by show 2 ≤ 40000; decide) (fun _ => rfl) (fun _ _ _ _ _ => et_yes) (fun i x H9 e9 hx _ => ?_)) (given_all _ _))) ?_) fun H9 e9 => q H9 (e2.trans e9)
    · have e09 := e2.trans e9
      match i, hx with
      | 0, hx =>
        cases hx
        exact ev_callC (ea_cons (ev_var rfl) (ea_cons (ev_var rfl) ea_nil)) (fits_call (hy.keep (Kt.same e09)) hc1.1 (hu.keep (Kt.same e09)) hk)
      | 1, hx =>
        cases hx
        exact ev_callC (ea_cons (ev_var rfl) (ea_cons (ev_var rfl) ea_nil)) (fits_call (hz.keep (Kt.same e09)) hc1.2 (hu.keep (Kt.same e09)) hk)
    · show V.bl ([fitsC c k, fitsC d k].all id) = V.bl (fitsC c k && fitsC d k)
      cases fitsC c k <;> cases fitsC d k <;> rfl
  | atmost m =>
    rw [Cd.data] at hv
    obtain ⟨a, x, y, rfl, hs, hx, hy⟩ := hv.g2
    cases hx.str_inv
    refine q_asg (ev_ixT (j := 0) (ev_var rfl) ev_c hs rfl) fun H1 e1 => ?_
    refine skipT e1 rfl (ea_cons ev_c (ea_cons ev_c (ea_cons ev_c ea_nil))) (by show 3 ≤ 100000; decide) rfl (by decide +kernel) fun H2 e2 => ?_
    refine takeS e2 rfl (by decide +kernel) fun H3 e3 => ?_
    exact s_ret (ev_isInt (ev_var rfl) (hu.keep (Kt.same e3)) hk (by omega)) fun H9 e9 => q H9 (e3.trans e9)
  | divides m =>
    rw [Cd.data] at hv
    obtain ⟨a, x, y, rfl, hs, hx, hy⟩ := hv.g2
    cases hx.str_inv
    refine q_asg (ev_ixT (j := 0) (ev_var rfl) ev_c hs rfl) fun H1 e1 => ?_
    refine skipT e1 rfl (ea_cons ev_c (ea_cons ev_c (ea_cons ev_c ea_nil))) (by show 3 ≤ 100000; decide) rfl (by decide +kernel) fun H2 e2 => ?_
    refine skipS e2 rfl (by decide +kernel) fun H3 e3 => ?_
    refine takeS e3 rfl (by decide +kernel) fun H4 e4 => ?_
    cases hy.int_inv
    exact s_ret (ev_andV (ev_isInt (ev_var rfl) (hu.keep (Kt.same e4)) hk (by omega)) fun _ => ev_one (ev_chain ev_c (ev_ixT (j := 1) (ev_var rfl) ev_c (ex_t e4 hs) rfl) ev_c rv_I0 rv_I0)) fun H9 e9 => q H9 (e4.trans e9)
  | is m =>
    rw [Cd.data] at hv
    obtain ⟨a, x, y, rfl, hs, hx, hy⟩ := hv.g2
    cases hx.str_inv
    refine q_asg (ev_ixT (j := 0) (ev_var rfl) ev_c hs rfl) fun H1 e1 => ?_
    refine skipT e1 rfl (ea_cons ev_c (ea_cons ev_c (ea_cons ev_c ea_nil))) (by show 3 ≤ 100000; decide) rfl (by decide +kernel) fun H2 e2 => ?_
    refine skipS e2 rfl (by decide +kernel) fun H3 e3 => ?_
    refine skipS e3 rfl (by decide +kernel) fun H4 e4 => ?_
    refine takeS e4 rfl (by decide +kernel) fun H5 e5 => ?_
    cases hy.str_inv
    have hm : m.length ≤ 1000 := by cases hc with | is _ h => exact h
    exact s_ret (ev_andV (ev_isWord (ev_var rfl) (hu.keep (Kt.same e5)) hk (by omega)) fun _ => ev_one (ev_callC (ea_cons (ev_ixT (j := 1) (ev_var rfl) ev_c (ex_t e5 hs) rfl) ea_nil) fun H1 e Q q E => ⟨m, rfl, hm, fun H' e' => q H' e'⟩)) fun H9 e9 => q H9 (e5.trans e9)
  | item m c =>
    rw [Cd.data] at hv
    obtain ⟨a, x, y, z, rfl, hs, hx, hy, hz⟩ := hv.g3
    cases hx.str_inv
    refine q_asg (ev_ixT (j := 0) (ev_var rfl) ev_c hs rfl) fun H1 e1 => ?_
    refine skipT e1 rfl (ea_cons ev_c (ea_cons ev_c (ea_cons ev_c ea_nil))) (by show 3 ≤ 100000; decide) rfl (by decide +kernel) fun H2 e2 => ?_
    refine skipS e2 rfl (by decide +kernel) fun H3 e3 => ?_
    refine skipS e3 rfl (by decide +kernel) fun H4 e4 => ?_
    refine skipS e4 rfl (by decide +kernel) fun H5 e5 => ?_
    refine takeS e5 rfl (by decide +kernel) fun H6 e6 => ?_
    cases hy.int_inv
    have hc1 : OkC n c := by cases hc with | item _ h => exact h
    refine ⟨_, rfl, a, _, 1, _, rfl, rfl, ex_t e6 hs, rfl, _, rfl, a, _, 2, _, rfl, rfl, ex_t e6 hs, rfl, _, rfl, u, k, 10, rfl, hu.keep (Kt.same e6), hk, by omega, fun r H8 e8 ht hn => ?_⟩
    have e08 := e6.trans e8
    have hb : ∃ b, r = .ref b ∧ Vd K H8 (.ref b) (.tuple (dataAll k.parts)) ∧ ∀ j ∈ k.parts, OkK 10 j := by
      cases hk with
      | int => obtain ⟨b, rfl, hb⟩ := hn (fun _ e => Kd.noConfusion e); exact ⟨b, rfl, hb, fun _ h => nomatch h⟩
      | word => obtain ⟨b, rfl, hb⟩ := hn (fun _ e => Kd.noConfusion e); exact ⟨b, rfl, hb, fun _ h => nomatch h⟩
      | lst _ => obtain ⟨b, rfl, hb⟩ := hn (fun _ e => Kd.noConfusion e); exact ⟨b, rfl, hb, fun _ h => nomatch h⟩
      | tup _ hks => obtain ⟨b, rfl, hb⟩ := ht _ rfl; exact ⟨b, rfl, hb, fun j hj => (hks j hj).mono (by omega)⟩
    obtain ⟨b, rfl, hb, hkp⟩ := hb
    exact ⟨m, _, _, c, k.parts, rfl, hz.keep (Kt.same e08), hc1, hb, hkp, fun H9 e9 => q H9 (e08.trans e9)⟩
  | every c =>
    have hv0 := hv
    rw [Cd.data] at hv
    obtain ⟨a, x, y, rfl, hs, hx, hy⟩ := hv.g2
    cases hx.str_inv
    refine q_asg (ev_ixT (j := 0) (ev_var rfl) ev_c hs rfl) fun H1 e1 => ?_
    refine skipT e1 rfl (ea_cons ev_c (ea_cons ev_c (ea_cons ev_c ea_nil))) (by show 3 ≤ 100000; decide) rfl (by decide +kernel) fun H2 e2 => ?_
    refine skipS e2 rfl (by decide +kernel) fun H3 e3 => ?_
    refine skipS e3 rfl (by decide +kernel) fun H4 e4 => ?_
    refine skipS e4 rfl (by decide +kernel) fun H5 e5 => ?_
    refine skipS e5 rfl (by decide +kernel) fun H6 e6 => ?_
    refine ⟨_, rfl, u, k, 10, rfl, hu.keep (Kt.same e6), hk, by omega, fun r H8 e8 hl hn => ?_⟩
    have e08 := e6.trans e8
    have no : (∀ j, k ≠ .lst j) → tRet (tAndV (tOp (fun x y H Q => y = .non ∧ Q (.bl (!decide (x = .non))) H) (tVar 3) (tC .non)) (tCall (spFitsList K n) [] E0 (tCons (tVar 0) (tCons (tVar 3) tNil)))) { nx := fun _ H' => Q .non H', rt := Q } [some (.ref a), some u, some (.str "every"), some r, none] H8 := fun nk => by
      cases hn nk
      have hf : fitsC (.every c) k = false := by
        cases k with
        | lst j => exact absurd rfl (nk j)
        | _ => rfl
      rw [hf] at q
      exact s_ret (ev_andF (ev_is (ev_op (ev_var rfl) ev_c rv_notN) (by decide))) fun H9 e9 => q H9 (e08.trans e9)
    cases k with
    | int => exact no fun _ e => Kd.noConfusion e
    | word => exact no fun _ e => Kd.noConfusion e
    | tup _ => exact no fun _ e => Kd.noConfusion e
    | lst j =>
      obtain ⟨hr0, hj⟩ := hl j rfl
      have hj1 : OkK 10 j := by cases hk with | lst h => exact h.mono (by omega)
      exact s_ret (ev_andT (ev_is (ev_op (ev_var rfl) ev_c rv_notN) (by rw [decide_eq_false hr0]; rfl)) (ev_one (ev_callC (ea_cons (ev_var rfl) (ea_cons (ev_var rfl) ea_nil)) fun H7 e7 Q q E => ⟨_, r, .every c, j, rfl, hv0.keep (Kt.same (e08.trans e7)), hc, rfl, hj.keep (Kt.same e7), hj1, fun H' e' => q H' e'⟩))) fun H9 e9 => q H9 (e08.trans e9)
  | some_ c =>
    have hv0 := hv
    rw [Cd.data] at hv
    obtain ⟨a, x, y, rfl, hs, hx, hy⟩ := hv.g2
    cases hx.str_inv
    refine q_asg (ev_ixT (j := 0) (ev_var rfl) ev_c hs rfl) fun H1 e1 => ?_
    refine skipT e1 rfl (ea_cons ev_c (ea_cons ev_c (ea_cons ev_c ea_nil))) (by show 3 ≤ 100000; decide) rfl (by decide +kernel) fun H2 e2 => ?_
    refine skipS e2 rfl (by decide +kernel) fun H3 e3 => ?_
    refine skipS e3 rfl (by decide +kernel) fun H4 e4 => ?_
    refine skipS e4 rfl (by decide +kernel) fun H5 e5 => ?_
    refine skipS e5 rfl (by decide +kernel) fun H6 e6 => ?_
    refine ⟨_, rfl, u, k, 10, rfl, hu.keep (Kt.same e6), hk, by omega, fun r H8 e8 hl hn => ?_⟩
    have e08 := e6.trans e8
    have no : (∀ j, k ≠ .lst j) → tRet (tAndV (tOp (fun x y H Q => y = .non ∧ Q (.bl (!decide (x = .non))) H) (tVar 3) (tC .non)) (tCall (spFitsList K n) [] E0 (tCons (tVar 0) (tCons (tVar 3) tNil)))) { nx := fun _ H' => Q .non H', rt := Q } [some (.ref a), some u, some (.str "some"), some r, none] H8 := fun nk => by
      cases hn nk
      have hf : fitsC (.some_ c) k = false := by
        cases k with
        | lst j => exact absurd rfl (nk j)
        | _ => rfl
      rw [hf] at q
      exact s_ret (ev_andF (ev_is (ev_op (ev_var rfl) ev_c rv_notN) (by decide))) fun H9 e9 => q H9 (e08.trans e9)
    cases k with
    | int => exact no fun _ e => Kd.noConfusion e
    | word => exact no fun _ e => Kd.noConfusion e
    | tup _ => exact no fun _ e => Kd.noConfusion e
    | lst j =>
      obtain ⟨hr0, hj⟩ := hl j rfl
      have hj1 : OkK 10 j := by cases hk with | lst h => exact h.mono (by omega)
      exact s_ret (ev_andT (ev_is (ev_op (ev_var rfl) ev_c rv_notN) (by rw [decide_eq_false hr0]; rfl)) (ev_one (ev_callC (ea_cons (ev_var rfl) (ea_cons (ev_var rfl) ea_nil)) fun H7 e7 Q q E => ⟨_, r, .some_ c, j, rfl, hv0.keep (Kt.same (e08.trans e7)), hc, rfl, hj.keep (Kt.same e7), hj1, fun H' e' => q H' e'⟩))) fun H9 e9 => q H9 (e08.trans e9)
  | size c =>
    have hv0 := hv
    rw [Cd.data] at hv
    obtain ⟨a, x, y, rfl, hs, hx, hy⟩ := hv.g2
    cases hx.str_inv
    refine q_asg (ev_ixT (j := 0) (ev_var rfl) ev_c hs rfl) fun H1 e1 => ?_
    refine skipT e1 rfl (ea_cons ev_c (ea_cons ev_c (ea_cons ev_c ea_nil))) (by show 3 ≤ 100000; decide) rfl (by decide +kernel) fun H2 e2 => ?_
    refine skipS e2 rfl (by decide +kernel) fun H3 e3 => ?_
    refine skipS e3 rfl (by decide +kernel) fun H4 e4 => ?_
    refine skipS e4 rfl (by decide +kernel) fun H5 e5 => ?_
    refine skipS e5 rfl (by decide +kernel) fun H6 e6 => ?_
    refine ⟨_, rfl, u, k, 10, rfl, hu.keep (Kt.same e6), hk, by omega, fun r H8 e8 hl hn => ?_⟩
    have e08 := e6.trans e8
    have no : (∀ j, k ≠ .lst j) → tRet (tAndV (tOp (fun x y H Q => y = .non ∧ Q (.bl (!decide (x = .non))) H) (tVar 3) (tC .non)) (tCall (spFitsList K n) [] E0 (tCons (tVar 0) (tCons (tVar 3) tNil)))) { nx := fun _ H' => Q .non H', rt := Q } [some (.ref a), some u, some (.str "size"), some r, none] H8 := fun nk => by
      cases hn nk
      have hf : fitsC (.size c) k = false := by
        cases k with
        | lst j => exact absurd rfl (nk j)
        | _ => rfl
      rw [hf] at q
      exact s_ret (ev_andF (ev_is (ev_op (ev_var rfl) ev_c rv_notN) (by decide))) fun H9 e9 => q H9 (e08.trans e9)
    cases k with
    | int => exact no fun _ e => Kd.noConfusion e
    | word => exact no fun _ e => Kd.noConfusion e
    | tup _ => exact no fun _ e => Kd.noConfusion e
    | lst j =>
      obtain ⟨hr0, hj⟩ := hl j rfl
      have hj1 : OkK 10 j := by cases hk with | lst h => exact h.mono (by omega)
      exact s_ret (ev_andT (ev_is (ev_op (ev_var rfl) ev_c rv_notN) (by rw [decide_eq_false hr0]; rfl)) (ev_one (ev_callC (ea_cons (ev_var rfl) (ea_cons (ev_var rfl) ea_nil)) fun H7 e7 Q q E => ⟨_, r, .size c, j, rfl, hv0.keep (Kt.same (e08.trans e7)), hc, rfl, hj.keep (Kt.same e7), hj1, fun H' e' => q H' e'⟩))) fun H9 e9 => q H9 (e08.trans e9)
  | sum c =>
    have hv0 := hv
    rw [Cd.data] at hv
    obtain ⟨a, x, y, rfl, hs, hx, hy⟩ := hv.g2
    cases hx.str_inv
    refine q_asg (ev_ixT (j := 0) (ev_var rfl) ev_c hs rfl) fun H1 e1 => ?_
    refine skipT e1 rfl (ea_cons ev_c (ea_cons ev_c (ea_cons ev_c ea_nil))) (by show 3 ≤ 100000; decide) rfl (by decide +kernel) fun H2 e2 => ?_
    refine skipS e2 rfl (by decide +kernel) fun H3 e3 => ?_
    refine skipS e3 rfl (by decide +kernel) fun H4 e4 => ?_
    refine skipS e4 rfl (by decide +kernel) fun H5 e5 => ?_
    refine skipS e5 rfl (by decide +kernel) fun H6 e6 => ?_
    refine ⟨_, rfl, u, k, 10, rfl, hu.keep (Kt.same e6), hk, by omega, fun r H8 e8 hl hn => ?_⟩
    have e08 := e6.trans e8
    have no : (∀ j, k ≠ .lst j) → tRet (tAndV (tOp (fun x y H Q => y = .non ∧ Q (.bl (!decide (x = .non))) H) (tVar 3) (tC .non)) (tCall (spFitsList K n) [] E0 (tCons (tVar 0) (tCons (tVar 3) tNil)))) { nx := fun _ H' => Q .non H', rt := Q } [some (.ref a), some u, some (.str "sum"), some r, none] H8 := fun nk => by
      cases hn nk
      have hf : fitsC (.sum c) k = false := by
        cases k with
        | lst j => exact absurd rfl (nk j)
        | _ => rfl
      rw [hf] at q
      exact s_ret (ev_andF (ev_is (ev_op (ev_var rfl) ev_c rv_notN) (by decide))) fun H9 e9 => q H9 (e08.trans e9)
    cases k with
    | int => exact no fun _ e => Kd.noConfusion e
    | word => exact no fun _ e => Kd.noConfusion e
    | tup _ => exact no fun _ e => Kd.noConfusion e
    | lst j =>
      obtain ⟨hr0, hj⟩ := hl j rfl
      have hj1 : OkK 10 j := by cases hk with | lst h => exact h.mono (by omega)
      exact s_ret (ev_andT (ev_is (ev_op (ev_var rfl) ev_c rv_notN) (by rw [decide_eq_false hr0]; rfl)) (ev_one (ev_callC (ea_cons (ev_var rfl) (ea_cons (ev_var rfl) ea_nil)) fun H7 e7 Q q E => ⟨_, r, .sum c, j, rfl, hv0.keep (Kt.same (e08.trans e7)), hc, rfl, hj.keep (Kt.same e7), hj1, fun H' e' => q H' e'⟩))) fun H9 e9 => q H9 (e08.trans e9)
  | rising =>
    have hv0 := hv
    rw [Cd.data] at hv
    obtain ⟨a, x, rfl, hs, hx⟩ := hv.g1
    cases hx.str_inv
    refine q_asg (ev_ixT (j := 0) (ev_var rfl) ev_c hs rfl) fun H1 e1 => ?_
    refine skipT e1 rfl (ea_cons ev_c (ea_cons ev_c (ea_cons ev_c ea_nil))) (by show 3 ≤ 100000; decide) rfl (by decide +kernel) fun H2 e2 => ?_
    refine skipS e2 rfl (by decide +kernel) fun H3 e3 => ?_
    refine skipS e3 rfl (by decide +kernel) fun H4 e4 => ?_
    refine skipS e4 rfl (by decide +kernel) fun H5 e5 => ?_
    refine skipS e5 rfl (by decide +kernel) fun H6 e6 => ?_
    refine ⟨_, rfl, u, k, 10, rfl, hu.keep (Kt.same e6), hk, by omega, fun r H8 e8 hl hn => ?_⟩
    have e08 := e6.trans e8
    have no : (∀ j, k ≠ .lst j) → tRet (tAndV (tOp (fun x y H Q => y = .non ∧ Q (.bl (!decide (x = .non))) H) (tVar 3) (tC .non)) (tCall (spFitsList K n) [] E0 (tCons (tVar 0) (tCons (tVar 3) tNil)))) { nx := fun _ H' => Q .non H', rt := Q } [some (.ref a), some u, some (.str "rising"), some r, none] H8 := fun nk => by
      cases hn nk
      have hf : fitsC (.rising) k = false := by
        cases k with
        | lst j => exact absurd rfl (nk j)
        | _ => rfl
      rw [hf] at q
      exact s_ret (ev_andF (ev_is (ev_op (ev_var rfl) ev_c rv_notN) (by decide))) fun H9 e9 => q H9 (e08.trans e9)
    cases k with
    | int => exact no fun _ e => Kd.noConfusion e
    | word => exact no fun _ e => Kd.noConfusion e
    | tup _ => exact no fun _ e => Kd.noConfusion e
    | lst j =>
      obtain ⟨hr0, hj⟩ := hl j rfl
      have hj1 : OkK 10 j := by cases hk with | lst h => exact h.mono (by omega)
      exact s_ret (ev_andT (ev_is (ev_op (ev_var rfl) ev_c rv_notN) (by rw [decide_eq_false hr0]; rfl)) (ev_one (ev_callC (ea_cons (ev_var rfl) (ea_cons (ev_var rfl) ea_nil)) fun H7 e7 Q q E => ⟨_, r, .rising, j, rfl, hv0.keep (Kt.same (e08.trans e7)), hc, rfl, hj.keep (Kt.same e7), hj1, fun H' e' => q H' e'⟩))) fun H9 e9 => q H9 (e08.trans e9)
  | different =>
    have hv0 := hv
    rw [Cd.data] at hv
    obtain ⟨a, x, rfl, hs, hx⟩ := hv.g1
    cases hx.str_inv
    refine q_asg (ev_ixT (j := 0) (ev_var rfl) ev_c hs rfl) fun H1 e1 => ?_
    refine skipT e1 rfl (ea_cons ev_c (ea_cons ev_c (ea_cons ev_c ea_nil))) (by show 3 ≤ 100000; decide) rfl (by decide +kernel) fun H2 e2 => ?_
    refine skipS e2 rfl (by decide +kernel) fun H3 e3 => ?_
    refine skipS e3 rfl (by decide +kernel) fun H4 e4 => ?_
    refine skipS e4 rfl (by decide +kernel) fun H5 e5 => ?_
    refine skipS e5 rfl (by decide +kernel) fun H6 e6 => ?_
    refine ⟨_, rfl, u, k, 10, rfl, hu.keep (Kt.same e6), hk, by omega, fun r H8 e8 hl hn => ?_⟩
    have e08 := e6.trans e8
    have no : (∀ j, k ≠ .lst j) → tRet (tAndV (tOp (fun x y H Q => y = .non ∧ Q (.bl (!decide (x = .non))) H) (tVar 3) (tC .non)) (tCall (spFitsList K n) [] E0 (tCons (tVar 0) (tCons (tVar 3) tNil)))) { nx := fun _ H' => Q .non H', rt := Q } [some (.ref a), some u, some (.str "different"), some r, none] H8 := fun nk => by
      cases hn nk
      have hf : fitsC (.different) k = false := by
        cases k with
        | lst j => exact absurd rfl (nk j)
        | _ => rfl
      rw [hf] at q
      exact s_ret (ev_andF (ev_is (ev_op (ev_var rfl) ev_c rv_notN) (by decide))) fun H9 e9 => q H9 (e08.trans e9)
    cases k with
    | int => exact no fun _ e => Kd.noConfusion e
    | word => exact no fun _ e => Kd.noConfusion e
    | tup _ => exact no fun _ e => Kd.noConfusion e
    | lst j =>
      obtain ⟨hr0, hj⟩ := hl j rfl
      have hj1 : OkK 10 j := by cases hk with | lst h => exact h.mono (by omega)
      exact s_ret (ev_andT (ev_is (ev_op (ev_var rfl) ev_c rv_notN) (by rw [decide_eq_false hr0]; rfl)) (ev_one (ev_callC (ea_cons (ev_var rfl) (ea_cons (ev_var rfl) ea_nil)) fun H7 e7 Q q E => ⟨_, r, .different, j, rfl, hv0.keep (Kt.same (e08.trans e7)), hc, rfl, hj.keep (Kt.same e7), hj1, fun H' e' => q H' e'⟩))) fun H9 e9 => q H9 (e08.trans e9)
theorem ok__fits_item {f : Addr} {fd : FuncData} {n : Nat} (T : Tx mg) (F : Fun K "_fits_item" "_fits_item" s__fits_item f fd) (c_fits : Cl P w K mg base "fits" ["condition", "kind"] (2 * n + 1) (spFits K n)) : FnOk P w K mg base CX0 (2 * n + 1 + 1) f fd ["place", "condition", "kinds"] (spFitsItem K n) := by
  refine F.ok sc__fits_item (fun vs H Q E h => ?_) (fun cdv A outer s H vs Q E hr h => ?_)
  · obtain ⟨i, v, u, c, ks, rfl, _⟩ := h
    rfl
  obtain ⟨i, v, u, c, ks, rfl, hv, hc, hu, hk, q⟩ := h
  refine ⟨_, (pss_one (ps_ret (pe_and (pe_chain op_le op_lt pe_int (pv 0) (pe_callB call_len_seq (by rfl) T.z_len PySem.boot_len (pa_cons (pv 2) pa_nil))) (pe_one (pe_call c_fits.ok (hr.mono (by omega)) (by rfl) c_fits.m c_fits.kp c_fits.b .nil pass0 (pa_cons (pv 1) (pa_cons (pe_ix (r := rIxT K) ix_tup (pv 2) (pv 0) (fun _ _ => rfl)) pa_nil))))))), ?_⟩
  obtain ⟨b, rfl⟩ := hu.ref
  obtain ⟨ys, hys, hyl, hyi⟩ := hu.get
  have hyk : ys.length = ks.length := by rw [hyl, dataAll_map, List.length_map]
  refine s_ret (ev_is (ev_andV (b := fitsC c (ks.getD i.toNat .int)) (ev_chain ev_c (ev_var rfl) (ev_lenT (ev_var rfl) hys) rv_I0 rv_I0) fun hb => ev_one (ev_callC (vs := [v, ys.getD i.toNat .non]) (ea_cons (ev_var rfl) (ea_cons ?_ ea_nil)) ?_)) ?_) q
  · obtain ⟨h0, h1⟩ := Bool.and_eq_true_iff.mp hb
    have h0 := of_decide_eq_true h0
    have h1 := of_decide_eq_true h1
    obtain ⟨j, rfl⟩ := Int.eq_ofNat_of_zero_le h0
    exact ev_ixT (j := j) (ev_var rfl) (ev_var rfl) hys (getD_at (by omega))
  · obtain ⟨h0, h1⟩ := Bool.and_eq_true_iff.mp hb
    have h0 := of_decide_eq_true h0
    have h1 := of_decide_eq_true h1
    have hi : i.toNat < ks.length := by omega
    have hyd : (dataAll ks)[i.toNat]? = some (ks.getD i.toNat .int).data := by rw [dataAll_map, List.getElem?_map, getD_at (a0 := Kd.int) hi]; rfl
    exact fits_call hv hc (hyi _ _ _ (getD_at (by omega)) hyd) (hk _ (List.mem_of_getElem? (getD_at hi)))
  · rw [hyk]
theorem ok__fits_list {f : Addr} {fd : FuncData} {n : Nat} (T : Tx mg) (F : Fun K "_fits_list" "_fits_list" s__fits_list f fd) (c_fits : Cl P w K mg base "fits" ["condition", "kind"] (2 * n + 1) (spFits K n)) : FnOk P w K mg base CX0 (2 * n + 1 + 1) f fd ["condition", "listed"] (spFitsList K n) := by
  refine F.ok sc__fits_list (fun vs H Q E h => ?_) (fun cdv A outer s H vs Q E hr h => ?_)
  · obtain ⟨v, u, c, j, rfl, _⟩ := h
    rfl
  obtain ⟨v, u, c, j, rfl, hv, hc, ho, hu, hj, q⟩ := h
  refine ⟨_, (pss_cons (ps_set (i := 2) sc__fits_list.nd rfl (Or.inl rfl) (pe_ix (r := rIxT K) ix_tup (pv 0) pe_int (fun _ _ => rfl)))
      (pss_cons (ps_if (pt_cmpR op_in_seq (pv 2) (pe_tup (pa_cons pe_str (pa_cons pe_str pa_nil))) (by rfl)) (pss_one (ps_ret (pe_call c_fits.ok (hr.mono (by omega)) (by rfl) c_fits.m c_fits.kp c_fits.b .nil pass0 (pa_cons (pe_ix (r := rIxT K) ix_tup (pv 0) pe_int (fun _ _ => rfl)) (pa_cons (pv 1) pa_nil))))) pss_nil)
      (pss_cons (ps_if (pt_cmpR op_eq (pv 2) pe_str (nomark _)) (pss_one (ps_ret (pe_call c_fits.ok (hr.mono (by omega)) (by rfl) c_fits.m c_fits.kp c_fits.b .nil pass0 (pa_cons (pe_ix (r := rIxT K) ix_tup (pv 0) pe_int (fun _ _ => rfl)) (pa_cons pe_str pa_nil))))) pss_nil)
      (pss_cons (ps_if (pt_cmpR op_eq (pv 2) pe_str (nomark _)) (pss_one (ps_ret (pe_and (pe_cmpR (op_eqD hr.units) (pv 1) pe_str (nomark _)) (pe_one (pe_call c_fits.ok (hr.mono (by omega)) (by rfl) c_fits.m c_fits.kp c_fits.b .nil pass0 (pa_cons (pe_ix (r := rIxT K) ix_tup (pv 0) pe_int (fun _ _ => rfl)) (pa_cons pe_str pa_nil))))))) pss_nil)
      (pss_cons (ps_if (pt_cmpR op_eq (pv 2) pe_str (nomark _)) (pss_one (ps_ret (pe_cmpR (op_eqD hr.units) (pv 1) pe_str (nomark _)))) pss_nil)
      (pss_one (ps_ret (pe_cmpR op_eq (pv 2) pe_str (nomark _))))))))), ?_⟩
  cases c with
  | atmost m => cases ho
  | divides m => cases ho
  | is m => cases ho
  | item m c => cases ho
  | not_ c => cases ho
  | and_ c d => cases ho
  | or_ c d => cases ho
  | every c =>
    rw [Cd.data] at hv
    obtain ⟨a, x, y, rfl, hs, hx, hy⟩ := hv.g2
    cases hx.str_inv
    refine q_asg (ev_ixT (j := 0) (ev_var rfl) ev_c hs rfl) fun H1 e1 => ?_
    have hc1 : OkC n c := by cases hc with | every h => exact h
    refine takeT e1 rfl (ea_cons ev_c (ea_cons ev_c ea_nil)) (by show 2 ≤ 100000; decide) rfl (by decide +kernel) fun H2 e2 => ?_
    exact s_ret (ev_callC (ea_cons (ev_ixT (j := 1) (ev_var rfl) ev_c (ex_t e2 hs) rfl) (ea_cons (ev_var rfl) ea_nil)) (fits_call (hy.keep (Kt.same e2)) hc1 (hu.keep (Kt.same e2)) hj)) fun H9 e9 => q H9 (e2.trans e9)
  | some_ c =>
    rw [Cd.data] at hv
    obtain ⟨a, x, y, rfl, hs, hx, hy⟩ := hv.g2
    cases hx.str_inv
    refine q_asg (ev_ixT (j := 0) (ev_var rfl) ev_c hs rfl) fun H1 e1 => ?_
    have hc1 : OkC n c := by cases hc with | some_ h => exact h
    refine takeT e1 rfl (ea_cons ev_c (ea_cons ev_c ea_nil)) (by show 2 ≤ 100000; decide) rfl (by decide +kernel) fun H2 e2 => ?_
    exact s_ret (ev_callC (ea_cons (ev_ixT (j := 1) (ev_var rfl) ev_c (ex_t e2 hs) rfl) (ea_cons (ev_var rfl) ea_nil)) (fits_call (hy.keep (Kt.same e2)) hc1 (hu.keep (Kt.same e2)) hj)) fun H9 e9 => q H9 (e2.trans e9)
  | size c =>
    rw [Cd.data] at hv
    obtain ⟨a, x, y, rfl, hs, hx, hy⟩ := hv.g2
    cases hx.str_inv
    refine q_asg (ev_ixT (j := 0) (ev_var rfl) ev_c hs rfl) fun H1 e1 => ?_
    have hc1 : OkC n c := by cases hc with | size h => exact h
    refine skipT e1 rfl (ea_cons ev_c (ea_cons ev_c ea_nil)) (by show 2 ≤ 100000; decide) rfl (by decide +kernel) fun H2 e2 => ?_
    refine takeS e2 rfl (by decide +kernel) fun H3 e3 => ?_
    exact s_ret (ev_callC (ea_cons (ev_ixT (j := 1) (ev_var rfl) ev_c (ex_t e3 hs) rfl) (ea_cons ev_c ea_nil)) (fits_call (hy.keep (Kt.same e3)) hc1 int_data .int)) fun H9 e9 => q H9 (e3.trans e9)
  | sum c =>
    rw [Cd.data] at hv
    obtain ⟨a, x, y, rfl, hs, hx, hy⟩ := hv.g2
    cases hx.str_inv
    refine q_asg (ev_ixT (j := 0) (ev_var rfl) ev_c hs rfl) fun H1 e1 => ?_
    have hc1 : OkC n c := by cases hc with | sum h => exact h
    refine skipT e1 rfl (ea_cons ev_c (ea_cons ev_c ea_nil)) (by show 2 ≤ 100000; decide) rfl (by decide +kernel) fun H2 e2 => ?_
    refine skipS e2 rfl (by decide +kernel) fun H3 e3 => ?_
    refine takeS e3 rfl (by decide +kernel) fun H4 e4 => ?_
    exact s_ret (ev_andV (ev_isInt (ev_var rfl) (hu.keep (Kt.same e4)) hj (by omega)) fun _ => ev_one (ev_callC (ea_cons (ev_ixT (j := 1) (ev_var rfl) ev_c (ex_t e4 hs) rfl) (ea_cons ev_c ea_nil)) (fits_call (hy.keep (Kt.same e4)) hc1 int_data .int))) fun H9 e9 => q H9 (e4.trans e9)
  | rising =>
    rw [Cd.data] at hv
    obtain ⟨a, x, rfl, hs, hx⟩ := hv.g1
    cases hx.str_inv
    refine q_asg (ev_ixT (j := 0) (ev_var rfl) ev_c hs rfl) fun H1 e1 => ?_
    refine skipT e1 rfl (ea_cons ev_c (ea_cons ev_c ea_nil)) (by show 2 ≤ 100000; decide) rfl (by decide +kernel) fun H2 e2 => ?_
    refine skipS e2 rfl (by decide +kernel) fun H3 e3 => ?_
    refine skipS e3 rfl (by decide +kernel) fun H4 e4 => ?_
    refine takeS e4 rfl (by decide +kernel) fun H5 e5 => ?_
    exact s_ret (ev_isInt (ev_var rfl) (hu.keep (Kt.same e5)) hj (by omega)) fun H9 e9 => q H9 (e5.trans e9)
  | different =>
    rw [Cd.data] at hv
    obtain ⟨a, x, rfl, hs, hx⟩ := hv.g1
    cases hx.str_inv
    refine q_asg (ev_ixT (j := 0) (ev_var rfl) ev_c hs rfl) fun H1 e1 => ?_
    refine skipT e1 rfl (ea_cons ev_c (ea_cons ev_c ea_nil)) (by show 2 ≤ 100000; decide) rfl (by decide +kernel) fun H2 e2 => ?_
    refine skipS e2 rfl (by decide +kernel) fun H3 e3 => ?_
    refine skipS e3 rfl (by decide +kernel) fun H4 e4 => ?_
    refine skipS e4 rfl (by decide +kernel) fun H5 e5 => ?_
    exact s_ret (ev_is (ev_op (ev_var rfl) ev_c (rv_eq rfl)) (by rw [decide_eq_true rfl]; rfl)) fun H9 e9 => q H9 (e5.trans e9)
end
end K2
namespace K2
open PySem PySem.Spec PyProof.Rows L2 Evl Cr
section
variable {P : Program} {w : World} {K : PySem.W.Frag} {mg : Str → Option Value} {base : Heap}
abbrev s__law_cell : Stmt := topS 10
abbrev N__law_cell : List Str := ["script", "k"]
theorem sc__law_cell : FnScope N__law_cell ["script", "k"] (defScope s__law_cell) := ⟨rfl, rfl, rfl, by decide +kernel, rfl, by decide +kernel, by decide +kernel⟩
theorem ok__law_cell {f : Addr} {fd : FuncData} {k : Nat} (T : Tx mg) (F : Fun K "_law_cell" "_law_cell" s__law_cell f fd) : FnOk P w K mg base CX0 (k + 1) f fd ["script", "k"] (spCell K) := by
  refine F.ok sc__law_cell (fun vs H Q E h => ?_) (fun cdv A outer s H vs Q E hr h => ?_)
  · obtain ⟨a, ns, j, rfl, _⟩ := h
    rfl
  obtain ⟨a, ns, j, rfl, ha, q⟩ := h
  refine ⟨_, (pss_cons (ps_if (pt_cmpR op_lt (pv 1) (pe_callB call_len_seq (by rfl) T.z_len PySem.boot_len (pa_cons (pv 0) pa_nil)) (nomark _)) (pss_one (ps_ret (pe_ix (r := rIxL K) ix_list (pv 0) (pv 1) (fun _ _ => rfl)))) pss_nil)
      (pss_one (ps_ret pe_int))), ?_⟩
  refine q_when (et_test (ev_op (ev_var rfl) (ev_lenL (ev_var rfl) ha) rv_I0)) (fun hb H1 e1 => ?_) (fun hb H1 e1 => ?_)
  · have hlt : j < ns.length := by
      have h := of_decide_eq_true hb
      rw [List.length_map] at h
      omega
    have hx : (ns.map V.int)[j]? = some (.int ns[j]) := by
      rw [List.getElem?_map, List.getElem?_eq_getElem hlt]
      rfl
    exact s_ret (ev_ixL (j := j) (ev_var rfl) (ev_var rfl) (ex_l e1 ha) hx) fun H2 e2 => q _ H2 (e1.trans e2)
  · exact s_ret ev_c fun H2 e2 => q _ H2 (e1.trans e2)
abbrev s__law_draw : Stmt := topS 11
abbrev N__law_draw : List Str := ["script", "k", "sizes", "cell", "drawn", "size", "stirred", "j"]
theorem sc__law_draw : FnScope N__law_draw ["script", "k", "sizes"] (defScope s__law_draw) := ⟨rfl, rfl, rfl, by decide +kernel, rfl, by decide +kernel, by decide +kernel⟩
theorem ok__law_draw {f : Addr} {fd : FuncData} (T : Tx mg) (F : Fun K "_law_draw" "_law_draw" s__law_draw f fd) (c__law_cell : Cl P w K mg base "_law_cell" ["script", "k"] 1 (spCell K)) : FnOk P w K mg base CX0 2 f fd ["script", "k", "sizes"] (spDraw K) := by
  refine F.ok sc__law_draw (fun vs H Q E h => ?_) (fun cdv A outer s H vs Q E hr h => ?_)
  · obtain ⟨a, b, ns, ms, j, rfl, _⟩ := h
    rfl
  obtain ⟨a, b, ns, ms, k, rfl, ha, hb, hm, hms, q⟩ := h
  refine ⟨_, (pss_cons (ps_set (i := 3) sc__law_draw.nd rfl (Or.inl rfl) (pe_call c__law_cell.ok (hr.mono (by omega)) (by rfl) c__law_cell.m c__law_cell.kp c__law_cell.b .nil pass0 (pa_cons (pv 0) (pa_cons (pv 1) pa_nil))))
      (pss_cons (ps_if (pt_cmpR op_lt (pv 3) pe_int (nomark _)) (pss_one (ps_set (i := 3) sc__law_draw.nd rfl (Or.inl rfl) (pe_un un_neg (pv 3)))) pss_nil)
      (pss_cons (ps_set (i := 4) sc__law_draw.nd rfl (Or.inl rfl) (pe_lst pa_nil))
      (pss_cons (ps_if (pt_cmpR op_ge (pv 3) (pe_op op_pow pe_int pe_int) (nomark _)) (pss_cons (ps_set (i := 3) sc__law_draw.nd rfl (Or.inl rfl) (pe_op op_sub (pv 3) (pe_op op_pow pe_int pe_int)))
        (pss_cons (ps_for PassesOwn.never rfl (pi_list (pv 2)) (pg_name (i := 5) sc__law_draw.nd rfl (Or.inl rfl)) (pss_cons (ps_expr (pe_bm PySem.F.plainAttrs_list PySem.F.slot_list_append PySem.F.type_list_append mt_append (pv 4) (pa_cons (pe_op op_mod (pv 3) (pv 5)) pa_nil)))
          (pss_one (ps_set (i := 3) sc__law_draw.nd rfl (Or.inl rfl) (pe_op op_fdiv (pv 3) (pv 5))))))
        (pss_one (ps_ret (pv 4))))) pss_nil)
      (pss_cons (ps_set (i := 6) sc__law_draw.nd rfl (Or.inl rfl) (pe_op op_mod (pe_op op_add (pe_op op_add (pv 3) pe_int) (pe_op op_mul pe_int (pv 1))) pe_int))
      (pss_cons (ps_for PassesOwn.never rfl (pi_range1 (by rfl) T.z_range (pa_cons (pe_callB call_len_seq (by rfl) T.z_len PySem.boot_len (pa_cons (pv 2) pa_nil)) pa_nil)) (pg_name (i := 7) sc__law_draw.nd rfl (Or.inl rfl)) (pss_cons (ps_set (i := 6) sc__law_draw.nd rfl (Or.inl rfl) (pe_op op_mod (pe_op op_add (pe_op op_add (pe_op op_mul (pv 6) pe_int) pe_int) (pv 7)) pe_int))
        (pss_cons (ps_set (i := 6) sc__law_draw.nd rfl (Or.inl rfl) (pe_op op_mod (pe_op op_add (pe_op op_mul (pv 6) pe_int) pe_int) pe_int))
        (pss_one (ps_expr (pe_bm PySem.F.plainAttrs_list PySem.F.slot_list_append PySem.F.type_list_append mt_append (pv 4) (pa_cons (pe_op op_mod (pe_op op_fdiv (pv 6) pe_int) (pe_ix (r := rIxL K) ix_list (pv 2) (pv 7) (fun _ _ => rfl))) pa_nil)))))))
      (pss_one (ps_ret (pv 4))))))))), ?_⟩
  -- cell = _law_cell(script, k)
  refine ⟨_, rfl, _, rfl, a, ns, k, rfl, ha, fun c H1 e1 => ?_⟩
  refine q_ifAsg (b := decide (c < 0)) (v := .int (if c < 0 then -c else c)) (et_test (ev_op (ev_var rfl) ev_c rv_I0)) (fun hc => ev_is (ev_un (ev_var rfl) ru_neg) (by rw [if_pos (of_decide_eq_true hc)])) (fun hc => by rw [if_neg (of_decide_eq_false hc)]; rfl) fun H2 e2' => ?_
  have e2 := e1.trans e2'
  generalize (if c < 0 then -c else c) = c
  -- drawn = []
  refine q_asgL (el_lst ea_nil (by decide)) fun p H3 hp3 e3 h3 => ?_
  have hp : H p = none := Same.free e2 hp3
  have e03 : Same H H3 := e2.trans e3
  have fin : ∀ (acc : List Int) H', Same H H' → H' p = some (.lst (acc.map V.int)) → acc.length = ms.length → Q (.ref p) H' := fun acc H' e h hl => q p acc H' e hp h hl
  refine q_when (et_test (ev_op (ev_var rfl) (ev_op ev_c ev_c (rv_I ⟨by decide, by decide, by decide⟩)) rv_I0)) (fun _ H4 e4 => ?_) (fun _ H4 e4 => ?_)
  · refine q_asg (ev_op (ev_var rfl) (ev_op ev_c ev_c (rv_I ⟨by decide, by decide, by decide⟩)) rv_I0) fun H5 e5 => ?_
    have e05 := e03.trans (e4.trans e5)
    refine q_forLn (a := b) (xs := ms.map V.int) (ev_var rfl) (ex_l e05 hb) (fun i σ' H' => ∃ (c : Int) (z : Option V) (acc : List Int), σ' = [some (.ref a), some (.int (k : Int)), some (.ref b), some (.int c), some (.ref p), z, none, none] ∧ Same H H' ∧ H' p = some (.lst (acc.map V.int)) ∧ acc.length = i)
      (fun H6 e6 => ⟨_, none, [], rfl, e05.trans e6, e6 _ _ (e5 _ _ (e4 _ _ h3)), rfl⟩) (fun i σ' H' _ ⟨_, _, _, _, e, _, _⟩ => ex_l e hb) (fun i x σ' H' hx hP => ?_) (fun σ' H' hP => ?_)
    · obtain ⟨c', z, acc, rfl, e, hpl, hl⟩ := hP
      obtain ⟨m, hmi, rfl⟩ := map_int hx
      have him := (List.getElem?_eq_some_iff.mp hmi).1
      obtain ⟨m0, m1⟩ := hms m (List.mem_of_getElem? hmi)
      refine q_app hpl (ev_var rfl) (ev_op (ev_var rfl) (ev_var rfl) (rv_I m0)) (by rw [List.length_map]; omega) fun H7 e7 => ?_
      refine s_asg (ev_op (ev_var rfl) (ev_var rfl) (rv_I ⟨m0, m1⟩)) fun H8 e8 => ⟨_, _, acc ++ [c' % m], rfl, ?_, ?_, ?_⟩
      · exact (same_mut (e.trans e7) hp).trans e8
      · exact e8 _ _ (by rw [upd_same, List.map_append]; rfl)
      · rw [List.length_append, hl]; rfl
    · obtain ⟨c', z, acc, rfl, e, hpl, hl⟩ := hP
      exact s_ret (ev_var rfl) fun H9 e9 => fin acc H9 (e.trans e9) (e9 _ _ hpl) (by rw [hl, List.length_map])
  · refine q_asg (ev_op (ev_op (ev_op (ev_var rfl) ev_c rv_I0) (ev_op ev_c (ev_var rfl) (rv_I (.inl ⟨by decide, by decide⟩))) rv_I0) ev_c (rv_I (by decide))) fun H5 e5 => ?_
    have e05 := e03.trans (e4.trans e5)
    refine q_forR1 (n := ((ms.map V.int).length : Int)) (ea_cons (ev_lenL (ev_var rfl) (ex_l e05 hb)) ea_nil) (by rw [List.length_map]; omega) (fun i σ' H' => ∃ (c : Int) (z : Option V) (acc : List Int), σ' = [some (.ref a), some (.int (k : Int)), some (.ref b), σ'.getD 3 none, some (.ref p), none, some (.int c), z] ∧ Same H H' ∧ H' p = some (.lst (acc.map V.int)) ∧ acc.length = i)
      (fun H6 e6 => ⟨_, none, [], rfl, e05.trans e6, e6 _ _ (e5 _ _ (e4 _ _ h3)), rfl⟩) (fun i σ' H' hi hP => ?_) (fun σ' H' hP => ?_)
    · obtain ⟨c', z, acc, hσ, e, hpl, hl⟩ := hP
      rw [List.length_map] at hi
      generalize σ'.getD 3 none = y at hσ
      subst hσ
      have hmi : ms[i]? = some ms[i] := List.getElem?_eq_getElem (by omega)
      obtain ⟨m0, m1⟩ := hms ms[i] (List.mem_of_getElem? hmi)
      have hx : (ms.map V.int)[i]? = some (.int ms[i]) := by rw [List.getElem?_map, hmi]; rfl
      refine q_asg (ev_op (ev_op (ev_op (ev_op (ev_var rfl) ev_c (rv_I (.inr ⟨by decide, by decide⟩))) ev_c rv_I0) (ev_var rfl) rv_I0) ev_c (rv_I (by decide))) fun H7 e7 => ?_
      refine q_asg (ev_op (ev_op (ev_op (ev_var rfl) ev_c (rv_I (.inr ⟨by decide, by decide⟩))) ev_c rv_I0) ev_c (rv_I (by decide))) fun H8 e8 => ?_
      have e78 := e7.trans e8
      refine s_app (e78 _ _ hpl) (ev_var rfl) (ev_op (ev_op (ev_var rfl) ev_c (rv_I ⟨by decide, by decide⟩)) (ev_ixL (j := i) (ev_var rfl) (ev_var rfl) (ex_l (e.trans e78) hb) hx) (rv_I m0)) (by rw [List.length_map]; omega) fun H9 e9 => ⟨_, _, acc ++ [((c' * 48271 + 11 + (i : Int)) % 2147483647 * 69621 + 3) % 2147483647 / 7 % ms[i]], rfl, ?_, ?_, ?_⟩
      · exact same_mut ((e.trans e78).trans e9) hp
      · rw [upd_same, List.map_append]; rfl
      · rw [List.length_append, hl]; rfl
    · obtain ⟨c', z, acc, hσ, e, hpl, hl⟩ := hP
      rw [hσ]
      exact s_ret (ev_var rfl) fun H9 e9 => fin acc H9 (e.trans e9) (e9 _ _ hpl) (by rw [hl, List.length_map]; rfl)
abbrev s__law_box : Stmt := topS 12
abbrev N__law_box : List Str := ["script", "k"]
theorem sc__law_box : FnScope N__law_box ["script", "k"] (defScope s__law_box) := ⟨rfl, rfl, rfl, by decide +kernel, rfl, by decide +kernel, by decide +kernel⟩
theorem ok__law_box {f : Addr} {fd : FuncData} (T : Tx mg) (F : Fun K "_law_box" "_law_box" s__law_box f fd) (c__law_draw : Cl P w K mg base "_law_draw" ["script", "k", "sizes"] 2 (spDraw K)) : FnOk P w K mg base CX0 3 f fd ["script", "k"] (spBox K) := by
  refine F.ok sc__law_box (fun vs H Q E h => ?_) (fun cdv A outer s H vs Q E hr h => ?_)
  · obtain ⟨a, ns, j, rfl, _⟩ := h
    rfl
  obtain ⟨a, ns, k, rfl, ha, q⟩ := h
  refine ⟨_, (pss_one (ps_ret (pe_lst (pa_cons (pe_op op_cat (pe_call c__law_draw.ok (hr.mono (by omega)) (by rfl) c__law_draw.m c__law_draw.kp c__law_draw.b .nil pass0 (pa_cons (pv 0) (pa_cons (pv 1) (pa_cons (pe_op op_rep (pe_lst (pa_cons pe_int pa_nil)) pe_int) pa_nil)))) (pe_call c__law_draw.ok (hr.mono (by omega)) (by rfl) c__law_draw.m c__law_draw.kp c__law_draw.b .nil pass0 (pa_cons (pv 0) (pa_cons (pe_op op_add (pv 1) pe_int) (pa_cons (pe_op op_rep (pe_lst (pa_cons pe_int pa_nil)) pe_int) pa_nil))))) (pa_cons pe_int pa_nil))))), ?_⟩
  -- the first draw
  refine ⟨_, rfl, _, rfl, by decide, fun p1 h1 => ⟨p1, 20, [.int 97], rfl, rfl, upd_same, by decide, by decide, by decide, fun p2 h2 => ?_⟩⟩
  have e2 : Same H (upd (upd H p1 (.lst [.int 97])) p2 (.lst (List.replicate (Int.toNat 20) [V.int 97]).flatten)) := (same_new h1).trans (same_new h2)
  refine ⟨a, p2, ns, List.replicate 20 97, k, rfl, e2.seq ha, .of (by rw [upd_same, rep97]), by decide, m97, fun p3 xs H3 e3 _ h3 l3 => ?_⟩
  have e03 := e2.trans e3
  -- the second one
  refine ⟨_, rfl, _, rfl, _, _, rfl, rfl, by decide, fun p4 h4 => ⟨p4, 20, [.int 97], rfl, rfl, upd_same, by decide, by decide, by decide, fun p5 h5 => ?_⟩⟩
  have e5 : Same H3 (upd (upd H3 p4 (.lst [.int 97])) p5 (.lst (List.replicate (Int.toNat 20) [V.int 97]).flatten)) := (same_new h4).trans (same_new h5)
  refine ⟨a, p5, ns, List.replicate 20 97, k + 1, rfl, (e03.trans e5).seq ha, .of (by rw [upd_same, rep97]), by decide, m97, fun p6 ys H6 e6 _ h6 l6 => ?_⟩
  have e36 := e5.trans e6
  refine ⟨p3, p6, _, _, rfl, rfl, e36 _ _ h3, h6, ?_, fun p7 h7 => ⟨(by show 2 ≤ sizeLine; decide), fun p8 h8 => ?_⟩⟩
  · rw [List.length_map, List.length_map, l3, l6]
    decide
  · have e68 := (same_new (o := .lst (xs.map V.int ++ ys.map V.int)) h7).trans (same_new (o := .lst [.ref p7, .int 0]) h8)
    have n8 : p7 ≠ p8 := fun e => by rw [← e, upd_same] at h8; cases h8
    refine q p8 p7 _ ((e03.trans e36).trans e68) (Same.free (e03.trans (e36.trans (same_new h7))) h8) ⟨xs ++ ys, 0, upd_same, ?_, n8⟩
    rw [upd_ne n8, upd_same, List.map_append]
abbrev s__law_take : Stmt := topS 13
abbrev N__law_take : List Str := ["box", "many", "at"]
theorem sc__law_take : FnScope N__law_take ["box", "many"] (defScope s__law_take) := ⟨rfl, rfl, rfl, by decide +kernel, rfl, by decide +kernel, by decide +kernel⟩
theorem ok__law_take {f : Addr} {fd : FuncData} (T : Tx mg) (F : Fun K "_law_take" "_law_take" s__law_take f fd) : FnOk P w K mg base CX0 1 f fd ["box", "many"] spTake := by
  refine F.ok sc__law_take (fun vs H Q E h => ?_) (fun cdv A outer s H vs Q E hr h => ?_)
  · obtain ⟨b, d, m, rfl, _⟩ := h
    rfl
  obtain ⟨b, d, m, rfl, hB, hm, q⟩ := h
  refine ⟨_, (pss_cons (ps_set (i := 2) sc__law_take.nd rfl (Or.inl rfl) (pe_ix (r := rIxL K) ix_list (pv 0) pe_int (fun _ _ => rfl)))
      (pss_cons (ps_asg (pe_op op_add (pv 2) pe_int) (pg_sub (pv 0) pe_int set_list))
      (pss_cons (ps_if (pt_cmpR op_lt (pv 2) (pe_callB call_len_seq (by rfl) T.z_len PySem.boot_len (pa_cons (pe_ix (r := rIxL K) ix_list (pv 0) pe_int (fun _ _ => rfl)) pa_nil)) (nomark _)) (pss_one (ps_ret (pe_op op_mod (pe_ix (r := rIxL K) ix_list (pe_ix (r := rIxL K) ix_list (pv 0) pe_int (fun _ _ => rfl)) (pv 2) (fun _ _ => rfl)) (pv 1)))) pss_nil)
      (pss_one (ps_ret pe_int))))), ?_⟩
  obtain ⟨ns, i, h1, h2, h3⟩ := hB
  refine q_asg (ev_ixL (j := 1) (ev_var rfl) ev_c (.of h1) rfl) fun H1 e1 => ?_
  refine q_setL (j := 1) (e1 _ _ h1) (ev_op (ev_var rfl) ev_c rv_I0) (ev_var rfl) ev_c (by show 1 < 2; decide) fun H2 e2 => ?_
  have hbox : upd H2 b (.lst [.ref d, .int ((i : Int) + 1)]) b = some (.lst [.ref d, .int ((i : Int) + 1)]) := upd_same
  have hd : upd H2 b (.lst [.ref d, .int ((i : Int) + 1)]) d = some (.lst (ns.map V.int)) := by rw [upd_ne h3]; exact e2 _ _ (e1 _ _ h2)
  have mv : Mv b d H (upd H2 b (.lst [.ref d, .int ((i : Int) + 1)])) := ⟨fun a o ne h => by rw [upd_ne ne]; exact e2 _ _ (e1 _ _ h), ns, i + 1, upd_same, hd, h3⟩
  refine q_when (b := decide ((i : Int) < ((ns.map V.int).length : Int))) (et_test (ev_op (ev_var rfl) (ev_lenL (ev_ixL (j := 0) (ev_var rfl) ev_c (.of hbox) rfl) (.of hd)) rv_I0)) (fun hb H3 e3 => ?_) (fun hb H3 e3 => ?_)
  · have hlt : i < ns.length := by
      have h := of_decide_eq_true hb
      rw [List.length_map] at h
      omega
    have hx : (ns.map V.int)[i]? = some (.int ns[i]) := by
      rw [List.getElem?_map, List.getElem?_eq_getElem hlt]
      rfl
    refine s_ret (ev_op (ev_ixL (j := i) (ev_ixL (j := 0) (ev_var rfl) ev_c (.of (e3 _ _ hbox)) rfl) (ev_var rfl) (.of (e3 _ _ hd)) hx) (ev_var rfl) (rv_I hm)) fun H4 e4 => q _ H4 (Int.emod_nonneg _ (by omega)) (Int.emod_lt_of_pos _ hm) (mv.ext (e3.trans e4))
  · exact s_ret ev_c fun H4 e4 => q _ H4 (Int.le_refl _) hm (mv.ext (e3.trans e4))
abbrev s__law_kind : Stmt := topS 14
abbrev N__law_kind : List Str := ["box", "depth", "which", "j"]
theorem sc__law_kind : FnScope N__law_kind ["box", "depth"] (defScope s__law_kind) := ⟨rfl, rfl, rfl, by decide +kernel, rfl, by decide +kernel, by decide +kernel⟩
theorem ok__law_kind {f : Addr} {fd : FuncData} {N : Nat} (T : Tx mg) (F : Fun K "_law_kind" "_law_kind" s__law_kind f fd) (c__law_take : Cl P w K mg base "_law_take" ["box", "many"] 1 spTake)
    (c__law_kind : Cl P w K mg base "_law_kind" ["box", "depth"] (N + 1) (spLKind2 K N)) : FnOk P w K mg base CX0 (N + 1 + 1) f fd ["box", "depth"] (spLKind2 K (N + 1)) := by
  refine F.ok sc__law_kind (fun vs H Q E h => ?_) (fun cdv A outer s H vs Q E hr h => ?_)
  · obtain ⟨b, d, n, rfl, _⟩ := h
    rfl
  obtain ⟨b, d, n, rfl, hB, hn, q⟩ := h
  refine ⟨_, (pss_cons (ps_set (i := 2) sc__law_kind.nd rfl (Or.inl rfl) (pe_call c__law_take.ok (hr.mono (by omega)) (by rfl) c__law_take.m c__law_take.kp c__law_take.b .nil pass0 (pa_cons (pv 0) (pa_cons pe_int pa_nil))))
      (pss_cons (ps_if (PW.pt (pw_or (pt_cmpR op_eq (pv 1) pe_int (nomark _)) (pw_or1 (pt_cmpR op_lt (pv 2) pe_int (nomark _))))) (pss_one (ps_ret (pe_ix (r := rIxL K) ix_list (pe_lst (pa_cons pe_str (pa_cons pe_str pa_nil))) (pe_op op_fdiv (pe_call c__law_take.ok (hr.mono (by omega)) (by rfl) c__law_take.m c__law_take.kp c__law_take.b .nil pass0 (pa_cons (pv 0) (pa_cons pe_int pa_nil))) pe_int) (fun _ _ => rfl)))) pss_nil)
      (pss_cons (ps_if (pt_cmpR op_lt (pv 2) pe_int (nomark _)) (pss_one (ps_ret (pe_tup (pa_cons pe_str (pa_cons (pe_call c__law_kind.ok (hr.mono (by omega)) (by rfl) c__law_kind.m c__law_kind.kp c__law_kind.b .nil pass0 (pa_cons (pv 0) (pa_cons (pe_op op_sub (pv 1) pe_int) pa_nil))) pa_nil))))) pss_nil)
      (pss_one (ps_ret (pe_tup (pa_cons pe_str (pa_cons (pe_callTy call_tuple_of (by rfl) T.z_tuple (by decide +kernel) (pa_cons (pe_lc (own := [("j", 3)]) (g := gName 3) (by rfl) sc__law_kind.nd (pi_range1 (by rfl) T.z_range (pa_cons (pe_op op_add pe_int (pe_call c__law_take.ok (hr.mono (by omega)) (by rfl) c__law_take.m c__law_take.kp c__law_take.b .nil pass0 (pa_cons (pv 0) (pa_cons pe_int pa_nil)))) pa_nil)) (blkOk_by (own := [("j", 3)]) (N := N__law_kind) (sc := defScope s__law_kind) (by decide +kernel)) (fun _ _ _ _ _ => (pg_name (i := 3) sc__law_kind.nd rfl (Or.inl rfl))) (fun _ _ _ _ _ => pts_nil) (fun _ _ _ _ _ => (pe_call c__law_kind.ok (hr.mono (by omega)) (by rfl) c__law_kind.m c__law_kind.kp c__law_kind.b .nil pass0 (pa_cons (pv 0) (pa_cons pe_int pa_nil))))) pa_nil)) pa_nil)))))))), ?_⟩
  -- which
  refine ⟨_, rfl, b, d, 6, rfl, hB, by decide, fun r H1 r0 r1 m1 => ?_⟩
  refine q_when (b := decide (V.int (n : Int) = V.int 0) || decide (r < 2)) (et_or (et_test (ev_op (ev_var rfl) ev_c (rv_eq rfl))) (fun _ => et_test (ev_op (ev_var rfl) ev_c rv_I0))) (fun hb H2 e2 => ?_) (fun hb H2 e2 => ?_)
  · have m2 := m1.ext e2
    refine ⟨by decide, fun p hp => ?_⟩
    have m3 := m2.new (o := .lst [.str "int", .str "word"]) hp
    have npb : p ≠ b := (m2.2.neb hp).1
    refine ⟨_, rfl, b, d, 3, rfl, m3.2, by decide, fun x H4 x0 x1 m4 => ⟨x, 2, rfl, rfl, ⟨by decide, by decide⟩, ?_⟩⟩
    have hl : SqL K H4 p [.str "int", .str "word"] := m4.sql npb (.of upd_same)
    rcases (by omega : x / 2 = 0 ∨ x / 2 = 1) with hx | hx
    · exact ⟨p, _, x / 2, .str "int", rfl, rfl, hl, (by rw [hx]; rfl), q _ .int H4 (m3.trans m4) (by rw [Kd.data]; exact .str _) .int .int⟩
    · exact ⟨p, _, x / 2, .str "word", rfl, rfl, hl, (by rw [hx]; rfl), q _ .word H4 (m3.trans m4) (by rw [Kd.data]; exact .str _) .word .word⟩
  · have m2 := m1.ext e2
    have hn0 : n ≠ 0 := by
      intro e
      subst e
      rw [decide_eq_true (by rfl)] at hb
      cases hb
    refine q_when (et_test (ev_op (ev_var rfl) ev_c rv_I0)) (fun _ H3 e3 => ?_) (fun _ H3 e3 => ?_)
    · have m3 := m2.ext e3
      have en : (n : Int) - 1 = ((n - 1 : Nat) : Int) := by omega
      refine ⟨_, rfl, _, rfl, _, _, rfl, rfl, b, d, n - 1, (by rw [← en]; rfl), m3.2, by omega, fun v kd H4 m4 hv hk hne => ⟨(by show 2 ≤ sizeLine; decide), fun p hp => ?_⟩⟩
      have hk' : OkK n kd := by
        have e : n - 1 + 1 = n := by omega
        rw [e] at hk
        exact hk
      refine q _ (.lst kd) _ ((m3.trans m4).new hp) ?_ (.lst hk') (.lst hne)
      rw [Kd.data]
      exact .t2 (.of upd_same) (.str _) (hv.keep (Kt.new hp))
    · have m3 := m2.ext e3
      refine ⟨_, rfl, b, d, 2, rfl, m3.2, by decide, fun x H4 x0 x1 m4 => ⟨1, x, rfl, rfl, 1 + x, rfl, by omega, by omega, fun D hD => ?_⟩⟩
      have m34 := m3.trans m4
      have nDb : D ≠ b := (m34.2.neb hD).1
      refine lc_range (lo := 0) (n := (1 + x).toNat) (fun i H' => ∃ (vs : List V) (ks : List Kd), H' D = some (.lst vs) ∧ vs.length = i ∧ Vds K H' vs (ks.map Kd.data) ∧ (∀ k ∈ ks, OkK 1 k ∧ NeK k) ∧ Mv b d H4 H') ⟨[], [], upd_same, rfl, .nil, fun _ h => (nomatch h), (Mv.refl m34.2).new hD⟩ (fun i H5 hi hP => ⟨rfl, ?_⟩) (fun H5 hP => ?_)
      · obtain ⟨vs, ks, hDv, hl, hvs, hks, m5⟩ := hP
        refine ⟨_, rfl, b, d, 0, rfl, m5.2, by omega, fun v kd H6 m6 hv hk hne => ⟨vs, m6.1 _ _ nDb hDv, small1000 (by omega), vs ++ [v], ks ++ [kd], upd_same, by rw [List.length_append, hl]; rfl, ?_, ?_, (m5.trans m6).mut m34.2 hD⟩⟩
        · rw [List.map_append]
          have hk6 : Kt K H6 (upd H6 D (.lst (vs ++ [v]))) := Kt.lst (m6.1 _ _ nDb hDv)
          exact ((hvs.keep (m6.kt m5.2)).snoc hv).keep hk6
        · intro k hk1
          rcases List.mem_append.mp hk1 with h | h
          · exact hks k h
          · cases List.mem_singleton.mp h
            exact ⟨hk, hne⟩
      · obtain ⟨vs, ks, hDv, hl, hvs, hks, m5⟩ := hP
        refine ⟨D, vs, rfl, .inl ⟨.of hDv, fun l hl' => ⟨(by show 2 ≤ sizeLine; decide), fun p hp => ?_⟩⟩⟩
        have e5 := (same_new (o := .tup vs) hl').trans (same_new (o := .tup [.str "tuple", .ref l]) hp)
        refine q _ (.tup ks) _ ((m34.trans m5).ext e5) ?_ (.tup (by have h := hvs.1; rw [List.length_map] at h; omega) fun k hk => (hks k hk).1.mono (by omega)) (.tup (by have h := hvs.1; rw [List.length_map] at h; omega) fun k hk => (hks k hk).2)
        rw [Kd.data, dataAll_map]
        exact .t2 (.of upd_same) (.str _) ((hvs.keep (Kt.same e5)).tup (ex_t (same_new hp) (.of upd_same)))
abbrev s__law_isword : Stmt := topS 16
abbrev N__law_isword : List Str := ["word", "sign"]
theorem sc__law_isword : FnScope N__law_isword ["word"] (defScope s__law_isword) := ⟨rfl, rfl, rfl, by decide +kernel, rfl, by decide +kernel, by decide +kernel⟩
theorem ok__law_isword {f : Addr} {fd : FuncData} {k : Nat} (T : Tx mg) (F : Fun K "_law_isword" "_law_isword" s__law_isword f fd) : FnOk P w K mg base CX0 (k + 1) f fd ["word"] spLWord := by
  refine F.ok sc__law_isword (fun vs H Q E h => ?_) (fun cdv A outer s H vs Q E hr h => ?_)
  · obtain ⟨z, rfl, _⟩ := h
    rfl
  obtain ⟨z, rfl, hz, hs, q⟩ := h
  refine ⟨_, (pss_one (ps_ret (pe_and (pe_chain op_le op_le pe_int (pe_callB call_len_str (by rfl) T.z_len PySem.boot_len (pa_cons (pv 0) pa_nil)) pe_int) (pe_one (pe_cmpR (op_eqD hr.units) (pe_lc (own := [("sign", 1)]) (g := gName 1) (by rfl) sc__law_isword.nd (pi_str (pv 0)) (blkOk_by (own := [("sign", 1)]) (N := N__law_isword) (sc := defScope s__law_isword) (by decide +kernel)) (fun _ _ _ _ _ => (pg_name (i := 1) sc__law_isword.nd rfl (Or.inl rfl))) (fun _ _ _ _ _ => pts_one (pt_cmpR op_notIn_sign (pv 1) pe_str rfl)) (fun _ _ _ _ _ => (pv 1))) (pe_lst pa_nil) (nomark _)))))), ?_⟩
  have hat : ∀ {i c : Nat}, z.cps[i]? = some c → z.cps.toList.getD i 0 = c := fun {i c} hc => by
    rw [List.getD_eq_getElem?_getD, Array.getElem?_toList, hc]
    rfl
  refine s_ret (v := .bl (isWord z)) (ev_is (ev_andV (ev_chain ev_c (ev_lenS hz (ev_var rfl)) ev_c rv_I0 rv_I0) fun _ => ev_one (ev_nil (m := 0) (by omega) (el_lcS (fun i => !decide (z.cps.toList.getD i 0 ∈ ("abcdefghijklmnopqrstuvwxyz" : Str).cps.toList)) (fun i => .str ⟨#[z.cps.toList.getD i 0]⟩) (ev_var rfl) (Nat.le_trans hz (by decide)) (fun _ => rfl)
    (fun i c H1 _ hc => et_is (et_test (ev_op (ev_var rfl) ev_c (rv_val fun H1 e Q k => ⟨c, _, rfl, rfl, k⟩))) (by rw [hat hc])) (fun i c H1 _ hc _ => ev_is (ev_var rfl) (by rw [hat hc]))) (fun x hx H1 _ => ?_))) ?_) fun H1 e => q H1 e
  · obtain ⟨i, hi, _, rfl⟩ := mem_given hx
    have hc : z.cps[i]? = some z.cps[i] := Array.getElem?_eq_getElem hi
    rw [hat hc]
    exact ⟨_, .str _, .str (sign_shaped hs hc) (by show 1 ≤ 1000; decide)⟩
  · rw [given_empty]
    have e : ((List.range z.cps.size).map fun i => !!decide (z.cps.toList.getD i 0 ∈ ("abcdefghijklmnopqrstuvwxyz" : Str).cps.toList)) = (List.range z.cps.size).map fun i => (fun c => decide (97 ≤ c) && decide (c ≤ 122)) (z.cps.toList.getD i 0) := List.map_congr_left fun i _ => abc_sign _
    rw [e]
    exact congrArg (fun t => V.bl ((decide ((1 : Int) ≤ (z.length : Int)) && decide ((z.length : Int) ≤ 8)) && t)) (all_signs z fun c => decide (97 ≤ c) && decide (c ≤ 122))
abbrev s__law_fits : Stmt := topS 17
abbrev N__law_fits : List Str := ["limit", "kind", "word"]
theorem sc__law_fits : FnScope N__law_fits ["limit", "kind"] (defScope s__law_fits) := ⟨rfl, rfl, rfl, by decide +kernel, rfl, by decide +kernel, by decide +kernel⟩
theorem ok__law_fits {f : Addr} {fd : FuncData} {n : Nat} (T : Tx mg) (F : Fun K "_law_fits" "_law_fits" s__law_fits f fd) (c__law_isword : Cl P w K mg base "_law_isword" ["word"] 1 spLWord) (c__law_fits : Cl P w K mg base "_law_fits" ["limit", "kind"] (n + 1) (spFits K n)) : FnOk P w K mg base CX0 (n + 1 + 1) f fd ["limit", "kind"] (spFits K (n + 1)) := by
  refine F.ok sc__law_fits (fun vs H Q E h => ?_) (fun cdv A outer s H vs Q E hr h => ?_)
  · obtain ⟨v, u, c, k, rfl, _⟩ := h
    rfl
  obtain ⟨v, u, c, k, rfl, hv, hc, hu, hk, q⟩ := h
  refine ⟨_, (pss_cons (ps_set (i := 2) sc__law_fits.nd rfl (Or.inl rfl) (pe_ix (r := rIxT K) ix_tup (pv 0) pe_int (fun _ _ => rfl)))
      (pss_cons (ps_if (pt_cmpR op_eq (pv 2) pe_str (nomark _)) (pss_one (ps_ret (pe_call c__law_fits.ok (hr.mono (by omega)) (by rfl) c__law_fits.m c__law_fits.kp c__law_fits.b .nil pass0 (pa_cons (pe_ix (r := rIxT K) ix_tup (pv 0) pe_int (fun _ _ => rfl)) (pa_cons (pv 1) pa_nil))))) pss_nil)
      (pss_cons (ps_if (pt_cmpR op_in_seq (pv 2) (pe_lst (pa_cons pe_str (pa_cons pe_str pa_nil))) (by rfl)) (pss_one (ps_ret (pe_and (pe_call c__law_fits.ok (hr.mono (by omega)) (by rfl) c__law_fits.m c__law_fits.kp c__law_fits.b .nil pass0 (pa_cons (pe_ix (r := rIxT K) ix_tup (pv 0) pe_int (fun _ _ => rfl)) (pa_cons (pv 1) pa_nil))) (pe_one (pe_call c__law_fits.ok (hr.mono (by omega)) (by rfl) c__law_fits.m c__law_fits.kp c__law_fits.b .nil pass0 (pa_cons (pe_ix (r := rIxT K) ix_tup (pv 0) pe_int (fun _ _ => rfl)) (pa_cons (pv 1) pa_nil))))))) pss_nil)
      (pss_cons (ps_if (pt_cmpR op_eq (pv 2) pe_str (nomark _)) (pss_one (ps_ret (pe_cmpR (op_eqD hr.units) (pv 1) pe_str (nomark _)))) pss_nil)
      (pss_cons (ps_if (pt_cmpR op_eq (pv 2) pe_str (nomark _)) (pss_one (ps_ret (pe_and (pe_cmpR (op_eqD hr.units) (pv 1) pe_str (nomark _)) (pe_one (pe_chain op_le op_le pe_int (pe_ix (r := rIxT K) ix_tup (pv 0) pe_int (fun _ _ => rfl)) pe_int))))) pss_nil)
      (pss_cons (ps_if (pt_cmpR op_eq (pv 2) pe_str (nomark _)) (pss_one (ps_ret (pe_and (pe_cmpR (op_eqD hr.units) (pv 1) pe_str (nomark _)) (pe_one (pe_call c__law_isword.ok (hr.mono (by omega)) (by rfl) c__law_isword.m c__law_isword.kp c__law_isword.b .nil pass0 (pa_cons (pe_ix (r := rIxT K) ix_tup (pv 0) pe_int (fun _ _ => rfl)) pa_nil)))))) pss_nil)
      (pss_cons (ps_if (pt_val (pe_callB call_isi (by rfl) T.z_isinstance (by decide +kernel) (pa_cons (pv 1) (pa_cons (pe_bltn (v := .ty "str") (u := .type "str") (by rfl) T.z_str (by decide +kernel) rfl) pa_nil)))) (pss_one (ps_ret pe_bl)) pss_nil)
      (pss_cons (ps_if (pt_cmpR op_eq (pv 2) pe_str (nomark _)) (pss_one (ps_ret (pe_and (pe_cmpR op_eq (pe_ix (r := rIxT K) ix_tup (pv 1) pe_int (fun _ _ => rfl)) pe_str (nomark _)) (pe_and (pe_chain op_le op_lt pe_int (pe_ix (r := rIxT K) ix_tup (pv 0) pe_int (fun _ _ => rfl)) (pe_callB call_len_seq (by rfl) T.z_len PySem.boot_len (pa_cons (pe_ix (r := rIxT K) ix_tup (pv 1) pe_int (fun _ _ => rfl)) pa_nil))) (pe_one (pe_call c__law_fits.ok (hr.mono (by omega)) (by rfl) c__law_fits.m c__law_fits.kp c__law_fits.b .nil pass0 (pa_cons (pe_ix (r := rIxT K) ix_tup (pv 0) pe_int (fun _ _ => rfl)) (pa_cons (pe_ix (r := rIxT K) ix_tup (pe_ix (r := rIxT K) ix_tup (pv 1) pe_int (fun _ _ => rfl)) (pe_ix (r := rIxT K) ix_tup (pv 0) pe_int (fun _ _ => rfl)) (fun _ _ => rfl)) pa_nil)))))))) pss_nil)
      (pss_cons (ps_if (pt_cmpR op_ne (pe_ix (r := rIxT K) ix_tup (pv 1) pe_int (fun _ _ => rfl)) pe_str (nomark _)) (pss_one (ps_ret pe_bl)) pss_nil)
      (pss_cons (ps_if (pt_cmpR op_in_seq (pv 2) (pe_lst (pa_cons pe_str (pa_cons pe_str pa_nil))) (by rfl)) (pss_one (ps_ret (pe_call c__law_fits.ok (hr.mono (by omega)) (by rfl) c__law_fits.m c__law_fits.kp c__law_fits.b .nil pass0 (pa_cons (pe_ix (r := rIxT K) ix_tup (pv 0) pe_int (fun _ _ => rfl)) (pa_cons (pe_ix (r := rIxT K) ix_tup (pv 1) pe_int (fun _ _ => rfl)) pa_nil))))) pss_nil)
      (pss_cons (ps_if (pt_cmpR op_eq (pv 2) pe_str (nomark _)) (pss_one (ps_ret (pe_call c__law_fits.ok (hr.mono (by omega)) (by rfl) c__law_fits.m c__law_fits.kp c__law_fits.b .nil pass0 (pa_cons (pe_ix (r := rIxT K) ix_tup (pv 0) pe_int (fun _ _ => rfl)) (pa_cons pe_str pa_nil))))) pss_nil)
      (pss_cons (ps_if (pt_cmpR op_eq (pv 2) pe_str (nomark _)) (pss_one (ps_ret (pe_and (pe_cmpR (op_eqD hr.units) (pe_ix (r := rIxT K) ix_tup (pv 1) pe_int (fun _ _ => rfl)) pe_str (nomark _)) (pe_one (pe_call c__law_fits.ok (hr.mono (by omega)) (by rfl) c__law_fits.m c__law_fits.kp c__law_fits.b .nil pass0 (pa_cons (pe_ix (r := rIxT K) ix_tup (pv 0) pe_int (fun _ _ => rfl)) (pa_cons pe_str pa_nil))))))) pss_nil)
      (pss_one (ps_ret (pe_or (pe_cmpR op_eq (pv 2) pe_str (nomark _)) (pe_one (pe_cmpR (op_eqD hr.units) (pe_ix (r := rIxT K) ix_tup (pv 1) pe_int (fun _ _ => rfl)) pe_str (nomark _)))))))))))))))))), ?_⟩
  cases c with
  | not_ c =>
    rw [Cd.data] at hv
    obtain ⟨a, x, y, rfl, hs, hx, hy⟩ := hv.g2
    cases hx.str_inv
    refine q_asg (ev_ixT (j := 0) (ev_var rfl) ev_c hs rfl) fun H1 e1 => ?_
    refine takeS e1 rfl (by decide +kernel) fun H2 e2 => ?_
    have hc1 : OkC n c := by cases hc with | not_ h => exact h
    exact s_ret (ev_callC (ea_cons (ev_ixT (j := 1) (ev_var rfl) ev_c (ex_t e2 hs) rfl) (ea_cons (ev_var rfl) ea_nil)) (fits_call (hy.keep (Kt.same e2)) hc1 (hu.keep (Kt.same e2)) hk)) fun H9 e9 => q H9 (e2.trans e9)
  | and_ c d =>
    rw [Cd.data] at hv
    obtain ⟨a, x, y, z, rfl, hs, hx, hy, hz⟩ := hv.g3
    cases hx.str_inv
    refine q_asg (ev_ixT (j := 0) (ev_var rfl) ev_c hs rfl) fun H1 e1 => ?_
    refine skipS e1 rfl (by decide +kernel) fun H2 e2 => ?_
    refine takeL e2 rfl (ea_cons ev_c (ea_cons ev_c ea_nil)) (by show 2 ≤ 100000; decide) rfl (by decide +kernel) fun H3 e3 => ?_
    have hc1 : OkC n c ∧ OkC n d := by cases hc with | and_ h g => exact ⟨h, g⟩
    exact s_ret (ev_andV (ev_callC (ea_cons (ev_ixT (j := 1) (ev_var rfl) ev_c (ex_t e3 hs) rfl) (ea_cons (ev_var rfl) ea_nil)) (fits_call (hy.keep (Kt.same e3)) hc1.1 (hu.keep (Kt.same e3)) hk)) fun _ => ev_one (ev_callC (ea_cons (ev_ixT (j := 2) (ev_var rfl) ev_c (ex_t e3 hs) rfl) (ea_cons (ev_var rfl) ea_nil)) (fits_call (hz.keep (Kt.same e3)) hc1.2 (hu.keep (Kt.same e3)) hk))) fun H9 e9 => q H9 (e3.trans e9)
  | or_ c d =>
    rw [Cd.data] at hv
    obtain ⟨a, x, y, z, rfl, hs, hx, hy, hz⟩ := hv.g3
    cases hx.str_inv
    refine q_asg (ev_ixT (j := 0) (ev_var rfl) ev_c hs rfl) fun H1 e1 => ?_
    refine skipS e1 rfl (by decide +kernel) fun H2 e2 => ?_
    refine takeL e2 rfl (ea_cons ev_c (ea_cons ev_c ea_nil)) (by show 2 ≤ 100000; decide) rfl (by decide +kernel) fun H3 e3 => ?_
    have hc1 : OkC n c ∧ OkC n d := by cases hc with | or_ h g => exact ⟨h, g⟩
    exact s_ret (ev_andV (ev_callC (ea_cons (ev_ixT (j := 1) (ev_var rfl) ev_c (ex_t e3 hs) rfl) (ea_cons (ev_var rfl) ea_nil)) (fits_call (hy.keep (Kt.same e3)) hc1.1 (hu.keep (Kt.same e3)) hk)) fun _ => ev_one (ev_callC (ea_cons (ev_ixT (j := 2) (ev_var rfl) ev_c (ex_t e3 hs) rfl) (ea_cons (ev_var rfl) ea_nil)) (fits_call (hz.keep (Kt.same e3)) hc1.2 (hu.keep (Kt.same e3)) hk))) fun H9 e9 => q H9 (e3.trans e9)
  | atmost m =>
    rw [Cd.data] at hv
    obtain ⟨a, x, y, rfl, hs, hx, hy⟩ := hv.g2
    cases hx.str_inv
    refine q_asg (ev_ixT (j := 0) (ev_var rfl) ev_c hs rfl) fun H1 e1 => ?_
    refine skipS e1 rfl (by decide +kernel) fun H2 e2 => ?_
    refine skipL e2 rfl (ea_cons ev_c (ea_cons ev_c ea_nil)) (by show 2 ≤ 100000; decide) rfl (by decide +kernel) fun H3 e3 => ?_
    refine takeS e3 rfl (by decide +kernel) fun H4 e4 => ?_
    exact s_ret (ev_isInt (ev_var rfl) (hu.keep (Kt.same e4)) hk (by omega)) fun H9 e9 => q H9 (e4.trans e9)
  | divides m =>
    rw [Cd.data] at hv
    obtain ⟨a, x, y, rfl, hs, hx, hy⟩ := hv.g2
    cases hx.str_inv
    refine q_asg (ev_ixT (j := 0) (ev_var rfl) ev_c hs rfl) fun H1 e1 => ?_
    refine skipS e1 rfl (by decide +kernel) fun H2 e2 => ?_
    refine skipL e2 rfl (ea_cons ev_c (ea_cons ev_c ea_nil)) (by show 2 ≤ 100000; decide) rfl (by decide +kernel) fun H3 e3 => ?_
    refine skipS e3 rfl (by decide +kernel) fun H4 e4 => ?_
    refine takeS e4 rfl (by decide +kernel) fun H5 e5 => ?_
    cases hy.int_inv
    exact s_ret (ev_andV (ev_isInt (ev_var rfl) (hu.keep (Kt.same e5)) hk (by omega)) fun _ => ev_one (ev_chain ev_c (ev_ixT (j := 1) (ev_var rfl) ev_c (ex_t e5 hs) rfl) ev_c rv_I0 rv_I0)) fun H9 e9 => q H9 (e5.trans e9)
  | is m =>
    rw [Cd.data] at hv
    obtain ⟨a, x, y, rfl, hs, hx, hy⟩ := hv.g2
    cases hx.str_inv
    refine q_asg (ev_ixT (j := 0) (ev_var rfl) ev_c hs rfl) fun H1 e1 => ?_
    refine skipS e1 rfl (by decide +kernel) fun H2 e2 => ?_
    refine skipL e2 rfl (ea_cons ev_c (ea_cons ev_c ea_nil)) (by show 2 ≤ 100000; decide) rfl (by decide +kernel) fun H3 e3 => ?_
    refine skipS e3 rfl (by decide +kernel) fun H4 e4 => ?_
    refine skipS e4 rfl (by decide +kernel) fun H5 e5 => ?_
    refine takeS e5 rfl (by decide +kernel) fun H6 e6 => ?_
    cases hy.str_inv
    have hm : m.length ≤ 1000 ∧ SeqAt.shaped (.str m) = true := by cases hc with | is g h => exact ⟨h, g⟩
    exact s_ret (ev_andV (ev_isWord (ev_var rfl) (hu.keep (Kt.same e6)) hk (by omega)) fun _ => ev_one (ev_callC (ea_cons (ev_ixT (j := 1) (ev_var rfl) ev_c (ex_t e6 hs) rfl) ea_nil) fun H1 e Q q E => ⟨m, rfl, hm.1, hm.2, fun H' e' => q H' e'⟩)) fun H9 e9 => q H9 (e6.trans e9)
  | item m c =>
    rw [Cd.data] at hv
    obtain ⟨a, x, y, z, rfl, hs, hx, hy, hz⟩ := hv.g3
    cases hx.str_inv
    refine q_asg (ev_ixT (j := 0) (ev_var rfl) ev_c hs rfl) fun H1 e1 => ?_
    refine skipS e1 rfl (by decide +kernel) fun H2 e2 => ?_
    refine skipL e2 rfl (ea_cons ev_c (ea_cons ev_c ea_nil)) (by show 2 ≤ 100000; decide) rfl (by decide +kernel) fun H3 e3 => ?_
    refine skipS e3 rfl (by decide +kernel) fun H4 e4 => ?_
    refine skipS e4 rfl (by decide +kernel) fun H5 e5 => ?_
    refine skipS e5 rfl (by decide +kernel) fun H6 e6 => ?_
    cases hy.int_inv
    have hc1 : OkC n c := by cases hc with | item _ h => exact h
    cases k with
    | int =>
      rw [item_none rfl] at q
      have hui := hu.keep (Kt.same e6)
      rw [Kd.data] at hui
      refine q_when (b := true) (et_B (ev_isi (ev_var rfl) ev_c hui k_ss)) (fun _ H8 e8 => ?_) (fun h => Bool.noConfusion h)
      exact s_ret ev_c fun H9 e9 => q H9 (e6.trans (e8.trans e9))
    | word =>
      rw [item_none rfl] at q
      have hui := hu.keep (Kt.same e6)
      rw [Kd.data] at hui
      refine q_when (b := true) (et_B (ev_isi (ev_var rfl) ev_c hui k_ss)) (fun _ H8 e8 => ?_) (fun h => Bool.noConfusion h)
      exact s_ret ev_c fun H9 e9 => q H9 (e6.trans (e8.trans e9))
    | lst j =>
      rw [item_none rfl] at q
      have hui := hu.keep (Kt.same e6)
      rw [Kd.data] at hui
      refine q_when (b := false) (et_B (ev_isi (ev_var rfl) ev_c hui k_ts)) (fun h => Bool.noConfusion h) (fun _ Ha ea => ?_)
      have f1 := e6.trans ea
      rw [Kd.data] at hu
      obtain ⟨b, k0, k1, rfl, hb, hk0, hk1⟩ := hu.g2
      cases hk0.str_inv
      refine takeS f1 rfl (by decide +kernel) fun Hf2 f2 => ?_
      exact s_ret (ev_andF (ev_is (ev_op (ev_ixT (j := 0) (ev_var rfl) ev_c (ex_t f2 hb) rfl) ev_c (rv_eq rfl)) (by decide +kernel))) fun H9 e9 => q H9 (f2.trans e9)
    | tup ks =>
      have hui := hu.keep (Kt.same e6)
      rw [Kd.data] at hui
      refine q_when (b := false) (et_B (ev_isi (ev_var rfl) ev_c hui k_ts)) (fun h => Bool.noConfusion h) (fun _ Ha ea => ?_)
      have f1 := e6.trans ea
      rw [Kd.data] at hu
      obtain ⟨b, k0, k1, rfl, hb, hk0, hk1⟩ := hu.g2
      cases hk0.str_inv
      refine takeS f1 rfl (by decide +kernel) fun Hf2 f2 => ?_
      obtain ⟨c2, rfl⟩ := hk1.ref
      obtain ⟨ys, hys, hyl, hyi⟩ := hk1.get
      have hyk : ys.length = ks.length := by rw [hyl, dataAll_map, List.length_map]
      have hkp : ∀ j ∈ ks, OkK 10 j := by cases hk with | tup _ h => exact fun j hj => (h j hj).mono (by omega)
      refine s_ret (ev_is (ev_andT (b := (decide (0 ≤ m) && decide (m < (ys.length : Int))) && fitsC c (ks.getD m.toNat .int)) (ev_is (ev_op (ev_ixT (j := 0) (ev_var rfl) ev_c (ex_t f2 hb) rfl) ev_c (rv_eq rfl)) (by decide +kernel)) (ev_andV (b := fitsC c (ks.getD m.toNat .int)) (ev_chain ev_c (ev_ixT (j := 1) (ev_var rfl) ev_c (ex_t f2 hs) rfl) (ev_lenT (ev_ixT (j := 1) (ev_var rfl) ev_c (ex_t f2 hb) rfl) (ex_t f2 hys)) rv_I0 rv_I0) fun hbb => ev_one (ev_callC (vs := [z, ys.getD m.toNat .non]) (ea_cons (ev_ixT (j := 2) (ev_var rfl) ev_c (ex_t f2 hs) rfl) (ea_cons ?_ ea_nil)) ?_))) ?_) fun H9 e9 => q H9 (f2.trans e9)
      · obtain ⟨h0, h1⟩ := Bool.and_eq_true_iff.mp hbb
        have h0 := of_decide_eq_true h0
        have h1 := of_decide_eq_true h1
        have hm : m = ((m.toNat : Nat) : Int) := by omega
        exact ev_op (ev_ixT (j := 1) (ev_var rfl) ev_c (ex_t f2 hb) rfl) (ev_ixT (j := 1) (ev_var rfl) ev_c (ex_t f2 hs) rfl) (rv_ixT (ex_t f2 hys) (by
          have h2 := atI_nat (getD_at (ds := ys) (a0 := V.non) (i := m.toNat) (by omega))
          rw [← hm] at h2
          exact h2))
      · obtain ⟨h0, h1⟩ := Bool.and_eq_true_iff.mp hbb
        have h0 := of_decide_eq_true h0
        have h1 := of_decide_eq_true h1
        have hi : m.toNat < ks.length := by omega
        have hyd : (dataAll ks)[m.toNat]? = some (ks.getD m.toNat .int).data := by rw [dataAll_map, List.getElem?_map, getD_at (a0 := Kd.int) hi]; rfl
        exact fits_call (hz.keep (Kt.same f2)) hc1 ((hyi _ _ _ (getD_at (by omega)) hyd).keep (Kt.same f2)) (hkp _ (List.mem_of_getElem? (getD_at hi)))
      · rw [hyk]
        rfl
  | every c =>
    rw [Cd.data] at hv
    obtain ⟨a, x, y, rfl, hs, hx, hy⟩ := hv.g2
    cases hx.str_inv
    refine q_asg (ev_ixT (j := 0) (ev_var rfl) ev_c hs rfl) fun H1 e1 => ?_
    refine skipS e1 rfl (by decide +kernel) fun H2 e2 => ?_
    refine skipL e2 rfl (ea_cons ev_c (ea_cons ev_c ea_nil)) (by show 2 ≤ 100000; decide) rfl (by decide +kernel) fun H3 e3 => ?_
    refine skipS e3 rfl (by decide +kernel) fun H4 e4 => ?_
    refine skipS e4 rfl (by decide +kernel) fun H5 e5 => ?_
    refine skipS e5 rfl (by decide +kernel) fun H6 e6 => ?_
    have hc1 : OkC n c := by cases hc with | every h => exact h
    cases k with
    | int =>
      have hui := hu.keep (Kt.same e6)
      rw [Kd.data] at hui
      refine q_when (b := true) (et_B (ev_isi (ev_var rfl) ev_c hui k_ss)) (fun _ H8 e8 => ?_) (fun h => Bool.noConfusion h)
      exact s_ret ev_c fun H9 e9 => q H9 (e6.trans (e8.trans e9))
    | word =>
      have hui := hu.keep (Kt.same e6)
      rw [Kd.data] at hui
      refine q_when (b := true) (et_B (ev_isi (ev_var rfl) ev_c hui k_ss)) (fun _ H8 e8 => ?_) (fun h => Bool.noConfusion h)
      exact s_ret ev_c fun H9 e9 => q H9 (e6.trans (e8.trans e9))
    | tup ks =>
      have hui := hu.keep (Kt.same e6)
      rw [Kd.data] at hui
      refine q_when (b := false) (et_B (ev_isi (ev_var rfl) ev_c hui k_ts)) (fun h => Bool.noConfusion h) (fun _ Ha ea => ?_)
      have f1 := e6.trans ea
      rw [Kd.data] at hu
      obtain ⟨b, k0, k1, rfl, hb, hk0, hk1⟩ := hu.g2
      cases hk0.str_inv
      refine skipS f1 rfl (by decide +kernel) fun Hf2 f2 => ?_
      refine q_when (b := true) (et_is (et_test (ev_op (ev_ixT (j := 0) (ev_var rfl) ev_c (ex_t f2 hb) rfl) ev_c (rv_ne rfl))) (by decide +kernel)) (fun _ H8 e8 => ?_) (fun h => Bool.noConfusion h)
      exact s_ret ev_c fun H9 e9 => q H9 (f2.trans (e8.trans e9))
    | lst j =>
      have hui := hu.keep (Kt.same e6)
      rw [Kd.data] at hui
      refine q_when (b := false) (et_B (ev_isi (ev_var rfl) ev_c hui k_ts)) (fun h => Bool.noConfusion h) (fun _ Ha ea => ?_)
      have f1 := e6.trans ea
      rw [Kd.data] at hu
      obtain ⟨b, k0, k1, rfl, hb, hk0, hk1⟩ := hu.g2
      cases hk0.str_inv
      refine skipS f1 rfl (by decide +kernel) fun Hf2 f2 => ?_
      refine q_when (b := false) (et_is (et_test (ev_op (ev_ixT (j := 0) (ev_var rfl) ev_c (ex_t f2 hb) rfl) ev_c (rv_ne rfl))) (by decide +kernel)) (fun h => Bool.noConfusion h) (fun _ H8 e8 => ?_)
      have f3 := f2.trans e8
      have hj : OkK 10 j := by cases hk with | lst h => exact h.mono (by omega)
      refine takeL f3 rfl (ea_cons ev_c (ea_cons ev_c ea_nil)) (by show 2 ≤ 100000; decide) rfl (by decide +kernel) fun Hf4 f4 => ?_
      exact s_ret (ev_callC (ea_cons (ev_ixT (j := 1) (ev_var rfl) ev_c (ex_t f4 hs) rfl) (ea_cons (ev_ixT (j := 1) (ev_var rfl) ev_c (ex_t f4 hb) rfl) ea_nil)) (fits_call (hy.keep (Kt.same f4)) hc1 (hk1.keep (Kt.same f4)) hj)) fun H9 e9 => q H9 (f4.trans e9)
  | some_ c =>
    rw [Cd.data] at hv
    obtain ⟨a, x, y, rfl, hs, hx, hy⟩ := hv.g2
    cases hx.str_inv
    refine q_asg (ev_ixT (j := 0) (ev_var rfl) ev_c hs rfl) fun H1 e1 => ?_
    refine skipS e1 rfl (by decide +kernel) fun H2 e2 => ?_
    refine skipL e2 rfl (ea_cons ev_c (ea_cons ev_c ea_nil)) (by show 2 ≤ 100000; decide) rfl (by decide +kernel) fun H3 e3 => ?_
    refine skipS e3 rfl (by decide +kernel) fun H4 e4 => ?_
    refine skipS e4 rfl (by decide +kernel) fun H5 e5 => ?_
    refine skipS e5 rfl (by decide +kernel) fun H6 e6 => ?_
    have hc1 : OkC n c := by cases hc with | some_ h => exact h
    cases k with
    | int =>
      have hui := hu.keep (Kt.same e6)
      rw [Kd.data] at hui
      refine q_when (b := true) (et_B (ev_isi (ev_var rfl) ev_c hui k_ss)) (fun _ H8 e8 => ?_) (fun h => Bool.noConfusion h)
      exact s_ret ev_c fun H9 e9 => q H9 (e6.trans (e8.trans e9))
    | word =>
      have hui := hu.keep (Kt.same e6)
      rw [Kd.data] at hui
      refine q_when (b := true) (et_B (ev_isi (ev_var rfl) ev_c hui k_ss)) (fun _ H8 e8 => ?_) (fun h => Bool.noConfusion h)
      exact s_ret ev_c fun H9 e9 => q H9 (e6.trans (e8.trans e9))
    | tup ks =>
      have hui := hu.keep (Kt.same e6)
      rw [Kd.data] at hui
      refine q_when (b := false) (et_B (ev_isi (ev_var rfl) ev_c hui k_ts)) (fun h => Bool.noConfusion h) (fun _ Ha ea => ?_)
      have f1 := e6.trans ea
      rw [Kd.data] at hu
      obtain ⟨b, k0, k1, rfl, hb, hk0, hk1⟩ := hu.g2
      cases hk0.str_inv
      refine skipS f1 rfl (by decide +kernel) fun Hf2 f2 => ?_
      refine q_when (b := true) (et_is (et_test (ev_op (ev_ixT (j := 0) (ev_var rfl) ev_c (ex_t f2 hb) rfl) ev_c (rv_ne rfl))) (by decide +kernel)) (fun _ H8 e8 => ?_) (fun h => Bool.noConfusion h)
      exact s_ret ev_c fun H9 e9 => q H9 (f2.trans (e8.trans e9))
    | lst j =>
      have hui := hu.keep (Kt.same e6)
      rw [Kd.data] at hui
      refine q_when (b := false) (et_B (ev_isi (ev_var rfl) ev_c hui k_ts)) (fun h => Bool.noConfusion h) (fun _ Ha ea => ?_)
      have f1 := e6.trans ea
      rw [Kd.data] at hu
      obtain ⟨b, k0, k1, rfl, hb, hk0, hk1⟩ := hu.g2
      cases hk0.str_inv
      refine skipS f1 rfl (by decide +kernel) fun Hf2 f2 => ?_
      refine q_when (b := false) (et_is (et_test (ev_op (ev_ixT (j := 0) (ev_var rfl) ev_c (ex_t f2 hb) rfl) ev_c (rv_ne rfl))) (by decide +kernel)) (fun h => Bool.noConfusion h) (fun _ H8 e8 => ?_)
      have f3 := f2.trans e8
      have hj : OkK 10 j := by cases hk with | lst h => exact h.mono (by omega)
      refine takeL f3 rfl (ea_cons ev_c (ea_cons ev_c ea_nil)) (by show 2 ≤ 100000; decide) rfl (by decide +kernel) fun Hf4 f4 => ?_
      exact s_ret (ev_callC (ea_cons (ev_ixT (j := 1) (ev_var rfl) ev_c (ex_t f4 hs) rfl) (ea_cons (ev_ixT (j := 1) (ev_var rfl) ev_c (ex_t f4 hb) rfl) ea_nil)) (fits_call (hy.keep (Kt.same f4)) hc1 (hk1.keep (Kt.same f4)) hj)) fun H9 e9 => q H9 (f4.trans e9)
  | size c =>
    rw [Cd.data] at hv
    obtain ⟨a, x, y, rfl, hs, hx, hy⟩ := hv.g2
    cases hx.str_inv
    refine q_asg (ev_ixT (j := 0) (ev_var rfl) ev_c hs rfl) fun H1 e1 => ?_
    refine skipS e1 rfl (by decide +kernel) fun H2 e2 => ?_
    refine skipL e2 rfl (ea_cons ev_c (ea_cons ev_c ea_nil)) (by show 2 ≤ 100000; decide) rfl (by decide +kernel) fun H3 e3 => ?_
    refine skipS e3 rfl (by decide +kernel) fun H4 e4 => ?_
    refine skipS e4 rfl (by decide +kernel) fun H5 e5 => ?_
    refine skipS e5 rfl (by decide +kernel) fun H6 e6 => ?_
    have hc1 : OkC n c := by cases hc with | size h => exact h
    cases k with
    | int =>
      have hui := hu.keep (Kt.same e6)
      rw [Kd.data] at hui
      refine q_when (b := true) (et_B (ev_isi (ev_var rfl) ev_c hui k_ss)) (fun _ H8 e8 => ?_) (fun h => Bool.noConfusion h)
      exact s_ret ev_c fun H9 e9 => q H9 (e6.trans (e8.trans e9))
    | word =>
      have hui := hu.keep (Kt.same e6)
      rw [Kd.data] at hui
      refine q_when (b := true) (et_B (ev_isi (ev_var rfl) ev_c hui k_ss)) (fun _ H8 e8 => ?_) (fun h => Bool.noConfusion h)
      exact s_ret ev_c fun H9 e9 => q H9 (e6.trans (e8.trans e9))
    | tup ks =>
      have hui := hu.keep (Kt.same e6)
      rw [Kd.data] at hui
      refine q_when (b := false) (et_B (ev_isi (ev_var rfl) ev_c hui k_ts)) (fun h => Bool.noConfusion h) (fun _ Ha ea => ?_)
      have f1 := e6.trans ea
      rw [Kd.data] at hu
      obtain ⟨b, k0, k1, rfl, hb, hk0, hk1⟩ := hu.g2
      cases hk0.str_inv
      refine skipS f1 rfl (by decide +kernel) fun Hf2 f2 => ?_
      refine q_when (b := true) (et_is (et_test (ev_op (ev_ixT (j := 0) (ev_var rfl) ev_c (ex_t f2 hb) rfl) ev_c (rv_ne rfl))) (by decide +kernel)) (fun _ H8 e8 => ?_) (fun h => Bool.noConfusion h)
      exact s_ret ev_c fun H9 e9 => q H9 (f2.trans (e8.trans e9))
    | lst j =>
      have hui := hu.keep (Kt.same e6)
      rw [Kd.data] at hui
      refine q_when (b := false) (et_B (ev_isi (ev_var rfl) ev_c hui k_ts)) (fun h => Bool.noConfusion h) (fun _ Ha ea => ?_)
      have f1 := e6.trans ea
      rw [Kd.data] at hu
      obtain ⟨b, k0, k1, rfl, hb, hk0, hk1⟩ := hu.g2
      cases hk0.str_inv
      refine skipS f1 rfl (by decide +kernel) fun Hf2 f2 => ?_
      refine q_when (b := false) (et_is (et_test (ev_op (ev_ixT (j := 0) (ev_var rfl) ev_c (ex_t f2 hb) rfl) ev_c (rv_ne rfl))) (by decide +kernel)) (fun h => Bool.noConfusion h) (fun _ H8 e8 => ?_)
      have f3 := f2.trans e8
      have hj : OkK 10 j := by cases hk with | lst h => exact h.mono (by omega)
      refine skipL f3 rfl (ea_cons ev_c (ea_cons ev_c ea_nil)) (by show 2 ≤ 100000; decide) rfl (by decide +kernel) fun Hf4 f4 => ?_
      refine takeS f4 rfl (by decide +kernel) fun Hf5 f5 => ?_
      exact s_ret (ev_callC (ea_cons (ev_ixT (j := 1) (ev_var rfl) ev_c (ex_t f5 hs) rfl) (ea_cons ev_c ea_nil)) (fits_call (hy.keep (Kt.same f5)) hc1 int_data .int)) fun H9 e9 => q H9 (f5.trans e9)
  | sum c =>
    rw [Cd.data] at hv
    obtain ⟨a, x, y, rfl, hs, hx, hy⟩ := hv.g2
    cases hx.str_inv
    refine q_asg (ev_ixT (j := 0) (ev_var rfl) ev_c hs rfl) fun H1 e1 => ?_
    refine skipS e1 rfl (by decide +kernel) fun H2 e2 => ?_
    refine skipL e2 rfl (ea_cons ev_c (ea_cons ev_c ea_nil)) (by show 2 ≤ 100000; decide) rfl (by decide +kernel) fun H3 e3 => ?_
    refine skipS e3 rfl (by decide +kernel) fun H4 e4 => ?_
    refine skipS e4 rfl (by decide +kernel) fun H5 e5 => ?_
    refine skipS e5 rfl (by decide +kernel) fun H6 e6 => ?_
    have hc1 : OkC n c := by cases hc with | sum h => exact h
    cases k with
    | int =>
      have hui := hu.keep (Kt.same e6)
      rw [Kd.data] at hui
      refine q_when (b := true) (et_B (ev_isi (ev_var rfl) ev_c hui k_ss)) (fun _ H8 e8 => ?_) (fun h => Bool.noConfusion h)
      exact s_ret ev_c fun H9 e9 => q H9 (e6.trans (e8.trans e9))
    | word =>
      have hui := hu.keep (Kt.same e6)
      rw [Kd.data] at hui
      refine q_when (b := true) (et_B (ev_isi (ev_var rfl) ev_c hui k_ss)) (fun _ H8 e8 => ?_) (fun h => Bool.noConfusion h)
      exact s_ret ev_c fun H9 e9 => q H9 (e6.trans (e8.trans e9))
    | tup ks =>
      have hui := hu.keep (Kt.same e6)
      rw [Kd.data] at hui
      refine q_when (b := false) (et_B (ev_isi (ev_var rfl) ev_c hui k_ts)) (fun h => Bool.noConfusion h) (fun _ Ha ea => ?_)
      have f1 := e6.trans ea
      rw [Kd.data] at hu
      obtain ⟨b, k0, k1, rfl, hb, hk0, hk1⟩ := hu.g2
      cases hk0.str_inv
      refine skipS f1 rfl (by decide +kernel) fun Hf2 f2 => ?_
      refine q_when (b := true) (et_is (et_test (ev_op (ev_ixT (j := 0) (ev_var rfl) ev_c (ex_t f2 hb) rfl) ev_c (rv_ne rfl))) (by decide +kernel)) (fun _ H8 e8 => ?_) (fun h => Bool.noConfusion h)
      exact s_ret ev_c fun H9 e9 => q H9 (f2.trans (e8.trans e9))
    | lst j =>
      have hui := hu.keep (Kt.same e6)
      rw [Kd.data] at hui
      refine q_when (b := false) (et_B (ev_isi (ev_var rfl) ev_c hui k_ts)) (fun h => Bool.noConfusion h) (fun _ Ha ea => ?_)
      have f1 := e6.trans ea
      rw [Kd.data] at hu
      obtain ⟨b, k0, k1, rfl, hb, hk0, hk1⟩ := hu.g2
      cases hk0.str_inv
      refine skipS f1 rfl (by decide +kernel) fun Hf2 f2 => ?_
      refine q_when (b := false) (et_is (et_test (ev_op (ev_ixT (j := 0) (ev_var rfl) ev_c (ex_t f2 hb) rfl) ev_c (rv_ne rfl))) (by decide +kernel)) (fun h => Bool.noConfusion h) (fun _ H8 e8 => ?_)
      have f3 := f2.trans e8
      have hj : OkK 10 j := by cases hk with | lst h => exact h.mono (by omega)
      refine skipL f3 rfl (ea_cons ev_c (ea_cons ev_c ea_nil)) (by show 2 ≤ 100000; decide) rfl (by decide +kernel) fun Hf4 f4 => ?_
      refine skipS f4 rfl (by decide +kernel) fun Hf5 f5 => ?_
      refine takeS f5 rfl (by decide +kernel) fun Hf6 f6 => ?_
      exact s_ret (ev_andV (ev_isInt (ev_ixT (j := 1) (ev_var rfl) ev_c (ex_t f6 hb) rfl) (hk1.keep (Kt.same f6)) hj (by omega)) fun _ => ev_one (ev_callC (ea_cons (ev_ixT (j := 1) (ev_var rfl) ev_c (ex_t f6 hs) rfl) (ea_cons ev_c ea_nil)) (fits_call (hy.keep (Kt.same f6)) hc1 int_data .int))) fun H9 e9 => q H9 (f6.trans e9)
  | rising =>
    rw [Cd.data] at hv
    obtain ⟨a, x, rfl, hs, hx⟩ := hv.g1
    cases hx.str_inv
    refine q_asg (ev_ixT (j := 0) (ev_var rfl) ev_c hs rfl) fun H1 e1 => ?_
    refine skipS e1 rfl (by decide +kernel) fun H2 e2 => ?_
    refine skipL e2 rfl (ea_cons ev_c (ea_cons ev_c ea_nil)) (by show 2 ≤ 100000; decide) rfl (by decide +kernel) fun H3 e3 => ?_
    refine skipS e3 rfl (by decide +kernel) fun H4 e4 => ?_
    refine skipS e4 rfl (by decide +kernel) fun H5 e5 => ?_
    refine skipS e5 rfl (by decide +kernel) fun H6 e6 => ?_
    cases k with
    | int =>
      have hui := hu.keep (Kt.same e6)
      rw [Kd.data] at hui
      refine q_when (b := true) (et_B (ev_isi (ev_var rfl) ev_c hui k_ss)) (fun _ H8 e8 => ?_) (fun h => Bool.noConfusion h)
      exact s_ret ev_c fun H9 e9 => q H9 (e6.trans (e8.trans e9))
    | word =>
      have hui := hu.keep (Kt.same e6)
      rw [Kd.data] at hui
      refine q_when (b := true) (et_B (ev_isi (ev_var rfl) ev_c hui k_ss)) (fun _ H8 e8 => ?_) (fun h => Bool.noConfusion h)
      exact s_ret ev_c fun H9 e9 => q H9 (e6.trans (e8.trans e9))
    | tup ks =>
      have hui := hu.keep (Kt.same e6)
      rw [Kd.data] at hui
      refine q_when (b := false) (et_B (ev_isi (ev_var rfl) ev_c hui k_ts)) (fun h => Bool.noConfusion h) (fun _ Ha ea => ?_)
      have f1 := e6.trans ea
      rw [Kd.data] at hu
      obtain ⟨b, k0, k1, rfl, hb, hk0, hk1⟩ := hu.g2
      cases hk0.str_inv
      refine skipS f1 rfl (by decide +kernel) fun Hf2 f2 => ?_
      refine q_when (b := true) (et_is (et_test (ev_op (ev_ixT (j := 0) (ev_var rfl) ev_c (ex_t f2 hb) rfl) ev_c (rv_ne rfl))) (by decide +kernel)) (fun _ H8 e8 => ?_) (fun h => Bool.noConfusion h)
      exact s_ret ev_c fun H9 e9 => q H9 (f2.trans (e8.trans e9))
    | lst j =>
      have hui := hu.keep (Kt.same e6)
      rw [Kd.data] at hui
      refine q_when (b := false) (et_B (ev_isi (ev_var rfl) ev_c hui k_ts)) (fun h => Bool.noConfusion h) (fun _ Ha ea => ?_)
      have f1 := e6.trans ea
      rw [Kd.data] at hu
      obtain ⟨b, k0, k1, rfl, hb, hk0, hk1⟩ := hu.g2
      cases hk0.str_inv
      refine skipS f1 rfl (by decide +kernel) fun Hf2 f2 => ?_
      refine q_when (b := false) (et_is (et_test (ev_op (ev_ixT (j := 0) (ev_var rfl) ev_c (ex_t f2 hb) rfl) ev_c (rv_ne rfl))) (by decide +kernel)) (fun h => Bool.noConfusion h) (fun _ H8 e8 => ?_)
      have f3 := f2.trans e8
      have hj : OkK 10 j := by cases hk with | lst h => exact h.mono (by omega)
      refine skipL f3 rfl (ea_cons ev_c (ea_cons ev_c ea_nil)) (by show 2 ≤ 100000; decide) rfl (by decide +kernel) fun Hf4 f4 => ?_
      refine skipS f4 rfl (by decide +kernel) fun Hf5 f5 => ?_
      refine skipS f5 rfl (by decide +kernel) fun Hf6 f6 => ?_
      exact s_ret (ev_is (ev_orV (ev_op (ev_var rfl) ev_c (rv_eq rfl)) fun _ => ev_one (ev_isInt (ev_ixT (j := 1) (ev_var rfl) ev_c (ex_t f6 hb) rfl) (hk1.keep (Kt.same f6)) hj (by omega))) (by rw [show decide (V.str "rising" = V.str "different") = false by decide +kernel]; rfl)) fun H9 e9 => q H9 (f6.trans e9)
  | different =>
    rw [Cd.data] at hv
    obtain ⟨a, x, rfl, hs, hx⟩ := hv.g1
    cases hx.str_inv
    refine q_asg (ev_ixT (j := 0) (ev_var rfl) ev_c hs rfl) fun H1 e1 => ?_
    refine skipS e1 rfl (by decide +kernel) fun H2 e2 => ?_
    refine skipL e2 rfl (ea_cons ev_c (ea_cons ev_c ea_nil)) (by show 2 ≤ 100000; decide) rfl (by decide +kernel) fun H3 e3 => ?_
    refine skipS e3 rfl (by decide +kernel) fun H4 e4 => ?_
    refine skipS e4 rfl (by decide +kernel) fun H5 e5 => ?_
    refine skipS e5 rfl (by decide +kernel) fun H6 e6 => ?_
    cases k with
    | int =>
      have hui := hu.keep (Kt.same e6)
      rw [Kd.data] at hui
      refine q_when (b := true) (et_B (ev_isi (ev_var rfl) ev_c hui k_ss)) (fun _ H8 e8 => ?_) (fun h => Bool.noConfusion h)
      exact s_ret ev_c fun H9 e9 => q H9 (e6.trans (e8.trans e9))
    | word =>
      have hui := hu.keep (Kt.same e6)
      rw [Kd.data] at hui
      refine q_when (b := true) (et_B (ev_isi (ev_var rfl) ev_c hui k_ss)) (fun _ H8 e8 => ?_) (fun h => Bool.noConfusion h)
      exact s_ret ev_c fun H9 e9 => q H9 (e6.trans (e8.trans e9))
    | tup ks =>
      have hui := hu.keep (Kt.same e6)
      rw [Kd.data] at hui
      refine q_when (b := false) (et_B (ev_isi (ev_var rfl) ev_c hui k_ts)) (fun h => Bool.noConfusion h) (fun _ Ha ea => ?_)
      have f1 := e6.trans ea
      rw [Kd.data] at hu
      obtain ⟨b, k0, k1, rfl, hb, hk0, hk1⟩ := hu.g2
      cases hk0.str_inv
      refine skipS f1 rfl (by decide +kernel) fun Hf2 f2 => ?_
      refine q_when (b := true) (et_is (et_test (ev_op (ev_ixT (j := 0) (ev_var rfl) ev_c (ex_t f2 hb) rfl) ev_c (rv_ne rfl))) (by decide +kernel)) (fun _ H8 e8 => ?_) (fun h => Bool.noConfusion h)
      exact s_ret ev_c fun H9 e9 => q H9 (f2.trans (e8.trans e9))
    | lst j =>
      have hui := hu.keep (Kt.same e6)
      rw [Kd.data] at hui
      refine q_when (b := false) (et_B (ev_isi (ev_var rfl) ev_c hui k_ts)) (fun h => Bool.noConfusion h) (fun _ Ha ea => ?_)
      have f1 := e6.trans ea
      rw [Kd.data] at hu
      obtain ⟨b, k0, k1, rfl, hb, hk0, hk1⟩ := hu.g2
      cases hk0.str_inv
      refine skipS f1 rfl (by decide +kernel) fun Hf2 f2 => ?_
      refine q_when (b := false) (et_is (et_test (ev_op (ev_ixT (j := 0) (ev_var rfl) ev_c (ex_t f2 hb) rfl) ev_c (rv_ne rfl))) (by decide +kernel)) (fun h => Bool.noConfusion h) (fun _ H8 e8 => ?_)
      have f3 := f2.trans e8
      have hj : OkK 10 j := by cases hk with | lst h => exact h.mono (by omega)
      refine skipL f3 rfl (ea_cons ev_c (ea_cons ev_c ea_nil)) (by show 2 ≤ 100000; decide) rfl (by decide +kernel) fun Hf4 f4 => ?_
      refine skipS f4 rfl (by decide +kernel) fun Hf5 f5 => ?_
      refine skipS f5 rfl (by decide +kernel) fun Hf6 f6 => ?_
      exact s_ret (ev_is (ev_orV (ev_op (ev_var rfl) ev_c (rv_eq rfl)) fun _ => ev_one (ev_isInt (ev_ixT (j := 1) (ev_var rfl) ev_c (ex_t f6 hb) rfl) (hk1.keep (Kt.same f6)) hj (by omega))) (by rw [decide_eq_true rfl]; rfl)) fun H9 e9 => q H9 (f6.trans e9)
end
end K2
namespace K2
open PySem PySem.Spec PyProof.Rows L2 Evl Cr
section
variable {P : Program} {w : World} {K : PySem.W.Frag} {mg : Str → Option Value} {base : Heap}
abbrev s__law_limit : Stmt := topS 15
abbrev N__law_limit : List Str := ["box", "kind", "depth", "which", "first", "place"]
theorem sc__law_limit : FnScope N__law_limit ["box", "kind", "depth"] (defScope s__law_limit) := ⟨rfl, rfl, rfl, by decide +kernel, rfl, by decide +kernel, by decide +kernel⟩
theorem ok__law_limit {f : Addr} {fd : FuncData} {N : Nat} (T : Tx mg) (F : Fun K "_law_limit" "_law_limit" s__law_limit f fd) (c__law_take : Cl P w K mg base "_law_take" ["box", "many"] 1 spTake)
    (c__law_limit : Cl P w K mg base "_law_limit" ["box", "kind", "depth"] (N + 1) (spLLimit K N)) : FnOk P w K mg base CX0 (N + 1 + 1) f fd ["box", "kind", "depth"] (spLLimit K (N + 1)) := by
  refine F.ok sc__law_limit (fun vs H Q E h => ?_) (fun cdv A outer s H vs Q E hr h => ?_)
  · obtain ⟨b, d, u, kd, n, m, rfl, _⟩ := h
    rfl
  obtain ⟨b, d, u, kd, n, m, rfl, hB, hu, hk, hne, hnm, hN, q⟩ := h
  refine ⟨_, (pss_cons (ps_set (i := 3) sc__law_limit.nd rfl (Or.inl rfl) (pe_call c__law_take.ok (hr.mono (by omega)) (by rfl) c__law_take.m c__law_take.kp c__law_take.b .nil pass0 (pa_cons (pv 0) (pa_cons pe_int pa_nil))))
      (pss_cons (ps_if (PW.pt (pw_and (pt_cmpR op_gt (pv 2) pe_int (nomark _)) (pw_and1 (pt_cmpR op_gt (pv 3) pe_int (nomark _))))) (pss_cons (ps_set (i := 4) sc__law_limit.nd rfl (Or.inl rfl) (pe_call c__law_limit.ok (hr.mono (by omega)) (by rfl) c__law_limit.m c__law_limit.kp c__law_limit.b .nil pass0 (pa_cons (pv 0) (pa_cons (pv 1) (pa_cons (pe_op op_sub (pv 2) pe_int) pa_nil)))))
        (pss_cons (ps_if (pt_cmpR op_eq (pv 3) pe_int (nomark _)) (pss_one (ps_ret (pe_tup (pa_cons pe_str (pa_cons (pv 4) pa_nil))))) pss_nil)
        (pss_one (ps_ret (pe_tup (pa_cons (pe_ix (r := rIxL K) ix_list (pe_lst (pa_cons pe_str (pa_cons pe_str pa_nil))) (pe_op op_sub (pv 3) pe_int) (fun _ _ => rfl)) (pa_cons (pv 4) (pa_cons (pe_call c__law_limit.ok (hr.mono (by omega)) (by rfl) c__law_limit.m c__law_limit.kp c__law_limit.b .nil pass0 (pa_cons (pv 0) (pa_cons (pv 1) (pa_cons (pe_op op_sub (pv 2) pe_int) pa_nil)))) pa_nil)))))))) pss_nil)
      (pss_cons (ps_if (pt_cmpR (op_eqD hr.units) (pv 1) pe_str (nomark _)) (pss_cons (ps_if (pt_cmpR op_eq (pe_op op_mod (pv 3) pe_int) pe_int (nomark _)) (pss_one (ps_ret (pe_tup (pa_cons pe_str (pa_cons (pe_op op_sub (pe_call c__law_take.ok (hr.mono (by omega)) (by rfl) c__law_take.m c__law_take.kp c__law_take.b .nil pass0 (pa_cons (pv 0) (pa_cons pe_int pa_nil))) pe_int) pa_nil))))) pss_nil)
        (pss_one (ps_ret (pe_tup (pa_cons pe_str (pa_cons (pe_op op_add pe_int (pe_call c__law_take.ok (hr.mono (by omega)) (by rfl) c__law_take.m c__law_take.kp c__law_take.b .nil pass0 (pa_cons (pv 0) (pa_cons pe_int pa_nil)))) pa_nil)))))) pss_nil)
      (pss_cons (ps_if (pt_cmpR (op_eqD hr.units) (pv 1) pe_str (nomark _)) (pss_one (ps_ret (pe_tup (pa_cons pe_str (pa_cons (pe_ix (r := rIxL K) ix_list (pe_lst (pa_cons pe_str (pa_cons pe_str (pa_cons pe_str pa_nil)))) (pe_call c__law_take.ok (hr.mono (by omega)) (by rfl) c__law_take.m c__law_take.kp c__law_take.b .nil pass0 (pa_cons (pv 0) (pa_cons pe_int pa_nil))) (fun _ _ => rfl)) pa_nil))))) pss_nil)
      (pss_cons (ps_if (pt_cmpR op_eq (pe_ix (r := rIxT K) ix_tup (pv 1) pe_int (fun _ _ => rfl)) pe_str (nomark _)) (pss_cons (ps_set (i := 5) sc__law_limit.nd rfl (Or.inl rfl) (pe_call c__law_take.ok (hr.mono (by omega)) (by rfl) c__law_take.m c__law_take.kp c__law_take.b .nil pass0 (pa_cons (pv 0) (pa_cons (pe_callB call_len_seq (by rfl) T.z_len PySem.boot_len (pa_cons (pe_ix (r := rIxT K) ix_tup (pv 1) pe_int (fun _ _ => rfl)) pa_nil)) pa_nil))))
        (pss_one (ps_ret (pe_tup (pa_cons pe_str (pa_cons (pv 5) (pa_cons (pe_call c__law_limit.ok (hr.mono (by omega)) (by rfl) c__law_limit.m c__law_limit.kp c__law_limit.b .nil pass0 (pa_cons (pv 0) (pa_cons (pe_ix (r := rIxT K) ix_tup (pe_ix (r := rIxT K) ix_tup (pv 1) pe_int (fun _ _ => rfl)) (pv 5) (fun _ _ => rfl)) (pa_cons pe_int pa_nil)))) pa_nil))))))) pss_nil)
      (pss_cons (ps_if (PW.pt (pw_and (pt_cmpR (op_eqD hr.units) (pv 1) (pe_tup (pa_cons pe_str (pa_cons pe_str pa_nil))) (nomark _)) (pw_and1 (pt_cmpR op_lt (pv 3) pe_int (nomark _))))) (pss_one (ps_ret (pe_ix (r := rIxL K) ix_list (pe_lst (pa_cons (pe_tup (pa_cons pe_str pa_nil)) (pa_cons (pe_tup (pa_cons pe_str pa_nil)) (pa_cons (pe_tup (pa_cons pe_str (pa_cons (pe_call c__law_limit.ok (hr.mono (by omega)) (by rfl) c__law_limit.m c__law_limit.kp c__law_limit.b .nil pass0 (pa_cons (pv 0) (pa_cons pe_str (pa_cons pe_int pa_nil)))) pa_nil))) pa_nil)))) (pv 3) (fun _ _ => rfl)))) pss_nil)
      (pss_cons (ps_if (pt_cmpR op_eq (pv 3) pe_int (nomark _)) (pss_one (ps_ret (pe_tup (pa_cons pe_str pa_nil)))) pss_nil)
      (pss_cons (ps_if (pt_cmpR op_eq (pv 3) pe_int (nomark _)) (pss_one (ps_ret (pe_tup (pa_cons pe_str (pa_cons (pe_call c__law_limit.ok (hr.mono (by omega)) (by rfl) c__law_limit.m c__law_limit.kp c__law_limit.b .nil pass0 (pa_cons (pv 0) (pa_cons pe_str (pa_cons pe_int pa_nil)))) pa_nil))))) pss_nil)
      (pss_one (ps_ret (pe_tup (pa_cons (pe_ix (r := rIxL K) ix_list (pe_lst (pa_cons pe_str (pa_cons pe_str pa_nil))) (pe_op op_mod (pv 3) pe_int) (fun _ _ => rfl)) (pa_cons (pe_call c__law_limit.ok (hr.mono (by omega)) (by rfl) c__law_limit.m c__law_limit.kp c__law_limit.b .nil pass0 (pa_cons (pv 0) (pa_cons (pe_ix (r := rIxT K) ix_tup (pv 1) pe_int (fun _ _ => rfl)) (pa_cons pe_int pa_nil)))) pa_nil))))))))))))), ?_⟩
  have hmp := hk.pos
  refine ⟨_, rfl, b, d, 9, rfl, hB, by decide, fun r H1 r0 r1 m1 => ?_⟩
  refine q_when (et_and (et_test (ev_op (ev_var rfl) ev_c rv_I0)) (fun _ => et_test (ev_op (ev_var rfl) ev_c rv_I0))) (fun hb H2 e2 => ?_) (fun hb H2 e2 => ?_)
  · -- not, and, or
    obtain ⟨hb1, hb2⟩ := Bool.and_eq_true_iff.mp hb
    have hb1 := of_decide_eq_true hb1
    have hb2 := of_decide_eq_true hb2
    have m2 := m1.ext e2
    have en : (n : Int) - 1 = ((n - 1 : Nat) : Int) := by omega
    refine ⟨_, rfl, _, rfl, _, rfl, _, _, rfl, rfl, b, d, u, kd, n - 1, m, (by rw [← en]; rfl), m2.2, hu.keep (m2.kt hB), hk, hne, by omega, by omega, fun v c H3 m3 hv hc => ?_⟩
    refine q_when (et_test (ev_op (ev_var rfl) ev_c (rv_eq rfl))) (fun _ H4 e4 => ?_) (fun h6 H4 e4 => ?_)
    · refine ⟨_, rfl, (by show 2 ≤ sizeLine; decide), fun p hp => ?_⟩
      have m4 := ((m2.trans m3).ext e4).new (o := .tup [.str "not", v]) hp
      refine q _ (.not_ c) _ m4 ?_ (.not_ hc)
      rw [Cd.data]
      exact .t2 (.of upd_same) (.str _) (hv.keep (Kt.same (e4.trans (same_new hp))))
    · have h6 : r ≠ 6 := fun e => by
        have h := of_decide_eq_false h6
        exact h (by rw [e])
      have m4 := (m2.trans m3).ext e4
      refine ⟨by decide, fun p hp => ?_⟩
      have e5 := same_new (o := .lst [.str "and", .str "or"]) hp
      rcases (by omega : r = 7 ∨ r = 8) with rfl | rfl
      · refine ⟨_, rfl, _, _, rfl, rfl, p, _, 7 - 7, .str "and", rfl, rfl, .of upd_same, rfl, _, rfl, _, rfl, _, rfl, _, rfl, _, _, rfl, rfl, b, d, u, kd, n - 1, m, (by rw [← en]; rfl), (m4.ext e5).2, hu.keep ((m4.ext e5).kt hB), hk, hne, by omega, by omega, fun v2 c2 H6 m6 hv2 hc2 => ⟨(by show 3 ≤ sizeLine; decide), fun p2 hp2 => ?_⟩⟩
        refine q _ (.and_ c c2) _ (((m4.ext e5).trans m6).new hp2) ?_ (.and_ hc hc2)
        rw [Cd.data]
        exact .t3 (.of upd_same) (.str _) (((hv.keep (Kt.same (e4.trans e5))).keep (m6.kt (m4.ext e5).2)).keep (Kt.new hp2)) (hv2.keep (Kt.new hp2))
      · refine ⟨_, rfl, _, _, rfl, rfl, p, _, 8 - 7, .str "or", rfl, rfl, .of upd_same, rfl, _, rfl, _, rfl, _, rfl, _, rfl, _, _, rfl, rfl, b, d, u, kd, n - 1, m, (by rw [← en]; rfl), (m4.ext e5).2, hu.keep ((m4.ext e5).kt hB), hk, hne, by omega, by omega, fun v2 c2 H6 m6 hv2 hc2 => ⟨(by show 3 ≤ sizeLine; decide), fun p2 hp2 => ?_⟩⟩
        refine q _ (.or_ c c2) _ (((m4.ext e5).trans m6).new hp2) ?_ (.or_ hc hc2)
        rw [Cd.data]
        exact .t3 (.of upd_same) (.str _) (((hv.keep (Kt.same (e4.trans e5))).keep (m6.kt (m4.ext e5).2)).keep (Kt.new hp2)) (hv2.keep (Kt.new hp2))
  have m2 := m1.ext e2
  have hu2 := hu.keep (m2.kt hB)
  have sk := OkK.shaped hk (by omega)
  refine q_when (et_test (ev_isInt (ev_var rfl) hu2 hk (by omega))) (fun hi H3 e3 => ?_) (fun hi H3 e3 => ?_)
  · have m3 := m2.ext e3
    refine q_when (et_test (ev_op (ev_op (ev_var rfl) ev_c (rv_I (by decide))) ev_c (rv_eq rfl))) (fun _ H4 e4 => ?_) (fun _ H4 e4 => ?_)
    · have m4 := m3.ext e4
      refine ⟨_, rfl, b, d, 7, rfl, m4.2, by decide, fun x H5 x0 x1 m5 => ⟨_, _, rfl, rfl, (by show 2 ≤ sizeLine; decide), fun p hp => ?_⟩⟩
      refine q _ (.atmost (x - 2)) _ ((m4.trans m5).new hp) ?_ (.atmost _)
      rw [Cd.data]
      exact .t2 (.of upd_same) (.str _) (.int _)
    · have m4 := m3.ext e4
      refine ⟨_, rfl, b, d, 3, rfl, m4.2, by decide, fun x H5 x0 x1 m5 => ⟨_, _, rfl, rfl, (by show 2 ≤ sizeLine; decide), fun p hp => ?_⟩⟩
      refine q _ (.divides (1 + x)) _ ((m4.trans m5).new hp) ?_ (.divides _)
      rw [Cd.data]
      exact .t2 (.of upd_same) (.str _) (.int _)
  have m3 := m2.ext e3
  have hu3 := hu2.keep (Kt.same e3)
  refine q_when (et_test (ev_isWord (ev_var rfl) hu3 hk (by omega))) (fun hw H4 e4 => ?_) (fun hw H4 e4 => ?_)
  · have m4 := m3.ext e4
    refine ⟨by decide, fun p hp => ?_⟩
    have m5 := m4.new (o := .lst [.str "ab", .str "c", .str "zz"]) hp
    have npb : p ≠ b := (m4.2.neb hp).1
    refine ⟨_, rfl, b, d, 3, rfl, m5.2, by decide, fun x H6 x0 x1 m6 => ?_⟩
    have hl : SqL K H6 p [.str "ab", .str "c", .str "zz"] := m6.sql npb (.of upd_same)
    have done : ∀ (s : Str), SeqAt.shaped (.str s) = true → s.length ≤ 1000 → ∀ p2, H6 p2 = none → Q (.ref p2) (upd H6 p2 (.tup [.str "is", .str s])) := fun s h1 h2 p2 hp2 => by
      refine q _ (.is s) _ ((m5.trans m6).new hp2) ?_ (.is h1 h2)
      rw [Cd.data]
      exact .t2 (.of upd_same) (.str _) (.str _)
    rcases (by omega : x = 0 ∨ x = 1 ∨ x = 2) with rfl | rfl | rfl
    · exact ⟨p, _, 0, .str "ab", rfl, rfl, hl, rfl, (by show 2 ≤ sizeLine; decide), done "ab" (by decide +kernel) (by decide +kernel)⟩
    · exact ⟨p, _, 1, .str "c", rfl, rfl, hl, rfl, (by show 2 ≤ sizeLine; decide), done "c" (by decide +kernel) (by decide +kernel)⟩
    · exact ⟨p, _, 2, .str "zz", rfl, rfl, hl, rfl, (by show 2 ≤ sizeLine; decide), done "zz" (by decide +kernel) (by decide +kernel)⟩
  have m4 := m3.ext e4
  have hu4 := hu3.keep (Kt.same e4)
  cases kd with
  | int => cases hi
  | word => cases hw
  | tup ks =>
    have hu5 := hu4
    rw [Kd.data] at hu5
    obtain ⟨a, y0, y1, rfl, ha, h0, h1⟩ := hu5.g2
    cases h0.str_inv
    obtain ⟨c, rfl⟩ := h1.ref
    obtain ⟨ys, hys, hyl, hyi⟩ := h1.get
    have hyk : ys.length = ks.length := by rw [hyl, dataAll_map, List.length_map]
    have hkp : 0 < ks.length ∧ ∀ j ∈ ks, NeK j := by cases hne with | tup h1 h2 => exact ⟨h1, h2⟩
    have hm2 : ∀ j ∈ ks, OkK (m - 1) j := by cases hk with | tup _ h => exact h
    refine q_when (b := true) (et_is (et_test (ev_op (ev_ixT (j := 0) (ev_var rfl) ev_c ha rfl) ev_c (rv_eq rfl))) (by decide +kernel)) (fun _ H5 e5 => ?_) (fun h => Bool.noConfusion h)
    have m5 := m4.ext e5
    refine ⟨_, rfl, _, rfl, a, _, 1, .ref c, rfl, rfl, ex_t e5 ha, rfl, c, _, rfl, .inr (ex_t e5 hys), b, d, (ys.length : Int), rfl, m5.2, by omega, fun x H6 x0 x1 m6 => ?_⟩
    obtain ⟨j, rfl⟩ := Int.eq_ofNat_of_zero_le x0
    have hj : j < ks.length := by omega
    have hyd : (dataAll ks)[j]? = some (ks.getD j .int).data := by rw [dataAll_map, List.getElem?_map, getD_at (a0 := Kd.int) hj]; rfl
    have hyj : ys[j]? = some (ys.getD j .non) := getD_at (by omega)
    have k6 : Kt K H4 H6 := (Kt.same e5).trans (m6.kt m5.2)
    refine ⟨_, rfl, _, rfl, _, rfl, a, _, 1, .ref c, rfl, rfl, k6 _ _ ha, rfl, _, rfl, c, _, _, _, rfl, rfl, k6 _ _ hys, atI_nat hyj, b, d, _, ks.getD j .int, 0, m - 1, rfl, m6.2, (hyi _ _ _ hyj hyd).keep k6, hm2 _ (List.mem_of_getElem? (getD_at hj)), hkp.2 _ (List.mem_of_getElem? (getD_at hj)), by omega, by omega, fun v cc H7 m7 hv hc => ⟨(by show 3 ≤ sizeLine; decide), fun p hp => ?_⟩⟩
    refine q _ (.item j cc) _ (((m5.trans m6).trans m7).new hp) ?_ (.item _ hc)
    rw [Cd.data]
    exact .t3 (.of upd_same) (.str _) (.int _) (hv.keep (Kt.new hp))
  | lst kj =>
    have hu5 := hu4
    rw [Kd.data] at hu5
    obtain ⟨a, y0, y1, rfl, ha, h0, h1⟩ := hu5.g2
    cases h0.str_inv
    have hkj : OkK (m - 1) kj := by cases hk with | lst h => exact h
    have hnj : NeK kj := by cases hne with | lst h => exact h
    have hmj := hkj.pos
    refine q_when (b := false) (et_is (et_test (ev_op (ev_ixT (j := 0) (ev_var rfl) ev_c ha rfl) ev_c (rv_eq rfl))) (by decide +kernel)) (fun h => Bool.noConfusion h) (fun _ H5 e5 => ?_)
    have m5 := m4.ext e5
    -- _law_limit(box, 'int', 0)
    refine q_when (b := PyData.eqv (Kd.lst kj).data (Kd.lst Kd.int).data && decide (r < 3)) (et_and (et_test (ev_opU (xs := [.str "list", .str "int"]) (ev_var rfl) (eu_tup (ea_cons ev_c (ea_cons ev_c ea_nil)) (by show 2 ≤ 100000; decide)) fun p Hx hp ex => rv_eqD (hu4.keep (Kt.same (e5.trans ex))) (by rw [Kd.data, Kd.data]; exact .t2 (.of hp) (.str _) (.str _)) sk (OkK.shaped (n := 2) (.lst .int) (by omega)))) (fun _ => et_test (ev_op (ev_var rfl) ev_c rv_I0))) (fun hb3 H6 e6 => ?_) (fun hb3 H6 e6 => ?_)
    · have hr3 : r < 3 := of_decide_eq_true (Bool.and_eq_true_iff.mp hb3).2
      have m6 := m5.ext e6
      refine ⟨by decide, fun p1 hp1 => ⟨by decide, fun p2 hp2 => ?_⟩⟩
      have e7 := (same_new (o := .tup [.str "rising"]) hp1).trans (same_new (o := .tup [.str "different"]) hp2)
      have m7 := m6.ext e7
      refine ⟨_, rfl, b, d, .str "int", .int, 0, 1, rfl, m7.2, int_data, .int, .int, by omega, by omega, fun v cc H8 m8 hv hc => ⟨(by show 2 ≤ sizeLine; decide), fun p3 hp3 => ⟨(by show 3 ≤ sizeLine; decide), fun p4 hp4 => ?_⟩⟩⟩
      have e9 := (same_new (o := .tup [.str "sum", v]) hp3).trans (same_new (o := .lst [.ref p1, .ref p2, .ref p3]) hp4)
      have m9 := (m7.trans m8).ext e9
      have n1 : p1 ≠ b := (m6.2.neb hp1).1
      have n2 : p2 ≠ b := ((m6.ext (same_new hp1)).2.neb hp2).1
      have t1 := e9 _ _ (m8.1 _ _ n1 ((same_new (o := .tup [.str "different"]) hp2) _ _ (upd_same (H := H6) (a := p1) (o := .tup [.str "rising"]))))
      have t2 := e9 _ _ (m8.1 _ _ n2 (upd_same (H := upd H6 p1 (.tup [.str "rising"])) (a := p2) (o := .tup [.str "different"])))
      have t3 := (same_new (o := .lst [.ref p1, .ref p2, .ref p3]) hp4) _ _ (upd_same (H := H8) (a := p3) (o := .tup [.str "sum", v]))
      refine ⟨_, rfl, p4, [.ref p1, .ref p2, .ref p3], r, ?_⟩
      rcases (by omega : r = 0 ∨ r = 1 ∨ r = 2) with rfl | rfl | rfl
      · exact ⟨.ref p1, rfl, rfl, .of upd_same, rfl, q _ .rising _ m9 (by rw [Cd.data]; exact .t1 (.of t1) (.str _)) .rising⟩
      · exact ⟨.ref p2, rfl, rfl, .of upd_same, rfl, q _ .different _ m9 (by rw [Cd.data]; exact .t1 (.of t2) (.str _)) .different⟩
      · exact ⟨.ref p3, rfl, rfl, .of upd_same, rfl, q _ (.sum cc) _ m9 (by rw [Cd.data]; exact .t2 (.of t3) (.str _) (hv.keep (Kt.same e9))) (.sum hc)⟩
    have m6 := m5.ext e6
    refine q_when (et_test (ev_op (ev_var rfl) ev_c (rv_eq rfl))) (fun _ H7 e7 => ?_) (fun _ H7 e7 => ?_)
    · refine ⟨by decide, fun p hp => ?_⟩
      exact q _ .different _ ((m6.ext e7).new hp) (by rw [Cd.data]; exact .t1 (.of upd_same) (.str _)) .different
    have m7 := m6.ext e7
    refine q_when (et_test (ev_op (ev_var rfl) ev_c (rv_eq rfl))) (fun _ H8 e8 => ?_) (fun _ H8 e8 => ?_)
    · have m8 := m7.ext e8
      refine ⟨_, rfl, b, d, .str "int", .int, 0, 1, rfl, m8.2, int_data, .int, .int, by omega, by omega, fun v cc H9 m9 hv hc => ⟨(by show 2 ≤ sizeLine; decide), fun p hp => ?_⟩⟩
      exact q _ (.size cc) _ ((m8.trans m9).new hp) (by rw [Cd.data]; exact .t2 (.of upd_same) (.str _) (hv.keep (Kt.new hp))) (.size hc)
    have m8 := m7.ext e8
    refine ⟨by decide, fun p hp => ?_⟩
    have e9 := same_new (o := .lst [.str "every", .str "some"]) hp
    have m9 := m8.ext e9
    have e59 := e5.trans (e6.trans (e7.trans (e8.trans e9)))
    refine ⟨_, rfl, _, _, rfl, rfl, (by show (0 : Int) < 2; decide), p, [.str "every", .str "some"], r % 2, ?_⟩
    rcases (by omega : r % 2 = 0 ∨ r % 2 = 1) with hr2 | hr2
    · refine ⟨.str "every", rfl, rfl, .of upd_same, (by rw [hr2]; rfl), _, rfl, _, rfl, a, _, 1, _, rfl, rfl, ex_t e59 ha, rfl, b, d, _, kj, 0, m - 1, rfl, m9.2, h1.keep (Kt.same e59), hkj, hnj, by omega, by omega, fun v cc Hb mb hv hc => ⟨(by show 2 ≤ sizeLine; decide), fun p2 hp2 => ?_⟩⟩
      exact q _ (.every cc) _ ((m9.trans mb).new hp2) (by rw [Cd.data]; exact .t2 (.of upd_same) (.str _) (hv.keep (Kt.new hp2))) (.every hc)
    · refine ⟨.str "some", rfl, rfl, .of upd_same, (by rw [hr2]; rfl), _, rfl, _, rfl, a, _, 1, _, rfl, rfl, ex_t e59 ha, rfl, b, d, _, kj, 0, m - 1, rfl, m9.2, h1.keep (Kt.same e59), hkj, hnj, by omega, by omega, fun v cc Hb mb hv hc => ⟨(by show 2 ≤ sizeLine; decide), fun p2 hp2 => ?_⟩⟩
      exact q _ (.some_ cc) _ ((m9.trans mb).new hp2) (by rw [Cd.data]; exact .t2 (.of upd_same) (.str _) (hv.keep (Kt.new hp2))) (.some_ hc)
end
end K2
namespace K2
open PySem PySem.Spec PyProof.Rows L2 Evl Cr
abbrev s_law : Stmt := topS 18
abbrev N_law : List Str := ["script", "odd", "k", "box", "kinds", "limits", "kind", "limit", "told"]
theorem sc_law : FnScope N_law ["script"] (defScope s_law) := ⟨rfl, rfl, rfl, by decide +kernel, rfl, by decide +kernel, by decide +kernel⟩
abbrev restK : List Kd := [.int, .word, .lst .int, .lst (.lst .int), .tup [.int, .word, .int]]
theorem restK_data : ([.str "int", .str "word", .tuple [.str "list", .str "int"], .tuple [.str "list", .tuple [.str "list", .str "int"]], .tuple [.str "tuple", .tuple [.str "int", .str "word", .str "int"]]] : List PyData) = restK.map Kd.data := by simp [Kd.data, dataAll]
abbrev oddC : List Cd := [.divides 0, .divides 101, .divides 100, .is "Q", .is "", .item 2 (.atmost 1), .item (-1) .rising, .size .rising, .sum (.is "a"), .every (.atmost 2), .some_ .different, .not_ (.atmost 4), .rising, .different]
theorem oddC_data : ([.tuple [.str "divides", .int 0], .tuple [.str "divides", .int 101], .tuple [.str "divides", .int 100], .tuple [.str "is", .str "Q"], .tuple [.str "is", .str ""], .tuple [.str "item", .int 2, .tuple [.str "atmost", .int 1]], .tuple [.str "item", .int (-1), .tuple [.str "rising"]], .tuple [.str "size", .tuple [.str "rising"]],
    .tuple [.str "sum", .tuple [.str "is", .str "a"]], .tuple [.str "every", .tuple [.str "atmost", .int 2]], .tuple [.str "some", .tuple [.str "different"]], .tuple [.str "not", .tuple [.str "atmost", .int 4]], .tuple [.str "rising"], .tuple [.str "different"]] : List PyData) = oddC.map Cd.data := by simp [Cd.data]
theorem okc_is {n : Nat} {s : Str} (h : SeqAt.shaped (.str s) = true := by decide +kernel) (hl : s.length ≤ 1000 := by decide +kernel) : OkC (n + 1) (.is s) := .is h hl
theorem oddC_ok : ∀ c ∈ oddC, OkC 5 c := fun c hc => by
  simp only [oddC, List.mem_cons, List.not_mem_nil, or_false] at hc
  rcases hc with rfl | rfl | rfl | rfl | rfl | rfl | rfl | rfl | rfl | rfl | rfl | rfl | rfl | rfl
  · exact .divides _
  · exact .divides _
  · exact .divides _
  · exact okc_is
  · exact okc_is
  · exact .item _ (.atmost _)
  · exact .item _ .rising
  · exact .size .rising
  · exact .sum okc_is
  · exact .every (.atmost _)
  · exact .some_ .different
  · exact .not_ (.atmost _)
  · exact .rising
  · exact .different
section
variable {P : Program} {w : World} {K : PySem.W.Frag} {mg : Str → Option Value} {base : Heap}
/-- what the two loops find -/
structure Found (K : PySem.W.Frag) (H : Hp) (pk pv : Addr) (kV vV : List V) (ks : List Kd) (cs : List Cd) : Prop where
  hk : H pk = some (.lst kV)
  hv : H pv = some (.lst vV)
  ok : Vds K H kV (ks.map Kd.data)
  ov : Vds K H vV (cs.map Cd.data)
  kk : ∀ k ∈ ks, OkK 3 k
  cc : ∀ c ∈ cs, OkC 6 c
theorem ok_law {f : Addr} {fd : FuncData} (T : Tx mg) (F : Fun K "law" "law" s_law f fd) (c_fits : Cl P w K mg base "fits" ["condition", "kind"] 13 (spFits K 6)) (c__law_fits : Cl P w K mg base "_law_fits" ["limit", "kind"] 7 (spFits K 6))
    (c__law_box : Cl P w K mg base "_law_box" ["script", "k"] 3 (spBox K)) (c__law_kind : Cl P w K mg base "_law_kind" ["box", "depth"] 4 (spLKind2 K 3)) (c__law_limit : Cl P w K mg base "_law_limit" ["box", "kind", "depth"] 6 (spLLimit K 5)) : FnOk P w K mg base CX0 14 f fd ["script"] (spLaw K) := by
  refine F.ok sc_law (fun vs H Q E h => ?_) (fun cdv A outer s H vs Q E hr h => ?_)
  · obtain ⟨a, ns, rfl, _⟩ := h
    rfl
  obtain ⟨a, ns, rfl, ha, h63, q⟩ := h
  refine ⟨_, (pss_cons (ps_set (i := 1) sc_law.nd rfl (Or.inl rfl) (pe_lst (pa_cons (pe_tup (pa_cons pe_str (pa_cons pe_int pa_nil))) (pa_cons (pe_tup (pa_cons pe_str (pa_cons pe_int pa_nil))) (pa_cons (pe_tup (pa_cons pe_str (pa_cons pe_int pa_nil))) (pa_cons (pe_tup (pa_cons pe_str (pa_cons pe_str pa_nil))) (pa_cons (pe_tup (pa_cons pe_str (pa_cons pe_str pa_nil))) (pa_cons (pe_tup (pa_cons pe_str (pa_cons pe_int (pa_cons (pe_tup (pa_cons pe_str (pa_cons pe_int pa_nil))) pa_nil)))) (pa_cons (pe_tup (pa_cons pe_str (pa_cons (pe_un un_neg pe_int) (pa_cons (pe_tup (pa_cons pe_str pa_nil)) pa_nil)))) (pa_cons (pe_tup (pa_cons pe_str (pa_cons (pe_tup (pa_cons pe_str pa_nil)) pa_nil))) (pa_cons (pe_tup (pa_cons pe_str (pa_cons (pe_tup (pa_cons pe_str (pa_cons pe_str pa_nil))) pa_nil))) (pa_cons (pe_tup (pa_cons pe_str (pa_cons (pe_tup (pa_cons pe_str (pa_cons pe_int pa_nil))) pa_nil))) (pa_cons (pe_tup (pa_cons pe_str (pa_cons (pe_tup (pa_cons pe_str pa_nil)) pa_nil))) (pa_cons (pe_tup (pa_cons pe_str (pa_cons (pe_tup (pa_cons pe_str (pa_cons pe_int pa_nil))) pa_nil))) (pa_cons (pe_tup (pa_cons pe_str pa_nil)) (pa_cons (pe_tup (pa_cons pe_str pa_nil)) pa_nil))))))))))))))))
      (pss_cons (ps_for PassesOwn.never rfl (pi_range1 (by rfl) T.z_range (pa_cons (pe_callB (call_min2 rfl) (by rfl) T.z_min (by decide +kernel) (pa_cons pe_int (pa_cons (pe_callB (call_max2 rfl) (by rfl) T.z_max (by decide +kernel) (pa_cons pe_int (pa_cons (pe_op op_fdiv (pe_callB call_len_seq (by rfl) T.z_len PySem.boot_len (pa_cons (pv 0) pa_nil)) pe_int) pa_nil))) pa_nil))) pa_nil)) (pg_name (i := 2) sc_law.nd rfl (Or.inl rfl)) (pss_cons (ps_set (i := 3) sc_law.nd rfl (Or.inr rfl) (pe_call c__law_box.ok (hr.mono (by omega)) (by rfl) c__law_box.m c__law_box.kp c__law_box.b .nil pass0 (pa_cons (pv 0) (pa_cons (pe_op op_mul pe_int (pv 2)) pa_nil))))
        (pss_cons (ps_set (i := 4) sc_law.nd rfl (Or.inl rfl) (pe_lst (pa_cons (pe_call c__law_kind.ok (hr.mono (by omega)) (by rfl) c__law_kind.m c__law_kind.kp c__law_kind.b .nil pass0 (pa_cons (pv 3) (pa_cons pe_int pa_nil))) (pa_cons (pe_call c__law_kind.ok (hr.mono (by omega)) (by rfl) c__law_kind.m c__law_kind.kp c__law_kind.b .nil pass0 (pa_cons (pv 3) (pa_cons pe_int pa_nil))) (pa_cons pe_str (pa_cons pe_str (pa_cons (pe_tup (pa_cons pe_str (pa_cons pe_str pa_nil))) (pa_cons (pe_tup (pa_cons pe_str (pa_cons (pe_tup (pa_cons pe_str (pa_cons pe_str pa_nil))) pa_nil))) (pa_cons (pe_tup (pa_cons pe_str (pa_cons (pe_tup (pa_cons pe_str (pa_cons pe_str (pa_cons pe_str pa_nil)))) pa_nil))) pa_nil)))))))))
        (pss_cons (ps_set (i := 5) sc_law.nd rfl (Or.inl rfl) (pe_op op_cat (pe_lc (own := [("kind", 6)]) (g := gName 6) (by rfl) sc_law.nd (pi_list (pv 4)) (blkOk_by (own := [("kind", 6)]) (N := N_law) (sc := defScope s_law) (by decide +kernel)) (fun _ _ _ _ _ => (pg_name (i := 6) sc_law.nd rfl (Or.inl rfl))) (fun _ _ _ _ _ => pts_nil) (fun _ _ _ _ _ => (pe_call c__law_limit.ok (hr.mono (by omega)) (by rfl) c__law_limit.m c__law_limit.kp c__law_limit.b .nil pass0 (pa_cons (pv 3) (pa_cons (pv 6) (pa_cons pe_int pa_nil)))))) (pv 1)))
        (pss_cons (ps_expr (pe_bm PySem.F.plainAttrs_list PySem.F.slot_list_append PySem.F.type_list_append mt_append (pv 5) (pa_cons (pe_tup (pa_cons pe_str (pa_cons (pe_ix (r := rIxL K) ix_list (pv 5) pe_int (fun _ _ => rfl)) (pa_cons (pe_ix (r := rIxL K) ix_list (pv 5) pe_int (fun _ _ => rfl)) pa_nil)))) pa_nil)))
        (pss_cons (ps_expr (pe_bm PySem.F.plainAttrs_list PySem.F.slot_list_append PySem.F.type_list_append mt_append (pv 5) (pa_cons (pe_tup (pa_cons pe_str (pa_cons (pe_ix (r := rIxL K) ix_list (pv 5) pe_int (fun _ _ => rfl)) (pa_cons (pe_ix (r := rIxL K) ix_list (pv 5) pe_int (fun _ _ => rfl)) pa_nil)))) pa_nil)))
        (pss_one (ps_for PassesOwn.never rfl (pi_list (pv 4)) (pg_name (i := 6) sc_law.nd rfl (Or.inl rfl)) (pss_one (ps_for PassesOwn.never rfl (pi_list (pv 5)) (pg_name (i := 7) sc_law.nd rfl (Or.inl rfl)) (pss_cons (ps_set (i := 8) sc_law.nd rfl (Or.inl rfl) (pe_call c_fits.ok (hr.mono (by omega)) (by rfl) c_fits.m c_fits.kp c_fits.b .nil pass0 (pa_cons (pv 7) (pa_cons (pv 6) pa_nil))))
            (pss_one (ps_if (PW.pt (pw_or (pt_not (pt_val (pe_callB call_isi (by rfl) T.z_isinstance (by decide +kernel) (pa_cons (pv 8) (pa_cons (pe_bltn (v := .ty "bool") (u := .type "bool") (by rfl) T.z_bool (by decide +kernel) rfl) pa_nil))))) (pw_or1 (pt_cmpR op_ne (pv 8) (pe_call c__law_fits.ok (hr.mono (by omega)) (by rfl) c__law_fits.m c__law_fits.kp c__law_fits.b .nil pass0 (pa_cons (pv 7) (pa_cons (pv 6) pa_nil))) (nomark _))))) (pss_one (ps_ret pe_bl)) pss_nil)))))))))))))
      (pss_one (ps_ret pe_bl)))), ?_⟩
  -- odd
  refine q_asgDs (K := K) (evds_is (evds_cons (evd_tup (evds_cons evd_str (evds_cons evd_int evds_nil)) (by show 2 ≤ 1000; decide)) (evds_cons (evd_tup (evds_cons evd_str (evds_cons evd_int evds_nil)) (by show 2 ≤ 1000; decide)) (evds_cons (evd_tup (evds_cons evd_str (evds_cons evd_int evds_nil)) (by show 2 ≤ 1000; decide))
    (evds_cons (evd_tup (evds_cons evd_str (evds_cons evd_str evds_nil)) (by show 2 ≤ 1000; decide)) (evds_cons (evd_tup (evds_cons evd_str (evds_cons evd_str evds_nil)) (by show 2 ≤ 1000; decide))
    (evds_cons (evd_tup (evds_cons evd_str (evds_cons evd_int (evds_cons (evd_tup (evds_cons evd_str (evds_cons evd_int evds_nil)) (by show 2 ≤ 1000; decide)) evds_nil))) (by show 3 ≤ 1000; decide))
    (evds_cons (evd_tup (evds_cons evd_str (evds_cons evd_neg (evds_cons (evd_tup (evds_cons evd_str evds_nil) (by show 1 ≤ 1000; decide)) evds_nil))) (by show 3 ≤ 1000; decide))
    (evds_cons (evd_tup (evds_cons evd_str (evds_cons (evd_tup (evds_cons evd_str evds_nil) (by show 1 ≤ 1000; decide)) evds_nil)) (by show 2 ≤ 1000; decide))
    (evds_cons (evd_tup (evds_cons evd_str (evds_cons (evd_tup (evds_cons evd_str (evds_cons evd_str evds_nil)) (by show 2 ≤ 1000; decide)) evds_nil)) (by show 2 ≤ 1000; decide))
    (evds_cons (evd_tup (evds_cons evd_str (evds_cons (evd_tup (evds_cons evd_str (evds_cons evd_int evds_nil)) (by show 2 ≤ 1000; decide)) evds_nil)) (by show 2 ≤ 1000; decide))
    (evds_cons (evd_tup (evds_cons evd_str (evds_cons (evd_tup (evds_cons evd_str evds_nil) (by show 1 ≤ 1000; decide)) evds_nil)) (by show 2 ≤ 1000; decide))
    (evds_cons (evd_tup (evds_cons evd_str (evds_cons (evd_tup (evds_cons evd_str (evds_cons evd_int evds_nil)) (by show 2 ≤ 1000; decide)) evds_nil)) (by show 2 ≤ 1000; decide))
    (evds_cons (evd_tup (evds_cons evd_str evds_nil) (by show 1 ≤ 1000; decide)) (evds_cons (evd_tup (evds_cons evd_str evds_nil) (by show 1 ≤ 1000; decide)) evds_nil)))))))))))))) oddC_data) (by show 14 ≤ 1000; decide) fun po oV Ho hpo eo ho oo => ?_
  have hao := ex_l eo ha
  have hoV : oV.length = 14 := oo.1
  generalize hC : oddC = cO at oo
  have okO : ∀ c ∈ cO, OkC 5 c := by rw [← hC]; exact oddC_ok
  refine ⟨_, rfl, a, _, rfl, .inl hao, _, _, rfl, rfl, ⟨by decide, by decide⟩, _, _, rfl, _, _, rfl, _, rfl, ?_, ?_, for_range (lo := 0) (fun i σ' H' => ∃ z2 z3 z4 z5 z6 z7 z8 : Option V, σ' = [some (.ref a), some (.ref po), z2, z3, z4, z5, z6, z7, z8] ∧ SqL K H' a (ns.map V.int) ∧ H' po = some (.lst oV) ∧ Vds K H' oV (cO.map Cd.data)) ⟨_, _, _, _, _, _, _, rfl, hao, ho, oo⟩ (fun i σ' H' hi hP => ?_) (fun σ' H' hP => ?_)⟩
  · omega
  · rw [List.length_map]
    omega
  case refine_4 =>
    obtain ⟨z2, z3, z4, z5, z6, z7, z8, rfl, _⟩ := hP
    exact q _
  obtain ⟨z2, z3, z4, z5, z6, z7, z8, rfl, hS, hO, oO⟩ := hP
  -- box = _law_box(script, 2 * k)
  refine ⟨_, rfl, _, rfl, _, _, rfl, rfl, .inl ⟨by decide, by decide⟩, a, ns, 2 * i, (by simp), hS, fun b d H1 e1 hb hB => ?_⟩
  have npob : po ≠ b := ne_of_none hO hb
  -- kinds
  refine ⟨_, rfl, b, d, 2, rfl, hB, by omega, fun v0 kd0 H2 m2 hv0 hk0 hn0 => ⟨_, rfl, b, d, 2, rfl, m2.2, by omega, fun v1 kd1 H3 m3 hv1 hk1 hn1 => ?_⟩⟩
  refine (evds_is (K := K) (evds_cons evd_str (evds_cons evd_str (evds_cons (evd_tup (evds_cons evd_str (evds_cons evd_str evds_nil)) (by show 2 ≤ 1000; decide)) (evds_cons (evd_tup (evds_cons evd_str (evds_cons (evd_tup (evds_cons evd_str (evds_cons evd_str evds_nil)) (by show 2 ≤ 1000; decide)) evds_nil)) (by show 2 ≤ 1000; decide))
    (evds_cons (evd_tup (evds_cons evd_str (evds_cons (evd_tup (evds_cons evd_str (evds_cons evd_str (evds_cons evd_str evds_nil))) (by show 3 ≤ 1000; decide)) evds_nil)) (by show 2 ≤ 1000; decide)) evds_nil))))) restK_data) H3 (Ex.refl H3) _ fun ws H3' e3 hws => ?_
  have hwl : ws.length = 5 := hws.1
  refine ⟨(by show (v0 :: v1 :: ws).length ≤ sizeLine; rw [List.length_cons, List.length_cons, hwl]; decide), fun p4 hp4 => ?_⟩
  have e34 := e3.trans (same_new (o := .lst (v0 :: v1 :: ws)) hp4)
  have m4 : Mv b d H1 (upd H3' p4 (.lst (v0 :: v1 :: ws))) := (m2.trans m3).ext e34
  have hk4 : upd H3' p4 (.lst (v0 :: v1 :: ws)) p4 = some (.lst (v0 :: v1 :: ws)) := upd_same
  have n4 : p4 ≠ b := (((m2.trans m3).ext e3).2.neb hp4).1
  have kk : ∀ k ∈ kd0 :: kd1 :: restK, OkK 3 k ∧ NeK k := fun k hk => by
    simp only [restK, List.mem_cons, List.not_mem_nil, or_false] at hk
    rcases hk with rfl | rfl | rfl | rfl | rfl | rfl | rfl
    · exact ⟨hk0, hn0⟩
    · exact ⟨hk1, hn1⟩
    · exact ⟨.int, .int⟩
    · exact ⟨.word, .word⟩
    · exact ⟨.lst .int, .lst .int⟩
    · exact ⟨.lst (.lst .int), .lst (.lst .int)⟩
    · refine ⟨.tup (by decide) fun k hk => ?_, .tup (by decide) fun k hk => ?_⟩
      · simp only [List.mem_cons, List.not_mem_nil, or_false] at hk
        rcases hk with rfl | rfl | rfl
        · exact .int
        · exact .word
        · exact .int
      · simp only [List.mem_cons, List.not_mem_nil, or_false] at hk
        rcases hk with rfl | rfl | rfl
        · exact .int
        · exact .word
        · exact .int
  have ok4 : Vds K (upd H3' p4 (.lst (v0 :: v1 :: ws))) (v0 :: v1 :: ws) ((kd0 :: kd1 :: restK).map Kd.data) :=
    .cons ((hv0.keep (m3.kt m2.2)).keep (Kt.same e34)) (.cons (hv1.keep (Kt.same e34)) (hws.keep (Kt.new hp4)))
  have hO4 : upd H3' p4 (.lst (v0 :: v1 :: ws)) po = some (.lst oV) := m4.1 _ _ npob (e1 _ _ hO)
  have oO4 : Vds K (upd H3' p4 (.lst (v0 :: v1 :: ws))) oV (cO.map Cd.data) := (oO.keep (Kt.same e1)).keep (m4.kt hB)
  generalize upd H3' p4 (.lst (v0 :: v1 :: ws)) = H4 at m4 hk4 ok4 hO4 oO4 ⊢
  have hl7 : (v0 :: v1 :: ws).length = 7 := by rw [List.length_cons, List.length_cons, hwl]
  have hks7 : (kd0 :: kd1 :: restK).length = 7 := rfl
  generalize v0 :: v1 :: ws = kV at hk4 ok4 hl7
  generalize kd0 :: kd1 :: restK = ks at kk ok4 hks7
  -- limits
  refine ⟨_, rfl, p4, rfl, ⟨_, .of hk4⟩, fun D hD => lc_list (K := K) (a := p4) (xs := kV) (fun i H' => ∃ (vs : List V) (cs : List Cd), H' D = some (.lst vs) ∧ vs.length = i ∧ Vds K H' vs (cs.map Cd.data) ∧ (∀ c ∈ cs, OkC 5 c) ∧ Mv b d H4 H')
    ⟨[], [], upd_same, rfl, .nil, fun _ h => (nomatch h), (Mv.refl m4.2).new hD⟩ (fun i H' _ ⟨_, _, _, _, _, _, m⟩ => m.sql n4 (.of hk4)) (fun i u H5 hu hP => ⟨rfl, ?_⟩) (fun H5 hP => ?_)⟩
  · obtain ⟨vs, cs, hDv, hl, hvs, hcs, m5⟩ := hP
    have hi6 : i < ks.length := by have := (List.getElem?_eq_some_iff.mp hu).1; omega
    have hkd : (ks.map Kd.data)[i]? = some (ks.getD i .int).data := by rw [List.getElem?_map, getD_at (a0 := Kd.int) hi6]; rfl
    have nDb : D ≠ b := (m4.2.neb hD).1
    have hkn := kk _ (List.mem_of_getElem? (getD_at (a0 := Kd.int) hi6))
    refine ⟨_, rfl, _, rfl, b, d, u, ks.getD i .int, 2, 3, rfl, m5.2, (ok4.2 i u _ hu hkd).keep (m5.kt m4.2), hkn.1, hkn.2, by omega, by omega, fun v c H6 m6 hv hc => ⟨vs, m6.1 _ _ nDb hDv, small1000 (by omega), vs ++ [v], cs ++ [c], upd_same, by rw [List.length_append, hl]; rfl, ?_, ?_, (m5.trans m6).mut m4.2 hD⟩⟩
    · rw [List.map_append]
      exact ((hvs.keep (m6.kt m5.2)).snoc hv).keep (Kt.lst (m6.1 _ _ nDb hDv))
    · intro c' hc'
      rcases List.mem_append.mp hc' with h | h
      · exact hcs c' h
      · cases List.mem_singleton.mp h
        exact hc
  obtain ⟨vs, cs, hDv, hl, hvs, hcs, m5⟩ := hP
  rw [hl7] at hl
  have hcl : cs.length = 7 := by have h := hvs.1; rw [List.length_map] at h; omega
  have hO5 : H5 po = some (.lst oV) := m5.1 _ _ npob hO4
  have oO5 := oO4.keep (m5.kt m4.2)
  refine ⟨_, rfl, D, po, vs, oV, rfl, rfl, hDv, hO5, (by rw [hl, hoV]; decide), fun p5 hp5 => ?_⟩
  have e5 := same_new (o := .lst (vs ++ oV)) hp5
  have m6 : Mv b d H4 (upd H5 p5 (.lst (vs ++ oV))) := m5.ext e5
  have h5 : upd H5 p5 (.lst (vs ++ oV)) p5 = some (.lst (vs ++ oV)) := upd_same
  have n54 : p4 ≠ p5 := ne_of_none (m5.1 _ _ n4 hk4) hp5
  have n5o : po ≠ p5 := ne_of_none hO5 hp5
  have n5b : p5 ≠ b := (m5.2.neb hp5).1
  have ov7 : Vds K (upd H5 p5 (.lst (vs ++ oV))) (vs ++ oV) ((cs ++ cO).map Cd.data) := by
    rw [List.map_append]
    exact (hvs.app oO5).keep (Kt.same e5)
  have hw : (vs ++ oV).length = 21 := by rw [List.length_append, hl, hoV]
  have w0 : (vs ++ oV)[0]? = some (vs.getD 0 .non) := by rw [List.getElem?_append_left (by omega)]; exact getD_at (by omega)
  have w1 : (vs ++ oV)[1]? = some (vs.getD 1 .non) := by rw [List.getElem?_append_left (by omega)]; exact getD_at (by omega)
  have c0 := hcs _ (List.mem_of_getElem? (getD_at (ds := cs) (a0 := Cd.rising) (i := 0) (by omega)))
  have c1 := hcs _ (List.mem_of_getElem? (getD_at (ds := cs) (a0 := Cd.rising) (i := 1) (by omega)))
  have x0 : ((cs ++ cO).map Cd.data)[0]? = some (cs.getD 0 .rising).data := by
    rw [List.getElem?_map, List.getElem?_append_left (by omega), getD_at (ds := cs) (a0 := Cd.rising) (i := 0) (by omega)]; rfl
  have x1 : ((cs ++ cO).map Cd.data)[1]? = some (cs.getD 1 .rising).data := by
    rw [List.getElem?_map, List.getElem?_append_left (by omega), getD_at (ds := cs) (a0 := Cd.rising) (i := 1) (by omega)]; rfl
  have y0 := ov7.2 0 _ _ w0 x0
  have y1 := ov7.2 1 _ _ w1 x1
  have cc7 : ∀ c ∈ cs ++ cO, OkC 6 c := fun c hc => by
    rcases List.mem_append.mp hc with h | h
    · exact (hcs c h).mono (by omega)
    · exact (okO c h).mono (by omega)
  generalize vs.getD 0 .non = vv0 at w0 y0
  generalize vs.getD 1 .non = vv1 at w1 y1
  generalize cs.getD 0 .rising = cc0 at c0 x0 y0
  generalize cs.getD 1 .rising = cc1 at c1 x1 y1
  generalize vs ++ oV = wV at e5 m6 h5 ov7 hw w0 w1 y0 y1 ⊢
  generalize cs ++ cO = wC at ov7 cc7 x0 x1
  -- limits.append(('and', limits[0], limits[1]))
  refine q_appU h5 (ev_var rfl) (eu_tup (ea_cons ev_c (ea_cons (ev_ixL (j := 0) (ev_var rfl) ev_c (.of h5) w0) (ea_cons (ev_ixL (j := 1) (ev_var rfl) ev_c (.of h5) w1) ea_nil))) (by show 3 ≤ 100000; decide)) (by omega) fun pA HA hA eA tA => ?_
  have h8 : upd HA p5 (.lst (wV ++ [.ref pA])) p5 = some (.lst (wV ++ [.ref pA])) := upd_same
  have tA8 : upd HA p5 (.lst (wV ++ [.ref pA])) pA = some (.tup [.str "and", vv0, vv1]) := by rw [upd_ne (fun e => by rw [e, h5] at hA; cases hA)]; exact tA
  have k8 : Kt K (upd H5 p5 (.lst wV)) (upd HA p5 (.lst (wV ++ [.ref pA]))) := (Kt.same eA).trans (Kt.lst (eA _ _ h5))
  have ov8 : Vds K (upd HA p5 (.lst (wV ++ [.ref pA]))) (wV ++ [.ref pA]) ((wC ++ [Cd.and_ cc0 cc1]).map Cd.data) := by
    rw [List.map_append]
    refine (ov7.keep k8).snoc ?_
    rw [Cd.data]
    exact .t3 (.of tA8) (.str _) (y0.keep k8) (y1.keep k8)
  have a0 : (wV ++ [V.ref pA])[0]? = some vv0 := by rw [List.getElem?_append_left (by omega)]; exact w0
  refine q_appU h8 (ev_var rfl) (eu_tup (ea_cons ev_c (ea_cons (ev_ixL (j := 0) (ev_var rfl) ev_c (.of h8) a0) (ea_cons (ev_ixL (j := 0) (ev_var rfl) ev_c (.of h8) a0) ea_nil))) (by show 3 ≤ 100000; decide)) (by rw [List.length_append, hw]; show 22 < 100000; decide) fun pB HB hB' eB tB => ?_
  have h9 : upd HB p5 (.lst (wV ++ [.ref pA] ++ [.ref pB])) p5 = some (.lst (wV ++ [.ref pA] ++ [.ref pB])) := upd_same
  have tB9 : upd HB p5 (.lst (wV ++ [.ref pA] ++ [.ref pB])) pB = some (.tup [.str "or", vv0, vv0]) := by rw [upd_ne (fun e => by rw [e, h8] at hB'; cases hB')]; exact tB
  have k9 : Kt K (upd HA p5 (.lst (wV ++ [.ref pA]))) (upd HB p5 (.lst (wV ++ [.ref pA] ++ [.ref pB]))) := (Kt.same eB).trans (Kt.lst (eB _ _ h8))
  have ov9 : Vds K (upd HB p5 (.lst (wV ++ [.ref pA] ++ [.ref pB]))) (wV ++ [.ref pA] ++ [.ref pB]) ((wC ++ [Cd.and_ cc0 cc1] ++ [Cd.or_ cc0 cc0]).map Cd.data) := by
    rw [List.map_append]
    refine (ov8.keep k9).snoc ?_
    rw [Cd.data]
    exact .t3 (.of tB9) (.str _) (y0.keep (k8.trans k9)) (y0.keep (k8.trans k9))
  have hp5' : H4 p5 = none := by
    cases hq : H4 p5 with
    | none => rfl
    | some o =>
      have := m5.1 _ _ n5b hq
      rw [hp5] at this
      cases this
  have m9 : Mv b d H4 (upd HB p5 (.lst (wV ++ [.ref pA] ++ [.ref pB]))) := ((((m6.ext eA).mut m4.2 hp5').ext eB).mut m4.2 hp5')
  have FD : Found K (upd HB p5 (.lst (wV ++ [.ref pA] ++ [.ref pB]))) p4 p5 kV (wV ++ [.ref pA] ++ [.ref pB]) ks (wC ++ [Cd.and_ cc0 cc1] ++ [Cd.or_ cc0 cc0]) :=
    ⟨m9.1 _ _ n4 hk4, h9, (ok4.keep (m9.kt m4.2)), ov9, fun k hk => (kk k hk).1, fun c hc => by
      rcases List.mem_append.mp hc with h | h
      · rcases List.mem_append.mp h with h | h
        · exact cc7 c h
        · cases List.mem_singleton.mp h
          exact .and_ c0 c1
      · cases List.mem_singleton.mp h
        exact .or_ c0 c0⟩
  have hS9 := script_stays hS hb e1 (m4.trans m9)
  have hO9 := m9.1 _ _ npob hO4
  have oO9 := oO4.keep (m9.kt m4.2)
  generalize upd HB p5 (.lst (wV ++ [.ref pA] ++ [.ref pB])) = H9 at FD hS9 hO9 oO9 ⊢
  generalize wV ++ [V.ref pA] ++ [V.ref pB] = vV at FD
  generalize wC ++ [Cd.and_ cc0 cc1] ++ [Cd.or_ cc0 cc0] = cV at FD
  -- the loops
  refine s_forLn (a := p4) (xs := kV) (ev_var rfl) (.of FD.hk) (fun i σ' H' => ∃ z2 z6 z7 z8 : Option V, σ' = [some (.ref a), some (.ref po), z2, some (.ref b), some (.ref p4), some (.ref p5), z6, z7, z8] ∧ Same H9 H') (fun H' e => ⟨_, _, _, _, rfl, e⟩)
    (fun i σ' H' _ ⟨_, _, _, _, _, e⟩ => .of (e _ _ FD.hk)) (fun i u σ' H' hu hP => ?_) (fun σ' H' hP => ?_)
  case refine_2 =>
    obtain ⟨z2, z6, z7, z8, rfl, e⟩ := hP
    exact ⟨_, _, _, _, _, _, _, rfl, e.seq hS9, e _ _ hO9, oO9.keep (Kt.same e)⟩
  obtain ⟨z2, z6, z7, z8, rfl, e⟩ := hP
  have hi6 : i < ks.length := by have := (List.getElem?_eq_some_iff.mp hu).1; have := FD.ok.1; rw [List.length_map] at this; omega
  have hkd : (ks.map Kd.data)[i]? = some (ks.getD i .int).data := by rw [List.getElem?_map, getD_at (a0 := Kd.int) hi6]; rfl
  have hok := (FD.kk _ (List.mem_of_getElem? (getD_at (a0 := Kd.int) hi6))).mono (show 3 ≤ 10 by decide)
  have hu9 := FD.ok.2 i u _ hu hkd
  generalize ks.getD i .int = kd at hok hu9
  refine s_forLn (a := p5) (xs := vV) (ev_var rfl) (.of (e _ _ FD.hv)) (fun i σ' H' => ∃ z7 z8 : Option V, σ' = [some (.ref a), some (.ref po), z2, some (.ref b), some (.ref p4), some (.ref p5), some u, z7, z8] ∧ Same H9 H') (fun H' e' => ⟨_, _, rfl, e.trans e'⟩)
    (fun i σ' H' _ ⟨_, _, _, e⟩ => .of (e _ _ FD.hv)) (fun j v σ' H' hv hP => ?_) (fun σ' H' hP => ?_)
  case refine_2 =>
    obtain ⟨z7, z8, rfl, e⟩ := hP
    exact ⟨_, _, _, _, rfl, e⟩
  obtain ⟨z7, z8, rfl, e'⟩ := hP
  have hj : j < cV.length := by have := (List.getElem?_eq_some_iff.mp hv).1; have := FD.ov.1; rw [List.length_map] at this; omega
  have hcd : (cV.map Cd.data)[j]? = some (cV.getD j .rising).data := by rw [List.getElem?_map, getD_at (a0 := Cd.rising) hj]; rfl
  have hc6 := FD.cc _ (List.mem_of_getElem? (getD_at (a0 := Cd.rising) hj))
  have hv9 := FD.ov.2 j v _ hv hcd
  generalize cV.getD j .rising = cd at hc6 hv9
  refine q_asg (ev_callC (ea_cons (ev_var rfl) (ea_cons (ev_var rfl) ea_nil)) (fits_call (hv9.keep (Kt.same e')) hc6 (hu9.keep (Kt.same e')) hok)) fun Ha ea => ?_
  have e9a := e'.trans ea
  refine s_when (b := false) (et_orF (et_not (et_B (ev_isiB (ev_var rfl) ev_c k_bb))) (et_is (et_test (ev_op (ev_var rfl) (ev_callC (ea_cons (ev_var rfl) (ea_cons (ev_var rfl) ea_nil)) (fits_call (hv9.keep (Kt.same e9a)) hc6 (hu9.keep (Kt.same e9a)) hok)) (rv_ne rfl))) (by rw [decide_eq_true rfl]; rfl))) (fun h => Bool.noConfusion h) (fun _ Hb eb => ?_)
  exact ⟨_, _, rfl, e9a.trans eb⟩
end
end K2
namespace K2
open PySem PySem.Spec PyProof.Rows L2 Evl Cr
theorem rec_lkind {P : Program} {w : World} {K : PySem.W.Frag} {mg : Str → Option Value} {base : Heap} {f : Addr} {fd : FuncData} (T : Tx mg) (F : Fun K "_law_kind" "_law_kind" s__law_kind f fd) (b : Binds K fd ["box", "depth"] []) (m : mg "_law_kind" = some (.ref f)) (c__law_take : Cl P w K mg base "_law_take" ["box", "many"] 1 spTake) :
    ∀ n : Nat, FnOk P w K mg base CX0 (n + 1) f fd ["box", "depth"] (spLKind2 K n)
  | 0 => no_call fun vs H Q E h => by
    obtain ⟨_, _, _, _, _, h, _⟩ := h
    omega
  | n + 1 => ok__law_kind T F c__law_take ⟨f, fd, rec_lkind T F b m c__law_take n, b, F.kp, m⟩
theorem rec_lfits {P : Program} {w : World} {K : PySem.W.Frag} {mg : Str → Option Value} {base : Heap} {f : Addr} {fd : FuncData} (T : Tx mg) (F : Fun K "_law_fits" "_law_fits" s__law_fits f fd) (b : Binds K fd ["limit", "kind"] []) (m : mg "_law_fits" = some (.ref f)) (c__law_isword : Cl P w K mg base "_law_isword" ["word"] 1 spLWord) :
    ∀ n : Nat, FnOk P w K mg base CX0 (n + 1) f fd ["limit", "kind"] (spFits K n)
  | 0 => no_call spFits_0
  | n + 1 => ok__law_fits T F c__law_isword ⟨f, fd, rec_lfits T F b m c__law_isword n, b, F.kp, m⟩
theorem rec_llimit {P : Program} {w : World} {K : PySem.W.Frag} {mg : Str → Option Value} {base : Heap} {f : Addr} {fd : FuncData} (T : Tx mg) (F : Fun K "_law_limit" "_law_limit" s__law_limit f fd) (b : Binds K fd ["box", "kind", "depth"] []) (m : mg "_law_limit" = some (.ref f)) (c__law_take : Cl P w K mg base "_law_take" ["box", "many"] 1 spTake) :
    ∀ n : Nat, FnOk P w K mg base CX0 (n + 1) f fd ["box", "kind", "depth"] (spLLimit K n)
  | 0 => no_call spLLimit_0
  | n + 1 => ok__law_limit T F c__law_take ⟨f, fd, rec_llimit T F b m c__law_take n, b, F.kp, m⟩
theorem rec_fits {P : Program} {w : World} {K : PySem.W.Frag} {mg : Str → Option Value} {base : Heap} {f fi fl : Addr} {fd fdi fdl : FuncData} (T : Tx mg) (F : Fun K "fits" "fits" s_fits f fd) (b : Binds K fd ["condition", "kind"] []) (m : mg "fits" = some (.ref f))
    (Fi : Fun K "_fits_item" "_fits_item" s__fits_item fi fdi) (bi : Binds K fdi ["place", "condition", "kinds"] []) (mi : mg "_fits_item" = some (.ref fi)) (Fl : Fun K "_fits_list" "_fits_list" s__fits_list fl fdl) (bl : Binds K fdl ["condition", "listed"] []) (ml : mg "_fits_list" = some (.ref fl))
    (c_is_word : Cl P w K mg base "is_word" ["text"] 1 spWord) (c_kinds_in_tuple : Cl P w K mg base "kinds_in_tuple" ["kind"] 1 (spKit K)) (c_kind_in_list : Cl P w K mg base "kind_in_list" ["kind"] 1 (spKil K)) : ∀ n : Nat, FnOk P w K mg base CX0 (2 * n + 1) f fd ["condition", "kind"] (spFits K n)
  | 0 => no_call spFits_0
  | n + 1 =>
    have G := rec_fits T F b m Fi bi mi Fl bl ml c_is_word c_kinds_in_tuple c_kind_in_list n
    ok_fits T F c_is_word c_kinds_in_tuple c_kind_in_list ⟨f, fd, G, b, F.kp, m⟩ ⟨fi, fdi, ok__fits_item T Fi ⟨f, fd, G, b, F.kp, m⟩, bi, Fi.kp, mi⟩ ⟨fl, fdl, ok__fits_list T Fl ⟨f, fd, G, b, F.kp, m⟩, bl, Fl.kp, ml⟩
theorem all_mk {l : PySem.W.OpenLaw} {w : World} {K : PySem.W.Frag} {h : Heap} {mg : Str → Option Value} {fa : Addr} (X : K.In h) (G : h.Ns mainGlobals mg) (hfa : mg "law" = some (.ref fa))
    {f1 : Addr} {od1 an1 : Option Addr} {sl1 : Array (Option Value)} {oc1 kV1 dc1 pm1 cd1 ct1 : Value}
    {f2 : Addr} {od2 an2 : Option Addr} {sl2 : Array (Option Value)} {oc2 kV2 dc2 pm2 cd2 ct2 : Value}
    {f3 : Addr} {od3 an3 : Option Addr} {sl3 : Array (Option Value)} {oc3 kV3 dc3 pm3 cd3 ct3 : Value}
    {f4 : Addr} {od4 an4 : Option Addr} {sl4 : Array (Option Value)} {oc4 kV4 dc4 pm4 cd4 ct4 : Value}
    {f5 : Addr} {od5 an5 : Option Addr} {sl5 : Array (Option Value)} {oc5 kV5 dc5 pm5 cd5 ct5 : Value}
    {f6 : Addr} {od6 an6 : Option Addr} {sl6 : Array (Option Value)} {oc6 kV6 dc6 pm6 cd6 ct6 : Value}
    {f7 : Addr} {od7 an7 : Option Addr} {sl7 : Array (Option Value)} {oc7 kV7 dc7 pm7 cd7 ct7 : Value}
    {f8 : Addr} {od8 an8 : Option Addr} {sl8 : Array (Option Value)} {oc8 kV8 dc8 pm8 cd8 ct8 : Value}
    {f9 : Addr} {od9 an9 : Option Addr} {sl9 : Array (Option Value)} {oc9 kV9 dc9 pm9 cd9 ct9 : Value}
    {f10 : Addr} {od10 an10 : Option Addr} {sl10 : Array (Option Value)} {oc10 kV10 dc10 pm10 cd10 ct10 : Value}
    {f11 : Addr} {od11 an11 : Option Addr} {sl11 : Array (Option Value)} {oc11 kV11 dc11 pm11 cd11 ct11 : Value}
    {f12 : Addr} {od12 an12 : Option Addr} {sl12 : Array (Option Value)} {oc12 kV12 dc12 pm12 cd12 ct12 : Value}
    {f13 : Addr} {od13 an13 : Option Addr} {sl13 : Array (Option Value)} {oc13 kV13 dc13 pm13 cd13 ct13 : Value}
    {f14 : Addr} {od14 an14 : Option Addr} {sl14 : Array (Option Value)} {oc14 kV14 dc14 pm14 cd14 ct14 : Value}
    {f15 : Addr} {od15 an15 : Option Addr} {sl15 : Array (Option Value)} {oc15 kV15 dc15 pm15 cd15 ct15 : Value}
    {t_LETTERS : Tok}
    {t_DIVISOR : Tok}
    (a1 : PySem.W.nsIn K mainGlobals "is_word" = some (some (.ref f1))) (l1 : K.lookup f1 = some ⟨oc1, od1, .func (PySem.W.fnOf "is_word" "is_word" (defArgs s_is_word) (defBody s_is_word) (defScope s_is_word) .none kV1 dc1 pm1 an1 cd1 ct1), sl1⟩) (c1 : PySem.W.codeIn K cd1 "is_word" = true) (k1 : PySem.W.keepIn K (.ref f1) = true)
    (a2 : PySem.W.nsIn K mainGlobals "kinds_in_tuple" = some (some (.ref f2))) (l2 : K.lookup f2 = some ⟨oc2, od2, .func (PySem.W.fnOf "kinds_in_tuple" "kinds_in_tuple" (defArgs s_kinds_in_tuple) (defBody s_kinds_in_tuple) (defScope s_kinds_in_tuple) .none kV2 dc2 pm2 an2 cd2 ct2), sl2⟩) (c2 : PySem.W.codeIn K cd2 "kinds_in_tuple" = true) (k2 : PySem.W.keepIn K (.ref f2) = true)
    (a3 : PySem.W.nsIn K mainGlobals "kind_in_list" = some (some (.ref f3))) (l3 : K.lookup f3 = some ⟨oc3, od3, .func (PySem.W.fnOf "kind_in_list" "kind_in_list" (defArgs s_kind_in_list) (defBody s_kind_in_list) (defScope s_kind_in_list) .none kV3 dc3 pm3 an3 cd3 ct3), sl3⟩) (c3 : PySem.W.codeIn K cd3 "kind_in_list" = true) (k3 : PySem.W.keepIn K (.ref f3) = true)
    (a4 : PySem.W.nsIn K mainGlobals "fits" = some (some (.ref f4))) (l4 : K.lookup f4 = some ⟨oc4, od4, .func (PySem.W.fnOf "fits" "fits" (defArgs s_fits) (defBody s_fits) (defScope s_fits) .none kV4 dc4 pm4 an4 cd4 ct4), sl4⟩) (c4 : PySem.W.codeIn K cd4 "fits" = true) (k4 : PySem.W.keepIn K (.ref f4) = true)
    (a5 : PySem.W.nsIn K mainGlobals "_fits_item" = some (some (.ref f5))) (l5 : K.lookup f5 = some ⟨oc5, od5, .func (PySem.W.fnOf "_fits_item" "_fits_item" (defArgs s__fits_item) (defBody s__fits_item) (defScope s__fits_item) .none kV5 dc5 pm5 an5 cd5 ct5), sl5⟩) (c5 : PySem.W.codeIn K cd5 "_fits_item" = true) (k5 : PySem.W.keepIn K (.ref f5) = true)
    (a6 : PySem.W.nsIn K mainGlobals "_fits_list" = some (some (.ref f6))) (l6 : K.lookup f6 = some ⟨oc6, od6, .func (PySem.W.fnOf "_fits_list" "_fits_list" (defArgs s__fits_list) (defBody s__fits_list) (defScope s__fits_list) .none kV6 dc6 pm6 an6 cd6 ct6), sl6⟩) (c6 : PySem.W.codeIn K cd6 "_fits_list" = true) (k6 : PySem.W.keepIn K (.ref f6) = true)
    (a7 : PySem.W.nsIn K mainGlobals "_law_cell" = some (some (.ref f7))) (l7 : K.lookup f7 = some ⟨oc7, od7, .func (PySem.W.fnOf "_law_cell" "_law_cell" (defArgs s__law_cell) (defBody s__law_cell) (defScope s__law_cell) .none kV7 dc7 pm7 an7 cd7 ct7), sl7⟩) (c7 : PySem.W.codeIn K cd7 "_law_cell" = true) (k7 : PySem.W.keepIn K (.ref f7) = true)
    (a8 : PySem.W.nsIn K mainGlobals "_law_draw" = some (some (.ref f8))) (l8 : K.lookup f8 = some ⟨oc8, od8, .func (PySem.W.fnOf "_law_draw" "_law_draw" (defArgs s__law_draw) (defBody s__law_draw) (defScope s__law_draw) .none kV8 dc8 pm8 an8 cd8 ct8), sl8⟩) (c8 : PySem.W.codeIn K cd8 "_law_draw" = true) (k8 : PySem.W.keepIn K (.ref f8) = true)
    (a9 : PySem.W.nsIn K mainGlobals "_law_box" = some (some (.ref f9))) (l9 : K.lookup f9 = some ⟨oc9, od9, .func (PySem.W.fnOf "_law_box" "_law_box" (defArgs s__law_box) (defBody s__law_box) (defScope s__law_box) .none kV9 dc9 pm9 an9 cd9 ct9), sl9⟩) (c9 : PySem.W.codeIn K cd9 "_law_box" = true) (k9 : PySem.W.keepIn K (.ref f9) = true)
    (a10 : PySem.W.nsIn K mainGlobals "_law_take" = some (some (.ref f10))) (l10 : K.lookup f10 = some ⟨oc10, od10, .func (PySem.W.fnOf "_law_take" "_law_take" (defArgs s__law_take) (defBody s__law_take) (defScope s__law_take) .none kV10 dc10 pm10 an10 cd10 ct10), sl10⟩) (c10 : PySem.W.codeIn K cd10 "_law_take" = true) (k10 : PySem.W.keepIn K (.ref f10) = true)
    (a11 : PySem.W.nsIn K mainGlobals "_law_kind" = some (some (.ref f11))) (l11 : K.lookup f11 = some ⟨oc11, od11, .func (PySem.W.fnOf "_law_kind" "_law_kind" (defArgs s__law_kind) (defBody s__law_kind) (defScope s__law_kind) .none kV11 dc11 pm11 an11 cd11 ct11), sl11⟩) (c11 : PySem.W.codeIn K cd11 "_law_kind" = true) (k11 : PySem.W.keepIn K (.ref f11) = true)
    (a12 : PySem.W.nsIn K mainGlobals "_law_limit" = some (some (.ref f12))) (l12 : K.lookup f12 = some ⟨oc12, od12, .func (PySem.W.fnOf "_law_limit" "_law_limit" (defArgs s__law_limit) (defBody s__law_limit) (defScope s__law_limit) .none kV12 dc12 pm12 an12 cd12 ct12), sl12⟩) (c12 : PySem.W.codeIn K cd12 "_law_limit" = true) (k12 : PySem.W.keepIn K (.ref f12) = true)
    (a13 : PySem.W.nsIn K mainGlobals "_law_isword" = some (some (.ref f13))) (l13 : K.lookup f13 = some ⟨oc13, od13, .func (PySem.W.fnOf "_law_isword" "_law_isword" (defArgs s__law_isword) (defBody s__law_isword) (defScope s__law_isword) .none kV13 dc13 pm13 an13 cd13 ct13), sl13⟩) (c13 : PySem.W.codeIn K cd13 "_law_isword" = true) (k13 : PySem.W.keepIn K (.ref f13) = true)
    (a14 : PySem.W.nsIn K mainGlobals "_law_fits" = some (some (.ref f14))) (l14 : K.lookup f14 = some ⟨oc14, od14, .func (PySem.W.fnOf "_law_fits" "_law_fits" (defArgs s__law_fits) (defBody s__law_fits) (defScope s__law_fits) .none kV14 dc14 pm14 an14 cd14 ct14), sl14⟩) (c14 : PySem.W.codeIn K cd14 "_law_fits" = true) (k14 : PySem.W.keepIn K (.ref f14) = true)
    (a15 : PySem.W.nsIn K mainGlobals "law" = some (some (.ref f15))) (l15 : K.lookup f15 = some ⟨oc15, od15, .func (PySem.W.fnOf "law" "law" (defArgs s_law) (defBody s_law) (defScope s_law) .none kV15 dc15 pm15 an15 cd15 ct15), sl15⟩) (c15 : PySem.W.codeIn K cd15 "law" = true) (k15 : PySem.W.keepIn K (.ref f15) = true)
    (z_len : PySem.W.nsIn K mainGlobals "len" = some none)
    (z_all : PySem.W.nsIn K mainGlobals "all" = some none)
    (z_isinstance : PySem.W.nsIn K mainGlobals "isinstance" = some none)
    (z_tuple : PySem.W.nsIn K mainGlobals "tuple" = some none)
    (z_str : PySem.W.nsIn K mainGlobals "str" = some none)
    (z_bool : PySem.W.nsIn K mainGlobals "bool" = some none)
    (z_range : PySem.W.nsIn K mainGlobals "range" = some none)
    (z_min : PySem.W.nsIn K mainGlobals "min" = some none)
    (z_max : PySem.W.nsIn K mainGlobals "max" = some none)
    (m_LETTERS : PySem.W.nsIn K mainGlobals "LETTERS" = some (some (.int 8 t_LETTERS)))
    (m_DIVISOR : PySem.W.nsIn K mainGlobals "DIVISOR" = some (some (.int 100 t_DIVISOR))) :
    ∃ fd : FuncData, (∀ (s : Shared) (v : Value), BindsTo s fd ⟨[v], []⟩ [("script", v)]) ∧ ∀ base : Heap, K.In base → base.Ns mainGlobals mg → FnOk l.prog w K mg base CX0 14 fa fd ["script"] (spLaw K) := by
  have F_is_word := fun_mk (st := s_is_word) l1 c1 k1
  have b_is_word := F_is_word.binds (ps := ["text"]) fun _ _ _ _ _ _ us hl => match us, hl with | [_], _ => rfl
  have m_is_word := PySem.W.mg_of X G a1
  have F_kinds_in_tuple := fun_mk (st := s_kinds_in_tuple) l2 c2 k2
  have b_kinds_in_tuple := F_kinds_in_tuple.binds (ps := ["kind"]) fun _ _ _ _ _ _ us hl => match us, hl with | [_], _ => rfl
  have m_kinds_in_tuple := PySem.W.mg_of X G a2
  have F_kind_in_list := fun_mk (st := s_kind_in_list) l3 c3 k3
  have b_kind_in_list := F_kind_in_list.binds (ps := ["kind"]) fun _ _ _ _ _ _ us hl => match us, hl with | [_], _ => rfl
  have m_kind_in_list := PySem.W.mg_of X G a3
  have F_fits := fun_mk (st := s_fits) l4 c4 k4
  have b_fits := F_fits.binds (ps := ["condition", "kind"]) fun _ _ _ _ _ _ us hl => match us, hl with | [_, _], _ => rfl
  have m_fits := PySem.W.mg_of X G a4
  have F__fits_item := fun_mk (st := s__fits_item) l5 c5 k5
  have b__fits_item := F__fits_item.binds (ps := ["place", "condition", "kinds"]) fun _ _ _ _ _ _ us hl => match us, hl with | [_, _, _], _ => rfl
  have m__fits_item := PySem.W.mg_of X G a5
  have F__fits_list := fun_mk (st := s__fits_list) l6 c6 k6
  have b__fits_list := F__fits_list.binds (ps := ["condition", "listed"]) fun _ _ _ _ _ _ us hl => match us, hl with | [_, _], _ => rfl
  have m__fits_list := PySem.W.mg_of X G a6
  have F__law_cell := fun_mk (st := s__law_cell) l7 c7 k7
  have b__law_cell := F__law_cell.binds (ps := ["script", "k"]) fun _ _ _ _ _ _ us hl => match us, hl with | [_, _], _ => rfl
  have m__law_cell := PySem.W.mg_of X G a7
  have F__law_draw := fun_mk (st := s__law_draw) l8 c8 k8
  have b__law_draw := F__law_draw.binds (ps := ["script", "k", "sizes"]) fun _ _ _ _ _ _ us hl => match us, hl with | [_, _, _], _ => rfl
  have m__law_draw := PySem.W.mg_of X G a8
  have F__law_box := fun_mk (st := s__law_box) l9 c9 k9
  have b__law_box := F__law_box.binds (ps := ["script", "k"]) fun _ _ _ _ _ _ us hl => match us, hl with | [_, _], _ => rfl
  have m__law_box := PySem.W.mg_of X G a9
  have F__law_take := fun_mk (st := s__law_take) l10 c10 k10
  have b__law_take := F__law_take.binds (ps := ["box", "many"]) fun _ _ _ _ _ _ us hl => match us, hl with | [_, _], _ => rfl
  have m__law_take := PySem.W.mg_of X G a10
  have F__law_kind := fun_mk (st := s__law_kind) l11 c11 k11
  have b__law_kind := F__law_kind.binds (ps := ["box", "depth"]) fun _ _ _ _ _ _ us hl => match us, hl with | [_, _], _ => rfl
  have m__law_kind := PySem.W.mg_of X G a11
  have F__law_limit := fun_mk (st := s__law_limit) l12 c12 k12
  have b__law_limit := F__law_limit.binds (ps := ["box", "kind", "depth"]) fun _ _ _ _ _ _ us hl => match us, hl with | [_, _, _], _ => rfl
  have m__law_limit := PySem.W.mg_of X G a12
  have F__law_isword := fun_mk (st := s__law_isword) l13 c13 k13
  have b__law_isword := F__law_isword.binds (ps := ["word"]) fun _ _ _ _ _ _ us hl => match us, hl with | [_], _ => rfl
  have m__law_isword := PySem.W.mg_of X G a13
  have F__law_fits := fun_mk (st := s__law_fits) l14 c14 k14
  have b__law_fits := F__law_fits.binds (ps := ["limit", "kind"]) fun _ _ _ _ _ _ us hl => match us, hl with | [_, _], _ => rfl
  have m__law_fits := PySem.W.mg_of X G a14
  have F_law := fun_mk (st := s_law) l15 c15 k15
  have b_law := F_law.binds (ps := ["script"]) fun _ _ _ _ _ _ us hl => match us, hl with | [_], _ => rfl
  have m_law := PySem.W.mg_of X G a15
  cases hfa.symm.trans m_law
  have T : Tx mg := { z_len := PySem.W.mg_none_of X G z_len, z_all := PySem.W.mg_none_of X G z_all, z_isinstance := PySem.W.mg_none_of X G z_isinstance, z_tuple := PySem.W.mg_none_of X G z_tuple, z_str := PySem.W.mg_none_of X G z_str, z_bool := PySem.W.mg_none_of X G z_bool, z_range := PySem.W.mg_none_of X G z_range, z_min := PySem.W.mg_none_of X G z_min, z_max := PySem.W.mg_none_of X G z_max, m_LETTERS := ⟨_, PySem.W.mg_of X G m_LETTERS⟩, m_DIVISOR := ⟨_, PySem.W.mg_of X G m_DIVISOR⟩ }
  refine ⟨PySem.W.fnOf "law" "law" (defArgs s_law) (defBody s_law) (defScope s_law) .none kV15 dc15 pm15 an15 cd15 ct15, fun s v => .of_eq rfl, fun base _ _ => ?_⟩
  exact ok_law T F_law
    ⟨_, _, rec_fits T F_fits b_fits m_fits F__fits_item b__fits_item m__fits_item F__fits_list b__fits_list m__fits_list ⟨_, _, ok_is_word T F_is_word, b_is_word, F_is_word.kp, m_is_word⟩ ⟨_, _, ok_kinds_in_tuple T F_kinds_in_tuple, b_kinds_in_tuple, F_kinds_in_tuple.kp, m_kinds_in_tuple⟩ ⟨_, _, ok_kind_in_list T F_kind_in_list, b_kind_in_list, F_kind_in_list.kp, m_kind_in_list⟩ 6, b_fits, F_fits.kp, m_fits⟩
    ⟨_, _, rec_lfits T F__law_fits b__law_fits m__law_fits ⟨_, _, ok__law_isword T F__law_isword, b__law_isword, F__law_isword.kp, m__law_isword⟩ 6, b__law_fits, F__law_fits.kp, m__law_fits⟩
    ⟨_, _, ok__law_box T F__law_box ⟨_, _, ok__law_draw T F__law_draw ⟨_, _, ok__law_cell T F__law_cell, b__law_cell, F__law_cell.kp, m__law_cell⟩, b__law_draw, F__law_draw.kp, m__law_draw⟩, b__law_box, F__law_box.kp, m__law_box⟩
    ⟨_, _, rec_lkind T F__law_kind b__law_kind m__law_kind ⟨_, _, ok__law_take T F__law_take, b__law_take, F__law_take.kp, m__law_take⟩ 3, b__law_kind, F__law_kind.kp, m__law_kind⟩
    ⟨_, _, rec_llimit T F__law_limit b__law_limit m__law_limit ⟨_, _, ok__law_take T F__law_take, b__law_take, F__law_take.kp, m__law_take⟩ 5, b__law_limit, F__law_limit.kp, m__law_limit⟩
end K2
open PySem PySem.W PyProof.Rows
set_option maxHeartbeats 0 in
theorem PySem.Challenge.cw_choicerows_k02_conditions_that_fit_holds : PySem.Challenge.rw_choicerows_k02_conditions_that_fit.Holds := by
  w_on; o_law; k_head; (case hw => w_witness2)
  k_fill
  refine L2.walk_of (l := PySem.Challenge.rw_choicerows_k02_conditions_that_fit) (n := 63) (k := 14) (x := "script") (CX := fun _ => L2.CX0) (sp := fun w => Cr.spLaw _) rfl (by decide) rfl ⟨rfl, by decide, by decide⟩ (fun w h Y => PySem.W.kIn_of Y) ?F (fun _ _ a ns hl _ hS => ⟨a, ns, rfl, hS, hl, fun _ => rfl⟩) (fun _ _ _ _ _ h => h)
  case F =>
    intro w mg fa h KX G hmg
    refine' K2.all_mk KX G hmg ?a1 ?l1 ?c1 ?k1 ?a2 ?l2 ?c2 ?k2 ?a3 ?l3 ?c3 ?k3 ?a4 ?l4 ?c4 ?k4 ?a5 ?l5 ?c5 ?k5 ?a6 ?l6 ?c6 ?k6 ?a7 ?l7 ?c7 ?k7 ?a8 ?l8 ?c8 ?k8 ?a9 ?l9 ?c9 ?k9 ?a10 ?l10 ?c10 ?k10 ?a11 ?l11 ?c11 ?k11 ?a12 ?l12 ?c12 ?k12 ?a13 ?l13 ?c13 ?k13 ?a14 ?l14 ?c14 ?k14 ?a15 ?l15 ?c15 ?k15 ?z_len ?z_all ?z_isinstance ?z_tuple ?z_str ?z_bool ?z_range ?z_min ?z_max ?m_LETTERS ?m_DIVISOR
    (case a1 => k_is)
    (case l1 => k_is)
    (case c1 => k_is)
    (case k1 => k_is)
    (case a2 => k_is)
    (case l2 => k_is)
    (case c2 => k_is)
    (case k2 => k_is)
    (case a3 => k_is)
    (case l3 => k_is)
    (case c3 => k_is)
    (case k3 => k_is)
    (case a4 => k_is)
    (case l4 => k_is)
    (case c4 => k_is)
    (case k4 => k_is)
    (case a5 => k_is)
    (case l5 => k_is)
    (case c5 => k_is)
    (case k5 => k_is)
    (case a6 => k_is)
    (case l6 => k_is)
    (case c6 => k_is)
    (case k6 => k_is)
    (case a7 => k_is)
    (case l7 => k_is)
    (case c7 => k_is)
    (case k7 => k_is)
    (case a8 => k_is)
    (case l8 => k_is)
    (case c8 => k_is)
    (case k8 => k_is)
    (case a9 => k_is)
    (case l9 => k_is)
    (case c9 => k_is)
    (case k9 => k_is)
    (case a10 => k_is)
    (case l10 => k_is)
    (case c10 => k_is)
    (case k10 => k_is)
    (case a11 => k_is)
    (case l11 => k_is)
    (case c11 => k_is)
    (case k11 => k_is)
    (case a12 => k_is)
    (case l12 => k_is)
    (case c12 => k_is)
    (case k12 => k_is)
    (case a13 => k_is)
    (case l13 => k_is)
    (case c13 => k_is)
    (case k13 => k_is)
    (case a14 => k_is)
    (case l14 => k_is)
    (case c14 => k_is)
    (case k14 => k_is)
    (case a15 => k_is)
    (case l15 => k_is)
    (case c15 => k_is)
    (case k15 => k_is)
    (case z_len => k_is)
    (case z_all => k_is)
    (case z_isinstance => k_is)
    (case z_tuple => k_is)
    (case z_str => k_is)
    (case z_bool => k_is)
    (case z_range => k_is)
    (case z_min => k_is)
    (case z_max => k_is)
    (case m_LETTERS => k_is)
    (case m_DIVISOR => k_is)
