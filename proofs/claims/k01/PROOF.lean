import PyProof.Rows.All
import Wide.All
import OpenK.AllK
import Wide.FinOn
import HandS.ForMost
import HandS.IsInst
import HandS.Zip
import HandS.Walk
import HandS.Evl
import PySem.Challenge.RW_choicerows_k01_values_and_kinds
set_option Elab.async false
set_option linter.all false
set_option maxRecDepth 100000
set_option maxHeartbeats 4000000
set_option autoImplicit false
namespace Cr
open PySem PySem.Spec PyProof.Rows L2 Evl

/-! ### data in the heap: ints, texts, tuples -/
/-- tuples that can be read stay so -/
def Kt (K : PySem.W.Frag) (H H' : Hp) : Prop := ∀ a xs, SqT K H a xs → SqT K H' a xs
section
variable {K : PySem.W.Frag} {H H1 H2 H' : Hp}
theorem Kt.refl : Kt K H H := fun _ _ h => h
theorem Kt.trans (a : Kt K H H1) (b : Kt K H1 H2) : Kt K H H2 := fun p xs h => b p xs (a p xs h)
theorem Kt.same (e : Same H H') : Kt K H H' := fun _ _ h => ex_t e h
theorem same_new {p : Addr} {o : HO} (h : H p = none) : Same H (upd H p o) := Ex.new h
theorem same_mut {p : Addr} {o : HO} (e : Same H H') (h : H p = none) : Same H (upd H' p o) := Ex.mut e h
theorem Kt.new {p : Addr} {o : HO} (h : H p = none) : Kt K H (upd H p o) := Kt.same (same_new h)
/-- a list is changed -/
theorem Kt.lst {l : Addr} {xs : List V} {o : HO} (h : H l = some (.lst xs)) : Kt K H (upd H l o) := fun a ys q => by
  rcases q with (q | ⟨ob, q⟩) | q
  · exact .inl (.inl (by rw [upd_ne (ne_of q h (fun z => nomatch z))]; exact q))
  · exact .inl (.inr ⟨ob, by rw [upd_ne (ne_of q h (fun z => nomatch z))]; exact q⟩)
  · exact .inr q
end

inductive Vd (K : PySem.W.Frag) (H : Hp) : V → PyData → Prop
  | int (i : Int) : Vd K H (.int i) (.int i)
  | str (x : Str) : Vd K H (.str x) (.str x)
  | tup {a : Addr} {xs : List V} {ds : List PyData} : SqT K H a xs → xs.length = ds.length → (∀ (i : Nat) v d, xs[i]? = some v → ds[i]? = some d → Vd K H v d) → Vd K H (.ref a) (.tuple ds)
section
variable {K : PySem.W.Frag} {H H' : Hp}
theorem Vd.keep (k : Kt K H H') {v : V} {d : PyData} (h : Vd K H v d) : Vd K H' v d := by
  induction h with
  | int i => exact .int i
  | str x => exact .str x
  | tup hs hl _ ih => exact .tup (k _ _ hs) hl ih
theorem dpAll_of : ∀ {xs : List V} {ds : List PyData}, xs.length = ds.length → (∀ (i : Nat) v d, xs[i]? = some v → ds[i]? = some d → Dp K H v d) → DpAll K H xs ds
  | [], [], _, _ => .nil
  | [], _ :: _, h, _ => by simp at h
  | _ :: _, [], h, _ => by simp at h
  | x :: xs, d :: ds, h, q => .cons (q 0 x d rfl rfl) (dpAll_of (by simpa using h) fun i v e h1 h2 => q (i + 1) v e (by simpa using h1) (by simpa using h2))
theorem Vd.dp {v : V} {d : PyData} (h : Vd K H v d) : Dp K H v d := by
  induction h with
  | int i => exact .int i
  | str x => exact .str x
  | tup hs hl _ ih => exact .tup hs (dpAll_of hl ih)
theorem Vd.get {a : Addr} {ds : List PyData} (h : Vd K H (.ref a) (.tuple ds)) : ∃ xs, SqT K H a xs ∧ xs.length = ds.length ∧ ∀ (i : Nat) v d, xs[i]? = some v → ds[i]? = some d → Vd K H v d := by
  cases h with
  | tup hs hl q => exact ⟨_, hs, hl, q⟩
theorem Vd.ref {v : V} {ds : List PyData} (h : Vd K H v (.tuple ds)) : ∃ a, v = .ref a := by
  cases h with
  | tup hs hl q => exact ⟨_, rfl⟩
theorem Vd.int_inv {v : V} {i : Int} (h : Vd K H v (.int i)) : v = .int i := by cases h; rfl
theorem Vd.str_inv {v : V} {x : Str} (h : Vd K H v (.str x)) : v = .str x := by cases h; rfl
/-- a tuple of one, of two -/
theorem Vd.t0 {p : Addr} (h : SqT K H p []) : Vd K H (.ref p) (.tuple []) := .tup h rfl fun i v d h1 _ => by simp at h1
theorem Vd.t1 {p : Addr} {x : V} {d : PyData} (h : SqT K H p [x]) (hx : Vd K H x d) : Vd K H (.ref p) (.tuple [d]) := .tup h rfl fun i v e h1 h2 => by
  match i with
  | 0 => cases h1; cases h2; exact hx
  | i + 1 => simp at h1
theorem Vd.t2 {p : Addr} {x y : V} {d e : PyData} (h : SqT K H p [x, y]) (hx : Vd K H x d) (hy : Vd K H y e) : Vd K H (.ref p) (.tuple [d, e]) := .tup h rfl fun i v e h1 h2 => by
  match i with
  | 0 => cases h1; cases h2; exact hx
  | 1 => cases h1; cases h2; exact hy
  | i + 2 => simp at h1
theorem Vd.t3 {p : Addr} {x y z : V} {d e f : PyData} (h : SqT K H p [x, y, z]) (hx : Vd K H x d) (hy : Vd K H y e) (hz : Vd K H z f) : Vd K H (.ref p) (.tuple [d, e, f]) := .tup h rfl fun i v e h1 h2 => by
  match i with
  | 0 => cases h1; cases h2; exact hx
  | 1 => cases h1; cases h2; exact hy
  | 2 => cases h1; cases h2; exact hz
  | i + 3 => simp at h1
theorem Vd.g1 {v : V} {d : PyData} (h : Vd K H v (.tuple [d])) : ∃ a x, v = .ref a ∧ SqT K H a [x] ∧ Vd K H x d := by
  obtain ⟨a, rfl⟩ := h.ref
  obtain ⟨xs, hs, hl, q⟩ := h.get
  match xs, hl with
  | [x], _ => exact ⟨a, x, rfl, hs, q 0 x d rfl rfl⟩
theorem Vd.g2 {v : V} {d e : PyData} (h : Vd K H v (.tuple [d, e])) : ∃ a x y, v = .ref a ∧ SqT K H a [x, y] ∧ Vd K H x d ∧ Vd K H y e := by
  obtain ⟨a, rfl⟩ := h.ref
  obtain ⟨xs, hs, hl, q⟩ := h.get
  match xs, hl with
  | [x, y], _ => exact ⟨a, x, y, rfl, hs, q 0 x d rfl rfl, q 1 y e rfl rfl⟩
theorem Vd.g3 {v : V} {d e f : PyData} (h : Vd K H v (.tuple [d, e, f])) : ∃ a x y z, v = .ref a ∧ SqT K H a [x, y, z] ∧ Vd K H x d ∧ Vd K H y e ∧ Vd K H z f := by
  obtain ⟨a, rfl⟩ := h.ref
  obtain ⟨xs, hs, hl, q⟩ := h.get
  match xs, hl with
  | [x, y, z], _ => exact ⟨a, x, y, z, rfl, hs, q 0 x d rfl rfl, q 1 y e rfl rfl, q 2 z f rfl rfl⟩
/-- the value's type, for isinstance -/
def tyN : PyData → String
  | .int _ => "int"
  | .str _ => "str"
  | _ => "tuple"
theorem Vd.ty {v : V} {d : PyData} (h : Vd K H v d) : TyX K H v (.type (tyN d)) := by
  cases h with
  | int i => exact .base (.int i)
  | str x => exact .base (.str x)
  | tup hs hl q =>
    rcases hs with (hs | ⟨o, hs⟩) | ⟨o, its, n, hk, hc, _⟩
    · exact .base (.tup hs)
    · exact .fTuple hs
    · exact .kTuple hk hc
end
/-! ### how deep and how long -/
inductive Dk : Nat → PyData → Prop
  | int {n : Nat} (i : Int) : Dk n (.int i)
  | str {n : Nat} {x : Str} : SeqAt.shaped (.str x) = true → x.length ≤ 1000 → Dk n (.str x)
  | tup {n : Nat} {ds : List PyData} : ds.length ≤ 1000 → (∀ d ∈ ds, Dk n d) → Dk (n + 1) (.tuple ds)
theorem lay_all : ∀ {ds : List PyData}, (∀ d ∈ ds, d.canLay0 = true) → PyData.canLayAll0 ds = true
  | [], _ => rfl
  | d :: ds, h => by
    unfold PyData.canLayAll0
    rw [h d List.mem_cons_self, lay_all fun e he => h e (List.mem_cons_of_mem _ he)]
    rfl
theorem depth_all {n : Nat} : ∀ {ds : List PyData}, (∀ d ∈ ds, d.depth ≤ n) → PyData.depthAll ds ≤ n
  | [], _ => Nat.zero_le _
  | d :: ds, h => by
    unfold PyData.depthAll
    exact Nat.max_le.mpr ⟨h d List.mem_cons_self, depth_all fun e he => h e (List.mem_cons_of_mem _ he)⟩
theorem Dk.lay {n : Nat} {d : PyData} (h : Dk n d) : d.canLay0 = true ∧ d.depth ≤ n := by
  induction h with
  | int i => exact ⟨rfl, Nat.zero_le _⟩
  | str hs _ => exact ⟨SeqAt.canLay_of_shaped hs, Nat.zero_le _⟩
  | tup _ _ ih => exact ⟨lay_all fun d hd => (ih d hd).1, Nat.succ_le_succ (depth_all fun d hd => (ih d hd).2)⟩
theorem Dk.shaped {n : Nat} {d : PyData} (h : Dk n d) (hn : n ≤ 64) : SeqAt.shaped d = true := by
  unfold SeqAt.shaped
  rw [h.lay.1, decide_eq_true (Nat.le_trans h.lay.2 hn)]
  rfl
theorem Dk.mono {n m : Nat} {d : PyData} (h : Dk n d) (hm : n ≤ m) : Dk m d := by
  induction h generalizing m with
  | int i => exact .int i
  | str hs hl => exact .str hs hl
  | tup hl _ ih =>
    obtain ⟨m', rfl⟩ : ∃ m', m = m' + 1 := ⟨m - 1, by omega⟩
    exact .tup hl fun d hd => ih d hd (by omega)
/-! ### words -/
def isWord (s : Str) : Bool := (decide ((1 : Int) ≤ (s.length : Int)) && decide ((s.length : Int) ≤ 8)) && s.cps.toList.all fun c => decide (97 ≤ c) && decide (c ≤ 122)
theorem lt_sign (a b : Nat) : decide ([a] < [b]) = decide (a < b) := by
  rw [Bool.eq_iff_iff, decide_eq_true_iff, decide_eq_true_iff, List.cons_lt_cons_iff]
  constructor
  · rintro (h | ⟨_, h⟩)
    · exact h
    · exact absurd h (List.not_lt_nil _)
  · exact fun h => .inl h
/-! ### kinds -/
inductive Kd where
  | int | word | lst (k : Kd) | tup (ks : List Kd)
mutual
def Kd.data : Kd → PyData
  | .int => .str "int"
  | .word => .str "word"
  | .lst k => .tuple [.str "list", k.data]
  | .tup ks => .tuple [.str "tuple", .tuple (dataAll ks)]
def dataAll : List Kd → List PyData
  | [] => []
  | k :: ks => k.data :: dataAll ks
end
theorem dataAll_map : ∀ ks : List Kd, dataAll ks = ks.map Kd.data
  | [] => by rw [dataAll]; rfl
  | k :: ks => by rw [dataAll, dataAll_map ks]; rfl
mutual
def isk : Kd → PyData → Bool
  | .int, d => match d with | .int _ => true | _ => false
  | .word, d => match d with | .str s => isWord s | _ => false
  | .lst k, d => match d with | .tuple ds => ds.all (isk k) | _ => false
  | .tup ks, d => match d with | .tuple ds => iskAll ks ds | _ => false
def iskAll : List Kd → List PyData → Bool
  | [], ds => match ds with | [] => true | _ => false
  | k :: ks, ds => match ds with | [] => false | d :: ds => isk k d && iskAll ks ds
end
inductive OkK : Nat → Kd → Prop
  | int {n : Nat} : OkK (n + 1) .int
  | word {n : Nat} : OkK (n + 1) .word
  | lst {n : Nat} {k : Kd} : OkK n k → OkK (n + 1) (.lst k)
  | tup {n : Nat} {ks : List Kd} : ks.length ≤ 1000 → (∀ k ∈ ks, OkK n k) → OkK (n + 1) (.tup ks)
theorem dk_str {n : Nat} {x : Str} (h : SeqAt.shaped (.str x) = true := by decide +kernel) (hl : x.length ≤ 1000 := by decide +kernel) : Dk n (.str x) := .str h hl
theorem dk_t2 {n : Nat} {a b : PyData} (ha : Dk n a) (hb : Dk n b) : Dk (n + 1) (.tuple [a, b]) := .tup (show 2 ≤ 1000 by decide) fun d hd => by
  rcases List.mem_cons.mp hd with rfl | hd
  · exact ha
  · rcases List.mem_cons.mp hd with rfl | hd
    · exact hb
    · cases hd
theorem OkK.dk {n : Nat} {k : Kd} (h : OkK n k) : Dk (2 * n) k.data := by
  induction h with
  | int => rw [Kd.data]; exact dk_str
  | word => rw [Kd.data]; exact dk_str
  | lst _ ih => rw [Kd.data]; exact (dk_t2 dk_str (ih.mono (Nat.le_succ _)))
  | tup hl _ ih =>
    rw [Kd.data, dataAll_map]
    refine dk_t2 dk_str (.tup (by rw [List.length_map]; exact hl) fun d hd => ?_)
    obtain ⟨k, hk, rfl⟩ := List.mem_map.mp hd
    exact ih k hk
theorem OkK.mono {n m : Nat} {k : Kd} (h : OkK n k) (hm : n ≤ m) : OkK m k := by
  induction h generalizing m with
  | int => obtain ⟨m', rfl⟩ : ∃ m', m = m' + 1 := ⟨m - 1, by omega⟩; exact .int
  | word => obtain ⟨m', rfl⟩ : ∃ m', m = m' + 1 := ⟨m - 1, by omega⟩; exact .word
  | lst _ ih => obtain ⟨m', rfl⟩ : ∃ m', m = m' + 1 := ⟨m - 1, by omega⟩; exact .lst (ih (by omega))
  | tup hl _ ih => obtain ⟨m', rfl⟩ : ∃ m', m = m' + 1 := ⟨m - 1, by omega⟩; exact .tup hl fun k hk => ih k hk (by omega)
/-- the callee: where it stands, its promise -/
structure Cl (P : Program) (w : World) (K : PySem.W.Frag) (mg : Str → Option Value) (base : Heap) (x : Str) (ps : List Str) (k : Nat) (sp : Sp) where
  f : Addr
  fd : FuncData
  ok : FnOk P w K mg base CX0 k f fd ps sp
  b : Binds K fd ps []
  kp : PySem.W.keepIn K (.ref f) = true
  m : mg x = some (.ref f)
theorem no_call {P : Program} {w : World} {K : PySem.W.Frag} {mg : Str → Option Value} {base : Heap} {k : Nat} {f : Addr} {fd : FuncData} {ps : List Str} {sp : Sp} (no : ∀ vs H Q E, ¬ sp vs H Q E) : FnOk P w K mg base CX0 k f fd ps sp :=
  ⟨fun vs H Q E h => absurd h (no vs H Q E), fun A outer s H args us vs Q E _ _ _ _ h => absurd h (no vs H Q E)⟩
/-! ### further rules of evaluation -/
section
variable {K : PySem.W.Frag} {σ : L2.St} {H H' : Hp} {ta tb tc te tx : TE} {t u : TT} {x y z v w : V} {r r' : R2}
theorem ev_chain {k k' : Bool} (ha : Ev ta σ H x) (hb : Ev tb σ H y) (hc : Ev tc σ H w) (hr : RV r x y H (.bl k)) (hr' : RV r' y w H (.bl k')) : Ev (tChain r r' ta tb tc) σ H (.bl (k && k')) := fun H1 e Q q =>
  ha H1 e _ fun H2 e2 => hb H2 (e.trans e2) _ fun H3 e3 => hr H3 ((e.trans e2).trans e3) _ fun H4 e4 => ⟨k, rfl, by
    cases k with
    | true => exact hc H4 (((e.trans e2).trans e3).trans e4) _ fun H5 e5 => hr' H5 ((((e.trans e2).trans e3).trans e4).trans e5) Q fun H6 e6 => q H6 ((((e2.trans e3).trans e4).trans e5).trans e6)
    | false => exact q H4 ((e2.trans e3).trans e4)⟩
theorem ev_one {v : V} (h : Ev ta σ H v) : Ev ta σ H v := h
theorem et_yes : EvT tYes σ H true := fun H1 _ _ q => q H1 (Ex.refl H1)
theorem ev_all {bs : List Bool} (h : EvL te σ H (bs.map V.bl)) : Ev (tCB (rAll K) (tCons te tNil)) σ H (.bl (bs.all id)) := fun H1 e Q q =>
  h H1 e _ fun p H2 _ e2 hp => ⟨p, bs, rfl, sq_of hp, q H2 e2⟩
theorem ev_any {bs : List Bool} (h : EvL te σ H (bs.map V.bl)) : Ev (tCB (rAny K) (tCons te tNil)) σ H (.bl (bs.any id)) := fun H1 e Q q =>
  h H1 e _ fun p H2 _ e2 hp => ⟨p, bs, rfl, sq_of hp, q H2 e2⟩
/-- isinstance of data and a built-in class -/
theorem ev_isi {d : PyData} {n : String} {b : Bool} (ha : Ev ta σ H v) (hb : Ev tb σ H (.ty n)) (h : Vd K H v d) (hk : kitB (tyN d) n = some b) : Ev (tCB (rIsi K) (tCons ta (tCons tb tNil))) σ H (.bl b) := fun H1 e Q q =>
  ha H1 e _ fun H2 e2 => hb H2 (e.trans e2) _ fun H3 e3 => ⟨v, .ty n, _, _, b, rfl, .ty n, (h.keep (Kt.same ((e.trans e2).trans e3))).ty, kit_ty hk, q H3 (e2.trans e3)⟩
theorem ev_isiB {c : Bool} {n : String} {b : Bool} (ha : Ev ta σ H (.bl c)) (hb : Ev tb σ H (.ty n)) (hk : kitB "bool" n = some b) : Ev (tCB (rIsi K) (tCons ta (tCons tb tNil))) σ H (.bl b) := fun H1 e Q q =>
  ha H1 e _ fun H2 e2 => hb H2 (e.trans e2) _ fun H3 e3 => ⟨.bl c, .ty n, _, _, b, rfl, .ty n, .base (.bl c), kit_ty hk, q H3 (e2.trans e3)⟩
theorem rv_eqD {d e : PyData} (hx : Vd K H x d) (hy : Vd K H y e) (sd : SeqAt.shaped d = true) (se : SeqAt.shaped e = true) : RV (rEqD K) x y H (.bl (PyData.eqv d e)) := fun H1 e1 _ q =>
  ⟨d, e, (hx.keep (Kt.same e1)).dp, (hy.keep (Kt.same e1)).dp, sd, se, q H1 (Ex.refl H1)⟩
theorem rv_neD {d e : PyData} (hx : Vd K H x d) (hy : Vd K H y e) (sd : SeqAt.shaped d = true) (se : SeqAt.shaped e = true) : RV (rNeD K) x y H (.bl (!PyData.eqv d e)) := fun H1 e1 _ q =>
  ⟨d, e, (hx.keep (Kt.same e1)).dp, (hy.keep (Kt.same e1)).dp, sd, se, q H1 (Ex.refl H1)⟩
theorem rv_leS {i j : Str} : RV (fun x y H Q => ∃ i j, x = .str i ∧ y = .str j ∧ Q (.bl (!decide (j.cps.toList < i.cps.toList))) H) (.str i) (.str j) H (.bl (!decide (j.cps.toList < i.cps.toList))) := fun H1 _ _ q => ⟨i, j, rfl, rfl, q H1 (Ex.refl H1)⟩
theorem rv_notN : RV (fun x y H Q => y = .non ∧ Q (.bl (!decide (x = .non))) H) x .non H (.bl (!decide (x = .non))) := fun H1 _ _ q => ⟨rfl, q H1 (Ex.refl H1)⟩
theorem ev_lenS {s : Str} (hs : s.length ≤ 1000) (ha : Ev ta σ H (.str s)) : Ev (tCB (fun xs H Q => ∃ z, xs = [.str z] ∧ z.length ≤ sizeLine ∧ Q (.int z.length) H) (tCons ta tNil)) σ H (.int s.length) := fun H1 e Q q =>
  ha H1 e _ fun H2 e2 => ⟨s, rfl, Nat.le_of_lt (small1000 hs), q H2 e2⟩
theorem ev_lenT {p : Addr} {xs : List V} (ha : Ev ta σ H (.ref p)) (h : SqT K H p xs) : Ev (tCB (fun xs H Q => ∃ p ys, xs = [.ref p] ∧ (SqL K H p ys ∨ SqT K H p ys) ∧ Q (.int ys.length) H) (tCons ta tNil)) σ H (.int (xs.length : Int)) := fun H1 e Q q =>
  ha H1 e _ fun H2 e2 => ⟨p, xs, rfl, .inr (ex_t (e.trans e2) h), q H2 e2⟩
theorem ev_lenL {p : Addr} {xs : List V} (ha : Ev ta σ H (.ref p)) (h : SqL K H p xs) : Ev (tCB (fun xs H Q => ∃ p ys, xs = [.ref p] ∧ (SqL K H p ys ∨ SqT K H p ys) ∧ Q (.int ys.length) H) (tCons ta tNil)) σ H (.int (xs.length : Int)) := fun H1 e Q q =>
  ha H1 e _ fun H2 e2 => ⟨p, xs, rfl, .inl (ex_l (e.trans e2) h), q H2 e2⟩
/-- an item of a tuple, at a written place -/
theorem ev_ixT {a : Addr} {xs : List V} {j : Nat} (ha : Ev ta σ H (.ref a)) (hb : Ev tb σ H (.int (j : Int))) (h : SqT K H a xs) (hv : xs[j]? = some v) : Ev (tOp (rIxT K) ta tb) σ H v := ev_op ha hb (rv_ixT h (atI_nat hv))
theorem ev_ixL {a : Addr} {xs : List V} {j : Nat} (ha : Ev ta σ H (.ref a)) (hb : Ev tb σ H (.int (j : Int))) (h : SqL K H a xs) (hv : xs[j]? = some v) : Ev (tOp (rIxL K) ta tb) σ H v := ev_op ha hb (rv_ixL h (atI_nat hv))
theorem given_all (n : Nat) (b : Nat → Bool) : given n (fun _ => true) (fun i => .bl (b i)) = ((List.range n).map b).map V.bl := by
  unfold given
  rw [List.filter_eq_self.mpr (fun _ _ => rfl), List.map_map]
  rfl
theorem el_is {xs ys : List V} (h : EvL te σ H xs) (e : xs = ys) : EvL te σ H ys := by
  rw [← e]
  exact h
/-- comprehensions over a tuple, over a text, over two tuples -/
theorem el_lcT {a : Addr} {xs : List V} {tl : TE} {j : Nat} {vs : List Nat} (f : Nat → Bool) (v : Nat → V) (h : Ev tl σ H (.ref a)) (hx : SqT K H a xs) (hz : xs.length ≤ 40000) (hw : ∀ x, wipe ((wipe σ vs).set j (some x)) vs = wipe σ vs)
    (ht : ∀ (i : Nat) (x : V) H1, Ex H H1 → xs[i]? = some x → EvT t ((wipe σ vs).set j (some x)) H1 (f i)) (he : ∀ (i : Nat) (x : V) H1, Ex H H1 → xs[i]? = some x → f i = true → Ev te ((wipe σ vs).set j (some x)) H1 (v i)) :
    EvL (tLc (iTup K tl) (gName j) t te vs) σ H (given xs.length f v) := fun H0 e Q q => h H0 e _ fun H1 e1 => ⟨a, rfl, ⟨xs, ex_t (e.trans e1) hx⟩, fun Dl hD =>
  lc_tup (xs := xs) (Cw H1 f v Dl) ⟨hD, Ex.new hD, upd_same⟩ (fun i H' _ p => ex_t ((e.trans e1).trans p.2.1) hx) (fun i x H' hi p => ⟨hw x, cw_turn p (by have := (List.getElem?_eq_some_iff.mp hi).1; omega) (ht i x H1 (e.trans e1) hi) (fun hf => he i x H1 (e.trans e1) hi hf)⟩)
    (fun H' p => q Dl H' (fresh_back e1 p.1) (e1.trans p.2.1) p.2.2)⟩
theorem el_lcS {s : Str} {tl : TE} {j : Nat} {vs : List Nat} (f : Nat → Bool) (v : Nat → V) (h : Ev tl σ H (.str s)) (hz : s.cps.size ≤ 40000) (hw : ∀ x, wipe ((wipe σ vs).set j (some x)) vs = wipe σ vs)
    (ht : ∀ (i c : Nat) H1, Ex H H1 → s.cps[i]? = some c → EvT t ((wipe σ vs).set j (some (.str ⟨#[c]⟩))) H1 (f i)) (he : ∀ (i c : Nat) H1, Ex H H1 → s.cps[i]? = some c → f i = true → Ev te ((wipe σ vs).set j (some (.str ⟨#[c]⟩))) H1 (v i)) :
    EvL (tLc (iStr tl) (gName j) t te vs) σ H (given s.cps.size f v) := fun H0 e Q q => h H0 e _ fun H1 e1 => ⟨s, rfl, fun Dl hD =>
  lc_it (walk_str (z := s)) (Cw H1 f v Dl) ⟨hD, Ex.new hD, upd_same⟩ (fun _ _ _ _ => True.intro) (fun i x H2 H' hi p y => by
    obtain ⟨rfl, c, hc, rfl⟩ := y
    exact ⟨hw _, cw_turn p (by omega) (ht i c H1 (e.trans e1) hc) (fun hf => he i c H1 (e.trans e1) hc hf)⟩)
    (fun H' p => q Dl H' (fresh_back e1 p.1) (e1.trans p.2.1) p.2.2)⟩
theorem walk_zipT {a b : Addr} {xs ys : List V} {n : Nat} (hn : n = min xs.length ys.length) : Walk (RZ.ItzT K a b) n (fun H => SqT K H a xs ∧ SqT K H b ys) (YPair (fun i => xs[i]?) (fun i => ys[i]?)) := by
  subst hn
  refine ⟨fun i _ hi q => ?_, fun _ q => ⟨xs, ys, q.1, q.2, by omega⟩, fun i H v H' _ q y => ?_⟩
  · have h1 : i < xs.length := by omega
    have h2 : i < ys.length := by omega
    exact ⟨xs, ys, xs[i], ys[i], q.1, q.2, by simp [h1], by simp [h2]⟩
  · obtain ⟨T, x, z, h1, h2, h3, h4, h5⟩ := y
    exact ⟨T, x, z, h1, h2, h3, h4 xs q.1, h5 ys q.2⟩
theorem el_lcZ {a b : Addr} {xs ys : List V} {tl tm : TE} {j1 j2 : Nat} {vs : List Nat} (v : Nat → V) (h : Ev tl σ H (.ref a)) (h2 : Ev tm σ H (.ref b)) (hx : SqT K H a xs) (hy : SqT K H b ys) (hz : min xs.length ys.length ≤ 40000)
    (hw : ∀ x y, wipe (((wipe σ vs).set j1 (some x)).set j2 (some y)) vs = wipe σ vs)
    (he : ∀ (i : Nat) (x y : V) H1, Ex H H1 → xs[i]? = some x → ys[i]? = some y → Ev te (((wipe σ vs).set j1 (some x)).set j2 (some y)) H1 (v i)) :
    EvL (tLc (RZ.iZipA K (tCons tl (tCons tm tNil))) (gTup K 2 (gCons (gName j1) (gCons (gName j2) gNil))) tYes te vs) σ H (given (min xs.length ys.length) (fun _ => true) v) := fun H0 e Q q => h H0 e _ fun H1 e1 => h2 H1 (e.trans e1) _ fun H2 e2 =>
  ⟨a, b, xs, ys, rfl, .inr ⟨ex_t ((e.trans e1).trans e2) hx, ex_t ((e.trans e1).trans e2) hy, fun Dl hD =>
  lc_it (walk_zipT rfl) (Cw H2 (fun _ => true) v Dl) ⟨hD, Ex.new hD, upd_same⟩ (fun _ _ _ p => ⟨ex_t (((e.trans e1).trans e2).trans p.2.1) hx, ex_t (((e.trans e1).trans e2).trans p.2.1) hy⟩) (fun i x H3 H' hi p y => by
    obtain ⟨T, x1, x2, rfl, hT, rfl, f1, f2⟩ := y
    have p' : Cw H2 (fun _ => true) v Dl i (upd H3 T (.tup [x1, x2])) := ⟨p.1, p.2.1.trans (Ex.new hT), by rw [upd_ne (ne_of_none p.2.2 hT)]; exact p.2.2⟩
    exact ⟨T, [x1, x2], rfl, .inl (.inl upd_same), rfl, x1, [x2], rfl, x2, [], rfl, rfl, hw _ _, cw_turn p' (by omega) et_yes (fun _ => he i x1 x2 H2 ((e.trans e1).trans e2) f1 f2)⟩)
    (fun H' p => q Dl H' (fresh_back (e1.trans e2) p.1) ((e1.trans e2).trans p.2.1) p.2.2)⟩⟩
theorem et_andF (h1 : EvT t σ H false) : EvT (tAnd t u) σ H false := fun H1 e Q q => h1 H1 e _ fun H2 e2 => q H2 e2
theorem et_andT {b : Bool} (h1 : EvT t σ H true) (h2 : EvT u σ H b) : EvT (tAnd t u) σ H b := fun H1 e Q q => h1 H1 e _ fun H2 e2 => h2 H2 (e.trans e2) Q fun H3 e3 => q H3 (e2.trans e3)
theorem et_orT (h1 : EvT t σ H true) : EvT (tOr t u) σ H true := fun H1 e Q q => h1 H1 e _ fun H2 e2 => q H2 e2
theorem et_orF {b : Bool} (h1 : EvT t σ H false) (h2 : EvT u σ H b) : EvT (tOr t u) σ H b := fun H1 e Q q => h1 H1 e _ fun H2 e2 => h2 H2 (e.trans e2) Q fun H3 e3 => q H3 (e2.trans e3)
theorem ev_andF (h1 : Ev ta σ H (.bl false)) : Ev (tAndV ta tb) σ H (.bl false) := fun H1 e Q q => h1 H1 e _ fun H2 e2 => ⟨false, rfl, q H2 e2⟩
theorem ev_andT {b : Bool} (h1 : Ev ta σ H (.bl true)) (h2 : Ev tb σ H (.bl b)) : Ev (tAndV ta tb) σ H (.bl b) := fun H1 e Q q => h1 H1 e _ fun H2 e2 => ⟨true, rfl, h2 H2 (e.trans e2) Q fun H3 e3 => q H3 (e2.trans e3)⟩
theorem k_tt : kitB "tuple" "tuple" = some true := by decide +kernel
theorem k_it : kitB "int" "tuple" = some false := by decide +kernel
theorem k_st : kitB "str" "tuple" = some false := by decide +kernel
theorem k_ti : kitB "tuple" "int" = some false := by decide +kernel
theorem k_ii : kitB "int" "int" = some true := by decide +kernel
theorem k_si : kitB "str" "int" = some false := by decide +kernel
theorem k_ts : kitB "tuple" "str" = some false := by decide +kernel
theorem k_is : kitB "int" "str" = some false := by decide +kernel
theorem k_ss : kitB "str" "str" = some true := by decide +kernel
theorem k_ib : kitB "int" "bool" = some false := by decide +kernel
theorem k_bb : kitB "bool" "bool" = some true := by decide +kernel
theorem ev_callC {sp : Sp} {vs : List V} {E : XK} {ta : TA} (h : EvA ta σ H vs) (hs : SpV sp vs H z) : Ev (tCall sp [] E ta) σ H z := ev_call h (by rw [List.append_nil]; exact hs)
end
/-! ### lists of data, empty or not -/
theorem all_items {α : Type} (a0 : α) (p : α → Bool) (ds : List α) : ((List.range ds.length).map fun i => p (ds.getD i a0)).all id = ds.all p := by
  have h : ((List.range ds.length).map fun i => p (ds.getD i a0)) = ds.map p := by
    apply List.ext_getElem
    · simp
    · intro i h1 h2
      simp at h1
      simp [List.getD_eq_getElem?_getD, List.getElem?_eq_getElem h1]
  rw [h, List.all_map]
  rfl
theorem zip_items {α β : Type} (a0 : α) (b0 : β) (p : α → β → Bool) : ∀ (ks : List α) (ds : List β), ks.length = ds.length → ((List.range ds.length).map fun i => p (ks.getD i a0) (ds.getD i b0)).all id = (List.zipWith p ks ds).all id := fun ks ds hl => by
  have h : ((List.range ds.length).map fun i => p (ks.getD i a0) (ds.getD i b0)) = List.zipWith p ks ds := by
    apply List.ext_getElem
    · simp [hl]
    · intro i h1 h2
      simp at h1
      have h3 : i < ks.length := by omega
      simp [List.getD_eq_getElem?_getD, List.getElem?_eq_getElem h1, List.getElem?_eq_getElem h3]
  rw [h]
theorem iskAll_zip : ∀ (ks : List Kd) (ds : List PyData), iskAll ks ds = (decide (ds.length = ks.length) && (List.zipWith isk ks ds).all id)
  | [], [] => by rw [iskAll]; rfl
  | [], _ :: _ => by simp [iskAll]
  | _ :: _, [] => by rw [iskAll]; rfl
  | k :: ks, d :: ds => by
    rw [iskAll, iskAll_zip ks ds]
    have e : decide ((d :: ds).length = (k :: ks).length) = decide (ds.length = ks.length) := decide_eq_decide.mpr (by simp)
    rw [e]
    show (isk k d && (decide (ds.length = ks.length) && (List.zipWith isk ks ds).all id)) = (decide (ds.length = ks.length) && (isk k d && (List.zipWith isk ks ds).all id))
    cases isk k d <;> cases decide (ds.length = ks.length) <;> rfl
theorem iskAll_at (ks : List Kd) (ds : List PyData) : (decide (V.int (ds.length : Int) = V.int (ks.length : Int)) && (decide (ds.length = ks.length) && ((List.range ds.length).map fun i => isk (ks.getD i .int) (ds.getD i .none)).all id)) = iskAll ks ds := by
  rw [iskAll_zip]
  by_cases h : ds.length = ks.length
  · rw [zip_items .int .none isk ks ds h.symm, decide_eq_true h, h, decide_eq_true rfl]
    rfl
  · rw [decide_eq_false h, decide_eq_false (fun e => h (by injection e with e; exact Int.ofNat.inj e))]
    rfl
theorem mem_given {n : Nat} {f : Nat → Bool} {v : Nat → V} {x : V} (h : x ∈ given n f v) : ∃ i, i < n ∧ f i = true ∧ x = v i := by
  unfold given at h
  obtain ⟨i, hi, rfl⟩ := List.mem_map.mp h
  obtain ⟨h1, h2⟩ := List.mem_filter.mp hi
  exact ⟨i, List.mem_range.mp h1, h2, rfl⟩
theorem given_empty (n : Nat) (f : Nat → Bool) (v : Nat → V) : (given n f v).isEmpty = ((List.range n).map fun i => !f i).all id := by
  unfold given
  rw [Bool.eq_iff_iff, List.isEmpty_iff, List.map_eq_nil_iff, List.filter_eq_nil_iff, List.all_map, List.all_eq_true]
  constructor
  · intro h i hi
    have := h i hi
    simpa using this
  · intro h i hi
    have := h i hi
    simpa using this
section
variable {K : PySem.W.Frag} {σ : L2.St} {H H' : Hp} {ta tb tc te tx : TE}
theorem dpAll_some {m : Nat} : ∀ {xs : List V}, (∀ x ∈ xs, ∃ d, Vd K H x d ∧ Dk m d) → ∃ ds, DpAll K H xs ds ∧ ds.isEmpty = xs.isEmpty ∧ ∀ d ∈ ds, Dk m d
  | [], _ => ⟨[], .nil, rfl, fun _ h => nomatch h⟩
  | x :: xs, h => by
    obtain ⟨d, h1, h2⟩ := h x List.mem_cons_self
    obtain ⟨ds, h3, h4, h5⟩ := dpAll_some fun y hy => h y (List.mem_cons_of_mem _ hy)
    refine ⟨d :: ds, .cons h1.dp h3, rfl, fun e he => ?_⟩
    rcases List.mem_cons.mp he with rfl | he
    · exact h2
    · exact h5 e he
theorem shaped_list {m : Nat} {ds : List PyData} (hm : m ≤ 60) (h : ∀ d ∈ ds, Dk m d) : SeqAt.shaped (.list ds) = true := by
  unfold SeqAt.shaped
  have h1 : (PyData.list ds).canLay0 = true := lay_all fun d hd => (h d hd).lay.1
  have h2 : (PyData.list ds).depth ≤ 64 := Nat.le_trans (Nat.succ_le_succ (depth_all fun d hd => (h d hd).lay.2)) (by omega)
  rw [h1, decide_eq_true h2]
  rfl
/-- [..] == [] -/
theorem ev_nil {m : Nat} {xs : List V} (hm : m ≤ 60) (ha : EvL ta σ H xs) (hx : ∀ x ∈ xs, ∀ H1, Ex H H1 → ∃ d, Vd K H1 x d ∧ Dk m d) : Ev (tOp (rEqD K) ta (tLst tNil)) σ H (.bl xs.isEmpty) :=
  ev_opLL ha (el_lst ea_nil (by decide)) fun p q H1 hp hq e => fun H2 e2 Q k => by
    obtain ⟨ds, h3, h4, h5⟩ := dpAll_some (K := K) (H := H2) fun x hx' => hx x hx' H2 (e.trans e2)
    refine ⟨.list ds, .list [], .lst (sq_of (e2 _ _ hp)) h3, .lst (sq_of (e2 _ _ hq)) .nil, shaped_list hm h5, by decide +kernel, ?_⟩
    have e3 : PyData.eqv (.list ds) (.list []) = xs.isEmpty := by
      rw [← h4]
      cases ds with
      | nil => rfl
      | cons d ds => rfl
    rw [e3]
    exact k H2 (Ex.refl H2)
theorem et_val {b : Bool} (h : Ev te σ H (.bl b)) : EvT (tB te) σ H b := et_B h
end
theorem Dk.item {n : Nat} {ds : List PyData} (h : Dk (n + 1) (.tuple ds)) : ds.length ≤ 1000 ∧ ∀ d ∈ ds, Dk n d := by
  cases h with
  | tup h1 h2 => exact ⟨h1, h2⟩
theorem getD_at {α : Type} {ds : List α} {i : Nat} {a0 : α} (h : i < ds.length) : ds[i]? = some (ds.getD i a0) := by
  rw [List.getD_eq_getElem?_getD, List.getElem?_eq_getElem h]
  rfl
theorem OkK.shaped {n : Nat} {k : Kd} (h : OkK n k) (hn : n ≤ 20) : SeqAt.shaped k.data = true := h.dk.shaped (by omega)
theorem shaped_int : SeqAt.shaped (.str "int") = true := by decide +kernel
theorem shaped_word : SeqAt.shaped (.str "word") = true := by decide +kernel
end Cr
namespace K1
open PySem PySem.Spec PyProof.Rows L2 Evl Cr
def topS (i : Nat) : Stmt := PySem.Challenge.pw_choicerows_k01_values_and_kinds.main.body.getD i (.Pass ⟨0, 0, 0, 0⟩)
/-- what the top has left of the built-ins, and its constants -/
structure Tx (mg : Str → Option Value) : Prop where
  z_len : mg "len" = none
  z_all : mg "all" = none
  z_isinstance : mg "isinstance" = none
  z_tuple : mg "tuple" = none
  z_int : mg "int" = none
  z_str : mg "str" = none
  z_bool : mg "bool" = none
  z_range : mg "range" = none
  z_zip : mg "zip" = none
  z_min : mg "min" = none
  z_max : mg "max" = none
  m_LETTERS : ∃ t, mg "LETTERS" = some (.int 8 t)
abbrev s_is_word : Stmt := topS 2
abbrev N_is_word : List Str := ["text", "letter"]
theorem sc_is_word : FnScope N_is_word ["text"] (defScope s_is_word) := ⟨rfl, rfl, rfl, by decide +kernel, rfl, by decide +kernel, by decide +kernel⟩
abbrev s_kinds_in_tuple : Stmt := topS 3
abbrev N_kinds_in_tuple : List Str := ["kind"]
theorem sc_kinds_in_tuple : FnScope N_kinds_in_tuple ["kind"] (defScope s_kinds_in_tuple) := ⟨rfl, rfl, rfl, by decide +kernel, rfl, by decide +kernel, by decide +kernel⟩
abbrev s_kind_in_list : Stmt := topS 4
abbrev N_kind_in_list : List Str := ["kind"]
theorem sc_kind_in_list : FnScope N_kind_in_list ["kind"] (defScope s_kind_in_list) := ⟨rfl, rfl, rfl, by decide +kernel, rfl, by decide +kernel, by decide +kernel⟩
section
variable {P : Program} {w : World} {K : PySem.W.Frag} {mg : Str → Option Value} {base : Heap}
/-! ### is_word -/
def spWord : Sp := fun vs H Q _ => ∃ s : Str, vs = [.str s] ∧ s.length ≤ 1000 ∧ ∀ H', Same H H' → Q (.bl (isWord s)) H'
theorem sign_ok (c : Nat) : (!decide ((⟨#[c]⟩ : Str).cps.toList < ("a" : Str).cps.toList) && !decide (("z" : Str).cps.toList < (⟨#[c]⟩ : Str).cps.toList)) = (decide (97 ≤ c) && decide (c ≤ 122)) := by
  rw [show ("a" : Str).cps.toList = [97] by decide +kernel, show ("z" : Str).cps.toList = [122] by decide +kernel, show (⟨#[c]⟩ : Str).cps.toList = [c] from rfl, lt_sign, lt_sign, ← decide_not, ← decide_not]
  congr 1
  · exact decide_eq_decide.mpr (by omega)
  · exact decide_eq_decide.mpr (by omega)
theorem all_signs (z : Str) (p : Nat → Bool) : ((List.range z.cps.size).map fun i => p (z.cps.toList.getD i 0)).all id = z.cps.toList.all p := by
  have h : ∀ l : List Nat, ((List.range l.length).map fun i => p (l.getD i 0)) = l.map p := fun l => by
    apply List.ext_getElem
    · simp
    · intro i h1 h2
      simp at h1
      simp [List.getD_eq_getElem?_getD, List.getElem?_eq_getElem h1]
  rw [← Array.length_toList, h, List.all_map]
  rfl
theorem ok_is_word {f : Addr} {fd : FuncData} {k : Nat} (T : Tx mg) (F : Fun K "is_word" "is_word" s_is_word f fd) : FnOk P w K mg base CX0 (k + 1) f fd ["text"] spWord := by
  obtain ⟨tL, m_LETTERS⟩ := T.m_LETTERS
  refine F.ok sc_is_word (fun vs H Q E h => ?_) (fun cdv A outer s H vs Q E hr h => ?_)
  · obtain ⟨z, rfl, _⟩ := h
    rfl
  obtain ⟨z, rfl, hz, q⟩ := h
  refine ⟨_, (pss_one (ps_ret (pe_and (pe_chain op_le op_le pe_int (pe_callB call_len_str (by rfl) T.z_len PySem.boot_len (pa_cons (pv 0) pa_nil)) (pe_glob (v := .int 8) (by rfl) m_LETTERS ⟨_, rfl⟩)) (pe_one (pe_callB (cr_all rfl) (by rfl) T.z_all (by decide +kernel) (pa_cons (pe_lc (own := [("letter", 1)]) (g := gName 1) (by rfl) sc_is_word.nd (pi_str (pv 0)) (blkOk_by (own := [("letter", 1)]) (N := N_is_word) (sc := defScope s_is_word) (by decide +kernel)) (fun _ _ _ _ _ => (pg_name (i := 1) sc_is_word.nd rfl (Or.inl rfl))) (fun _ _ _ _ _ => pts_nil) (fun _ _ _ _ _ => (pe_chain op_le_str op_le_str pe_str (pv 1) pe_str))) pa_nil)))))), ?_⟩
  refine s_ret (v := .bl (isWord z)) (ev_is (ev_andV (ev_chain ev_c (ev_lenS hz (ev_var rfl)) ev_c rv_I0 rv_I0) fun _ => ev_all (el_is (el_lcS (fun _ => true) (fun i => .bl ((fun c => decide (97 ≤ c) && decide (c ≤ 122)) (z.cps.toList.getD i 0))) (ev_var rfl) (Nat.le_trans hz (by decide)) (fun _ => rfl) (fun _ _ _ _ _ => et_yes)
    (fun i c H1 _ hc _ => ev_is (ev_chain ev_c (ev_var rfl) ev_c rv_leS rv_leS) ?_)) (given_all _ _))) ?_) fun H1 e => q H1 e
  · rw [sign_ok]
    have hc' : z.cps.toList.getD i 0 = c := by
      rw [List.getD_eq_getElem?_getD, Array.getElem?_toList, hc]
      rfl
    rw [hc']
  · exact congrArg (fun t => V.bl ((decide ((1 : Int) ≤ (z.length : Int)) && decide ((z.length : Int) ≤ 8)) && t)) (all_signs z fun c => decide (97 ≤ c) && decide (c ≤ 122))
/-! ### kinds_in_tuple, kind_in_list -/
def spKit (K : PySem.W.Frag) : Sp := fun vs H Q _ => ∃ (v : V) (k : Kd) (n : Nat), vs = [v] ∧ Vd K H v k.data ∧ OkK n k ∧ n ≤ 20 ∧
  ∀ r H', Same H H' → (∀ ks, k = .tup ks → ∃ a, r = .ref a ∧ Vd K H' (.ref a) (.tuple (dataAll ks))) → ((∀ ks, k ≠ .tup ks) → ∃ a, r = .ref a ∧ Vd K H' (.ref a) (.tuple [])) → Q r H'
def spKil (K : PySem.W.Frag) : Sp := fun vs H Q _ => ∃ (v : V) (k : Kd) (n : Nat), vs = [v] ∧ Vd K H v k.data ∧ OkK n k ∧ n ≤ 20 ∧
  ∀ r H', Same H H' → (∀ j, k = .lst j → r ≠ .non ∧ Vd K H' r j.data) → ((∀ j, k ≠ .lst j) → r = .non) → Q r H'
theorem vd_non {H : Hp} {v : V} {d : PyData} (h : Vd K H v d) : v ≠ .non := by cases h <;> exact fun e => nomatch e
theorem ok_kinds_in_tuple {f : Addr} {fd : FuncData} {k : Nat} (T : Tx mg) (F : Fun K "kinds_in_tuple" "kinds_in_tuple" s_kinds_in_tuple f fd) : FnOk P w K mg base CX0 (k + 1) f fd ["kind"] (spKit K) := by
  refine F.ok sc_kinds_in_tuple (fun vs H Q E h => ?_) (fun cdv A outer s H vs Q E hr h => ?_)
  · obtain ⟨v, kd, n, rfl, _⟩ := h
    rfl
  obtain ⟨v, kd, n, rfl, hv, hk, hn, q⟩ := h
  refine ⟨_, (pss_cons (ps_if (PW.pt (pw_and (pt_val (pe_callB call_isi (by rfl) T.z_isinstance (by decide +kernel) (pa_cons (pv 0) (pa_cons (pe_bltn (v := .ty "tuple") (u := .type "tuple") (by rfl) T.z_tuple (by decide +kernel) rfl) pa_nil)))) (pw_and1 (pt_cmpR op_eq (pe_ix (r := rIxT K) ix_tup (pv 0) pe_int (fun _ _ => rfl)) pe_str (nomark _))))) (pss_one (ps_ret (pe_ix (r := rIxT K) ix_tup (pv 0) pe_int (fun _ _ => rfl)))) pss_nil)
      (pss_one (ps_ret (pe_tup pa_nil)))), ?_⟩
  have none_ : (∀ ks, kd ≠ .tup ks) → ∀ H1, Same H H1 → ∀ p, H1 p = none → Q (.ref p) (upd H1 p (.tup [])) := fun nk H1 e p hp => q _ _ (e.trans (same_new hp)) (fun ks e => absurd e (nk ks)) fun _ => ⟨p, rfl, .t0 (.of upd_same)⟩
  cases kd with
  | int =>
    rw [Kd.data] at hv
    refine q_when (b := false) (et_andF (et_B (ev_isi (ev_var rfl) ev_c hv k_st))) (fun h => Bool.noConfusion h) fun _ H1 e1 => ?_
    exact ⟨by decide, fun p hp => none_ (fun _ e => Kd.noConfusion e) H1 e1 p hp⟩
  | word =>
    rw [Kd.data] at hv
    refine q_when (b := false) (et_andF (et_B (ev_isi (ev_var rfl) ev_c hv k_st))) (fun h => Bool.noConfusion h) fun _ H1 e1 => ?_
    exact ⟨by decide, fun p hp => none_ (fun _ e => Kd.noConfusion e) H1 e1 p hp⟩
  | lst j =>
    rw [Kd.data] at hv
    obtain ⟨a, x, y, rfl, hs, hx, hy⟩ := hv.g2
    cases hx.str_inv
    refine q_when (b := false) (et_is (et_andT (et_B (ev_isi (ev_var rfl) ev_c hv k_tt)) (et_test (ev_op (ev_ixT (j := 0) (ev_var rfl) ev_c hs rfl) ev_c (rv_eq rfl)))) (by decide +kernel)) (fun h => Bool.noConfusion h) fun _ H1 e1 => ?_
    exact ⟨by decide, fun p hp => none_ (fun _ e => Kd.noConfusion e) H1 e1 p hp⟩
  | tup ks =>
    rw [Kd.data] at hv
    obtain ⟨a, x, y, rfl, hs, hx, hy⟩ := hv.g2
    cases hx.str_inv
    obtain ⟨b, rfl⟩ := hy.ref
    refine q_when (b := true) (et_is (et_andT (et_B (ev_isi (ev_var rfl) ev_c hv k_tt)) (et_test (ev_op (ev_ixT (j := 0) (ev_var rfl) ev_c hs rfl) ev_c (rv_eq rfl)))) (by decide +kernel)) (fun _ H1 e1 => ?_) (fun h => Bool.noConfusion h)
    refine s_ret (ev_ixT (j := 1) (ev_var rfl) ev_c (ex_t e1 hs) rfl) fun H2 e2 => q _ H2 (e1.trans e2) (fun ks' e => ?_) (fun nk => absurd rfl (nk ks))
    cases e
    exact ⟨b, rfl, hy.keep (Kt.same (e1.trans e2))⟩
theorem ok_kind_in_list {f : Addr} {fd : FuncData} {k : Nat} (T : Tx mg) (F : Fun K "kind_in_list" "kind_in_list" s_kind_in_list f fd) : FnOk P w K mg base CX0 (k + 1) f fd ["kind"] (spKil K) := by
  refine F.ok sc_kind_in_list (fun vs H Q E h => ?_) (fun cdv A outer s H vs Q E hr h => ?_)
  · obtain ⟨v, kd, n, rfl, _⟩ := h
    rfl
  obtain ⟨v, kd, n, rfl, hv, hk, hn, q⟩ := h
  refine ⟨_, (pss_cons (ps_if (PW.pt (pw_and (pt_val (pe_callB call_isi (by rfl) T.z_isinstance (by decide +kernel) (pa_cons (pv 0) (pa_cons (pe_bltn (v := .ty "tuple") (u := .type "tuple") (by rfl) T.z_tuple (by decide +kernel) rfl) pa_nil)))) (pw_and1 (pt_cmpR op_eq (pe_ix (r := rIxT K) ix_tup (pv 0) pe_int (fun _ _ => rfl)) pe_str (nomark _))))) (pss_one (ps_ret (pe_ix (r := rIxT K) ix_tup (pv 0) pe_int (fun _ _ => rfl)))) pss_nil)
      (pss_one (ps_ret pe_non))), ?_⟩
  have none_ : (∀ j, kd ≠ .lst j) → ∀ H1, Same H H1 → Q .non H1 := fun nk H1 e => q _ _ e (fun ks e => absurd e (nk ks)) fun _ => rfl
  cases kd with
  | int =>
    rw [Kd.data] at hv
    refine q_when (b := false) (et_andF (et_B (ev_isi (ev_var rfl) ev_c hv k_st))) (fun h => Bool.noConfusion h) fun _ H1 e1 => ?_
    exact s_ret ev_c fun H2 e2 => none_ (fun _ e => Kd.noConfusion e) H2 (e1.trans e2)
  | word =>
    rw [Kd.data] at hv
    refine q_when (b := false) (et_andF (et_B (ev_isi (ev_var rfl) ev_c hv k_st))) (fun h => Bool.noConfusion h) fun _ H1 e1 => ?_
    exact s_ret ev_c fun H2 e2 => none_ (fun _ e => Kd.noConfusion e) H2 (e1.trans e2)
  | tup j =>
    rw [Kd.data] at hv
    obtain ⟨a, x, y, rfl, hs, hx, hy⟩ := hv.g2
    cases hx.str_inv
    refine q_when (b := false) (et_is (et_andT (et_B (ev_isi (ev_var rfl) ev_c hv k_tt)) (et_test (ev_op (ev_ixT (j := 0) (ev_var rfl) ev_c hs rfl) ev_c (rv_eq rfl)))) (by decide +kernel)) (fun h => Bool.noConfusion h) fun _ H1 e1 => ?_
    exact s_ret ev_c fun H2 e2 => none_ (fun _ e => Kd.noConfusion e) H2 (e1.trans e2)
  | lst j =>
    rw [Kd.data] at hv
    obtain ⟨a, x, y, rfl, hs, hx, hy⟩ := hv.g2
    cases hx.str_inv
    refine q_when (b := true) (et_is (et_andT (et_B (ev_isi (ev_var rfl) ev_c hv k_tt)) (et_test (ev_op (ev_ixT (j := 0) (ev_var rfl) ev_c hs rfl) ev_c (rv_eq rfl)))) (by decide +kernel)) (fun _ H1 e1 => ?_) (fun h => Bool.noConfusion h)
    refine s_ret (ev_ixT (j := 1) (ev_var rfl) ev_c (ex_t e1 hs) rfl) fun H2 e2 => q _ H2 (e1.trans e2) (fun ks' e => ?_) (fun nk => absurd rfl (nk j))
    cases e
    exact ⟨vd_non hy, hy.keep (Kt.same (e1.trans e2))⟩
end
end K1
namespace K1
open PySem PySem.Spec PyProof.Rows L2 Evl Cr
abbrev s_is_of_kind : Stmt := topS 5
abbrev N_is_of_kind : List Str := ["value", "kind", "listed", "kinds", "item", "part"]
theorem sc_is_of_kind : FnScope N_is_of_kind ["value", "kind"] (defScope s_is_of_kind) := ⟨rfl, rfl, rfl, by decide +kernel, rfl, by decide +kernel, by decide +kernel⟩
section
variable {P : Program} {w : World} {K : PySem.W.Frag} {mg : Str → Option Value} {base : Heap}
def spIs (K : PySem.W.Frag) (n : Nat) : Sp := fun vs H Q _ => ∃ (v u : V) (d : PyData) (k : Kd), vs = [v, u] ∧ Vd K H v d ∧ Dk 20 d ∧ Vd K H u k.data ∧ OkK n k ∧ n ≤ 20 ∧ ∀ H', Same H H' → Q (.bl (isk k d)) H'
theorem spIs_0 (vs : List V) (H : Hp) (Q : VK) (E : XK) : ¬ spIs K 0 vs H Q E := fun h => by
  obtain ⟨_, _, _, _, _, _, _, _, h, _⟩ := h
  cases h
theorem is_call {n : Nat} {H : Hp} {v u : V} {d : PyData} {k : Kd} (hv : Vd K H v d) (hd : Dk 20 d) (hu : Vd K H u k.data) (hk : OkK n k) (hn : n ≤ 20) : SpV (spIs K n) [v, u] H (.bl (isk k d)) := fun H1 e Q q E =>
  ⟨v, u, d, k, rfl, hv.keep (Kt.same e), hd, hu.keep (Kt.same e), hk, hn, fun H' e' => q H' e'⟩
theorem ok_is_of_kind {f : Addr} {fd : FuncData} {n : Nat} (T : Tx mg) (F : Fun K "is_of_kind" "is_of_kind" s_is_of_kind f fd) (c_is_word : Cl P w K mg base "is_word" ["text"] 1 spWord) (c_kinds_in_tuple : Cl P w K mg base "kinds_in_tuple" ["kind"] 1 (spKit K))
    (c_kind_in_list : Cl P w K mg base "kind_in_list" ["kind"] 1 (spKil K)) (c_is_of_kind : Cl P w K mg base "is_of_kind" ["value", "kind"] (n + 1) (spIs K n)) : FnOk P w K mg base CX0 (n + 1 + 1) f fd ["value", "kind"] (spIs K (n + 1)) := by
  refine F.ok sc_is_of_kind (fun vs H Q E h => ?_) (fun cdv A outer s H vs Q E hr h => ?_)
  · obtain ⟨v, u, d, k, rfl, _⟩ := h
    rfl
  obtain ⟨v, u, d, k, rfl, hv, hd, hu, hk, hn, q⟩ := h
  refine ⟨_, (pss_cons (ps_if (pt_cmpR (op_eqD hr.units) (pv 1) pe_str (nomark _)) (pss_one (ps_ret (pe_and (pe_callB call_isi (by rfl) T.z_isinstance (by decide +kernel) (pa_cons (pv 0) (pa_cons (pe_bltn (v := .ty "int") (u := .type "int") (by rfl) T.z_int (by decide +kernel) rfl) pa_nil))) (pe_one (pe_not (pe_callB call_isi (by rfl) T.z_isinstance (by decide +kernel) (pa_cons (pv 0) (pa_cons (pe_bltn (v := .ty "bool") (u := .type "bool") (by rfl) T.z_bool (by decide +kernel) rfl) pa_nil)))))))) pss_nil)
      (pss_cons (ps_if (pt_cmpR (op_eqD hr.units) (pv 1) pe_str (nomark _)) (pss_one (ps_ret (pe_and (pe_callB call_isi (by rfl) T.z_isinstance (by decide +kernel) (pa_cons (pv 0) (pa_cons (pe_bltn (v := .ty "str") (u := .type "str") (by rfl) T.z_str (by decide +kernel) rfl) pa_nil))) (pe_one (pe_call c_is_word.ok (hr.mono (by omega)) (by rfl) c_is_word.m c_is_word.kp c_is_word.b .nil pass0 (pa_cons (pv 0) pa_nil)))))) pss_nil)
      (pss_cons (ps_if (pt_not (pt_val (pe_callB call_isi (by rfl) T.z_isinstance (by decide +kernel) (pa_cons (pv 0) (pa_cons (pe_bltn (v := .ty "tuple") (u := .type "tuple") (by rfl) T.z_tuple (by decide +kernel) rfl) pa_nil))))) (pss_one (ps_ret pe_bl)) pss_nil)
      (pss_cons (ps_set (i := 2) sc_is_of_kind.nd rfl (Or.inr rfl) (pe_call c_kind_in_list.ok (hr.mono (by omega)) (by rfl) c_kind_in_list.m c_kind_in_list.kp c_kind_in_list.b .nil pass0 (pa_cons (pv 1) pa_nil)))
      (pss_cons (ps_if (pt_cmpR op_notN (pv 2) pe_non (nomark _)) (pss_one (ps_ret (pe_callB (cr_all rfl) (by rfl) T.z_all (by decide +kernel) (pa_cons (pe_lc (own := [("item", 4)]) (g := gName 4) (by rfl) sc_is_of_kind.nd (pi_tup (pv 0)) (blkOk_by (own := [("item", 4)]) (N := N_is_of_kind) (sc := defScope s_is_of_kind) (by decide +kernel)) (fun _ _ _ _ _ => (pg_name (i := 4) sc_is_of_kind.nd rfl (Or.inl rfl))) (fun _ _ _ _ _ => pts_nil) (fun _ _ _ _ _ => (pe_call c_is_of_kind.ok (hr.mono (by omega)) (by rfl) c_is_of_kind.m c_is_of_kind.kp c_is_of_kind.b .nil pass0 (pa_cons (pv 4) (pa_cons (pv 2) pa_nil))))) pa_nil)))) pss_nil)
      (pss_cons (ps_set (i := 3) sc_is_of_kind.nd rfl (Or.inl rfl) (pe_call c_kinds_in_tuple.ok (hr.mono (by omega)) (by rfl) c_kinds_in_tuple.m c_kinds_in_tuple.kp c_kinds_in_tuple.b .nil pass0 (pa_cons (pv 1) pa_nil)))
      (pss_one (ps_ret (pe_and (pe_cmpR op_eq (pe_callB call_len_seq (by rfl) T.z_len PySem.boot_len (pa_cons (pv 0) pa_nil)) (pe_callB call_len_seq (by rfl) T.z_len PySem.boot_len (pa_cons (pv 3) pa_nil)) (nomark _)) (pe_one (pe_callB (cr_all rfl) (by rfl) T.z_all (by decide +kernel) (pa_cons (pe_lc (own := [("item", 4), ("part", 5)]) (g := gTup K 2 (gCons (gName 4) (gCons (gName 5) gNil))) (by rfl) sc_is_of_kind.nd (RZ.pi_zipA (by rfl) T.z_zip (pa_cons (pv 0) (pa_cons (pv 3) pa_nil))) (blkOk_by (own := [("item", 4), ("part", 5)]) (N := N_is_of_kind) (sc := defScope s_is_of_kind) (by decide +kernel)) (fun _ _ _ _ _ => (pg_tup rfl (pgs_cons (pg_name (i := 4) sc_is_of_kind.nd rfl (Or.inl rfl) (hf := Or.inr rfl)) (pgs_cons (pg_name (i := 5) sc_is_of_kind.nd rfl (Or.inl rfl) (hf := Or.inr rfl)) pgs_nil)))) (fun _ _ _ _ _ => pts_nil) (fun _ _ _ _ _ => (pe_call c_is_of_kind.ok (hr.mono (by omega)) (by rfl) c_is_of_kind.m c_is_of_kind.kp c_is_of_kind.b .nil pass0 (pa_cons (pv 4) (pa_cons (pv 5) pa_nil))))) pa_nil)))))))))))), ?_⟩
  have sk := OkK.shaped hk hn
  cases k with
  | int =>
    refine q_when (b := true) (et_is (et_test (ev_op (ev_var rfl) ev_c (rv_eqD hu (.str "int") sk shaped_int))) (by rw [Kd.data]; decide +kernel)) (fun _ H1 e1 => ?_) (fun h => Bool.noConfusion h)
    have hv1 := hv.keep (Kt.same e1)
    cases hv with
    | int i => exact s_ret (ev_andT (ev_isi (ev_var rfl) ev_c hv1 k_ii) (ev_notV (ev_isi (ev_var rfl) ev_c hv1 k_ib))) fun H2 e2 => q H2 (e1.trans e2)
    | str x => exact s_ret (ev_andF (ev_isi (ev_var rfl) ev_c hv1 k_si)) fun H2 e2 => q H2 (e1.trans e2)
    | tup _ _ _ => exact s_ret (ev_andF (ev_isi (ev_var rfl) ev_c hv1 k_ti)) fun H2 e2 => q H2 (e1.trans e2)
  | word =>
    refine q_when (b := false) (et_is (et_test (ev_op (ev_var rfl) ev_c (rv_eqD hu (.str "int") sk shaped_int))) (by rw [Kd.data]; decide +kernel)) (fun h => Bool.noConfusion h) (fun _ H1 e1 => ?_)
    have hu1 := hu.keep (Kt.same e1)
    refine q_when (b := true) (et_is (et_test (ev_op (ev_var rfl) ev_c (rv_eqD hu1 (.str "word") sk shaped_word))) (by rw [Kd.data]; decide +kernel)) (fun _ H2 e2 => ?_) (fun h => Bool.noConfusion h)
    have e12 := e1.trans e2
    have hv1 := hv.keep (Kt.same e12)
    cases hv with
    | int i => exact s_ret (ev_andF (ev_isi (ev_var rfl) ev_c hv1 k_is)) fun H2 e2 => q H2 (e12.trans e2)
    | str x =>
      have hx : x.length ≤ 1000 := by cases hd with | str _ h => exact h
      exact s_ret (ev_andT (ev_isi (ev_var rfl) ev_c hv1 k_ss) (ev_one (ev_callC (ea_cons (ev_var rfl) ea_nil) fun H1 e Q q E => ⟨x, rfl, hx, fun H' e' => q H' e'⟩))) fun H2 e2 => q H2 (e12.trans e2)
    | tup _ _ _ => exact s_ret (ev_andF (ev_isi (ev_var rfl) ev_c hv1 k_ts)) fun H2 e2 => q H2 (e12.trans e2)
  | lst j =>
    refine q_when (b := false) (et_is (et_test (ev_op (ev_var rfl) ev_c (rv_eqD hu (.str "int") sk shaped_int))) (by rw [Kd.data]; rfl)) (fun h => Bool.noConfusion h) (fun _ H1 e1 => ?_)
    have hu1 := hu.keep (Kt.same e1)
    refine q_when (b := false) (et_is (et_test (ev_op (ev_var rfl) ev_c (rv_eqD hu1 (.str "word") sk shaped_word))) (by rw [Kd.data]; rfl)) (fun h => Bool.noConfusion h) (fun _ H2 e2 => ?_)
    have e12 := e1.trans e2
    have hv1 := hv.keep (Kt.same e12)
    have hu2 := hu.keep (Kt.same e12)
    cases hv with
    | int i =>
      refine q_when (b := true) (et_not (et_B (ev_isi (ev_var rfl) ev_c hv1 k_it))) (fun _ H3 e3 => ?_) (fun h => Bool.noConfusion h)
      exact s_ret ev_c fun H4 e4 => q H4 (e12.trans (e3.trans e4))
    | str x =>
      refine q_when (b := true) (et_not (et_B (ev_isi (ev_var rfl) ev_c hv1 k_st))) (fun _ H3 e3 => ?_) (fun h => Bool.noConfusion h)
      exact s_ret ev_c fun H4 e4 => q H4 (e12.trans (e3.trans e4))
    | @tup a xs ds hs hl hi =>
      refine q_when (b := false) (et_not (et_B (ev_isi (ev_var rfl) ev_c hv1 k_tt))) (fun h => Bool.noConfusion h) (fun _ H3 e3 => ?_)
      refine ⟨_, rfl, u, .lst j, n + 1, rfl, hu2.keep (Kt.same e3), hk, hn, fun r H4 e4 hl4 _ => ?_⟩
      obtain ⟨hr4, hj⟩ := hl4 j rfl
      have e14 : Same H H4 := e12.trans (e3.trans e4)
      refine q_when (b := true) (et_is (et_test (ev_op (ev_var rfl) ev_c rv_notN)) (by rw [decide_eq_false hr4]; rfl)) (fun _ H5 e5 => ?_) (fun h => Bool.noConfusion h)
      have e15 : Same H H5 := e14.trans e5
      have hkj : OkK n j := by cases hk with | lst h => exact h
      obtain ⟨dl, di⟩ := (show Dk (19 + 1) (.tuple ds) from hd).item
      refine s_ret (v := .bl (isk (.lst j) (.tuple ds))) (ev_is (ev_all (el_is (el_lcT (fun _ => true) (fun i => .bl (isk j (ds.getD i .none))) (ev_var rfl) (ex_t e15 hs) (by omega) (fun _ => rfl) (fun _ _ _ _ _ => et_yes)
        (fun i x H6 e6 hx _ => ?_)) (given_all _ _))) ?_) fun H6 e6 => q H6 (e15.trans e6)
      · have hi' : i < ds.length := by have := (List.getElem?_eq_some_iff.mp hx).1; omega
        exact ev_callC (ea_cons (ev_var rfl) (ea_cons (ev_var rfl) ea_nil)) (is_call ((hi i x _ hx (getD_at hi')).keep (Kt.same (e15.trans e6))) ((di _ (List.mem_of_getElem? (getD_at hi'))).mono (by omega)) (hj.keep (Kt.same (e5.trans e6))) hkj (by omega))
      · rw [hl, all_items]
        rfl
  | tup ks =>
    refine q_when (b := false) (et_is (et_test (ev_op (ev_var rfl) ev_c (rv_eqD hu (.str "int") sk shaped_int))) (by rw [Kd.data]; rfl)) (fun h => Bool.noConfusion h) (fun _ H1 e1 => ?_)
    have hu1 := hu.keep (Kt.same e1)
    refine q_when (b := false) (et_is (et_test (ev_op (ev_var rfl) ev_c (rv_eqD hu1 (.str "word") sk shaped_word))) (by rw [Kd.data]; rfl)) (fun h => Bool.noConfusion h) (fun _ H2 e2 => ?_)
    have e12 := e1.trans e2
    have hv1 := hv.keep (Kt.same e12)
    have hu2 := hu.keep (Kt.same e12)
    cases hv with
    | int i =>
      refine q_when (b := true) (et_not (et_B (ev_isi (ev_var rfl) ev_c hv1 k_it))) (fun _ H3 e3 => ?_) (fun h => Bool.noConfusion h)
      exact s_ret ev_c fun H4 e4 => q H4 (e12.trans (e3.trans e4))
    | str x =>
      refine q_when (b := true) (et_not (et_B (ev_isi (ev_var rfl) ev_c hv1 k_st))) (fun _ H3 e3 => ?_) (fun h => Bool.noConfusion h)
      exact s_ret ev_c fun H4 e4 => q H4 (e12.trans (e3.trans e4))
    | @tup a xs ds hs hl hi =>
      refine q_when (b := false) (et_not (et_B (ev_isi (ev_var rfl) ev_c hv1 k_tt))) (fun h => Bool.noConfusion h) (fun _ H3 e3 => ?_)
      refine ⟨_, rfl, u, .tup ks, n + 1, rfl, hu2.keep (Kt.same e3), hk, hn, fun r H4 e4 _ hn4 => ?_⟩
      cases hn4 fun _ e => Kd.noConfusion e
      have e14 : Same H H4 := e12.trans (e3.trans e4)
      refine q_when (b := false) (et_is (et_test (ev_op (ev_var rfl) ev_c rv_notN)) (by decide)) (fun h => Bool.noConfusion h) (fun _ H5 e5 => ?_)
      have e15 : Same H H5 := e14.trans e5
      refine ⟨_, rfl, u, .tup ks, n + 1, rfl, hu.keep (Kt.same e15), hk, hn, fun r H6 e6 ht6 _ => ?_⟩
      obtain ⟨b, rfl, hb⟩ := ht6 ks rfl
      obtain ⟨ys, hys, hyl, hyi⟩ := hb.get
      have e16 : Same H H6 := e15.trans e6
      obtain ⟨dl, di⟩ := (show Dk (19 + 1) (.tuple ds) from hd).item
      have hkk : ∀ j ∈ ks, OkK n j := by cases hk with | tup _ h => exact h
      have hyk : ys.length = ks.length := by rw [hyl, dataAll_map, List.length_map]
      refine s_ret (v := .bl (isk (.tup ks) (.tuple ds))) (ev_is (ev_andV (ev_op (ev_lenT (ev_var rfl) (ex_t e16 hs)) (ev_lenT (ev_var rfl) hys) (rv_eq rfl)) fun hlen => ev_one (ev_all (el_is (el_lcZ (fun i => .bl (isk (ks.getD i .int) (ds.getD i .none))) (ev_var rfl) (ev_var rfl) (ex_t e16 hs) hys (by omega) (fun _ _ => rfl)
        (fun i x y H7 e7 hx hy => ?_)) (given_all _ _)))) ?_) fun H7 e7 => q H7 (e16.trans e7)
      · have hi' : i < ds.length := by have := (List.getElem?_eq_some_iff.mp hx).1; omega
        have hk' : i < ks.length := by have := (List.getElem?_eq_some_iff.mp hy).1; omega
        have hyd : (dataAll ks)[i]? = some (ks.getD i .int).data := by rw [dataAll_map, List.getElem?_map, getD_at (a0 := Kd.int) hk']; rfl
        exact ev_callC (ea_cons (ev_var rfl) (ea_cons (ev_var rfl) ea_nil)) (is_call ((hi i x _ hx (getD_at hi')).keep (Kt.same (e16.trans e7))) ((di _ (List.mem_of_getElem? (getD_at hi'))).mono (by omega)) ((hyi i y _ hy hyd).keep (Kt.same e7)) (hkk _ (List.mem_of_getElem? (getD_at hk'))) (by omega))
      · rw [hl, hyk]
        show V.bl _ = V.bl (iskAll ks ds)
        rw [iskAll_zip]
        by_cases h : ds.length = ks.length
        · rw [h, Nat.min_self, ← h, zip_items .int .none isk ks ds h.symm, decide_eq_true (rfl : V.int (ds.length : Int) = V.int (ds.length : Int)), decide_eq_true (rfl : ds.length = ds.length)]
        · rw [decide_eq_false h, decide_eq_false (fun e => h (by injection e with e; exact Int.ofNat.inj e))]
          rfl
end
end K1
namespace K1
open PySem PySem.Spec PyProof.Rows L2 Evl Cr
abbrev s__law_isword : Stmt := topS 12
abbrev N__law_isword : List Str := ["word", "sign"]
theorem sc__law_isword : FnScope N__law_isword ["word"] (defScope s__law_isword) := ⟨rfl, rfl, rfl, by decide +kernel, rfl, by decide +kernel, by decide +kernel⟩
abbrev s__law_iskind : Stmt := topS 13
abbrev N__law_iskind : List Str := ["value", "kind", "part", "j"]
theorem sc__law_iskind : FnScope N__law_iskind ["value", "kind"] (defScope s__law_iskind) := ⟨rfl, rfl, rfl, by decide +kernel, rfl, by decide +kernel, by decide +kernel⟩
section
variable {P : Program} {w : World} {K : PySem.W.Frag} {mg : Str → Option Value} {base : Heap}
def spLWord : Sp := fun vs H Q _ => ∃ s : Str, vs = [.str s] ∧ s.length ≤ 1000 ∧ SeqAt.shaped (.str s) = true ∧ ∀ H', Same H H' → Q (.bl (isWord s)) H'
theorem abc_list : ("abcdefghijklmnopqrstuvwxyz" : Str).cps.toList = List.range' 97 26 := by decide +kernel
theorem abc_sign (c : Nat) : (!(!decide (c ∈ ("abcdefghijklmnopqrstuvwxyz" : Str).cps.toList))) = (decide (97 ≤ c) && decide (c ≤ 122)) := by
  rw [abc_list, Bool.not_not, Bool.eq_iff_iff, Bool.and_eq_true, decide_eq_true_iff, decide_eq_true_iff, decide_eq_true_iff, List.mem_range'_1]
  omega
theorem sign_shaped {s : Str} {i c : Nat} (h : SeqAt.shaped (.str s) = true) (hc : s.cps[i]? = some c) : SeqAt.shaped (.str ⟨#[c]⟩) = true := by
  have h1 : PyData.strOk s = true := SeqAt.canLay_of_shaped h
  obtain ⟨hi, rfl⟩ := Array.getElem?_eq_some_iff.mp hc
  have h2 : s.cps.all (· < 0x110000) = true := h1
  have h3 := (Array.all_eq_true.mp h2) i hi
  unfold SeqAt.shaped
  have h4 : (PyData.str ⟨#[s.cps[i]]⟩).canLay0 = true := by
    show PyData.strOk ⟨#[s.cps[i]]⟩ = true
    show (#[s.cps[i]]).all (· < 0x110000) = true
    simpa using h3
  rw [h4]
  rfl
theorem ok__law_isword {f : Addr} {fd : FuncData} {k : Nat} (T : Tx mg) (F : Fun K "_law_isword" "_law_isword" s__law_isword f fd) : FnOk P w K mg base CX0 (k + 1) f fd ["word"] spLWord := by
  refine F.ok sc__law_isword (fun vs H Q E h => ?_) (fun cdv A outer s H vs Q E hr h => ?_)
  · obtain ⟨z, rfl, _⟩ := h
    rfl
  obtain ⟨z, rfl, hz, hs, q⟩ := h
  refine ⟨_, (pss_one (ps_ret (pe_and (pe_chain op_le op_le pe_int (pe_callB call_len_str (by rfl) T.z_len PySem.boot_len (pa_cons (pv 0) pa_nil)) pe_int) (pe_one (pe_cmpR (op_eqD hr.units) (pe_lc (own := [("sign", 1)]) (g := gName 1) (by rfl) sc__law_isword.nd (pi_str (pv 0)) (blkOk_by (own := [("sign", 1)]) (N := N__law_isword) (sc := defScope s__law_isword) (by decide +kernel)) (fun _ _ _ _ _ => (pg_name (i := 1) sc__law_isword.nd rfl (Or.inl rfl))) (fun _ _ _ _ _ => pts_one (pt_cmpR op_notIn_sign (pv 1) pe_str rfl)) (fun _ _ _ _ _ => (pv 1))) (pe_lst pa_nil) (nomark _)))))), ?_⟩
  have hat : ∀ {i c : Nat}, z.cps[i]? = some c → z.cps.toList.getD i 0 = c := fun {i c} hc => by
    rw [List.getD_eq_getElem?_getD, Array.getElem?_toList, hc]
    rfl
  refine s_ret (v := .bl (isWord z)) (ev_is (ev_andV (ev_chain ev_c (ev_lenS hz (ev_var rfl)) ev_c rv_I0 rv_I0) fun _ => ev_one (ev_nil (m := 0) (by omega) (el_lcS (fun i => !decide (z.cps.toList.getD i 0 ∈ ("abcdefghijklmnopqrstuvwxyz" : Str).cps.toList)) (fun i => .str ⟨#[z.cps.toList.getD i 0]⟩) (ev_var rfl) (Nat.le_trans hz (by decide)) (fun _ => rfl)
    (fun i c H1 _ hc => et_is (et_test (ev_op (ev_var rfl) ev_c (rv_val fun H1 e Q k => ⟨c, _, rfl, rfl, k⟩))) (by rw [hat hc])) (fun i c H1 _ hc _ => ev_is (ev_var rfl) (by rw [hat hc]))) (fun x hx H1 _ => ?_))) ?_) fun H1 e => q H1 e
  · obtain ⟨i, hi, _, rfl⟩ := mem_given hx
    have hc : z.cps[i]? = some z.cps[i] := Array.getElem?_eq_getElem hi
    rw [hat hc]
    exact ⟨_, .str _, .str (sign_shaped hs hc) (by show 1 ≤ 1000; decide)⟩
  · rw [given_empty]
    have e : ((List.range z.cps.size).map fun i => !!decide (z.cps.toList.getD i 0 ∈ ("abcdefghijklmnopqrstuvwxyz" : Str).cps.toList)) = (List.range z.cps.size).map fun i => (fun c => decide (97 ≤ c) && decide (c ≤ 122)) (z.cps.toList.getD i 0) := List.map_congr_left fun i _ => abc_sign _
    rw [e]
    exact congrArg (fun t => V.bl ((decide ((1 : Int) ≤ (z.length : Int)) && decide ((z.length : Int) ≤ 8)) && t)) (all_signs z fun c => decide (97 ≤ c) && decide (c ≤ 122))
theorem one_items {n : Nat} {f : Nat → Bool} {H : Hp} : ∀ x ∈ given n f (fun _ => V.int 1), ∀ H1, Ex H H1 → ∃ d, Vd K H1 x d ∧ Dk 0 d := fun x hx H1 _ => by
  obtain ⟨i, _, _, rfl⟩ := mem_given hx
  exact ⟨_, .int 1, .int 1⟩
theorem ok__law_iskind {f : Addr} {fd : FuncData} {n : Nat} (T : Tx mg) (F : Fun K "_law_iskind" "_law_iskind" s__law_iskind f fd) (c__law_isword : Cl P w K mg base "_law_isword" ["word"] 1 spLWord)
    (c__law_iskind : Cl P w K mg base "_law_iskind" ["value", "kind"] (n + 1) (spIs K n)) : FnOk P w K mg base CX0 (n + 1 + 1) f fd ["value", "kind"] (spIs K (n + 1)) := by
  refine F.ok sc__law_iskind (fun vs H Q E h => ?_) (fun cdv A outer s H vs Q E hr h => ?_)
  · obtain ⟨v, u, d, k, rfl, _⟩ := h
    rfl
  obtain ⟨v, u, d, k, rfl, hv, hd, hu, hk, hn, q⟩ := h
  refine ⟨_, (pss_cons (ps_if (pt_cmpR (op_eqD hr.units) (pv 1) pe_str (nomark _)) (pss_one (ps_ret (pe_and (pe_callB call_isi (by rfl) T.z_isinstance (by decide +kernel) (pa_cons (pv 0) (pa_cons (pe_bltn (v := .ty "int") (u := .type "int") (by rfl) T.z_int (by decide +kernel) rfl) pa_nil))) (pe_one (pe_not (pe_callB call_isi (by rfl) T.z_isinstance (by decide +kernel) (pa_cons (pv 0) (pa_cons (pe_bltn (v := .ty "bool") (u := .type "bool") (by rfl) T.z_bool (by decide +kernel) rfl) pa_nil)))))))) pss_nil)
      (pss_cons (ps_if (pt_cmpR (op_eqD hr.units) (pv 1) pe_str (nomark _)) (pss_one (ps_ret (pe_and (pe_callB call_isi (by rfl) T.z_isinstance (by decide +kernel) (pa_cons (pv 0) (pa_cons (pe_bltn (v := .ty "str") (u := .type "str") (by rfl) T.z_str (by decide +kernel) rfl) pa_nil))) (pe_one (pe_call c__law_isword.ok (hr.mono (by omega)) (by rfl) c__law_isword.m c__law_isword.kp c__law_isword.b .nil pass0 (pa_cons (pv 0) pa_nil)))))) pss_nil)
      (pss_cons (ps_if (pt_not (pt_val (pe_callB call_isi (by rfl) T.z_isinstance (by decide +kernel) (pa_cons (pv 0) (pa_cons (pe_bltn (v := .ty "tuple") (u := .type "tuple") (by rfl) T.z_tuple (by decide +kernel) rfl) pa_nil))))) (pss_one (ps_ret pe_bl)) pss_nil)
      (pss_cons (ps_if (pt_cmpR op_eq (pe_ix (r := rIxT K) ix_tup (pv 1) pe_int (fun _ _ => rfl)) pe_str (nomark _)) (pss_one (ps_ret (pe_cmpR (op_eqD hr.units) (pe_lc (own := [("part", 2)]) (g := gName 2) (by rfl) sc__law_iskind.nd (pi_tup (pv 0)) (blkOk_by (own := [("part", 2)]) (N := N__law_iskind) (sc := defScope s__law_iskind) (by decide +kernel)) (fun _ _ _ _ _ => (pg_name (i := 2) sc__law_iskind.nd rfl (Or.inl rfl))) (fun _ _ _ _ _ => pts_one (pt_not (pt_val (pe_call c__law_iskind.ok (hr.mono (by omega)) (by rfl) c__law_iskind.m c__law_iskind.kp c__law_iskind.b .nil pass0 (pa_cons (pv 2) (pa_cons (pe_ix (r := rIxT K) ix_tup (pv 1) pe_int (fun _ _ => rfl)) pa_nil)))))) (fun _ _ _ _ _ => pe_int)) (pe_lst pa_nil) (nomark _)))) pss_nil)
      (pss_one (ps_ret (pe_and (pe_cmpR op_eq (pe_callB call_len_seq (by rfl) T.z_len PySem.boot_len (pa_cons (pv 0) pa_nil)) (pe_callB call_len_seq (by rfl) T.z_len PySem.boot_len (pa_cons (pe_ix (r := rIxT K) ix_tup (pv 1) pe_int (fun _ _ => rfl)) pa_nil)) (nomark _)) (pe_one (pe_cmpR (op_eqD hr.units) (pe_lc (own := [("j", 3)]) (g := gName 3) (by rfl) sc__law_iskind.nd (pi_range1 (by rfl) T.z_range (pa_cons (pe_callB call_len_seq (by rfl) T.z_len PySem.boot_len (pa_cons (pv 0) pa_nil)) pa_nil)) (blkOk_by (own := [("j", 3)]) (N := N__law_iskind) (sc := defScope s__law_iskind) (by decide +kernel)) (fun _ _ _ _ _ => (pg_name (i := 3) sc__law_iskind.nd rfl (Or.inl rfl))) (fun _ _ _ _ _ => pts_one (pt_not (pt_val (pe_call c__law_iskind.ok (hr.mono (by omega)) (by rfl) c__law_iskind.m c__law_iskind.kp c__law_iskind.b .nil pass0 (pa_cons (pe_ix (r := rIxT K) ix_tup (pv 0) (pv 3) (fun _ _ => rfl)) (pa_cons (pe_ix (r := rIxT K) ix_tup (pe_ix (r := rIxT K) ix_tup (pv 1) pe_int (fun _ _ => rfl)) (pv 3) (fun _ _ => rfl)) pa_nil)))))) (fun _ _ _ _ _ => pe_int)) (pe_lst pa_nil) (nomark _)))))))))), ?_⟩
  have sk := OkK.shaped hk hn
  cases k with
  | int =>
    refine q_when (b := true) (et_is (et_test (ev_op (ev_var rfl) ev_c (rv_eqD hu (.str "int") sk shaped_int))) (by rw [Kd.data]; decide +kernel)) (fun _ H1 e1 => ?_) (fun h => Bool.noConfusion h)
    have hv1 := hv.keep (Kt.same e1)
    cases hv with
    | int i => exact s_ret (ev_andT (ev_isi (ev_var rfl) ev_c hv1 k_ii) (ev_notV (ev_isi (ev_var rfl) ev_c hv1 k_ib))) fun H2 e2 => q H2 (e1.trans e2)
    | str x => exact s_ret (ev_andF (ev_isi (ev_var rfl) ev_c hv1 k_si)) fun H2 e2 => q H2 (e1.trans e2)
    | tup _ _ _ => exact s_ret (ev_andF (ev_isi (ev_var rfl) ev_c hv1 k_ti)) fun H2 e2 => q H2 (e1.trans e2)
  | word =>
    refine q_when (b := false) (et_is (et_test (ev_op (ev_var rfl) ev_c (rv_eqD hu (.str "int") sk shaped_int))) (by rw [Kd.data]; decide +kernel)) (fun h => Bool.noConfusion h) (fun _ H1 e1 => ?_)
    have hu1 := hu.keep (Kt.same e1)
    refine q_when (b := true) (et_is (et_test (ev_op (ev_var rfl) ev_c (rv_eqD hu1 (.str "word") sk shaped_word))) (by rw [Kd.data]; decide +kernel)) (fun _ H2 e2 => ?_) (fun h => Bool.noConfusion h)
    have e12 := e1.trans e2
    have hv1 := hv.keep (Kt.same e12)
    cases hv with
    | int i => exact s_ret (ev_andF (ev_isi (ev_var rfl) ev_c hv1 k_is)) fun H2 e2 => q H2 (e12.trans e2)
    | str x =>
      have hx : x.length ≤ 1000 := by cases hd with | str _ h => exact h
      have hs : SeqAt.shaped (.str x) = true := by cases hd with | str h _ => exact h
      exact s_ret (ev_andT (ev_isi (ev_var rfl) ev_c hv1 k_ss) (ev_one (ev_callC (ea_cons (ev_var rfl) ea_nil) fun H1 e Q q E => ⟨x, rfl, hx, hs, fun H' e' => q H' e'⟩))) fun H2 e2 => q H2 (e12.trans e2)
    | tup _ _ _ => exact s_ret (ev_andF (ev_isi (ev_var rfl) ev_c hv1 k_ts)) fun H2 e2 => q H2 (e12.trans e2)
  | lst j =>
    refine q_when (b := false) (et_is (et_test (ev_op (ev_var rfl) ev_c (rv_eqD hu (.str "int") sk shaped_int))) (by rw [Kd.data]; rfl)) (fun h => Bool.noConfusion h) (fun _ H1 e1 => ?_)
    have hu1 := hu.keep (Kt.same e1)
    refine q_when (b := false) (et_is (et_test (ev_op (ev_var rfl) ev_c (rv_eqD hu1 (.str "word") sk shaped_word))) (by rw [Kd.data]; rfl)) (fun h => Bool.noConfusion h) (fun _ H2 e2 => ?_)
    have e12 := e1.trans e2
    have hv1 := hv.keep (Kt.same e12)
    have hu2 := hu.keep (Kt.same e12)
    rw [Kd.data] at hu2
    cases hv with
    | int i =>
      refine q_when (b := true) (et_not (et_B (ev_isi (ev_var rfl) ev_c hv1 k_it))) (fun _ H3 e3 => ?_) (fun h => Bool.noConfusion h)
      exact s_ret ev_c fun H4 e4 => q H4 (e12.trans (e3.trans e4))
    | str x =>
      refine q_when (b := true) (et_not (et_B (ev_isi (ev_var rfl) ev_c hv1 k_st))) (fun _ H3 e3 => ?_) (fun h => Bool.noConfusion h)
      exact s_ret ev_c fun H4 e4 => q H4 (e12.trans (e3.trans e4))
    | @tup a xs ds hs hl hi =>
      refine q_when (b := false) (et_not (et_B (ev_isi (ev_var rfl) ev_c hv1 k_tt))) (fun h => Bool.noConfusion h) (fun _ H3 e3 => ?_)
      have e13 := e12.trans e3
      obtain ⟨b, x0, x1, rfl, hb, h0, h1⟩ := hu2.g2
      cases h0.str_inv
      refine q_when (b := true) (et_is (et_test (ev_op (ev_ixT (j := 0) (ev_var rfl) ev_c (ex_t e3 hb) rfl) ev_c (rv_eq rfl))) (by decide +kernel)) (fun _ H4 e4 => ?_) (fun h => Bool.noConfusion h)
      have e14 := e13.trans e4
      have hkj : OkK n j := by cases hk with | lst h => exact h
      obtain ⟨dl, di⟩ := (show Dk (19 + 1) (.tuple ds) from hd).item
      refine s_ret (v := .bl (isk (.lst j) (.tuple ds))) (ev_is (ev_nil (m := 0) (by omega) (el_lcT (fun i => !isk j (ds.getD i .none)) (fun _ => .int 1) (ev_var rfl) (ex_t e14 hs) (by omega) (fun _ => rfl)
        (fun i x H5 e5 hx => ?_) (fun _ _ _ _ _ _ => ev_c)) one_items) ?_) fun H5 e5 => q H5 (e14.trans e5)
      · have hi' : i < ds.length := by have := (List.getElem?_eq_some_iff.mp hx).1; omega
        exact et_not (et_B (ev_callC (ea_cons (ev_var rfl) (ea_cons (ev_ixT (j := 1) (ev_var rfl) ev_c (ex_t (e3.trans (e4.trans e5)) hb) rfl) ea_nil)) (is_call ((hi i x _ hx (getD_at hi')).keep (Kt.same (e14.trans e5))) ((di _ (List.mem_of_getElem? (getD_at hi'))).mono (by omega)) (h1.keep (Kt.same (e3.trans (e4.trans e5)))) hkj (by omega))))
      · rw [given_empty, hl]
        have e : ((List.range ds.length).map fun i => !!isk j (ds.getD i .none)) = (List.range ds.length).map fun i => isk j (ds.getD i .none) := List.map_congr_left fun i _ => Bool.not_not _
        rw [e, all_items]
        rfl
  | tup ks =>
    refine q_when (b := false) (et_is (et_test (ev_op (ev_var rfl) ev_c (rv_eqD hu (.str "int") sk shaped_int))) (by rw [Kd.data]; rfl)) (fun h => Bool.noConfusion h) (fun _ H1 e1 => ?_)
    have hu1 := hu.keep (Kt.same e1)
    refine q_when (b := false) (et_is (et_test (ev_op (ev_var rfl) ev_c (rv_eqD hu1 (.str "word") sk shaped_word))) (by rw [Kd.data]; rfl)) (fun h => Bool.noConfusion h) (fun _ H2 e2 => ?_)
    have e12 := e1.trans e2
    have hv1 := hv.keep (Kt.same e12)
    have hu2 := hu.keep (Kt.same e12)
    rw [Kd.data] at hu2
    cases hv with
    | int i =>
      refine q_when (b := true) (et_not (et_B (ev_isi (ev_var rfl) ev_c hv1 k_it))) (fun _ H3 e3 => ?_) (fun h => Bool.noConfusion h)
      exact s_ret ev_c fun H4 e4 => q H4 (e12.trans (e3.trans e4))
    | str x =>
      refine q_when (b := true) (et_not (et_B (ev_isi (ev_var rfl) ev_c hv1 k_st))) (fun _ H3 e3 => ?_) (fun h => Bool.noConfusion h)
      exact s_ret ev_c fun H4 e4 => q H4 (e12.trans (e3.trans e4))
    | @tup a xs ds hs hl hi =>
      refine q_when (b := false) (et_not (et_B (ev_isi (ev_var rfl) ev_c hv1 k_tt))) (fun h => Bool.noConfusion h) (fun _ H3 e3 => ?_)
      have e13 := e12.trans e3
      obtain ⟨b, x0, x1, rfl, hb, h0, h1⟩ := hu2.g2
      cases h0.str_inv
      obtain ⟨c, rfl⟩ := h1.ref
      obtain ⟨ys, hys, hyl, hyi⟩ := h1.get
      refine q_when (b := false) (et_is (et_test (ev_op (ev_ixT (j := 0) (ev_var rfl) ev_c (ex_t e3 hb) rfl) ev_c (rv_eq rfl))) (by decide +kernel)) (fun h => Bool.noConfusion h) (fun _ H4 e4 => ?_)
      have e14 := e13.trans e4
      have e34 := e3.trans e4
      obtain ⟨dl, di⟩ := (show Dk (19 + 1) (.tuple ds) from hd).item
      have hkk : ∀ j ∈ ks, OkK n j := by cases hk with | tup _ h => exact h
      have hyk : ys.length = ks.length := by rw [hyl, dataAll_map, List.length_map]
      refine s_ret (v := .bl (isk (.tup ks) (.tuple ds))) (ev_is (ev_andV (ev_op (ev_lenT (ev_var rfl) (ex_t e14 hs)) (ev_lenT (ev_ixT (j := 1) (ev_var rfl) ev_c (ex_t e34 hb) rfl) (ex_t e34 hys)) (rv_eq rfl)) fun hlen => ev_one (ev_nil (m := 0) (by omega) (el_lcR1 (n := (xs.length : Int)) (fun i => !isk (ks.getD i .int) (ds.getD i .none)) (fun _ => .int 1)
        (ea_cons (ev_lenT (ev_var rfl) (ex_t e14 hs)) ea_nil) (by omega) (fun _ => rfl) (fun i H5 e5 hi5 => ?_) (fun _ _ _ _ _ => ev_c)) one_items)) ?_) fun H5 e5 => q H5 (e14.trans e5)
      · have e45 := e34.trans e5
        have hlen' : xs.length = ys.length := by
          have h := of_decide_eq_true hlen
          injection h with h
          exact Int.ofNat.inj h
        have hi' : i < ds.length := by omega
        have hk' : i < ks.length := by omega
        have hyd : (dataAll ks)[i]? = some (ks.getD i .int).data := by rw [dataAll_map, List.getElem?_map, getD_at (a0 := Kd.int) hk']; rfl
        have hx : xs[i]? = some (xs.getD i .non) := getD_at (by omega)
        have hy : ys[i]? = some (ys.getD i .non) := getD_at (by omega)
        exact et_not (et_B (ev_callC (ea_cons (ev_ixT (j := i) (ev_var rfl) (ev_var rfl) (ex_t (e14.trans e5) hs) hx) (ea_cons (ev_ixT (j := i) (ev_ixT (j := 1) (ev_var rfl) ev_c (ex_t e45 hb) rfl) (ev_var rfl) (ex_t e45 hys) hy) ea_nil)) (is_call ((hi i _ _ hx (getD_at hi')).keep (Kt.same (e14.trans e5))) ((di _ (List.mem_of_getElem? (getD_at hi'))).mono (by omega)) ((hyi i _ _ hy hyd).keep (Kt.same e45)) (hkk _ (List.mem_of_getElem? (getD_at hk'))) (by omega))))
      · rw [given_empty, Int.toNat_natCast, hl, hyk]
        have e : ((List.range ds.length).map fun i => !!isk (ks.getD i .int) (ds.getD i .none)) = (List.range ds.length).map fun i => isk (ks.getD i .int) (ds.getD i .none) := List.map_congr_left fun i _ => Bool.not_not _
        rw [e]
        show V.bl _ = V.bl (iskAll ks ds)
        rw [iskAll_zip]
        by_cases h : ds.length = ks.length
        · rw [h, ← h, zip_items .int .none isk ks ds h.symm, decide_eq_true (rfl : V.int (ds.length : Int) = V.int (ds.length : Int)), decide_eq_true (rfl : ds.length = ds.length)]
        · rw [decide_eq_false h, decide_eq_false (fun e => h (by injection e with e; exact Int.ofNat.inj e))]
          rfl
end
end K1
namespace K1
open PySem PySem.Spec PyProof.Rows L2 Evl Cr
abbrev s__law_cell : Stmt := topS 7
abbrev N__law_cell : List Str := ["script", "k"]
theorem sc__law_cell : FnScope N__law_cell ["script", "k"] (defScope s__law_cell) := ⟨rfl, rfl, rfl, by decide +kernel, rfl, by decide +kernel, by decide +kernel⟩
abbrev s__law_draw : Stmt := topS 8
abbrev N__law_draw : List Str := ["script", "k", "sizes", "cell", "drawn", "size", "stirred", "j"]
theorem sc__law_draw : FnScope N__law_draw ["script", "k", "sizes"] (defScope s__law_draw) := ⟨rfl, rfl, rfl, by decide +kernel, rfl, by decide +kernel, by decide +kernel⟩
abbrev s__law_box : Stmt := topS 9
abbrev N__law_box : List Str := ["script", "k"]
theorem sc__law_box : FnScope N__law_box ["script", "k"] (defScope s__law_box) := ⟨rfl, rfl, rfl, by decide +kernel, rfl, by decide +kernel, by decide +kernel⟩
abbrev s__law_take : Stmt := topS 10
abbrev N__law_take : List Str := ["box", "many", "at"]
theorem sc__law_take : FnScope N__law_take ["box", "many"] (defScope s__law_take) := ⟨rfl, rfl, rfl, by decide +kernel, rfl, by decide +kernel, by decide +kernel⟩
section
variable {P : Program} {w : World} {K : PySem.W.Frag} {mg : Str → Option Value} {base : Heap}
def spCell (K : PySem.W.Frag) : Sp := fun vs H Q _ => ∃ (a : Addr) (ns : List Int) (k : Nat), vs = [.ref a, .int (k : Int)] ∧ SqL K H a (ns.map V.int) ∧ ∀ c H', Same H H' → Q (.int c) H'
theorem ok__law_cell {f : Addr} {fd : FuncData} {k : Nat} (T : Tx mg) (F : Fun K "_law_cell" "_law_cell" s__law_cell f fd) : FnOk P w K mg base CX0 (k + 1) f fd ["script", "k"] (spCell K) := by
  refine F.ok sc__law_cell (fun vs H Q E h => ?_) (fun cdv A outer s H vs Q E hr h => ?_)
  · obtain ⟨a, ns, j, rfl, _⟩ := h
    rfl
  obtain ⟨a, ns, j, rfl, ha, q⟩ := h
  refine ⟨_, (pss_cons (ps_if (pt_cmpR op_lt (pv 1) (pe_callB call_len_seq (by rfl) T.z_len PySem.boot_len (pa_cons (pv 0) pa_nil)) (nomark _)) (pss_one (ps_ret (pe_ix (r := rIxL K) ix_list (pv 0) (pv 1) (fun _ _ => rfl)))) pss_nil)
      (pss_one (ps_ret pe_int))), ?_⟩
  refine q_when (et_test (ev_op (ev_var rfl) (ev_lenL (ev_var rfl) ha) rv_I0)) (fun hb H1 e1 => ?_) (fun hb H1 e1 => ?_)
  · have hlt : j < ns.length := by
      have h := of_decide_eq_true hb
      rw [List.length_map] at h
      omega
    have hx : (ns.map V.int)[j]? = some (.int ns[j]) := by
      rw [List.getElem?_map, List.getElem?_eq_getElem hlt]
      rfl
    exact s_ret (ev_ixL (j := j) (ev_var rfl) (ev_var rfl) (ex_l e1 ha) hx) fun H2 e2 => q _ H2 (e1.trans e2)
  · exact s_ret ev_c fun H2 e2 => q _ H2 (e1.trans e2)
/-! ### a new list of ints is drawn -/
def spDraw (K : PySem.W.Frag) : Sp := fun vs H Q _ => ∃ (a b : Addr) (ns ms : List Int) (k : Nat), vs = [.ref a, .int (k : Int), .ref b] ∧ SqL K H a (ns.map V.int) ∧ SqL K H b (ms.map V.int) ∧ ms.length ≤ 1000 ∧ (∀ m ∈ ms, 0 < m ∧ m < 1073741824) ∧
  ∀ p (xs : List Int) H', Same H H' → H p = none → H' p = some (.lst (xs.map V.int)) → xs.length = ms.length → Q (.ref p) H'
theorem map_int {ms : List Int} {i : Nat} {x : V} (h : (ms.map V.int)[i]? = some x) : ∃ m, ms[i]? = some m ∧ x = .int m := by
  rw [List.getElem?_map] at h
  cases e : ms[i]? with
  | none =>
    rw [e] at h
    cases h
  | some m =>
    rw [e] at h
    cases h
    exact ⟨m, rfl, rfl⟩
theorem ok__law_draw {f : Addr} {fd : FuncData} (T : Tx mg) (F : Fun K "_law_draw" "_law_draw" s__law_draw f fd) (c__law_cell : Cl P w K mg base "_law_cell" ["script", "k"] 1 (spCell K)) : FnOk P w K mg base CX0 2 f fd ["script", "k", "sizes"] (spDraw K) := by
  refine F.ok sc__law_draw (fun vs H Q E h => ?_) (fun cdv A outer s H vs Q E hr h => ?_)
  · obtain ⟨a, b, ns, ms, j, rfl, _⟩ := h
    rfl
  obtain ⟨a, b, ns, ms, k, rfl, ha, hb, hm, hms, q⟩ := h
  refine ⟨_, (pss_cons (ps_set (i := 3) sc__law_draw.nd rfl (Or.inl rfl) (pe_call c__law_cell.ok (hr.mono (by omega)) (by rfl) c__law_cell.m c__law_cell.kp c__law_cell.b .nil pass0 (pa_cons (pv 0) (pa_cons (pv 1) pa_nil))))
      (pss_cons (ps_if (pt_cmpR op_lt (pv 3) pe_int (nomark _)) (pss_one (ps_set (i := 3) sc__law_draw.nd rfl (Or.inl rfl) (pe_un un_neg (pv 3)))) pss_nil)
      (pss_cons (ps_set (i := 4) sc__law_draw.nd rfl (Or.inl rfl) (pe_lst pa_nil))
      (pss_cons (ps_if (pt_cmpR op_ge (pv 3) (pe_op op_pow pe_int pe_int) (nomark _)) (pss_cons (ps_set (i := 3) sc__law_draw.nd rfl (Or.inl rfl) (pe_op op_sub (pv 3) (pe_op op_pow pe_int pe_int)))
        (pss_cons (ps_for PassesOwn.never rfl (pi_list (pv 2)) (pg_name (i := 5) sc__law_draw.nd rfl (Or.inl rfl)) (pss_cons (ps_expr (pe_bm PySem.F.plainAttrs_list PySem.F.slot_list_append PySem.F.type_list_append mt_append (pv 4) (pa_cons (pe_op op_mod (pv 3) (pv 5)) pa_nil)))
          (pss_one (ps_set (i := 3) sc__law_draw.nd rfl (Or.inl rfl) (pe_op op_fdiv (pv 3) (pv 5))))))
        (pss_one (ps_ret (pv 4))))) pss_nil)
      (pss_cons (ps_set (i := 6) sc__law_draw.nd rfl (Or.inl rfl) (pe_op op_mod (pe_op op_add (pe_op op_add (pv 3) pe_int) (pe_op op_mul pe_int (pv 1))) pe_int))
      (pss_cons (ps_for PassesOwn.never rfl (pi_range1 (by rfl) T.z_range (pa_cons (pe_callB call_len_seq (by rfl) T.z_len PySem.boot_len (pa_cons (pv 2) pa_nil)) pa_nil)) (pg_name (i := 7) sc__law_draw.nd rfl (Or.inl rfl)) (pss_cons (ps_set (i := 6) sc__law_draw.nd rfl (Or.inl rfl) (pe_op op_mod (pe_op op_add (pe_op op_add (pe_op op_mul (pv 6) pe_int) pe_int) (pv 7)) pe_int))
        (pss_cons (ps_set (i := 6) sc__law_draw.nd rfl (Or.inl rfl) (pe_op op_mod (pe_op op_add (pe_op op_mul (pv 6) pe_int) pe_int) pe_int))
        (pss_one (ps_expr (pe_bm PySem.F.plainAttrs_list PySem.F.slot_list_append PySem.F.type_list_append mt_append (pv 4) (pa_cons (pe_op op_mod (pe_op op_fdiv (pv 6) pe_int) (pe_ix (r := rIxL K) ix_list (pv 2) (pv 7) (fun _ _ => rfl))) pa_nil)))))))
      (pss_one (ps_ret (pv 4))))))))), ?_⟩
  -- cell = _law_cell(script, k)
  refine ⟨_, rfl, _, rfl, a, ns, k, rfl, ha, fun c H1 e1 => ?_⟩
  refine q_ifAsg (b := decide (c < 0)) (v := .int (if c < 0 then -c else c)) (et_test (ev_op (ev_var rfl) ev_c rv_I0)) (fun hc => ev_is (ev_un (ev_var rfl) ru_neg) (by rw [if_pos (of_decide_eq_true hc)])) (fun hc => by rw [if_neg (of_decide_eq_false hc)]; rfl) fun H2 e2' => ?_
  have e2 := e1.trans e2'
  generalize (if c < 0 then -c else c) = c
  -- drawn = []
  refine q_asgL (el_lst ea_nil (by decide)) fun p H3 hp3 e3 h3 => ?_
  have hp : H p = none := Same.free e2 hp3
  have e03 : Same H H3 := e2.trans e3
  have fin : ∀ (acc : List Int) H', Same H H' → H' p = some (.lst (acc.map V.int)) → acc.length = ms.length → Q (.ref p) H' := fun acc H' e h hl => q p acc H' e hp h hl
  refine q_when (et_test (ev_op (ev_var rfl) (ev_op ev_c ev_c (rv_I ⟨by decide, by decide, by decide⟩)) rv_I0)) (fun _ H4 e4 => ?_) (fun _ H4 e4 => ?_)
  · refine q_asg (ev_op (ev_var rfl) (ev_op ev_c ev_c (rv_I ⟨by decide, by decide, by decide⟩)) rv_I0) fun H5 e5 => ?_
    have e05 := e03.trans (e4.trans e5)
    refine q_forLn (a := b) (xs := ms.map V.int) (ev_var rfl) (ex_l e05 hb) (fun i σ' H' => ∃ (c : Int) (z : Option V) (acc : List Int), σ' = [some (.ref a), some (.int (k : Int)), some (.ref b), some (.int c), some (.ref p), z, none, none] ∧ Same H H' ∧ H' p = some (.lst (acc.map V.int)) ∧ acc.length = i)
      (fun H6 e6 => ⟨_, none, [], rfl, e05.trans e6, e6 _ _ (e5 _ _ (e4 _ _ h3)), rfl⟩) (fun i σ' H' _ ⟨_, _, _, _, e, _, _⟩ => ex_l e hb) (fun i x σ' H' hx hP => ?_) (fun σ' H' hP => ?_)
    · obtain ⟨c', z, acc, rfl, e, hpl, hl⟩ := hP
      obtain ⟨m, hmi, rfl⟩ := map_int hx
      have him := (List.getElem?_eq_some_iff.mp hmi).1
      obtain ⟨m0, m1⟩ := hms m (List.mem_of_getElem? hmi)
      refine q_app hpl (ev_var rfl) (ev_op (ev_var rfl) (ev_var rfl) (rv_I m0)) (by rw [List.length_map]; omega) fun H7 e7 => ?_
      refine s_asg (ev_op (ev_var rfl) (ev_var rfl) (rv_I ⟨m0, m1⟩)) fun H8 e8 => ⟨_, _, acc ++ [c' % m], rfl, ?_, ?_, ?_⟩
      · exact (same_mut (e.trans e7) hp).trans e8
      · exact e8 _ _ (by rw [upd_same, List.map_append]; rfl)
      · rw [List.length_append, hl]; rfl
    · obtain ⟨c', z, acc, rfl, e, hpl, hl⟩ := hP
      exact s_ret (ev_var rfl) fun H9 e9 => fin acc H9 (e.trans e9) (e9 _ _ hpl) (by rw [hl, List.length_map])
  · refine q_asg (ev_op (ev_op (ev_op (ev_var rfl) ev_c rv_I0) (ev_op ev_c (ev_var rfl) (rv_I (.inl ⟨by decide, by decide⟩))) rv_I0) ev_c (rv_I (by decide))) fun H5 e5 => ?_
    have e05 := e03.trans (e4.trans e5)
    refine q_forR1 (n := ((ms.map V.int).length : Int)) (ea_cons (ev_lenL (ev_var rfl) (ex_l e05 hb)) ea_nil) (by rw [List.length_map]; omega) (fun i σ' H' => ∃ (c : Int) (z : Option V) (acc : List Int), σ' = [some (.ref a), some (.int (k : Int)), some (.ref b), σ'.getD 3 none, some (.ref p), none, some (.int c), z] ∧ Same H H' ∧ H' p = some (.lst (acc.map V.int)) ∧ acc.length = i)
      (fun H6 e6 => ⟨_, none, [], rfl, e05.trans e6, e6 _ _ (e5 _ _ (e4 _ _ h3)), rfl⟩) (fun i σ' H' hi hP => ?_) (fun σ' H' hP => ?_)
    · obtain ⟨c', z, acc, hσ, e, hpl, hl⟩ := hP
      rw [List.length_map] at hi
      generalize σ'.getD 3 none = y at hσ
      subst hσ
      have hmi : ms[i]? = some ms[i] := List.getElem?_eq_getElem (by omega)
      obtain ⟨m0, m1⟩ := hms ms[i] (List.mem_of_getElem? hmi)
      have hx : (ms.map V.int)[i]? = some (.int ms[i]) := by rw [List.getElem?_map, hmi]; rfl
      refine q_asg (ev_op (ev_op (ev_op (ev_op (ev_var rfl) ev_c (rv_I (.inr ⟨by decide, by decide⟩))) ev_c rv_I0) (ev_var rfl) rv_I0) ev_c (rv_I (by decide))) fun H7 e7 => ?_
      refine q_asg (ev_op (ev_op (ev_op (ev_var rfl) ev_c (rv_I (.inr ⟨by decide, by decide⟩))) ev_c rv_I0) ev_c (rv_I (by decide))) fun H8 e8 => ?_
      have e78 := e7.trans e8
      refine s_app (e78 _ _ hpl) (ev_var rfl) (ev_op (ev_op (ev_var rfl) ev_c (rv_I ⟨by decide, by decide⟩)) (ev_ixL (j := i) (ev_var rfl) (ev_var rfl) (ex_l (e.trans e78) hb) hx) (rv_I m0)) (by rw [List.length_map]; omega) fun H9 e9 => ⟨_, _, acc ++ [((c' * 48271 + 11 + (i : Int)) % 2147483647 * 69621 + 3) % 2147483647 / 7 % ms[i]], rfl, ?_, ?_, ?_⟩
      · exact same_mut ((e.trans e78).trans e9) hp
      · rw [upd_same, List.map_append]; rfl
      · rw [List.length_append, hl]; rfl
    · obtain ⟨c', z, acc, hσ, e, hpl, hl⟩ := hP
      rw [hσ]
      exact s_ret (ev_var rfl) fun H9 e9 => fin acc H9 (e.trans e9) (e9 _ _ hpl) (by rw [hl, List.length_map]; rfl)
/-! ### the box: drawn ints and a place; what changes it alone -/
def Bx (H : Hp) (b d : Addr) : Prop := ∃ (ns : List Int) (i : Nat), H b = some (.lst [.ref d, .int (i : Int)]) ∧ H d = some (.lst (ns.map V.int)) ∧ d ≠ b
def Mv (b d : Addr) (H H' : Hp) : Prop := (∀ a o, a ≠ b → H a = some o → H' a = some o) ∧ Bx H' b d
section
variable {H H1 H2 H' : Hp} {b d p : Addr} {o : HO}
theorem Bx.same (h : Bx H b d) (e : Same H H') : Bx H' b d := by
  obtain ⟨ns, i, h1, h2, h3⟩ := h
  exact ⟨ns, i, e _ _ h1, e _ _ h2, h3⟩
theorem Mv.refl (h : Bx H b d) : Mv b d H H := ⟨fun _ _ _ h => h, h⟩
theorem Mv.trans (m : Mv b d H H1) (n : Mv b d H1 H2) : Mv b d H H2 := ⟨fun a o ne h => n.1 a o ne (m.1 a o ne h), n.2⟩
theorem Mv.same (h : Bx H b d) (e : Same H H') : Mv b d H H' := ⟨fun a o _ h => e a o h, h.same e⟩
theorem Mv.ext (m : Mv b d H H1) (e : Same H1 H2) : Mv b d H H2 := m.trans (.same m.2 e)
theorem Mv.new (m : Mv b d H H1) (h : H1 p = none) : Mv b d H (upd H1 p o) := m.ext (same_new h)
theorem Bx.neb (h : Bx H b d) (hp : H p = none) : p ≠ b ∧ p ≠ d := by
  obtain ⟨ns, i, h1, h2, h3⟩ := h
  exact ⟨fun e => (by rw [e, h1] at hp; cases hp), fun e => (by rw [e, h2] at hp; cases hp)⟩
/-- an object that H does not know changes -/
theorem Mv.mut (m : Mv b d H H1) (hb : Bx H b d) (hp : H p = none) : Mv b d H (upd H1 p o) := by
  obtain ⟨n1, n2⟩ := hb.neb hp
  obtain ⟨ns, i, h1, h2, h3⟩ := m.2
  exact ⟨fun a u ne h => by rw [upd_ne (ne_of_none h hp)]; exact m.1 a u ne h, ns, i, by rw [upd_ne n1.symm]; exact h1, by rw [upd_ne n2.symm]; exact h2, h3⟩
theorem Mv.kt (m : Mv b d H H1) (hb : Bx H b d) : Kt K H H1 := fun a ys q => by
  obtain ⟨ns, i, h1, h2, h3⟩ := hb
  rcases q with (q | ⟨ob, q⟩) | q
  · exact .inl (.inl (m.1 _ _ (ne_of q h1 (fun z => nomatch z)) q))
  · exact .inl (.inr ⟨ob, m.1 _ _ (ne_of q h1 (fun z => nomatch z)) q⟩)
  · exact .inr q
/-- a list that is not the box -/
theorem Mv.sql {a : Addr} {xs : List V} (m : Mv b d H H1) (ne : a ≠ b) (h : SqL K H a xs) : SqL K H1 a xs := by
  rcases h with (h | ⟨ob, h⟩) | h
  · exact .inl (.inl (m.1 _ _ ne h))
  · exact .inl (.inr ⟨ob, m.1 _ _ ne h⟩)
  · exact .inr h
end
def spBox (K : PySem.W.Frag) : Sp := fun vs H Q _ => ∃ (a : Addr) (ns : List Int) (k : Nat), vs = [.ref a, .int (k : Int)] ∧ SqL K H a (ns.map V.int) ∧
  ∀ b d H', Same H H' → H b = none → Bx H' b d → Q (.ref b) H'
theorem rep97 : (List.replicate (Int.toNat 20) [V.int 97]).flatten = (List.replicate 20 (97 : Int)).map V.int := by decide
theorem m97 : ∀ m ∈ List.replicate 20 (97 : Int), 0 < m ∧ m < 1073741824 := fun m h => by
  obtain ⟨_, rfl⟩ := List.mem_replicate.mp h
  decide
theorem ok__law_box {f : Addr} {fd : FuncData} (T : Tx mg) (F : Fun K "_law_box" "_law_box" s__law_box f fd) (c__law_draw : Cl P w K mg base "_law_draw" ["script", "k", "sizes"] 2 (spDraw K)) : FnOk P w K mg base CX0 3 f fd ["script", "k"] (spBox K) := by
  refine F.ok sc__law_box (fun vs H Q E h => ?_) (fun cdv A outer s H vs Q E hr h => ?_)
  · obtain ⟨a, ns, j, rfl, _⟩ := h
    rfl
  obtain ⟨a, ns, k, rfl, ha, q⟩ := h
  refine ⟨_, (pss_one (ps_ret (pe_lst (pa_cons (pe_op op_cat (pe_call c__law_draw.ok (hr.mono (by omega)) (by rfl) c__law_draw.m c__law_draw.kp c__law_draw.b .nil pass0 (pa_cons (pv 0) (pa_cons (pv 1) (pa_cons (pe_op op_rep (pe_lst (pa_cons pe_int pa_nil)) pe_int) pa_nil)))) (pe_call c__law_draw.ok (hr.mono (by omega)) (by rfl) c__law_draw.m c__law_draw.kp c__law_draw.b .nil pass0 (pa_cons (pv 0) (pa_cons (pe_op op_add (pv 1) pe_int) (pa_cons (pe_op op_rep (pe_lst (pa_cons pe_int pa_nil)) pe_int) pa_nil))))) (pa_cons pe_int pa_nil))))), ?_⟩
  -- the first draw
  refine ⟨_, rfl, _, rfl, by decide, fun p1 h1 => ⟨p1, 20, [.int 97], rfl, rfl, upd_same, by decide, by decide, by decide, fun p2 h2 => ?_⟩⟩
  have e2 : Same H (upd (upd H p1 (.lst [.int 97])) p2 (.lst (List.replicate (Int.toNat 20) [V.int 97]).flatten)) := (same_new h1).trans (same_new h2)
  refine ⟨a, p2, ns, List.replicate 20 97, k, rfl, e2.seq ha, .of (by rw [upd_same, rep97]), by decide, m97, fun p3 xs H3 e3 _ h3 l3 => ?_⟩
  have e03 := e2.trans e3
  -- the second one
  refine ⟨_, rfl, _, rfl, _, _, rfl, rfl, by decide, fun p4 h4 => ⟨p4, 20, [.int 97], rfl, rfl, upd_same, by decide, by decide, by decide, fun p5 h5 => ?_⟩⟩
  have e5 : Same H3 (upd (upd H3 p4 (.lst [.int 97])) p5 (.lst (List.replicate (Int.toNat 20) [V.int 97]).flatten)) := (same_new h4).trans (same_new h5)
  refine ⟨a, p5, ns, List.replicate 20 97, k + 1, rfl, (e03.trans e5).seq ha, .of (by rw [upd_same, rep97]), by decide, m97, fun p6 ys H6 e6 _ h6 l6 => ?_⟩
  have e36 := e5.trans e6
  refine ⟨p3, p6, _, _, rfl, rfl, e36 _ _ h3, h6, ?_, fun p7 h7 => ⟨(by show 2 ≤ sizeLine; decide), fun p8 h8 => ?_⟩⟩
  · rw [List.length_map, List.length_map, l3, l6]
    decide
  · have e68 := (same_new (o := .lst (xs.map V.int ++ ys.map V.int)) h7).trans (same_new (o := .lst [.ref p7, .int 0]) h8)
    have n8 : p7 ≠ p8 := fun e => by rw [← e, upd_same] at h8; cases h8
    refine q p8 p7 _ ((e03.trans e36).trans e68) (Same.free (e03.trans (e36.trans (same_new h7))) h8) ⟨xs ++ ys, 0, upd_same, ?_, n8⟩
    rw [upd_ne n8, upd_same, List.map_append]
/-! ### _law_take -/
def spTake : Sp := fun vs H Q _ => ∃ (b d : Addr) (m : Int), vs = [.ref b, .int m] ∧ Bx H b d ∧ 0 < m ∧ ∀ r H', 0 ≤ r → r < m → Mv b d H H' → Q (.int r) H'
theorem ok__law_take {f : Addr} {fd : FuncData} (T : Tx mg) (F : Fun K "_law_take" "_law_take" s__law_take f fd) : FnOk P w K mg base CX0 1 f fd ["box", "many"] spTake := by
  refine F.ok sc__law_take (fun vs H Q E h => ?_) (fun cdv A outer s H vs Q E hr h => ?_)
  · obtain ⟨b, d, m, rfl, _⟩ := h
    rfl
  obtain ⟨b, d, m, rfl, hB, hm, q⟩ := h
  refine ⟨_, (pss_cons (ps_set (i := 2) sc__law_take.nd rfl (Or.inl rfl) (pe_ix (r := rIxL K) ix_list (pv 0) pe_int (fun _ _ => rfl)))
      (pss_cons (ps_asg (pe_op op_add (pv 2) pe_int) (pg_sub (pv 0) pe_int set_list))
      (pss_cons (ps_if (pt_cmpR op_lt (pv 2) (pe_callB call_len_seq (by rfl) T.z_len PySem.boot_len (pa_cons (pe_ix (r := rIxL K) ix_list (pv 0) pe_int (fun _ _ => rfl)) pa_nil)) (nomark _)) (pss_one (ps_ret (pe_op op_mod (pe_ix (r := rIxL K) ix_list (pe_ix (r := rIxL K) ix_list (pv 0) pe_int (fun _ _ => rfl)) (pv 2) (fun _ _ => rfl)) (pv 1)))) pss_nil)
      (pss_one (ps_ret pe_int))))), ?_⟩
  obtain ⟨ns, i, h1, h2, h3⟩ := hB
  refine q_asg (ev_ixL (j := 1) (ev_var rfl) ev_c (.of h1) rfl) fun H1 e1 => ?_
  refine q_setL (j := 1) (e1 _ _ h1) (ev_op (ev_var rfl) ev_c rv_I0) (ev_var rfl) ev_c (by show 1 < 2; decide) fun H2 e2 => ?_
  have hbox : upd H2 b (.lst [.ref d, .int ((i : Int) + 1)]) b = some (.lst [.ref d, .int ((i : Int) + 1)]) := upd_same
  have hd : upd H2 b (.lst [.ref d, .int ((i : Int) + 1)]) d = some (.lst (ns.map V.int)) := by rw [upd_ne h3]; exact e2 _ _ (e1 _ _ h2)
  have mv : Mv b d H (upd H2 b (.lst [.ref d, .int ((i : Int) + 1)])) := ⟨fun a o ne h => by rw [upd_ne ne]; exact e2 _ _ (e1 _ _ h), ns, i + 1, upd_same, hd, h3⟩
  refine q_when (b := decide ((i : Int) < ((ns.map V.int).length : Int))) (et_test (ev_op (ev_var rfl) (ev_lenL (ev_ixL (j := 0) (ev_var rfl) ev_c (.of hbox) rfl) (.of hd)) rv_I0)) (fun hb H3 e3 => ?_) (fun hb H3 e3 => ?_)
  · have hlt : i < ns.length := by
      have h := of_decide_eq_true hb
      rw [List.length_map] at h
      omega
    have hx : (ns.map V.int)[i]? = some (.int ns[i]) := by
      rw [List.getElem?_map, List.getElem?_eq_getElem hlt]
      rfl
    refine s_ret (ev_op (ev_ixL (j := i) (ev_ixL (j := 0) (ev_var rfl) ev_c (.of (e3 _ _ hbox)) rfl) (ev_var rfl) (.of (e3 _ _ hd)) hx) (ev_var rfl) (rv_I hm)) fun H4 e4 => q _ H4 (Int.emod_nonneg _ (by omega)) (Int.emod_lt_of_pos _ hm) (mv.ext (e3.trans e4))
  · exact s_ret ev_c fun H4 e4 => q _ H4 (Int.le_refl _) hm (mv.ext (e3.trans e4))
end
end K1
namespace K1
open PySem PySem.Spec PyProof.Rows L2 Evl Cr
abbrev s__law_kind : Stmt := topS 11
abbrev N__law_kind : List Str := ["box", "depth", "which", "j"]
theorem sc__law_kind : FnScope N__law_kind ["box", "depth"] (defScope s__law_kind) := ⟨rfl, rfl, rfl, by decide +kernel, rfl, by decide +kernel, by decide +kernel⟩
abbrev s__law_value : Stmt := topS 14
abbrev N__law_value : List Str := ["box", "kind", "j", "part"]
theorem sc__law_value : FnScope N__law_value ["box", "kind"] (defScope s__law_value) := ⟨rfl, rfl, rfl, by decide +kernel, rfl, by decide +kernel, by decide +kernel⟩
/-! ### lists of data -/
def Vds (K : PySem.W.Frag) (H : Hp) (vs : List V) (ds : List PyData) : Prop := vs.length = ds.length ∧ ∀ (i : Nat) v d, vs[i]? = some v → ds[i]? = some d → Vd K H v d
section
variable {K : PySem.W.Frag} {H H' : Hp}
theorem Vds.nil : Vds K H [] [] := ⟨rfl, fun i v d h _ => by simp at h⟩
theorem Vds.keep {vs : List V} {ds : List PyData} (k : Kt K H H') (h : Vds K H vs ds) : Vds K H' vs ds := ⟨h.1, fun i v d h1 h2 => (h.2 i v d h1 h2).keep k⟩
theorem Vds.snoc {vs : List V} {ds : List PyData} {v : V} {d : PyData} (h : Vds K H vs ds) (hv : Vd K H v d) : Vds K H (vs ++ [v]) (ds ++ [d]) := by
  refine ⟨by rw [List.length_append, List.length_append, h.1]; rfl, fun i x e h1 h2 => ?_⟩
  have hl := h.1
  by_cases hi : i < vs.length
  · rw [List.getElem?_append_left hi] at h1
    rw [List.getElem?_append_left (by omega)] at h2
    exact h.2 i x e h1 h2
  · rw [List.getElem?_append_right (by omega)] at h1
    rw [List.getElem?_append_right (by omega), ← hl] at h2
    obtain ⟨z, hz⟩ : ∃ z, i - vs.length = z := ⟨_, rfl⟩
    rw [hz] at h1 h2
    match z with
    | 0 =>
      cases h1
      cases h2
      exact hv
    | z + 1 => simp at h1
theorem Vds.cons {vs : List V} {ds : List PyData} {v : V} {d : PyData} (hv : Vd K H v d) (h : Vds K H vs ds) : Vds K H (v :: vs) (d :: ds) := by
  refine ⟨by rw [List.length_cons, List.length_cons, h.1], fun i x e h1 h2 => ?_⟩
  match i with
  | 0 =>
    cases h1
    cases h2
    exact hv
  | i + 1 => exact h.2 i x e (by simpa using h1) (by simpa using h2)
theorem Vds.app {vs ws : List V} {ds es : List PyData} (h : Vds K H vs ds) (g : Vds K H ws es) : Vds K H (vs ++ ws) (ds ++ es) := by
  refine ⟨by rw [List.length_append, List.length_append, h.1, g.1], fun i x e h1 h2 => ?_⟩
  have hl := h.1
  by_cases hi : i < vs.length
  · rw [List.getElem?_append_left hi] at h1
    rw [List.getElem?_append_left (by omega)] at h2
    exact h.2 i x e h1 h2
  · rw [List.getElem?_append_right (by omega)] at h1
    rw [List.getElem?_append_right (by omega), ← hl] at h2
    exact g.2 _ x e h1 h2
theorem Vds.tup {vs : List V} {ds : List PyData} {a : Addr} (h : Vds K H vs ds) (ha : SqT K H a vs) : Vd K H (.ref a) (.tuple ds) := .tup ha h.1 h.2
end
section
variable {P : Program} {w : World} {K : PySem.W.Frag} {mg : Str → Option Value} {base : Heap}
/-! ### _law_kind -/
def spLKind (K : PySem.W.Frag) (N : Nat) : Sp := fun vs H Q _ => ∃ (b d : Addr) (n : Nat), vs = [.ref b, .int (n : Int)] ∧ Bx H b d ∧ n < N ∧ ∀ v kd H', Mv b d H H' → Vd K H' v (Kd.data kd) → OkK (n + 1) kd → Q v H'
theorem ok__law_kind {f : Addr} {fd : FuncData} {N : Nat} (T : Tx mg) (F : Fun K "_law_kind" "_law_kind" s__law_kind f fd) (c__law_take : Cl P w K mg base "_law_take" ["box", "many"] 1 spTake)
    (c__law_kind : Cl P w K mg base "_law_kind" ["box", "depth"] (N + 1) (spLKind K N)) : FnOk P w K mg base CX0 (N + 1 + 1) f fd ["box", "depth"] (spLKind K (N + 1)) := by
  refine F.ok sc__law_kind (fun vs H Q E h => ?_) (fun cdv A outer s H vs Q E hr h => ?_)
  · obtain ⟨b, d, n, rfl, _⟩ := h
    rfl
  obtain ⟨b, d, n, rfl, hB, hn, q⟩ := h
  refine ⟨_, (pss_cons (ps_set (i := 2) sc__law_kind.nd rfl (Or.inl rfl) (pe_call c__law_take.ok (hr.mono (by omega)) (by rfl) c__law_take.m c__law_take.kp c__law_take.b .nil pass0 (pa_cons (pv 0) (pa_cons pe_int pa_nil))))
      (pss_cons (ps_if (PW.pt (pw_or (pt_cmpR op_eq (pv 1) pe_int (nomark _)) (pw_or1 (pt_cmpR op_lt (pv 2) pe_int (nomark _))))) (pss_one (ps_ret (pe_ix (r := rIxL K) ix_list (pe_lst (pa_cons pe_str (pa_cons pe_str pa_nil))) (pe_op op_fdiv (pe_call c__law_take.ok (hr.mono (by omega)) (by rfl) c__law_take.m c__law_take.kp c__law_take.b .nil pass0 (pa_cons (pv 0) (pa_cons pe_int pa_nil))) pe_int) (fun _ _ => rfl)))) pss_nil)
      (pss_cons (ps_if (pt_cmpR op_lt (pv 2) pe_int (nomark _)) (pss_one (ps_ret (pe_tup (pa_cons pe_str (pa_cons (pe_call c__law_kind.ok (hr.mono (by omega)) (by rfl) c__law_kind.m c__law_kind.kp c__law_kind.b .nil pass0 (pa_cons (pv 0) (pa_cons (pe_op op_sub (pv 1) pe_int) pa_nil))) pa_nil))))) pss_nil)
      (pss_one (ps_ret (pe_tup (pa_cons pe_str (pa_cons (pe_callTy call_tuple_of (by rfl) T.z_tuple (by decide +kernel) (pa_cons (pe_lc (own := [("j", 3)]) (g := gName 3) (by rfl) sc__law_kind.nd (pi_range1 (by rfl) T.z_range (pa_cons (pe_op op_add pe_int (pe_call c__law_take.ok (hr.mono (by omega)) (by rfl) c__law_take.m c__law_take.kp c__law_take.b .nil pass0 (pa_cons (pv 0) (pa_cons pe_int pa_nil)))) pa_nil)) (blkOk_by (own := [("j", 3)]) (N := N__law_kind) (sc := defScope s__law_kind) (by decide +kernel)) (fun _ _ _ _ _ => (pg_name (i := 3) sc__law_kind.nd rfl (Or.inl rfl))) (fun _ _ _ _ _ => pts_nil) (fun _ _ _ _ _ => (pe_call c__law_kind.ok (hr.mono (by omega)) (by rfl) c__law_kind.m c__law_kind.kp c__law_kind.b .nil pass0 (pa_cons (pv 0) (pa_cons pe_int pa_nil))))) pa_nil)) pa_nil)))))))), ?_⟩
  -- which
  refine ⟨_, rfl, b, d, 6, rfl, hB, by decide, fun r H1 r0 r1 m1 => ?_⟩
  refine q_when (b := decide (V.int (n : Int) = V.int 0) || decide (r < 2)) (et_or (et_test (ev_op (ev_var rfl) ev_c (rv_eq rfl))) (fun _ => et_test (ev_op (ev_var rfl) ev_c rv_I0))) (fun hb H2 e2 => ?_) (fun hb H2 e2 => ?_)
  · have m2 := m1.ext e2
    refine ⟨by decide, fun p hp => ?_⟩
    have m3 := m2.new (o := .lst [.str "int", .str "word"]) hp
    have npb : p ≠ b := (m2.2.neb hp).1
    refine ⟨_, rfl, b, d, 3, rfl, m3.2, by decide, fun x H4 x0 x1 m4 => ⟨x, 2, rfl, rfl, ⟨by decide, by decide⟩, ?_⟩⟩
    have hl : SqL K H4 p [.str "int", .str "word"] := m4.sql npb (.of upd_same)
    rcases (by omega : x / 2 = 0 ∨ x / 2 = 1) with hx | hx
    · exact ⟨p, _, x / 2, .str "int", rfl, rfl, hl, (by rw [hx]; rfl), q _ .int H4 (m3.trans m4) (by rw [Kd.data]; exact .str _) .int⟩
    · exact ⟨p, _, x / 2, .str "word", rfl, rfl, hl, (by rw [hx]; rfl), q _ .word H4 (m3.trans m4) (by rw [Kd.data]; exact .str _) .word⟩
  · have m2 := m1.ext e2
    have hn0 : n ≠ 0 := by
      intro e
      subst e
      rw [decide_eq_true (by rfl)] at hb
      cases hb
    refine q_when (et_test (ev_op (ev_var rfl) ev_c rv_I0)) (fun _ H3 e3 => ?_) (fun _ H3 e3 => ?_)
    · have m3 := m2.ext e3
      have en : (n : Int) - 1 = ((n - 1 : Nat) : Int) := by omega
      refine ⟨_, rfl, _, rfl, _, _, rfl, rfl, b, d, n - 1, (by rw [← en]; rfl), m3.2, by omega, fun v kd H4 m4 hv hk => ⟨(by show 2 ≤ sizeLine; decide), fun p hp => ?_⟩⟩
      have hk' : OkK n kd := by
        have e : n - 1 + 1 = n := by omega
        rw [e] at hk
        exact hk
      refine q _ (.lst kd) _ ((m3.trans m4).new hp) ?_ (.lst hk')
      rw [Kd.data]
      exact .t2 (.of upd_same) (.str _) (hv.keep (Kt.new hp))
    · have m3 := m2.ext e3
      refine ⟨_, rfl, b, d, 2, rfl, m3.2, by decide, fun x H4 x0 x1 m4 => ⟨1, x, rfl, rfl, 1 + x, rfl, by omega, by omega, fun D hD => ?_⟩⟩
      have m34 := m3.trans m4
      have nDb : D ≠ b := (m34.2.neb hD).1
      refine lc_range (lo := 0) (n := (1 + x).toNat) (fun i H' => ∃ (vs : List V) (ks : List Kd), H' D = some (.lst vs) ∧ vs.length = i ∧ Vds K H' vs (ks.map Kd.data) ∧ (∀ k ∈ ks, OkK 1 k) ∧ Mv b d H4 H') ⟨[], [], upd_same, rfl, .nil, fun _ h => (nomatch h), (Mv.refl m34.2).new hD⟩ (fun i H5 hi hP => ⟨rfl, ?_⟩) (fun H5 hP => ?_)
      · obtain ⟨vs, ks, hDv, hl, hvs, hks, m5⟩ := hP
        refine ⟨_, rfl, b, d, 0, rfl, m5.2, by omega, fun v kd H6 m6 hv hk => ⟨vs, m6.1 _ _ nDb hDv, small1000 (by omega), vs ++ [v], ks ++ [kd], upd_same, by rw [List.length_append, hl]; rfl, ?_, ?_, (m5.trans m6).mut m34.2 hD⟩⟩
        · rw [List.map_append]
          have hk6 : Kt K H6 (upd H6 D (.lst (vs ++ [v]))) := Kt.lst (m6.1 _ _ nDb hDv)
          exact ((hvs.keep (m6.kt m5.2)).snoc hv).keep hk6
        · intro k hk1
          rcases List.mem_append.mp hk1 with h | h
          · exact hks k h
          · cases List.mem_singleton.mp h
            exact hk
      · obtain ⟨vs, ks, hDv, hl, hvs, hks, m5⟩ := hP
        refine ⟨D, vs, rfl, .inl ⟨.of hDv, fun l hl' => ⟨(by show 2 ≤ sizeLine; decide), fun p hp => ?_⟩⟩⟩
        have e5 := (same_new (o := .tup vs) hl').trans (same_new (o := .tup [.str "tuple", .ref l]) hp)
        refine q _ (.tup ks) _ ((m34.trans m5).ext e5) ?_ (.tup (by have h := hvs.1; rw [List.length_map] at h; omega) fun k hk => (hks k hk).mono (by omega))
        rw [Kd.data, dataAll_map]
        exact .t2 (.of upd_same) (.str _) ((hvs.keep (Kt.same e5)).tup (ex_t (same_new hp) (.of upd_same)))
/-! ### _law_value -/
def spLVal (K : PySem.W.Frag) (N : Nat) : Sp := fun vs H Q _ => ∃ (b d : Addr) (u : V) (kd : Kd), vs = [.ref b, u] ∧ Bx H b d ∧ Vd K H u kd.data ∧ OkK N kd ∧ N ≤ 10 ∧ ∀ v e H', Mv b d H H' → Vd K H' v e → Dk N e → isk kd e = true → Q v H'
theorem iskAll_of : ∀ {ks : List Kd} {ds : List PyData}, ks.length = ds.length → (∀ (i : Nat) k d, ks[i]? = some k → ds[i]? = some d → isk k d = true) → iskAll ks ds = true
  | [], [], _, _ => by rw [iskAll]
  | [], _ :: _, h, _ => by simp at h
  | _ :: _, [], h, _ => by simp at h
  | k :: ks, d :: ds, h, q => by
    rw [iskAll, q 0 k d rfl rfl, iskAll_of (by simpa using h) fun i j e h1 h2 => q (i + 1) j e (by simpa using h1) (by simpa using h2)]
    rfl
theorem spLVal_0 (vs : List V) (H : Hp) (Q : VK) (E : XK) : ¬ spLVal K 0 vs H Q E := fun h => by
  obtain ⟨_, _, _, _, _, _, _, h, _⟩ := h
  cases h
theorem ok__law_value {f : Addr} {fd : FuncData} {N : Nat} (T : Tx mg) (F : Fun K "_law_value" "_law_value" s__law_value f fd) (c__law_take : Cl P w K mg base "_law_take" ["box", "many"] 1 spTake)
    (c__law_value : Cl P w K mg base "_law_value" ["box", "kind"] (N + 1) (spLVal K N)) : FnOk P w K mg base CX0 (N + 1 + 1) f fd ["box", "kind"] (spLVal K (N + 1)) := by
  refine F.ok sc__law_value (fun vs H Q E h => ?_) (fun cdv A outer s H vs Q E hr h => ?_)
  · obtain ⟨b, d, u, kd, rfl, _⟩ := h
    rfl
  obtain ⟨b, d, u, kd, rfl, hB, hu, hk, hN, q⟩ := h
  refine ⟨_, (pss_cons (ps_if (pt_cmpR (op_eqD hr.units) (pv 1) pe_str (nomark _)) (pss_one (ps_ret (pe_op op_sub (pe_call c__law_take.ok (hr.mono (by omega)) (by rfl) c__law_take.m c__law_take.kp c__law_take.b .nil pass0 (pa_cons (pv 0) (pa_cons pe_int pa_nil))) pe_int))) pss_nil)
      (pss_cons (ps_if (pt_cmpR (op_eqD hr.units) (pv 1) pe_str (nomark _)) (pss_one (ps_ret (pe_ix (r := rIxL K) ix_list (pe_lst (pa_cons pe_str (pa_cons pe_str (pa_cons pe_str (pa_cons pe_str pa_nil))))) (pe_call c__law_take.ok (hr.mono (by omega)) (by rfl) c__law_take.m c__law_take.kp c__law_take.b .nil pass0 (pa_cons (pv 0) (pa_cons pe_int pa_nil))) (fun _ _ => rfl)))) pss_nil)
      (pss_cons (ps_if (pt_cmpR op_eq (pe_ix (r := rIxT K) ix_tup (pv 1) pe_int (fun _ _ => rfl)) pe_str (nomark _)) (pss_one (ps_ret (pe_callTy call_tuple_of (by rfl) T.z_tuple (by decide +kernel) (pa_cons (pe_lc (own := [("part", 3)]) (g := gName 3) (by rfl) sc__law_value.nd (pi_tup (pe_ix (r := rIxT K) ix_tup (pv 1) pe_int (fun _ _ => rfl))) (blkOk_by (own := [("part", 3)]) (N := N__law_value) (sc := defScope s__law_value) (by decide +kernel)) (fun _ _ _ _ _ => (pg_name (i := 3) sc__law_value.nd rfl (Or.inl rfl))) (fun _ _ _ _ _ => pts_nil) (fun _ _ _ _ _ => (pe_call c__law_value.ok (hr.mono (by omega)) (by rfl) c__law_value.m c__law_value.kp c__law_value.b .nil pass0 (pa_cons (pv 0) (pa_cons (pv 3) pa_nil))))) pa_nil)))) pss_nil)
      (pss_one (ps_ret (pe_callTy call_tuple_of (by rfl) T.z_tuple (by decide +kernel) (pa_cons (pe_lc (own := [("j", 2)]) (g := gName 2) (by rfl) sc__law_value.nd (pi_range1 (by rfl) T.z_range (pa_cons (pe_call c__law_take.ok (hr.mono (by omega)) (by rfl) c__law_take.m c__law_take.kp c__law_take.b .nil pass0 (pa_cons (pv 0) (pa_cons pe_int pa_nil))) pa_nil)) (blkOk_by (own := [("j", 2)]) (N := N__law_value) (sc := defScope s__law_value) (by decide +kernel)) (fun _ _ _ _ _ => (pg_name (i := 2) sc__law_value.nd rfl (Or.inl rfl))) (fun _ _ _ _ _ => pts_nil) (fun _ _ _ _ _ => (pe_call c__law_value.ok (hr.mono (by omega)) (by rfl) c__law_value.m c__law_value.kp c__law_value.b .nil pass0 (pa_cons (pv 0) (pa_cons (pe_ix (r := rIxT K) ix_tup (pv 1) pe_int (fun _ _ => rfl)) pa_nil))))) pa_nil))))))), ?_⟩
  have sk := OkK.shaped hk (by omega)
  cases kd with
  | int =>
    refine q_when (b := true) (et_is (et_test (ev_op (ev_var rfl) ev_c (rv_eqD hu (.str "int") sk shaped_int))) (by rw [Kd.data]; decide +kernel)) (fun _ H1 e1 => ?_) (fun h => Bool.noConfusion h)
    refine ⟨_, rfl, b, d, 9, rfl, hB.same e1, by decide, fun x H2 x0 x1 m2 => ⟨x, 4, rfl, rfl, ?_⟩⟩
    exact q _ (.int (x - 4)) _ ((Mv.same hB e1).trans m2) (.int _) (.int _) rfl
  | word =>
    refine q_when (b := false) (et_is (et_test (ev_op (ev_var rfl) ev_c (rv_eqD hu (.str "int") sk shaped_int))) (by rw [Kd.data]; decide +kernel)) (fun h => Bool.noConfusion h) (fun _ H1 e1 => ?_)
    have hu1 := hu.keep (Kt.same e1)
    refine q_when (b := true) (et_is (et_test (ev_op (ev_var rfl) ev_c (rv_eqD hu1 (.str "word") sk shaped_word))) (by rw [Kd.data]; decide +kernel)) (fun _ H2 e2 => ?_) (fun h => Bool.noConfusion h)
    have m2 := Mv.same hB (e1.trans e2)
    refine ⟨by decide, fun p hp => ?_⟩
    have m3 := m2.new (o := .lst [.str "ab", .str "c", .str "zz", .str "zz"]) hp
    have npb : p ≠ b := (m2.2.neb hp).1
    refine ⟨_, rfl, b, d, 4, rfl, m3.2, by decide, fun x H4 x0 x1 m4 => ?_⟩
    have hl : SqL K H4 p [.str "ab", .str "c", .str "zz", .str "zz"] := m4.sql npb (.of upd_same)
    have m04 := m3.trans m4
    rcases (by omega : x = 0 ∨ x = 1 ∨ x = 2 ∨ x = 3) with rfl | rfl | rfl | rfl
    · exact ⟨p, _, 0, .str "ab", rfl, rfl, hl, rfl, q _ (.str "ab") H4 m04 (.str _) dk_str (by decide +kernel)⟩
    · exact ⟨p, _, 1, .str "c", rfl, rfl, hl, rfl, q _ (.str "c") H4 m04 (.str _) dk_str (by decide +kernel)⟩
    · exact ⟨p, _, 2, .str "zz", rfl, rfl, hl, rfl, q _ (.str "zz") H4 m04 (.str _) dk_str (by decide +kernel)⟩
    · exact ⟨p, _, 3, .str "zz", rfl, rfl, hl, rfl, q _ (.str "zz") H4 m04 (.str _) dk_str (by decide +kernel)⟩
  | tup ks =>
    refine q_when (b := false) (et_is (et_test (ev_op (ev_var rfl) ev_c (rv_eqD hu (.str "int") sk shaped_int))) (by rw [Kd.data]; rfl)) (fun h => Bool.noConfusion h) (fun _ H1 e1 => ?_)
    have hu1 := hu.keep (Kt.same e1)
    refine q_when (b := false) (et_is (et_test (ev_op (ev_var rfl) ev_c (rv_eqD hu1 (.str "word") sk shaped_word))) (by rw [Kd.data]; rfl)) (fun h => Bool.noConfusion h) (fun _ H2 e2 => ?_)
    have m2 := Mv.same hB (e1.trans e2)
    have hu2 := hu1.keep (Kt.same e2)
    rw [Kd.data] at hu2
    obtain ⟨a, x0, x1, rfl, ha, h0, h1⟩ := hu2.g2
    cases h0.str_inv
    obtain ⟨c, rfl⟩ := h1.ref
    obtain ⟨ys, hys, hyl, hyi⟩ := h1.get
    refine q_when (b := true) (et_is (et_test (ev_op (ev_ixT (j := 0) (ev_var rfl) ev_c ha rfl) ev_c (rv_eq rfl))) (by decide +kernel)) (fun _ H3 e3 => ?_) (fun h => Bool.noConfusion h)
    have m3 := m2.ext e3
    have hks : ks.length ≤ 1000 ∧ ∀ j ∈ ks, OkK N j := by cases hk with | tup h1 h => exact ⟨h1, h⟩
    have hyk : ys.length = ks.length := by rw [hyl, dataAll_map, List.length_map]
    refine ⟨_, rfl, a, _, 1, .ref c, rfl, rfl, ex_t e3 ha, rfl, c, rfl, ⟨ys, ex_t e3 hys⟩, fun D hD => ?_⟩
    have nDb : D ≠ b := (m3.2.neb hD).1
    refine lc_tup (K := K) (a := c) (xs := ys) (fun i H' => ∃ (vs : List V) (ds : List PyData), H' D = some (.lst vs) ∧ vs.length = i ∧ Vds K H' vs ds ∧ (∀ e ∈ ds, Dk N e) ∧ (∀ (j : Nat) k e, ks[j]? = some k → ds[j]? = some e → isk k e = true) ∧ Mv b d H3 H')
      ⟨[], [], upd_same, rfl, .nil, fun _ h => (nomatch h), fun j k e _ h => by simp at h, (Mv.refl m3.2).new hD⟩ (fun i H' _ ⟨_, _, _, _, _, _, _, m⟩ => m.kt m3.2 _ _ (ex_t e3 hys)) (fun i y H5 hy hP => ⟨rfl, ?_⟩) (fun H5 hP => ?_)
    · obtain ⟨vs, ds, hDv, hl, hvs, hds, hik, m5⟩ := hP
      have hi : i < ks.length := by have := (List.getElem?_eq_some_iff.mp hy).1; omega
      have hyd : (dataAll ks)[i]? = some (ks.getD i .int).data := by rw [dataAll_map, List.getElem?_map, getD_at (a0 := Kd.int) hi]; rfl
      refine ⟨_, rfl, _, rfl, b, d, y, ks.getD i .int, rfl, m5.2, ((hyi i y _ hy hyd).keep (Kt.same e3)).keep (m5.kt m3.2), hks.2 _ (List.mem_of_getElem? (getD_at hi)), by omega, fun v e H6 m6 hv he hke => ⟨vs, m6.1 _ _ nDb hDv, ?_, vs ++ [v], ds ++ [e], upd_same, by rw [List.length_append, hl]; rfl, ?_, ?_, ?_, (m5.trans m6).mut m3.2 hD⟩⟩
      · exact small1000 (by omega)
      · exact ((hvs.keep (m6.kt m5.2)).snoc hv).keep (Kt.lst (m6.1 _ _ nDb hDv))
      · intro e' he'
        rcases List.mem_append.mp he' with h | h
        · exact hds e' h
        · cases List.mem_singleton.mp h
          exact he
      · intro j k e' hk' he'
        have hdl : ds.length = i := by have := hvs.1; omega
        by_cases hj : j < i
        · rw [List.getElem?_append_left (by omega)] at he'
          exact hik j k e' hk' he'
        · rw [List.getElem?_append_right (by omega)] at he'
          have hj0 : j - ds.length = 0 := by
            have := (List.getElem?_eq_some_iff.mp he').1
            simp at this
            omega
          rw [hj0] at he'
          cases he'
          have hji : j = i := by omega
          subst hji
          rw [getD_at (a0 := Kd.int) hi] at hk'
          cases hk'
          exact hke
    · obtain ⟨vs, ds, hDv, hl, hvs, hds, hik, m5⟩ := hP
      refine ⟨D, vs, rfl, .inl ⟨.of hDv, fun l hl' => ?_⟩⟩
      have e5 := same_new (o := .tup vs) hl'
      refine q _ (.tuple ds) _ ((m3.trans m5).ext e5) ((hvs.keep (Kt.same e5)).tup (.of upd_same)) (.tup (by have h := hvs.1; omega) hds) ?_
      show isk (.tup ks) (.tuple ds) = true
      rw [isk]
      exact iskAll_of (by have h := hvs.1; omega) hik
  | lst kj =>
    refine q_when (b := false) (et_is (et_test (ev_op (ev_var rfl) ev_c (rv_eqD hu (.str "int") sk shaped_int))) (by rw [Kd.data]; rfl)) (fun h => Bool.noConfusion h) (fun _ H1 e1 => ?_)
    have hu1 := hu.keep (Kt.same e1)
    refine q_when (b := false) (et_is (et_test (ev_op (ev_var rfl) ev_c (rv_eqD hu1 (.str "word") sk shaped_word))) (by rw [Kd.data]; rfl)) (fun h => Bool.noConfusion h) (fun _ H2 e2 => ?_)
    have m2 := Mv.same hB (e1.trans e2)
    have hu2 := hu1.keep (Kt.same e2)
    rw [Kd.data] at hu2
    obtain ⟨a, y0, y1, rfl, ha, h0, h1⟩ := hu2.g2
    cases h0.str_inv
    refine q_when (b := false) (et_is (et_test (ev_op (ev_ixT (j := 0) (ev_var rfl) ev_c ha rfl) ev_c (rv_eq rfl))) (by decide +kernel)) (fun h => Bool.noConfusion h) (fun _ H3 e3 => ?_)
    have m3 := m2.ext e3
    have hkj : OkK N kj := by cases hk with | lst h => exact h
    refine ⟨_, rfl, b, d, 4, rfl, m3.2, by decide, fun x H4 x0 x1 m4 => ⟨x, rfl, by omega, by omega, fun D hD => ?_⟩⟩
    have m34 := m3.trans m4
    have nDb : D ≠ b := (m34.2.neb hD).1
    have ha4 : SqT K H4 a [.str "list", y1] := m4.kt m3.2 _ _ (ex_t e3 ha)
    refine lc_range (lo := 0) (n := x.toNat) (fun i H' => ∃ (vs : List V) (ds : List PyData), H' D = some (.lst vs) ∧ vs.length = i ∧ Vds K H' vs ds ∧ (∀ e ∈ ds, Dk N e ∧ isk kj e = true) ∧ Mv b d H4 H')
      ⟨[], [], upd_same, rfl, .nil, fun _ h => (nomatch h), (Mv.refl m34.2).new hD⟩ (fun i H5 hi hP => ⟨rfl, ?_⟩) (fun H5 hP => ?_)
    · obtain ⟨vs, ds, hDv, hl, hvs, hds, m5⟩ := hP
      refine ⟨_, rfl, _, rfl, a, _, 1, _, rfl, rfl, m5.kt m34.2 _ _ ha4, rfl, b, d, _, kj, rfl, m5.2, ((h1.keep (Kt.same e3)).keep (m4.kt m3.2)).keep (m5.kt m34.2), hkj, by omega, fun v e H6 m6 hv he hke => ⟨vs, m6.1 _ _ nDb hDv, ?_, vs ++ [v], ds ++ [e], upd_same, by rw [List.length_append, hl]; rfl, ?_, ?_, (m5.trans m6).mut m34.2 hD⟩⟩
      · exact small1000 (by omega)
      · exact ((hvs.keep (m6.kt m5.2)).snoc hv).keep (Kt.lst (m6.1 _ _ nDb hDv))
      · intro e' he'
        rcases List.mem_append.mp he' with h | h
        · exact hds e' h
        · cases List.mem_singleton.mp h
          exact ⟨he, hke⟩
    · obtain ⟨vs, ds, hDv, hl, hvs, hds, m5⟩ := hP
      refine ⟨D, vs, rfl, .inl ⟨.of hDv, fun l hl' => ?_⟩⟩
      have e5 := same_new (o := .tup vs) hl'
      refine q _ (.tuple ds) _ ((m34.trans m5).ext e5) ((hvs.keep (Kt.same e5)).tup (.of upd_same)) (.tup (by have h := hvs.1; omega) fun e he => (hds e he).1) ?_
      show isk (.lst kj) (.tuple ds) = true
      rw [isk]
      exact List.all_eq_true.mpr fun e he => (hds e he).2
end
end K1
namespace K1
open PySem PySem.Spec PyProof.Rows L2 Evl Cr
abbrev s_law : Stmt := topS 15
abbrev N_law : List Str := ["script", "k", "box", "kinds", "values", "kind", "value", "told"]
theorem sc_law : FnScope N_law ["script"] (defScope s_law) := ⟨rfl, rfl, rfl, by decide +kernel, rfl, by decide +kernel, by decide +kernel⟩
section
variable {P : Program} {w : World} {K : PySem.W.Frag} {mg : Str → Option Value} {base : Heap}
def spLaw (K : PySem.W.Frag) : Sp := fun vs H Q _ => ∃ (a : Addr) (ns : List Int), vs = [.ref a] ∧ SqL K H a (ns.map V.int) ∧ ns.length ≤ 63 ∧ ∀ H', Q (.bl true) H'
/-- the script stays, whatever a new box lives through -/
theorem script_stays {H H1 H2 : Hp} {a b d : Addr} {xs : List V} (h : SqL K H a xs) (hb : H b = none) (e : Same H H1) (m : Mv b d H1 H2) : SqL K H2 a xs := by
  rcases h with (h | ⟨o, h⟩) | h
  · exact .inl (.inl (m.1 _ _ (ne_of_none h hb) (e _ _ h)))
  · exact .inl (.inr ⟨o, m.1 _ _ (ne_of_none h hb) (e _ _ h)⟩)
  · exact .inr h
/-- what the two loops find -/
structure Found (K : PySem.W.Frag) (H : Hp) (pk pv : Addr) (kV vV : List V) (ks : List Kd) (ds : List PyData) : Prop where
  hk : H pk = some (.lst kV)
  hv : H pv = some (.lst vV)
  ok : Vds K H kV (ks.map Kd.data)
  ov : Vds K H vV ds
  kk : ∀ k ∈ ks, OkK 3 k
  dd : ∀ e ∈ ds, Dk 20 e
abbrev restV (q1 q2 q4 : Addr) : List V := [.ref q1, .str "", .str "Ab", .str "abcdefghi", .str "abcdefgh", .int 5, .ref q2, .ref q4, .str "a1", .str "a b", .str "a-b"]
abbrev restD : List PyData := [.tuple [], .str "", .str "Ab", .str "abcdefghi", .str "abcdefgh", .int 5, .tuple [.int 3, .str "ab"], .tuple [.tuple []], .str "a1", .str "a b", .str "a-b"]
theorem ok_law {f : Addr} {fd : FuncData} (T : Tx mg) (F : Fun K "law" "law" s_law f fd) (c_is_of_kind : Cl P w K mg base "is_of_kind" ["value", "kind"] 4 (spIs K 3)) (c__law_iskind : Cl P w K mg base "_law_iskind" ["value", "kind"] 4 (spIs K 3))
    (c__law_box : Cl P w K mg base "_law_box" ["script", "k"] 3 (spBox K)) (c__law_kind : Cl P w K mg base "_law_kind" ["box", "depth"] 4 (spLKind K 3)) (c__law_value : Cl P w K mg base "_law_value" ["box", "kind"] 4 (spLVal K 3)) : FnOk P w K mg base CX0 5 f fd ["script"] (spLaw K) := by
  refine F.ok sc_law (fun vs H Q E h => ?_) (fun cdv A outer s H vs Q E hr h => ?_)
  · obtain ⟨a, ns, rfl, _⟩ := h
    rfl
  obtain ⟨a, ns, rfl, ha, h63, q⟩ := h
  refine ⟨_, (pss_cons (ps_for PassesOwn.never rfl (pi_range1 (by rfl) T.z_range (pa_cons (pe_callB (call_min2 rfl) (by rfl) T.z_min (by decide +kernel) (pa_cons pe_int (pa_cons (pe_callB (call_max2 rfl) (by rfl) T.z_max (by decide +kernel) (pa_cons pe_int (pa_cons (pe_op op_fdiv (pe_callB call_len_seq (by rfl) T.z_len PySem.boot_len (pa_cons (pv 0) pa_nil)) pe_int) pa_nil))) pa_nil))) pa_nil)) (pg_name (i := 1) sc_law.nd rfl (Or.inl rfl)) (pss_cons (ps_set (i := 2) sc_law.nd rfl (Or.inr rfl) (pe_call c__law_box.ok (hr.mono (by omega)) (by rfl) c__law_box.m c__law_box.kp c__law_box.b .nil pass0 (pa_cons (pv 0) (pa_cons (pe_op op_mul pe_int (pv 1)) pa_nil))))
        (pss_cons (ps_set (i := 3) sc_law.nd rfl (Or.inl rfl) (pe_lst (pa_cons (pe_call c__law_kind.ok (hr.mono (by omega)) (by rfl) c__law_kind.m c__law_kind.kp c__law_kind.b .nil pass0 (pa_cons (pv 2) (pa_cons pe_int pa_nil))) (pa_cons (pe_call c__law_kind.ok (hr.mono (by omega)) (by rfl) c__law_kind.m c__law_kind.kp c__law_kind.b .nil pass0 (pa_cons (pv 2) (pa_cons pe_int pa_nil))) (pa_cons pe_str (pa_cons pe_str (pa_cons (pe_tup (pa_cons pe_str (pa_cons (pe_tup pa_nil) pa_nil))) (pa_cons (pe_tup (pa_cons pe_str (pa_cons pe_str pa_nil))) pa_nil))))))))
        (pss_cons (ps_set (i := 4) sc_law.nd rfl (Or.inl rfl) (pe_op op_cat (pe_lc (own := [("kind", 5)]) (g := gName 5) (by rfl) sc_law.nd (pi_list (pv 3)) (blkOk_by (own := [("kind", 5)]) (N := N_law) (sc := defScope s_law) (by decide +kernel)) (fun _ _ _ _ _ => (pg_name (i := 5) sc_law.nd rfl (Or.inl rfl))) (fun _ _ _ _ _ => pts_nil) (fun _ _ _ _ _ => (pe_call c__law_value.ok (hr.mono (by omega)) (by rfl) c__law_value.m c__law_value.kp c__law_value.b .nil pass0 (pa_cons (pv 2) (pa_cons (pv 5) pa_nil))))) (pe_lst (pa_cons (pe_tup pa_nil) (pa_cons pe_str (pa_cons pe_str (pa_cons pe_str (pa_cons pe_str (pa_cons pe_int (pa_cons (pe_tup (pa_cons pe_int (pa_cons pe_str pa_nil))) (pa_cons (pe_tup (pa_cons (pe_tup pa_nil) pa_nil)) (pa_cons pe_str (pa_cons pe_str (pa_cons pe_str pa_nil))))))))))))))
        (pss_cons (ps_expr (pe_bm PySem.F.plainAttrs_list PySem.F.slot_list_append PySem.F.type_list_append mt_append (pv 4) (pa_cons (pe_tup (pa_cons (pe_ix (r := rIxL K) ix_list (pv 4) pe_int (fun _ _ => rfl)) pa_nil)) pa_nil)))
        (pss_cons (ps_expr (pe_bm PySem.F.plainAttrs_list PySem.F.slot_list_append PySem.F.type_list_append mt_append (pv 4) (pa_cons (pe_tup (pa_cons (pe_ix (r := rIxL K) ix_list (pv 4) pe_int (fun _ _ => rfl)) (pa_cons (pe_ix (r := rIxL K) ix_list (pv 4) pe_int (fun _ _ => rfl)) pa_nil))) pa_nil)))
        (pss_one (ps_for PassesOwn.never rfl (pi_list (pv 3)) (pg_name (i := 5) sc_law.nd rfl (Or.inl rfl)) (pss_one (ps_for PassesOwn.never rfl (pi_list (pv 4)) (pg_name (i := 6) sc_law.nd rfl (Or.inl rfl)) (pss_cons (ps_set (i := 7) sc_law.nd rfl (Or.inl rfl) (pe_call c_is_of_kind.ok (hr.mono (by omega)) (by rfl) c_is_of_kind.m c_is_of_kind.kp c_is_of_kind.b .nil pass0 (pa_cons (pv 6) (pa_cons (pv 5) pa_nil))))
            (pss_one (ps_if (PW.pt (pw_or (pt_not (pt_val (pe_callB call_isi (by rfl) T.z_isinstance (by decide +kernel) (pa_cons (pv 7) (pa_cons (pe_bltn (v := .ty "bool") (u := .type "bool") (by rfl) T.z_bool (by decide +kernel) rfl) pa_nil))))) (pw_or1 (pt_cmpR op_ne (pv 7) (pe_call c__law_iskind.ok (hr.mono (by omega)) (by rfl) c__law_iskind.m c__law_iskind.kp c__law_iskind.b .nil pass0 (pa_cons (pv 6) (pa_cons (pv 5) pa_nil))) (nomark _))))) (pss_one (ps_ret pe_bl)) pss_nil)))))))))))))
      (pss_one (ps_ret pe_bl))), ?_⟩
  refine ⟨_, rfl, a, _, rfl, .inl ha, _, _, rfl, rfl, ⟨by decide, by decide⟩, _, _, rfl, _, _, rfl, _, rfl, ?_, ?_, for_range (lo := 0) (fun i σ' H' => ∃ z1 z2 z3 z4 z5 z6 z7 : Option V, σ' = [some (.ref a), z1, z2, z3, z4, z5, z6, z7] ∧ SqL K H' a (ns.map V.int)) ⟨_, _, _, _, _, _, _, rfl, ha⟩ (fun i σ' H' hi hP => ?_) (fun σ' H' hP => ?_)⟩
  · omega
  · rw [List.length_map]
    omega
  case refine_4 =>
    obtain ⟨z1, z2, z3, z4, z5, z6, z7, rfl, hS⟩ := hP
    exact q _
  obtain ⟨z1, z2, z3, z4, z5, z6, z7, rfl, hS⟩ := hP
  -- box = _law_box(script, 2 * k)
  refine ⟨_, rfl, _, rfl, _, _, rfl, rfl, .inl ⟨by decide, by decide⟩, a, ns, 2 * i, (by simp), hS, fun b d H1 e1 hb hB => ?_⟩
  -- kinds
  refine ⟨_, rfl, b, d, 2, rfl, hB, by omega, fun v0 kd0 H2 m2 hv0 hk0 => ⟨_, rfl, b, d, 2, rfl, m2.2, by omega, fun v1 kd1 H3 m3 hv1 hk1 => ⟨by decide, fun p1 hp1 => ⟨(by show 2 ≤ sizeLine; decide), fun p2 hp2 => ⟨by decide, fun p3 hp3 => ⟨(by show 6 ≤ sizeLine; decide), fun p4 hp4 => ?_⟩⟩⟩⟩⟩⟩
  have s1 := same_new (o := .tup []) hp1
  have s2 := same_new (o := .tup [.str "tuple", .ref p1]) hp2
  have s3 := same_new (o := .tup [.str "list", .str "int"]) hp3
  have s4 := same_new (o := .lst [v0, v1, .str "int", .str "word", .ref p2, .ref p3]) hp4
  generalize hH4 : upd (upd (upd (upd H3 p1 (.tup [])) p2 (.tup [.str "tuple", .ref p1])) p3 (.tup [.str "list", .str "int"])) p4 (.lst [v0, v1, .str "int", .str "word", .ref p2, .ref p3]) = H4 at s4 ⊢
  have e34 : Same H3 H4 := s1.trans (s2.trans (s3.trans s4))
  have m4 : Mv b d H1 H4 := (m2.trans m3).ext e34
  have hk4 : H4 p4 = some (.lst [v0, v1, .str "int", .str "word", .ref p2, .ref p3]) := by rw [← hH4]; exact upd_same
  have n4 : p4 ≠ b := (((m2.trans m3).ext (s1.trans (s2.trans s3))).2.neb hp4).1
  have kk : ∀ k ∈ [kd0, kd1, Kd.int, Kd.word, Kd.tup [], Kd.lst Kd.int], OkK 3 k := fun k hk => by
    simp only [List.mem_cons, List.not_mem_nil, or_false] at hk
    rcases hk with rfl | rfl | rfl | rfl | rfl | rfl
    · exact hk0
    · exact hk1
    · exact .int
    · exact .word
    · exact .tup (by decide) fun _ h => nomatch h
    · exact .lst .int
  have ok4 : Vds K H4 [v0, v1, .str "int", .str "word", .ref p2, .ref p3] ([kd0, kd1, Kd.int, Kd.word, Kd.tup [], Kd.lst Kd.int].map Kd.data) := by
    refine .cons ((hv0.keep (m3.kt m2.2)).keep (Kt.same e34)) (.cons (hv1.keep (Kt.same e34)) (.cons ?_ (.cons ?_ (.cons ?_ (.cons ?_ .nil)))))
    · rw [Kd.data]; exact .str _
    · rw [Kd.data]; exact .str _
    · rw [Kd.data, dataAll]
      exact .t2 (.of ((s3.trans s4) _ _ upd_same)) (.str _) (.t0 (.of ((s2.trans (s3.trans s4)) _ _ upd_same)))
    · rw [Kd.data, Kd.data]
      exact .t2 (.of (s4 _ _ upd_same)) (.str _) (.str _)
  generalize hkV : [v0, v1, V.str "int", V.str "word", V.ref p2, V.ref p3] = kV at hk4 ok4
  generalize hks : [kd0, kd1, Kd.int, Kd.word, Kd.tup [], Kd.lst Kd.int] = ks at kk ok4
  have hl6 : kV.length = 6 := by rw [← hkV]; rfl
  have hks6 : ks.length = 6 := by rw [← hks]; rfl
  -- values, the first part
  refine ⟨_, rfl, p4, rfl, ⟨_, .of hk4⟩, fun D hD => lc_list (K := K) (a := p4) (xs := kV) (fun i H' => ∃ (vs : List V) (ds : List PyData), H' D = some (.lst vs) ∧ vs.length = i ∧ Vds K H' vs ds ∧ (∀ e ∈ ds, Dk 3 e) ∧ Mv b d H4 H')
    ⟨[], [], upd_same, rfl, .nil, fun _ h => (nomatch h), (Mv.refl m4.2).new hD⟩ (fun i H' _ ⟨_, _, _, _, _, _, m⟩ => m.sql n4 (.of hk4)) (fun i u H5 hu hP => ⟨rfl, ?_⟩) (fun H5 hP => ?_)⟩
  · obtain ⟨vs, ds, hDv, hl, hvs, hds, m5⟩ := hP
    have hi6 : i < ks.length := by have := (List.getElem?_eq_some_iff.mp hu).1; omega
    have hkd : (ks.map Kd.data)[i]? = some (ks.getD i .int).data := by rw [List.getElem?_map, getD_at (a0 := Kd.int) hi6]; rfl
    have nDb : D ≠ b := (m4.2.neb hD).1
    refine ⟨_, rfl, _, rfl, b, d, u, ks.getD i .int, rfl, m5.2, (ok4.2 i u _ hu hkd).keep (m5.kt m4.2), kk _ (List.mem_of_getElem? (getD_at hi6)), by omega, fun v e H6 m6 hv he _ => ⟨vs, m6.1 _ _ nDb hDv, small1000 (by omega), vs ++ [v], ds ++ [e], upd_same, by rw [List.length_append, hl]; rfl, ?_, ?_, (m5.trans m6).mut m4.2 hD⟩⟩
    · exact ((hvs.keep (m6.kt m5.2)).snoc hv).keep (Kt.lst (m6.1 _ _ nDb hDv))
    · intro e' he'
      rcases List.mem_append.mp he' with h | h
      · exact hds e' h
      · cases List.mem_singleton.mp h
        exact he
  obtain ⟨vs, ds, hDv, hl, hvs, hds, m5⟩ := hP
  rw [hl6] at hl
  -- the second part
  refine ⟨by decide, fun q1 g1 => ⟨(by show 2 ≤ sizeLine; decide), fun q2 g2 => ⟨by decide, fun q3 g3 => ⟨(by show 1 ≤ sizeLine; decide), fun q4 g4 => ⟨(by show 11 ≤ sizeLine; decide), fun q5 g5 => ?_⟩⟩⟩⟩⟩
  have r1 := same_new (o := .tup []) g1
  have r2 := same_new (o := .tup [.int 3, .str "ab"]) g2
  have r3 := same_new (o := .tup []) g3
  have r4 := same_new (o := .tup [.ref q3]) g4
  have r5 := same_new (o := .lst (restV q1 q2 q4)) g5
  have wt1 := (r2.trans (r3.trans (r4.trans r5))) _ _ (upd_same (H := H5) (a := q1) (o := .tup []))
  have wt2 := (r3.trans (r4.trans r5)) _ _ (upd_same (a := q2) (o := .tup [.int 3, .str "ab"]))
  have wt3 := (r4.trans r5) _ _ (upd_same (a := q3) (o := .tup []))
  have wt4 := r5 _ _ (upd_same (a := q4) (o := .tup [.ref q3]))
  have wt5 := upd_same (H := upd (upd (upd (upd H5 q1 (.tup [])) q2 (.tup [.int 3, .str "ab"])) q3 (.tup [])) q4 (.tup [.ref q3])) (a := q5) (o := .lst (restV q1 q2 q4))
  have e56 := r1.trans (r2.trans (r3.trans (r4.trans r5)))
  generalize hH6 : upd (upd (upd (upd (upd H5 q1 (.tup [])) q2 (.tup [.int 3, .str "ab"])) q3 (.tup [])) q4 (.tup [.ref q3])) q5 (.lst (restV q1 q2 q4)) = H6 at wt1 wt2 wt3 wt4 wt5 e56 ⊢
  have hDv6 := e56 _ _ hDv
  have ov6 : Vds K H6 (vs ++ restV q1 q2 q4)
      (ds ++ restD) :=
    (hvs.keep (Kt.same e56)).app (.cons (.t0 (.of wt1)) (.cons (.str _) (.cons (.str _) (.cons (.str _) (.cons (.str _) (.cons (.int _) (.cons (.t2 (.of wt2) (.int _) (.str _)) (.cons (.t1 (.of wt4) (.t0 (.of wt3))) (.cons (.str _) (.cons (.str _) (.cons (.str _) .nil)))))))))))
  have dd6 : ∀ e ∈ ds ++ restD, Dk 3 e := fun e he => by
    rcases List.mem_append.mp he with h | h
    · exact hds e h
    · simp only [restD, List.mem_cons, List.not_mem_nil, or_false] at h
      rcases h with rfl | rfl | rfl | rfl | rfl | rfl | rfl | rfl | rfl | rfl | rfl
      · exact .tup (by decide) fun _ h => nomatch h
      · exact dk_str
      · exact dk_str
      · exact dk_str
      · exact dk_str
      · exact .int _
      · exact dk_t2 (.int _) dk_str
      · exact .tup (by decide) fun x hx => by
          cases List.mem_singleton.mp hx
          exact .tup (by decide) fun _ h => nomatch h
      · exact dk_str
      · exact dk_str
      · exact dk_str
  have hw : (vs ++ restV q1 q2 q4).length = 17 := by rw [List.length_append, hl]; rfl
  refine ⟨D, q5, _, _, rfl, rfl, hDv6, wt5, (by rw [hl]; show 17 ≤ sizeLine; decide), fun p5 hp5 => ?_⟩
  generalize vs ++ restV q1 q2 q4 = wV at ov6 hw ⊢
  generalize ds ++ restD = wD at ov6 dd6
  have e6 := same_new (o := .lst wV) hp5
  have m6 : Mv b d H4 (upd H6 p5 (.lst wV)) := m5.ext (e56.trans e6)
  have n54 : p4 ≠ p5 := ne_of_none ((m5.ext e56).1 _ _ n4 hk4) hp5
  have n5b : p5 ≠ b := ((m5.ext e56).2.neb hp5).1
  have h5 : upd H6 p5 (.lst wV) p5 = some (.lst wV) := upd_same
  have ov7 := ov6.keep (Kt.same e6)
  have hwl : wD.length = 17 := by rw [← ov6.1]; exact hw
  have w0 : wV[0]? = some (wV.getD 0 .non) := getD_at (by omega)
  have w1 : wV[1]? = some (wV.getD 1 .non) := getD_at (by omega)
  have x0 : wD[0]? = some (wD.getD 0 .none) := getD_at (by omega)
  have x1 : wD[1]? = some (wD.getD 1 .none) := getD_at (by omega)
  -- values.append((values[0],))
  refine q_appU h5 (ev_var rfl) (eu_tup (ea_cons (ev_ixL (j := 0) (ev_var rfl) ev_c (.of h5) w0) ea_nil) (by show 1 ≤ 100000; decide)) (by omega) fun pA HA hA eA tA => ?_
  have h8 : upd HA p5 (.lst (wV ++ [.ref pA])) p5 = some (.lst (wV ++ [.ref pA])) := upd_same
  have tA8 : upd HA p5 (.lst (wV ++ [.ref pA])) pA = some (.tup [wV.getD 0 .non]) := by rw [upd_ne (fun e => by rw [e, h5] at hA; cases hA)]; exact tA
  have k8 : Kt K (upd H6 p5 (.lst wV)) (upd HA p5 (.lst (wV ++ [.ref pA]))) := (Kt.same eA).trans (Kt.lst (eA _ _ h5))
  have ov8 : Vds K (upd HA p5 (.lst (wV ++ [.ref pA]))) (wV ++ [.ref pA]) (wD ++ [PyData.tuple [wD.getD 0 .none]]) := (ov7.keep k8).snoc (.t1 (.of tA8) ((ov7.2 0 _ _ w0 x0).keep k8))
  have a0 : (wV ++ [V.ref pA])[0]? = some (wV.getD 0 .non) := by rw [List.getElem?_append_left (by omega)]; exact w0
  have a1 : (wV ++ [V.ref pA])[1]? = some (wV.getD 1 .non) := by rw [List.getElem?_append_left (by omega)]; exact w1
  refine q_appU h8 (ev_var rfl) (eu_tup (ea_cons (ev_ixL (j := 0) (ev_var rfl) ev_c (.of h8) a0) (ea_cons (ev_ixL (j := 1) (ev_var rfl) ev_c (.of h8) a1) ea_nil)) (by show 2 ≤ 100000; decide)) (by rw [List.length_append, hw]; show 18 < 100000; decide) fun pB HB hB' eB tB => ?_
  have h9 : upd HB p5 (.lst (wV ++ [.ref pA] ++ [.ref pB])) p5 = some (.lst (wV ++ [.ref pA] ++ [.ref pB])) := upd_same
  have tB9 : upd HB p5 (.lst (wV ++ [.ref pA] ++ [.ref pB])) pB = some (.tup [wV.getD 0 .non, wV.getD 1 .non]) := by rw [upd_ne (fun e => by rw [e, h8] at hB'; cases hB')]; exact tB
  have k9 : Kt K (upd HA p5 (.lst (wV ++ [.ref pA]))) (upd HB p5 (.lst (wV ++ [.ref pA] ++ [.ref pB]))) := (Kt.same eB).trans (Kt.lst (eB _ _ h8))
  have ov9 : Vds K (upd HB p5 (.lst (wV ++ [.ref pA] ++ [.ref pB]))) (wV ++ [.ref pA] ++ [.ref pB]) (wD ++ [PyData.tuple [wD.getD 0 .none]] ++ [PyData.tuple [wD.getD 0 .none, wD.getD 1 .none]]) :=
    (ov8.keep k9).snoc (.t2 (.of tB9) ((ov7.2 0 _ _ w0 x0).keep (k8.trans k9)) ((ov7.2 1 _ _ w1 x1).keep (k8.trans k9)))
  have d0 : Dk 3 (wD.getD 0 .none) := dd6 _ (List.mem_of_getElem? x0)
  have d1 : Dk 3 (wD.getD 1 .none) := dd6 _ (List.mem_of_getElem? x1)
  have m9 : Mv b d H4 (upd HB p5 (.lst (wV ++ [.ref pA] ++ [.ref pB]))) := by
    have hp5' : H4 p5 = none := by
      cases hq : H4 p5 with
      | none => rfl
      | some o =>
        have := (m5.ext e56).1 _ _ n5b hq
        rw [hp5] at this
        cases this
    exact ((((m6.ext eA).mut m4.2 hp5').ext eB).mut m4.2 hp5')
  have FD : Found K (upd HB p5 (.lst (wV ++ [.ref pA] ++ [.ref pB]))) p4 p5 kV (wV ++ [.ref pA] ++ [.ref pB]) ks (wD ++ [PyData.tuple [wD.getD 0 .none]] ++ [PyData.tuple [wD.getD 0 .none, wD.getD 1 .none]]) :=
    ⟨m9.1 _ _ n4 hk4, h9, (ok4.keep (m9.kt m4.2)), ov9, kk, fun e he => by
      rcases List.mem_append.mp he with h | h
      · rcases List.mem_append.mp h with h | h
        · exact (dd6 e h).mono (by omega)
        · cases List.mem_singleton.mp h
          refine (Dk.tup (n := 3) (by show 1 ≤ 1000; decide) fun x hx => ?_).mono (by omega)
          cases List.mem_singleton.mp hx
          exact d0
      · cases List.mem_singleton.mp h
        exact (dk_t2 d0 d1).mono (by omega)⟩
  have hS9 := script_stays hS hb e1 (m4.trans m9)
  generalize upd HB p5 (.lst (wV ++ [.ref pA] ++ [.ref pB])) = H9 at FD hS9 ⊢
  generalize wV ++ [V.ref pA] ++ [V.ref pB] = vV at FD
  generalize wD ++ [PyData.tuple [wD.getD 0 .none]] ++ [PyData.tuple [wD.getD 0 .none, wD.getD 1 .none]] = dV at FD
  -- the loops
  refine s_forLn (a := p4) (xs := kV) (ev_var rfl) (.of FD.hk) (fun i σ' H' => ∃ z1 z5 z6 z7 : Option V, σ' = [some (.ref a), z1, some (.ref b), some (.ref p4), some (.ref p5), z5, z6, z7] ∧ Same H9 H') (fun H' e => ⟨_, _, _, _, rfl, e⟩)
    (fun i σ' H' _ ⟨_, _, _, _, _, e⟩ => .of (e _ _ FD.hk)) (fun i u σ' H' hu hP => ?_) (fun σ' H' hP => ?_)
  case refine_2 =>
    obtain ⟨z1, z5, z6, z7, rfl, e⟩ := hP
    exact ⟨_, _, _, _, _, _, _, rfl, e.seq hS9⟩
  obtain ⟨z1, z5, z6, z7, rfl, e⟩ := hP
  have hi6 : i < ks.length := by have := (List.getElem?_eq_some_iff.mp hu).1; omega
  have hkd : (ks.map Kd.data)[i]? = some (ks.getD i .int).data := by rw [List.getElem?_map, getD_at (a0 := Kd.int) hi6]; rfl
  have hok := kk _ (List.mem_of_getElem? (getD_at (a0 := Kd.int) hi6))
  have hu9 := FD.ok.2 i u _ hu hkd
  generalize ks.getD i .int = kd at hok hu9
  refine s_forLn (a := p5) (xs := vV) (ev_var rfl) (.of (e _ _ FD.hv)) (fun i σ' H' => ∃ z6 z7 : Option V, σ' = [some (.ref a), z1, some (.ref b), some (.ref p4), some (.ref p5), some u, z6, z7] ∧ Same H9 H') (fun H' e' => ⟨_, _, rfl, e.trans e'⟩)
    (fun i σ' H' _ ⟨_, _, _, e⟩ => .of (e _ _ FD.hv)) (fun j v σ' H' hv hP => ?_) (fun σ' H' hP => ?_)
  case refine_2 =>
    obtain ⟨z6, z7, rfl, e⟩ := hP
    exact ⟨_, _, _, _, rfl, e⟩
  obtain ⟨z6, z7, rfl, e'⟩ := hP
  have hj : j < dV.length := by have := (List.getElem?_eq_some_iff.mp hv).1; have := FD.ov.1; omega
  have hd20 := FD.dd _ (List.mem_of_getElem? (getD_at (a0 := PyData.none) hj))
  have hv9 := FD.ov.2 j v _ hv (getD_at (a0 := PyData.none) hj)
  generalize dV.getD j .none = dd at hd20 hv9
  refine q_asg (ev_callC (ea_cons (ev_var rfl) (ea_cons (ev_var rfl) ea_nil)) (is_call (hv9.keep (Kt.same e')) hd20 (hu9.keep (Kt.same e')) hok (by omega))) fun Ha ea => ?_
  have e9a := e'.trans ea
  refine s_when (b := false) (et_orF (et_not (et_B (ev_isiB (ev_var rfl) ev_c k_bb))) (et_is (et_test (ev_op (ev_var rfl) (ev_callC (ea_cons (ev_var rfl) (ea_cons (ev_var rfl) ea_nil)) (is_call (hv9.keep (Kt.same e9a)) hd20 (hu9.keep (Kt.same e9a)) hok (by omega))) (rv_ne rfl))) (by rw [decide_eq_true rfl]; rfl))) (fun h => Bool.noConfusion h) (fun _ Hb eb => ?_)
  exact ⟨_, _, rfl, e9a.trans eb⟩
end
end K1
namespace K1
open PySem PySem.Spec PyProof.Rows L2 Evl Cr
/-! ### what the top has written -/
theorem rec_is {P : Program} {w : World} {K : PySem.W.Frag} {mg : Str → Option Value} {base : Heap} {f : Addr} {fd : FuncData} (T : Tx mg) (F : Fun K "is_of_kind" "is_of_kind" s_is_of_kind f fd) (b : Binds K fd ["value", "kind"] []) (m : mg "is_of_kind" = some (.ref f)) (c_is_word : Cl P w K mg base "is_word" ["text"] 1 spWord) (c_kinds_in_tuple : Cl P w K mg base "kinds_in_tuple" ["kind"] 1 (spKit K))
    (c_kind_in_list : Cl P w K mg base "kind_in_list" ["kind"] 1 (spKil K)) : ∀ n : Nat, FnOk P w K mg base CX0 (n + 1) f fd ["value", "kind"] (spIs K n)
  | 0 => no_call spIs_0
  | n + 1 => ok_is_of_kind T F c_is_word c_kinds_in_tuple c_kind_in_list ⟨f, fd, rec_is T F b m c_is_word c_kinds_in_tuple c_kind_in_list n, b, F.kp, m⟩
theorem rec_iskind {P : Program} {w : World} {K : PySem.W.Frag} {mg : Str → Option Value} {base : Heap} {f : Addr} {fd : FuncData} (T : Tx mg) (F : Fun K "_law_iskind" "_law_iskind" s__law_iskind f fd) (b : Binds K fd ["value", "kind"] []) (m : mg "_law_iskind" = some (.ref f)) (c__law_isword : Cl P w K mg base "_law_isword" ["word"] 1 spLWord) :
    ∀ n : Nat, FnOk P w K mg base CX0 (n + 1) f fd ["value", "kind"] (spIs K n)
  | 0 => no_call spIs_0
  | n + 1 => ok__law_iskind T F c__law_isword ⟨f, fd, rec_iskind T F b m c__law_isword n, b, F.kp, m⟩
theorem rec_lkind {P : Program} {w : World} {K : PySem.W.Frag} {mg : Str → Option Value} {base : Heap} {f : Addr} {fd : FuncData} (T : Tx mg) (F : Fun K "_law_kind" "_law_kind" s__law_kind f fd) (b : Binds K fd ["box", "depth"] []) (m : mg "_law_kind" = some (.ref f)) (c__law_take : Cl P w K mg base "_law_take" ["box", "many"] 1 spTake) :
    ∀ n : Nat, FnOk P w K mg base CX0 (n + 1) f fd ["box", "depth"] (spLKind K n)
  | 0 => no_call fun vs H Q E h => by
    obtain ⟨_, _, _, _, _, h, _⟩ := h
    omega
  | n + 1 => ok__law_kind T F c__law_take ⟨f, fd, rec_lkind T F b m c__law_take n, b, F.kp, m⟩
theorem rec_lval {P : Program} {w : World} {K : PySem.W.Frag} {mg : Str → Option Value} {base : Heap} {f : Addr} {fd : FuncData} (T : Tx mg) (F : Fun K "_law_value" "_law_value" s__law_value f fd) (b : Binds K fd ["box", "kind"] []) (m : mg "_law_value" = some (.ref f)) (c__law_take : Cl P w K mg base "_law_take" ["box", "many"] 1 spTake) :
    ∀ n : Nat, FnOk P w K mg base CX0 (n + 1) f fd ["box", "kind"] (spLVal K n)
  | 0 => no_call spLVal_0
  | n + 1 => ok__law_value T F c__law_take ⟨f, fd, rec_lval T F b m c__law_take n, b, F.kp, m⟩
theorem all_mk {l : PySem.W.OpenLaw} {w : World} {K : PySem.W.Frag} {h : Heap} {mg : Str → Option Value} {fa : Addr} (X : K.In h) (G : h.Ns mainGlobals mg) (hfa : mg "law" = some (.ref fa))
    {f1 : Addr} {od1 an1 : Option Addr} {sl1 : Array (Option Value)} {oc1 kV1 dc1 pm1 cd1 ct1 : Value}
    {f2 : Addr} {od2 an2 : Option Addr} {sl2 : Array (Option Value)} {oc2 kV2 dc2 pm2 cd2 ct2 : Value}
    {f3 : Addr} {od3 an3 : Option Addr} {sl3 : Array (Option Value)} {oc3 kV3 dc3 pm3 cd3 ct3 : Value}
    {f4 : Addr} {od4 an4 : Option Addr} {sl4 : Array (Option Value)} {oc4 kV4 dc4 pm4 cd4 ct4 : Value}
    {f5 : Addr} {od5 an5 : Option Addr} {sl5 : Array (Option Value)} {oc5 kV5 dc5 pm5 cd5 ct5 : Value}
    {f6 : Addr} {od6 an6 : Option Addr} {sl6 : Array (Option Value)} {oc6 kV6 dc6 pm6 cd6 ct6 : Value}
    {f7 : Addr} {od7 an7 : Option Addr} {sl7 : Array (Option Value)} {oc7 kV7 dc7 pm7 cd7 ct7 : Value}
    {f8 : Addr} {od8 an8 : Option Addr} {sl8 : Array (Option Value)} {oc8 kV8 dc8 pm8 cd8 ct8 : Value}
    {f9 : Addr} {od9 an9 : Option Addr} {sl9 : Array (Option Value)} {oc9 kV9 dc9 pm9 cd9 ct9 : Value}
    {f10 : Addr} {od10 an10 : Option Addr} {sl10 : Array (Option Value)} {oc10 kV10 dc10 pm10 cd10 ct10 : Value}
    {f11 : Addr} {od11 an11 : Option Addr} {sl11 : Array (Option Value)} {oc11 kV11 dc11 pm11 cd11 ct11 : Value}
    {f12 : Addr} {od12 an12 : Option Addr} {sl12 : Array (Option Value)} {oc12 kV12 dc12 pm12 cd12 ct12 : Value}
    {f13 : Addr} {od13 an13 : Option Addr} {sl13 : Array (Option Value)} {oc13 kV13 dc13 pm13 cd13 ct13 : Value}
    {t_LETTERS : Tok}
    (a1 : PySem.W.nsIn K mainGlobals "is_word" = some (some (.ref f1))) (l1 : K.lookup f1 = some ⟨oc1, od1, .func (PySem.W.fnOf "is_word" "is_word" (defArgs s_is_word) (defBody s_is_word) (defScope s_is_word) .none kV1 dc1 pm1 an1 cd1 ct1), sl1⟩) (c1 : PySem.W.codeIn K cd1 "is_word" = true) (k1 : PySem.W.keepIn K (.ref f1) = true)
    (a2 : PySem.W.nsIn K mainGlobals "kinds_in_tuple" = some (some (.ref f2))) (l2 : K.lookup f2 = some ⟨oc2, od2, .func (PySem.W.fnOf "kinds_in_tuple" "kinds_in_tuple" (defArgs s_kinds_in_tuple) (defBody s_kinds_in_tuple) (defScope s_kinds_in_tuple) .none kV2 dc2 pm2 an2 cd2 ct2), sl2⟩) (c2 : PySem.W.codeIn K cd2 "kinds_in_tuple" = true) (k2 : PySem.W.keepIn K (.ref f2) = true)
    (a3 : PySem.W.nsIn K mainGlobals "kind_in_list" = some (some (.ref f3))) (l3 : K.lookup f3 = some ⟨oc3, od3, .func (PySem.W.fnOf "kind_in_list" "kind_in_list" (defArgs s_kind_in_list) (defBody s_kind_in_list) (defScope s_kind_in_list) .none kV3 dc3 pm3 an3 cd3 ct3), sl3⟩) (c3 : PySem.W.codeIn K cd3 "kind_in_list" = true) (k3 : PySem.W.keepIn K (.ref f3) = true)
    (a4 : PySem.W.nsIn K mainGlobals "is_of_kind" = some (some (.ref f4))) (l4 : K.lookup f4 = some ⟨oc4, od4, .func (PySem.W.fnOf "is_of_kind" "is_of_kind" (defArgs s_is_of_kind) (defBody s_is_of_kind) (defScope s_is_of_kind) .none kV4 dc4 pm4 an4 cd4 ct4), sl4⟩) (c4 : PySem.W.codeIn K cd4 "is_of_kind" = true) (k4 : PySem.W.keepIn K (.ref f4) = true)
    (a5 : PySem.W.nsIn K mainGlobals "_law_cell" = some (some (.ref f5))) (l5 : K.lookup f5 = some ⟨oc5, od5, .func (PySem.W.fnOf "_law_cell" "_law_cell" (defArgs s__law_cell) (defBody s__law_cell) (defScope s__law_cell) .none kV5 dc5 pm5 an5 cd5 ct5), sl5⟩) (c5 : PySem.W.codeIn K cd5 "_law_cell" = true) (k5 : PySem.W.keepIn K (.ref f5) = true)
    (a6 : PySem.W.nsIn K mainGlobals "_law_draw" = some (some (.ref f6))) (l6 : K.lookup f6 = some ⟨oc6, od6, .func (PySem.W.fnOf "_law_draw" "_law_draw" (defArgs s__law_draw) (defBody s__law_draw) (defScope s__law_draw) .none kV6 dc6 pm6 an6 cd6 ct6), sl6⟩) (c6 : PySem.W.codeIn K cd6 "_law_draw" = true) (k6 : PySem.W.keepIn K (.ref f6) = true)
    (a7 : PySem.W.nsIn K mainGlobals "_law_box" = some (some (.ref f7))) (l7 : K.lookup f7 = some ⟨oc7, od7, .func (PySem.W.fnOf "_law_box" "_law_box" (defArgs s__law_box) (defBody s__law_box) (defScope s__law_box) .none kV7 dc7 pm7 an7 cd7 ct7), sl7⟩) (c7 : PySem.W.codeIn K cd7 "_law_box" = true) (k7 : PySem.W.keepIn K (.ref f7) = true)
    (a8 : PySem.W.nsIn K mainGlobals "_law_take" = some (some (.ref f8))) (l8 : K.lookup f8 = some ⟨oc8, od8, .func (PySem.W.fnOf "_law_take" "_law_take" (defArgs s__law_take) (defBody s__law_take) (defScope s__law_take) .none kV8 dc8 pm8 an8 cd8 ct8), sl8⟩) (c8 : PySem.W.codeIn K cd8 "_law_take" = true) (k8 : PySem.W.keepIn K (.ref f8) = true)
    (a9 : PySem.W.nsIn K mainGlobals "_law_kind" = some (some (.ref f9))) (l9 : K.lookup f9 = some ⟨oc9, od9, .func (PySem.W.fnOf "_law_kind" "_law_kind" (defArgs s__law_kind) (defBody s__law_kind) (defScope s__law_kind) .none kV9 dc9 pm9 an9 cd9 ct9), sl9⟩) (c9 : PySem.W.codeIn K cd9 "_law_kind" = true) (k9 : PySem.W.keepIn K (.ref f9) = true)
    (a10 : PySem.W.nsIn K mainGlobals "_law_isword" = some (some (.ref f10))) (l10 : K.lookup f10 = some ⟨oc10, od10, .func (PySem.W.fnOf "_law_isword" "_law_isword" (defArgs s__law_isword) (defBody s__law_isword) (defScope s__law_isword) .none kV10 dc10 pm10 an10 cd10 ct10), sl10⟩) (c10 : PySem.W.codeIn K cd10 "_law_isword" = true) (k10 : PySem.W.keepIn K (.ref f10) = true)
    (a11 : PySem.W.nsIn K mainGlobals "_law_iskind" = some (some (.ref f11))) (l11 : K.lookup f11 = some ⟨oc11, od11, .func (PySem.W.fnOf "_law_iskind" "_law_iskind" (defArgs s__law_iskind) (defBody s__law_iskind) (defScope s__law_iskind) .none kV11 dc11 pm11 an11 cd11 ct11), sl11⟩) (c11 : PySem.W.codeIn K cd11 "_law_iskind" = true) (k11 : PySem.W.keepIn K (.ref f11) = true)
    (a12 : PySem.W.nsIn K mainGlobals "_law_value" = some (some (.ref f12))) (l12 : K.lookup f12 = some ⟨oc12, od12, .func (PySem.W.fnOf "_law_value" "_law_value" (defArgs s__law_value) (defBody s__law_value) (defScope s__law_value) .none kV12 dc12 pm12 an12 cd12 ct12), sl12⟩) (c12 : PySem.W.codeIn K cd12 "_law_value" = true) (k12 : PySem.W.keepIn K (.ref f12) = true)
    (a13 : PySem.W.nsIn K mainGlobals "law" = some (some (.ref f13))) (l13 : K.lookup f13 = some ⟨oc13, od13, .func (PySem.W.fnOf "law" "law" (defArgs s_law) (defBody s_law) (defScope s_law) .none kV13 dc13 pm13 an13 cd13 ct13), sl13⟩) (c13 : PySem.W.codeIn K cd13 "law" = true) (k13 : PySem.W.keepIn K (.ref f13) = true)
    (z_len : PySem.W.nsIn K mainGlobals "len" = some none)
    (z_all : PySem.W.nsIn K mainGlobals "all" = some none)
    (z_isinstance : PySem.W.nsIn K mainGlobals "isinstance" = some none)
    (z_tuple : PySem.W.nsIn K mainGlobals "tuple" = some none)
    (z_int : PySem.W.nsIn K mainGlobals "int" = some none)
    (z_str : PySem.W.nsIn K mainGlobals "str" = some none)
    (z_bool : PySem.W.nsIn K mainGlobals "bool" = some none)
    (z_range : PySem.W.nsIn K mainGlobals "range" = some none)
    (z_zip : PySem.W.nsIn K mainGlobals "zip" = some none)
    (z_min : PySem.W.nsIn K mainGlobals "min" = some none)
    (z_max : PySem.W.nsIn K mainGlobals "max" = some none)
    (m_LETTERS : PySem.W.nsIn K mainGlobals "LETTERS" = some (some (.int 8 t_LETTERS))) :
    ∃ fd : FuncData, (∀ (s : Shared) (v : Value), BindsTo s fd ⟨[v], []⟩ [("script", v)]) ∧ ∀ base : Heap, K.In base → base.Ns mainGlobals mg → FnOk l.prog w K mg base CX0 5 fa fd ["script"] (spLaw K) := by
  have F_is_word := fun_mk (st := s_is_word) l1 c1 k1
  have b_is_word := F_is_word.binds (ps := ["text"]) fun _ _ _ _ _ _ us hl => match us, hl with | [_], _ => rfl
  have m_is_word := PySem.W.mg_of X G a1
  have F_kinds_in_tuple := fun_mk (st := s_kinds_in_tuple) l2 c2 k2
  have b_kinds_in_tuple := F_kinds_in_tuple.binds (ps := ["kind"]) fun _ _ _ _ _ _ us hl => match us, hl with | [_], _ => rfl
  have m_kinds_in_tuple := PySem.W.mg_of X G a2
  have F_kind_in_list := fun_mk (st := s_kind_in_list) l3 c3 k3
  have b_kind_in_list := F_kind_in_list.binds (ps := ["kind"]) fun _ _ _ _ _ _ us hl => match us, hl with | [_], _ => rfl
  have m_kind_in_list := PySem.W.mg_of X G a3
  have F_is_of_kind := fun_mk (st := s_is_of_kind) l4 c4 k4
  have b_is_of_kind := F_is_of_kind.binds (ps := ["value", "kind"]) fun _ _ _ _ _ _ us hl => match us, hl with | [_, _], _ => rfl
  have m_is_of_kind := PySem.W.mg_of X G a4
  have F__law_cell := fun_mk (st := s__law_cell) l5 c5 k5
  have b__law_cell := F__law_cell.binds (ps := ["script", "k"]) fun _ _ _ _ _ _ us hl => match us, hl with | [_, _], _ => rfl
  have m__law_cell := PySem.W.mg_of X G a5
  have F__law_draw := fun_mk (st := s__law_draw) l6 c6 k6
  have b__law_draw := F__law_draw.binds (ps := ["script", "k", "sizes"]) fun _ _ _ _ _ _ us hl => match us, hl with | [_, _, _], _ => rfl
  have m__law_draw := PySem.W.mg_of X G a6
  have F__law_box := fun_mk (st := s__law_box) l7 c7 k7
  have b__law_box := F__law_box.binds (ps := ["script", "k"]) fun _ _ _ _ _ _ us hl => match us, hl with | [_, _], _ => rfl
  have m__law_box := PySem.W.mg_of X G a7
  have F__law_take := fun_mk (st := s__law_take) l8 c8 k8
  have b__law_take := F__law_take.binds (ps := ["box", "many"]) fun _ _ _ _ _ _ us hl => match us, hl with | [_, _], _ => rfl
  have m__law_take := PySem.W.mg_of X G a8
  have F__law_kind := fun_mk (st := s__law_kind) l9 c9 k9
  have b__law_kind := F__law_kind.binds (ps := ["box", "depth"]) fun _ _ _ _ _ _ us hl => match us, hl with | [_, _], _ => rfl
  have m__law_kind := PySem.W.mg_of X G a9
  have F__law_isword := fun_mk (st := s__law_isword) l10 c10 k10
  have b__law_isword := F__law_isword.binds (ps := ["word"]) fun _ _ _ _ _ _ us hl => match us, hl with | [_], _ => rfl
  have m__law_isword := PySem.W.mg_of X G a10
  have F__law_iskind := fun_mk (st := s__law_iskind) l11 c11 k11
  have b__law_iskind := F__law_iskind.binds (ps := ["value", "kind"]) fun _ _ _ _ _ _ us hl => match us, hl with | [_, _], _ => rfl
  have m__law_iskind := PySem.W.mg_of X G a11
  have F__law_value := fun_mk (st := s__law_value) l12 c12 k12
  have b__law_value := F__law_value.binds (ps := ["box", "kind"]) fun _ _ _ _ _ _ us hl => match us, hl with | [_, _], _ => rfl
  have m__law_value := PySem.W.mg_of X G a12
  have F_law := fun_mk (st := s_law) l13 c13 k13
  have b_law := F_law.binds (ps := ["script"]) fun _ _ _ _ _ _ us hl => match us, hl with | [_], _ => rfl
  have m_law := PySem.W.mg_of X G a13
  cases hfa.symm.trans m_law
  have T : Tx mg := { z_len := PySem.W.mg_none_of X G z_len, z_all := PySem.W.mg_none_of X G z_all, z_isinstance := PySem.W.mg_none_of X G z_isinstance, z_tuple := PySem.W.mg_none_of X G z_tuple, z_int := PySem.W.mg_none_of X G z_int, z_str := PySem.W.mg_none_of X G z_str, z_bool := PySem.W.mg_none_of X G z_bool, z_range := PySem.W.mg_none_of X G z_range, z_zip := PySem.W.mg_none_of X G z_zip, z_min := PySem.W.mg_none_of X G z_min, z_max := PySem.W.mg_none_of X G z_max, m_LETTERS := ⟨_, PySem.W.mg_of X G m_LETTERS⟩ }
  refine ⟨PySem.W.fnOf "law" "law" (defArgs s_law) (defBody s_law) (defScope s_law) .none kV13 dc13 pm13 an13 cd13 ct13, fun s v => .of_eq rfl, fun base _ _ => ?_⟩
  exact ok_law T F_law
    ⟨_, _, rec_is T F_is_of_kind b_is_of_kind m_is_of_kind ⟨_, _, ok_is_word T F_is_word, b_is_word, F_is_word.kp, m_is_word⟩ ⟨_, _, ok_kinds_in_tuple T F_kinds_in_tuple, b_kinds_in_tuple, F_kinds_in_tuple.kp, m_kinds_in_tuple⟩ ⟨_, _, ok_kind_in_list T F_kind_in_list, b_kind_in_list, F_kind_in_list.kp, m_kind_in_list⟩ 3, b_is_of_kind, F_is_of_kind.kp, m_is_of_kind⟩
    ⟨_, _, rec_iskind T F__law_iskind b__law_iskind m__law_iskind ⟨_, _, ok__law_isword T F__law_isword, b__law_isword, F__law_isword.kp, m__law_isword⟩ 3, b__law_iskind, F__law_iskind.kp, m__law_iskind⟩
    ⟨_, _, ok__law_box T F__law_box ⟨_, _, ok__law_draw T F__law_draw ⟨_, _, ok__law_cell T F__law_cell, b__law_cell, F__law_cell.kp, m__law_cell⟩, b__law_draw, F__law_draw.kp, m__law_draw⟩, b__law_box, F__law_box.kp, m__law_box⟩
    ⟨_, _, rec_lkind T F__law_kind b__law_kind m__law_kind ⟨_, _, ok__law_take T F__law_take, b__law_take, F__law_take.kp, m__law_take⟩ 3, b__law_kind, F__law_kind.kp, m__law_kind⟩
    ⟨_, _, rec_lval T F__law_value b__law_value m__law_value ⟨_, _, ok__law_take T F__law_take, b__law_take, F__law_take.kp, m__law_take⟩ 3, b__law_value, F__law_value.kp, m__law_value⟩
end K1
open PySem PySem.W PyProof.Rows
set_option maxHeartbeats 0 in
theorem PySem.Challenge.cw_choicerows_k01_values_and_kinds_holds : PySem.Challenge.rw_choicerows_k01_values_and_kinds.Holds := by
  w_on; o_law; k_head; (case hw => w_witness2)
  k_fill
  refine L2.walk_of (l := PySem.Challenge.rw_choicerows_k01_values_and_kinds) (n := 63) (k := 5) (x := "script") (CX := fun _ => L2.CX0) (sp := fun w => K1.spLaw _) rfl (by decide) rfl ⟨rfl, by decide, by decide⟩ (fun w h Y => PySem.W.kIn_of Y) ?F (fun _ _ a ns hl _ hS => ⟨a, ns, rfl, hS, hl, fun _ => rfl⟩) (fun _ _ _ _ _ h => h)
  case F =>
    intro w mg fa h KX G hmg
    refine' K1.all_mk KX G hmg ?a1 ?l1 ?c1 ?k1 ?a2 ?l2 ?c2 ?k2 ?a3 ?l3 ?c3 ?k3 ?a4 ?l4 ?c4 ?k4 ?a5 ?l5 ?c5 ?k5 ?a6 ?l6 ?c6 ?k6 ?a7 ?l7 ?c7 ?k7 ?a8 ?l8 ?c8 ?k8 ?a9 ?l9 ?c9 ?k9 ?a10 ?l10 ?c10 ?k10 ?a11 ?l11 ?c11 ?k11 ?a12 ?l12 ?c12 ?k12 ?a13 ?l13 ?c13 ?k13 ?z_len ?z_all ?z_isinstance ?z_tuple ?z_int ?z_str ?z_bool ?z_range ?z_zip ?z_min ?z_max ?m_LETTERS
    (case a1 => k_is)
    (case l1 => k_is)
    (case c1 => k_is)
    (case k1 => k_is)
    (case a2 => k_is)
    (case l2 => k_is)
    (case c2 => k_is)
    (case k2 => k_is)
    (case a3 => k_is)
    (case l3 => k_is)
    (case c3 => k_is)
    (case k3 => k_is)
    (case a4 => k_is)
    (case l4 => k_is)
    (case c4 => k_is)
    (case k4 => k_is)
    (case a5 => k_is)
    (case l5 => k_is)
    (case c5 => k_is)
    (case k5 => k_is)
    (case a6 => k_is)
    (case l6 => k_is)
    (case c6 => k_is)
    (case k6 => k_is)
    (case a7 => k_is)
    (case l7 => k_is)
    (case c7 => k_is)
    (case k7 => k_is)
    (case a8 => k_is)
    (case l8 => k_is)
    (case c8 => k_is)
    (case k8 => k_is)
    (case a9 => k_is)
    (case l9 => k_is)
    (case c9 => k_is)
    (case k9 => k_is)
    (case a10 => k_is)
    (case l10 => k_is)
    (case c10 => k_is)
    (case k10 => k_is)
    (case a11 => k_is)
    (case l11 => k_is)
    (case c11 => k_is)
    (case k11 => k_is)
    (case a12 => k_is)
    (case l12 => k_is)
    (case c12 => k_is)
    (case k12 => k_is)
    (case a13 => k_is)
    (case l13 => k_is)
    (case c13 => k_is)
    (case k13 => k_is)
    (case z_len => k_is)
    (case z_all => k_is)
    (case z_isinstance => k_is)
    (case z_tuple => k_is)
    (case z_int => k_is)
    (case z_str => k_is)
    (case z_bool => k_is)
    (case z_range => k_is)
    (case z_zip => k_is)
    (case z_min => k_is)
    (case z_max => k_is)
    (case m_LETTERS => k_is)
