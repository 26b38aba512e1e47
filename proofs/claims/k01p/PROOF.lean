import PyProof.Rows.All
import Wide.All
import OpenK.AllK
import Wide.FinOn
import HandS.ForMost
import HandS.Codes
import HandS.Evl
import HandS.IsInst
import HandS.TupMul
import HandS.Flow
import HandS.TupAny
import KE.GoesNew
import KE.GoesEnum
import KE.GoesMore
import HandS.Walk
import HandS.Text
import HandS.ForExc
import HandS.ExcInit
import HandS.ExcOwn
import HandS.FStr
import KE.KExcSuper
import HandS.ExcSuper
import HandS.ExcIs
import HandS.ExcField
import KE.KExcIs
import HandS.Exc
import HandS.List
import HandS.Lambda
import KE.KDflt
import HandS.EndTab
import KE.KNestM
import PySem.Challenge.RW_sungbyturns_k01_books_validated
set_option Elab.async false
set_option linter.all false
set_option maxRecDepth 100000
/-! A calculus of what readings give, told as data (PyData); data is what stands in the heap, deep. -/
namespace SB
open PySem PySem.Spec PyProof.Rows L2 Evl

/-! ### data in an extended heap -/
mutual
theorem dp_ex {K : PySem.W.Frag} {H H' : Hp} (e : Ex H H') : ∀ {d : PyData} {v : V}, Dp K H v d → Dp K H' v d
  | .none, _, h => by cases h; exact .non
  | .bool b, _, h => by cases h; exact .bl b
  | .int i, _, h => by cases h; exact .int i
  | .str x, _, h => by cases h; exact .str x
  | .list ds, _, h => by cases h with | lst a b => exact .lst (ex_l e a) (dps_ex e b)
  | .tuple ds, _, h => by cases h with | tup a b => exact .tup (ex_t e a) (dps_ex e b)
  | .dict _, _, h => by cases h
theorem dps_ex {K : PySem.W.Frag} {H H' : Hp} (e : Ex H H') : ∀ {ds : List PyData} {vs : List V}, DpAll K H vs ds → DpAll K H' vs ds
  | [], _, h => by cases h; exact .nil
  | d :: ds, _, h => by cases h with | cons a b => exact .cons (dp_ex e a) (dps_ex e b)
end
theorem dpall_len {K : PySem.W.Frag} {H : Hp} : ∀ {vs : List V} {ds : List PyData}, DpAll K H vs ds → vs.length = ds.length
  | [], [], _ => rfl
  | [], _ :: _, h => by cases h
  | _ :: _, [], h => by cases h
  | v :: vs, d :: ds, h => by cases h with | cons a b => simp [dpall_len b]
theorem dpall_get {K : PySem.W.Frag} {H : Hp} : ∀ {vs : List V} {ds : List PyData} {i : Nat} {d : PyData}, DpAll K H vs ds → ds[i]? = some d → ∃ v, vs[i]? = some v ∧ Dp K H v d
  | _, _, _, _, .nil, h => by simp at h
  | _, _, 0, _, .cons a b, h => by simp at h; subst h; exact ⟨_, rfl, a⟩
  | _, _, i + 1, _, .cons a b, h => by
    obtain ⟨v, h1, h2⟩ := dpall_get b (by simpa using h)
    exact ⟨v, by simpa using h1, h2⟩
theorem dpall_getV {K : PySem.W.Frag} {H : Hp} : ∀ {vs : List V} {ds : List PyData} {i : Nat} {v : V}, DpAll K H vs ds → vs[i]? = some v → ∃ d, ds[i]? = some d ∧ Dp K H v d
  | _, _, _, _, .nil, h => by simp at h
  | _, _, 0, _, .cons a b, h => by simp at h; subst h; exact ⟨_, rfl, a⟩
  | _, _, i + 1, _, .cons a b, h => by
    obtain ⟨v, h1, h2⟩ := dpall_getV b (by simpa using h)
    exact ⟨v, by simpa using h1, h2⟩
theorem dpall_app {K : PySem.W.Frag} {H : Hp} : ∀ {vs ws : List V} {ds es : List PyData}, DpAll K H vs ds → DpAll K H ws es → DpAll K H (vs ++ ws) (ds ++ es)
  | _, _, _, _, .nil, h => h
  | _, _, _, _, .cons a b, h => .cons a (dpall_app b h)
theorem dpall_take {K : PySem.W.Frag} {H : Hp} : ∀ {vs : List V} {ds : List PyData} (n : Nat), DpAll K H vs ds → DpAll K H (vs.take n) (ds.take n)
  | _, _, 0, _ => .nil
  | _, _, _ + 1, .nil => .nil
  | _, _, n + 1, .cons a b => .cons a (dpall_take n b)
theorem dpall_drop {K : PySem.W.Frag} {H : Hp} : ∀ {vs : List V} {ds : List PyData} (n : Nat), DpAll K H vs ds → DpAll K H (vs.drop n) (ds.drop n)
  | _, _, 0, h => h
  | _, _, _ + 1, .nil => .nil
  | _, _, n + 1, .cons a b => dpall_drop n b
theorem dpall_set {K : PySem.W.Frag} {H : Hp} {v : V} {d : PyData} (h : Dp K H v d) : ∀ {vs : List V} {ds : List PyData} (n : Nat), DpAll K H vs ds → DpAll K H (vs.set n v) (ds.set n d)
  | _, _, _, .nil => .nil
  | _, _, 0, .cons a b => .cons h b
  | _, _, n + 1, .cons a b => .cons a (dpall_set h n b)
theorem dpall_bl {K : PySem.W.Frag} {H : Hp} : ∀ {bs : List Bool} {vs : List V}, DpAll K H vs (bs.map .bool) → vs = bs.map V.bl
  | [], vs, h => by cases h; rfl
  | b :: bs, vs, h => by cases h with | cons a r => cases a; rw [dpall_bl r]; rfl
theorem dpall_int {K : PySem.W.Frag} {H : Hp} : ∀ {ns : List Int} {vs : List V}, DpAll K H vs (ns.map .int) → vs = ns.map V.int
  | [], vs, h => by cases h; rfl
  | b :: bs, vs, h => by cases h with | cons a r => cases a; rw [dpall_int r]; rfl
theorem dpall_ints {K : PySem.W.Frag} {H : Hp} : ∀ {ns : List Int}, DpAll K H (ns.map V.int) (ns.map .int)
  | [] => .nil
  | b :: bs => .cons (.int b) dpall_ints
theorem dp_int {K : PySem.W.Frag} {H : Hp} {v : V} {i : Int} (h : Dp K H v (.int i)) : v = .int i := by cases h; rfl
theorem dp_bl {K : PySem.W.Frag} {H : Hp} {v : V} {b : Bool} (h : Dp K H v (.bool b)) : v = .bl b := by cases h; rfl
theorem dp_str {K : PySem.W.Frag} {H : Hp} {v : V} {x : Str} (h : Dp K H v (.str x)) : v = .str x := by cases h; rfl
theorem dp_non {K : PySem.W.Frag} {H : Hp} {v : V} (h : Dp K H v .none) : v = .non := by cases h; rfl

/-! ### the calculus -/
/-- te gives the data d, and leaves what stood -/
def Ed (K : PySem.W.Frag) (te : TE) (σ : L2.St) (H : Hp) (d : PyData) : Prop := ∀ H1, Ex H H1 → ∀ Q : VK, (∀ v H2, Ex H1 H2 → Dp K H2 v d → Q v H2) → te σ H1 Q
def Et (tt : TT) (σ : L2.St) (H : Hp) (b : Bool) : Prop := EvT tt σ H b
def Ea (K : PySem.W.Frag) (ta : TA) (σ : L2.St) (H : Hp) (ds : List PyData) : Prop := ∀ H1, Ex H H1 → ∀ Q : List V → Hp → Prop, (∀ vs H2, Ex H1 H2 → DpAll K H2 vs ds → Q vs H2) → ta σ H1 Q
section
variable {K : PySem.W.Frag} {σ : L2.St} {H H' : Hp} {ta tb tc te tx : TE} {t u : TT} {x y z v : V} {r : R2} {d : PyData} {ds : List PyData}
theorem Ed.mono (e : Ex H H') (h : Ed K te σ H d) : Ed K te σ H' d := fun H1 a Q q => h H1 (e.trans a) Q q
theorem Ea.mono {ta : TA} (e : Ex H H') (h : Ea K ta σ H ds) : Ea K ta σ H' ds := fun H1 a Q q => h H1 (e.trans a) Q q
theorem Ed.use (h : Ed K te σ H d) {Q : VK} (q : ∀ v H2, Ex H H2 → Dp K H2 v d → Q v H2) : te σ H Q := h H (Ex.refl H) Q q
theorem Ed.is {d' : PyData} (h : Ed K te σ H d) (e : d = d') : Ed K te σ H d' := e ▸ h
theorem ed_var {i : Nat} (hs : σ[i]? = some (some v)) (h : Dp K H v d) : Ed K (tVar i) σ H d := fun H1 e _ q => ⟨v, hs, q v H1 (Ex.refl H1) (dp_ex e h)⟩
theorem ed_int {i : Int} : Ed K (tC (.int i)) σ H (.int i) := fun H1 _ _ q => q _ H1 (Ex.refl H1) (.int i)
theorem ed_bl {i : Bool} : Ed K (tC (.bl i)) σ H (.bool i) := fun H1 _ _ q => q _ H1 (Ex.refl H1) (.bl i)
theorem ed_str {i : Str} : Ed K (tC (.str i)) σ H (.str i) := fun H1 _ _ q => q _ H1 (Ex.refl H1) (.str i)
theorem ed_non : Ed K (tC .non) σ H .none := fun H1 _ _ q => q _ H1 (Ex.refl H1) .non
/-- two operands -/
theorem ed_op {da db dc : PyData} (ha : Ed K ta σ H da) (hb : Ed K tb σ H db)
    (hr : ∀ H1, Ex H H1 → ∀ x y, Dp K H1 x da → Dp K H1 y db → ∀ Q : VK, (∀ v H2, Ex H1 H2 → Dp K H2 v dc → Q v H2) → r x y H1 Q) : Ed K (tOp r ta tb) σ H dc := fun H1 e Q q =>
  ha H1 e _ fun x H2 e2 dx => hb H2 (e.trans e2) _ fun y H3 e3 dy => hr H3 ((e.trans e2).trans e3) x y (dp_ex e3 dx) dy Q fun v H4 e4 dv => q v H4 ((e2.trans e3).trans e4) dv
theorem ed_opI (w : V) {i j : Int} (ha : Ed K ta σ H (.int i)) (hb : Ed K tb σ H (.int j)) (hg : ∀ H, Dp K H w d) (hr : ∀ H1 Q, Q w H1 → r (.int i) (.int j) H1 Q) : Ed K (tOp r ta tb) σ H d :=
  ed_op ha hb fun H1 e x y hx hy Q q => by
    cases dp_int hx; cases dp_int hy
    exact hr H1 Q (q _ H1 (Ex.refl H1) (hg H1))
theorem ed_sub {i j : Int} (ha : Ed K ta σ H (.int i)) (hb : Ed K tb σ H (.int j)) : Ed K (tOp (rI0 fun i j => .int (i - j)) ta tb) σ H (.int (i - j)) := ed_opI (.int (i - j)) ha hb (fun _ => .int _) fun _ _ q => ⟨i, j, rfl, rfl, q⟩
/-! unions: one rule a sign -/
def rPlus (K : PySem.W.Frag) : R2 := fun x y H Q => (rI0 fun i j => V.int (i + j)) x y H Q ∨ (∃ i j, x = .str i ∧ y = .str j ∧ i.length + j.length ≤ sizeLine ∧ Q (.str (i ++ j)) H) ∨ rCatA K x y H Q ∨ rCat x y H Q
def rTimes (K : PySem.W.Frag) : R2 := fun x y H Q => (rI CMul fun i j => V.int (i * j)) x y H Q ∨ rRep x y H Q ∨ rRepT K x y H Q
def rLtU : R2 := fun x y H Q => (rI0 fun i j => V.bl (decide (i < j))) x y H Q ∨ (∃ i j, x = .str i ∧ y = .str j ∧ Q (.bl (decide (i.cps.toList < j.cps.toList))) H)
def rEqU (K : PySem.W.Frag) : R2 := fun x y H Q => rEq x y H Q ∨ rEqD K x y H Q
def rNeU (K : PySem.W.Frag) : R2 := fun x y H Q => rNe x y H Q ∨ rNeD K x y H Q
section
variable {X : Cx}
theorem oAdd : OpR X (binaryOp .Add) (rPlus X.K) := op_add.or (op_add_str.or (op_catA.or op_cat))
theorem oMul : OpR X (binaryOp .Mult) (rTimes X.K) := op_mul.or (op_rep.or op_repT)
theorem oLt : OpR X (compareOp .Lt) rLtU := op_lt.or op_lt_str
theorem oEq (hu : X.A.units + 64 < cLine) : OpR X (compareOp .Eq) (rEqU X.K) := op_eq.or (op_eqD hu)
theorem oNe (hu : X.A.units + 64 < cLine) : OpR X (compareOp .NotEq) (rNeU X.K) := op_ne.or (op_neD hu)
/-- a union of two ways to be walked -/
theorem PI.or {tg iter : Expr} {w1 w2 : TI} (h1 : PI X tg iter w1) (h2 : PI X tg iter w2) : PI X tg iter (fun σ H R => w1 σ H R ∨ w2 σ H R) :=
  ⟨fun pins s σ H R I h => h.elim (h1.run pins s σ H R I) (h2.run pins s σ H R I)⟩
def iAny (K : PySem.W.Frag) (te : TE) : TI := fun σ H R => iList K te σ H R ∨ iTup K te σ H R ∨ iStr te σ H R
theorem pi_any {tg e : Expr} {te : TE} (h : PE X e te) : PI X tg e (iAny X.K te) := PI.or (pi_list h) (PI.or (pi_tup h) (pi_str h))
end
theorem ed_add {i j : Int} (ha : Ed K ta σ H (.int i)) (hb : Ed K tb σ H (.int j)) : Ed K (tOp (rPlus K) ta tb) σ H (.int (i + j)) := ed_opI (.int (i + j)) ha hb (fun _ => .int _) fun _ _ q => .inl ⟨i, j, rfl, rfl, q⟩
theorem ed_mul {i j : Int} (ha : Ed K ta σ H (.int i)) (hb : Ed K tb σ H (.int j)) (h : CMul i j) : Ed K (tOp (rTimes K) ta tb) σ H (.int (i * j)) := ed_opI (.int (i * j)) ha hb (fun _ => .int _) fun _ _ q => .inl ⟨i, j, rfl, rfl, h, q⟩
theorem ed_lt {i j : Int} (ha : Ed K ta σ H (.int i)) (hb : Ed K tb σ H (.int j)) : Ed K (tOp rLtU ta tb) σ H (.bool (decide (i < j))) := ed_opI (.bl (decide (i < j))) ha hb (fun _ => .bl _) fun _ _ q => .inl ⟨i, j, rfl, rfl, q⟩
theorem ed_gt {i j : Int} (ha : Ed K ta σ H (.int i)) (hb : Ed K tb σ H (.int j)) : Ed K (tOp (rI0 fun i j => .bl (decide (j < i))) ta tb) σ H (.bool (decide (j < i))) := ed_opI (.bl (decide (j < i))) ha hb (fun _ => .bl _) fun _ _ q => ⟨i, j, rfl, rfl, q⟩
theorem ed_ge {i j : Int} (ha : Ed K ta σ H (.int i)) (hb : Ed K tb σ H (.int j)) : Ed K (tOp (rI0 fun i j => .bl (decide (j ≤ i))) ta tb) σ H (.bool (decide (j ≤ i))) := ed_opI (.bl (decide (j ≤ i))) ha hb (fun _ => .bl _) fun _ _ q => ⟨i, j, rfl, rfl, q⟩
theorem ed_eqI {i j : Int} (ha : Ed K ta σ H (.int i)) (hb : Ed K tb σ H (.int j)) : Ed K (tOp (rEqU K) ta tb) σ H (.bool (decide (i = j))) := ed_opI (.bl (decide (i = j))) ha hb (fun _ => .bl _) fun _ _ q => .inl ⟨rfl, by
  have e : decide (V.int i = V.int j) = decide (i = j) := by simp
  rw [e]; exact q⟩
theorem ed_neI {i j : Int} (ha : Ed K ta σ H (.int i)) (hb : Ed K tb σ H (.int j)) : Ed K (tOp (rNeU K) ta tb) σ H (.bool (!decide (i = j))) := ed_opI (.bl (!decide (i = j))) ha hb (fun _ => .bl _) fun _ _ q => .inl ⟨rfl, by
  have e : decide (V.int i = V.int j) = decide (i = j) := by simp
  rw [e]; exact q⟩
/-- subscripts -/
theorem ed_ixT {i : Int} (ha : Ed K ta σ H (.tuple ds)) (hb : Ed K tb σ H (.int i)) (h : atI ds i = some d) : Ed K (tOp (rIx K) ta tb) σ H d :=
  ed_op ha hb fun H1 e x y hx hy Q q => by
    cases dp_int hy
    cases hx with
    | tup hs ha =>
      rename_i a vs
      obtain ⟨j, hj⟩ : ∃ j, ixN ds.length i = some j := by
        unfold atI at h
        cases hz : ixN ds.length i with
        | none => rw [hz] at h; cases h
        | some j => exact ⟨j, rfl⟩
      have h2 : ds[j]? = some d := by
        unfold atI at h
        rw [hj] at h
        exact h
      obtain ⟨v, hv, dv⟩ := dpall_get ha h2
      refine .inr (.inl ⟨_, vs, i, v, rfl, rfl, hs, ?_, q v H1 (Ex.refl H1) dv⟩)
      unfold atI
      rw [dpall_len ha, hj]
      exact hv
theorem ed_ixL {i : Int} (ha : Ed K ta σ H (.list ds)) (hb : Ed K tb σ H (.int i)) (h : atI ds i = some d) : Ed K (tOp (rIx K) ta tb) σ H d :=
  ed_op ha hb fun H1 e x y hx hy Q q => by
    cases dp_int hy
    cases hx with
    | lst hs ha =>
      rename_i a vs
      obtain ⟨j, hj⟩ : ∃ j, ixN ds.length i = some j := by
        unfold atI at h
        cases hz : ixN ds.length i with
        | none => rw [hz] at h; cases h
        | some j => exact ⟨j, rfl⟩
      have h2 : ds[j]? = some d := by
        unfold atI at h
        rw [hj] at h
        exact h
      obtain ⟨v, hv, dv⟩ := dpall_get ha h2
      refine .inl ⟨_, vs, i, v, rfl, rfl, hs, ?_, q v H1 (Ex.refl H1) dv⟩
      unfold atI
      rw [dpall_len ha, hj]
      exact hv
/-- arguments -/
theorem ea_nil : Ea K tNil σ H [] := fun H1 _ _ q => q [] H1 (Ex.refl H1) .nil
theorem ea_cons {tr : TA} (h : Ed K ta σ H d) (hr : Ea K tr σ H ds) : Ea K (tCons ta tr) σ H (d :: ds) := fun H1 e Q q =>
  h H1 e _ fun v H2 e2 dv => hr H2 (e.trans e2) _ fun vs H3 e3 dvs => q _ H3 (e2.trans e3) (.cons (dp_ex e3 dv) dvs)
/-- displays -/
theorem ed_tup {ta : TA} (h : Ea K ta σ H ds) (hl : ds.length ≤ 100000) : Ed K (tTup ta) σ H (.tuple ds) := fun H1 e Q q =>
  h H1 e _ fun vs H2 e2 dvs => ⟨sz_of (by rw [dpall_len dvs]; exact hl), fun p hp => q _ _ (e2.trans (Ex.new hp)) (.tup (st_of upd_same) (dps_ex (Ex.new hp) dvs))⟩
theorem ed_lst {ta : TA} (h : Ea K ta σ H ds) (hl : ds.length ≤ 100000) : Ed K (tLst ta) σ H (.list ds) := fun H1 e Q q =>
  h H1 e _ fun vs H2 e2 dvs => ⟨sz_of (by rw [dpall_len dvs]; exact hl), fun p hp => q _ _ (e2.trans (Ex.new hp)) (.lst (sq_of upd_same) (dps_ex (Ex.new hp) dvs))⟩
/-- a call of a built-in on values -/
theorem ed_cb {r : List V → Hp → VK → Prop} {ta : TA} (h : Ea K ta σ H ds) (hr : ∀ H1, Ex H H1 → ∀ vs, DpAll K H1 vs ds → ∀ Q : VK, (∀ v H2, Ex H1 H2 → Dp K H2 v d → Q v H2) → r vs H1 Q) : Ed K (tCB r ta) σ H d := fun H1 e Q q =>
  h H1 e _ fun vs H2 e2 dvs => hr H2 (e.trans e2) vs dvs Q fun v H3 e3 dv => q v H3 (e2.trans e3) dv
theorem dp1 {v : List V} (h : DpAll K H v [d]) : ∃ x, v = [x] ∧ Dp K H x d := by
  cases h with | cons a b => cases b; exact ⟨_, rfl, a⟩
theorem dp2 {v : List V} {d2 : PyData} (h : DpAll K H v [d, d2]) : ∃ x y, v = [x, y] ∧ Dp K H x d ∧ Dp K H y d2 := by
  cases h with | cons a b => cases b with | cons c b => cases b; exact ⟨_, _, rfl, a, c⟩
def rLen' (K : PySem.W.Frag) : List V → Hp → VK → Prop := fun xs H Q => ∃ x n, xs = [x] ∧ LenV K x H n ∧ Q (.int n) H
theorem ed_lenT (h : Ed K ta σ H (.tuple ds)) : Ed K (tCB (fun xs H Q => ∃ x n, xs = [x] ∧ LenV K x H n ∧ Q (.int n) H) (tCons ta tNil)) σ H (.int ds.length) :=
  ed_cb (ea_cons h ea_nil) fun H1 e vs dvs Q q => by
    obtain ⟨x, rfl, dx⟩ := dp1 dvs
    cases dx with
    | tup hs ha => exact ⟨_, _, rfl, .inr ⟨_, hs, rfl⟩, q _ H1 (Ex.refl H1) (by rw [dpall_len ha]; exact .int _)⟩
theorem ed_lenL (h : Ed K ta σ H (.list ds)) : Ed K (tCB (fun xs H Q => ∃ x n, xs = [x] ∧ LenV K x H n ∧ Q (.int n) H) (tCons ta tNil)) σ H (.int ds.length) :=
  ed_cb (ea_cons h ea_nil) fun H1 e vs dvs Q q => by
    obtain ⟨x, rfl, dx⟩ := dp1 dvs
    cases dx with
    | lst hs ha => exact ⟨_, _, rfl, .inl ⟨_, hs, rfl⟩, q _ H1 (Ex.refl H1) (by rw [dpall_len ha]; exact .int _)⟩
theorem ed_lenS {w : Str} (h : Ed K ta σ H (.str w)) (hz : w.length ≤ 100000) : Ed K (tCB (fun xs H Q => ∃ x n, xs = [x] ∧ LenV K x H n ∧ Q (.int n) H) (tCons ta tNil)) σ H (.int w.length) :=
  ed_cb (ea_cons h ea_nil) fun H1 e vs dvs Q q => by
    obtain ⟨x, rfl, dx⟩ := dp1 dvs
    cases dp_str dx
    exact ⟨_, _, rfl, ⟨sz_of hz, rfl⟩, q _ H1 (Ex.refl H1) (.int _)⟩
/-- isinstance(x, T), T a builtin type -/
inductive DTy : PyData → String → Prop where
  | non : DTy .none "NoneType"
  | bl (b) : DTy (.bool b) "bool"
  | int (b) : DTy (.int b) "int"
  | str (b) : DTy (.str b) "str"
  | lst (b) : DTy (.list b) "list"
  | tup (b) : DTy (.tuple b) "tuple"
theorem DTy.tyx {T : String} (h : DTy d T) (dv : Dp K H v d) : TyX K H v (.type T) := by
  cases h with
  | non => cases dv; exact .base .non
  | bl b => cases dv; exact .base (.bl b)
  | int b => cases dv; exact .base (.int b)
  | str b => cases dv; exact .base (.str b)
  | lst b =>
    cases dv with
    | lst hs ha =>
      rcases hs with (hs | ⟨o, hs⟩) | ⟨o, its, n, h1, h2, h3, h4, h5⟩
      · exact .base (.lst hs)
      · exact .base (.frz hs)
      · exact .kList h1 h2
  | tup b =>
    cases dv with
    | tup hs ha =>
      rcases hs with (hs | ⟨o, hs⟩) | ⟨o, its, n, h1, h2, h3⟩
      · exact .base (.tup hs)
      · exact .fTuple hs
      · exact .kTuple h1 h2
theorem ed_isi {T S : String} {b : Bool} (h : Ed K ta σ H d) (ht : DTy d T) (hk : kitB T S = some b) : Ed K (tCB (rIsi K) (tCons ta (tCons (tC (.ty S)) tNil))) σ H (.bool b) := fun H1 e Q q =>
  h H1 e _ fun v H2 e2 dv => ⟨v, .ty S, .type T, .type S, b, rfl, .ty S, ht.tyx dv, kit_ty hk, q _ H2 e2 (.bl b)⟩
/-- and, or, not of truth values -/
theorem ed_and {a b : Bool} (h1 : Ed K ta σ H (.bool a)) (h2 : a = true → Ed K tb σ H (.bool b)) : Ed K (tAndV ta tb) σ H (.bool (a && b)) := fun H1 e Q q => h1 H1 e _ fun v H2 e2 dv => by
  cases dp_bl dv
  refine ⟨a, rfl, ?_⟩
  cases a with
  | true => exact h2 rfl H2 (e.trans e2) Q fun v H3 e3 dv => q v H3 (e2.trans e3) dv
  | false => exact q _ H2 e2 (.bl false)
theorem ed_or {a b : Bool} (h1 : Ed K ta σ H (.bool a)) (h2 : a = false → Ed K tb σ H (.bool b)) : Ed K (tOrV ta tb) σ H (.bool (a || b)) := fun H1 e Q q => h1 H1 e _ fun v H2 e2 dv => by
  cases dp_bl dv
  refine ⟨a, rfl, ?_⟩
  cases a with
  | false => exact h2 rfl H2 (e.trans e2) Q fun v H3 e3 dv => q v H3 (e2.trans e3) dv
  | true => exact q _ H2 e2 (.bl true)
theorem ed_not {a : Bool} (h1 : Ed K ta σ H (.bool a)) : Ed K (tNotV ta) σ H (.bool (!a)) := fun H1 e Q q => h1 H1 e _ fun v H2 e2 dv => by
  cases dp_bl dv
  exact ⟨a, rfl, q _ H2 e2 (.bl _)⟩
/-- a chain of two comparisons -/
theorem ed_chain {r' : R2} {da db dc : PyData} {a b : Bool} (ha : Ed K ta σ H da) (hb : Ed K tb σ H db) (hc : a = true → Ed K tc σ H dc)
    (h1 : ∀ H1, Ex H H1 → ∀ x y, Dp K H1 x da → Dp K H1 y db → ∀ Q : VK, Q (.bl a) H1 → r x y H1 Q)
    (h2 : a = true → ∀ H1, Ex H H1 → ∀ x y, Dp K H1 x db → Dp K H1 y dc → ∀ Q : VK, Q (.bl b) H1 → r' x y H1 Q) : Ed K (tChain r r' ta tb tc) σ H (.bool (a && b)) := fun H1 e Q q =>
  ha H1 e _ fun x H2 e2 dx => hb H2 (e.trans e2) _ fun y H3 e3 dy => h1 H3 ((e.trans e2).trans e3) x y (dp_ex e3 dx) dy _ ⟨a, rfl, by
    cases a with
    | true =>
      rw [if_pos rfl]
      refine hc rfl H3 ((e.trans e2).trans e3) _ fun z H4 e4 dz => h2 rfl H4 (((e.trans e2).trans e3).trans e4) y z (dp_ex e4 dy) dz Q (q _ H4 ((e2.trans e3).trans e4) (.bl b))
    | false => exact q _ H3 (e2.trans e3) (.bl false)⟩
def cI (g : Int → Int → V) (r : R2) (i j : Int) (b : Bool) : Prop := ∀ H Q, Q (.bl b) H → r (.int i) (.int j) H Q
theorem cI_le {i j : Int} : cI (fun i j => .bl (decide (i ≤ j))) (rI0 fun i j => .bl (decide (i ≤ j))) i j (decide (i ≤ j)) := fun _ _ q => ⟨i, j, rfl, rfl, q⟩
theorem ed_chainI {r' : R2} {i j k : Int} {a b : Bool} {g g' : Int → Int → V} (ha : Ed K ta σ H (.int i)) (hb : Ed K tb σ H (.int j)) (hc : a = true → Ed K tc σ H (.int k)) (h1 : cI g r i j a) (h2 : cI g' r' j k b) : Ed K (tChain r r' ta tb tc) σ H (.bool (a && b)) :=
  ed_chain ha hb hc (fun H1 _ x y hx hy Q q => by cases dp_int hx; cases dp_int hy; exact h1 H1 Q q) fun _ H1 _ x y hx hy Q q => by cases dp_int hx; cases dp_int hy; exact h2 H1 Q q
theorem cI_lt {i j : Int} : cI (fun i j => .bl (decide (i < j))) rLtU i j (decide (i < j)) := fun _ _ q => .inl ⟨i, j, rfl, rfl, q⟩
/-- if-expression -/
theorem ed_if {b : Bool} (h : Et t σ H b) (h1 : b = true → Ed K ta σ H d) (h2 : b = false → Ed K tb σ H d) : Ed K (tIf t ta tb) σ H d := fun H1 e Q q => h H1 e _ fun H2 e2 => by
  cases b with
  | true => rw [if_pos rfl]; exact h1 rfl H2 (e.trans e2) Q fun v H3 e3 dv => q v H3 (e2.trans e3) dv
  | false => rw [if_neg (by decide)]; exact h2 rfl H2 (e.trans e2) Q fun v H3 e3 dv => q v H3 (e2.trans e3) dv
/-- tests -/
theorem et_test {b : Bool} (h : Ed K te σ H (.bool b)) : Et (tTest te) σ H b := fun H1 e _ q => h H1 e _ fun v H2 e2 dv => by cases dp_bl dv; exact ⟨b, rfl, q H2 e2⟩
theorem et_truB {b : Bool} (h : Ed K te σ H (.bool b)) : Et (fun σ H Q => te σ H fun x H1 => ∃ k, TruV K x H1 k ∧ Q k H1) σ H b := fun H1 e _ q => h H1 e _ fun v H2 e2 dv => by cases dp_bl dv; exact ⟨b, rfl, q H2 e2⟩
theorem et_truT (h : Ed K te σ H (.tuple ds)) : Et (fun σ H Q => te σ H fun x H1 => ∃ k, TruV K x H1 k ∧ Q k H1) σ H (!ds.isEmpty) := fun H1 e _ q => h H1 e _ fun v H2 e2 dv => by
  cases dv with
  | tup hs ha =>
    refine ⟨_, .inr (.inl ⟨_, hs, rfl⟩), ?_⟩
    rename_i a vs
    have hl := dpall_len ha
    have : vs.isEmpty = ds.isEmpty := by cases vs <;> cases ds <;> simp_all
    rw [this]
    exact q H2 e2
theorem et_not {b : Bool} (h : Et t σ H b) : Et (tNot t) σ H (!b) := Evl.et_not h
theorem et_and {a b : Bool} (h1 : Et t σ H a) (h2 : a = true → Et u σ H b) : Et (tAnd t u) σ H (a && b) := Evl.et_and h1 h2
theorem et_or {a b : Bool} (h1 : Et t σ H a) (h2 : a = false → Et u σ H b) : Et (tOr t u) σ H (a || b) := Evl.et_or h1 h2
/-- a call of a def that gives data and leaves what stood -/
def SpD (K : PySem.W.Frag) (sp : Sp) (H : Hp) (ds : List PyData) (d : PyData) : Prop := ∀ H1, Ex H H1 → ∀ vs, DpAll K H1 vs ds → ∀ (Q : VK) (E : XK), (∀ v H2, Ex H1 H2 → Dp K H2 v d → Q v H2) → sp vs H1 Q E
theorem ed_call {sp : Sp} {E : XK} {ta : TA} (h : Ea K ta σ H ds) (hs : SpD K sp H ds d) : Ed K (tCall sp [] E ta) σ H d := fun H1 e Q q =>
  h H1 e _ fun vs H2 e2 dvs => by
    rw [List.append_nil]
    exact hs H2 (e.trans e2) vs dvs Q E fun v H3 e3 dv => q v H3 (e2.trans e3) dv
/-- the pure promise: data to data -/
def spP (K : PySem.W.Frag) (n : Nat) (P : List PyData → PyData → Prop) : Sp := fun vs H Q _ => vs.length = n ∧ ∃ ds d, DpAll K H vs ds ∧ P ds d ∧ ∀ v H2, Ex H H2 → Dp K H2 v d → Q v H2
theorem spP_len {n : Nat} {P : List PyData → PyData → Prop} {ps : List Str} (hn : n = ps.length := by rfl) : ∀ vs H Q E, spP K n P vs H Q E → vs.length = ps.length := fun vs H Q E h => h.1.trans hn
theorem spD_of {n : Nat} {P : List PyData → PyData → Prop} (hn : ds.length = n) (h : P ds d) : SpD K (spP K n P) H ds d := fun H1 e vs dvs Q E q => ⟨(dpall_len dvs).trans hn, ds, d, dvs, h, q⟩
theorem ed_callP {n : Nat} {P : List PyData → PyData → Prop} {E : XK} {ta : TA} (h : Ea K ta σ H ds) (hp : P ds d) (hn : ds.length = n := by rfl) : Ed K (tCall (spP K n P) [] E ta) σ H d := ed_call h (spD_of hn hp)
end
/-! ### statements -/
section
variable {K : PySem.W.Frag} {σ : L2.St} {H H' : Hp} {ta tb tc te tx : TE} {t u : TT} {x y z v : V} {r : R2} {d : PyData} {ds : List PyData} {D : Ends} {tu tw : TS}
theorem w_ret (h : Ed K te σ H d) (k : ∀ v H1, Ex H H1 → Dp K H1 v d → D.rt v H1) : tRet te D σ H := h.use k
theorem w_if {b : Bool} (h : Et t σ H b) (h1 : b = true → ∀ H1, Ex H H1 → tu D σ H1) (h2 : b = false → ∀ H1, Ex H H1 → tw D σ H1) : tIfS t tu tw D σ H := s_if h h1 h2
theorem w_asg {i : Nat} (h : Ed K te σ H d) (k : ∀ v H1, Ex H H1 → Dp K H1 v d → D.nx (σ.set i (some v)) H1) : tAsg te (gName i) D σ H := h.use k
theorem w_drop (h : Ed K te σ H d) (k : ∀ H1, Ex H H1 → D.nx σ H1) : tDrop te D σ H := h.use fun v H1 e _ => k H1 e
theorem w_seq {t u : TS} (h : t { D with nx := u D } σ H) : tSeq t u D σ H := h
end
/-! ### comprehensions: data in, data out -/
section
variable {K : PySem.W.Frag} {σ : L2.St} {H H' : Hp} {te tl : TE} {d : PyData} {ds : List PyData} {tt : TT}
/-- the invariant's heap: the list so far -/
def Lc (K : PySem.W.Frag) (H : Hp) (D : Addr) (es : List PyData) (H' : Hp) : Prop := H D = none ∧ Ex H H' ∧ ∃ vs, H' D = some (.lst vs) ∧ DpAll K H' vs es
/-- what stood is told again when the list at D grows -/
theorem dp_grow {D : Addr} {o : HO} (hD : H D = none) (e : Ex H H') : Ex H (upd H' D o) := e.mut hD
end
end SB
set_option Elab.async false
set_option linter.all false
set_option maxRecDepth 100000
set_option maxHeartbeats 1000000
/-! enumerate of a tuple (or a list). -/
namespace SB
open PySem PySem.Spec PyProof.Rows L2
/-- the tuple at a, each item in a new pair -/
def IteT (K : PySem.W.Frag) (a : Addr) : It :=
  ⟨fun i H => ∃ (xs : List V) (x : V), SqT K H a xs ∧ xs[i]? = some x, fun i H v H' => ∃ T x, v = .ref T ∧ H T = none ∧ H' = upd H T (.tup [.int (i : Nat), x]) ∧ ∀ xs, SqT K H a xs → xs[i]? = some x, fun i H => ∃ xs : List V, SqT K H a xs ∧ xs.length = i⟩
theorem turn_enumT {P : Program} {w : World} {K : PySem.W.Frag} {elts : List Expr} {kk : Nat} {tpos : Pos} (a e it : Addr) (hae : a ≠ e) (hai : a ≠ it) :
    Turn P w K (.Tuple elts kk tpos) (IteT K a) [e, it] e (fun i h => (∃ old, IsEnum h e it (0 + ((i : Nat) : Int)) old) ∧ h.IsTupleIter it a i ∧ e ≠ it) where
  mem := by simp
  obj := fun i h st b hb => by
    obtain ⟨⟨old, he⟩, ⟨o, ho, hc, hd⟩, _⟩ := st
    have e' : b = e ∨ b = it := by simpa using hb
    rcases e' with z | z
    · rw [z]; exact ⟨_, he, fun v q => nomatch q⟩
    · rw [z]; exact ⟨o, ho, fun v q => by rw [hd] at q; cases q⟩
  keep := fun i h h' st k => let ⟨⟨old, he⟩, hi, hne⟩ := st; ⟨⟨old, k e (by simp) _ he⟩, hi.at fun o q => k it (by simp) o q, hne⟩
  item := by
    intro X hP hw hK hc i pins s σ H E I hf st hg
    subst hP hw hK
    obtain ⟨⟨old, he⟩, hit, hne⟩ := st
    obtain ⟨xs, x, hq, hx⟩ := hg
    obtain ⟨its, rv, p, hz⟩ := I.tuple hq
    obtain ⟨u, hu, ru⟩ := rv.get hx
    have hil : i < its.toArray.size := by
      obtain ⟨h, _⟩ := List.getElem?_eq_some_iff.mp hu
      simpa using h
    have G := GoesN.enumFrom (prog := X.prog) (w := X.w) (A := X.A) (elts := elts) (x1 := kk) (pos := tpos) 0 (Draws.tuple (prog := X.prog) (w := X.w) (A := X.A.in1) (I.ok.hd hc) it a hai its.toArray) e hne (by simp [hne, hae.symm]) (by simp)
    refine wpAny_mono (G.goes i s (fun u2 s2 => ∃ x H', Inv X pins σ H' s2 ∧ RelV x u2 ∧ (IteT X.K a).yld i H x H' ∧ ((∃ old, IsEnum s2.heap e it (0 + (((i + 1 : Nat)) : Int)) old) ∧ s2.heap.IsTupleIter it a (i + 1) ∧ e ≠ it) ∧ ∀ b ∈ [e, it], H' b = none) E hil ⟨⟨old, he⟩, hit, p⟩ ?_) (fun r s1 h => h) fun _ _ z => z
    intro v h' tk hY hst hk htk
    obtain ⟨T, t, y, rfl, hT, hy, hTup⟩ := hY
    obtain ⟨⟨old', he'⟩, hit', _⟩ := hst
    have ey : y = u := by
      have h1 : its[i]? = some y := by simpa using hy
      rw [hu] at h1
      exact (Option.some.inj h1).symm
    subst ey
    have new : ObjOk X.prog X.w (upd H T (.tup [.int (i : Nat), x])) h' T (.tup [.int (i : Nat), x]) :=
      ⟨by show 2 ≤ sizeLine; decide, [.int (0 + (i : Int)) t, y], .cons ⟨t, by rw [Int.zero_add]⟩ (.cons ru .nil), hTup⟩
    have I1 : Inv X pins σ (upd H T (.tup [.int (i : Nat), x])) { s with heap := h', toks := tk } :=
      I.turnedNew (ch := [e, it]) (fun b ob hb q => hk b ob hb q) hf hT new
    refine ⟨.ref T, _, I1, rfl, ⟨T, x, rfl, I.hok.fresh hT, rfl, fun ys hy => by rw [I.tuple_inj hy hq]; exact hx⟩, ⟨⟨old', he'⟩, hit', hne⟩, fun b hb => ?_⟩
    have hb' : b < s.heap.objs.size := by
      have e' : b = e ∨ b = it := by simpa using hb
      rcases e' with z | z
      · rw [z]; exact Heap.lt_size he
      · obtain ⟨_, q, _⟩ := hit
        rw [z]; exact Heap.lt_size q
    rw [upd_ne (Nat.ne_of_lt (Nat.lt_of_lt_of_le hb' hT))]
    exact (hf b hb).1
  done := by
    intro X hP hw hK hc i pins s σ H E I hf st hg
    subst hP hw hK
    obtain ⟨⟨old, he⟩, hit, hne⟩ := st
    obtain ⟨xs, hq, hx⟩ := hg
    obtain ⟨its, rv, p, hz⟩ := I.tuple hq
    have hl := rv.length
    have en : its.toArray.size = i := by simp; omega
    have G := GoesN.enumFrom (prog := X.prog) (w := X.w) (A := X.A) (elts := elts) (x1 := kk) (pos := tpos) 0 (Draws.tuple (prog := X.prog) (w := X.w) (A := X.A.in1) (I.ok.hd hc) it a hai its.toArray) e hne (by simp [hne, hae.symm]) (by simp)
    obtain ⟨f0, f1, f2, f3, f4, f5⟩ := hf it (by simp)
    refine G.stops s (fun s1 => Inv X pins σ H s1) E (by rw [en]; exact ⟨⟨old, he⟩, hit, p⟩) fun h' tk hk htk => ?_
    exact I.turnedL (ch := [e, it]) (t' := tk) (fun b o hb q => hk b o hb q) hf
  self := fun A i s Q E st h => let ⟨⟨_, he⟩, _⟩ := st; wpAny_pyIter_enum he h
end SB
namespace PySem
open AutoSeq1 (wpAny_loadPart')
set_option maxHeartbeats 1000000 in
theorem sb_meets_enumerate_new1 {v : Value} {o : Obj} {H : Heap → Prop} (B : Begins v o H) :
    Meets (Builtin.«enumerate.__new__» ⟨[.type "enumerate", v], []⟩) (fun _ R s => H s.heap ∧
      R (.ok (.ret (.ref (s.heap.push o).objs.size))) { s with heap := (s.heap.push o).push { cls := .type "enumerate", data := .fields #[.none, .bool false, .ref s.heap.objs.size, rawInt 0, .none, .none] } }) :=
  .of_wp fun prog w A R s h => by
    obtain ⟨hp, g, d, tk, os⟩ := s; obtain ⟨h1, h⟩ := h
    have hsub := sub_enumerate
    have q1 : ∀ {A' : Around} {E : Value → Shared → Prop} {Q : Value → Shared → Prop}, Q (.ref hp.objs.size) ⟨hp.push o, g, d, tk, os⟩ → wpAny (model prog w) A' (pyIter v) Q E ⟨hp, g, d, tk, os⟩ :=
      fun q => B.iter prog w _ _ ⟨hp, g, d, tk, os⟩ _ h1 q
    wp_walk using q1
    refine wpAny_stack_any fun st => wpAny_pure ?_
    split
    · rename_i c _ _ _ _ _
      cases (c == Value.type "enumerate")
      · wp_walk using q1
        exact ⟨_, rfl, h⟩
      · wp_walk using q1
        exact ⟨_, rfl, h⟩
    · wp_walk using q1
      exact ⟨_, rfl, h⟩
theorem sb_enum_begins {prog : Program} {w : World} {A : Around} {E : Value → Shared → Prop} {s : Shared} {v : Value} {o : Obj} {H : Heap → Prop} {Q : Value → Shared → Prop} (B : Begins v o H) (h1 : H s.heap)
    (h : ∀ h', IsEnum h' (s.heap.objs.size + 1) s.heap.objs.size 0 .none → h'.get? s.heap.objs.size = some o → h'.objs.size = s.heap.objs.size + 2 →
      (∀ b o, s.heap.get? b = some o → h'.get? b = some o) → Q (.ref (s.heap.objs.size + 1)) { s with heap := h' }) :
    wpAny (model prog w) A (call (.type "enumerate") [v]) Q E s := by
  refine callType_new F.called_enumerate (by decide) (F.typeCall_enumerate_1 _) (F.newCall_enumerate_1 _) (fun obj => F.args_object_init_2 obj _) F.entry_enumerate_new
    (sb_meets_enumerate_new1 B) ⟨h1, ?_⟩
  have hz : (s.heap.push o).objs.size = s.heap.objs.size + 1 := Heap.size_push ..
  show _ ∧ _
  rw [hz]
  have he : IsEnum ((s.heap.push o).push { cls := .type "enumerate", data := .fields #[.none, .bool false, .ref s.heap.objs.size, rawInt 0, .none, .none] }) (s.heap.objs.size + 1) s.heap.objs.size 0 .none := by
    have := Heap.get?_push_size (s.heap.push o) (o := { cls := .type "enumerate", data := .fields #[.none, .bool false, .ref s.heap.objs.size, rawInt 0, .none, .none] }) rfl
    rw [hz] at this; exact this
  refine ⟨⟨_, he, rfl⟩, h _ he (Heap.get?_push_of_some _ (Heap.get?_push_size _ B.free)) (by rw [Heap.size_push, hz]) fun b o x => Heap.get?_push_of_some _ (Heap.get?_push_of_some _ x)⟩
end PySem
namespace SB
open PySem PySem.Spec PyProof.Rows L2
def iEnumT (K : PySem.W.Frag) (ta : TA) : TI := fun σ H R => ta σ H fun vs H1 => ∃ a xs, vs = [.ref a] ∧ SqT K H1 a xs ∧ R (IteT K a) H1
theorem pi_enumT {X : Cx} {e : Expr} {ta : TA} {p pos tpos : Pos} {elts : List Expr} {kk : Nat} (hg : Gl X "enumerate") (hm : X.mg "enumerate" = none) (ha : PA X [e] ta) (hs : starEach [e] X.env = [(false, eval e X.env)] := by rfl) :
    PI X (.Tuple elts kk tpos) (.Call (.Name "enumerate" p) [e] [] pos) (iEnumT X.K ta) := by
  refine ⟨fun pins s σ H R I h => ?_⟩
  refine Call_ (ld_blt I hg hm boot_enumerate (PyProof.Rows.callWith_type1 (thn (ha.run pos pins s σ H _ I h) fun us s1 ⟨vs, H1, I1, r1, q1⟩ => ?_) hs rfl))
  obtain ⟨a, xs, ex, hq, q⟩ := q1
  subst ex
  cases r1 with
  | cons r rr =>
    cases rr
    cases r
    obtain ⟨its, rv, p', hz⟩ := I1.tuple hq
    have hla : a < s1.heap.objs.size := p'.lt
    refine sb_enum_begins (begins_tuple a its.toArray) p' fun h' he hit hsz hk => wpAny_pyIter_enum he ?_
    have I2 : Inv X pins σ H1 { s1 with heap := h' } := I1.kept (t' := s1.toks) hk
    have nae : a ≠ s1.heap.objs.size + 1 := Nat.ne_of_lt (Nat.lt_succ_of_lt hla)
    refine ⟨s1.heap.objs.size + 1, [s1.heap.objs.size + 1, s1.heap.objs.size], _, _, H1, rfl, I2, turn_enumT a (s1.heap.objs.size + 1) s1.heap.objs.size nae (Nat.ne_of_lt hla), ⟨⟨.none, he⟩, ⟨_, hit, rfl, rfl⟩, Nat.succ_ne_self _⟩, fun b hb => ?_, q⟩
    have e' : b = s1.heap.objs.size + 1 ∨ b = s1.heap.objs.size := by simpa using hb
    have hle : s1.heap.objs.size ≤ b := by
      rcases e' with z | z
      · rw [z]; exact Nat.le_add_right _ _
      · rw [z]; exact Nat.le_refl _
    exact I1.fpOk hle (I1.hok.fresh hle)
end SB
set_option Elab.async false
set_option linter.all false
set_option maxRecDepth 100000
namespace SB
open PySem PySem.Spec PyProof.Rows L2 Evl
/-! ### data that never changes -/
mutual
def imm : PyData → Bool
  | .none => true
  | .bool _ => true
  | .int _ => true
  | .str _ => true
  | .list _ => false
  | .tuple ds => imms ds
  | .dict _ => false
def imms : List PyData → Bool
  | [] => true
  | d :: ds => imm d && imms ds
end
/-- what never changes is as it was -/
def Tx (H H' : Hp) : Prop := (∀ a xs, H a = some (.tup xs) → H' a = some (.tup xs)) ∧ ∀ a o u, H a = some (.frz o u) → H' a = some (.frz o u)
theorem Tx.refl (H : Hp) : Tx H H := ⟨fun _ _ h => h, fun _ _ _ h => h⟩
theorem Tx.trans {H H1 H2 : Hp} (a : Tx H H1) (b : Tx H1 H2) : Tx H H2 := ⟨fun c xs h => b.1 c xs (a.1 c xs h), fun c o u h => b.2 c o u (a.2 c o u h)⟩
theorem Tx.of {H H' : Hp} (e : Ex H H') : Tx H H' := ⟨fun a xs h => e a _ h, fun a o u h => e a _ h⟩
theorem Tx.lst {H H' : Hp} {a : Addr} {xs : List V} {o : HO} (e : Tx H H') (h : H' a = some (.lst xs)) : Tx H (upd H' a o) := by
  refine ⟨fun b ys hb => ?_, fun b ob u hb => ?_⟩
  · have h1 := e.1 b ys hb
    rw [upd_ne (fun z => by rw [z, h] at h1; cases h1)]
    exact h1
  · have h1 := e.2 b ob u hb
    rw [upd_ne (fun z => by rw [z, h] at h1; cases h1)]
    exact h1
theorem tx_t {K : PySem.W.Frag} {H H' : Hp} {a : Addr} {xs : List V} (e : Tx H H') (h : SqT K H a xs) : SqT K H' a xs := by
  rcases h with (h | ⟨o, h⟩) | h
  · exact .inl (.inl (e.1 _ _ h))
  · exact .inl (.inr ⟨o, e.2 _ _ _ h⟩)
  · exact .inr h
mutual
theorem dp_tx {K : PySem.W.Frag} {H H' : Hp} (e : Tx H H') : ∀ {d : PyData} {v : V}, imm d = true → Dp K H v d → Dp K H' v d
  | .none, _, _, h => by cases h; exact .non
  | .bool b, _, _, h => by cases h; exact .bl b
  | .int i, _, _, h => by cases h; exact .int i
  | .str x, _, _, h => by cases h; exact .str x
  | .list ds, _, i, h => by simp [imm] at i
  | .tuple ds, _, i, h => by cases h with | tup a b => exact .tup (tx_t e a) (dps_tx e (by simpa [imm] using i) b)
  | .dict _, _, _, h => by cases h
theorem dps_tx {K : PySem.W.Frag} {H H' : Hp} (e : Tx H H') : ∀ {ds : List PyData} {vs : List V}, imms ds = true → DpAll K H vs ds → DpAll K H' vs ds
  | [], _, _, h => by cases h; exact .nil
  | d :: ds, _, i, h => by
    have hi : imm d = true ∧ imms ds = true := by simpa [imms] using i
    cases h with | cons a b => exact .cons (dp_tx e hi.1 a) (dps_tx e hi.2 b)
end
theorem imms_mem : ∀ {ds : List PyData}, imms ds = true ↔ ∀ d ∈ ds, imm d = true
  | [] => by simp [imms]
  | d :: ds => by simp [imms, imms_mem (ds := ds)]
/-! ### what is walked, as data -/
def YD (K : PySem.W.Frag) (ds : List PyData) : Nat → Hp → V → Hp → Prop := fun i H x H' => Ex H H' ∧ ∃ d, ds[i]? = some d ∧ Dp K H' x d
def Ew (K : PySem.W.Frag) (wi : TI) (σ : L2.St) (H : Hp) (ds : List PyData) (S : Hp → Hp → Prop) : Prop :=
  ∀ H1, Ex H H1 → ∀ R : It → Hp → Prop, (∀ J H2 (G : Hp → Prop), Ex H1 H2 → Walk J ds.length G (YD K ds) → (∀ H', S H2 H' → G H') → R J H2) → wi σ H1 R
def enumD (ds : List PyData) : List PyData := ds.mapIdx fun i d => .tuple [.int (i : Nat), d]
def rangeD (lo : Int) (n : Nat) : List PyData := (List.range n).map fun i => .int (lo + (i : Nat))
def signsD (x : Str) : List PyData := x.cps.toList.map fun c => .str ⟨#[c]⟩
def iEnumA (K : PySem.W.Frag) (ta : TA) : TI := fun σ H R => iEnum K ta σ H R ∨ iEnumT K ta σ H R
theorem pi_enumA {X : Cx} {e : Expr} {ta : TA} {p pos tpos : Pos} {elts : List Expr} {kk : Nat} (hg : Gl X "enumerate") (hm : X.mg "enumerate" = none) (ha : PA X [e] ta) (hs : starEach [e] X.env = [(false, eval e X.env)] := by rfl) :
    PI X (.Tuple elts kk tpos) (.Call (.Name "enumerate" p) [e] [] pos) (iEnumA X.K ta) := PI.or (pi_enum hg hm ha hs) (pi_enumT hg hm ha hs)
section
variable {K : PySem.W.Frag} {σ : L2.St} {H H' : Hp} {te tl : TE} {ta : TA} {d : PyData} {ds : List PyData} {tt : TT} {g : TG}
theorem ew_T (h : Ed K te σ H (.tuple ds)) : Ew K (iAny K te) σ H ds Ex := fun H1 e R q => .inr (.inl (h H1 e _ fun v H2 e2 dv => by
  cases dv with
  | tup hs ha =>
    rename_i a vs
    have hl := dpall_len ha
    refine ⟨a, rfl, ⟨vs, hs⟩, q _ H2 (fun H' => SqT K H' a vs ∧ DpAll K H' vs ds) e2 ?_ fun H' e' => ⟨ex_t e' hs, dps_ex e' ha⟩⟩
    rw [← hl]
    refine walk_tup.mono (fun H h => h.1) fun i H x H' hi hg hy => ?_
    obtain ⟨rfl, hx⟩ := hy
    exact ⟨Ex.refl _, dpall_getV hg.2 hx⟩))
theorem ew_Ti (h : Ed K te σ H (.tuple ds)) (hi : imms ds = true) : Ew K (iAny K te) σ H ds Tx := fun H1 e R q => .inr (.inl (h H1 e _ fun v H2 e2 dv => by
  cases dv with
  | tup hs ha =>
    rename_i a vs
    have hl := dpall_len ha
    refine ⟨a, rfl, ⟨vs, hs⟩, q _ H2 (fun H' => SqT K H' a vs ∧ DpAll K H' vs ds) e2 ?_ fun H' e' => ⟨tx_t e' hs, dps_tx e' hi ha⟩⟩
    rw [← hl]
    refine walk_tup.mono (fun H h => h.1) fun i H x H' hi hg hy => ?_
    obtain ⟨rfl, hx⟩ := hy
    exact ⟨Ex.refl _, dpall_getV hg.2 hx⟩))
theorem ew_L (h : Ed K te σ H (.list ds)) : Ew K (iAny K te) σ H ds Ex := fun H1 e R q => .inl (h H1 e _ fun v H2 e2 dv => by
  cases dv with
  | lst hs ha =>
    rename_i a vs
    have hl := dpall_len ha
    refine ⟨a, rfl, ⟨vs, hs⟩, q _ H2 (fun H' => SqL K H' a vs ∧ DpAll K H' vs ds) e2 ?_ fun H' e' => ⟨ex_l e' hs, dps_ex e' ha⟩⟩
    rw [← hl]
    refine walk_list.mono (fun H h => h.1) fun i H x H' hi hg hy => ?_
    obtain ⟨rfl, hx⟩ := hy
    exact ⟨Ex.refl _, dpall_getV hg.2 hx⟩)
theorem ew_S {x : Str} {S : Hp → Hp → Prop} (h : Ed K te σ H (.str x)) : Ew K (iAny K te) σ H (signsD x) S := fun H1 e R q => .inr (.inr (h H1 e _ fun v H2 e2 dv => by
  cases dp_str dv
  refine ⟨x, rfl, q _ H2 (fun _ => True) e2 ?_ fun _ _ => trivial⟩
  have hl : (signsD x).length = x.cps.size := by simp [signsD]
  rw [hl]
  refine walk_str.mono (fun H h => h) fun i H v H' hi hg hy => ?_
  obtain ⟨rfl, c, hc, rfl⟩ := hy
  refine ⟨Ex.refl _, .str ⟨#[c]⟩, ?_, .str _⟩
  simp only [signsD, List.getElem?_map]
  rw [show x.cps.toList[i]? = some c from by simpa using hc]
  rfl))
theorem ew_R1 {n : Int} {S : Hp → Hp → Prop} (h : Ed K te σ H (.int n)) (hn : -100000 ≤ n ∧ n ≤ 100000) : Ew K (iRng1 (tCons te tNil)) σ H (rangeD 0 n.toNat) S := fun H1 e R q => h H1 e _ fun v H2 e2 dv => by
  cases dp_int dv
  refine ⟨n, rfl, by omega, by omega, q _ H2 (fun _ => True) e2 ?_ fun _ _ => trivial⟩
  have hl : (rangeD 0 n.toNat).length = n.toNat := by simp [rangeD]
  rw [hl]
  refine walk_range.mono (fun H h => h) fun i H v H' hi hg hy => ?_
  obtain ⟨rfl, rfl⟩ := hy
  exact ⟨Ex.refl _, .int (0 + (i : Nat)), by simp [rangeD, hi], .int _⟩
theorem ew_R2 {te2 : TE} {m n : Int} {S : Hp → Hp → Prop} (h : Ed K te σ H (.int m)) (h2 : Ed K te2 σ H (.int n)) (hm : -100000 ≤ m ∧ m ≤ 100000) (hn : -100000 ≤ n ∧ n ≤ 100000) : Ew K (iRng2 (tCons te (tCons te2 tNil))) σ H (rangeD m (n - m).toNat) S :=
  fun H1 e R q => h H1 e _ fun v H2 e2 dv => h2 H2 (e.trans e2) _ fun v2 H3 e3 dv2 => by
  cases dp_int dv
  cases dp_int dv2
  refine ⟨m, n, rfl, by omega, q _ H3 (fun _ => True) (e2.trans e3) ?_ fun _ _ => trivial⟩
  have hl : (rangeD m (n - m).toNat).length = (n - m).toNat := by simp [rangeD]
  rw [hl]
  refine walk_range.mono (fun H h => h) fun i H v H' hi hg hy => ?_
  obtain ⟨rfl, rfl⟩ := hy
  exact ⟨Ex.refl _, .int (m + (i : Nat)), by simp [rangeD, hi], .int _⟩
theorem ew_ET (h : Ed K te σ H (.tuple ds)) : Ew K (iEnumA K (tCons te tNil)) σ H (enumD ds) Ex := fun H1 e R q => .inr (h H1 e _ fun v H2 e2 dv => by
  cases dv with
  | tup hs ha =>
    rename_i a vs
    have hl := dpall_len ha
    refine ⟨a, vs, rfl, hs, q _ H2 (fun H' => SqT K H' a vs ∧ DpAll K H' vs ds) e2 ?_ fun H' e' => ⟨ex_t e' hs, dps_ex e' ha⟩⟩
    have hle : (enumD ds).length = vs.length := by simp [enumD, hl]
    rw [hle]
    refine ⟨fun i H hi hg => ⟨vs, vs[i], hg.1, by simp [hi]⟩, fun H hg => ⟨vs, hg.1, rfl⟩, fun i H v H' hi hg hy => ?_⟩
    obtain ⟨T, x, rfl, hT, rfl, hx⟩ := hy
    obtain ⟨d, hd, dx⟩ := dpall_getV hg.2 (hx vs hg.1)
    refine ⟨Ex.new hT, .tuple [.int (i : Nat), d], by simp [enumD, hd], .tup (st_of upd_same) (.cons (.int _) (.cons (dp_ex (Ex.new hT) dx) .nil))⟩)
theorem ew_ETi (h : Ed K te σ H (.tuple ds)) (hi : imms ds = true) : Ew K (iEnumA K (tCons te tNil)) σ H (enumD ds) Tx := fun H1 e R q => .inr (h H1 e _ fun v H2 e2 dv => by
  cases dv with
  | tup hs ha =>
    rename_i a vs
    have hl := dpall_len ha
    refine ⟨a, vs, rfl, hs, q _ H2 (fun H' => SqT K H' a vs ∧ DpAll K H' vs ds) e2 ?_ fun H' e' => ⟨tx_t e' hs, dps_tx e' hi ha⟩⟩
    have hle : (enumD ds).length = vs.length := by simp [enumD, hl]
    rw [hle]
    refine ⟨fun i H hi hg => ⟨vs, vs[i], hg.1, by simp [hi]⟩, fun H hg => ⟨vs, hg.1, rfl⟩, fun i H v H' hi hg hy => ?_⟩
    obtain ⟨T, x, rfl, hT, rfl, hx⟩ := hy
    obtain ⟨d, hd, dx⟩ := dpall_getV hg.2 (hx vs hg.1)
    refine ⟨Ex.new hT, .tuple [.int (i : Nat), d], by simp [enumD, hd], .tup (st_of upd_same) (.cons (.int _) (.cons (dp_ex (Ex.new hT) dx) .nil))⟩)
/-- a for: Pv tells what holds ahead of turn i, over the heap in which the walk began -/
theorem w_for {wi : TI} {tb : TS} {D : Ends} {S : Hp → Hp → Prop} (h : Ew K wi σ H ds S) (Pv : Hp → Nat → L2.St → Hp → Prop) (h0 : ∀ H2, Ex H H2 → Pv H2 0 σ H2) (hS : ∀ H2 i σ' H', Pv H2 i σ' H' → S H2 H')
    (hs : ∀ H2, Ex H H2 → ∀ i d x σ' H' H'', ds[i]? = some d → Pv H2 i σ' H' → Ex H' H'' → Dp K H'' x d → g x σ' H'' fun σ2 H3 => tb { D with nx := Pv H2 (i + 1), ct := Pv H2 (i + 1), bk := D.nx } σ2 H3)
    (hd : ∀ H2, Ex H H2 → ∀ σ' H', Pv H2 ds.length σ' H' → D.nx σ' H') : tFor wi g tb D σ H :=
  h H (Ex.refl H) _ fun J H2 G e2 w hG => for_it w (Pv H2) (h0 H2 e2) (fun i σ' H' _ p => hG H' (hS H2 i σ' H' p))
    (fun i x σ' H' H'' hi p y => by
      obtain ⟨e', d, hd, dx⟩ := y
      exact hs H2 e2 i d x σ' H' H'' hd p e' dx)
    (fun σ' H' p => hd H2 e2 σ' H' p)
/-- a comprehension whose parts give data that never changes -/
theorem ed_lc {wi : TI} {vs : List Nat} {j : Nat} (hw : Ew K wi σ H ds Ex) (p : PyData → Bool) (f : PyData → PyData)
    (ht : ∀ d ∈ ds, ∀ x H1, Ex H H1 → Dp K H1 x d → Et tt ((wipe σ vs).set j (some x)) H1 (p d))
    (he : ∀ d ∈ ds, p d = true → ∀ x H1, Ex H H1 → Dp K H1 x d → Ed K te ((wipe σ vs).set j (some x)) H1 (f d)) (hi : ∀ d ∈ ds, p d = true → imm (f d) = true)
    (hz : ds.length ≤ 40000) (hwp : ∀ x, wipe ((wipe σ vs).set j (some x)) vs = wipe σ vs := by intro _; rfl) :
    Ed K (tLc wi (gName j) tt te vs) σ H (.list ((ds.filter p).map f)) := fun H1 e Q q =>
  hw H1 e _ fun J H2 G e2 w hG Dl hDl =>
    lc_it w (fun i H' => Ex H2 H' ∧ ∃ us, H' Dl = some (.lst us) ∧ us.length ≤ i ∧ DpAll K H' us (((ds.take i).filter p).map f))
      ⟨Ex.new hDl, [], upd_same, Nat.le_refl _, .nil⟩ (fun i H' _ pv => hG H' pv.1)
      (fun i x H' H'' hin pv y => by
        obtain ⟨eH, us, hus, hlen, dus⟩ := pv
        obtain ⟨e', d, hd, dx⟩ := y
        have hm : d ∈ ds := List.mem_of_getElem? hd
        have htk : ds.take (i + 1) = ds.take i ++ [d] := by rw [List.take_add_one, hd]; rfl
        have ee : Ex H H'' := ((e.trans e2).trans eH).trans e'
        refine ⟨hwp x, ?_⟩
        refine ht d hm x H'' ee dx H'' (Ex.refl _) _ fun H3 e3 => ?_
        cases hp : p d with
        | true =>
          rw [if_pos rfl]
          have h1 := he d hm hp x H'' ee dx
          have h2 := hi d hm hp
          refine h1 H3 e3 _ fun v H4 e4 dv => ⟨us, e4 _ _ (e3 _ _ (e' _ _ hus)), sz_lt (by omega), ?_, us ++ [v], upd_same, by simp; omega, ?_⟩
          · exact ((eH.trans e').trans (e3.trans e4)).mut hDl
          · rw [htk, List.filter_append, List.map_append]
            have hD4 : H4 Dl = some (.lst us) := e4 _ _ (e3 _ _ (e' _ _ hus))
            have tx : Tx H4 (upd H4 Dl (.lst (us ++ [v]))) := (Tx.refl H4).lst hD4
            have him : imms (((ds.take i).filter p).map f) = true := imms_mem.mpr fun z hz => by
              obtain ⟨y, hy, rfl⟩ := List.mem_map.mp hz
              obtain ⟨hy1, hy2⟩ := List.mem_filter.mp hy
              have hym : y ∈ ds := List.mem_of_mem_take hy1
              exact hi y hym hy2
            refine dpall_app (dps_tx tx him (dps_ex ((e'.trans e3).trans e4) dus)) ?_
            simp only [List.filter_cons, hp, if_true, List.filter_nil, List.map_cons, List.map_nil]
            exact .cons (dp_tx tx h2 dv) .nil
        | false =>
          rw [if_neg Bool.false_ne_true]
          refine ⟨eH.trans (e'.trans e3), us, e3 _ _ (e' _ _ hus), by omega, ?_⟩
          rw [htk, List.filter_append]
          simp only [List.filter_cons, hp, Bool.false_eq_true, if_false, List.filter_nil, List.append_nil]
          exact dps_ex (e'.trans e3) dus)
      (fun H' pv => by
        obtain ⟨eH, us, hus, hlen, dus⟩ := pv
        rw [List.take_of_length_le (Nat.le_refl _)] at dus
        exact q _ H' (e2.trans eH) (.lst (sq_of hus) dus))
end
end SB
namespace SB
open PySem PySem.Spec PyProof.Rows L2 Evl
def rLeU : R2 := fun x y H Q => (rI0 fun i j => V.bl (decide (i ≤ j))) x y H Q ∨ (∃ i j, x = .str i ∧ y = .str j ∧ Q (.bl (!decide (j.cps.toList < i.cps.toList))) H)
theorem oLe {X : Cx} : OpR X (compareOp .LtE) rLeU := op_le.or op_le_str
section
variable {K : PySem.W.Frag} {σ : L2.St} {H H' : Hp} {te tl ta tb tc : TE} {d : PyData} {ds : List PyData} {tt : TT} {g : TG}
theorem ed_le {i j : Int} (ha : Ed K ta σ H (.int i)) (hb : Ed K tb σ H (.int j)) : Ed K (tOp rLeU ta tb) σ H (.bool (decide (i ≤ j))) := ed_opI (.bl (decide (i ≤ j))) ha hb (fun _ => .bl _) fun _ _ q => .inl ⟨i, j, rfl, rfl, q⟩
theorem ed_chainLL {i j k : Int} (ha : Ed K ta σ H (.int i)) (hb : Ed K tb σ H (.int j)) (hc : Ed K tc σ H (.int k)) : Ed K (tChain rLeU rLeU ta tb tc) σ H (.bool (decide (i ≤ j) && decide (j ≤ k))) :=
  ed_chain ha hb (fun _ => hc) (fun H1 _ x y hx hy Q q => by cases dp_int hx; cases dp_int hy; exact .inl ⟨i, j, rfl, rfl, q⟩) fun _ H1 _ x y hx hy Q q => by cases dp_int hx; cases dp_int hy; exact .inl ⟨j, k, rfl, rfl, q⟩
theorem ed_chainLLs {i j k : Str} (ha : Ed K ta σ H (.str i)) (hb : Ed K tb σ H (.str j)) (hc : Ed K tc σ H (.str k)) : Ed K (tChain rLeU rLeU ta tb tc) σ H (.bool (!decide (j.cps.toList < i.cps.toList) && !decide (k.cps.toList < j.cps.toList))) :=
  ed_chain ha hb (fun _ => hc) (fun H1 _ x y hx hy Q q => by cases dp_str hx; cases dp_str hy; exact .inr ⟨i, j, rfl, rfl, q⟩) fun _ H1 _ x y hx hy Q q => by cases dp_str hx; cases dp_str hy; exact .inr ⟨j, k, rfl, rfl, q⟩
theorem ed_chainTT {i j k : Int} (ha : Ed K ta σ H (.int i)) (hb : Ed K tb σ H (.int j)) (hc : Ed K tc σ H (.int k)) : Ed K (tChain rLtU rLtU ta tb tc) σ H (.bool (decide (i < j) && decide (j < k))) :=
  ed_chain ha hb (fun _ => hc) (fun H1 _ x y hx hy Q q => by cases dp_int hx; cases dp_int hy; exact .inl ⟨i, j, rfl, rfl, q⟩) fun _ H1 _ x y hx hy Q q => by cases dp_int hx; cases dp_int hy; exact .inl ⟨j, k, rfl, rfl, q⟩
theorem ed_all {bs : List Bool} (h : Ed K ta σ H (.list (bs.map .bool))) : Ed K (tCB (rAll K) (tCons ta tNil)) σ H (.bool (bs.all id)) :=
  ed_cb (ea_cons h ea_nil) fun H1 e vs dvs Q q => by
    obtain ⟨x, rfl, dx⟩ := dp1 dvs
    cases dx with
    | lst hs ha => exact ⟨_, bs, rfl, by rw [← dpall_bl ha]; exact hs, q _ H1 (Ex.refl H1) (.bl _)⟩
theorem ed_any {bs : List Bool} (h : Ed K ta σ H (.list (bs.map .bool))) : Ed K (tCB (rAny K) (tCons ta tNil)) σ H (.bool (bs.any id)) :=
  ed_cb (ea_cons h ea_nil) fun H1 e vs dvs Q q => by
    obtain ⟨x, rfl, dx⟩ := dp1 dvs
    cases dx with
    | lst hs ha => exact ⟨_, bs, rfl, by rw [← dpall_bl ha]; exact hs, q _ H1 (Ex.refl H1) (.bl _)⟩
/-- a comprehension without a test, over mapped items -/
theorem ed_map {α : Type} {wi : TI} {vs : List Nat} {j : Nat} {en : α → PyData} {xs : List α} (hw : Ew K wi σ H (xs.map en) Ex) (f : α → PyData)
    (he : ∀ a ∈ xs, ∀ x H1, Ex H H1 → Dp K H1 x (en a) → Ed K te ((wipe σ vs).set j (some x)) H1 (f a)) (hi : ∀ a ∈ xs, imm (f a) = true)
    (hinj : ∀ a ∈ xs, ∀ b ∈ xs, en a = en b → f a = f b) (hz : xs.length ≤ 40000) (hwp : ∀ x, wipe ((wipe σ vs).set j (some x)) vs = wipe σ vs := by intro _; rfl) :
    Ed K (tLc wi (gName j) tYes te vs) σ H (.list (xs.map f)) := by
  have hf : ∃ f' : PyData → PyData, ∀ a ∈ xs, f' (en a) = f a := by
    classical
    refine ⟨fun d => if h : ∃ a ∈ xs, en a = d then f h.choose else d, fun a ha => ?_⟩
    have h : ∃ b ∈ xs, en b = en a := ⟨a, ha, rfl⟩
    have hc := h.choose_spec
    show (if h : ∃ b ∈ xs, en b = en a then f h.choose else _) = _
    rw [dif_pos h]
    exact hinj _ hc.1 a ha hc.2
  obtain ⟨f', hf'⟩ := hf
  refine (ed_lc hw (fun _ => true) f' (fun d hd x H1 e dx H2 e2 Q q => q H2 (Ex.refl _)) (fun d hd _ x H1 e dx => ?_) (fun d hd _ => ?_) (by simpa using hz) hwp).is ?_
  · obtain ⟨a, ha, rfl⟩ := List.mem_map.mp hd
    rw [hf' a ha]
    exact he a ha x H1 e dx
  · obtain ⟨a, ha, rfl⟩ := List.mem_map.mp hd
    rw [hf' a ha]
    exact hi a ha
  · congr 1
    rw [List.filter_eq_self.mpr fun _ _ => rfl, List.map_map]
    exact List.map_congr_left fun a ha => hf' a ha
end
end SB
namespace SB
open PySem PySem.Spec PyProof.Rows L2 Evl
theorem dp3 {K : PySem.W.Frag} {H : Hp} {v : List V} {a b c : PyData} (h : DpAll K H v [a, b, c]) : ∃ x y z, v = [x, y, z] ∧ Dp K H x a ∧ Dp K H y b ∧ Dp K H z c := by
  cases h with | cons p h => cases h with | cons q h => cases h with | cons r h => cases h; exact ⟨_, _, _, rfl, p, q, r⟩
theorem dp4 {K : PySem.W.Frag} {H : Hp} {v : List V} {a b c d : PyData} (h : DpAll K H v [a, b, c, d]) : ∃ x y z u, v = [x, y, z, u] ∧ Dp K H x a ∧ Dp K H y b ∧ Dp K H z c ∧ Dp K H u d := by
  cases h with | cons p h => cases h with | cons q h => cases h with | cons r h => cases h with | cons s h => cases h; exact ⟨_, _, _, _, rfl, p, q, r, s⟩
end SB
namespace SB
open PySem PySem.Spec PyProof.Rows L2 Evl
theorem ed_neg {K : PySem.W.Frag} {σ : L2.St} {H : Hp} {ta : TE} {i : Int} (h : Ed K ta σ H (.int i)) : Ed K (tUn (rU fun i => .int (-i)) ta) σ H (.int (-i)) := fun H1 e Q q => h H1 e _ fun v H2 e2 dv => by
  cases dp_int dv
  exact ⟨i, rfl, q _ H2 e2 (.int _)⟩
end SB
namespace SB
open PySem PySem.Spec PyProof.Rows L2 Evl
section
variable {K : PySem.W.Frag} {σ : L2.St} {H H' : Hp} {ta tb tc te tx : TE} {t u : TT} {d : PyData} {ds : List PyData} {D : Ends} {tu tw tz : TS} {g : TG}
theorem q_asg {i : Nat} (h : Ed K te σ H d) (k : ∀ v H1, Ex H H1 → Dp K H1 v d → tz D (σ.set i (some v)) H1) : tSeq (tAsg te (gName i)) tz D σ H := h.use k
theorem q_drop (h : Ed K te σ H d) (k : ∀ H1, Ex H H1 → tz D σ H1) : tSeq (tDrop te) tz D σ H := h.use fun v H1 e _ => k H1 e
theorem q_when {b : Bool} (h : Et t σ H b) (h1 : b = true → ∀ H1, Ex H H1 → tu { D with nx := tz D } σ H1) (h2 : b = false → ∀ H1, Ex H H1 → tz D σ H1) : tSeq (tIfS t tu tNext) tz D σ H := s_if (D := { D with nx := tz D }) h h1 h2
theorem w_when {b : Bool} (h : Et t σ H b) (h1 : b = true → ∀ H1, Ex H H1 → tu D σ H1) (h2 : b = false → ∀ H1, Ex H H1 → D.nx σ H1) : tIfS t tu tNext D σ H := s_if h h1 h2
theorem q_for {wi : TI} {tb : TS} {S : Hp → Hp → Prop} (h : Ew K wi σ H ds S) (Pv : Hp → Nat → L2.St → Hp → Prop) (h0 : ∀ H2, Ex H H2 → Pv H2 0 σ H2) (hS : ∀ H2 i σ' H', Pv H2 i σ' H' → S H2 H')
    (hs : ∀ H2, Ex H H2 → ∀ i d x σ' H' H'', ds[i]? = some d → Pv H2 i σ' H' → Ex H' H'' → Dp K H'' x d → g x σ' H'' fun σ2 H3 => tb { D with nx := Pv H2 (i + 1), ct := Pv H2 (i + 1), bk := tz D } σ2 H3)
    (hd : ∀ H2, Ex H H2 → ∀ σ' H', Pv H2 ds.length σ' H' → tz D σ' H') : tSeq (tFor wi g tb) tz D σ H := w_for (D := { D with nx := tz D }) h Pv h0 hS hs hd
theorem q_cut {M : L2.St → Hp → Prop} (h : tu { D with nx := M } σ H) (k : ∀ σ' H', M σ' H' → tz D σ' H') : C8.tCut tu tz D σ H := ⟨M, h, k⟩
end
end SB
set_option Elab.async false
set_option linter.all false
set_option maxRecDepth 100000
set_option maxHeartbeats 2000000
/-! an own exception's __init__ that begins with super().__init__(e) -/
namespace SB
open PySem PySem.Spec PyProof.Rows L2
theorem lookup_none {α : Type} {x : Str} : ∀ {l : List (Str × α)}, x ∉ l.map (·.1) → l.lookup x = none
  | [], _ => rfl
  | (k, v) :: l, h => by
    have h1 : x ≠ k := fun e => h (by simp [e])
    have h2 : x ∉ l.map (·.1) := fun e => h (by simp; right; simpa using e)
    have e : (x == k) = false := by simpa using h1
    simp only [List.lookup, e]
    exact lookup_none h2
theorem lookup_rz {α : Type} : ∀ {ps : List Str} {us : List α} {i : Nat} {x : Str} {u : α}, ps.Nodup → ps[i]? = some x → us[i]? = some u → ((ps.zip us).reverse).lookup x = some u
  | [], _, _, _, _, _, h, _ => by simp at h
  | _ :: _, [], _, _, _, _, _, h => by simp at h
  | p :: ps, v :: us, 0, x, u, nd, h, h2 => by
    simp at h h2
    subst h h2
    have hp : p ∉ ((ps.zip us).reverse).map (·.1) := fun e => by
      rw [List.map_reverse, List.mem_reverse] at e
      obtain ⟨⟨a, b⟩, hab, rfl⟩ := List.mem_map.mp e
      exact (List.nodup_cons.mp nd).1 (List.of_mem_zip hab).1
    rw [List.zip_cons_cons, List.reverse_cons, List.lookup_append, lookup_none hp]
    simp [List.lookup]
  | p :: ps, v :: us, i + 1, x, u, nd, h, h2 => by
    have ih := lookup_rz (List.nodup_cons.mp nd).2 (by simpa using h) (by simpa using h2)
    rw [List.zip_cons_cons, List.reverse_cons, List.lookup_append, ih]
    rfl
/-- the context of such a body -/
def cxS (CX : CXT) (P : Program) (w : World) (K : PySem.W.Frag) (mg : Str → Option Value) (base : Heap) (N : List Str) (qual : Str) (scope : Scope) (f : Addr) (cd : Value) (cc : Addr) (A : Around) (outer : List Env) (s : Shared) (H : Hp) (E : XK) : Cx where
  prog := P
  w := w
  K := K
  mg := mg
  base := base
  A := A.deeper (PySem.W.ksEnv qual scope s.heap.objs.size f cd cc)
  N := N
  s_0 := s
  H_0 := H
  env := PySem.W.ksEnv qual scope s.heap.objs.size f cd cc
  outer := outer
  stack := PySem.W.ksEnv qual scope s.heap.objs.size f cd cc :: outer
  ex := []
  calm := true
  fn := fun _ => false
  pn := []
  xe := fun e s' => wpAny (model P w) (A.deeper (PySem.W.ksEnv qual scope s.heap.objs.size f cd cc)) (leaving (PySem.W.ksEnv qual scope s.heap.objs.size f cd cc) e) (fun _ s'' => CX outer H s E e s'') (fun e' s'' => CX outer H s E e' s'') s'
/-- its scope: the parameters, __class__, globals -/
structure InScope (ps : List Str) (sc : Scope) : Prop where
  kind : sc.kind = .function
  co : sc.isCoroutine = false
  gen : sc.isGenerator = false
  nd : ps.Nodup
  par : ∀ x ∈ ps, sc.names.lookup x = some .local
  nocell : ∀ x ∈ sc.names, x.2 ≠ .cell
  only : ∀ x, sc.names.lookup x = some .free → x = "__class__"
  cls : sc.names.lookup ("__class__" : Str) = some .free
  sup : sc.names.lookup ("super" : Str) = some .globalImplicit
/-- what the written part says of the class that __init__ stands in (at C) and of the cell -/
structure InCls (P : Program) (K : PySem.W.Frag) (mg : Str → Option Value) (C cc fI cda : Addr) : Prop where
  cell : ∃ cl cld csl, K.lookup cc = some ⟨cl, cld, .cell (some (.ref C)), csl⟩
  mro : PySem.W.mroIn K C (.ref C) = some true
  sup : PySem.W.ks_superIn K C C "__init__" = some (some (.builtin "ValueError.__init__"))
  hB : PySem.W.subIn K (.ref C) (.type "ValueError") = some true
  opq : PySem.W.nsIn K PySem.cStatics "thirdparty.any" = some none
  msup : mg "super" = none
  code : ∃ ccl cdd vs ccs file tf, K.lookup cda = some ⟨ccl, cdd, .fields vs, ccs⟩ ∧ vs[2]? = some (.str file tf) ∧ ((P.main.file : Str) == file) = true
  htop : (P.main.scope.names.lookup ("super" : Str)).isSome = false
section
variable {prog : Program} {w : World} {A : Around} {E : Value → Shared → Prop} {h : Heap} {g : Array GenState} {d : Drawn} {t : Nat} {os : OsState}
variable {nm q : Str} {C N : Addr} {bs bm : List Value} {hdct : Bool} {sn : List Str} {sub : List Value} {ab : Bool} {col : Option Bool} {dd : Option Addr} {k0 k1 k2 k3 k5 : Option Value}
theorem call_bwV {u e t0 : Addr} {rest : List Value} {Q : Value → Shared → Prop}
    (hC : h.get? C = some (excClassObj nm q C N bs bm hdct sn sub ab col dd k0 k1 k2 k3 k5 "ValueError.__new__")) (he : h.get? e = some (HandSPX.excO C t0)) (hu : h.get? u = some (PySem.W.kxs_mw "ValueError.__init__" e)) (hrest : rest.length ≤ sizeLine)
    (hq : ∀ h' t1, (∀ b o, b ≠ e → h.get? b = some o → h'.get? b = some o) → h'.get? e = some (HandSPX.excO C t1) → Q .none ⟨h', g, d, t, os⟩) :
    wpAny (model prog w) A (call (.ref u) rest) Q E ⟨h, g, d, t, os⟩ := by
  refine wpAny_call (codeAny_of_tree ?_)
  show wpAny _ A.in1 (callAny (.ref u) ⟨rest, []⟩) _ _ _
  simp only [callAny]
  refine wpAny_bind (wpAny_load hu ?_)
  simp only [PySem.W.kxs_mw, show (Value.type "method-wrapper" == Value.type "method" || Value.type "method-wrapper" == Value.type "builtin_function_or_method" || Value.type "method-wrapper" == Value.type "method-wrapper") = true by decide, if_true]
  refine PySem.W.KFB.if_so (by decide) ?_
  refine wpAny_bind (PySem.ESX.check_bound F.excBase_ValueError hC he rfl ?_)
  refine wpAny_bind (wpAny_pure (wpAny_pure ?_))
  refine ⟨Code.quiet_builtin _ (by decide +kernel), codeAny_builtin F.excBase_ValueError.initEntry ?_⟩
  rw [Around.under_plainId F.excBase_ValueError.init.plain _]
  wp_walk
  refine hq _ h.objs.size (fun b o hb ho => ?_) ?_
  · rw [Heap.get?_update_other _ _ (Ne.symm hb)]
    exact Heap.get?_push_of_some _ ho
  · rw [Heap.get?_update_self _ (Heap.get?_push_of_some _ he) rfl]
    rfl
end
theorem Inv.unpinned0 {X : Cx} {pins : List (Addr × Obj)} {σ : L2.St} {H : Hp} {s : Shared} (I : Inv X pins σ H s) : Inv X [] σ H s := I.pins_of fun p hp => by cases hp
theorem fn_exinit {CX : CXT} {P : Program} {w : World} {K : PySem.W.Frag} {mg : Str → Option Value} {base : Heap} {k : Nat} {f C cc cda : Addr} {name qual : Str} {params : Arguments} {scope : Scope} {dV kV doc pm ct oc : Value} {an od : Option Addr}
    {osl : Array (Option Value)} {ps0 : List Str} {ar : Arg} {sp : Sp} {p0 p1 apos pos pos2 : Pos} {e : Expr} {rest : List Stmt}
    (lk : K.lookup f = some ⟨oc, od, .func (PySem.W.fnX name qual params (.Expr (.Call (.Attribute (.Call (.Name "super" p0) [] [] p1) "__init__" apos) [e] [] pos) pos2 :: rest) scope [(("__class__" : Str), cc)] dV kV doc pm an (.ref cda) ct), osl⟩)
    (hcd : PySem.W.codeIn K (.ref cda) qual = true) (S : InScope (("self" : Str) :: ps0) scope) (hpar : (params.posonlyargs ++ params.args).head? = some ar) (har : ar.arg = "self") (T : OexC K C) (IC : InCls P K mg C cc f cda)
    (len : ∀ vs H Q E, sp vs H Q E → vs.length = (("self" : Str) :: ps0).length) {pl : Sem Bool}
    (hev : ∀ env : Env, eval (.Call (.Attribute (.Call (.Name "super" p0) [] [] p1) "__init__" apos) [e] [] pos) env = (do
      let ov ← attributeBase (.Call (.Name "super" p0) [] [] p1) "__init__" env (eval (.Call (.Name "super" p0) [] [] p1) env)
      standAt apos.atName
      let (f, first) ← holding [ov] (getMethod ov "__init__" pl)
      callWith pos f first (backTo pos (starEach [e] env)) []))
    (hse : ∀ env : Env, starEach [e] env = (false, eval e env) :: starEach [] env)
    (hbody : ∀ (A : Around) (outer : List Env) (s : Shared) (H : Hp) (vs : List V) (Q : VK) (E : XK), Room k (A.deeper (PySem.W.ksEnv qual scope s.heap.objs.size f (.ref cda) cc)) → sp vs H Q E →
      ∃ a ws te t, vs = .ref a :: ws ∧ H a = some (exo a C none) ∧ PA (cxS CX P w K mg base (("self" : Str) :: ps0) qual scope f (.ref cda) cc A outer s H E).nox [e] te ∧ PSs (cxS CX P w K mg base (("self" : Str) :: ps0) qual scope f (.ref cda) cc A outer s H E).nox rest t ∧
        te (L2.start (("self" : Str) :: ps0) vs) H (fun us H1 => us.length ≤ 1000 ∧ H1 a = some (exo a C none) ∧ t { nx := fun _ H' => Q .non H', rt := Q } (L2.start (("self" : Str) :: ps0) vs) H1)) :
    FnOk P w K mg base CX (k + 1) f (PySem.W.fnX name qual params (.Expr (.Call (.Attribute (.Call (.Name "super" p0) [] [] p1) "__init__" apos) [e] [] pos) pos2 :: rest) scope [(("__class__" : Str), cc)] dV kV doc pm an (.ref cda) ct) (("self" : Str) :: ps0) sp := by
  refine ⟨len, fun A outer s H args us vs Q E hr e0 hb r hsp => ?_⟩
  have hl := len _ _ _ _ hsp
  have KX : K.In s.heap := e0.mod.kin.keeps fun b o e => (e0.bs b o e).1
  have lim : s.heap.NoLimit := e0.mod.nolimit.keeps fun b o e => (e0.bs b o e).1
  obtain ⟨a, ws, te, t, rfl, ha, hte, ht, hq⟩ := hbody A outer s H vs Q E (hr.deeper _) hsp
  obtain ⟨cl, cld, csl, hcell⟩ := IC.cell
  obtain ⟨ccl, cdd, cvs, ccs, file, tf, hcode, hvs, hfile⟩ := IC.code
  have ncls : ("__class__" : Str) ∉ (("self" : Str) :: ps0) := fun z => by
    have := S.par _ z
    rw [S.cls] at this
    cases this
  have ccb : ∃ o, base.get? cc = some o := ⟨_, e0.mod.kin _ _ hcell⟩
  obtain ⟨occ, hocc⟩ := ccb
  refine PySem.ks_codeAny_call_defAt (body := .Expr (.Call (.Attribute (.Call (.Name "super" p0) [] [] p1) "__init__" apos) [e] [] pos) pos2 :: rest) (binds := (("self" : Str) :: ps0).zip us) hr.depth (KX _ _ lk) rfl lim (PySem.W.codeRec_of KX hcd) rfl hb S.nocell
    (fun x hx => S.par _ (List.of_mem_zip (show (x.1, x.2) ∈ _ from hx)).1) (fun h₀ hns hk => ?_) S.co S.gen S.kind
  have noA : ∀ b : Addr, b ∉ (cxS CX P w K mg base (("self" : Str) :: ps0) qual scope f (.ref cda) cc A outer s H E).ex := fun b z => absurd (show b ∈ ([] : List Addr) from z) (by simp)
  have onlyc : ∀ {x c}, (cxS CX P w K mg base (("self" : Str) :: ps0) qual scope f (.ref cda) cc A outer s H E).env.cells.lookup x = some c → x = "__class__" ∧ c = cc := fun {x c} h => by
    have h' : ([(("__class__" : Str), cc)] : List (Str × Addr)).lookup x = some c := h
    simp only [List.lookup] at h'
    split at h'
    · rename_i q
      exact ⟨by simpa using q, (Option.some.inj h').symm⟩
    · cases h'
  have hle := r.length
  have I : Inv (cxS CX P w K mg base (("self" : Str) :: ps0) qual scope f (.ref cda) cc A outer s H E) [] (L2.start (("self" : Str) :: ps0) (.ref a :: ws)) H { s with heap := h₀, toks := s.toks + ((("self" : Str) :: ps0).zip us).length } := by
    refine ⟨⟨e0.mod, S.kind, rfl, rfl, Nat.le_refl _, fun y z c h1 h2 => (onlyc h1).1.trans (onlyc h2).1.symm, fun y hy => ?_, fun y c z h => (Bool.noConfusion (show false = true from z)), fun _ => hr.hd, Around.frames_deeper e0.frames, .inr ⟨rfl, rfl⟩, fun b z => absurd z (noA b), e0.bs, e0.bsz, fun b _ _ => noA b, fun b z => absurd z (noA b), e0.funs, e0.frf⟩,
      rfl, e0.bare, Un.kept hk, ⟨_, hns, fun i y v h1 h2 h3 => ?_⟩, fun y c h => ?_, e0.hok.fresh (Nat.le_refl _), fun y c h => ?_, fun p hp => absurd (show p ∈ ([] : List (Addr × Obj)) from hp) (by simp), e0.hok.kept hk, ?_⟩
    · have hy : scope.names.lookup y = some .cell ∨ scope.names.lookup y = some .free := hy
      rcases hy with hy | hy
      · exact absurd rfl (S.nocell _ (PySem.mem_of_lookup hy))
      · rw [S.only y hy]
        exact ⟨cc, rfl⟩
    · have hi : i < (V.ref a :: ws).length := by
        unfold L2.start at h2
        by_cases hi : i < (V.ref a :: ws).length
        · exact hi
        · rw [List.getElem?_append_right (by simpa using hi)] at h2
          rw [List.getElem?_replicate] at h2
          split at h2 <;> cases h2
      have hav : (V.ref a :: ws)[i]? = some v := by
        unfold L2.start at h2
        rw [List.getElem?_append_left (by simpa using hi), List.getElem?_map] at h2
        cases e : (V.ref a :: ws)[i]? with
        | none => rw [e] at h2; cases h2
        | some a => rw [e] at h2; cases h2; rfl
      obtain ⟨u, hu, rv⟩ := r.get hav
      exact ⟨u, rv, .inl ⟨S.par y (List.mem_of_getElem? h1), lookup_rz S.nd h1 hu⟩⟩
    · obtain ⟨_, rfl⟩ := onlyc h
      exact ⟨_, _, hk _ _ (KX _ _ hcell), rfl⟩
    · obtain ⟨_, rfl⟩ := onlyc h
      exact (e0.bs _ _ hocc).2
    · unfold L2.start
      show _ = (("self" : Str) :: ps0).length
      rw [List.length_append, List.length_map, List.length_replicate]
      omega
  have hlX : (cxS CX P w K mg base (("self" : Str) :: ps0) qual scope f (.ref cda) cc A outer s H E).nox.Ok := I.ok.wish _
  have In : Inv (cxS CX P w K mg base (("self" : Str) :: ps0) qual scope f (.ref cda) cc A outer s H E).nox [] (L2.start (("self" : Str) :: ps0) (.ref a :: ws)) H { s with heap := h₀, toks := s.toks + ((("self" : Str) :: ps0).zip us).length } := I.wish _
  obtain ⟨nm, q, Nn, bs, bm, sn, sub, ab, col, dd, k0, k1, k2, k3, k5, hC, hbm⟩ := T.cls
  have hcl : PySem.W.clsIn K C = some { name := nm, bases := bs, mro := .ref C :: bm, ns := Nn, qualname := q, hasDict := true, slotNames := sn, subclasses := sub, abstract := ab, collection := col, hasDel := false } := by unfold PySem.W.clsIn; rw [hC] <;> rfl
  obtain ⟨t1, ho⟩ := exo_at I.hok ha
  have hu0 : ∃ us', us = Value.ref a :: us' := by
    cases r with
    | cons ra rw' => cases ra; exact ⟨_, rfl⟩
  obtain ⟨us', rfl⟩ := hu0
  have fin : ∀ {σ' : L2.St} {H' : Hp} {v : V} {u : Value} {s' : Shared}, Inv (cxS CX P w K mg base (("self" : Str) :: ps0) qual scope f (.ref cda) cc A outer s H E).nox [] σ' H' s' → L2.RelV v u → Q v H' → CE outer P w H s Q u s' :=
    fun {σ' H' v u s'} J rv q => ⟨v, H', J.os, J.bare, J.base, J.hok, rv, q⟩
  generalize htk : s.toks + ((("self" : Str) :: ps0).zip (Value.ref a :: us')).length = tk0 at In I
  have hH : h₀.get? a = some ({ cls := .ref C, dict := none, data := .fields #[.ref t1, .none, .none, .none, .bool false, .none] } : Obj) := ho
  refine PySem.ks_wpAt_execs_cons (PySem.ks_wpAt_Expr_any (PySem.ks_wpAt_MethodCall (pl := pl) ?_ (hev _)) (hi := I.quiet))
  refine PySem.ks_wpAt_super_base S.sup S.cls rfl rfl (hk _ _ (KX _ _ lk)) rfl hpar rfl (hk _ _ (KX _ _ hcode)) rfl hvs hfile IC.htop ?_
  obtain ⟨mb, hb1, hb2⟩ := I.mod.blt
  refine PySem.W.ks_loadName_global S.kind S.sup (Calls.loadGlobal_builtin (I.mod.glob.keeps I.bk) IC.msup (hb1.keeps I.bk) ((hb2 "super" (by decide)).trans (by decide +kernel)) ⟨rfl, ?_⟩)
  refine wpAny_loadName_free S.kind S.cls rfl ⟨_, hk _ _ (KX _ _ hcell), rfl⟩ ?_
  rw [har]
  refine wpAny_loadName_local S.kind (S.par _ (List.mem_cons_self ..)) hns (lookup_rz S.nd (i := 0) rfl rfl) ?_
  obtain ⟨oD, hD1, hD2⟩ : ∃ oD, h₀.get? C = some oD ∧ oD.data = .cls { name := nm, bases := bs, mro := .ref C :: bm, ns := Nn, qualname := q, hasDict := true, slotNames := sn, subclasses := sub, abstract := ab, collection := col, hasDel := false } := by
    exact ⟨_, hk _ _ (KX _ _ hC), rfl⟩
  refine ks_wpAny_isType_cls hD1 hD2 ⟨rfl, ?_⟩
  refine ks_wpAny_call_super hD1 hD2 hH rfl (fun c z => nomatch z) (PySem.W.looks_mroIn I.kIn IC.mro) (fun h1 e1 k1' => ?_)
  have I1 := In.kept (t' := tk0) (h' := h1) k1'
  have X1 : K.In h1 := I1.kIn
  have hI : PySem.W.Looks (model P w) h1 (isInstance (.ref a) (.type "ValueError")) true :=
    PySem.W.Looks.andThen (PySem.W.InstAt.type (C := C) (od := none) ⟨k1' _ _ hH, rfl, rfl, trivial⟩) (PySem.W.looks_subIn X1 IC.hB)
  have hmm := IC.sup
  unfold PySem.W.ks_superIn at hmm
  rw [hcl] at hmm
  refine PySem.W.kxs_getMethod PySem.W.kxs_ValueError e1 (PySem.W.looks_opaque X1 IC.opq) (l₀ := .ref C :: bm) (fun A Q E s k q => wpAny_bind ((PySem.W.looks_clsIn X1 hcl) A _ E s k (wpAny_pure q))) rfl X1 hmm hI ?_ (by decide) ?_
  · intro z
    rw [z] at hH
    rw [hH] at hD1
    cases hD1
    cases hD2
  · have hu : (h1.push (PySem.W.kxs_mw "ValueError.__init__" a)).get? h1.objs.size = some (PySem.W.kxs_mw "ValueError.__init__" a) := Heap.get?_push_size _ rfl
    have I2 := I1.kept (t' := tk0 + 1) (h' := h1.push (PySem.W.kxs_mw "ValueError.__init__" a)) fun b o e => Heap.get?_push_of_some _ e
    have I3 := I2.pins_of (pins' := [(h1.objs.size, PySem.W.kxs_mw "ValueError.__init__" a)]) fun p hp => by
      have ep : p = (h1.objs.size, PySem.W.kxs_mw "ValueError.__init__" a) := by simpa using hp
      subst ep
      exact ⟨hu, I1.hok.fresh (Nat.le_refl _), Nat.ne_of_gt I1.lt, I1.nofs (Nat.le_refl _), fun v z => nomatch z⟩
    have hrun := hte.run pos _ _ _ H _ I3 hq
    show wpAny _ _ (callWith pos (.ref h1.objs.size) [] (backTo pos (starEach [e] (callEnv _ s.heap.objs.size f))) []) _ _ _
    rw [show starEach [e] (cxS CX P w K mg base (("self" : Str) :: ps0) qual scope f (.ref cda) cc A outer s H E).nox.env = _ from hse _] at hrun
    rw [hse]
    refine PySem.W.kxs_callWith (i := "ValueError.__init__") (x := a) rfl ?_
    refine PySem.Calls.evalArgs_plain ?_
    refine wpAny_mono hrun (fun us1 s1 hu1 => ?_) fun _ _ z => False.elim z
    obtain ⟨vs1, H1, I4, rv, hlen, ha1, hq1⟩ := hu1
    have hpin := (I4.pin (h1.objs.size, PySem.W.kxs_mw "ValueError.__init__" a) (by simp)).1
    refine ⟨hpin, ?_⟩
    obtain ⟨t4, ho4⟩ := exo_at I4.hok ha1
    obtain ⟨hp4, g4, d4, tk4, os4⟩ := s1
    have hlen' : us1.length ≤ sizeLine := by
      rw [← Paired.length rv, sizeLine_eq]
      omega
    refine call_bwV (I4.kIn _ _ hC) ho4 hpin hlen' fun h5 t5 k5' hx5 => ?_
    have J := I4.write (t' := tk4) (x := a) (e := a) (o := exo a C none) (by rw [ha1]; exact True.intro) (.inl rfl) k5' ⟨_, hx5⟩ (exo_ok hx5)
    have eu : upd H1 a (exo a C none) = H1 := by
      funext b
      by_cases hb : b = a
      · rw [hb, upd_same, ha1]
      · rw [upd_ne hb]
    rw [eu] at J
    refine wpAt_of_wpAny (wpAny_mono (ht.run _ _ _ _ _ J hq1) (fun fl s' hs => ?_) fun _ _ z => False.elim z)
    cases fl with
    | ret u =>
      obtain ⟨v, σ', H', J, rv, q⟩ := hs
      exact fin (Inv.unpinned0 J) rv q
    | next =>
      obtain ⟨σ', H', J, q⟩ := hs
      exact fin (v := V.non) (u := Value.none) (Inv.unpinned0 J) rfl q
    | brk =>
      obtain ⟨_, _, _, q⟩ := hs
      exact False.elim q
    | cont =>
      obtain ⟨_, _, _, q⟩ := hs
      exact False.elim q
end SB
set_option Elab.async false
set_option linter.all false
set_option maxRecDepth 100000
set_option maxHeartbeats 1000000
namespace SB
open PySem PySem.Spec PyProof.Rows L2 Evl
/-! ### errors -/
structure Err where
  name : Str
  fs : List (Str × V)
def ErrAt (mg : Str → Option Value) (er : Err) (cls : Value) (dd : Option Addr) (H : Hp) : Prop :=
  ∃ C : Addr, mg er.name = some (.ref C) ∧ cls = .ref C ∧ match er.fs with | [] => dd = none | f :: fs => ∃ d, dd = some d ∧ H d = some (.xd (f :: fs))
/-- the promise of a def that may raise: data to data or an error; what stood stands -/
def spX (K : PySem.W.Frag) (mg : Str → Option Value) (n : Nat) (P : List PyData → Except Err PyData → Prop) : Sp := fun vs H Q E => vs.length = n ∧ ∃ ds o, DpAll K H vs ds ∧ P ds o ∧
  (∀ d, o = .ok d → ∀ v H2, Ex H H2 → Dp K H2 v d → Q v H2) ∧ ∀ er, o = .error er → ∀ cls dd H2, Ex H H2 → ErrAt mg er cls dd H2 → E cls dd H2
theorem spX_len {K : PySem.W.Frag} {mg : Str → Option Value} {n : Nat} {P : List PyData → Except Err PyData → Prop} {ps : List Str} (hn : n = ps.length := by rfl) : ∀ vs H Q E, spX K mg n P vs H Q E → vs.length = ps.length := fun vs H Q E h => h.1.trans hn
section
variable {P : Program} {w : World} {K : PySem.W.Frag} {mg : Str → Option Value} {base : Heap}
/-- a def that may raise, under its name -/
structure CalX (P : Program) (w : World) (K : PySem.W.Frag) (mg : Str → Option Value) (base : Heap) (k : Nat) (x : Str) (sp : Sp) (dvs : List V) : Prop where
  ex : ∃ (f : Addr) (fd : FuncData) (ps : List Str) (ds : List Value), FnOk P w K mg base (L2.CX P w) k f fd ps sp ∧ mg x = some (.ref f) ∧ PySem.W.keepIn K (.ref f) = true ∧ L2.Binds K fd ps ds ∧ Vals dvs ds
theorem calX0 {x : Str} {st : Stmt} {f : Addr} {fd : FuncData} {N ps : List Str} {ds : List Value} {dvs : List V} {k : Nat} {sp : Sp} (F : C8.Def K mg x st f fd) (b : L2.Binds K fd ps ds) (d : Vals dvs ds) (S : FnScope N ps (C8.fnScope st)) (len : ∀ vs H Q E, sp vs H Q E → vs.length = ps.length)
    (hbody : ∀ (cdv : Value) (A : Around) (outer : List Env) (s : Shared) (H : Hp) (vs : List V) (Q : VK) (E : XK), Room k (A.deeper (envOfC x (C8.fnScope st) s.heap.objs.size f cdv)) → sp vs H Q E →
      ∃ t, PSs (cxOf (L2.CX P w) P w K mg base N x (C8.fnScope st) f cdv A outer s H E) (C8.fnBody st) t ∧ t { nx := fun _ H' => Q .non H', rt := Q } (L2.start N vs) H) : CalX P w K mg base (k + 1) x sp dvs := by
  obtain ⟨oc, od, dV, kV, doc, pm, an, cdv, ct, osl, rfl, lk, hcd⟩ := F.fn.ex
  exact ⟨f, _, ps, ds, fn_of lk hcd S len fun A outer s H vs Q E hr hsp => hbody cdv A outer s H vs Q E hr hsp, F.mgf, F.kp, b, d⟩
/-- an own error class that may be made by its name; sp: its __init__ -/
structure MakX (P : Program) (w : World) (K : PySem.W.Frag) (mg : Str → Option Value) (base : Heap) (k : Nat) (x : Str) (C : Addr) (sp : Sp) : Prop where
  ex : ∃ (f : Addr) (fd : FuncData) (ps : List Str), OexC K C ∧ PySem.W.findIn K (.ref C) "__init__" = some (some (.ref f)) ∧ PySem.W.typeIn K (.ref f) = some (.type "function") ∧ FnOk P w K mg base C8.CX0 k f fd ps sp ∧ mg x = some (.ref C) ∧ L2.Binds K fd ps []
end
section
variable {X : Cx} {k j : Nat} {C : Addr} {x : Str} {sp : Sp} {dvs : List V} {p pos : Pos} {e : Expr} {es : List Expr} {ta : TA} {t : TA} {E : XK}
theorem pe_cX (c : CalX X.prog X.w X.K X.mg X.base k x sp dvs) (hr : Room j X.A) (hk : k ≤ j) (tk : Takes X (fun cls d _ H => E cls d H)) (hg : Gl X x) (ha : PA X (e :: es) t)
    (hdb : (x == ("__debug__" : Str)) = false := by decide) (he : starEach (e :: es) X.env = (false, eval e X.env) :: starEach es X.env := by rfl) (hpl : (backTo pos (starEach es X.env)).any (·.1) = false := by rfl) :
    PE X (.Call (.Name x p) (e :: es) [] pos) (tCall sp dvs E t) := by
  obtain ⟨f, fd, ps, ds, F, hm, kp, b, d⟩ := c.ex
  exact pe_call F (hr.mono hk) hg hm kp b d (passes_call tk fun _ _ _ _ h => h) ha hdb he hpl
theorem pmk_x (c : MakX X.prog X.w X.K X.mg X.base k x C sp) (hr : Room j X.A) (hk : k + 1 ≤ j) (hg : Gl X x) (ha : PA X (e :: es) ta)
    (hdb : (x == ("__debug__" : Str)) = false := by decide) (he : starEach (e :: es) X.env = (false, eval e X.env) :: starEach es X.env := by rfl) (hpl : (backTo pos (starEach es X.env)).any (·.1) = false := by rfl) :
    PMk X (.Call (.Name x p) (e :: es) [] pos) (tMkO C sp [] ta) := by
  obtain ⟨f, fd, ps, T, iC, tI, F, hm, b⟩ := c.ex
  exact pmk_oex T iC tI F (hr.mono hk) b .nil C8.pass0 hg hm ha hdb he hpl
end
/-! ### the __init__ of an error with two numbers -/
def spI2 (C : Addr) (n1 n2 : Str) : Sp := fun vs H Q _ => ∃ (a : Addr) (r v : Int), vs = [.ref a, .int r, .int v] ∧ H a = some (exo a C none) ∧ r.natAbs.log2 < 100 ∧ v.natAbs.log2 < 100 ∧
  ∀ dx, H dx = none → dx ≠ a → Q .non (upd (upd (upd H dx (exd dx [(n1, .int r)])) a (exo a C (some dx))) dx (exd dx [(n2, .int v), (n1, .int r)]))
section
variable {K : PySem.W.Frag} {mg : Str → Option Value} {σ : L2.St} {H H' : Hp} {ta : TA} {te : TE} {C : Addr} {n1 n2 : Str} {D : Ends} {W : Value → Option Addr → L2.St → Hp → Prop}
/-- raise C(r, v) -/
theorem w_raise2 {r v : Int} {x : Str} (hm : mg x = some (.ref C)) (h : Ea K ta σ H [.int r, .int v]) (h1 : r.natAbs.log2 < 100) (h2 : v.natAbs.log2 < 100)
    {Q : XK} (k : ∀ cls dd H2, Ex H H2 → ErrAt mg ⟨x, [(n2, .int v), (n1, .int r)]⟩ cls dd H2 → Q cls dd H2) : tMkO C (spI2 C n1 n2) [] ta σ H Q :=
  h H (Ex.refl H) _ fun vs H1 e1 dvs => by
    obtain ⟨x1, x2, rfl, d1, d2⟩ := dp2 dvs
    cases dp_int d1
    cases dp_int d2
    refine ⟨by simp, fun a ha => ⟨a, r, v, rfl, upd_same, h1, h2, fun dx hdx hne => ⟨rfl, dx, _, ?_, upd_same, ?_, ?_⟩⟩⟩
    · rw [upd_ne hne.symm, upd_same]
    · rw [upd_ne hne] at hdx
      exact hdx
    · have hd1 : H1 dx = none := by
        rw [upd_ne hne] at hdx
        exact hdx
      refine k _ _ _ (e1.trans fun b o hb => ?_) ⟨C, hm, rfl, dx, rfl, upd_same⟩
      rw [upd_ne (ne_of_none hb hd1), del_ne (ne_of_none hb ha), upd_ne (ne_of_none hb hd1), upd_ne (ne_of_none hb ha), upd_ne (ne_of_none hb hd1), upd_ne (ne_of_none hb ha)]
      exact hb
/-- a call of a def that may raise -/
theorem w_callX {ds : List PyData} {n : Nat} {P : List PyData → Except Err PyData → Prop} {o : Except Err PyData} {E : XK} {Q : VK} (h : Ea K ta σ H ds) (hp : P ds o) (hn : ds.length = n)
    (k1 : ∀ d, o = .ok d → ∀ v H1, Ex H H1 → Dp K H1 v d → Q v H1) (k2 : ∀ er, o = .error er → ∀ cls dd H1, Ex H H1 → ErrAt mg er cls dd H1 → E cls dd H1) : tCall (spX K mg n P) [] E ta σ H Q :=
  h H (Ex.refl H) _ fun vs H1 e1 dvs => by
    rw [List.append_nil]
    exact ⟨(dpall_len dvs).trans hn, ds, o, dvs, hp, fun d hd v H2 e2 dv => k1 d hd v H2 (e1.trans e2) dv, fun er he cls dd H2 e2 hE => k2 er he cls dd H2 (e1.trans e2) hE⟩
/-- a call of such a def where it does not raise -/
theorem ed_callX {ds : List PyData} {n : Nat} {P : List PyData → Except Err PyData → Prop} {d : PyData} {E : XK} (h : Ea K ta σ H ds) (hp : P ds (.ok d)) (hn : ds.length = n := by rfl) : Ed K (tCall (spX K mg n P) [] E ta) σ H d := fun H1 e Q q =>
  w_callX (h.mono e) hp hn (fun d' hd v H2 e2 dv => by cases hd; exact q v H2 e2 dv) fun er he => by cases he
end
end SB
namespace SB
open PySem PySem.Spec PyProof.Rows L2 Evl
theorem lg {i : Int} (h : -100000 ≤ i ∧ i ≤ 100000) : i.natAbs.log2 < 100 := by
  by_cases z : i.natAbs = 0
  · rw [z]; decide
  · exact (Nat.log2_lt z).mpr (Nat.lt_of_le_of_lt (show i.natAbs ≤ 100000 by omega) (by decide))
section
variable {K : PySem.W.Frag} {σ : L2.St} {H : Hp} {x : V}
theorem g_pair {i j : Nat} {d1 d2 : PyData} {Q : L2.St → Hp → Prop} (h : Dp K H x (.tuple [d1, d2])) (k : ∀ v1 v2, Dp K H v1 d1 → Dp K H v2 d2 → Q ((σ.set i (some v1)).set j (some v2)) H) : gTup K 2 (gCons (gName i) (gCons (gName j) gNil)) x σ H Q := by
  cases h with
  | tup hs ha =>
    obtain ⟨v1, v2, rfl, h1, h2⟩ := dp2 ha
    exact ⟨_, _, rfl, hs, rfl, v1, [v2], rfl, v2, [], rfl, rfl, k v1 v2 h1 h2⟩
theorem enumD_get {ds : List PyData} {i : Nat} {d : PyData} (h : (enumD ds)[i]? = some d) : ∃ e, ds[i]? = some e ∧ d = .tuple [.int (i : Nat), e] := by
  simp only [enumD, List.getElem?_mapIdx] at h
  cases hz : ds[i]? with
  | none => rw [hz] at h; cases h
  | some e => rw [hz] at h; exact ⟨e, rfl, (Option.some.inj h).symm⟩
theorem map_get {α : Type} {f : α → PyData} {xs : List α} {i : Nat} {d : PyData} (h : (xs.map f)[i]? = some d) : ∃ a, xs[i]? = some a ∧ d = f a := by
  rw [List.getElem?_map] at h
  cases hz : xs[i]? with
  | none => rw [hz] at h; cases h
  | some a => rw [hz] at h; exact ⟨a, rfl, (Option.some.inj h).symm⟩
theorem rangeD_get {lo : Int} {n i : Nat} {d : PyData} (h : (rangeD lo n)[i]? = some d) : i < n ∧ d = .int (lo + (i : Nat)) := by
  obtain ⟨a, ha, rfl⟩ := map_get h
  obtain ⟨h1, h2⟩ := List.getElem?_eq_some_iff.mp ha
  simp at h1 h2
  subst h2
  exact ⟨h1, rfl⟩
theorem MakX.hm {P : Program} {w : World} {mg : Str → Option Value} {base : Heap} {k : Nat} {x : Str} {C : Addr} {sp : Sp} (m : MakX P w K mg base k x C sp) : mg x = some (.ref C) := by
  obtain ⟨_, _, _, _, _, _, _, h, _⟩ := m.ex
  exact h
end
end SB
set_option Elab.async false
set_option linter.all false
set_option maxRecDepth 100000
set_option maxHeartbeats 1000000
namespace SB
open PySem PySem.Spec PyProof.Rows L2 Evl
/-! ### lists of one's own -/
/-- at a: a list of data -/
def Li (K : PySem.W.Frag) (H : Hp) (a : Addr) (ds : List PyData) : Prop := ∃ vs, H a = some (.lst vs) ∧ DpAll K H vs ds
/-- what is not in A stays; what never changes stays -/
def Bx (A : Addr → Prop) (H H' : Hp) : Prop := Tx H H' ∧ ∀ b o, ¬ A b → H b = some o → H' b = some o
section
variable {K : PySem.W.Frag} {σ : L2.St} {H H' H'' : Hp} {ta tb tc te tx to ti : TE} {t u : TT} {d : PyData} {ds es : List PyData} {D : Ends} {tu tw tz : TS} {g : TG} {a b : Addr} {A : Addr → Prop}
theorem Bx.refl : Bx A H H := ⟨Tx.refl H, fun _ _ _ h => h⟩
theorem Bx.trans (x : Bx A H H') (y : Bx A H' H'') : Bx A H H'' := ⟨x.1.trans y.1, fun b o n h => y.2 b o n (x.2 b o n h)⟩
theorem Bx.of (e : Ex H H') : Bx A H H' := ⟨Tx.of e, fun b o _ h => e b o h⟩
theorem Bx.mono {B : Addr → Prop} (h : ∀ b, A b → B b) (x : Bx A H H') : Bx B H H' := ⟨x.1, fun b o n => x.2 b o fun z => n (h b z)⟩
theorem Bx.lst {xs : List V} {o : HO} (e : H a = some (.lst xs)) (ha : A a) : Bx A H (upd H a o) := ⟨(Tx.refl H).lst e, fun b o' n h => by rw [upd_ne (fun z => n (by rw [z]; exact ha))]; exact h⟩
theorem Bx.ex (x : Bx A H H') (h : ∀ b, A b → H b = none) : Ex H H' := fun b o e => x.2 b o (fun z => by rw [h b z] at e; cases e) e
theorem Li.ex (e : Ex H H') (h : Li K H a ds) : Li K H' a ds := let ⟨vs, h1, h2⟩ := h; ⟨vs, e _ _ h1, dps_ex e h2⟩
theorem Li.bx (e : Bx A H H') (hn : ¬ A a) (hi : imms ds = true) (h : Li K H a ds) : Li K H' a ds := let ⟨vs, h1, h2⟩ := h; ⟨vs, e.2 _ _ hn h1, dps_tx e.1 hi h2⟩
theorem Li.dp (h : Li K H a ds) : Dp K H (.ref a) (.list ds) := let ⟨_, h1, h2⟩ := h; .lst (sq_of h1) h2
theorem Li.known (h : Li K H a ds) : ∃ o, H a = some o := let ⟨_, h1, _⟩ := h; ⟨_, h1⟩
theorem Li.ne (h : Li K H a ds) (hb : H b = none) : a ≠ b := let ⟨_, h1, _⟩ := h; ne_of_none h1 hb
/-- te gives a new list -/
def El (K : PySem.W.Frag) (te : TE) (σ : L2.St) (H : Hp) (ds : List PyData) : Prop := ∀ H1, Ex H H1 → ∀ Q : VK, (∀ p H2, H1 p = none → Ex H1 H2 → Li K H2 p ds → Q (.ref p) H2) → te σ H1 Q
theorem El.ed (h : El K te σ H ds) : Ed K te σ H (.list ds) := fun H1 e Q q => h H1 e Q fun p H2 _ e2 l => q _ H2 e2 l.dp
theorem El.use (h : El K te σ H ds) {Q : VK} (q : ∀ p H2, H p = none → Ex H H2 → Li K H2 p ds → Q (.ref p) H2) : te σ H Q := h H (Ex.refl H) Q q
theorem El.is (h : El K te σ H ds) (e : ds = es) : El K te σ H es := e ▸ h
theorem El.mono (e : Ex H H') (h : El K te σ H ds) : El K te σ H' ds := fun H1 a Q q => h H1 (e.trans a) Q q
theorem el_lst {ta : TA} (h : Ea K ta σ H ds) (hl : ds.length ≤ 100000) : El K (tLst ta) σ H ds := fun H1 e Q q =>
  h H1 e _ fun vs H2 e2 dvs => ⟨sz_of (by rw [dpall_len dvs]; exact hl), fun p hp => q p _ (fresh_back e2 hp) (e2.trans (Ex.new hp)) ⟨vs, upd_same, dps_ex (Ex.new hp) dvs⟩⟩
theorem dpall_rep {vs : List V} (h : DpAll K H vs ds) : ∀ n, DpAll K H (List.replicate n vs).flatten (List.replicate n ds).flatten
  | 0 => .nil
  | n + 1 => by
    rw [List.replicate_succ, List.replicate_succ, List.flatten_cons, List.flatten_cons]
    exact dpall_app h (dpall_rep h n)
/-- [..] * n -/
theorem el_rep {n : Int} (h : El K ta σ H ds) (hn : Ed K tb σ H (.int n)) (hb : -100000 ≤ n ∧ n ≤ 100000) (hz : ds.length * n.toNat ≤ 100000) : El K (tOp (rTimes K) ta tb) σ H (List.replicate n.toNat ds).flatten := fun H1 e Q q =>
  h H1 e _ fun p H2 hp e2 l => hn H2 (e.trans e2) _ fun v H3 e3 dv => by
    cases dp_int dv
    obtain ⟨vs, h1, h2⟩ := l
    refine .inr (.inl ⟨p, n, vs, rfl, rfl, e3 _ _ h1, by omega, by omega, sz_of (by rw [dpall_len h2]; exact hz), fun l hl => ?_⟩)
    refine q l _ (fresh_back (e2.trans e3) hl) ((e2.trans e3).trans (Ex.new hl)) ⟨_, upd_same, dpall_rep (dps_ex (e3.trans (Ex.new hl)) h2) _⟩
/-- list(x) of a list or a tuple -/
theorem el_listT (h : Ed K ta σ H (.tuple ds)) : El K (tCB (fun xs H Q => ∃ p ys, xs = [.ref p] ∧ (SqL K H p ys ∨ SqT K H p ys) ∧ ∀ l, H l = none → Q (.ref l) (upd H l (.lst ys))) (tCons ta tNil)) σ H ds := fun H1 e Q q =>
  h H1 e _ fun v H2 e2 dv => by
    cases dv with
    | tup hs ha => exact ⟨_, _, rfl, .inr hs, fun l hl => q l _ (fresh_back e2 hl) (e2.trans (Ex.new hl)) ⟨_, upd_same, dps_ex (Ex.new hl) ha⟩⟩
theorem el_listL (h : Ed K ta σ H (.list ds)) : El K (tCB (fun xs H Q => ∃ p ys, xs = [.ref p] ∧ (SqL K H p ys ∨ SqT K H p ys) ∧ ∀ l, H l = none → Q (.ref l) (upd H l (.lst ys))) (tCons ta tNil)) σ H ds := fun H1 e Q q =>
  h H1 e _ fun v H2 e2 dv => by
    cases dv with
    | lst hs ha => exact ⟨_, _, rfl, .inl hs, fun l hl => q l _ (fresh_back e2 hl) (e2.trans (Ex.new hl)) ⟨_, upd_same, dps_ex (Ex.new hl) ha⟩⟩
/-- tuple(x) -/
theorem ed_tupleL (h : Ed K ta σ H (.list ds)) : Ed K (tCB (fun xs H Q => ∃ p ys, xs = [.ref p] ∧ ((SqL K H p ys ∧ ∀ l, H l = none → Q (.ref l) (upd H l (.tup ys))) ∨ (SqT K H p ys ∧ Q (.ref p) H))) (tCons ta tNil)) σ H (.tuple ds) := fun H1 e Q q =>
  h H1 e _ fun v H2 e2 dv => by
    cases dv with
    | lst hs ha => exact ⟨_, _, rfl, .inl ⟨hs, fun l hl => q _ _ (e2.trans (Ex.new hl)) (.tup (st_of upd_same) (dps_ex (Ex.new hl) ha))⟩⟩
theorem ed_tupleT (h : Ed K ta σ H (.tuple ds)) : Ed K (tCB (fun xs H Q => ∃ p ys, xs = [.ref p] ∧ ((SqL K H p ys ∧ ∀ l, H l = none → Q (.ref l) (upd H l (.tup ys))) ∨ (SqT K H p ys ∧ Q (.ref p) H))) (tCons ta tNil)) σ H (.tuple ds) := fun H1 e Q q =>
  h H1 e _ fun v H2 e2 dv => by
    cases dv with
    | tup hs ha => exact ⟨_, _, rfl, .inr ⟨hs, q _ _ e2 (.tup hs ha)⟩⟩
/-- comprehensions give new lists -/
theorem el_lc {wi : TI} {vs : List Nat} {j : Nat} (hw : Ew K wi σ H ds Ex) (p : PyData → Bool) (f : PyData → PyData)
    (ht : ∀ d ∈ ds, ∀ x H1, Ex H H1 → Dp K H1 x d → Et t ((wipe σ vs).set j (some x)) H1 (p d))
    (he : ∀ d ∈ ds, p d = true → ∀ x H1, Ex H H1 → Dp K H1 x d → Ed K te ((wipe σ vs).set j (some x)) H1 (f d)) (hi : ∀ d ∈ ds, p d = true → imm (f d) = true)
    (hz : ds.length ≤ 40000) (hwp : ∀ x, wipe ((wipe σ vs).set j (some x)) vs = wipe σ vs := by intro _; rfl) :
    El K (tLc wi (gName j) t te vs) σ H ((ds.filter p).map f) := fun H1 e Q q =>
  hw H1 e _ fun J H2 G e2 w hG Dl hDl =>
    lc_it w (fun i H' => Ex H2 H' ∧ ∃ us, H' Dl = some (.lst us) ∧ us.length ≤ i ∧ DpAll K H' us (((ds.take i).filter p).map f))
      ⟨Ex.new hDl, [], upd_same, Nat.le_refl _, .nil⟩ (fun i H' _ pv => hG H' pv.1)
      (fun i x H' H'' hin pv y => by
        obtain ⟨eH, us, hus, hlen, dus⟩ := pv
        obtain ⟨e', d, hd, dx⟩ := y
        have hm : d ∈ ds := List.mem_of_getElem? hd
        have htk : ds.take (i + 1) = ds.take i ++ [d] := by rw [List.take_add_one, hd]; rfl
        have ee : Ex H H'' := ((e.trans e2).trans eH).trans e'
        refine ⟨hwp x, ?_⟩
        refine ht d hm x H'' ee dx H'' (Ex.refl _) _ fun H3 e3 => ?_
        cases hp : p d with
        | true =>
          rw [if_pos rfl]
          have h1 := he d hm hp x H'' ee dx
          have h2 := hi d hm hp
          refine h1 H3 e3 _ fun v H4 e4 dv => ⟨us, e4 _ _ (e3 _ _ (e' _ _ hus)), sz_lt (by omega), ?_, us ++ [v], upd_same, by simp; omega, ?_⟩
          · exact ((eH.trans e').trans (e3.trans e4)).mut hDl
          · rw [htk, List.filter_append, List.map_append]
            have hD4 : H4 Dl = some (.lst us) := e4 _ _ (e3 _ _ (e' _ _ hus))
            have tx : Tx H4 (upd H4 Dl (.lst (us ++ [v]))) := (Tx.refl H4).lst hD4
            have him : imms (((ds.take i).filter p).map f) = true := imms_mem.mpr fun z hz => by
              obtain ⟨y, hy, rfl⟩ := List.mem_map.mp hz
              obtain ⟨hy1, hy2⟩ := List.mem_filter.mp hy
              exact hi y (List.mem_of_mem_take hy1) hy2
            refine dpall_app (dps_tx tx him (dps_ex ((e'.trans e3).trans e4) dus)) ?_
            simp only [List.filter_cons, hp, if_true, List.filter_nil, List.map_cons, List.map_nil]
            exact .cons (dp_tx tx h2 dv) .nil
        | false =>
          rw [if_neg Bool.false_ne_true]
          refine ⟨eH.trans (e'.trans e3), us, e3 _ _ (e' _ _ hus), by omega, ?_⟩
          rw [htk, List.filter_append]
          simp only [List.filter_cons, hp, Bool.false_eq_true, if_false, List.filter_nil, List.append_nil]
          exact dps_ex (e'.trans e3) dus)
      (fun H' pv => by
        obtain ⟨eH, us, hus, hlen, dus⟩ := pv
        rw [List.take_of_length_le (Nat.le_refl _)] at dus
        exact q Dl H' (fresh_back e2 hDl) (e2.trans eH) ⟨us, hus, dus⟩)
/-- a comprehension over range(n), its parts told by the number -/
theorem el_lcN {wi : TI} {vs : List Nat} {j : Nat} {lo : Int} {n : Nat} (hw : Ew K wi σ H (rangeD lo n) Ex) (p : Int → Bool) (f : Int → PyData)
    (ht : ∀ i : Nat, i < n → ∀ H1, Ex H H1 → Et t ((wipe σ vs).set j (some (.int (lo + (i : Nat))))) H1 (p (lo + (i : Nat))))
    (he : ∀ i : Nat, i < n → p (lo + (i : Nat)) = true → ∀ H1, Ex H H1 → Ed K te ((wipe σ vs).set j (some (.int (lo + (i : Nat))))) H1 (f (lo + (i : Nat)))) (hi : ∀ i : Nat, i < n → imm (f (lo + (i : Nat))) = true)
    (hz : n ≤ 40000) (hwp : ∀ x, wipe ((wipe σ vs).set j (some x)) vs = wipe σ vs := by intro _; rfl) :
    El K (tLc wi (gName j) t te vs) σ H ((((List.range n).map fun i : Nat => lo + (i : Nat)).filter p).map f) := by
  let p' : PyData → Bool := fun d => match d with | .int i => p i | _ => false
  let f' : PyData → PyData := fun d => match d with | .int i => f i | _ => .none
  have hm : ∀ d ∈ rangeD lo n, ∃ i : Nat, i < n ∧ d = .int (lo + (i : Nat)) := fun d hd => by
    obtain ⟨i, hi, rfl⟩ := List.mem_map.mp hd
    exact ⟨i, List.mem_range.mp hi, rfl⟩
  refine (el_lc hw p' f' (fun d hd x H1 e dx => ?_) (fun d hd hp x H1 e dx => ?_) (fun d hd hp => ?_) (by simpa [rangeD] using hz) hwp).is ?_
  · obtain ⟨i, hi, rfl⟩ := hm d hd
    cases dp_int dx
    exact ht i hi H1 e
  · obtain ⟨i, hi, rfl⟩ := hm d hd
    cases dp_int dx
    exact he i hi hp H1 e
  · obtain ⟨i, hi', rfl⟩ := hm d hd
    exact hi i hi'
  · show ((rangeD lo n).filter p').map f' = _
    have : rangeD lo n = ((List.range n).map fun i : Nat => lo + (i : Nat)).map PyData.int := by rw [List.map_map]; rfl
    rw [this, List.filter_map, List.map_map]
    rfl
/-! ### statements over lists of one's own -/
theorem q_asgL {i : Nat} (h : El K te σ H ds) (k : ∀ p H1, H p = none → Ex H H1 → Li K H1 p ds → tz D (σ.set i (some (.ref p))) H1) : tSeq (tAsg te (gName i)) tz D σ H := h.use k
theorem w_asgL {i : Nat} (h : El K te σ H ds) (k : ∀ p H1, H p = none → Ex H H1 → Li K H1 p ds → D.nx (σ.set i (some (.ref p))) H1) : tAsg te (gName i) D σ H := h.use k
theorem w_retL (h : El K te σ H ds) (k : ∀ p H1, H p = none → Ex H H1 → Li K H1 p ds → D.rt (.ref p) H1) : tRet te D σ H := h.use k
theorem Li.get {j : Nat} (h : Li K H a ds) (hd : ds[j]? = some d) : ∃ v, Dp K H v d := let ⟨_, _, h2⟩ := h; let ⟨v, _, hv⟩ := dpall_get h2 hd; ⟨v, hv⟩
/-- xs[i] = e -/
theorem w_setL {j : Nat} {m : Nat} (hl : Li K H a ds) (him : imms ds = true) (hs : σ[m]? = some (some (.ref a))) (h : Ed K te σ H d) (hd : imm d = true) (hi : Ed K ti σ H (.int (j : Int))) (hj : j < ds.length)
    (k : ∀ H1, Ex H H1 → ∀ H2, Bx (· = a) H1 H2 → Li K H2 a (ds.set j d) → D.nx σ H2) : tAsg te (gSub (tVar m) ti rSetL) D σ H :=
  h.use fun v H1 e1 dv => ⟨_, hs, hi H1 e1 _ fun x H2 e2 dx => by
    cases dp_int dx
    obtain ⟨vs, h1, h2⟩ := hl
    have h3 := e2 _ _ (e1 _ _ h1)
    refine ⟨a, vs, j, j, rfl, rfl, h3, ixN_nat (by rw [dpall_len h2]; exact hj), k H2 (e1.trans e2) _ (Bx.lst h3 rfl) ⟨_, upd_same, ?_⟩⟩
    have tx : Tx H2 (upd H2 a (.lst (vs.set j v))) := (Tx.refl H2).lst h3
    exact dpall_set (dp_tx tx hd (dp_ex e2 dv)) j (dps_tx tx him (dps_ex (e1.trans e2) h2))⟩
theorem q_setL {j : Nat} {m : Nat} (hl : Li K H a ds) (him : imms ds = true) (hs : σ[m]? = some (some (.ref a))) (h : Ed K te σ H d) (hd : imm d = true) (hi : Ed K ti σ H (.int (j : Int))) (hj : j < ds.length)
    (k : ∀ H1, Ex H H1 → ∀ H2, Bx (· = a) H1 H2 → Li K H2 a (ds.set j d) → tz D σ H2) : tSeq (tAsg te (gSub (tVar m) ti rSetL)) tz D σ H := w_setL (D := { D with nx := tz D }) hl him hs h hd hi hj k
/-- xs.append(e) -/
theorem w_app {m : Nat} (hl : Li K H a ds) (him : imms ds = true) (hs : σ[m]? = some (some (.ref a))) (h : Ed K te σ H d) (hd : imm d = true) (hz : ds.length < 100000)
    (k : ∀ H1, Ex H H1 → ∀ H2, Bx (· = a) H1 H2 → Li K H2 a (ds ++ [d]) → D.nx σ H2) : tDrop (tBM K "list" rAppend (tVar m) (tCons te tNil)) D σ H := by
  obtain ⟨vs, h1, h2⟩ := hl
  refine ⟨_, hs, .inl ⟨rfl, vs, sq_of h1⟩, h.use fun v H1 e1 dv => ?_⟩
  have h3 := e1 _ _ h1
  refine ⟨a, vs, v, rfl, rfl, h3, sz_lt (by rw [dpall_len h2]; exact hz), k H1 e1 _ (Bx.lst h3 rfl) ⟨_, upd_same, ?_⟩⟩
  have tx : Tx H1 (upd H1 a (.lst (vs ++ [v]))) := (Tx.refl H1).lst h3
  exact dpall_app (dps_tx tx him (dps_ex e1 h2)) (.cons (dp_tx tx hd dv) .nil)
theorem q_app {m : Nat} (hl : Li K H a ds) (him : imms ds = true) (hs : σ[m]? = some (some (.ref a))) (h : Ed K te σ H d) (hd : imm d = true) (hz : ds.length < 100000)
    (k : ∀ H1, Ex H H1 → ∀ H2, Bx (· = a) H1 H2 → Li K H2 a (ds ++ [d]) → tz D σ H2) : tSeq (tDrop (tBM K "list" rAppend (tVar m) (tCons te tNil))) tz D σ H := w_app (D := { D with nx := tz D }) hl him hs h hd hz k
/-- a walk over a new list while others change -/
theorem ew_El (h : El K te σ H ds) (hi : imms ds = true) (hA : ∀ b, A b → ∃ o, H b = some o) : Ew K (iAny K te) σ H ds (Bx A) := fun H1 e R q => .inl (h H1 e _ fun p H2 hp e2 l => by
  obtain ⟨vs, h1, h2⟩ := l
  have hl := dpall_len h2
  have hn : ¬ A p := fun z => by
    obtain ⟨o, ho⟩ := hA p z
    rw [e _ _ ho] at hp
    cases hp
  refine ⟨p, rfl, ⟨vs, sq_of h1⟩, q _ H2 (fun H' => SqL K H' p vs ∧ DpAll K H' vs ds) e2 ?_ fun H' e' => ⟨sq_of (e'.2 p _ hn h1), dps_tx e'.1 hi h2⟩⟩
  rw [← hl]
  refine walk_list.mono (fun H h => h.1) fun i H x H' hi hg hy => ?_
  obtain ⟨rfl, hx⟩ := hy
  exact ⟨Ex.refl _, dpall_getV hg.2 hx⟩)
/-- .. over a list that is known (and is not changed) -/
theorem ew_Li {m : Nat} (hs : σ[m]? = some (some (.ref a))) (h : Li K H a ds) (hi : imms ds = true) (hn : ¬ A a) : Ew K (iAny K (tVar m)) σ H ds (Bx A) := fun H1 e R q => .inl (by
  obtain ⟨vs, h1, h2⟩ := h.ex e
  have hl := dpall_len h2
  refine ⟨_, hs, a, rfl, ⟨vs, sq_of h1⟩, q _ H1 (fun H' => SqL K H' a vs ∧ DpAll K H' vs ds) (Ex.refl _) ?_ fun H' e' => ⟨sq_of (e'.2 a _ hn h1), dps_tx e'.1 hi h2⟩⟩
  rw [← hl]
  refine walk_list.mono (fun H h => h.1) fun i H x H' hi hg hy => ?_
  obtain ⟨rfl, hx⟩ := hy
  exact ⟨Ex.refl _, dpall_getV hg.2 hx⟩)
theorem Ew.imp {wi : TI} {S S' : Hp → Hp → Prop} (h : Ew K wi σ H ds S) (hS : ∀ H H', S' H H' → S H H') : Ew K wi σ H ds S' := fun H1 e R q => h H1 e R fun J H2 G e2 w hG => q J H2 G e2 w fun H' s => hG H' (hS _ _ s)
end
/-! ### promises that give a new list -/
def spF (K : PySem.W.Frag) (n : Nat) (P : List PyData → List PyData → Prop) : Sp := fun vs H Q _ => vs.length = n ∧ ∃ ds es, DpAll K H vs ds ∧ P ds es ∧ ∀ p H2, H p = none → Ex H H2 → Li K H2 p es → Q (.ref p) H2
theorem spF_len {K : PySem.W.Frag} {n : Nat} {P : List PyData → List PyData → Prop} {ps : List Str} (hn : n = ps.length := by rfl) : ∀ vs H Q E, spF K n P vs H Q E → vs.length = ps.length := fun vs H Q E h => h.1.trans hn
theorem el_callF {K : PySem.W.Frag} {σ : L2.St} {H : Hp} {ds es : List PyData} {n : Nat} {P : List PyData → List PyData → Prop} {E : XK} {ta : TA} (h : Ea K ta σ H ds) (hp : P ds es) (hn : ds.length = n := by rfl) : El K (tCall (spF K n P) [] E ta) σ H es := fun H1 e Q q =>
  h H1 e _ fun vs H2 e2 dvs => by
    rw [List.append_nil]
    exact ⟨(dpall_len dvs).trans hn, ds, es, dvs, hp, fun p H3 hp3 e3 l => q p H3 (fresh_back e2 hp3) (e2.trans e3) l⟩
/-- .. or raise -/
def spXF (K : PySem.W.Frag) (mg : Str → Option Value) (n : Nat) (P : List PyData → Except Err (List PyData) → Prop) : Sp := fun vs H Q E => vs.length = n ∧ ∃ ds o, DpAll K H vs ds ∧ P ds o ∧
  (∀ es, o = .ok es → ∀ p H2, H p = none → Ex H H2 → Li K H2 p es → Q (.ref p) H2) ∧ ∀ er, o = .error er → ∀ cls dd H2, Ex H H2 → ErrAt mg er cls dd H2 → E cls dd H2
theorem spXF_len {K : PySem.W.Frag} {mg : Str → Option Value} {n : Nat} {P : List PyData → Except Err (List PyData) → Prop} {ps : List Str} (hn : n = ps.length := by rfl) : ∀ vs H Q E, spXF K mg n P vs H Q E → vs.length = ps.length := fun vs H Q E h => h.1.trans hn
end SB
set_option Elab.async false
set_option linter.all false
set_option maxRecDepth 100000
set_option maxHeartbeats 1000000
namespace SB
open PySem PySem.Spec PyProof.Rows L2 Evl
section
variable {K : PySem.W.Frag} {σ : L2.St} {H H' : Hp} {te tl : TE} {d : PyData} {tt : TT}
theorem filt_flat {α β : Type} {ys : β → List α} {xs : List β} {i : Nat} {b : β} (h : xs[i]? = some b) : ((xs.take (i + 1)).map ys).flatten = ((xs.take i).map ys).flatten ++ ys b := by
  rw [List.take_add_one, h, Option.toList_some, List.map_append, List.flatten_append]
  simp
theorem flat_le {α β : Type} {ys : β → List α} {xs : List β} {i : Nat} : ((xs.take i).map ys).flatten.length ≤ (xs.map ys).flatten.length := by
  conv => rhs; rw [← List.take_append_drop i xs]
  rw [List.map_append, List.flatten_append, List.length_append]
  omega
/-- [f(a) for b in xs for a in ys(b) if p(a)] -/
theorem el_lc2 {α β : Type} {wi wi1 : TI} {vs vs1 : List Nat} {j j1 : Nat} {en1 : β → PyData} {en2 : α → PyData} {xs : List β} {ys : β → List α} (hw : Ew K wi σ H (xs.map en1) Tx) (p : α → Bool) (f : α → PyData)
    (hi1 : ∀ b ∈ xs, ∀ x H1, Ex H H1 → Dp K H1 x (en1 b) → Ew K wi1 ((wipe σ vs).set j (some x)) H1 ((ys b).map en2) Tx) (him : ∀ b ∈ xs, imm (en1 b) = true)
    (ht : ∀ b ∈ xs, ∀ a ∈ ys b, ∀ x y H1, Ex H H1 → Dp K H1 x (en1 b) → Dp K H1 y (en2 a) → Et tt ((wipe ((wipe σ vs).set j (some x)) vs1).set j1 (some y)) H1 (p a))
    (he : ∀ b ∈ xs, ∀ a ∈ ys b, p a = true → ∀ x y H1, Ex H H1 → Dp K H1 x (en1 b) → Dp K H1 y (en2 a) → Ed K te ((wipe ((wipe σ vs).set j (some x)) vs1).set j1 (some y)) H1 (f a)) (hf : ∀ b ∈ xs, ∀ a ∈ ys b, imm (f a) = true)
    (hz : (xs.map ys).flatten.length ≤ 40000) (hwp : ∀ x, wipe ((wipe σ vs).set j (some x)) vs = wipe σ vs := by intro _; rfl)
    (hwp1 : ∀ x y, wipe ((wipe ((wipe σ vs).set j (some x)) vs1).set j1 (some y)) vs1 = wipe ((wipe σ vs).set j (some x)) vs1 := by intro _ _; rfl) :
    El K (tLc2 wi (gName j) tYes wi1 (gName j1) tt te vs vs1) σ H ((((xs.map ys).flatten).filter p).map f) := fun H1 e Q q =>
  hw H1 e _ fun J H2 G e2 w hG Dl hDl => by
    let acc : Nat → List PyData := fun i => ((((xs.take i).map ys).flatten).filter p).map f
    have hacc : ∀ i, imms (acc i) = true := fun i => imms_mem.mpr fun z hzz => by
      obtain ⟨a, ha, rfl⟩ := List.mem_map.mp hzz
      obtain ⟨l, hl, hal⟩ := List.mem_flatten.mp (List.mem_filter.mp ha).1
      obtain ⟨b, hb, rfl⟩ := List.mem_map.mp hl
      exact hf b (List.mem_of_mem_take hb) a hal
    have haccl : ∀ i, (acc i).length ≤ 40000 := fun i => by
      have h1 : (acc i).length ≤ (((xs.take i).map ys).flatten).length := by
        show (((((xs.take i).map ys).flatten).filter p).map f).length ≤ _
        rw [List.length_map]
        exact List.length_filter_le _ _
      have h2 : (((xs.take i).map ys).flatten).length ≤ (xs.map ys).flatten.length := flat_le
      omega
    let Pv : Nat → Hp → Prop := fun i H' => Ex H2 H' ∧ Tx H2 H' ∧ ∃ us, H' Dl = some (.lst us) ∧ DpAll K H' us (acc i)
    refine ⟨fun i m H' => m = (xs.map en1).length - i ∧ i ≤ (xs.map en1).length ∧ Pv i H', ⟨_, rfl, Nat.zero_le _, Ex.new hDl, Tx.of (Ex.new hDl), [], upd_same, .nil⟩, ?_⟩
    rintro i m Hi ⟨rfl, hin, eHi, tHi, us, hus, dus⟩
    have hgi := hG Hi tHi
    by_cases hlt : i < (xs.map en1).length
    · refine .inr ⟨w.goes i Hi hlt hgi, Pv (i + 1), fun H' p' => ⟨(xs.map en1).length - (i + 1), by omega, rfl, hlt, p'⟩, fun x H3 y => ?_⟩
      obtain ⟨e3, d, hd, dx⟩ := w.yields i Hi x H3 hlt hgi y
      obtain ⟨b, hb, rfl⟩ : ∃ b, xs[i]? = some b ∧ d = en1 b := by
        rw [List.getElem?_map] at hd
        cases hz : xs[i]? with
        | none => rw [hz] at hd; cases hd
        | some b => rw [hz] at hd; exact ⟨b, rfl, (Option.some.inj hd).symm⟩
      have hbm : b ∈ xs := List.mem_of_getElem? hb
      refine ⟨hwp x, ?_⟩
      dsimp only [tYes]
      rw [if_pos rfl]
      have ee3 : Ex H H3 := ((e.trans e2).trans eHi).trans e3
      refine hi1 b hbm x H3 ee3 dx H3 (Ex.refl _) _ fun J1 H4 G1 e4 w1 hG1 => ?_
      let Pv1 : Nat → Hp → Prop := fun k H' => Ex H2 H' ∧ Tx H4 H' ∧ ∃ us, H' Dl = some (.lst us) ∧ DpAll K H' us (acc i ++ (((ys b).take k).filter p).map f)
      have hD4 : H4 Dl = some (.lst us) := e4 _ _ (e3 _ _ hus)
      refine ⟨fun k m H' => m = ((ys b).map en2).length - k ∧ k ≤ ((ys b).map en2).length ∧ Pv1 k H', ⟨_, rfl, Nat.zero_le _, (eHi.trans e3).trans e4, Tx.refl _, us, hD4, ?_⟩, ?_⟩
      · simpa using dps_ex (e3.trans e4) dus
      rintro k m Hk ⟨rfl, hkn, eHk, tHk, us', hus', dus'⟩
      have hgk := hG1 Hk tHk
      have hacb : ∀ k, imms (acc i ++ (((ys b).take k).filter p).map f) = true := fun k => imms_mem.mpr fun z hzz => by
        rcases List.mem_append.mp hzz with h1 | h1
        · exact imms_mem.mp (hacc i) z h1
        · obtain ⟨a, ha, rfl⟩ := List.mem_map.mp h1
          exact hf b hbm a (List.mem_of_mem_take (List.mem_filter.mp ha).1)
      by_cases hkt : k < ((ys b).map en2).length
      · refine .inr ⟨w1.goes k Hk hkt hgk, Pv1 (k + 1), fun H' p' => ⟨((ys b).map en2).length - (k + 1), by omega, rfl, hkt, p'⟩, fun y H5 hy => ?_⟩
        obtain ⟨e5, d5, hd5, dy⟩ := w1.yields k Hk y H5 hkt hgk hy
        obtain ⟨a, ha, rfl⟩ : ∃ a, (ys b)[k]? = some a ∧ d5 = en2 a := by
          rw [List.getElem?_map] at hd5
          cases hz : (ys b)[k]? with
          | none => rw [hz] at hd5; cases hd5
          | some a => rw [hz] at hd5; exact ⟨a, rfl, (Option.some.inj hd5).symm⟩
        have ham : a ∈ ys b := List.mem_of_getElem? ha
        have ee5 : Ex H H5 := ((e.trans e2).trans eHk).trans e5
        have dx5 : Dp K H5 x (en1 b) := dp_tx ((tHk).trans (Tx.of e5)) (him b hbm) (dp_ex e4 dx)
        have htk : (ys b).take (k + 1) = (ys b).take k ++ [a] := by rw [List.take_add_one, ha]; rfl
        refine ⟨hwp1 x y, ?_⟩
        refine ht b hbm a ham x y H5 ee5 dx5 dy H5 (Ex.refl _) _ fun H6 e6 => ?_
        have tk6 : Tx H4 H6 := tHk.trans (Tx.of (e5.trans e6))
        cases hp : p a with
        | true =>
          rw [if_pos rfl]
          refine he b hbm a ham hp x y H5 ee5 dx5 dy H6 e6 _ fun v H7 e7 dv => ?_
          have hD7 : H7 Dl = some (.lst us') := e7 _ _ (e6 _ _ (e5 _ _ hus'))
          have tx7 : Tx H7 (upd H7 Dl (.lst (us' ++ [v]))) := (Tx.refl H7).lst hD7
          have hul : us'.length ≤ 100000 - 1 := by
            rw [dpall_len dus', List.length_append]
            have h1 := haccl (i + 1)
            have h2 : acc (i + 1) = acc i ++ ((ys b).filter p).map f := by
              show ((((xs.take (i+1)).map ys).flatten).filter p).map f = _
              rw [filt_flat hb, List.filter_append, List.map_append]
            rw [h2, List.length_append] at h1
            have h3 : ((((ys b).take k).filter p).map f).length ≤ (((ys b).filter p).map f).length := by
              rw [List.length_map, List.length_map]
              conv => rhs; rw [← List.take_append_drop k (ys b), List.filter_append, List.length_append]
              omega
            omega
          refine ⟨us', hD7, sz_lt (by omega), ((eHk.trans e5).trans (e6.trans e7)).mut hDl, (tk6.trans (Tx.of e7)).trans tx7, us' ++ [v], upd_same, ?_⟩
          rw [htk, List.filter_append, List.map_append, ← List.append_assoc]
          refine dpall_app (dps_tx tx7 (hacb k) (dps_ex ((e5.trans e6).trans e7) dus')) ?_
          simp only [List.filter_cons, hp, if_true, List.filter_nil, List.map_cons, List.map_nil]
          exact .cons (dp_tx tx7 (hf b hbm a ham) dv) .nil
        | false =>
          rw [if_neg Bool.false_ne_true]
          refine ⟨eHk.trans (e5.trans e6), tk6, us', e6 _ _ (e5 _ _ hus'), ?_⟩
          rw [htk, List.filter_append]
          simp only [List.filter_cons, hp, Bool.false_eq_true, if_false, List.filter_nil, List.append_nil]
          exact dps_ex (e5.trans e6) dus'
      · have ek : k = ((ys b).map en2).length := by omega
        subst ek
        refine .inl ⟨w1.stops Hk hgk, eHk, ?_, us', hus', ?_⟩
        · exact (Tx.of ((eHi.trans e3).trans e4)).trans tHk
        · have e1 : (ys b).take ((ys b).map en2).length = ys b := List.take_of_length_le (by simp)
          rw [e1] at dus'
          show DpAll K Hk us' (((((xs.take (i+1)).map ys).flatten).filter p).map f)
          rw [filt_flat hb, List.filter_append, List.map_append]
          exact dus'
    · have ei : i = (xs.map en1).length := by omega
      subst ei
      refine .inl ⟨w.stops Hi hgi, q Dl Hi (fresh_back e2 hDl) (e2.trans eHi) ⟨us, hus, ?_⟩⟩
      have e1 : xs.take (xs.map en1).length = xs := List.take_of_length_le (by simp)
      have : acc (xs.map en1).length = (((xs.map ys).flatten).filter p).map f := by
        show ((((xs.take (xs.map en1).length).map ys).flatten).filter p).map f = _
        rw [e1]
      rw [← this]
      exact dus
end
end SB
set_option Elab.async false
set_option linter.all false
set_option maxRecDepth 100000
/-! the rules with the written part named -/
namespace SB
open PySem PySem.Spec PyProof.Rows L2 Evl
section
variable {X : Cx} {K : PySem.W.Frag} {tg e a b o : Expr} {es : List Expr} {te ta tb to : TE} {t : TA} {pos p : Pos}
abbrev rLenU (K : PySem.W.Frag) : List V → Hp → VK → Prop := fun xs H Q => ∃ x n, xs = [x] ∧ LenV K x H n ∧ Q (.int n) H
abbrev rListU (K : PySem.W.Frag) : List V → Hp → VK → Prop := fun xs H Q => ∃ p ys, xs = [.ref p] ∧ (SqL K H p ys ∨ SqT K H p ys) ∧ ∀ l, H l = none → Q (.ref l) (upd H l (.lst ys))
abbrev rTupU (K : PySem.W.Frag) : List V → Hp → VK → Prop := fun xs H Q => ∃ p ys, xs = [.ref p] ∧ ((SqL K H p ys ∧ ∀ l, H l = none → Q (.ref l) (upd H l (.tup ys))) ∨ (SqT K H p ys ∧ Q (.ref p) H))
theorem k_any (hK : X.K = K) (h : PE X e te) : PI X tg e (iAny K te) := by subst hK; exact pi_any h
theorem k_ix (hK : X.K = K) : IxR X (rIx K) := by subst hK; exact ix_seq
theorem k_len (hK : X.K = K) : CallR X (.builtin "len") (rLenU K) := by subst hK; exact call_len
theorem k_isi (hK : X.K = K) : CallR X (.builtin "isinstance") (rIsi K) := by subst hK; exact call_isi
theorem k_all (hK : X.K = K) (hc : X.calm = true) : CallR X (.builtin "all") (rAll K) := by subst hK; exact cr_all hc
theorem k_anyB (hK : X.K = K) (hc : X.calm = true) : CallR X (.builtin "any") (rAny K) := by subst hK; exact cr_any hc
theorem k_sum (hK : X.K = K) (hc : X.calm = true) : CallR X (.builtin "sum") (rSum K) := by subst hK; exact cr_sum hc
theorem k_list (hK : X.K = K) : CallR X (.type "list") (rListU K) := by subst hK; exact call_list_of
theorem k_tuple (hK : X.K = K) : CallR X (.type "tuple") (rTupU K) := by subst hK; exact call_tuple_of
theorem k_sorted (hK : X.K = K) : CallR X (.builtin "sorted") (rSorted K) := by subst hK; exact cr_sorted
theorem k_add (hK : X.K = K) : OpR X (binaryOp .Add) (rPlus K) := by subst hK; exact oAdd
theorem k_mul (hK : X.K = K) : OpR X (binaryOp .Mult) (rTimes K) := by subst hK; exact oMul
theorem k_eq (hK : X.K = K) (hu : X.A.units + 64 < cLine) : OpR X (compareOp .Eq) (rEqU K) := by subst hK; exact oEq hu
theorem k_ne (hK : X.K = K) (hu : X.A.units + 64 < cLine) : OpR X (compareOp .NotEq) (rNeU K) := by subst hK; exact oNe hu
def rInU (K : PySem.W.Frag) : R2 := fun x y H Q => rIn K false x y H Q ∨ (∃ i j, x = .str i ∧ y = .str j ∧ Q (.bl (!(Builtin.Str.occurrences j i 0 j.length 1).isEmpty)) H)
theorem k_in (hK : X.K = K) : OpR X (compareOp .In) (rInU K) := by subst hK; exact op_in_seq.or op_in_str
def rNotInU (K : PySem.W.Frag) : R2 := fun x y H Q => rIn K true x y H Q ∨ (∃ i j, x = .str i ∧ y = .str j ∧ Q (.bl (!(!(Builtin.Str.occurrences j i 0 j.length 1).isEmpty))) H)
theorem k_notin (hK : X.K = K) : OpR X (compareOp .NotIn) (rNotInU K) := by subst hK; exact op_notIn_seq.or op_notin_str
theorem k_enum {tpos : Pos} {elts : List Expr} {kk : Nat} (hK : X.K = K) (hg : Gl X "enumerate") (hm : X.mg "enumerate" = none) (ha : PA X [e] t) (hs : starEach [e] X.env = [(false, eval e X.env)] := by rfl) :
    PI X (.Tuple elts kk tpos) (.Call (.Name "enumerate" p) [e] [] pos) (iEnumA K t) := by subst hK; exact pi_enumA hg hm ha hs
theorem k_tup {k n : Nat} {tu : TGs} (hK : X.K = K) (hh : PG X (.Tuple es k pos) (gTup X.K n tu)) : PG X (.Tuple es k pos) (gTup K n tu) := by subst hK; exact hh
theorem k_bm {T : String} {r : V → List V → Hp → VK → Prop} (hK : X.K = K) (hh : PE X e (tBM X.K T r to t)) : PE X e (tBM K T r to t) := by subst hK; exact hh
theorem k_bm0 {T : String} {r : V → List V → Hp → VK → Prop} (hK : X.K = K) (hh : PE X e (tBM0 X.K T r to)) : PE X e (tBM0 K T r to) := by subst hK; exact hh
def rSlU (K : PySem.W.Frag) : V → Option Int → Option Int → Hp → VK → Prop := fun x lo hi H Q => rSlL K x lo hi H Q ∨ rSlA K x lo hi H Q ∨ C8.rSlX x lo hi H Q
theorem k_sl (hK : X.K = K) : SlR X (rSlU K) := by subst hK; exact sl_list.or (sl_tupA.or C8.sl_txt)
theorem k_fld {f : Str} (hK : X.K = K) (he : PE X e te) (hb : attributeBase e f X.env (eval e X.env) = eval e X.env) : PE X (.Attribute e f pos) (tFld K te f) := by subst hK; exact pe_fld he hb
theorem pt_truthK (hK : X.K = K) (ha : PE X a ta) (he : ∀ whole, isTrue a X.env whole = (do let v ← whole; standAt a.pos; holding [v] (truthy v))) : PT X a (fun σ H Q => ta σ H fun x H1 => ∃ k, TruV K x H1 k ∧ Q k H1) := by subst hK; exact pt_truth ha he
end
end SB
set_option Elab.async false
set_option linter.all false
set_option maxRecDepth 100000
set_option maxHeartbeats 4000000
/-! a tuple times one -/
namespace SB
open PySem PySem.Spec PyProof.Rows L2 Evl
open AutoSeq1 (wpAny_loadPart')
theorem tuple_mul1 (l : Addr) (items : Array Value) (n : Nat) (dd : Option Addr) (sl : Array (Option Value)) (u : Tok) :
    Meets (Builtin.«tuple.__mul__» ⟨[.ref l, .int 1 u], []⟩) (fun _ R s => s.heap.get? l = some { cls := .type "tuple", dict := dd, data := .seq items n, slots := sl } ∧
      R (.ok (.ret (Value.ref l))) s) :=
  .of_wp fun prog w A R s h => by
    obtain ⟨hp, g, d, tk, os⟩ := s
    obtain ⟨hl, h⟩ := h
    have f1 := AutoSeq1.idx_int
    wp_walk using wpAny_loadPart' hl
    exact ⟨_, rfl, h⟩
def rRep1 (K : PySem.W.Frag) : R2 := fun x y H Q => ∃ l xs, x = .ref l ∧ y = .int 1 ∧ SqT K H l xs ∧ Q (.ref l) H
theorem op_rep1 {X : Cx} : OpR X (binaryOp .Mult) (rRep1 X.K) := by
  intro pins s σ H x y v u Q I rx ry h
  obtain ⟨l, xs, rfl, rfl, hT, q⟩ := h
  cases rx
  obtain ⟨t, rfl⟩ := ry
  obtain ⟨its, r, ⟨⟨cls, dd, data, sl⟩, ho, hc, n, hd⟩, hs⟩ := I.tuple hT
  simp only at hc hd
  subst hc hd
  exact wpAny_binaryOp_repeat_ref (T := "tuple") (U := "int") (by decide) ⟨_, ho, rfl⟩ (fun s' => typeIs_int s' 1 t) noFill_tuple_mul F.fills_int_mul F.slot_int_rmul repeat_tuple F.slot_int_index.lookup
    (call_meets F.slot_int_rmul (typeIs_int s 1 t) F.entry_int_rmul (F.args_int_rmul_2 _ _) (int_rmul_tuple 1 t l its.toArray n dd sl)
      ⟨ho, rfl, ⟨_, ho, rfl⟩, call_meets F.slot_tuple_mul ⟨_, ho, rfl⟩ F.entry_tuple_mul (F.args_tuple_mul_2 _ _) (tuple_mul1 l its.toArray n dd sl t) ⟨ho, .ref l, H, I, rfl, q⟩⟩)
def rTimes2 (K : PySem.W.Frag) : R2 := fun x y H Q => rTimes K x y H Q ∨ rRep1 K x y H Q
theorem k_mul2 {X : Cx} {K : PySem.W.Frag} (hK : X.K = K) : OpR X (binaryOp .Mult) (rTimes2 K) := by subst hK; exact oMul.or op_rep1
section
variable {K : PySem.W.Frag} {σ : L2.St} {H : Hp} {ta tb : TE} {ds : List PyData}
/-- (..) * n -/
theorem ed_repT {n : Int} (h : Ed K ta σ H (.tuple ds)) (hn : Ed K tb σ H (.int n)) (hne : ds ≠ []) (hb : 1 ≤ n ∧ n ≤ 1000) (hz : ds.length ≤ 1000) : Ed K (tOp (rTimes2 K) ta tb) σ H (.tuple (List.replicate n.toNat ds).flatten) :=
  ed_op h hn fun H1 e x y dx dy Q q => by
    cases dp_int dy
    cases dx with
    | tup hs ha =>
      rename_i a vs
      by_cases h1 : n = 1
      · subst h1
        refine .inr ⟨a, vs, rfl, rfl, hs, q _ _ (Ex.refl _) (.tup hs ?_)⟩
        show DpAll K H1 vs (List.replicate 1 ds).flatten
        simpa using ha
      · refine .inl (.inr (.inr ⟨a, n, vs, rfl, rfl, hs, fun z => ?_, by omega, by omega, by rw [dpall_len ha]; exact hz, fun p hp => ?_⟩))
        · have := dpall_len ha
          rw [z] at this
          cases ds with
          | nil => exact hne rfl
          | cons _ _ => cases this
        · exact q _ _ (Ex.new hp) (.tup (st_of upd_same) (dpall_rep (dps_ex (Ex.new hp) ha) _))
theorem el_rep2 {n : Int} (h : El K ta σ H ds) (hn : Ed K tb σ H (.int n)) (hb : -100000 ≤ n ∧ n ≤ 100000) (hz : ds.length * n.toNat ≤ 100000) : El K (tOp (rTimes2 K) ta tb) σ H (List.replicate n.toNat ds).flatten := fun H1 e Q q =>
  h H1 e _ fun p H2 hp e2 l => hn H2 (e.trans e2) _ fun v H3 e3 dv => by
    cases dp_int dv
    obtain ⟨vs, h1, h2⟩ := l
    refine .inl (.inr (.inl ⟨p, n, vs, rfl, rfl, e3 _ _ h1, by omega, by omega, sz_of (by rw [dpall_len h2]; exact hz), fun l hl => ?_⟩))
    refine q l _ (fresh_back (e2.trans e3) hl) ((e2.trans e3).trans (Ex.new hl)) ⟨_, upd_same, dpall_rep (dps_ex (e3.trans (Ex.new hl)) h2) _⟩
theorem ed_mul2 {i j : Int} (ha : Ed K ta σ H (.int i)) (hb : Ed K tb σ H (.int j)) (h : CMul i j) : Ed K (tOp (rTimes2 K) ta tb) σ H (.int (i * j)) := ed_opI (.int (i * j)) ha hb (fun _ => .int _) fun _ _ q => .inl (.inl ⟨i, j, rfl, rfl, h, q⟩)
end
end SB
set_option Elab.async false
set_option linter.all false
set_option maxRecDepth 100000
namespace K01
open PySem PySem.Spec PyProof.Rows L2 SB C8
open Evl (Ex)
def topS (i : Nat) : Stmt := PySem.Challenge.pw_sungbyturns_k01_books_validated.main.body.getD i (.Pass ⟨0, 0, 0, 0⟩)
/-- an item: a number or a word -/
def eI : Key → PyData
  | .inl i => .int i
  | .inr x => .str x
def eV (v : List Key) : PyData := .tuple (v.map eI)
def eR (r : List (List Key)) : PyData := .tuple (r.map eV)
def eB (b : List (List (List Key))) : PyData := .tuple (b.map eR)
theorem imm_eI (x : Key) : imm (eI x) = true := by cases x <;> rfl
theorem imm_eV (v : List Key) : imm (eV v) = true := imms_mem.mpr fun d hd => by
  obtain ⟨x, _, rfl⟩ := List.mem_map.mp hd
  exact imm_eI x
theorem imm_eR (v : List (List Key)) : imm (eR v) = true := imms_mem.mpr fun d hd => by
  obtain ⟨x, _, rfl⟩ := List.mem_map.mp hd
  exact imm_eV x
theorem imm_eB (v : List (List (List Key))) : imm (eB v) = true := imms_mem.mpr fun d hd => by
  obtain ⟨x, _, rfl⟩ := List.mem_map.mp hd
  exact imm_eR x
theorem eI_inj {x y : Key} (h : eI x = eI y) : x = y := by
  cases x <;> cases y <;> cases h <;> rfl
def isW : Key → Bool
  | .inl _ => false
  | .inr _ => true
def goodW (w : Str) : Bool := (decide ((1 : Int) ≤ (w.length : Int)) && decide ((w.length : Int) ≤ 8)) && (w.cps.toList.map fun c => !decide ([c] < ([97] : List Nat)) && !decide (([122] : List Nat) < [c])).all id
def goodI (n : Nat) (r : Int) : Key → Bool
  | .inl i => decide (r < i) && decide (i < (n : Int))
  | .inr w => goodW w
def goodV (n : Nat) (r : Int) (v : List Key) : Bool := (decide ((1 : Int) ≤ (v.length : Int)) && decide ((v.length : Int) ≤ 6)) && (v.map (goodI n r)).all id
def smallK (x : Key) : Prop := match x with
  | .inl _ => True
  | .inr w => w.length ≤ 1000 ∧ PyData.strOk w = true
/-- sizes: what the texts and lists may have -/
structure SmV (v : List Key) : Prop where
  len : v.length ≤ 1000
  it : ∀ x ∈ v, smallK x
structure SmR (r : List (List Key)) : Prop where
  len : r.length ≤ 1000
  it : ∀ x ∈ r, SmV x
structure SmB (b : List (List (List Key))) : Prop where
  len : b.length ≤ 1000
  it : ∀ x ∈ b, SmR x
/-- the first invalid verse -/
def defR (n : Nat) (r : Nat) (R : List (List Key)) : Option Int :=
  if 60 ≤ r ∨ ¬ (1 ≤ R.length ∧ R.length ≤ 4) then some (-1) else (R.findIdx? fun v => !goodV n r v).map fun j => (j : Int)
def badBook (r v : Int) : Err := ⟨"BadBook", [("verse", .int v), ("refrain", .int r)]⟩
def chkR (n r : Nat) (R : List (List Key)) : Except Err PyData := match defR n r R with
  | none => .ok .none
  | some v => .error (badBook r v)
/-- the first defect of a book -/
def defFrom (n : Nat) : Nat → List (List (List Key)) → Option (Int × Int)
  | _, [] => none
  | r, R :: Rs => match defR n r R with
    | some v => some (r, v)
    | none => defFrom n (r + 1) Rs
theorem defFrom_none {n r : Nat} {R : List (List Key)} {Rs : List (List (List Key))} (h : defR n r R = none) : defFrom n r (R :: Rs) = defFrom n (r + 1) Rs := by
  conv => lhs; unfold defFrom
  rw [h]
theorem defFrom_some {n r : Nat} {R : List (List Key)} {Rs : List (List (List Key))} {v : Int} (h : defR n r R = some v) : defFrom n r (R :: Rs) = some ((r : Int), v) := by
  unfold defFrom
  rw [h]
def defB (B : List (List (List Key))) : Option (Int × Int) := if B = [] then some (0, -1) else defFrom B.length 0 B
def chkB (B : List (List (List Key))) : Except Err PyData := match defB B with
  | none => .ok .none
  | some (r, v) => .error (badBook r v)
abbrev spI_BadBook (C : Addr) : Sp := spI2 C "refrain" "verse"
abbrev sp_is_word (K : PySem.W.Frag) : Sp := spP K 1 fun ds d => ∃ x, ds = [eI x] ∧ d = .bool (isW x)
abbrev sp_are_letters (K : PySem.W.Frag) : Sp := spP K 1 fun ds d => ∃ x : Str, ds = [.str x] ∧ x.length ≤ 1000 ∧ d = .bool ((x.cps.toList.map fun c => !decide ([c] < ([97] : List Nat)) && !decide (([122] : List Nat) < [c])).all id)
abbrev sp_is_valid_word (K : PySem.W.Frag) : Sp := spP K 1 fun ds d => ∃ x : Str, ds = [.str x] ∧ x.length ≤ 1000 ∧ d = .bool (goodW x)
abbrev sp_is_valid_item (K : PySem.W.Frag) : Sp := spP K 3 fun ds d => ∃ B r x, ds = [eB B, .int r, eI x] ∧ smallK x ∧ d = .bool (goodI B.length r x)
abbrev sp_is_valid_verse (K : PySem.W.Frag) : Sp := spP K 3 fun ds d => ∃ B r v, ds = [eB B, .int r, eV v] ∧ SmV v ∧ d = .bool (goodV B.length r v)
abbrev sp_check_refrain (K : PySem.W.Frag) (mg : Str → Option Value) : Sp := spX K mg 2 fun ds o => ∃ (B : List (List (List Key))) (r : Nat) (R : List (List Key)), ds = [eB B, .int r] ∧ SmB B ∧ B[r]? = some R ∧ o = chkR B.length r R
abbrev sp_check_book (K : PySem.W.Frag) (mg : Str → Option Value) : Sp := spX K mg 1 fun ds o => ∃ B : List (List (List Key)), ds = [eB B] ∧ SmB B ∧ o = chkB B
/-- the numbers among items -/
def nums (v : List Key) : List Int := v.filterMap fun x => match x with | .inl i => some i | .inr _ => none
theorem flat_small (R : List (List Key)) (h : R.length ≤ 40) (hR : SmR R) : R.flatten.length ≤ 40000 := by
  have key : ∀ (L : List (List Key)), (∀ v ∈ L, v.length ≤ 1000) → L.flatten.length ≤ 1000 * L.length := by
    intro L
    induction L with
    | nil => intro _; simp
    | cons v L ih =>
      intro h
      have h1 := h v (by simp)
      have h2 := ih fun w hw => h w (by simp [hw])
      rw [List.flatten_cons, List.length_append, List.length_cons]
      omega
  have := key R fun v hv => (hR.it v hv).len
  omega
theorem nums_flat : ∀ R : List (List Key), ((R.flatten).filter fun x => !isW x).map (fun x => match x with | .inl i => PyData.int i | .inr _ => PyData.none) = (R.map nums).flatten.map PyData.int
  | [] => rfl
  | v :: R => by
    have ih := nums_flat R
    have hv : ∀ v : List Key, (v.filter fun x => !isW x).map (fun x => match x with | .inl i => PyData.int i | .inr _ => PyData.none) = (nums v).map PyData.int := by
      intro v
      induction v with
      | nil => rfl
      | cons x v ih =>
        cases x with
        | inl i =>
          show PyData.int i :: _ = PyData.int i :: _
          exact congrArg _ ih
        | inr z => exact ih
    rw [List.flatten_cons, List.filter_append, List.map_append, List.map_cons, List.flatten_cons, List.map_append, ih, hv]
abbrev sp_called_refrains (K : PySem.W.Frag) : Sp := spF K 1 fun ds es => ∃ R : List (List Key), ds = [eR R] ∧ SmR R ∧ R.length ≤ 40 ∧ es = (R.map nums).flatten.map PyData.int
section
variable {P : Program} {w : World} {K : PySem.W.Frag} {mg : Str → Option Value} {base : Heap}
abbrev s_is_word : Stmt := topS 16
theorem sc_is_word : FnScope ["item"] ["item"] (fnScope s_is_word) := fnScope_by (by decide +kernel)
theorem ok_is_word  {f : Addr} {fd : FuncData} (F : Def K mg "is_word" s_is_word f fd) (b : L2.Binds K fd ["item"] []) (m_isinstance : mg "isinstance" = none) (m_str : mg "str" = none) :
    Cal P w K mg base 1 "is_word" (sp_is_word K) [] := by
  refine cal0 F b .nil sc_is_word spP_len (fun cdv A outer s H vs Q E hr h => ?_)
  have ndX := sc_is_word.nd
  obtain ⟨_, ds, d, hds, ⟨x, rfl, rfl⟩, q⟩ := h
  obtain ⟨v, rfl, hx⟩ := dp1 hds
  refine ⟨_, (pss_one (ps_ret (pe_callB (k_isi (K := K) rfl) (by rfl) m_isinstance (by decide +kernel) (pa_cons (pv 0) (pa_cons (pe_bltn (v := .ty "str") (by rfl) m_str (by decide +kernel) rfl) pa_nil))))), ?_⟩
  cases x with
  | inl i => exact w_ret (ed_isi (ed_var rfl hx) (.int i) (show kitB "int" "str" = some false by decide +kernel)) q
  | inr z => exact w_ret (ed_isi (ed_var rfl hx) (.str z) (show kitB "str" "str" = some true by decide +kernel)) q
abbrev s_are_letters : Stmt := topS 17
theorem sc_are_letters : FnScope ["text", "letter"] ["text"] (fnScope s_are_letters) := fnScope_by (by decide +kernel)
theorem ok_are_letters  {f : Addr} {fd : FuncData} (F : Def K mg "are_letters" s_are_letters f fd) (b : L2.Binds K fd ["text"] []) (m_all : mg "all" = none) :
    Cal P w K mg base 1 "are_letters" (sp_are_letters K) [] := by
  refine cal0 F b .nil sc_are_letters spP_len (fun cdv A outer s H vs Q E hr h => ?_)
  have ndX := sc_are_letters.nd
  obtain ⟨_, ds, d, hds, ⟨x, rfl, hl, rfl⟩, q⟩ := h
  obtain ⟨v, rfl, hx⟩ := dp1 hds
  refine ⟨_, (pss_one (ps_ret (pe_callB (k_all (K := K) rfl rfl) (by rfl) m_all (by decide +kernel) (pa_cons (pe_lc (own := [("letter", 1)]) rfl ndX (k_any (K := K) rfl (pv 0)) (blkOk_by (N := ["text", "letter"]) (sc := fnScope s_are_letters) (by decide +kernel)) (fun _ _ _ _ _ => (pg_name (i := 1) ndX rfl (.inl rfl))) (fun _ _ _ _ _ => pts_nil) (fun _ _ _ _ _ => (pe_chain oLe oLe pe_str (pv 1) pe_str))) pa_nil)))), ?_⟩
  refine w_ret (ed_all ((ed_map (ew_S (ed_var rfl hx)) (fun c => .bool (!decide ([c] < ([97] : List Nat)) && !decide (([122] : List Nat) < [c]))) (fun c hc y H1 e dy => ?_) (fun _ _ => rfl) (fun a _ b _ e => ?_) ?_).is ?_)) q
  · exact ed_chainLLs ed_str (ed_var rfl dy) ed_str
  · cases e; rfl
  · have : x.cps.toList.length = x.length := by simp [Str.length]
    omega
  · rw [List.map_map]; rfl
abbrev s_is_valid_word : Stmt := topS 18
theorem sc_is_valid_word : FnScope ["text"] ["text"] (fnScope s_is_valid_word) := fnScope_by (by decide +kernel)
theorem ok_is_valid_word  {f : Addr} {fd : FuncData} (F : Def K mg "is_valid_word" s_is_valid_word f fd) (b : L2.Binds K fd ["text"] []) (f_are_letters : Cal P w K mg base 1 "are_letters" (sp_are_letters K) []) (m_len : mg "len" = none) (c_LONGEST_WORD : ∃ u, mg "LONGEST_WORD" = some u ∧ RelV (.int 8) u) :
    Cal P w K mg base 2 "is_valid_word" (sp_is_valid_word K) [] := by
  refine cal0 F b .nil sc_is_valid_word spP_len (fun cdv A outer s H vs Q E hr h => ?_)
  have ndX := sc_is_valid_word.nd
  obtain ⟨_, ds, d, hds, ⟨x, rfl, hl, rfl⟩, q⟩ := h
  obtain ⟨v, rfl, hx⟩ := dp1 hds
  refine ⟨_, (pss_one (ps_ret (pe_and (pe_chain oLe oLe pe_int (pe_callB (k_len (K := K) rfl) (by rfl) m_len (by decide +kernel) (pa_cons (pv 0) pa_nil)) (pe_gc (by rfl) c_LONGEST_WORD)) (pe_one (pe_c f_are_letters hr (by decide) (by rfl) (pa_cons (pv 0) pa_nil)))))), ?_⟩
  exact w_ret (ed_and (ed_chainLL ed_int (ed_lenS (ed_var rfl hx) (by omega)) ed_int) fun _ => ed_callP (ea_cons (ed_var rfl hx) ea_nil) ⟨x, rfl, hl, rfl⟩) q
abbrev s_is_valid_item : Stmt := topS 19
theorem sc_is_valid_item : FnScope ["book", "refrain", "item"] ["book", "refrain", "item"] (fnScope s_is_valid_item) := fnScope_by (by decide +kernel)
theorem ok_is_valid_item  {f : Addr} {fd : FuncData} (F : Def K mg "is_valid_item" s_is_valid_item f fd) (b : L2.Binds K fd ["book", "refrain", "item"] []) (f_is_word : Cal P w K mg base 1 "is_word" (sp_is_word K) []) (f_is_valid_word : Cal P w K mg base 2 "is_valid_word" (sp_is_valid_word K) []) (m_len : mg "len" = none) :
    Cal P w K mg base 3 "is_valid_item" (sp_is_valid_item K) [] := by
  refine cal0 F b .nil sc_is_valid_item spP_len (fun cdv A outer s H vs Q E hr h => ?_)
  have ndX := sc_is_valid_item.nd
  obtain ⟨_, ds, d, hds, ⟨B, r, x, rfl, hl, rfl⟩, q⟩ := h
  obtain ⟨vb, vr, vx, rfl, hb, hr', hx⟩ := dp3 hds
  refine ⟨_, (pss_cons (ps_if (pt_truthK (K := K) rfl (pe_c f_is_word hr (by decide) (by rfl) (pa_cons (pv 2) pa_nil)) (by intro _; rfl))
        (pss_one (ps_ret (pe_c f_is_valid_word hr (by decide) (by rfl) (pa_cons (pv 2) pa_nil)))) pss_nil)
      (pss_one (ps_ret (pe_chain oLt oLt (pv 1) (pv 2) (pe_callB (k_len (K := K) rfl) (by rfl) m_len (by decide +kernel) (pa_cons (pv 0) pa_nil)))))), ?_⟩
  refine w_seq (w_if (et_truB (ed_callP (ea_cons (ed_var rfl hx) ea_nil) ⟨x, rfl, rfl⟩)) (fun hw H1 e => ?_) fun hw H1 e => ?_)
  · cases x with
    | inl i => cases hw
    | inr z => exact w_ret (ed_callP (ea_cons (ed_var rfl (dp_ex e hx)) ea_nil) ⟨z, rfl, hl.1, rfl⟩) fun v H2 e2 dv => q v H2 (e.trans e2) dv
  · cases x with
    | inr z => cases hw
    | inl i =>
      refine w_ret ((ed_chainTT (ed_var rfl (dp_ex e hr')) (ed_var rfl (dp_ex e hx)) (ed_lenT (ed_var rfl (dp_ex e hb)))).is ?_) fun v H2 e2 dv => q v H2 (e.trans e2) dv
      rw [List.length_map]
      rfl
abbrev s_is_valid_verse : Stmt := topS 20
theorem sc_is_valid_verse : FnScope ["book", "refrain", "verse", "item"] ["book", "refrain", "verse"] (fnScope s_is_valid_verse) := fnScope_by (by decide +kernel)
theorem ok_is_valid_verse  {f : Addr} {fd : FuncData} (F : Def K mg "is_valid_verse" s_is_valid_verse f fd) (b : L2.Binds K fd ["book", "refrain", "verse"] []) (m_len : mg "len" = none) (c_MOST_ITEMS : ∃ u, mg "MOST_ITEMS" = some u ∧ RelV (.int 6) u) (m_all : mg "all" = none) (f_is_valid_item : Cal P w K mg base 3 "is_valid_item" (sp_is_valid_item K) []) :
    Cal P w K mg base 4 "is_valid_verse" (sp_is_valid_verse K) [] := by
  refine cal0 F b .nil sc_is_valid_verse spP_len (fun cdv A outer s H vs Q E hr h => ?_)
  have ndX := sc_is_valid_verse.nd
  obtain ⟨_, ds, d, hds, ⟨B, r, v, rfl, hl, rfl⟩, q⟩ := h
  obtain ⟨vb, vr, vx, rfl, hb, hr', hx⟩ := dp3 hds
  refine ⟨_, (pss_cons (ps_if (pt_not (pt_chain oLe oLe pe_int (pe_callB (k_len (K := K) rfl) (by rfl) m_len (by decide +kernel) (pa_cons (pv 2) pa_nil)) (pe_gc (by rfl) c_MOST_ITEMS)))
        (pss_one (ps_ret pe_bl)) pss_nil)
      (pss_one (ps_ret (pe_callB (k_all (K := K) rfl rfl) (by rfl) m_all (by decide +kernel) (pa_cons (pe_lc (own := [("item", 3)]) rfl ndX (k_any (K := K) rfl (pv 2)) (blkOk_by (N := ["book", "refrain", "verse", "item"]) (sc := fnScope s_is_valid_verse) (by decide +kernel)) (fun _ _ _ _ _ => (pg_name (i := 3) ndX rfl (.inl rfl))) (fun _ _ _ _ _ => pts_nil) (fun _ _ _ _ _ => (pe_c f_is_valid_item hr (by decide) (by rfl) (pa_cons (pv 0) (pa_cons (pv 1) (pa_cons (pv 3) pa_nil)))))) pa_nil))))), ?_⟩
  refine w_seq (w_if (et_not (et_test (ed_chainLL ed_int (ed_lenT (ed_var rfl hx)) ed_int))) (fun hw H1 e => ?_) fun hw H1 e => ?_)
  · rw [List.length_map, Bool.not_eq_true'] at hw
    refine w_ret (ed_bl (K := K)) fun u H2 e2 dv => q u H2 (e.trans e2) ?_
    unfold goodV
    rw [hw]
    exact dv
  · rw [List.length_map, Bool.not_eq_false'] at hw
    refine w_ret ((ed_all (bs := v.map (goodI B.length r)) ((ed_map (en := eI) (ew_T (ed_var rfl (dp_ex e hx))) (fun x => .bool (goodI B.length r x)) (fun x hxm y H2 e2 dy => ?_) (fun _ _ => rfl) (fun a _ b _ e => by rw [eI_inj e]) ?_).is ?_)).is ?_) fun u H2 e2 dv => q u H2 (e.trans e2) dv
    · exact ed_callP (ea_cons (ed_var rfl (dp_ex (e.trans e2) hb)) (ea_cons (ed_var rfl (dp_ex (e.trans e2) hr')) (ea_cons (ed_var rfl dy) ea_nil))) ⟨B, r, x, rfl, hl.it x hxm, rfl⟩
    · have := hl.len
      omega
    · rw [List.map_map]; rfl
    · unfold goodV
      rw [hw]; rfl
abbrev s_check_refrain : Stmt := topS 21
theorem sc_check_refrain : FnScope ["book", "refrain", "verses", "number", "verse"] ["book", "refrain"] (fnScope s_check_refrain) := fnScope_by (by decide +kernel)
theorem ok_check_refrain {C_BadBook : Addr} {f : Addr} {fd : FuncData} (F : Def K mg "check_refrain" s_check_refrain f fd) (b : L2.Binds K fd ["book", "refrain"] []) (m_len : mg "len" = none) (c_MOST_VERSES : ∃ u, mg "MOST_VERSES" = some u ∧ RelV (.int 4) u) (c_MOST_REFRAINS : ∃ u, mg "MOST_REFRAINS" = some u ∧ RelV (.int 60) u) (mk_BadBook : MakX P w K mg base 1 "BadBook" C_BadBook (spI_BadBook C_BadBook)) (m_enumerate : mg "enumerate" = none) (f_is_valid_verse : Cal P w K mg base 4 "is_valid_verse" (sp_is_valid_verse K) []) :
    CalX P w K mg base 5 "check_refrain" (sp_check_refrain K mg) [] := by
  refine calX0 F b .nil sc_check_refrain spX_len (fun cdv A outer s H vs Q E hr h => ?_)
  have ndX := sc_check_refrain.nd
  obtain ⟨_, ds, o, hds, ⟨B, r, R, rfl, hB, hR, rfl⟩, q1, q2⟩ := h
  obtain ⟨vb, vr, rfl, hb, hr'⟩ := dp2 hds
  have hsR := hB.it R (List.mem_of_getElem? hR)
  have hrB : r < B.length := (List.getElem?_eq_some_iff.mp hR).1
  refine ⟨_, (pss_cons (ps_set (i := 2) ndX rfl (.inl rfl) (pe_ix (k_ix (K := K) rfl) (pv 0) (pv 1) (fun _ _ => rfl)))
      (pss_cons (ps_if (PW.pt (pw_or (pt_cmpR op_ge (pv 1) (pe_gc (by rfl) c_MOST_REFRAINS) (nomark _)) (pw_or1 (pt_not (pt_chain oLe oLe pe_int (pe_callB (k_len (K := K) rfl) (by rfl) m_len (by decide +kernel) (pa_cons (pv 2) pa_nil)) (pe_gc (by rfl) c_MOST_VERSES))))))
        (pss_one (ps_raise rfl (takes_of rfl rfl rfl rfl) (pmk_x mk_BadBook hr (by decide) (by rfl) (pa_cons (pv 1) (pa_cons (pe_un un_neg pe_int) pa_nil))))) pss_nil)
      (pss_one (ps_for (passes_of rfl) rfl (k_enum (K := K) rfl rfl m_enumerate (pa_cons (pv 2) pa_nil)) (k_tup (K := K) rfl (pg_tup (n := 2) rfl (pgs_cons (pg_name (i := 3) ndX rfl (.inl rfl)) (pgs_cons (pg_name (i := 4) ndX rfl (.inl rfl)) pgs_nil))))
        (pss_one (ps_if (pt_not (pt_truthK (K := K) rfl (pe_c f_is_valid_verse hr (by decide) (by rfl) (pa_cons (pv 0) (pa_cons (pv 1) (pa_cons (pv 4) pa_nil)))) (by intro _; rfl)))
          (pss_one (ps_raise rfl (takes_of rfl rfl rfl rfl) (pmk_x mk_BadBook hr (by decide) (by rfl) (pa_cons (pv 1) (pa_cons (pv 3) pa_nil))))) pss_nil)))))), ?_⟩
  refine q_asg (ed_ixT (ed_var rfl hb) (ed_var rfl hr') (d := eR R) (atI_nat (by rw [List.getElem?_map, hR]; rfl))) fun v1 H1 e1 d1 => ?_
  have hnR : ((R.map eV).length : Int) = (R.length : Int) := by rw [List.length_map]
  have hsz := hsR.len
  have hBs := hB.len
  refine q_when (SB.et_or (et_test (ed_ge (ed_var rfl (dp_ex e1 hr')) ed_int)) fun _ => SB.et_not (et_test (ed_chainLL ed_int (ed_lenT (ed_var rfl d1)) ed_int))) (fun hw H2 e2 => ?_) fun hw H2 e2 => ?_
  · -- the number of verses
    have hc : chkR B.length r R = .error (badBook r (-1)) := by
      unfold chkR defR
      rw [if_pos]
      simp only [hnR, Bool.or_eq_true, Bool.not_eq_true', Bool.and_eq_false_iff, decide_eq_true_eq, decide_eq_false_iff_not] at hw
      omega
    show tMkO _ _ _ _ _ _ _
    refine w_raise2 mk_BadBook.hm (ea_cons (ed_var rfl (dp_ex (e1.trans e2) hr')) (ea_cons (ed_neg ed_int) ea_nil)) (lg (by omega)) (lg (by omega)) fun cls dd H3 e3 hE => ?_
    exact q2 _ hc cls dd H3 ((e1.trans e2).trans e3) hE
  · have hw' : r < 60 ∧ 1 ≤ R.length ∧ R.length ≤ 4 := by
      simp only [hnR, Bool.or_eq_false_iff, Bool.not_eq_false', Bool.and_eq_true, decide_eq_true_eq, decide_eq_false_iff_not] at hw
      omega
    have hdef : defR B.length r R = (R.findIdx? fun v => !goodV B.length r v).map fun j => (j : Int) := by
      unfold defR
      rw [if_neg]
      omega
    refine w_for (ew_ET (ed_var rfl (dp_ex e2 d1))) (fun H0 i σ' H' => Ex H0 H' ∧ (∃ y3 y4, σ' = [some vb, some vr, some v1, y3, y4]) ∧ ∀ j, j < i → ∀ v, R[j]? = some v → goodV B.length r v = true) (fun H3 e3 => ⟨Evl.Ex.refl _, ⟨none, none, rfl⟩, fun j hj => by omega⟩) (fun H3 i σ' H' p => p.1) (fun H3 e3 i d x σ' H' H'' hd p e' dx => ?_) fun H3 e3 σ' H' p => ?_
    · obtain ⟨eH, ⟨y3, y4, rfl⟩, hg⟩ := p
      obtain ⟨d', hd', rfl⟩ := enumD_get hd
      obtain ⟨v, hv, rfl⟩ := map_get hd'
      refine g_pair dx fun u1 u2 du1 du2 => ?_
      have ee : Ex H H'' := (((e1.trans e2).trans e3).trans eH).trans e'
      have hvl : i < R.length := (List.getElem?_eq_some_iff.mp hv).1
      refine w_when (SB.et_not (et_truB (ed_callP (ea_cons (ed_var rfl (dp_ex ee hb)) (ea_cons (ed_var rfl (dp_ex ee hr')) (ea_cons (ed_var rfl du2) ea_nil))) ⟨B, r, v, rfl, hsR.it v (List.mem_of_getElem? hv), rfl⟩))) (fun hw H4 e4 => ?_) fun hw H4 e4 => ?_
      · rw [Bool.not_eq_true'] at hw
        have hc : chkR B.length r R = .error (badBook r i) := by
          unfold chkR
          rw [hdef]
          have hf : R.findIdx? (fun v => !goodV B.length r v) = some i := by
            rw [List.findIdx?_eq_some_iff_getElem]
            refine ⟨hvl, ?_, fun j hj => ?_⟩
            · have : R[i] = v := by
                have := List.getElem?_eq_getElem hvl
                rw [hv] at this
                exact (Option.some.inj this).symm
              rw [this, hw]; rfl
            · rw [hg j hj _ (List.getElem?_eq_getElem (by omega))]; decide
          rw [hf]; rfl
        show tMkO _ _ _ _ _ _ _
        refine w_raise2 mk_BadBook.hm (ea_cons (ed_var rfl (dp_ex (ee.trans e4) hr')) (ea_cons (ed_var rfl (dp_ex e4 du1)) ea_nil)) (lg (by omega)) (lg (by omega)) fun cls dd H5 e5 hE => ?_
        exact q2 _ hc cls dd H5 ((ee.trans e4).trans e5) hE
      · rw [Bool.not_eq_false'] at hw
        refine ⟨(eH.trans e').trans e4, ⟨some u1, some u2, rfl⟩, fun j hj v' hv' => ?_⟩
        by_cases hji : j = i
        · subst hji
          rw [hv] at hv'
          cases hv'
          exact hw
        · exact hg j (by omega) v' hv'
    · obtain ⟨eH, _, hg⟩ := p
      have hc : chkR B.length r R = .ok .none := by
        unfold chkR
        rw [hdef]
        have hf : R.findIdx? (fun v => !goodV B.length r v) = none := by
          rw [List.findIdx?_eq_none_iff]
          intro v hv
          obtain ⟨j, hj⟩ := List.mem_iff_getElem?.mp hv
          have hjl := (List.getElem?_eq_some_iff.mp hj).1
          rw [hg j (by simp [enumD]; exact hjl) v hj]; rfl
        rw [hf]; rfl
      exact q1 _ hc .non H' (((e1.trans e2).trans e3).trans eH) .non
abbrev s_check_book : Stmt := topS 22
theorem sc_check_book : FnScope ["book", "refrain"] ["book"] (fnScope s_check_book) := fnScope_by (by decide +kernel)
theorem ok_check_book {C_BadBook : Addr} {f : Addr} {fd : FuncData} (F : Def K mg "check_book" s_check_book f fd) (b : L2.Binds K fd ["book"] []) (mk_BadBook : MakX P w K mg base 1 "BadBook" C_BadBook (spI_BadBook C_BadBook)) (m_range : mg "range" = none) (m_len : mg "len" = none) (f_check_refrain : CalX P w K mg base 5 "check_refrain" (sp_check_refrain K mg) []) :
    CalX P w K mg base 6 "check_book" (sp_check_book K mg) [] := by
  refine calX0 F b .nil sc_check_book spX_len (fun cdv A outer s H vs Q E hr h => ?_)
  have ndX := sc_check_book.nd
  obtain ⟨_, ds, o, hds, ⟨B, rfl, hB, rfl⟩, q1, q2⟩ := h
  obtain ⟨vb, rfl, hb⟩ := dp1 hds
  refine ⟨_, (pss_cons (ps_if (pt_not (pt_truthK (K := K) rfl (pv 0) (by intro _; rfl)))
        (pss_one (ps_raise rfl (takes_of rfl rfl rfl rfl) (pmk_x mk_BadBook hr (by decide) (by rfl) (pa_cons pe_int (pa_cons (pe_un un_neg pe_int) pa_nil))))) pss_nil)
      (pss_one (ps_for (passes_of rfl) rfl (pi_range1 rfl m_range (pa_cons (pe_callB (k_len (K := K) rfl) (by rfl) m_len (by decide +kernel) (pa_cons (pv 0) pa_nil)) pa_nil)) (pg_name (i := 1) ndX rfl (.inl rfl))
        (pss_one (ps_expr (pe_cX f_check_refrain hr (by decide) (takes_of rfl rfl rfl rfl) (by rfl) (pa_cons (pv 0) (pa_cons (pv 1) pa_nil)))))))), ?_⟩
  have hsz := hB.len
  refine q_when (SB.et_not (et_truT (ed_var rfl hb))) (fun hw H1 e1 => ?_) fun hw H1 e1 => ?_
  · have hBn : B = [] := by cases B with | nil => rfl | cons _ _ => cases hw
    have hc : chkB B = .error (badBook 0 (-1)) := by rw [hBn]; rfl
    show tMkO _ _ _ _ _ _ _
    exact w_raise2 (K := K) mk_BadBook.hm (ea_cons ed_int (ea_cons (ed_neg ed_int) ea_nil)) (lg (by omega)) (lg (by omega)) fun cls dd H2 e2 hE => q2 _ hc cls dd H2 (e1.trans e2) hE
  · have hBn : B ≠ [] := fun z => by rw [z] at hw; cases hw
    have hdB : defB B = defFrom B.length 0 B := if_neg hBn
    have hlB : ((B.map eR).length : Int) = (B.length : Int) := by rw [List.length_map]
    refine w_for (ew_R1 (ed_lenT (ed_var rfl (dp_ex e1 hb))) (by omega)) (fun H0 i σ' H' => Ex H0 H' ∧ (∃ y1, σ' = [some vb, y1]) ∧ defFrom B.length 0 B = defFrom B.length i (B.drop i)) (fun H2 e2 => ⟨Evl.Ex.refl _, ⟨none, rfl⟩, rfl⟩) (fun H3 i σ' H' p => p.1) (fun H2 e2 i d x σ' H' H'' hd p e' dx => ?_) fun H2 e2 σ' H' p => ?_
    · obtain ⟨eH, ⟨y1, rfl⟩, hdf⟩ := p
      obtain ⟨hi, rfl⟩ := rangeD_get hd
      have hiB : i < B.length := by omega
      rw [Int.zero_add] at dx
      have ee : Ex H H'' := ((e1.trans e2).trans eH).trans e'
      have hdr : B.drop i = B[i] :: B.drop (i + 1) := List.drop_eq_getElem_cons hiB
      show tDrop _ _ _ _
      refine w_callX (ea_cons (ed_var rfl (dp_ex ee hb)) (ea_cons (ed_var rfl dx) ea_nil)) ⟨B, i, B[i], rfl, hB, List.getElem?_eq_getElem hiB, rfl⟩ rfl (fun d hk v H3 e3 dv => ?_) fun er hk cls dd H3 e3 hE => ?_
      · refine ⟨(eH.trans e').trans e3, ⟨some x, rfl⟩, ?_⟩
        rw [hdf, hdr]
        unfold chkR at hk
        cases hz : defR B.length i B[i] with
        | none => rw [defFrom_none hz]
        | some v => rw [hz] at hk; cases hk
      · refine q2 er ?_ cls dd H3 (ee.trans e3) hE
        unfold chkB
        rw [hdB, hdf, hdr]
        unfold chkR at hk
        cases hz : defR B.length i B[i] with
        | none => rw [hz] at hk; cases hk
        | some v => rw [hz] at hk; rw [defFrom_some hz]; exact hk
    · obtain ⟨eH, _, hdf⟩ := p
      have hl : (rangeD 0 (((B.map eR).length : Int)).toNat).length = B.length := by simp [rangeD]
      rw [hl, List.drop_length] at hdf
      have hc : chkB B = .ok .none := by
        unfold chkB
        rw [hdB, hdf]; rfl
      exact q1 _ hc .non H' ((e1.trans e2).trans eH) .non
abbrev s_called_refrains : Stmt := topS 23
theorem sc_called_refrains : FnScope ["verses", "verse", "item"] ["verses"] (fnScope s_called_refrains) := fnScope_by (by decide +kernel)
theorem ok_called_refrains  {f : Addr} {fd : FuncData} (F : Def K mg "called_refrains" s_called_refrains f fd) (b : L2.Binds K fd ["verses"] []) (f_is_word : Cal P w K mg base 1 "is_word" (sp_is_word K) []) :
    Cal P w K mg base 2 "called_refrains" (sp_called_refrains K) [] := by
  refine cal0 F b .nil sc_called_refrains spF_len (fun cdv A outer s H vs Q E hr h => ?_)
  have ndX := sc_called_refrains.nd
  obtain ⟨_, ds, es, hds, ⟨R, rfl, hR, hsz, rfl⟩, q⟩ := h
  obtain ⟨vb, rfl, hb⟩ := dp1 hds
  refine ⟨_, (pss_one (ps_ret (pe_lc2 (own := [("verse", 1), ("item", 2)]) (vs1 := [2]) rfl ndX (k_any (K := K) rfl (pv 0)) (blkOk_by (N := ["verses", "verse", "item"]) (sc := fnScope s_called_refrains) (by decide +kernel)) (by decide) (fun _ _ _ _ _ => (pg_name (i := 1) ndX rfl (.inl rfl))) (fun _ _ _ _ _ => pts_nil) (fun _ _ _ _ _ => by exact (k_any (K := K) rfl (pv 1))) (fun _ _ _ _ _ => by exact (pg_name (i := 2) ndX rfl (.inl rfl))) (fun _ _ _ _ _ => by exact (pts_one (pt_not (pt_truthK (K := K) rfl (pe_c f_is_word hr (by decide) (by rfl) (pa_cons (pv 2) pa_nil)) (by intro _; rfl))))) (fun _ _ _ _ _ => by exact (pv 2))))), ?_⟩
  refine w_retL ((el_lc2 (α := Key) (β := List Key) (en1 := eV) (en2 := eI) (ys := id) (xs := R) (ew_Ti (ed_var rfl hb) ?_) (fun x => !isW x) (fun x => match x with | .inl i => .int i | .inr _ => .none) (fun b hbm x H1 e dx => ew_Ti (ed_var rfl dx) ?_) (fun b _ => imm_eV b) (fun b hbm a ham x y H1 e dx dy => ?_) (fun b hbm a ham hp x y H1 e dx dy => ?_) (fun b hbm a ham => ?_) ?_).is ?_) q
  · exact imms_mem.mpr fun d hd => by
      obtain ⟨v, _, rfl⟩ := List.mem_map.mp hd
      exact imm_eV v
  · exact imms_mem.mpr fun d hd => by
      obtain ⟨v, _, rfl⟩ := List.mem_map.mp hd
      exact imm_eI v
  · exact SB.et_not (et_truB (ed_callP (ea_cons (ed_var rfl dy) ea_nil) ⟨a, rfl, rfl⟩))
  · cases a with
    | inl i => exact ed_var rfl dy
    | inr z => cases hp
  · cases a <;> rfl
  · rw [List.map_id]
    exact flat_small R hsz hR
  · rw [List.map_id]
    exact nums_flat R
end
end K01
set_option Elab.async false
set_option linter.all false
set_option maxRecDepth 100000
namespace K01
open PySem PySem.Spec PyProof.Rows L2 SB C8
open Evl (Ex fresh_back)
theorem _root_.SB.Ew.is {K : PySem.W.Frag} {wi : TI} {σ : L2.St} {H : Hp} {ds es : List PyData} {S : Hp → Hp → Prop} (h : Ew K wi σ H ds S) (e : ds = es) : Ew K wi σ H es S := e ▸ h
def callsOf (R : List (List Key)) : List Int := (R.map nums).flatten
def mark (c : List Int) (bs : List Bool) : List Bool := c.foldl (fun bs j => bs.set j.toNat true) bs
/-- what is reached by the first i refrains -/
def marks (B : List (List (List Key))) : Nat → List Bool
  | 0 => (List.replicate B.length false).set 0 true
  | i + 1 => if (marks B i).getD i false then mark (callsOf (B.getD i [])) (marks B i) else marks B i
theorem mark_len {c : List Int} : ∀ {bs : List Bool}, (mark c bs).length = bs.length := by
  induction c with
  | nil => intro _; rfl
  | cons x c ih => intro bs; exact (ih (bs := bs.set x.toNat true)).trans (List.length_set ..)
theorem marks_len {B : List (List (List Key))} : ∀ i, (marks B i).length = B.length
  | 0 => by simp [marks]
  | i + 1 => by
    unfold marks
    split
    · rw [mark_len, marks_len i]
    · exact marks_len i
theorem mark_snoc {c : List Int} {x : Int} {bs : List Bool} : mark (c ++ [x]) bs = (mark c bs).set x.toNat true := by simp [mark]
theorem imms_bl (bs : List Bool) : imms (bs.map .bool) = true := imms_mem.mpr fun d hd => by
  obtain ⟨x, _, rfl⟩ := List.mem_map.mp hd; rfl
theorem imms_int (bs : List Int) : imms (bs.map .int) = true := imms_mem.mpr fun d hd => by
  obtain ⟨x, _, rfl⟩ := List.mem_map.mp hd; rfl
theorem imms_eB (B : List (List (List Key))) : imms (B.map eR) = true := imms_mem.mpr fun d hd => by
  obtain ⟨v, _, rfl⟩ := List.mem_map.mp hd
  exact imm_eR v
theorem defFrom_ok {n : Nat} : ∀ {r : Nat} {B : List (List (List Key))}, defFrom n r B = none → ∀ (i : Nat) (R : List (List Key)), B[i]? = some R → defR n (r + i) R = none
  | r, [], _, i, R, h => by simp at h
  | r, R0 :: Rs, hd, i, R, h => by
    unfold defFrom at hd
    cases hz : defR n r R0 with
    | some v => rw [hz] at hd; cases hd
    | none =>
      rw [hz] at hd
      cases i with
      | zero => simp at h; subst h; exact hz
      | succ i =>
        have := defFrom_ok (r := r + 1) hd i R (by simpa using h)
        rw [← this]
        congr 1
        omega
/-- a valid book -/
structure Good (B : List (List (List Key))) : Prop where
  ne : B ≠ []
  r : ∀ (i : Nat) (R : List (List Key)), B[i]? = some R → i < 60 ∧ 1 ≤ R.length ∧ R.length ≤ 4 ∧ ∀ v ∈ R, goodV B.length i v = true
theorem good_of {B : List (List (List Key))} (h : defB B = none) : Good B := by
  unfold defB at h
  by_cases hn : B = []
  · rw [if_pos hn] at h; cases h
  · rw [if_neg hn] at h
    refine ⟨hn, fun i R hR => ?_⟩
    have h1 := defFrom_ok h i R hR
    rw [Nat.zero_add] at h1
    unfold defR at h1
    by_cases hc : 60 ≤ i ∨ ¬(1 ≤ R.length ∧ R.length ≤ 4)
    · rw [if_pos hc] at h1; cases h1
    · rw [if_neg hc] at h1
      cases hz : R.findIdx? (fun v => !goodV B.length i v) with
      | some j => rw [hz] at h1; cases h1
      | none =>
        refine ⟨by omega, by omega, by omega, fun v hv => ?_⟩
        have := List.findIdx?_eq_none_iff.mp hz v hv
        simpa using this
theorem Good.len {B : List (List (List Key))} (h : Good B) : 1 ≤ B.length ∧ B.length ≤ 60 := by
  have h0 : B.length ≠ 0 := fun z => h.ne (List.eq_nil_of_length_eq_zero z)
  refine ⟨by omega, ?_⟩
  by_cases hc : B.length ≤ 60
  · exact hc
  · have := h.r 60 B[60] (List.getElem?_eq_getElem (by omega))
    omega
theorem goodV_it {n : Nat} {r : Int} {v : List Key} (h : goodV n r v = true) : 1 ≤ v.length ∧ v.length ≤ 6 ∧ ∀ x ∈ v, goodI n r x = true := by
  unfold goodV at h
  simp only [Bool.and_eq_true, decide_eq_true_eq] at h
  refine ⟨by omega, by omega, fun x hx => ?_⟩
  have := List.all_eq_true.mp h.2 (goodI n r x) (List.mem_map_of_mem hx)
  exact this
theorem mem_calls {R : List (List Key)} {c : Int} : c ∈ callsOf R ↔ ∃ v ∈ R, Sum.inl c ∈ v := by
  unfold callsOf nums
  rw [List.mem_flatten]
  constructor
  · rintro ⟨l, hl, hc⟩
    obtain ⟨v, hv, rfl⟩ := List.mem_map.mp hl
    obtain ⟨x, hx, hxc⟩ := List.mem_filterMap.mp hc
    cases x with
    | inl i => cases hxc; exact ⟨v, hv, hx⟩
    | inr w => cases hxc
  · rintro ⟨v, hv, hc⟩
    exact ⟨_, List.mem_map_of_mem hv, List.mem_filterMap.mpr ⟨_, hc, rfl⟩⟩
theorem Good.calls {B : List (List (List Key))} (h : Good B) {i : Nat} {R : List (List Key)} (hR : B[i]? = some R) {c : Int} (hc : c ∈ callsOf R) : (i : Int) < c ∧ c < (B.length : Int) := by
  obtain ⟨v, hv, hx⟩ := mem_calls.mp hc
  have := (goodV_it ((h.r i R hR).2.2.2 v hv)).2.2 _ hx
  simp only [goodI, Bool.and_eq_true, decide_eq_true_eq] at this
  exact this
/-- the refrains that are reached -/
def reach (B : List (List (List Key))) : List Int := ((List.range B.length).map fun i : Nat => (0 : Int) + (i : Nat)).filter fun i => (marks B B.length).getD i.toNat false
def rchB (B : List (List (List Key))) : Except Err (List PyData) := match defB B with
  | none => .ok ((reach B).map .int)
  | some (r, v) => .error (badBook r v)
def iniB (B : List (List (List Key))) : Except Err PyData := match defB B with
  | none => .ok (.tuple [.tuple (List.replicate B.length (.int 0)), .tuple []])
  | some (r, v) => .error (badBook r v)
abbrev sp_reachable_refrains (K : PySem.W.Frag) (mg : Str → Option Value) : Sp := spXF K mg 1 fun ds o => ∃ B : List (List (List Key)), ds = [eB B] ∧ SmB B ∧ o = rchB B
abbrev sp_initial_state (K : PySem.W.Frag) (mg : Str → Option Value) : Sp := spX K mg 1 fun ds o => ∃ B : List (List (List Key)), ds = [eB B] ∧ SmB B ∧ o = iniB B
theorem rep_flat {α β : Type} (f : α → β) (x : α) (n : Nat) : (List.replicate n [f x]).flatten = (List.replicate n x).map f := by simp
theorem chkB_ok {B : List (List (List Key))} {d : PyData} (h : chkB B = .ok d) : defB B = none := by
  unfold chkB at h
  cases hz : defB B with
  | none => rfl
  | some p => rw [hz] at h; cases h
section
variable {P : Program} {w : World} {K : PySem.W.Frag} {mg : Str → Option Value} {base : Heap}
abbrev s_reachable_refrains : Stmt := topS 24
theorem sc_reachable_refrains : FnScope ["book", "reached", "refrain", "verses", "called"] ["book"] (fnScope s_reachable_refrains) := fnScope_by (by decide +kernel)
theorem ok_reachable_refrains  {f : Addr} {fd : FuncData} (F : Def K mg "reachable_refrains" s_reachable_refrains f fd) (b : L2.Binds K fd ["book"] []) (f_check_book : CalX P w K mg base 6 "check_book" (sp_check_book K mg) []) (m_len : mg "len" = none) (m_enumerate : mg "enumerate" = none) (f_called_refrains : Cal P w K mg base 2 "called_refrains" (sp_called_refrains K) []) (m_range : mg "range" = none) :
    CalX P w K mg base 7 "reachable_refrains" (sp_reachable_refrains K mg) [] := by
  refine calX0 F b .nil sc_reachable_refrains spXF_len (fun cdv A outer s H vs Q E hr h => ?_)
  have ndX := sc_reachable_refrains.nd
  obtain ⟨_, ds, o, hds, ⟨B, rfl, hB, rfl⟩, q1, q2⟩ := h
  obtain ⟨vb, rfl, hb⟩ := dp1 hds
  refine ⟨_, (pss_cons (ps_expr (pe_cX f_check_book hr (by decide) (takes_of rfl rfl rfl rfl) (by rfl) (pa_cons (pv 0) pa_nil)))
      (pss_cons (ps_set (i := 1) ndX rfl (.inr rfl) (pe_op (k_mul2 (K := K) rfl) (pe_lst (pa_cons pe_bl pa_nil)) (pe_callB (k_len (K := K) rfl) (by rfl) m_len (by decide +kernel) (pa_cons (pv 0) pa_nil))))
      (pss_cons (ps_asg pe_bl (pg_sub (pv 1) pe_int set_list))
      (pss_cons (ps_for (passes_of rfl) rfl (k_enum (K := K) rfl rfl m_enumerate (pa_cons (pv 0) pa_nil)) (k_tup (K := K) rfl (pg_tup (n := 2) rfl (pgs_cons (pg_name (i := 2) ndX rfl (.inl rfl)) (pgs_cons (pg_name (i := 3) ndX rfl (.inl rfl)) pgs_nil))))
        (pss_one (ps_if (pt_truthK (K := K) rfl (pe_ix (k_ix (K := K) rfl) (pv 1) (pv 2) (fun _ _ => rfl)) (by intro _; rfl))
          (pss_one (ps_for (passes_of rfl) rfl (k_any (K := K) rfl (pe_c f_called_refrains hr (by decide) (by rfl) (pa_cons (pv 3) pa_nil))) (pg_name (i := 4) ndX rfl (.inl rfl))
            (pss_one (ps_asg pe_bl (pg_sub (pv 1) (pv 4) set_list))))) pss_nil)))
      (pss_one (ps_ret (pe_lc (own := [("refrain", 2)]) rfl ndX (pi_range1 rfl m_range (pa_cons (pe_callB (k_len (K := K) rfl) (by rfl) m_len (by decide +kernel) (pa_cons (pv 0) pa_nil)) pa_nil)) (blkOk_by (N := ["book", "reached", "refrain", "verses", "called"]) (sc := fnScope s_reachable_refrains) (by decide +kernel)) (fun _ _ _ _ _ => (pg_name (i := 2) ndX rfl (.inl rfl))) (fun _ _ _ _ _ => (pts_one (pt_truthK (K := K) rfl (pe_ix (k_ix (K := K) rfl) (pv 1) (pv 2) (fun _ _ => rfl)) (by intro _; rfl)))) (fun _ _ _ _ _ => (pv 2))))))))), ?_⟩
  have hsz := hB.len
  show tDrop _ _ _ _
  refine w_callX (ea_cons (ed_var rfl hb) ea_nil) ⟨B, rfl, hB, rfl⟩ rfl (fun d hk v H1 e1 dv => ?_) fun er hk cls dd H1 e1 hE => ?_
  · have hdef := chkB_ok hk
    have hG := good_of hdef
    have hl := hG.len
    have hlen : ((B.map eR).length : Int) = (B.length : Int) := by rw [List.length_map]
    have hb1 := dp_ex e1 hb
    refine q_asgL (el_rep2 (el_lst (ea_cons ed_bl ea_nil) (by simp)) (ed_lenT (ed_var rfl hb1)) (by omega) (by rw [hlen]; simp; omega)) fun p H2 hp e2 l2 => ?_
    rw [hlen, Int.toNat_natCast, rep_flat PyData.bool] at l2
    refine q_setL (j := 0) l2 (imms_bl _) rfl ed_bl rfl ed_int (by simp; omega) fun H3 e3 H4 b4 l4 => ?_
    have l4' : Li K H4 p ((marks B 0).map .bool) := by
      have : (List.map PyData.bool (List.replicate B.length false)).set 0 (.bool true) = (marks B 0).map .bool := by
        unfold marks
        rw [List.map_set]
      rw [← this]
      exact l4
    have hb4 : Dp K H4 vb (eB B) := dp_tx (Tx.trans (Tx.of (e2.trans e3)) b4.1) (imm_eB B) hb1
    refine q_for (ew_ETi (ed_var rfl hb4) (imms_eB B)) (fun H0 i σ' H' => Bx (· = p) H0 H' ∧ (∃ y2 y3 y4, σ' = [some vb, some (.ref p), y2, y3, y4]) ∧ Li K H' p ((marks B i).map .bool)) (fun H5 e5 => ⟨Bx.refl, ⟨none, none, none, rfl⟩, l4'.ex e5⟩) (fun H5 i σ' H' p => p.1.1) (fun H5 e5 i d x σ' H6 H7 hd p7 e7 dx => ?_) fun H5 e5 σ' H6 p6 => ?_
    · obtain ⟨b6, ⟨y2, y3, y4, rfl⟩, l6⟩ := p7
      obtain ⟨d', hd', rfl⟩ := enumD_get hd
      obtain ⟨R, hR, rfl⟩ := map_get hd'
      refine g_pair dx fun u1 u2 du1 du2 => ?_
      have hi : i < B.length := (List.getElem?_eq_some_iff.mp hR).1
      have hmi : (marks B i)[i]? = some ((marks B i).getD i false) := by
        rw [List.getD_eq_getElem?_getD, List.getElem?_eq_getElem (by rw [marks_len]; exact hi)]
        rfl
      have hBi : B.getD i [] = R := by rw [List.getD_eq_getElem?_getD, hR]; rfl
      refine w_when (et_truB (ed_ixL (d := .bool ((marks B i).getD i false)) (ed_var rfl ((l6.ex e7).dp)) (ed_var rfl du1) (atI_nat (by rw [List.getElem?_map, hmi]; rfl)))) (fun hw H8 e8 => ?_) fun hw H8 e8 => ?_
      · have hsR := hB.it R (List.mem_of_getElem? hR)
        have hgR := hG.r i R hR
        have l8 := l6.ex (e7.trans e8)
        refine w_for (ew_El (A := (· = p)) (el_callF (ea_cons (ed_var rfl (dp_ex e8 du2)) ea_nil) ⟨R, rfl, hsR, by omega, rfl⟩) (imms_int _) (fun b hb => by subst hb; exact l8.known)) (fun H0 k σ' H' => Bx (· = p) H0 H' ∧ (∃ y4, σ' = [some vb, some (.ref p), some u1, some u2, y4]) ∧ Li K H' p ((mark ((callsOf R).take k) (marks B i)).map .bool)) (fun H9 e9 => ⟨Bx.refl, ⟨y4, rfl⟩, l8.ex e9⟩) (fun H9 k σ' H' p => p.1) (fun H9 e9 k d x σ' H10 H11 hd p10 e11 dx => ?_) fun H9 e9 σ' H10 p10 => ?_
        · obtain ⟨b10, ⟨y4, rfl⟩, l10⟩ := p10
          obtain ⟨c, hc, rfl⟩ := map_get hd
          have hcb := hG.calls hR (List.mem_of_getElem? hc)
          have hcn : ((c.toNat : Nat) : Int) = c := Int.toNat_of_nonneg (by omega)
          show tAsg _ _ _ _ _
          refine w_setL (j := c.toNat) (l10.ex e11) (imms_bl _) rfl ed_bl rfl (by rw [hcn]; exact ed_var rfl dx) (by rw [List.length_map, mark_len, marks_len]; omega) fun H12 e12 H13 b13 l13 => ?_
          refine ⟨(b10.trans (Bx.of (e11.trans e12))).trans b13, ⟨_, rfl⟩, ?_⟩
          have : (List.map PyData.bool (mark ((callsOf R).take k) (marks B i))).set c.toNat (.bool true) = (mark ((callsOf R).take (k + 1)) (marks B i)).map .bool := by
            have hc' : (callsOf R)[k]? = some c := hc
            rw [List.take_add_one, hc', Option.toList_some, mark_snoc, List.map_set]
          rw [← this]
          exact l13
        · obtain ⟨b10, ⟨y4, rfl⟩, l10⟩ := p10
          refine ⟨(b6.trans (Bx.of ((e7.trans e8).trans e9))).trans b10, ⟨_, _, _, rfl⟩, ?_⟩
          have : marks B (i + 1) = mark ((callsOf R).take ((List.map PyData.int ((R.map nums).flatten)).length)) (marks B i) := by
            rw [List.take_of_length_le (by rw [List.length_map]; exact Nat.le_refl _)]
            conv => lhs; unfold marks
            rw [if_pos hw, hBi]
          rw [this]
          exact l10
      · refine ⟨b6.trans (Bx.of (e7.trans e8)), ⟨_, _, _, rfl⟩, ?_⟩
        have : marks B (i + 1) = marks B i := by
          conv => lhs; unfold marks
          rw [if_neg (by rw [hw]; decide)]
        rw [this]
        exact l6.ex (e7.trans e8)
    · obtain ⟨b6, ⟨y2, y3, y4, rfl⟩, l6⟩ := p6
      have hle : (enumD (B.map eR)).length = B.length := by simp [enumD]
      rw [hle] at l6
      have hb6 : Dp K H6 vb (eB B) := dp_tx b6.1 (imm_eB B) (dp_ex e5 hb4)
      have hrc : rchB B = .ok ((reach B).map .int) := by unfold rchB; rw [hdef]
      have eAll : Ex H H6 := by
        refine Bx.ex (A := (· = p)) (((Bx.of ((e1.trans e2).trans e3)).trans b4).trans ((Bx.of e5).trans b6)) fun b hb => ?_
        subst hb
        exact fresh_back e1 hp
      refine w_retL (el_lcN (lo := 0) (n := B.length) ((ew_R1 (ed_lenT (ed_var rfl hb6)) (by omega)).is (by rw [hlen, Int.toNat_natCast])) (fun i => (marks B B.length).getD i.toNat false) (fun i => .int i) (fun i hi H7 e7 => ?_) (fun i hi hp H7 e7 => ?_) (fun _ _ => rfl) (by omega)) fun r H7 hr e7 l7 => q1 _ hrc r H7 (fresh_back eAll hr) (eAll.trans e7) l7
      · refine et_truB ((ed_ixL (d := .bool ((marks B B.length).getD (0 + (i : Int)).toNat false)) (ed_var rfl (l6.ex e7).dp) (ed_var rfl (.int _)) ?_))
        rw [Int.zero_add]
        refine atI_nat ?_
        rw [List.getElem?_map, Int.toNat_natCast, List.getD_eq_getElem?_getD, List.getElem?_eq_getElem (by rw [marks_len]; exact hi)]
        rfl
      · exact ed_var rfl (.int _)
  · refine q2 er ?_ cls dd H1 e1 hE
    unfold chkB at hk
    unfold rchB
    cases hz : defB B with
    | none => rw [hz] at hk; cases hk
    | some p => rw [hz] at hk; obtain ⟨a, b⟩ := p; cases hk; rfl
abbrev s_initial_state : Stmt := topS 26
theorem sc_initial_state : FnScope ["book"] ["book"] (fnScope s_initial_state) := fnScope_by (by decide +kernel)
theorem ok_initial_state  {f : Addr} {fd : FuncData} (F : Def K mg "initial_state" s_initial_state f fd) (b : L2.Binds K fd ["book"] []) (f_check_book : CalX P w K mg base 6 "check_book" (sp_check_book K mg) []) (m_len : mg "len" = none) :
    CalX P w K mg base 7 "initial_state" (sp_initial_state K mg) [] := by
  refine calX0 F b .nil sc_initial_state spX_len (fun cdv A outer s H vs Q E hr h => ?_)
  have ndX := sc_initial_state.nd
  obtain ⟨_, ds, o, hds, ⟨B, rfl, hB, rfl⟩, q1, q2⟩ := h
  obtain ⟨vb, rfl, hb⟩ := dp1 hds
  refine ⟨_, (pss_cons (ps_expr (pe_cX f_check_book hr (by decide) (takes_of rfl rfl rfl rfl) (by rfl) (pa_cons (pv 0) pa_nil)))
      (pss_one (ps_ret (pe_tup (pa_cons (pe_op (k_mul2 (K := K) rfl) (pe_tup (pa_cons pe_int pa_nil)) (pe_callB (k_len (K := K) rfl) (by rfl) m_len (by decide +kernel) (pa_cons (pv 0) pa_nil))) (pa_cons (pe_tup pa_nil) pa_nil)))))), ?_⟩
  have hsz := hB.len
  show tDrop _ _ _ _
  refine w_callX (ea_cons (ed_var rfl hb) ea_nil) ⟨B, rfl, hB, rfl⟩ rfl (fun d hk v H1 e1 dv => ?_) fun er hk cls dd H1 e1 hE => ?_
  · have hdef := chkB_ok hk
    have hG := good_of hdef
    have hl := hG.len
    have hlen : ((B.map eR).length : Int) = (B.length : Int) := by rw [List.length_map]
    have hrc : iniB B = .ok (.tuple [.tuple (List.replicate B.length (.int 0)), .tuple []]) := by unfold iniB; rw [hdef]
    refine w_ret ((ed_tup (ea_cons (ed_repT (ed_tup (ea_cons ed_int ea_nil) (by simp)) (ed_lenT (ed_var rfl (dp_ex e1 hb))) (by simp) (by omega) (by simp)) (ea_cons (ed_tup ea_nil (by simp)) ea_nil)) (by simp)).is ?_) fun v H2 e2 dv => q1 _ hrc v H2 (e1.trans e2) dv
    rw [hlen, Int.toNat_natCast]
    simp
  · refine q2 er ?_ cls dd H1 e1 hE
    unfold chkB at hk
    unfold iniB
    cases hz : defB B with
    | none => rw [hz] at hk; cases hk
    | some p => rw [hz] at hk; obtain ⟨a, b⟩ := p; cases hk; rfl
end
end K01
set_option Elab.async false
set_option linter.all false
set_option maxRecDepth 100000
set_option maxHeartbeats 1000000
namespace SB
open PySem PySem.Spec PyProof.Rows L2 Evl
theorem of_len (s : String) : (Str.ofString s).length = s.length := by
  simp [Str.ofString, Str.length, cpsOfBytes_string, String.length_toList]
theorem tos_len {i : Int} (h : i.natAbs.log2 < 100) : (Str.ofString (toString i)).length ≤ 101 := by
  have hn : i.natAbs < 2 ^ 100 := by
    by_cases z : i.natAbs = 0
    · rw [z]; decide
    · exact (Nat.log2_lt z).mp h
  rw [of_len]
  cases i with
  | ofNat n =>
    show (Nat.repr n).length ≤ 101
    have := nat_repr_length_le (n := n) (k := 100) (by decide) hn
    omega
  | negSucc n =>
    show ("-" ++ Nat.repr (n + 1)).length ≤ 101
    have := nat_repr_length_le (n := n + 1) (k := 100) (by decide) hn
    rw [String.length_append]
    show 1 + _ ≤ _
    omega
theorem tJs_nil {acc : Str} {σ : L2.St} {H : Hp} {Q : Str → Hp → Prop} (h : Q acc H) : tJs [] acc σ H Q := h
theorem tJs_str {t : Str} {ts : List TE} {acc : Str} {σ : L2.St} {H : Hp} {Q : Str → Hp → Prop} {n : Nat} (ha : acc.length ≤ n) (hn : n + t.length ≤ 100000) (h : ∀ acc' : Str, acc'.length ≤ n + t.length → tJs ts acc' σ H Q) : tJs (tC (.str t) :: ts) acc σ H Q :=
  ⟨t, rfl, sz_of (by rw [Str.length_append]; omega), h _ (by rw [Str.length_append]; omega)⟩
theorem tJs_int {j : Nat} {i : Int} {ts : List TE} {acc : Str} {σ : L2.St} {H : Hp} {Q : Str → Hp → Prop} {n : Nat} (hs : σ[j]? = some (some (.int i))) (hi : i.natAbs.log2 < 100) (ha : acc.length ≤ n) (hn : n + 101 ≤ 100000) (h : ∀ acc' : Str, acc'.length ≤ n + 101 → tJs ts acc' σ H Q) : tJs (tFmt (tVar j) :: ts) acc σ H Q :=
  ⟨_, hs, .inr ⟨i, rfl, by omega, _, rfl, sz_of (by have := tos_len hi; rw [Str.length_append]; omega), h _ (by have := tos_len hi; rw [Str.length_append]; omega)⟩⟩
end SB
set_option Elab.async false
set_option linter.all false
set_option maxRecDepth 100000
namespace K01
open PySem PySem.Spec PyProof.Rows L2 SB C8
open Evl (Ex fresh_back)
/-- the def that stands in a class -/
def inCls (i : Nat) : Stmt → Stmt
  | .ClassDef _ _ _ body _ _ _ _ _ _ _ => body.getD i (.Pass ⟨0, 0, 0, 0⟩)
  | _ => .Pass ⟨0, 0, 0, 0⟩
def fnParams : Stmt → Arguments
  | .FunctionDef _ a _ _ _ _ _ _ _ _ => a
  | _ => default
abbrev s_BadBook_init : Stmt := inCls 0 (topS 2)
theorem is_BadBook : InScope ["self", "refrain", "verse"] (fnScope s_BadBook_init) where
  kind := by rfl
  co := by rfl
  gen := by rfl
  nd := by decide
  par := by decide +kernel
  nocell := by decide +kernel
  only := fun x h => by
    have : ∀ y ∈ (fnScope s_BadBook_init).names, y.2 = .free → y.1 = "__class__" := by decide +kernel
    exact this _ (PySem.mem_of_lookup h) rfl
  cls := by decide +kernel
  sup := by decide +kernel
section
variable {P : Program} {w : World} {K : PySem.W.Frag} {mg : Str → Option Value} {base : Heap}
theorem ok_BadBook_init {f C cc cda : Addr} {dV kV doc pm ct oc : Value} {an od : Option Addr} {osl : Array (Option Value)}
    (lk : K.lookup f = some ⟨oc, od, .func (PySem.W.fnX "__init__" "BadBook.__init__" (fnParams s_BadBook_init) (fnBody s_BadBook_init) (fnScope s_BadBook_init) [(("__class__" : Str), cc)] dV kV doc pm an (.ref cda) ct), osl⟩)
    (hcd : PySem.W.codeIn K (.ref cda) "BadBook.__init__" = true) (T : OexC K C) (IC : InCls P K mg C cc f cda)
    (n1 : PySem.W.findIn K (.ref C) "refrain" = some none) (n2 : PySem.W.findIn K (.ref C) "verse" = some none) :
    FnOk P w K mg base C8.CX0 1 f (PySem.W.fnX "__init__" "BadBook.__init__" (fnParams s_BadBook_init) (fnBody s_BadBook_init) (fnScope s_BadBook_init) [(("__class__" : Str), cc)] dV kV doc pm an (.ref cda) ct) ["self", "refrain", "verse"] (spI_BadBook C) := by
  refine fn_exinit (ps0 := ["refrain", "verse"]) (rest := (fnBody s_BadBook_init).drop 1) (k := 0) (sp := spI_BadBook C) lk hcd is_BadBook (by rfl) (by rfl) T IC (fun vs H Q E h => by obtain ⟨a, r, v, rfl, _⟩ := h; rfl) (fun _ => by rfl) (fun _ => by rfl) (fun A outer s H vs Q E hr h => ?_)
  obtain ⟨a, r, v, rfl, ha, h1, h2, q⟩ := h
  refine ⟨a, [.int r, .int v], _, _, rfl, ha, pa_cons (pe_joined (PJ.cons pe_str (PJ.cons (pe_fmt (pv 1)) (PJ.cons pe_str (PJ.cons (pe_fmt (pv 2)) PJ.nil))))) pa_nil, (pss_cons (ps_ost (pv 0) (pv 1)) (pss_one (ps_ost (pv 0) (pv 2)))), ?_⟩
  refine tJs_str (n := 0) (Nat.le_refl _) (by decide +kernel) fun a1 l1 => tJs_int (n := 100) rfl h1 (Nat.le_trans l1 (by decide +kernel)) (by decide) fun a2 l2 => tJs_str l2 (by decide +kernel) fun a3 l3 => tJs_int rfl h2 l3 (by decide +kernel) fun a4 l4 => tJs_nil ?_
  refine ⟨by simp, ha, ?_⟩
  show tOst _ _ _ _ _ _ _
  refine ⟨_, rfl, _, rfl, a, C, rfl, T, n1, .inl ⟨ha, fun dx hdx hne => ?_⟩⟩
  refine ⟨_, rfl, _, rfl, a, C, rfl, T, n2, .inr ⟨dx, _, upd_same, (by rw [upd_ne hne]; exact upd_same), by simp, ?_⟩⟩
  exact q dx hdx hne
end
end K01
set_option Elab.async false
set_option linter.all false
set_option maxRecDepth 100000
set_option maxHeartbeats 1000000
/-! isinstance(e, C) of a caught error of an own class, with or without fields -/
namespace SB
open PySem PySem.Spec PyProof.Rows L2 Evl
def rIsX (K : PySem.W.Frag) (a : Addr) (cls : Value) (d : Option Addr) : List V → Hp → VK → Prop := fun xs H Q => ∃ (D : Addr) (c : V) (cv : Value) (b : Bool), cls = .ref D ∧ ExcC K D ∧ (PySem.W.clsIn K D).isSome = true ∧ xs = [.ref a, c] ∧ (∀ u, RelV c u → u = cv) ∧
  PySem.W.kitOne K (.ref D) cv = some b ∧ (∀ dd, d = some dd → ∃ fs, H dd = some (.xd fs)) ∧ Q (.bl b) H
theorem call_isX {X : Cx} {a : Addr} {oe : Obj} {cls : Value} {d : Option Addr} {pn : List (Addr × Obj)} (hz : Zc cls d oe) (hf : ∃ vs, oe.data = .fields vs) : CallR (X.suite a ((a, oe) :: pn)) (.builtin "isinstance") (rIsX X.K a cls d) := by
  intro pins s σ H xs us Q I r h
  obtain ⟨D, c, cv, b, rfl, hC, hcl, rfl, hc, hk, hd, q⟩ := h
  obtain ⟨u1, u2, rfl, r1, r2⟩ := vals2 r
  cases r1
  cases hc _ r2
  have hp := (I.pin (a, oe) (by simp)).1
  obtain ⟨vs, hvs⟩ := hf
  obtain ⟨oc, od', dat, sl⟩ := oe
  obtain ⟨hz1, hz2⟩ := hz
  simp only at hz1 hz2 hvs
  subst hz1 hz2 hvs
  obtain ⟨od, hi⟩ : ∃ od, PySem.W.InstAt s.heap a ⟨.ref D, od', .fields vs, sl⟩ D od := by
    cases od' with
    | none => exact ⟨none, hp, rfl, rfl, trivial⟩
    | some dd =>
      obtain ⟨fs, hfs⟩ := hd dd rfl
      obtain ⟨mA, ⟨o, es, ep, ho, _⟩, _⟩ := I.hok dd _ hfs
      exact ⟨some o, hp, rfl, rfl, ho⟩
  have kx := PySem.W.kitx_exc (x := a) (ox := ⟨.ref D, od', .fields vs, sl⟩) (od := od) (gt := none) hcl hC.hg hC.hk hC.hs hC.ha hC.hn hC.ht hC.hm
  exact PySem.W.kia_one kx I.kIn hi hk (by intro z; cases z) fun tk => ⟨.bl b, H, I.tok tk, rfl, q⟩
/-- xs.count(y), flat values -/
def rCntF (K : PySem.W.Frag) : V → List V → Hp → VK → Prop := fun x xs H Q => ∃ (p : Addr) (ys : List V) (y : V), x = .ref p ∧ xs = [y] ∧ SqL K H p ys ∧ flatV y = true ∧ ys.all flatV = true ∧ Q (.int (ys.countP fun z => eqV z y : Nat)) H
theorem countP_eqU {y : V} : ∀ {ys : List V} {us : List Value}, Vals ys us → ys.all flatV = true → us.countP (eqU y) = ys.countP (fun z => eqV z y)
  | [], [], _, _ => rfl
  | [], _ :: _, h, _ => by cases h
  | _ :: _, [], h, _ => by cases h
  | z :: ys, u :: us, h, hf => by
    cases h with
    | cons a b =>
      have hf2 : flatV z = true ∧ ys.all flatV = true := by simpa using hf
      rw [List.countP_cons, List.countP_cons, countP_eqU b (by simpa using hf2.2), eqU_of a hf2.1]
theorem mt_countF {X : Cx} : MtR X "list.count" (rCntF X.K) := by
  intro pins s σ H x xs v us Q I rx r h
  obtain ⟨p, ys, y, rfl, rfl, hS, hy, hys, q⟩ := h
  cases rx
  obtain ⟨u1, r', rfl⟩ : ∃ u1, RelV y u1 ∧ us = [u1] := by
    cases r with
    | cons a b => cases b; exact ⟨_, a, rfl⟩
  obtain ⟨its, hv, ⟨⟨cls, dd, data, sl⟩, n, ho, hc, hd1, hd⟩, hs⟩ := I.list hS
  simp only at hc hd hd1
  subst hc hd hd1
  refine call_meets F.slot_list_count ⟨_, ho, rfl⟩ F.entry_list_count (F.args_list_count_2 _ _) (SeqAt.list_countAt p its.toArray n none sl u1 (eqU y)) ⟨ho, fun z hz => mem_eqAt r' hy hv hys z (by simpa using hz), ?_⟩
  refine ⟨.int (ys.countP fun z => eqV z y : Nat), H, I.tok _, ⟨s.toks, ?_⟩, q⟩
  rw [List.toList_toArray, countP_eqU hv hys]
section
variable {K : PySem.W.Frag} {σ : L2.St} {H : Hp} {ta to : TE} {bs : List Bool} {b : Bool} {ds : List PyData} {d : PyData}
theorem k_countF {X : Cx} {K : PySem.W.Frag} (hK : X.K = K) : MtR X "list.count" (rCntF K) := by subst hK; exact mt_countF
theorem k_index {X : Cx} {K : PySem.W.Frag} (hK : X.K = K) : MtR X "list.index" (rIndex K) := by subst hK; exact mt_index
theorem all_flat_bl : ∀ bs : List Bool, (bs.map V.bl).all flatV = true := by intro bs; simp [flatV]
theorem lst_bl {H : Hp} {v : V} (h : Dp K H v (.list (bs.map .bool))) : ∃ p, v = .ref p ∧ SqL K H p (bs.map V.bl) := by
  cases h with
  | lst hs ha => exact ⟨_, rfl, by rw [← dpall_bl ha]; exact hs⟩
theorem ed_countB (ho : Ed K to σ H (.list (bs.map .bool))) (h : Ed K ta σ H (.bool b)) : Ed K (tBM K "list" (rCntF K) to (tCons ta tNil)) σ H (.int (bs.count b : Nat)) := fun H1 e Q q =>
  ho H1 e _ fun v H2 e2 dv => by
    obtain ⟨p, rfl, hs⟩ := lst_bl dv
    refine ⟨.inl ⟨rfl, _, hs⟩, h H2 (e.trans e2) _ fun y H3 e3 dy => ?_⟩
    cases dp_bl dy
    refine ⟨p, _, _, rfl, rfl, ex_l e3 hs, rfl, all_flat_bl _, ?_⟩
    have : (bs.map V.bl).countP (fun z => eqV z (.bl b)) = bs.count b := by
      rw [List.countP_map, List.count_eq_countP]
      rfl
    rw [this]
    exact q _ H3 (e2.trans e3) (.int _)
theorem ed_indexB {j : Nat} (ho : Ed K to σ H (.list (bs.map .bool))) (h : Ed K ta σ H (.bool b)) (hj : bs[j]? = some b) (hm : ∀ m, m < j → bs[m]? ≠ some b) : Ed K (tBM K "list" (rIndex K) to (tCons ta tNil)) σ H (.int (j : Nat)) := fun H1 e Q q =>
  ho H1 e _ fun v H2 e2 dv => by
    obtain ⟨p, rfl, hs⟩ := lst_bl dv
    refine ⟨.inl ⟨rfl, _, hs⟩, h H2 (e.trans e2) _ fun y H3 e3 dy => ?_⟩
    cases dp_bl dy
    refine ⟨p, _, _, j, .bl b, rfl, rfl, ex_l e3 hs, rfl, all_flat_bl _, ?_, ?_, fun m z' hmj hz => ?_, q _ H3 (e2.trans e3) (.int _)⟩
    · rw [List.getElem?_map, hj]; rfl
    · simp [eqV]
    · rw [List.getElem?_map] at hz
      cases hb : bs[m]? with
      | none => rw [hb] at hz; cases hz
      | some c =>
        rw [hb] at hz
        cases hz
        have hne : c ≠ b := fun z => hm m hmj (by rw [hb, z])
        simp only [eqV]
        simpa using hne
end
end SB
set_option Elab.async false
set_option linter.all false
set_option maxRecDepth 100000
set_option maxHeartbeats 1000000
namespace SB
open PySem PySem.Spec PyProof.Rows L2 Evl
section
variable {K : PySem.W.Frag} {σ : L2.St} {H H' : Hp} {ta tb tc te tx to ti : TE} {t u : TT} {d : PyData} {ds es : List PyData} {D : Ends}
/-- the value itself -/
def tK (x : V) : TE := fun _ H Q => Q x H
theorem ed_K {x : V} (h : Dp K H x d) : Ed K (tK x) σ H d := fun H1 e Q q => q x H1 (Ex.refl H1) (dp_ex e h)
/-- xs + ys, lists that nobody else holds -/
theorem el_cat (ha : El K ta σ H ds) (hb : El K tb σ H es) (hi : imms ds = true) (hz : ds.length + es.length ≤ 100000) : El K (tOp (rPlus K) ta tb) σ H (ds ++ es) := fun H1 e Q q =>
  ha H1 e _ fun p H2 hp e2 l => hb H2 (e.trans e2) _ fun p2 H3 hp2 e3 l2 => by
    obtain ⟨vs, h1, h2⟩ := l
    obtain ⟨ws, h3, h4⟩ := l2
    refine .inr (.inr (.inr ⟨p, p2, vs, ws, rfl, rfl, e3 _ _ h1, h3, sz_of (by rw [dpall_len h2, dpall_len h4]; exact hz), fun r hr => ?_⟩))
    exact q r _ (fresh_back (e2.trans e3) hr) ((e2.trans e3).trans (Ex.new hr)) ⟨_, upd_same, dpall_app (dps_ex (e3.trans (Ex.new hr)) h2) (dps_ex (Ex.new hr) h4)⟩
/-- .. where the left one stands under a name -/
theorem el_catV {a : Addr} {i : Nat} (hs : σ[i]? = some (some (.ref a))) (ha : Li K H a ds) (hb : El K tb σ H es) (hz : ds.length + es.length ≤ 100000) : El K (tOp (rPlus K) (tVar i) tb) σ H (ds ++ es) := fun H1 e Q q =>
  ⟨_, hs, hb H1 e _ fun p2 H3 hp2 e3 l2 => by
    obtain ⟨vs, h1, h2⟩ := ha
    obtain ⟨ws, h3, h4⟩ := l2
    refine .inr (.inr (.inr ⟨a, p2, vs, ws, rfl, rfl, e3 _ _ (e _ _ h1), h3, sz_of (by rw [dpall_len h2, dpall_len h4]; exact hz), fun r hr => ?_⟩))
    exact q r _ (fresh_back e3 hr) (e3.trans (Ex.new hr)) ⟨_, upd_same, dpall_app (dps_ex ((e.trans e3).trans (Ex.new hr)) h2) (dps_ex (Ex.new hr) h4)⟩⟩
/-- xs + ys, tuples -/
theorem ed_catT (ha : Ed K ta σ H (.tuple ds)) (hb : Ed K tb σ H (.tuple es)) (hz : ds.length + es.length ≤ 100000) : Ed K (tOp (rPlus K) ta tb) σ H (.tuple (ds ++ es)) := fun H1 e Q q =>
  ha H1 e _ fun x H2 e2 dx => hb H2 (e.trans e2) _ fun y H3 e3 dy => by
    cases dx with
    | tup hs ha =>
      rename_i a vs
      cases dy with
      | tup hs2 ha2 =>
        rename_i a2 ws
        have n1 : vs = [] → ds = [] := fun z => by
          have := dpall_len ha
          rw [z] at this
          exact List.eq_nil_of_length_eq_zero this.symm
        have n2 : ws = [] → es = [] := fun z => by
          have := dpall_len ha2
          rw [z] at this
          exact List.eq_nil_of_length_eq_zero this.symm
        refine .inr (.inr (.inl ⟨a, a2, vs, ws, rfl, rfl, ex_t e3 hs, hs2, sz_of (by rw [dpall_len ha, dpall_len ha2]; exact hz), fun z => ?_, fun _ z => ?_, fun _ z r hr => ?_⟩))
        · refine q _ H3 (e2.trans e3) ?_
          rw [n1 z]
          exact .tup hs2 ha2
        · refine q _ H3 (e2.trans e3) ?_
          rw [n2 z, List.append_nil]
          exact .tup (ex_t e3 hs) (dps_ex e3 ha)
        · exact q _ _ ((e2.trans e3).trans (Ex.new hr)) (.tup (st_of upd_same) (dpall_app (dps_ex (e3.trans (Ex.new hr)) ha) (dps_ex (Ex.new hr) ha2)))
/-- isinstance of the caught error -/
def ExIs (K : PySem.W.Frag) (a : Addr) (cls : Value) (d : Option Addr) (σ : L2.St) (H : Hp) : Prop := (∀ dd, d = some dd → ∃ fs, H dd = some (.xd fs)) ∧ ∃ D, cls = .ref D ∧ ExcC K D ∧ (PySem.W.clsIn K D).isSome = true
theorem ExIs.ex {a : Addr} {cls : Value} {dd : Option Addr} (e : Ex H H') (h : ExIs K a cls dd σ H) : ExIs K a cls dd σ H' := ⟨fun x hx => let ⟨fs, h1⟩ := h.1 x hx; ⟨fs, e _ _ h1⟩, h.2⟩
theorem ed_isX {a : Addr} {cls : Value} {dd : Option Addr} {i : Nat} {c : V} {b : Bool} {cv : Value} (hs : σ[i]? = some (some (.ref a))) (hx : ExIs K a cls dd σ H) (hc : RelV c cv) (hr : ∀ u, RelV c u → u = cv) (hk : PySem.W.kitOne K cls cv = some b) :
    Ed K (tCB (rIsX K a cls dd) (tCons (tVar i) (tCons (tC c) tNil))) σ H (.bool b) := fun H1 e Q q => by
  obtain ⟨hd, D, rfl, h1, h2⟩ := hx.ex e
  exact ⟨_, hs, D, c, cv, b, rfl, h1, h2, rfl, hr, hk, hd, q _ H1 (Ex.refl _) (.bl b)⟩
end
end SB
set_option Elab.async false
set_option linter.all false
set_option maxRecDepth 100000
namespace K01
open PySem PySem.Spec PyProof.Rows L2 SB C8
open Evl (Ex fresh_back)
def names9 : List Str := ["BadBook", "BadCertificate", "BadCount", "BadRefrain", "BadState", "BadTurns", "RefrainBusy", "TooManyCandidates", "TooManyWords"]
def bits (k : Nat) : List Bool := [0 == k, 1 == k, 2 == k, 3 == k, 4 == k, 5 == k, 6 == k, 7 == k, 8 == k]
theorem bits_ok : ∀ k : Nat, k < 9 → (bits k).count true = 1 ∧ (bits k)[k]? = some true ∧ ∀ m : Nat, m < k → (bits k)[m]? ≠ some true := by
  intro k hk
  have : ∀ k : Fin 9, (bits k).count true = 1 ∧ (bits k)[(k : Nat)]? = some true ∧ ∀ m : Fin 9, (m : Nat) < k → (bits k)[(m : Nat)]? ≠ some true := by decide
  obtain ⟨h1, h2, h3⟩ := this ⟨k, hk⟩
  exact ⟨h1, h2, fun m hm => h3 ⟨m, by omega⟩ hm⟩
/-- what is known of the k-th error class, at D -/
structure Own9 (K : PySem.W.Frag) (Cs : List Addr) (S : Addr) (k : Nat) (D : Addr) : Prop where
  at_ : Cs[k]? = some D
  lt : k < 9
  kit : ∀ (j : Nat) (C : Addr), Cs[j]? = some C → PySem.W.kitOne K (.ref D) (.ref C) = some (j == k)
  ve : PySem.W.kitOne K (.ref D) (.type "ValueError") = some true
  exc : ExcC K D
  cl : (PySem.W.clsIn K D).isSome = true
  cat : PySem.W.exmOne K (.ref D) (.ref S) = some true
/-- a caught error, and what the law says of it -/
inductive ErrD : Err → Nat → PyData → Prop where
  | book (r v : Int) : ErrD (badBook r v) 0 (.tuple [.str "BadBook", .int r, .int v])
  | other (k : Nat) (x : Str) (h : names9[k]? = some x) (hk : k ≠ 0) : ErrD ⟨x, []⟩ k (.tuple [.str x])
/-- the promise of _law_result, of a call's reading -/
def TTr (K : PySem.W.Frag) (mg : Str → Option Value) (Cs : List Addr) (S : Addr) : (XK → Hp → VK → Prop) → Hp → VK → Prop := fun tl H Q =>
  ∀ E : XK, (∀ cls x H' er k D d, ErrAt mg er cls x H' → cls = .ref D → Own9 K Cs S k D → ErrD er k d → (∀ v H2, Ex H' H2 → Dp K H2 v d → Q v H2) → E cls x H') → tl E H Q
abbrev s_law_result : Stmt := topS 31
section
variable {X : Cx} {C0 C1 C2 C3 C4 C5 C6 C7 C8 S : Addr}
theorem pe_gC {X : Cx} {x : Str} {pos : Pos} {C : Addr} (hg : Gl X x) (h : X.mg x = some (.ref C)) (hd : (x == ("__debug__" : Str)) = false := by decide) : PE X (.Name x pos) (tC (.ref C)) := pe_gc hg ⟨_, h, rfl⟩ hd
theorem names9_ne {k : Nat} {x : Str} (h : names9[k]? = some x) (hk : k ≠ 0) : x ≠ "BadBook" := by
  have : ∀ k : Fin 9, (k : Nat) ≠ 0 → names9[(k : Nat)]? ≠ some "BadBook" := by decide +kernel
  intro e
  subst e
  have hl : k < 9 := (List.getElem?_eq_some_iff.mp h).1
  exact this ⟨k, hl⟩ hk h
theorem takes_len {X : Cx} {W : WX} (h : Takes X W) : Takes X (fun cls d σ H => σ.length = X.N.length → W cls d σ H) := fun u s' hx => by
  obtain ⟨a, B, sI, pins, σ, H, cls, d, h1, I, h2, h3, h4, h5, h6, h7, hw⟩ := hx
  exact h u s' ⟨a, B, sI, pins, σ, H, cls, d, h1, I, h2, h3, h4, h5, h6, h7, hw I.len⟩
theorem ed_eqS {K : PySem.W.Frag} {ta tb : TE} {σ : L2.St} {H : Hp} {x y : Str} (ha : Ed K ta σ H (.str x)) (hb : Ed K tb σ H (.str y)) : Ed K (tOp rEq ta tb) σ H (.bool (decide (x = y))) :=
  ed_op ha hb fun H1 e v w hv hw Q q => by
    cases dp_str hv; cases dp_str hw
    refine ⟨rfl, ?_⟩
    have e : decide (V.str x = V.str y) = decide (x = y) := by simp
    rw [e]; exact q _ H1 (Ex.refl H1) (.bl _)
theorem ed_neI' {K : PySem.W.Frag} {ta tb : TE} {σ : L2.St} {H : Hp} {x y : Int} (ha : Ed K ta σ H (.int x)) (hb : Ed K tb σ H (.int y)) : Ed K (tOp rNe ta tb) σ H (.bool (!decide (x = y))) :=
  ed_op ha hb fun H1 e v w hv hw Q q => by
    cases dp_int hv; cases dp_int hw
    refine ⟨rfl, ?_⟩
    have e : decide (V.int x = V.int y) = decide (x = y) := by simp
    rw [e]; exact q _ H1 (Ex.refl H1) (.bl _)
theorem tXf_ed {K : PySem.W.Frag} {σ : L2.St} {H : Hp} {a C dd : Addr} {cls : Value} {f : Str} {i : Nat} {fs : List (Str × V)} {v : V} {d : PyData} (hs : σ[i]? = some (some (.ref a))) (hc : cls = .ref C) (hd : H dd = some (.xd fs)) (hl : fs.lookup f = some v) (dv : Dp K H v d) :
    Ed K (tXf a cls (some dd) C f (tVar i)) σ H d := fun H1 e Q q => ⟨_, hs, rfl, hc, dd, fs, v, rfl, e _ _ hd, hl, q v H1 (Ex.refl _) (dp_ex e dv)⟩
set_option maxHeartbeats 4000000 in
theorem gives_result {g : Addr} {cdg : Value} {q : Str} {sg : Scope} {Ng : List Str} (hNg : Ng = (["_law_call", "e", "_law_kinds", "_law_name"] : List Str)) (hsg : sg = fnScope s_law_result)
    (m_isinstance : X.mg "isinstance" = none) (m_ValueError : X.mg "ValueError" = none) (k_Song : X.mg "SongError" = some (.ref S))
    (k_BadBook : X.mg "BadBook" = some (.ref C0)) (k_BadCertificate : X.mg "BadCertificate" = some (.ref C1)) (k_BadCount : X.mg "BadCount" = some (.ref C2)) (k_BadRefrain : X.mg "BadRefrain" = some (.ref C3)) (k_BadState : X.mg "BadState" = some (.ref C4))
    (k_BadTurns : X.mg "BadTurns" = some (.ref C5)) (k_RefrainBusy : X.mg "RefrainBusy" = some (.ref C6)) (k_TooManyCandidates : X.mg "TooManyCandidates" = some (.ref C7)) (k_TooManyWords : X.mg "TooManyWords" = some (.ref C8))
    (TF : XfC X.K C0) (nf_refrain : PySem.W.findIn X.K (.ref C0) "refrain" = some none) (nf_verse : PySem.W.findIn X.K (.ref C0) "verse" = some none) :
    LamX.GivesTo X Ng "_law_result" sg g cdg (fnBody s_law_result) "_law_call" q (TTr X.K X.mg [C0, C1, C2, C3, C4, C5, C6, C7, C8] S) := by
  subst hNg hsg
  intro f c' s H Q tl hcall hcode htt
  have ndX : (["_law_call", "e", "_law_kinds", "_law_name"] : List Str).Nodup := by decide
  refine ⟨_, pss_one (ps_try_as (i := 1) rfl rfl ndX rfl (by rfl) ⟨rfl, rfl, .inl k_Song⟩ LamX.takes0 (fun W pn xe hW hp => pss_one (ps_ret (hcall _ pn xe (fun cls d H' => ∀ σ' : L2.St, σ'.length = 4 → W cls d σ' H') _ _ (takes_len hW) (fun _ _ σ' _ h hl => h σ' hl)))) (fun a oe cls d pn hz hf => (pss_cons (ps_set (i := 2) ndX rfl (.inl rfl) (pe_lst (pa_cons (pe_callB (call_isX hz hf) (by rfl) m_isinstance (by decide +kernel) (pa_cons (pv 1) (pa_cons (pe_gC (by rfl) k_BadBook) pa_nil))) (pa_cons (pe_callB (call_isX hz hf) (by rfl) m_isinstance (by decide +kernel) (pa_cons (pv 1) (pa_cons (pe_gC (by rfl) k_BadCertificate) pa_nil))) (pa_cons (pe_callB (call_isX hz hf) (by rfl) m_isinstance (by decide +kernel) (pa_cons (pv 1) (pa_cons (pe_gC (by rfl) k_BadCount) pa_nil))) pa_nil)))))
      (pss_cons (ps_set (i := 2) ndX rfl (.inl rfl) (pe_op (k_add (K := X.K) rfl) (pv 2) (pe_lst (pa_cons (pe_callB (call_isX hz hf) (by rfl) m_isinstance (by decide +kernel) (pa_cons (pv 1) (pa_cons (pe_gC (by rfl) k_BadRefrain) pa_nil))) (pa_cons (pe_callB (call_isX hz hf) (by rfl) m_isinstance (by decide +kernel) (pa_cons (pv 1) (pa_cons (pe_gC (by rfl) k_BadState) pa_nil))) (pa_cons (pe_callB (call_isX hz hf) (by rfl) m_isinstance (by decide +kernel) (pa_cons (pv 1) (pa_cons (pe_gC (by rfl) k_BadTurns) pa_nil))) pa_nil))))))
      (pss_cons (ps_set (i := 2) ndX rfl (.inl rfl) (pe_op (k_add (K := X.K) rfl) (pv 2) (pe_lst (pa_cons (pe_callB (call_isX hz hf) (by rfl) m_isinstance (by decide +kernel) (pa_cons (pv 1) (pa_cons (pe_gC (by rfl) k_RefrainBusy) pa_nil))) (pa_cons (pe_callB (call_isX hz hf) (by rfl) m_isinstance (by decide +kernel) (pa_cons (pv 1) (pa_cons (pe_gC (by rfl) k_TooManyCandidates) pa_nil))) (pa_cons (pe_callB (call_isX hz hf) (by rfl) m_isinstance (by decide +kernel) (pa_cons (pv 1) (pa_cons (pe_gC (by rfl) k_TooManyWords) pa_nil))) pa_nil))))))
      (pss_cons (ps_if (PW.pt (pw_or (pt_cmpR op_ne (k_bm (K := X.K) rfl (pe_bm PySem.F.plainAttrs_list PySem.F.slot_list_count PySem.F.type_list_count (k_countF (K := X.K) rfl) (pv 2) (pa_cons pe_bl pa_nil))) pe_int (nomark _)) (pw_or1 (pt_not (pt_truthK (K := X.K) rfl (pe_callB (call_isX hz hf) (by rfl) m_isinstance (by decide +kernel) (pa_cons (pv 1) (pa_cons (pe_bltn (v := .ty "ValueError") (by rfl) m_ValueError (by decide +kernel) rfl) pa_nil))) (by intro _; rfl))))))
        (pss_one (ps_ret (pe_tup (pa_cons pe_str (pa_cons pe_int pa_nil))))) pss_nil)
      (pss_cons (ps_set (i := 3) ndX rfl (.inl rfl) (pe_ix (k_ix (K := X.K) rfl) (pe_lst (pa_cons pe_str (pa_cons pe_str (pa_cons pe_str (pa_cons pe_str (pa_cons pe_str (pa_cons pe_str (pa_cons pe_str (pa_cons pe_str (pa_cons pe_str pa_nil)))))))))) (k_bm (K := X.K) rfl (pe_bm PySem.F.plainAttrs_list PySem.F.slot_list_index PySem.F.type_list_index (k_index (K := X.K) rfl) (pv 2) (pa_cons pe_bl pa_nil))) (fun _ _ => rfl)))
      (pss_one (ps_ret (pe_ifExp (pt_cmpR op_eq (pv 3) pe_str (nomark _)) (pe_tup (pa_cons (pv 3) (pa_cons (pe_xf TF nf_refrain hz hf (pv 1)) (pa_cons (pe_xf TF nf_verse hz hf (pv 1)) pa_nil)))) (pe_tup (pa_cons (pv 3) pa_nil)))))))))))), ?_⟩
  refine ⟨rfl, hcode, ?_⟩
  refine htt _ fun cls x H' er k D d hE hD h9 hd hq σ' hσ => ?_
  subst hD
  obtain ⟨hb1, hb2, hb3⟩ := bits_ok k h9.lt
  refine ⟨true, h9.cat, fun _ a ha => ?_, fun z => by cases z⟩
  obtain ⟨C, hmC, hDC, hfs⟩ := hE
  cases hDC
  have hX : ExIs X.K a (.ref D) x (σ'.set 1 (some (.ref a))) H' := by
    refine ⟨fun dd hdd => ?_, D, rfl, h9.exc, h9.cl⟩
    subst hdd
    cases hz : er.fs with
    | nil => rw [hz] at hfs; cases hfs
    | cons g gs => rw [hz] at hfs; obtain ⟨d', h1, h2⟩ := hfs; cases h1; exact ⟨_, h2⟩
  match σ', hσ with
  | [s0, s1, s2, s3], _ =>
  have isx : ∀ {H1 : Hp} {t2 t3 : Option V} {j : Nat} {C : Addr}, Ex H' H1 → ([C0, C1, C2, C3, C4, C5, C6, C7, C8] : List Addr)[j]? = some C → Ed X.K (tCB (rIsX X.K a (.ref D) x) (tCons (tVar 1) (tCons (tC (.ref C)) tNil))) [s0, some (.ref a), t2, t3] H1 (.bool (j == k)) := fun e hC => ed_isX (cv := .ref _) rfl (hX.ex e) rfl (fun u hu => hu) (h9.kit _ _ hC)
  have e0 := Ex.refl H'
  refine q_asgL (el_lst (ea_cons (isx e0 (j := 0) rfl) (ea_cons (isx e0 (j := 1) rfl) (ea_cons (isx e0 (j := 2) rfl) ea_nil))) (by simp)) fun p1 H1 hp1 e1 l1 => ?_
  refine q_asgL (el_catV rfl l1 (el_lst (ea_cons (isx e1 (j := 3) rfl) (ea_cons (isx e1 (j := 4) rfl) (ea_cons (isx e1 (j := 5) rfl) ea_nil))) (by simp)) (by simp)) fun p2 H2 hp2 e2 l2 => ?_
  have e12 := e1.trans e2
  refine q_asgL (el_catV rfl l2 (el_lst (ea_cons (isx e12 (j := 6) rfl) (ea_cons (isx e12 (j := 7) rfl) (ea_cons (isx e12 (j := 8) rfl) ea_nil))) (by simp)) (by simp)) fun p3 H3 hp3 e3 l3 => ?_
  have e13 := e12.trans e3
  have l3' : Li X.K H3 p3 ((bits k).map .bool) := l3
  refine q_when (SB.et_or (et_test (ed_neI' (ed_countB (ed_var rfl l3'.dp) ed_bl) ed_int)) fun _ => SB.et_not (et_truB (ed_isX (cv := .type "ValueError") rfl (hX.ex e13) rfl (fun u hu => hu) h9.ve))) (fun hw H4 e4 => ?_) fun hw H4 e4 => ?_
  · rw [hb1] at hw
    exact absurd hw (by decide)
  obtain ⟨nm, hnm⟩ : ∃ nm, names9[k]? = some nm := ⟨names9[k]'(by have := h9.lt; show k < 9; exact this), List.getElem?_eq_getElem _⟩
  refine q_asg (ed_ixL (d := .str nm) (ed_lst (ds := names9.map .str) (ea_cons ed_str (ea_cons ed_str (ea_cons ed_str (ea_cons ed_str (ea_cons ed_str (ea_cons ed_str (ea_cons ed_str (ea_cons ed_str (ea_cons ed_str ea_nil))))))))) (by decide)) (ed_indexB (ed_var rfl ((l3'.ex e4).dp)) ed_bl hb2 hb3) (atI_nat (by rw [List.getElem?_map, hnm]; rfl))) fun v5 H5 e5 d5 => ?_
  have e15 := (e13.trans e4).trans e5
  refine w_ret (d := d) (ed_if (et_test (ed_eqS (ed_var rfl d5) ed_str)) (fun hw => ?_) fun hw => ?_) fun v H6 e6 dv => hq v H6 (e15.trans e6) dv
  · have hnB : nm = "BadBook" := of_decide_eq_true hw
    cases hd with
    | book r v =>
      obtain ⟨dd, rfl, hdd⟩ := hfs
      have hC0 : D = C0 := by have := h9.at_; exact (Option.some.inj this).symm
      subst hnB
      exact ed_tup (ea_cons (ed_var rfl d5) (ea_cons (tXf_ed (v := .int r) rfl (by rw [hC0]) (e15 _ _ hdd) (by rfl) (.int r)) (ea_cons (tXf_ed (v := .int v) rfl (by rw [hC0]) (e15 _ _ hdd) (by rfl) (.int v)) ea_nil))) (by simp)
    | other k x h hk =>
      rw [hnm] at h
      cases h
      exact absurd hnB (names9_ne hnm hk)
  · cases hd with
    | book r v =>
      have : nm = "BadBook" := (Option.some.inj hnm).symm
      subst this
      exact absurd hw (by decide)
    | other k x h hk =>
      rw [hnm] at h
      cases h
      exact ed_tup (ea_cons (ed_var rfl d5) ea_nil) (by simp)
end
end K01
set_option Elab.async false
set_option linter.all false
set_option maxRecDepth 100000
set_option maxHeartbeats 2000000
/-! a lambda with one parameter that has a default, handed to a def that calls it without arguments -/
namespace LamD
open PySem PySem.Spec PyProof.Rows L2 LamX
abbrev lamN : Str := "<lambda>"
abbrev objD (X : Cx) (par : Arguments) (b : Expr) (sc : Scope) (dt : Addr) (dc pm : Value) (c' : Addr) (ct : Value) : Obj :=
  PySem.W.kdv_obj lamN (X.env.qual ++ lamN) par (.expr b) sc (cloFrom X.env.cells sc.names []) (.ref dt) dc pm c' ct
abbrev fnD (X : Cx) (par : Arguments) (b : Expr) (sc : Scope) (dt : Addr) (dc pm : Value) (c' : Addr) (ct : Value) : FuncData :=
  PySem.W.kdv_fn lamN (X.env.qual ++ lamN) par (.expr b) sc (cloFrom X.env.cells sc.names []) (.ref dt) dc pm (.ref c') ct
/-- what stands about a lambda that was made -/
structure Made (X : Cx) (par : Arguments) (b : Expr) (sc : Scope) (f c' dt : Addr) (dc pm ct dflt : Value) (H : Hp) (s : Shared) : Prop where
  fn : s.heap.get? f = some (objD X par b sc dt dc pm c' ct)
  tup : s.heap.get? dt = some { cls := .type "tuple", data := .seq #[dflt] }
  nf : H f = none
  nt : H dt = none
  ff : f ∉ frs X.stack
  ft : dt ∉ frs X.stack
  co : H c' = some (CodeO c' (X.env.qual ++ lamN))
section
variable {X : Cx} {pins : List (Addr × Obj)} {σ : L2.St} {H HZ : Hp} {s s1 : Shared}
theorem old_fr (I : Inv X pins σ H s) {f : Addr} (hf : s.heap.objs.size ≤ f) : f ∉ frs X.stack := fun z =>
  (List.mem_cons.mp (I.stkSub _ z)).elim (fun e => absurd (Nat.lt_of_lt_of_le I.lt hf) (by rw [e]; exact Nat.lt_irrefl _)) fun e => I.nofs hf e
/-- the function object behind the defaults' tuple -/
theorem tail_made {T : List (Addr × Str)} {c P dt : Addr} {par : Arguments} {b : Expr} {sc : Scope} {pos : Pos} {dflt : Value} {E Q : Value → Shared → Prop}
    (I : Inv X pins σ H s) (TB : TabB X.base X.mg c P) (hcode : X.env.code = .ref c) (hm : (P, X.env.qual ++ lamN) ∈ T) (hu : ∀ p ∈ T, p.1 = P → p.2 = X.env.qual ++ lamN) (hT : Tabs T H)
    (hfree : ∀ y ∈ sc.names, y.2 = .free → ∃ c, X.env.cells.lookup y.1 = some c) (ht : s.heap.get? dt = some { cls := .type "tuple", data := .seq #[dflt] }) (hn : H dt = none) (hft : dt ∉ frs X.stack)
    (h : ∀ f c' dc pm ct H1 s', Inv X pins σ H1 s' → ExtN H H1 → Tabs T H1 → Made X par b sc f c' dt dc pm ct dflt H1 s' → Q (.ref f) s') :
    wpAny (model X.prog X.w) X.A (makeTail lamN (X.env.qual ++ lamN) par (.expr b) sc X.env (.ref dt) .none none pos pos.line) Q E s := by
  obtain ⟨ps, hP, htr, ha⟩ := hT _ hm
  have oP : s.heap.get? P = some { cls := .none, data := .fields ps } := I.hok P _ hP
  have gl := I.mod.glob.keeps I.bk
  cases hc : codeAmong pos ps.toList with
  | some cv =>
    obtain ⟨c', rfl, hco⟩ := ha pos cv hc
    refine PySem.W.kdv_makeTailHit (mg := X.mg) (c := c) (P := P) (ps := ps) (clos := cloFrom X.env.cells sc.names []) (closure_ok hfree) I.ok.glob gl hcode (TB.code.keeps I.bk) oP htr hc (TB.bm.keeps I.bk) fun ct dc h' tk kx hs => ?_
    exact h h'.objs.size c' dc _ ct H _ (I.kept fun b o e => Heap.get?_push_of_some _ (kx b o e)) (ExtN.refl H) hT ⟨Heap.get?_push_size _ rfl, Heap.get?_push_of_some _ (kx _ _ ht), I.hok.fresh hs, hn, old_fr I hs, hft, hco⟩
  | none =>
    refine PySem.W.kdv_makeTail (mg := X.mg) (c := c) (P := P) (ps := ps) (clos := cloFrom X.env.cells sc.names []) (closure_ok hfree) I.ok.glob gl hcode (TB.code.keeps I.bk) oP htr hc TB.gP (TB.bm.keeps I.bk) fun c' ct dc h' tk hx hge hlt hrec htb => ?_
    obtain ⟨c2, oc, vs, t, e2, hoc, hd, hv⟩ := hrec
    cases e2
    have hs : s.heap.objs.size ≤ h'.objs.size := Nat.le_trans hge (Nat.le_of_lt hlt)
    have nC : H c' = none := I.hok.fresh hge
    let more : Array Value := #[rawInt pos.line, rawInt pos.col, .ref c']
    have I1 := inv_table (t' := tk) (more := more) (q := X.env.qual ++ lamN) (h' := h'.push (objD X par b sc dt dc ((X.mg "__name__").getD .none) c' ct)) I hP (fun b o hb e => Heap.get?_push_of_some _ (hx b o hb e)) (Heap.get?_push_of_some _ htb) hge ⟨oc, vs, t, Heap.get?_push_of_some _ hoc, hd, hv⟩
    have hE : ExtN H (upd (upd H P (.tbl (ps ++ more))) c' (CodeO c' (X.env.qual ++ lamN))) := fun b o e n => by
      have h1 : b ≠ c' := ne_of_none e nC
      have h2 : b ≠ P := fun z => n ps (by rw [z, hP] at e; exact (Option.some.inj e).symm)
      rw [upd_ne h1, upd_ne h2]
      exact e
    have eL : (ps ++ more).toList = ps.toList ++ [rawInt pos.line, rawInt pos.col, .ref c'] := by simp [more]
    have tP : dt ≠ P := fun z => by rw [z, oP] at ht; cases ht
    have nP : ∀ a, s.heap.objs.size ≤ a → a ≠ P := fun a h z => absurd (Heap.lt_size oP) (by rw [← z]; exact Nat.not_lt.mpr h)
    have tc : dt ≠ c' := fun z => absurd (Heap.lt_size ht) (by rw [z]; exact Nat.not_lt.mpr hge)
    refine h h'.objs.size c' dc _ ct _ _ I1 hE (fun p hp => ?_) ⟨Heap.get?_push_size _ rfl, Heap.get?_push_of_some _ (hx _ _ tP ht), ?_, ?_, old_fr I hs, hft, upd_same⟩
    · by_cases hb : p.1 = P
      · rw [hu p hp hb, hb]
        refine ⟨ps ++ more, by rw [upd_ne (ne_of_none hP nC), upd_same], eL ▸ PySem.TriplesOk_snoc _ _ _ _ htr, fun p' cv hcv => ?_⟩
        rcases among_app _ htr (eL ▸ hcv) with z | z
        · obtain ⟨c0, z1, z2⟩ := ha p' cv z
          exact ⟨c0, z1, hE _ _ z2 codeO_ne⟩
        · exact ⟨c', z, upd_same⟩
      · obtain ⟨qs, z1, z2, z3⟩ := hT p hp
        refine ⟨qs, by rw [upd_ne (ne_of_none z1 nC), upd_ne hb, z1], z2, fun p' cv hcv => ?_⟩
        obtain ⟨c0, z4, z5⟩ := z3 p' cv hcv
        exact ⟨c0, z4, hE _ _ z5 codeO_ne⟩
    · rw [upd_ne (Nat.ne_of_gt hlt), upd_ne (nP _ hs)]
      exact I.hok.fresh hs
    · rw [upd_ne tc, upd_ne tP]
      exact hn
/-- the lambda is made -/
theorem lam_made {T : List (Addr × Str)} {c P : Addr} {par : Arguments} {b d1 : Expr} {dv : V} {sc : Scope} {pos : Pos} {E : Value → Shared → Prop} {Q : Value → Shared → Prop}
    (I : Inv X pins σ H s) (TB : TabB X.base X.mg c P) (hcode : X.env.code = .ref c) (hm : (P, X.env.qual ++ lamN) ∈ T) (hu : ∀ p ∈ T, p.1 = P → p.2 = X.env.qual ++ lamN) (hT : Tabs T H)
    (hfree : ∀ y ∈ sc.names, y.2 = .free → ∃ c, X.env.cells.lookup y.1 = some c) (hdf : par.defaults = [d1]) (hkd : par.kw_defaults = []) (hko : par.kwonlyargs = []) (hpe : PE X d1 (tC dv)) (hE : E = X.xe)
    (h : ∀ f c' dt dc pm ct dflt H1 s', Inv X pins σ H1 s' → ExtN H H1 → Tabs T H1 → Made X par b sc f c' dt dc pm ct dflt H1 s' → Q (.ref f) s') :
    wpAny (model X.prog X.w) X.A (eval (.Lambda par b sc pos) X.env) Q E s := by
  subst hE
  refine PySem.W.kdv_lam (by rw [hdf]; rfl) hkd ?_
  rw [hdf]
  refine PySem.W.kdv_all1 (wpAny_mono (hpe.run pins s σ H (fun v H' => H' = H) I rfl) (fun u s2 hu2 => ?_) fun _ _ z => z)
  obtain ⟨v, H', I2, _, rfl⟩ := hu2
  refine PySem.W.kdv_all0 ?_
  rw [makeFunction_eq]
  simp only [List.zip_nil_right, hko, List.zip_nil_left, List.filterMap_nil, List.isEmpty_nil, List.isEmpty_cons, if_true, pure_bind, Bool.false_eq_true, if_false]
  have sz : s2.heap.objs.size ≤ s2.heap.objs.size := Nat.le_refl _
  refine wpAny_bind (wpAny_newTextTuple ?_)
  have I3 : Inv X pins σ H' { s2 with heap := s2.heap.push { cls := .type "tuple", data := .seq [u].toArray } } := I2.kept (t' := s2.toks) fun b o e => Heap.get?_push_of_some _ e
  exact tail_made I3 TB hcode hm hu hT hfree (Heap.get?_push_size _ rfl) (I2.hok.fresh sz) (old_fr I2 sz) fun f c' dc pm ct H1 s' => h f c' _ dc pm ct u H1 s'
end
end LamD
set_option Elab.async false
set_option linter.all false
set_option maxRecDepth 100000
set_option maxHeartbeats 2000000
namespace LamD
open PySem PySem.Spec PyProof.Rows L2 LamX
/-- names of such a lambda: its parameters are none of the maker's -/
structure Sc (N : List Str) (sc scope : Scope) : Prop where
  kind : scope.kind = .function
  co : scope.isCoroutine = false
  gen : scope.isGenerator = false
  cell : ∀ y ∈ scope.names, y.2 ≠ .cell
  own : ∀ y ∈ scope.names, y.2 = .local → y.1 ∉ N
  free : ∀ y ∈ scope.names, y.2 = .free → sc.names.lookup y.1 = some .cell ∨ sc.names.lookup y.1 = some .free
def scB (N : List Str) (sc scope : Scope) : Bool :=
  decide (scope.kind = .function) && !scope.isCoroutine && !scope.isGenerator && scope.names.all fun y => !decide (y.2 = .cell) && (!decide (y.2 = .local) || !N.contains y.1) && (!decide (y.2 = .free) || decide (sc.names.lookup y.1 = some .cell) || decide (sc.names.lookup y.1 = some .free))
theorem sc_by {N : List Str} {sc scope : Scope} (h : scB N sc scope = true) : Sc N sc scope := by
  unfold scB at h
  simp only [Bool.and_eq_true, Bool.or_eq_true, Bool.not_eq_true', decide_eq_true_eq, decide_eq_false_iff_not, List.all_eq_true] at h
  obtain ⟨⟨⟨h1, h2⟩, h3⟩, h4⟩ := h
  refine ⟨h1, h2, h3, fun y hy => (h4 y hy).1.1, fun y hy e z => ?_, fun y hy e => ?_⟩
  · rcases (h4 y hy).1.2 with k | k
    · exact k e
    · rw [List.contains_iff_mem.mpr z] at k
      cases k
  · rcases (h4 y hy).2 with (k | k) | k
    · exact absurd e k
    · exact .inl k
    · exact .inr k
section
variable {X : Cx} {pins : List (Addr × Obj)} {σ : L2.St} {H HZ : Hp} {s s1 : Shared} {scope : Scope}
theorem Sc.has (L : Sc X.N X.env.scope scope) (ok : X.Ok) : ∀ y ∈ scope.names, y.2 = .free → ∃ c, X.env.cells.lookup y.1 = some c := fun y hy e => ok.has _ (L.free y hy e)
theorem cells_mine (L : Sc X.N X.env.scope scope) (ok : X.Ok) {y : Str} {c : Addr} (e : (cloFrom X.env.cells scope.names []).lookup y = some c) : X.env.cells.lookup y = some c := by
  rcases cloFrom_mem (PySem.mem_of_lookup e) with z | ⟨h1, h2⟩
  · cases z
  obtain ⟨c1, hc⟩ := L.has ok _ h1 rfl
  have hc1 : X.env.cells.lookup y = some c1 := hc
  have : c = c1 := by rw [h2, hc] <;> rfl
  rw [this, hc1]
theorem begun {A : Around} {outer : List Env} {E : XK} {f c' : Addr} {h1 : Heap} {tk : Nat} {bs : List (Str × Value)} (I : Inv X pins σ H s) (L : Sc X.N X.env.scope scope) (e0 : Env0 X.prog X.w X.K X.mg X.base A outer s1 HZ) (hd : A.handled = none)
    (un : Un (frs X.stack) [] H HZ s.heap s1.heap) (hns : h1.Ns s1.heap.objs.size fun y => bs.reverse.lookup y) (kp : ∀ b o, s1.heap.get? b = some o → h1.get? b = some o) :
    Inv (lamCx X A outer s1 HZ E scope f c') [] σ HZ { s1 with heap := h1, toks := tk } := by
  have noA : ∀ b : Addr, b ∉ (lamCx X A outer s1 HZ E scope f c').ex := fun b z => by cases (show b ∈ ([] : List Addr) from z)
  have cell1 : ∀ {c : Addr} {v : Option Value}, H c = none → s.heap.IsCell c v → h1.IsCell c v := fun n ⟨o, ho, hd⟩ =>
    let ⟨sl, q⟩ := un.any ho n (by simp)
    ⟨_, kp _ _ q, hd⟩
  have has : ∀ {y : Str}, scope.names.lookup y = some .free → ∃ c, (cloFrom X.env.cells scope.names []).lookup y = some c := fun {y} hl =>
    mem_lookup (cloFrom_has (cells := X.env.cells) (acc := []) (PySem.mem_of_lookup hl))
  have ok : (lamCx X A outer s1 HZ E scope f c').Ok := by
    refine ⟨e0.mod, L.kind, rfl, rfl, Nat.le_refl _, fun y z c e1 e2 => ?_, fun y hy => ?_, fun y c z _ => ?_, fun _ => hd, Around.frames_deeper e0.frames, .inr ⟨rfl, rfl⟩, fun b z => absurd z (noA b), e0.bs, e0.bsz, fun b _ _ => noA b, fun b z => absurd z (noA b), e0.funs, e0.frf⟩
    · exact I.ok.inj y z c (cells_mine L I.ok e1) (cells_mine L I.ok e2)
    · rcases (show scope.names.lookup y = some .cell ∨ scope.names.lookup y = some .free from hy) with q | q
      · exact absurd rfl (L.cell _ (PySem.mem_of_lookup q))
      · exact has q
    · cases (show false = true from z)
  refine ⟨ok, rfl, e0.bare, Un.kept kp, ⟨_, hns, fun i y v e1 e2 e3 => ?_⟩, fun y c e => ?_, e0.hok.fresh (Nat.le_refl _), fun y c e => ?_, fun q hq => ?_, e0.hok.kept kp, I.len⟩
  · rcases (show Vis scope y from e3) with q | q | q
    · exact absurd (List.mem_of_getElem? e1) (L.own _ (PySem.mem_of_lookup q) rfl)
    · exact absurd rfl (L.cell _ (PySem.mem_of_lookup q))
    · have hfr := L.free _ (PySem.mem_of_lookup q) rfl
      obtain ⟨m, hn, hl⟩ := I.loc
      obtain ⟨u, ru, lk⟩ := hl i y v e1 e2 (.inr hfr)
      obtain ⟨c2, h2⟩ := has q
      refine ⟨u, ru, .inr ⟨.inr q, c2, h2, ?_⟩⟩
      have c1 := cells_mine L I.ok h2
      rcases lk with ⟨k1, _⟩ | ⟨_, c3, k2, k3⟩
      · have k1' : X.env.scope.names.lookup y = some .local := k1
        rcases hfr with k | k <;> (rw [show X.env.scope.names.lookup y = _ from k] at k1'; cases k1')
      · rw [c1] at k2
        cases k2
        exact cell1 (I.freeC y _ c1) k3
  · obtain ⟨u, z⟩ := I.cell y c (cells_mine L I.ok e)
    exact ⟨u, cell1 (I.freeC y c (cells_mine L I.ok e)) z⟩
  · obtain ⟨v, o, ho, _⟩ := I.cell y c (cells_mine L I.ok e)
    exact un.free c o ho (I.freeC y c (cells_mine L I.ok e)) (by simp)
  · cases (show q ∈ ([] : List (Addr × Obj)) ++ [] from hq)
/-- the def that got it calls it -/
theorem pe_actD {CXg : CXT} {Eg : XK} {Ng : List Str} {qg : Str} {sg : Scope} {g f c' dt : Addr} {cdg dc pm ct dflt : Value} {par : Arguments} {b : Expr} {k i : Nat} {a a1 : Str} {pn : List (Addr × Obj)} {xe : Value → Shared → Prop} {W : WX} {E : XK} {tb : TE} {p1 p2 : Pos}
    (I : Inv X pins σ H s) (L : Sc X.N X.env.scope scope) (M : Made X par b scope f c' dt dc pm ct dflt H s) (h1 : scope.names.lookup a1 = some .local)
    (hbind : ∃ kk, bindArgs (fnD X par b scope dt dc pm c' ct) ⟨[], []⟩ = seqItems? (.ref dt) >>= kk ∧ kk (some #[dflt]) = pure [(a1, dflt)])
    (tk : Takes ((cxOf CXg X.prog X.w X.K X.mg X.base Ng qg sg g cdg X.A X.stack s H Eg).tr pn xe) W) (hW : ∀ cls d σ' H', E cls d H' → W cls d σ' H') (hr : Room (k + 1) (X.A.deeper (envOfC qg sg s.heap.objs.size g cdg)))
    (hbody : ∀ (A : Around) (outer : List Env) (s : Shared) (H : Hp), Room k (A.deeper (lamEnv X scope s.heap.objs.size f c')) → PE (lamCx X A outer s H E scope f c') b tb)
    (hN : Ng[i]? = some a) (hv : Vis sg a) (hd : (a == ("__debug__" : Str)) = false) (hcd : (a == ("__classdict__" : Str)) = false) :
    PE ((cxOf CXg X.prog X.w X.K X.mg X.base Ng qg sg g cdg X.A X.stack s H Eg).tr pn xe) (.Call (.Name a p1) [] [] p2) (fun σZ HZ Q => σZ[i]? = some (some (.ref f)) ∧ HZ c' = some (CodeO c' (X.env.qual ++ lamN)) ∧ tb σ HZ Q) :=
  ⟨fun pinsZ sZ σZ HZ Q IZ ⟨hs, hc, ht⟩ => by
    refine wpAny_Call_Name_kw (thn ((pe_var (pos := p1) (i := i) hN hv hd hcd).run pinsZ sZ σZ HZ (fun v H1 => v = .ref f ∧ H1 = HZ) IZ ⟨.ref f, hs, rfl, rfl⟩) fun u s1 hu => ?_)
    obtain ⟨v, H1, I1, r1, rfl, rfl⟩ := hu
    obtain rfl : u = Value.ref f := r1
    have keep : ∀ {x : Addr} {o : Obj}, s.heap.get? x = some o → H x = none → x ∉ frs X.stack → s1.heap.get? x = some o := fun {x o} h n z => I1.base.keep x o h n z (fun q => by cases (show x ∈ ([] : List Addr) from q))
    have of1 := keep M.fn M.nf M.ff
    have ot1 := keep M.tup M.nt M.ft
    refine PySem.W.callWith_F0 ⟨_, _, _, _, of1⟩ ?_
    obtain ⟨⟨oc, vs, t, hoc, hdc, hvc⟩, _, _⟩ := I1.hok c' _ hc
    obtain ⟨kk, hk1, hk2⟩ := hbind
    have bt : BindsTo s1 (fnD X par b scope dt dc pm c' ct) ⟨[], []⟩ [(a1, dflt)] := BindsTo.of_defaults (T := dt) rfl ot1 rfl hk1 hk2
    have rc : codeAny (model X.prog X.w) (X.A.deeper (envOfC qg sg s.heap.objs.size g cdg)) (.call (.ref f) ⟨[], []⟩) (CR (L2.CX X.prog X.w) (envOfC qg sg s.heap.objs.size g cdg :: X.stack) X.prog X.w H1 s1 Q E) s1 := by
      refine PySem.W.kla_callFunE hr.depth of1 rfl L.co L.gen rfl ⟨c', oc, vs, t, rfl, hoc, hdc, hvc⟩ (bt _ _ _ _ ?_)
      refine wpAny_newFunctionEnv L.cell (fun y hy => by simp only [List.mem_singleton] at hy; rw [hy]; exact h1) (fun h' hns hsb => ⟨I1.nolimit.fresh _ hsb, ?_⟩) L.kind
      have kp : ∀ b o, s1.heap.get? b = some o → h'.get? b = some o := fun b o e => hsb.extBut b o (Nat.ne_of_lt (Heap.lt_size e)) (Heap.get?_push_of_some _ e)
      have J := begun (A := X.A.deeper (envOfC qg sg s.heap.objs.size g cdg)) (outer := envOfC qg sg s.heap.objs.size g cdg :: X.stack) (E := E) (f := f) (c' := c') (tk := s1.toks + 1) (bs := [(a1, dflt)]) I L I1.env0 hr.hd I1.base hns kp
      show codeAny _ _ (.expr b (lamEnv X scope s1.heap.objs.size f c')) _ _
      refine PySem.W.kla_codeExpr (wpAny_mono ((hbody _ _ s1 H1 (hr.deeper _)).run [] _ _ H1 Q J ht) (fun v s' hq => ?_) fun e s' hq => hq)
      obtain ⟨w', H', J', rv, q⟩ := hq
      exact ⟨w', H', J'.os, J'.bare, J'.base, J'.hok, rv, q⟩
    have goes : Passes (L2.CX X.prog X.w) ((cxOf CXg X.prog X.w X.K X.mg X.base Ng qg sg g cdg X.A X.stack s H Eg).tr pn xe) E := passes_call tk hW
    refine wpAny_call (codeAny_mono rc fun r s' hq => ?_)
    match r with
    | .error e => exact goes pinsZ σZ H1 s1 e s' I1 hq
    | .ok (.ret u) => exact I1.after hq
    | .ok .next => exact hq.elim
    | .ok .brk => exact hq.elim
    | .ok .cont => exact hq.elim⟩
/-- x(lambda a1=d1: b) -/
theorem pe_lamcallD {T : List (Addr × Str)} {TT : (XK → Hp → VK → Prop) → Hp → VK → Prop} {x a a1 : Str} {g c P : Addr} {k : Nat} {pg : Arguments} {bg : List Stmt} {sg : Scope} {dV kV doc pm cdv ct oc : Value} {an od : Option Addr} {osl : Array (Option Value)} {Ng : List Str}
    {par : Arguments} {b d1 : Expr} {dv : V} {t : XK → TE} {p lpos pos : Pos} (hg : Gl X x) (hm : X.mg x = some (.ref g)) (hk : PySem.W.keepIn X.K (.ref g) = true)
    (lk : X.K.lookup g = some ⟨oc, od, .func (PySem.W.fnOf x x pg bg sg dV kV doc pm an cdv ct), osl⟩) (hcg : PySem.W.codeIn X.K cdv x = true) (hb : L2.Binds X.K (PySem.W.fnOf x x pg bg sg dV kV doc pm an cdv ct) [a] [])
    (Sg : FnScope Ng [a] sg) (hNg : Ng[0]? = some a) (hva : Vis sg a) (hG : GivesTo X Ng x sg g cdv bg a (X.env.qual ++ lamN) TT)
    (TB : TabB X.base X.mg c P) (hcode : X.env.code = .ref c) (hmT : (P, X.env.qual ++ lamN) ∈ T) (hu : ∀ p ∈ T, p.1 = P → p.2 = X.env.qual ++ lamN) (hr : Room (k + 2) X.A) (L : Sc X.N X.env.scope scope)
    (hdf : par.defaults = [d1]) (hkd : par.kw_defaults = []) (hko : par.kwonlyargs = []) (hpe : PE X d1 (tC dv)) (h1 : scope.names.lookup a1 = some .local)
    (hbind : ∀ (q : Str) (cl : List (Str × Addr)) (dt : Addr) (dc pm cv ctv dflt : Value), ∃ kk, bindArgs (PySem.W.kdv_fn lamN q par (.expr b) scope cl (.ref dt) dc pm cv ctv) ⟨[], []⟩ = seqItems? (.ref dt) >>= kk ∧ kk (some #[dflt]) = pure [(a1, dflt)])
    (hbody : ∀ (A : Around) (outer : List Env) (s : Shared) (H : Hp) (E : XK) (f c' : Addr), Room k (A.deeper (lamEnv X scope s.heap.objs.size f c')) → PE (lamCx X A outer s H E scope f c') b (t E))
    (hdb : (x == ("__debug__" : Str)) = false := by decide) (hd : (a == ("__debug__" : Str)) = false := by decide) (hcd : (a == ("__classdict__" : Str)) = false := by decide) :
    PE X (.Call (.Name x p) [.Lambda par b scope lpos] [] pos) (tLam T TT t) :=
  ⟨fun pins s σ H Q I ⟨hT, h⟩ => by
    refine wpAny_Call_Name_kw (ld_glob I hg hm ?_ hdb)
    refine PySem.W.callWith_K (h₀ := X.base) I.ok.mod.kin hk ?_ (by rfl) (by rfl)
    show wpAny _ _ (spliced ((false, eval (.Lambda par b scope lpos) X.env) :: backTo pos (starEach [] X.env))) _ _ s
    refine Calls.spliced_cons (lam_made I TB hcode hmT hu hT (L.has I.ok) hdf hkd hko hpe rfl fun f c' dt dc pm' ctv dflt H1 s' I1 eN T1 M => ?_)
    refine Calls.spliced_nil ⟨I1.kIn, ?_⟩
    have rc : codeAny (model X.prog X.w) X.A (.call (.ref g) ⟨[.ref f], []⟩) (CR C8.CX0 X.stack X.prog X.w H1 s' Q C8.E0) s' :=
      run_ofS (N := Ng) (ps := [a]) (us := [.ref f]) (vs := [.ref f]) lk hcg Sg hr I1.env0 (hb s' [.ref f] I1.kIn rfl) (.cons rfl .nil) rfl fun hr' => by
        obtain ⟨t', ht', hq'⟩ := hG f c' s' H1 Q (fun E H' Q' => t E σ H' Q') (fun W pn xe E p1 p2 tk hW => pe_actD (i := 0) (a1 := a1) I1 L M h1 (hbind _ _ _ _ _ _ _ _) tk hW hr' (fun A outer s H hr2 => hbody A outer s H E f c' hr2) hNg hva hd hcd) M.co (h H1 eN T1)
        exact ⟨t', ht'.nox, hq'⟩
    refine wpAny_call (codeAny_mono rc fun r s2 hq => ?_)
    match r with
    | .error e => exact (show False from hq).elim
    | .ok (.ret u) => exact I1.after hq
    | .ok .next => exact hq.elim
    | .ok .brk => exact hq.elim
    | .ok .cont => exact hq.elim⟩
end
end LamD
set_option Elab.async false
set_option linter.all false
set_option maxRecDepth 100000
set_option maxHeartbeats 1000000
/-! a box of draws: [numbers, stirred] -/
namespace SB
open PySem PySem.Spec PyProof.Rows L2 Evl
def Bo (H : Hp) (b l : Addr) : Prop := b ≠ l ∧ ∃ (xs : List Int) (s : Int), H b = some (.lst [.ref l, .int s]) ∧ H l = some (.lst (xs.map V.int))
def BA (b l : Addr) : Addr → Prop := fun a => a = b ∨ a = l
section
variable {K : PySem.W.Frag} {σ : L2.St} {H H' H'' : Hp} {ta tb tc te tx to ti : TE} {t u : TT} {d : PyData} {ds es : List PyData} {D : Ends} {tu tw tz : TS} {g : TG} {a b l : Addr}
theorem Bo.ex (e : Ex H H') (h : Bo H b l) : Bo H' b l := let ⟨h1, xs, s, h2, h3⟩ := h; ⟨h1, xs, s, e _ _ h2, e _ _ h3⟩
theorem Bo.bx {A : Addr → Prop} (e : Bx A H H') (h1 : ¬ A b) (h2 : ¬ A l) (h : Bo H b l) : Bo H' b l := let ⟨h0, xs, s, h3, h4⟩ := h; ⟨h0, xs, s, e.2 _ _ h1 h3, e.2 _ _ h2 h4⟩
theorem Bo.known (h : Bo H b l) : ∀ a, BA b l a → ∃ o, H a = some o := fun a ha => by
  obtain ⟨_, xs, s, h1, h2⟩ := h
  rcases ha with rfl | rfl
  · exact ⟨_, h1⟩
  · exact ⟨_, h2⟩
theorem Bo.fresh (h : Bo H b l) {p : Addr} (hp : H p = none) : ¬ BA b l p := fun z => by
  obtain ⟨o, ho⟩ := h.known p z
  rw [hp] at ho
  cases ho
/-- the promise of a draw -/
def spTk : Sp := fun vs H Q _ => vs.length = 2 ∧ ∃ b l n, vs = [.ref b, .int n] ∧ Bo H b l ∧ 0 < n ∧ n < 1073741824 ∧ ∀ i H2, 0 ≤ i → i < n → Bx (BA b l) H H2 → Bo H2 b l → Q (.int i) H2
theorem spTk_len {ps : List Str} (hn : 2 = ps.length := by rfl) : ∀ vs H Q E, spTk vs H Q E → vs.length = ps.length := fun vs H Q E h => h.1.trans hn
/-- te draws: its data has P; the box stays a box -/
def Es (K : PySem.W.Frag) (b l : Addr) (te : TE) (σ : L2.St) (H : Hp) (P : PyData → Prop) : Prop := ∀ H1, Bx (BA b l) H H1 → Bo H1 b l → ∀ Q : VK, (∀ v d H2, Bx (BA b l) H1 H2 → Bo H2 b l → P d → imm d = true → Dp K H2 v d → Q v H2) → te σ H1 Q
variable {P Q R : PyData → Prop}
theorem Es.use (h : Es K b l te σ H P) (hb : Bo H b l) {Q : VK} (q : ∀ v d H2, Bx (BA b l) H H2 → Bo H2 b l → P d → imm d = true → Dp K H2 v d → Q v H2) : te σ H Q := h H Bx.refl hb Q q
theorem Es.mono (e : Bx (BA b l) H H') (h : Es K b l te σ H P) : Es K b l te σ H' P := fun H1 a hb Q q => h H1 (e.trans a) hb Q q
theorem Es.imp (h : Es K b l te σ H P) (i : ∀ d, P d → R d) : Es K b l te σ H R := fun H1 a hb Q q => h H1 a hb Q fun v d H2 e2 b2 p i2 dv => q v d H2 e2 b2 (i d p) i2 dv
/-- what does not draw -/
theorem es_of (h : ∀ H1, Bx (BA b l) H H1 → Bo H1 b l → Ed K te σ H1 d) (hi : imm d = true) : Es K b l te σ H (· = d) := fun H1 e hb Q q => (h H1 e hb).use fun v H2 e2 dv => q v d H2 (Bx.of e2) (hb.ex e2) rfl hi dv
theorem es_var {i : Nat} {v : V} (hs : σ[i]? = some (some v)) (h : Dp K H v d) (hi : imm d = true) : Es K b l (tVar i) σ H (· = d) := es_of (fun H1 e _ => ed_var hs (dp_tx e.1 hi h)) hi
theorem es_int {i : Int} : Es K b l (tC (.int i)) σ H (· = .int i) := es_of (fun _ _ _ => ed_int) rfl
theorem es_str {i : Str} : Es K b l (tC (.str i)) σ H (· = .str i) := es_of (fun _ _ _ => ed_str) rfl
/-- two operands, from the left -/
theorem es_op {r : R2} (ha : Es K b l ta σ H P) (hb : Es K b l tb σ H Q) (h : ∀ H1 x y d e, Bx (BA b l) H H1 → Dp K H1 x d → Dp K H1 y e → P d → Q e → imm d = true → imm e = true → ∃ c, R c ∧ imm c = true ∧ Ed K (tOp r (tK x) (tK y)) σ H1 c) : Es K b l (tOp r ta tb) σ H R := fun H1 e1 b1 _ q =>
  ha H1 e1 b1 _ fun x d H2 e2 b2 pd id dx => hb H2 (e1.trans e2) b2 _ fun y e H3 e3 b3 pe ie dy => by
    obtain ⟨c, rc, ic, hc⟩ := h H3 x y d e ((e1.trans e2).trans e3) (dp_tx e3.1 id dx) dy pd pe id ie
    exact hc.use fun v H4 e4 dv => q v c H4 ((e2.trans e3).trans (Bx.of e4)) (b3.ex e4) rc ic dv
/-- one operand -/
theorem es_fn {te' : TE → TE} (hte : ∀ ta σ H Q, te' ta σ H Q = ta σ H fun v H1 => te' (tK v) σ H1 Q) (ha : Es K b l ta σ H P) (h : ∀ H1 x d, Bx (BA b l) H H1 → Dp K H1 x d → P d → imm d = true → ∃ c, R c ∧ imm c = true ∧ Ed K (te' (tK x)) σ H1 c) : Es K b l (te' ta) σ H R := fun H1 e1 b1 _ q => by
  rw [hte]
  exact ha H1 e1 b1 _ fun x d H2 e2 b2 pd id dx => by
    obtain ⟨c, rc, ic, hc⟩ := h H2 x d (e1.trans e2) dx pd id
    exact hc.use fun v H4 e4 dv => q v c H4 (e2.trans (Bx.of e4)) (b2.ex e4) rc ic dv
def InR (n : Int) (d : PyData) : Prop := ∃ i : Int, d = .int i ∧ 0 ≤ i ∧ i < n
def IsI (p : Int → Prop) (d : PyData) : Prop := ∃ i : Int, d = .int i ∧ p i
/-- a draw -/
theorem es_take {i : Nat} {n : Int} {E : XK} {p : Int → Prop} (hs : σ[i]? = some (some (.ref b))) (h : Es K b l te σ H (IsI p)) (hp : ∀ n, p n → 0 < n ∧ n < 1073741824) (hr : ∀ n i, p n → 0 ≤ i → i < n → R (.int i)) : Es K b l (tCall spTk [] E (tCons (tVar i) (tCons te tNil))) σ H R := fun H1 e1 b1 Q q =>
  ⟨_, hs, h H1 e1 b1 _ fun v d H2 e2 b2 pd id dv => by
    obtain ⟨m, rfl, pm⟩ := pd
    cases dp_int dv
    exact ⟨rfl, b, l, m, rfl, b2, (hp m pm).1, (hp m pm).2, fun j H3 h0 h1 e3 b3 => q _ _ H3 (e2.trans e3) b3 (hr m j pm h0 h1) rfl (.int j)⟩⟩
theorem es_takeC {i : Nat} {n : Int} {E : XK} (hs : σ[i]? = some (some (.ref b))) (hn : 0 < n ∧ n < 1073741824) : Es K b l (tCall spTk [] E (tCons (tVar i) (tCons (tC (.int n)) tNil))) σ H (InR n) :=
  es_take (n := n) (p := (· = n)) hs (es_int.imp fun d hd => ⟨n, hd, rfl⟩) (fun m hm => by rw [hm]; exact hn) fun m j hm h0 h1 => ⟨j, rfl, h0, by rw [← hm]; exact h1⟩
/-! more of data -/
theorem ed_eqD {da db : PyData} (ha : Ed K ta σ H da) (hb : Ed K tb σ H db) (h1 : SeqAt.shaped da = true) (h2 : SeqAt.shaped db = true) : Ed K (tOp (rEqU K) ta tb) σ H (.bool (da.eqv db)) :=
  ed_op ha hb fun H1 e x y dx dy Q q => .inr ⟨da, db, dx, dy, h1, h2, q _ H1 (Ex.refl H1) (.bl _)⟩
theorem ed_neD {da db : PyData} (ha : Ed K ta σ H da) (hb : Ed K tb σ H db) (h1 : SeqAt.shaped da = true) (h2 : SeqAt.shaped db = true) : Ed K (tOp (rNeU K) ta tb) σ H (.bool (!da.eqv db)) :=
  ed_op ha hb fun H1 e x y dx dy Q q => .inr ⟨da, db, dx, dy, h1, h2, q _ H1 (Ex.refl H1) (.bl _)⟩
theorem ed_intc {i : Int} (h : Ed K ta σ H (.int i)) : Ed K (tCB (fun xs H Q => (∃ i, xs = [.int i] ∧ Q (.int i) H) ∨ ∃ k, xs = [.bl k] ∧ Q (.int (if k = true then 1 else 0)) H) (tCons ta tNil)) σ H (.int i) :=
  ed_cb (ea_cons h ea_nil) fun H1 e vs dvs Q q => by
    obtain ⟨x, rfl, dx⟩ := dp1 dvs
    cases dp_int dx
    exact .inl ⟨i, rfl, q _ H1 (Ex.refl H1) (.int i)⟩
theorem ed_intb {b : Bool} (h : Ed K ta σ H (.bool b)) : Ed K (tCB (fun xs H Q => (∃ i, xs = [.int i] ∧ Q (.int i) H) ∨ ∃ k, xs = [.bl k] ∧ Q (.int (if k = true then 1 else 0)) H) (tCons ta tNil)) σ H (.int (if b = true then 1 else 0)) :=
  ed_cb (ea_cons h ea_nil) fun H1 e vs dvs Q q => by
    obtain ⟨x, rfl, dx⟩ := dp1 dvs
    cases dp_bl dx
    exact .inr ⟨b, rfl, q _ H1 (Ex.refl H1) (.int _)⟩
theorem ed_mod {i j : Int} (ha : Ed K ta σ H (.int i)) (hb : Ed K tb σ H (.int j)) (h : 0 < j) : Ed K (tOp (rI (fun _ j => 0 < j) fun i j => .int (i % j)) ta tb) σ H (.int (i % j)) := ed_opI (.int (i % j)) ha hb (fun _ => .int _) fun _ _ q => ⟨i, j, rfl, rfl, h, q⟩
theorem ed_fdiv {i j : Int} (ha : Ed K ta σ H (.int i)) (hb : Ed K tb σ H (.int j)) (h : 0 < j) (h2 : j < 1073741824) : Ed K (tOp (rI CDiv fun i j => .int (i / j)) ta tb) σ H (.int (i / j)) := ed_opI (.int (i / j)) ha hb (fun _ => .int _) fun _ _ q => ⟨i, j, rfl, rfl, ⟨h, h2⟩, q⟩
end
theorem lay_map {α : Type} {f : α → PyData} (h : ∀ x, (f x).canLay0 = true) : ∀ xs : List α, PyData.canLayAll0 (xs.map f) = true
  | [] => rfl
  | x :: xs => by rw [List.map_cons, PyData.canLayAll0, h x, lay_map h xs]; rfl
theorem depth_map {α : Type} {f : α → PyData} {n : Nat} (h : ∀ x, (f x).depth ≤ n) : ∀ xs : List α, PyData.depthAll (xs.map f) ≤ n
  | [] => Nat.zero_le _
  | x :: xs => by
    rw [List.map_cons, PyData.depthAll]
    have := h x
    have := depth_map h xs
    omega
theorem shaped_ints (xs : List Int) : SeqAt.shaped (.list (xs.map .int)) = true := by
  unfold SeqAt.shaped
  rw [PyData.canLay0, lay_map (fun _ => rfl), PyData.depth]
  have := depth_map (f := PyData.int) (n := 1) (fun _ => by simp [PyData.depth]) xs
  simp only [Bool.true_and, decide_eq_true_eq]
  omega
theorem eqv_nil {α : Type} {f : α → PyData} (xs : List α) : (PyData.list (xs.map f)).eqv (.list []) = xs.isEmpty := by cases xs <;> simp [PyData.eqv, PyData.eqvAll]
end SB
set_option Elab.async false
set_option linter.all false
set_option maxRecDepth 100000
namespace K01
open PySem PySem.Spec PyProof.Rows L2 SB C8
open Evl (Ex fresh_back sq_of st_of)
abbrev sp_law_take (K : PySem.W.Frag) : Sp := spTk
theorem box_dp {K : PySem.W.Frag} {H : Hp} {l : Addr} {xs : List Int} (h : H l = some (.lst (xs.map V.int))) : Dp K H (.ref l) (.list (xs.map .int)) := .lst (sq_of h) dpall_ints
theorem at0 {d : PyData} {ds : List PyData} : atI (d :: ds) 0 = some d := (show atI (d :: ds) ((0 : Nat) : Int) = some d from atI_nat rfl)
theorem box_all {K : PySem.W.Frag} {H : Hp} {b l : Addr} {xs : List Int} {s : Int} (h1 : H b = some (.lst [.ref l, .int s])) (h2 : H l = some (.lst (xs.map V.int))) : Dp K H (.ref b) (.list [.list (xs.map .int), .int s]) := .lst (sq_of h1) (.cons (box_dp h2) (.cons (.int s) .nil))
theorem box0 {K : PySem.W.Frag} {σ : L2.St} {H : Hp} {b l : Addr} {s : Int} {i : Nat} (hs : σ[i]? = some (some (.ref b))) (h1 : H b = some (.lst [.ref l, .int s])) {Q : VK} (q : Q (.ref l) H) : tOp (rIx K) (tVar i) (tC (.int 0)) σ H Q :=
  ⟨_, hs, .inl ⟨b, [.ref l, .int s], 0, .ref l, rfl, rfl, sq_of h1, rfl, q⟩⟩
section
variable {P : Program} {w : World} {K : PySem.W.Frag} {mg : Str → Option Value} {base : Heap}
abbrev s_law_take : Stmt := topS 29
theorem sc_law_take : FnScope ["_law_box", "_law_size", "_law_figure"] ["_law_box", "_law_size"] (fnScope s_law_take) := fnScope_by (by decide +kernel)
theorem ok_law_take  {f : Addr} {fd : FuncData} (F : Def K mg "_law_take" s_law_take f fd) (b : L2.Binds K fd ["_law_box", "_law_size"] []) (m_int : mg "int" = none) :
    Cal P w K mg base 1 "_law_take" (sp_law_take K) [] := by
  refine cal0 F b .nil sc_law_take spTk_len (fun cdv A outer s H vs Q E hr h => ?_)
  have ndX := sc_law_take.nd
  obtain ⟨_, b, l, n, rfl, ⟨hbl, xs, s0, h1, h2⟩, hn, hn2, q⟩ := h
  refine ⟨_, (pss_cons (ps_if (pt_cmpR (k_eq (K := K) rfl hr.units) (pe_ix (k_ix (K := K) rfl) (pv 0) pe_int (fun _ _ => rfl)) (pe_lst pa_nil) (nomark _))
        (pss_cons (ps_asg (pe_op op_mod (pe_callTy call_int1 (by rfl) m_int (by decide +kernel) (pa_cons (pe_op (k_mul2 (K := K) rfl) (pe_ix (k_ix (K := K) rfl) (pv 0) pe_int (fun _ _ => rfl)) pe_int) pa_nil)) pe_int) (pg_sub (pv 0) pe_int set_list))
        (pss_one (ps_ret (pe_op op_mod (pe_op op_fdiv (pe_ix (k_ix (K := K) rfl) (pv 0) pe_int (fun _ _ => rfl)) pe_int) (pv 1))))) pss_nil)
      (pss_cons (ps_set (i := 2) ndX rfl (.inl rfl) (pe_ix (k_ix (K := K) rfl) (pe_ix (k_ix (K := K) rfl) (pv 0) pe_int (fun _ _ => rfl)) pe_int (fun _ _ => rfl)))
      (pss_cons (ps_asg (pe_op op_fdiv (pv 2) (pv 1)) (pg_sub (pe_ix (k_ix (K := K) rfl) (pv 0) pe_int (fun _ _ => rfl)) pe_int set_list))
      (pss_cut (ps_if (PW.pt (pw_or (pt_cmpR (k_eq (K := K) rfl hr.units) (pe_ix (k_ix (K := K) rfl) (pe_ix (k_ix (K := K) rfl) (pv 0) pe_int (fun _ _ => rfl)) pe_int (fun _ _ => rfl)) pe_int (nomark _)) (pw_or1 (pt_cmpR (k_eq (K := K) rfl hr.units) (pe_ix (k_ix (K := K) rfl) (pe_ix (k_ix (K := K) rfl) (pv 0) pe_int (fun _ _ => rfl)) pe_int (fun _ _ => rfl)) (pe_un un_neg pe_int) (nomark _)))))
        (pss_one (ps_expr (k_bm (K := K) rfl (pe_bm PySem.F.plainAttrs_list PySem.F.slot_list_pop PySem.F.type_list_pop mt_popAt (pe_ix (k_ix (K := K) rfl) (pv 0) pe_int (fun _ _ => rfl)) (pa_cons pe_int pa_nil))))) pss_nil)
      (pss_one (ps_ret (pe_op op_mod (pe_callTy call_int1 (by rfl) m_int (by decide +kernel) (pa_cons (pv 2) pa_nil)) (pv 1)))))))), ?_⟩
  have bd := box_all (K := K) h1 h2
  refine q_when (et_test ((ed_eqD (ed_ixL (d := .list (xs.map .int)) (ed_var rfl bd) ed_int rfl) (ed_lst ea_nil (by simp)) (shaped_ints xs) (by decide)).is (congrArg PyData.bool (eqv_nil xs)))) (fun hw H1 e1 => ?_) fun hw H1 e1 => ?_
  · -- no numbers left
    show tAsg _ _ _ _ _
    refine (ed_mod (ed_intc (ed_mul2 (ed_ixL (d := .int s0) (ed_var rfl (dp_ex e1 bd)) ed_int rfl) ed_int (.inr (by decide)))) ed_int (by decide)).use fun v H2 e2 dv => ?_
    cases dp_int dv
    have e12 := e1.trans e2
    refine ⟨_, rfl, b, [.ref l, .int s0], 1, 1, rfl, rfl, e12 _ _ h1, rfl, ?_⟩
    have hb3 : upd H2 b (.lst ([.ref l, .int s0].set 1 (.int (s0 * 48271 % 2147483647)))) b = some (.lst [.ref l, .int (s0 * 48271 % 2147483647)]) := upd_same
    have hl3 : upd H2 b (.lst ([.ref l, .int s0].set 1 (.int (s0 * 48271 % 2147483647)))) l = some (.lst (xs.map V.int)) := by
      rw [upd_ne hbl.symm]
      exact e12 _ _ h2
    generalize hH3 : upd H2 b (.lst ([.ref l, .int s0].set 1 (.int (s0 * 48271 % 2147483647)))) = H3 at hb3 hl3
    have bx3 : Bx (BA b l) H H3 := by
      rw [← hH3]
      exact (Bx.of e12).trans (Bx.lst (e12 _ _ h1) (.inl rfl))
    refine w_ret (ed_mod (ed_fdiv (ed_ixL (d := .int (s0 * 48271 % 2147483647)) (ed_var rfl (box_all (K := K) hb3 hl3)) ed_int rfl) ed_int (by decide) (by decide)) (ed_var rfl (.int n)) hn) fun u H4 e4 du => ?_
    cases dp_int du
    exact q _ H4 (Int.emod_nonneg _ (by omega)) (Int.emod_lt_of_pos _ hn) (bx3.trans (Bx.of e4)) ⟨hbl, xs, _, e4 _ _ hb3, e4 _ _ hl3⟩
  · cases xs with
    | nil => cases hw
    | cons x r =>
      have bd1 := dp_ex e1 bd
      refine q_asg (ed_ixL (d := .int x) (ed_ixL (d := .list ((x :: r).map .int)) (ed_var rfl bd1) ed_int rfl) ed_int at0) fun v H2 e2 dv => ?_
      cases dp_int dv
      have e12 := e1.trans e2
      have h1' := e12 _ _ h1
      have h2' := e12 _ _ h2
      show tAsg _ _ _ _ _
      refine (ed_fdiv (K := K) (ed_var rfl (.int x)) (ed_var rfl (.int n)) hn hn2).use fun v H3 e3 dv => ?_
      cases dp_int dv
      refine box0 rfl (e3 _ _ h1') ⟨l, (x :: r).map V.int, 0, 0, rfl, rfl, e3 _ _ h2', (show ixN ((x :: r).map V.int).length ((0 : Nat) : Int) = some 0 from Evl.ixN_nat (by simp)), ?_⟩
      have hb4 : upd H3 l (.lst (((x :: r).map V.int).set 0 (.int (x / n)))) b = some (.lst [.ref l, .int s0]) := by
        rw [upd_ne hbl]
        exact e3 _ _ h1'
      have hl4 : upd H3 l (.lst (((x :: r).map V.int).set 0 (.int (x / n)))) l = some (.lst ((x / n :: r).map V.int)) := upd_same
      generalize hH4 : upd H3 l (.lst (((x :: r).map V.int).set 0 (.int (x / n)))) = H4 at hb4 hl4
      have bx4 : Bx (BA b l) H H4 := by
        rw [← hH4]
        exact (Bx.of (e12.trans e3)).trans (Bx.lst (e3 _ _ h2') (.inr rfl))
      have bd4 := box_all (K := K) hb4 hl4
      refine q_cut (M := fun σ' H' => σ' = [some (.ref b), some (.int n), some (.int x)] ∧ Bx (BA b l) H H' ∧ Bo H' b l) (w_when (SB.et_or (et_test (ed_eqI (ed_ixL (d := .int (x / n)) (ed_ixL (d := .list ((x / n :: r).map .int)) (ed_var rfl bd4) (ed_int (i := 0)) rfl) (ed_int (i := 0)) at0) (ed_int (i := 0)))) fun _ => et_test (ed_eqI (ed_ixL (d := .int (x / n)) (ed_ixL (d := .list ((x / n :: r).map .int)) (ed_var rfl bd4) (ed_int (i := 0)) rfl) (ed_int (i := 0)) at0) (ed_neg (ed_int (i := 1))))) (fun hw H5 e5 => ?_) fun hw H5 e5 => ⟨rfl, bx4.trans (Bx.of e5), hbl, _, _, e5 _ _ hb4, e5 _ _ hl4⟩) fun σ' H' h => ?_
      · show tDrop _ _ _ _
        have hl5 := e5 _ _ hl4
        refine box0 rfl (e5 _ _ hb4) ⟨.inl ⟨rfl, _, sq_of hl5⟩, ?_⟩
        refine ⟨l, _, 0, 0, .int (x / n), rfl, rfl, hl5, by decide, by decide, by simp [seqIndex?], rfl, rfl, (bx4.trans (Bx.of e5)).trans (Bx.lst hl5 (.inr rfl)), hbl, r, s0, ?_, ?_⟩
        · rw [upd_ne hbl]
          exact e5 _ _ hb4
        · rw [upd_same]
          rfl
      · obtain ⟨rfl, bx5, bo5⟩ := h
        refine w_ret (K := K) (ed_mod (ed_intc (ed_var rfl (.int x))) (ed_var rfl (.int n)) hn) fun u H6 e6 du => ?_
        cases dp_int du
        exact q _ H6 (Int.emod_nonneg _ (by omega)) (Int.emod_lt_of_pos _ hn) (bx5.trans (Bx.of e6)) (bo5.ex e6)
end
end K01
set_option Elab.async false
set_option linter.all false
set_option maxRecDepth 100000
set_option maxHeartbeats 1000000
namespace SB
open PySem PySem.Spec PyProof.Rows L2 Evl
def isNone : PyData → Bool
  | .none => true
  | _ => false
def isBool : PyData → Bool
  | .bool _ => true
  | _ => false
def isInt : PyData → Bool
  | .bool _ => true
  | .int _ => true
  | _ => false
def isStr : PyData → Bool
  | .str _ => true
  | _ => false
def isTup : PyData → Bool
  | .tuple _ => true
  | _ => false
def isLst : PyData → Bool
  | .list _ => true
  | _ => false
section
variable {K : PySem.W.Frag} {σ : L2.St} {H H' H'' : Hp} {ta tb tc te tx to ti : TE} {t u : TT} {d : PyData} {ds es : List PyData} {D : Ends}
theorem ed_isN (h : Ed K ta σ H d) : Ed K (tOp (fun x y H Q => y = .non ∧ Q (.bl (decide (x = .non))) H) ta (tC .non)) σ H (.bool (isNone d)) := fun H1 e Q q =>
  h H1 e _ fun v H2 e2 dv => ⟨rfl, by
    have : decide (v = V.non) = isNone d := by cases dv <;> rfl
    rw [this]
    exact q _ H2 e2 (.bl _)⟩
theorem ed_notN (h : Ed K ta σ H d) : Ed K (tOp (fun x y H Q => y = .non ∧ Q (.bl (!decide (x = .non))) H) ta (tC .non)) σ H (.bool (!isNone d)) := fun H1 e Q q =>
  h H1 e _ fun v H2 e2 dv => ⟨rfl, by
    have : decide (v = V.non) = isNone d := by cases dv <;> rfl
    rw [this]
    exact q _ H2 e2 (.bl _)⟩
theorem ed_isBool (h : Ed K ta σ H d) : Ed K (tCB (rIsi K) (tCons ta (tCons (tC (.ty "bool")) tNil))) σ H (.bool (isBool d)) := by
  cases d with
  | none => exact ed_isi h .non (show kitB "NoneType" "bool" = some false by decide +kernel)
  | bool b => exact ed_isi h (.bl b) (show kitB "bool" "bool" = some true by decide +kernel)
  | int b => exact ed_isi h (.int b) (show kitB "int" "bool" = some false by decide +kernel)
  | str b => exact ed_isi h (.str b) (show kitB "str" "bool" = some false by decide +kernel)
  | list b => exact ed_isi h (.lst b) (show kitB "list" "bool" = some false by decide +kernel)
  | tuple b => exact ed_isi h (.tup b) (show kitB "tuple" "bool" = some false by decide +kernel)
  | dict b => exact fun H1 e Q q => h H1 e _ fun v H2 e2 dv => by cases dv
theorem ed_isInt (h : Ed K ta σ H d) : Ed K (tCB (rIsi K) (tCons ta (tCons (tC (.ty "int")) tNil))) σ H (.bool (isInt d)) := by
  cases d with
  | none => exact ed_isi h .non (show kitB "NoneType" "int" = some false by decide +kernel)
  | bool b => exact ed_isi h (.bl b) (show kitB "bool" "int" = some true by decide +kernel)
  | int b => exact ed_isi h (.int b) (show kitB "int" "int" = some true by decide +kernel)
  | str b => exact ed_isi h (.str b) (show kitB "str" "int" = some false by decide +kernel)
  | list b => exact ed_isi h (.lst b) (show kitB "list" "int" = some false by decide +kernel)
  | tuple b => exact ed_isi h (.tup b) (show kitB "tuple" "int" = some false by decide +kernel)
  | dict b => exact fun H1 e Q q => h H1 e _ fun v H2 e2 dv => by cases dv
theorem ed_isStr (h : Ed K ta σ H d) : Ed K (tCB (rIsi K) (tCons ta (tCons (tC (.ty "str")) tNil))) σ H (.bool (isStr d)) := by
  cases d with
  | none => exact ed_isi h .non (show kitB "NoneType" "str" = some false by decide +kernel)
  | bool b => exact ed_isi h (.bl b) (show kitB "bool" "str" = some false by decide +kernel)
  | int b => exact ed_isi h (.int b) (show kitB "int" "str" = some false by decide +kernel)
  | str b => exact ed_isi h (.str b) (show kitB "str" "str" = some true by decide +kernel)
  | list b => exact ed_isi h (.lst b) (show kitB "list" "str" = some false by decide +kernel)
  | tuple b => exact ed_isi h (.tup b) (show kitB "tuple" "str" = some false by decide +kernel)
  | dict b => exact fun H1 e Q q => h H1 e _ fun v H2 e2 dv => by cases dv
theorem ed_isTup (h : Ed K ta σ H d) : Ed K (tCB (rIsi K) (tCons ta (tCons (tC (.ty "tuple")) tNil))) σ H (.bool (isTup d)) := by
  cases d with
  | none => exact ed_isi h .non (show kitB "NoneType" "tuple" = some false by decide +kernel)
  | bool b => exact ed_isi h (.bl b) (show kitB "bool" "tuple" = some false by decide +kernel)
  | int b => exact ed_isi h (.int b) (show kitB "int" "tuple" = some false by decide +kernel)
  | str b => exact ed_isi h (.str b) (show kitB "str" "tuple" = some false by decide +kernel)
  | list b => exact ed_isi h (.lst b) (show kitB "list" "tuple" = some false by decide +kernel)
  | tuple b => exact ed_isi h (.tup b) (show kitB "tuple" "tuple" = some true by decide +kernel)
  | dict b => exact fun H1 e Q q => h H1 e _ fun v H2 e2 dv => by cases dv
theorem ed_isLst (h : Ed K ta σ H d) : Ed K (tCB (rIsi K) (tCons ta (tCons (tC (.ty "list")) tNil))) σ H (.bool (isLst d)) := by
  cases d with
  | none => exact ed_isi h .non (show kitB "NoneType" "list" = some false by decide +kernel)
  | bool b => exact ed_isi h (.bl b) (show kitB "bool" "list" = some false by decide +kernel)
  | int b => exact ed_isi h (.int b) (show kitB "int" "list" = some false by decide +kernel)
  | str b => exact ed_isi h (.str b) (show kitB "str" "list" = some false by decide +kernel)
  | list b => exact ed_isi h (.lst b) (show kitB "list" "list" = some true by decide +kernel)
  | tuple b => exact ed_isi h (.tup b) (show kitB "tuple" "list" = some false by decide +kernel)
  | dict b => exact fun H1 e Q q => h H1 e _ fun v H2 e2 dv => by cases dv
theorem ed_eqB {a b : Bool} (ha : Ed K ta σ H (.bool a)) (hb : Ed K tb σ H (.bool b)) : Ed K (tOp (rEqU K) ta tb) σ H (.bool (a == b)) := ed_op ha hb fun H1 e x y dx dy Q q => by
  cases dp_bl dx; cases dp_bl dy
  refine .inl ⟨rfl, ?_⟩
  have e : decide (V.bl a = V.bl b) = (a == b) := by cases a <;> cases b <;> rfl
  rw [e]
  exact q _ H1 (Ex.refl H1) (.bl _)
theorem ed_neB {a b : Bool} (ha : Ed K ta σ H (.bool a)) (hb : Ed K tb σ H (.bool b)) : Ed K (tOp (rNeU K) ta tb) σ H (.bool (!(a == b))) := ed_op ha hb fun H1 e x y dx dy Q q => by
  cases dp_bl dx; cases dp_bl dy
  refine .inl ⟨rfl, ?_⟩
  have e : decide (V.bl a = V.bl b) = (a == b) := by cases a <;> cases b <;> rfl
  rw [e]
  exact q _ H1 (Ex.refl H1) (.bl _)
theorem ed_eqSt {a b : Str} (ha : Ed K ta σ H (.str a)) (hb : Ed K tb σ H (.str b)) : Ed K (tOp (rEqU K) ta tb) σ H (.bool (decide (a = b))) := ed_op ha hb fun H1 e x y dx dy Q q => by
  cases dp_str dx; cases dp_str dy
  refine .inl ⟨rfl, ?_⟩
  have e : decide (V.str a = V.str b) = decide (a = b) := by simp
  rw [e]
  exact q _ H1 (Ex.refl H1) (.bl _)
/-- a list or a tuple -/
def isSeq (d : PyData) (ds : List PyData) : Prop := d = .list ds ∨ d = .tuple ds
theorem ed_lenQ (h : Ed K ta σ H d) (hs : isSeq d ds) : Ed K (tCB (fun xs H Q => ∃ x n, xs = [x] ∧ LenV K x H n ∧ Q (.int n) H) (tCons ta tNil)) σ H (.int ds.length) := by
  rcases hs with rfl | rfl
  · exact ed_lenL h
  · exact ed_lenT h
theorem ed_ixQ {i : Int} {c : PyData} (ha : Ed K ta σ H d) (hb : Ed K tb σ H (.int i)) (hs : isSeq d ds) (h : atI ds i = some c) : Ed K (tOp (rIx K) ta tb) σ H c := by
  rcases hs with rfl | rfl
  · exact ed_ixL ha hb h
  · exact ed_ixT ha hb h
end
/-- what can be compared by going down n times -/
def alk : Nat → PyData → Prop
  | 0, _ => False
  | _ + 1, .none => True
  | _ + 1, .bool _ => True
  | _ + 1, .int _ => True
  | _ + 1, .str _ => True
  | n + 1, .list ds => ds.length ≤ 100000 ∧ ∀ d ∈ ds, alk n d
  | n + 1, .tuple ds => ds.length ≤ 100000 ∧ ∀ d ∈ ds, alk n d
  | _ + 1, .dict _ => False
end SB
set_option Elab.async false
set_option linter.all false
set_option maxRecDepth 100000
namespace K01
open PySem PySem.Spec PyProof.Rows L2 SB C8
open Evl (Ex fresh_back sq_of st_of)
abbrev sp_law_alike (K : PySem.W.Frag) (n : Nat) : Sp := spP K 2 fun ds d => ∃ x, ds = [x, x] ∧ alk n x ∧ d = .bool true
section
variable {P : Program} {w : World} {K : PySem.W.Frag} {mg : Str → Option Value} {base : Heap}
abbrev s_law_alike : Stmt := topS 30
theorem sc_law_alike : FnScope ["_law_found", "_law_due", "_law_k"] ["_law_found", "_law_due"] (fnScope s_law_alike) := fnScope_by (by decide +kernel)
theorem ok_law_alike  {f : Addr} {fd : FuncData} (F : Def K mg "_law_alike" s_law_alike f fd) (b : L2.Binds K fd ["_law_found", "_law_due"] []) (m_isinstance : mg "isinstance" = none) (m_bool : mg "bool" = none) (m_int : mg "int" = none) (m_str : mg "str" = none) (m_list : mg "list" = none) (m_tuple : mg "tuple" = none) (m_len : mg "len" = none) (m_range : mg "range" = none) {n : Nat} (f_law_alike : Cal P w K mg base n "_law_alike" (sp_law_alike K n) []) :
    Cal P w K mg base (n + 1) "_law_alike" (sp_law_alike K (n + 1)) [] := by
  refine cal0 F b .nil sc_law_alike spP_len (fun cdv A outer s H vs Q E hr h => ?_)
  have ndX := sc_law_alike.nd
  obtain ⟨_, ds, d, hds, ⟨x, rfl, hx, rfl⟩, q⟩ := h
  obtain ⟨v1, v2, rfl, h1, h2⟩ := dp2 hds
  refine ⟨_, (pss_cons (ps_if (pt_cmpR op_isN (pv 1) pe_non (nomark _))
        (pss_one (ps_ret (pe_cmpR op_isN (pv 0) pe_non (nomark _)))) pss_nil)
      (pss_cons (ps_if (pt_truthK (K := K) rfl (pe_callB (k_isi (K := K) rfl) (by rfl) m_isinstance (by decide +kernel) (pa_cons (pv 1) (pa_cons (pe_bltn (v := .ty "bool") (by rfl) m_bool (by decide +kernel) rfl) pa_nil))) (by intro _; rfl))
        (pss_one (ps_ret (pe_and (pe_callB (k_isi (K := K) rfl) (by rfl) m_isinstance (by decide +kernel) (pa_cons (pv 0) (pa_cons (pe_bltn (v := .ty "bool") (by rfl) m_bool (by decide +kernel) rfl) pa_nil))) (pe_one (pe_cmpR (k_eq (K := K) rfl hr.units) (pv 0) (pv 1) (nomark _)))))) pss_nil)
      (pss_cons (ps_if (pt_truthK (K := K) rfl (pe_callB (k_isi (K := K) rfl) (by rfl) m_isinstance (by decide +kernel) (pa_cons (pv 1) (pa_cons (pe_bltn (v := .ty "int") (by rfl) m_int (by decide +kernel) rfl) pa_nil))) (by intro _; rfl))
        (pss_one (ps_ret (pe_and (pe_callB (k_isi (K := K) rfl) (by rfl) m_isinstance (by decide +kernel) (pa_cons (pv 0) (pa_cons (pe_bltn (v := .ty "int") (by rfl) m_int (by decide +kernel) rfl) pa_nil))) (pe_and (pe_not (pe_callB (k_isi (K := K) rfl) (by rfl) m_isinstance (by decide +kernel) (pa_cons (pv 0) (pa_cons (pe_bltn (v := .ty "bool") (by rfl) m_bool (by decide +kernel) rfl) pa_nil)))) (pe_one (pe_cmpR (k_eq (K := K) rfl hr.units) (pv 0) (pv 1) (nomark _))))))) pss_nil)
      (pss_cons (ps_if (pt_truthK (K := K) rfl (pe_callB (k_isi (K := K) rfl) (by rfl) m_isinstance (by decide +kernel) (pa_cons (pv 1) (pa_cons (pe_bltn (v := .ty "str") (by rfl) m_str (by decide +kernel) rfl) pa_nil))) (by intro _; rfl))
        (pss_one (ps_ret (pe_and (pe_callB (k_isi (K := K) rfl) (by rfl) m_isinstance (by decide +kernel) (pa_cons (pv 0) (pa_cons (pe_bltn (v := .ty "str") (by rfl) m_str (by decide +kernel) rfl) pa_nil))) (pe_one (pe_cmpR (k_eq (K := K) rfl hr.units) (pv 0) (pv 1) (nomark _)))))) pss_nil)
      (pss_cons (ps_if (PW.pt (pw_or (pt_cmpR (k_ne (K := K) rfl hr.units) (pe_callB (k_isi (K := K) rfl) (by rfl) m_isinstance (by decide +kernel) (pa_cons (pv 1) (pa_cons (pe_bltn (v := .ty "tuple") (by rfl) m_tuple (by decide +kernel) rfl) pa_nil))) (pe_callB (k_isi (K := K) rfl) (by rfl) m_isinstance (by decide +kernel) (pa_cons (pv 0) (pa_cons (pe_bltn (v := .ty "tuple") (by rfl) m_tuple (by decide +kernel) rfl) pa_nil))) (nomark _)) (pw_or1 (pt_cmpR (k_ne (K := K) rfl hr.units) (pe_callB (k_isi (K := K) rfl) (by rfl) m_isinstance (by decide +kernel) (pa_cons (pv 1) (pa_cons (pe_bltn (v := .ty "list") (by rfl) m_list (by decide +kernel) rfl) pa_nil))) (pe_callB (k_isi (K := K) rfl) (by rfl) m_isinstance (by decide +kernel) (pa_cons (pv 0) (pa_cons (pe_bltn (v := .ty "list") (by rfl) m_list (by decide +kernel) rfl) pa_nil))) (nomark _)))))
        (pss_one (ps_ret pe_bl)) pss_nil)
      (pss_cons (ps_if (pt_cmpR (k_ne (K := K) rfl hr.units) (pe_callB (k_len (K := K) rfl) (by rfl) m_len (by decide +kernel) (pa_cons (pv 0) pa_nil)) (pe_callB (k_len (K := K) rfl) (by rfl) m_len (by decide +kernel) (pa_cons (pv 1) pa_nil)) (nomark _))
        (pss_one (ps_ret pe_bl)) pss_nil)
      (pss_cons (ps_for PassesOwn.never rfl (pi_range1 rfl m_range (pa_cons (pe_callB (k_len (K := K) rfl) (by rfl) m_len (by decide +kernel) (pa_cons (pv 1) pa_nil)) pa_nil)) (pg_name (i := 2) ndX rfl (.inl rfl))
        (pss_one (ps_if (pt_not (pt_truthK (K := K) rfl (pe_c f_law_alike hr (Nat.le_refl _) (by rfl) (pa_cons (pe_ix (k_ix (K := K) rfl) (pv 0) (pv 2) (fun _ _ => rfl)) (pa_cons (pe_ix (k_ix (K := K) rfl) (pv 1) (pv 2) (fun _ _ => rfl)) pa_nil))) (by intro _; rfl)))
          (pss_one (ps_ret pe_bl)) pss_nil)))
      (pss_one (ps_ret pe_bl))))))))), ?_⟩
  refine q_when (et_test (ed_isN (ed_var rfl h2))) (fun hw H1 e1 => ?_) fun hw H1 e1 => ?_
  · exact w_ret ((ed_isN (ed_var rfl (dp_ex e1 h1))).is (by rw [hw])) fun v H2 e2 dv => q v H2 (e1.trans e2) dv
  refine q_when (et_truB (ed_isBool (ed_var rfl (dp_ex e1 h2)))) (fun hw H2 e2 => ?_) fun hw2 H2 e2 => ?_
  · have e12 := e1.trans e2
    cases x with
    | bool b => exact w_ret ((ed_and (ed_isBool (ed_var rfl (dp_ex e12 h1))) fun _ => ed_eqB (ed_var rfl (dp_ex e12 h1)) (ed_var rfl (dp_ex e12 h2))).is (by simp [isBool])) fun v H3 e3 dv => q v H3 (e12.trans e3) dv
    | _ => cases hw
  have e12 := e1.trans e2
  refine q_when (et_truB (ed_isInt (ed_var rfl (dp_ex e12 h2)))) (fun hw H3 e3 => ?_) fun hw3 H3 e3 => ?_
  · have e13 := e12.trans e3
    cases x with
    | int i => exact w_ret ((ed_and (ed_isInt (ed_var rfl (dp_ex e13 h1))) fun _ => ed_and (ed_not (ed_isBool (ed_var rfl (dp_ex e13 h1)))) fun _ => ed_eqI (ed_var rfl (dp_ex e13 h1)) (ed_var rfl (dp_ex e13 h2))).is (by simp [SB.isInt, isBool])) fun v H4 e4 dv => q v H4 (e13.trans e4) dv
    | bool b => cases hw2
    | _ => cases hw
  have e13 := e12.trans e3
  refine q_when (et_truB (ed_isStr (ed_var rfl (dp_ex e13 h2)))) (fun hw H4 e4 => ?_) fun hw4 H4 e4 => ?_
  · have e14 := e13.trans e4
    cases x with
    | str i => exact w_ret ((ed_and (ed_isStr (ed_var rfl (dp_ex e14 h1))) fun _ => ed_eqSt (ed_var rfl (dp_ex e14 h1)) (ed_var rfl (dp_ex e14 h2))).is (by simp [isStr])) fun v H5 e5 dv => q v H5 (e14.trans e5) dv
    | _ => cases hw
  have e14 := e13.trans e4
  obtain ⟨ds, hsq, hlen, hall⟩ : ∃ ds, isSeq x ds ∧ ds.length ≤ 100000 ∧ ∀ d ∈ ds, alk n d := by
    cases x with
    | list ds => exact ⟨ds, .inl rfl, hx.1, hx.2⟩
    | tuple ds => exact ⟨ds, .inr rfl, hx.1, hx.2⟩
    | dict _ => cases hx
    | none => cases hw
    | bool _ => cases hw2
    | int _ => cases hw3
    | str _ => cases hw4
  refine q_when (SB.et_or (et_test (ed_neB (ed_isTup (ed_var rfl (dp_ex e14 h2))) (ed_isTup (ed_var rfl (dp_ex e14 h1))))) fun _ => et_test (ed_neB (ed_isLst (ed_var rfl (dp_ex e14 h2))) (ed_isLst (ed_var rfl (dp_ex e14 h1))))) (fun hw H5 e5 => ?_) fun hw5 H5 e5 => ?_
  · simp at hw
  have e15 := e14.trans e5
  refine q_when (et_test (ed_neI (ed_lenQ (ed_var rfl (dp_ex e15 h1)) hsq) (ed_lenQ (ed_var rfl (dp_ex e15 h2)) hsq))) (fun hw H6 e6 => ?_) fun hw6 H6 e6 => ?_
  · simp at hw
  have e16 := e15.trans e6
  refine q_for (ew_R1 (ed_lenQ (ed_var rfl (dp_ex e16 h2)) hsq) (by omega)) (fun H0 i σ' H' => Ex H0 H' ∧ ∃ y, σ' = [some v1, some v2, y]) (fun H7 e7 => ⟨Ex.refl _, none, rfl⟩) (fun H7 i σ' H' p => p.1) (fun H7 e7 i d y σ' H8 H9 hd p e9 dy => ?_) fun H7 e7 σ' H8 p => ?_
  · obtain ⟨e8, y0, rfl⟩ := p
    obtain ⟨hi, rfl⟩ := rangeD_get hd
    rw [Int.zero_add] at dy
    rw [Int.toNat_natCast] at hi
    have ee := ((e16.trans e7).trans e8).trans e9
    have hc : atI ds (i : Int) = some ds[i] := atI_nat (List.getElem?_eq_getElem hi)
    refine w_when (SB.et_not (et_truB (ed_callP (ea_cons (ed_ixQ (ed_var rfl (dp_ex ee h1)) (ed_var rfl dy) hsq hc) (ea_cons (ed_ixQ (ed_var rfl (dp_ex ee h2)) (ed_var rfl dy) hsq hc) ea_nil)) ⟨ds[i], rfl, hall _ (List.getElem_mem hi), rfl⟩))) (fun hw H10 e10 => ?_) fun hw H10 e10 => ⟨(e8.trans e9).trans e10, y, rfl⟩
    exact absurd hw (by decide)
  · exact w_ret (K := K) ed_bl fun v H9 e9 dv => q v H9 (((e16.trans e7).trans p.1).trans e9) dv
theorem cal_nev {x : Str} {st : Stmt} {f : Addr} {fd : FuncData} {ps : List Str} {sp : Sp} (F : C8.Def K mg x st f fd) (b : L2.Binds K fd ps []) (no : ∀ vs H Q E, ¬ sp vs H Q E) : Cal P w K mg base 0 x sp [] := by
  obtain ⟨oc, od, dV, kV, doc, pm, an, cdv, ct, osl, rfl, lk, hcd⟩ := F.fn.ex
  exact ⟨f, _, ps, [], ⟨fun vs H Q E h => (no _ _ _ _ h).elim, fun A outer s H args us vs Q E hr e0 hb r h => (no _ _ _ _ h).elim⟩, F.mgf, F.kp, b, .nil⟩
theorem oks_law_alike {f : Addr} {fd : FuncData} (F : Def K mg "_law_alike" s_law_alike f fd) (b : L2.Binds K fd ["_law_found", "_law_due"] []) (m_isinstance : mg "isinstance" = none) (m_bool : mg "bool" = none) (m_int : mg "int" = none) (m_str : mg "str" = none)
    (m_list : mg "list" = none) (m_tuple : mg "tuple" = none) (m_len : mg "len" = none) (m_range : mg "range" = none) : ∀ n, Cal P w K mg base n "_law_alike" (sp_law_alike K n) []
  | 0 => cal_nev F b fun vs H Q E h => by
    obtain ⟨_, ds, d, _, ⟨x, _, hx, _⟩, _⟩ := h
    exact hx
  | n + 1 => ok_law_alike F b m_isinstance m_bool m_int m_str m_list m_tuple m_len m_range (oks_law_alike F b m_isinstance m_bool m_int m_str m_list m_tuple m_len m_range n)
end
end K01
set_option Elab.async false
set_option linter.all false
namespace K01
open PySem PySem.Spec PyProof.Rows L2 SB C8
abbrev Book := List (List (List Key))
inductive Rch (B : Book) : Nat → Prop
  | zero : Rch B 0
  | step {i c : Nat} {R : List (List Key)} : Rch B i → B[i]? = some R → (c : Int) ∈ callsOf R → Rch B c
theorem mark_get {j : Nat} : ∀ {c : List Int} {bs : List Bool}, (mark c bs).getD j false = true ↔ bs.getD j false = true ∨ ((∃ x ∈ c, x.toNat = j) ∧ j < bs.length)
  | [], bs => by simp [mark]
  | x :: c, bs => by
    show (mark c (bs.set x.toNat true)).getD j false = true ↔ _
    rw [mark_get (c := c)]
    simp only [List.getD_eq_getElem?_getD, List.length_set, List.getElem?_set, List.mem_cons, exists_eq_or_imp]
    by_cases h : x.toNat = j
    · subst h
      by_cases hl : x.toNat < bs.length
      · simp [hl]
      · simp [hl, List.getElem?_eq_none (Nat.not_lt.mp hl)]
    · simp [h]
theorem marks_sound {B : Book} (h : Good B) : ∀ i j, (marks B i).getD j false = true → Rch B j
  | 0, j, hj => by
    unfold marks at hj
    have : j = 0 := by
      by_cases z : j = 0
      · exact z
      · simp [List.getD_eq_getElem?_getD, List.getElem?_set, List.getElem?_replicate, Ne.symm z] at hj
        split at hj <;> simp at hj
    subst this
    exact .zero
  | i + 1, j, hj => by
    unfold marks at hj
    by_cases hm : (marks B i).getD i false = true
    · rw [if_pos hm] at hj
      rcases mark_get.mp hj with z | ⟨⟨x, hx, hxj⟩, hl⟩
      · exact marks_sound h i j z
      · have ri := marks_sound h i i hm
        cases hR : B[i]? with
        | none =>
          rw [List.getD_eq_getElem?_getD, hR] at hx
          simp [callsOf] at hx
        | some R =>
          rw [List.getD_eq_getElem?_getD, hR] at hx
          have hc := h.calls hR (show x ∈ callsOf R from hx)
          refine .step ri hR (c := j) ?_
          have : (j : Int) = x := by omega
          rw [this]
          exact hx
    · rw [if_neg hm] at hj
      exact marks_sound h i j hj
theorem marks_same {B : Book} (h : Good B) {i k : Nat} (hk : k ≤ i) : (marks B (i + 1)).getD k false = true ↔ (marks B i).getD k false = true := by
  conv => lhs; unfold marks
  by_cases hm : (marks B i).getD i false = true
  · rw [if_pos hm, mark_get]
    constructor
    · rintro (z | ⟨⟨x, hx, hxk⟩, _⟩)
      · exact z
      · cases hR : B[i]? with
        | none =>
          rw [List.getD_eq_getElem?_getD, hR] at hx
          simp [callsOf] at hx
        | some R =>
          rw [List.getD_eq_getElem?_getD, hR] at hx
          have hc := h.calls hR (show x ∈ callsOf R from hx)
          omega
    · exact .inl
  · rw [if_neg hm]
theorem marks_up {B : Book} {i j : Nat} (hj : (marks B i).getD j false = true) : (marks B (i + 1)).getD j false = true := by
  conv => lhs; unfold marks
  by_cases hm : (marks B i).getD i false = true
  · rw [if_pos hm, mark_get]
    exact .inl hj
  · rw [if_neg hm]
    exact hj
theorem marks_zero {B : Book} (h : Good B) : ∀ i, (marks B i).getD 0 false = true
  | 0 => by
    have := h.len
    have h2 : 0 < B.length := by omega
    unfold marks
    simp [List.getD_eq_getElem?_getD, List.getElem?_set, h2]
  | i + 1 => marks_up (marks_zero h i)
theorem marks_closed {B : Book} (h : Good B) : ∀ i k R, k < i → B[k]? = some R → (marks B i).getD k false = true → ∀ c ∈ callsOf R, (marks B i).getD c.toNat false = true
  | 0, k, R, hk, _, _, _, _ => by omega
  | i + 1, k, R, hk, hR, hm, c, hc => by
    have hm' := (marks_same h (show k ≤ i by omega)).mp hm
    by_cases hki : k < i
    · exact marks_up (marks_closed h i k R hki hR hm' c hc)
    · have : k = i := by omega
      subst this
      have hcb := h.calls hR hc
      conv => lhs; unfold marks
      rw [if_pos hm', mark_get]
      refine .inr ⟨⟨c, ?_, rfl⟩, by rw [marks_len]; omega⟩
      rw [List.getD_eq_getElem?_getD, hR]
      exact hc
theorem Rch.lt {B : Book} (h : Good B) {j : Nat} (r : Rch B j) : j < B.length := by
  cases r with
  | zero => have := h.len; omega
  | step _ hR hc => have := h.calls hR hc; omega
theorem marks_iff {B : Book} (h : Good B) {j : Nat} : (marks B B.length).getD j false = true ↔ Rch B j := by
  refine ⟨marks_sound h _ j, fun r => ?_⟩
  induction r with
  | zero => exact marks_zero h _
  | step ri hR hc ih =>
    have := marks_closed h _ _ _ (Rch.lt h ri) hR ih _ hc
    simpa using this
theorem mem_reach {B : Book} (h : Good B) {x : Int} : x ∈ reach B ↔ 0 ≤ x ∧ Rch B x.toNat := by
  unfold reach
  rw [List.mem_filter, List.mem_map]
  constructor
  · rintro ⟨⟨i, hi, rfl⟩, hm⟩
    exact ⟨by omega, (marks_iff h).mp hm⟩
  · rintro ⟨h0, r⟩
    exact ⟨⟨x.toNat, List.mem_range.mpr (Rch.lt h r), by omega⟩, (marks_iff h).mpr r⟩
theorem reach_sorted (B : Book) : (reach B).Pairwise (· < ·) := by
  unfold reach
  refine List.Pairwise.filter _ ?_
  rw [List.pairwise_map]
  refine List.Pairwise.imp (fun {a b} h => ?_) (List.pairwise_lt_range (n := B.length))
  omega
theorem sorted_eq {xs ys : List Int} (hx : xs.Pairwise (· ≤ ·)) (hn : xs.Nodup) (hy : ys.Pairwise (· < ·)) (hm : ∀ a, a ∈ xs ↔ a ∈ ys) : xs = ys := by
  induction xs generalizing ys with
  | nil =>
    cases ys with
    | nil => rfl
    | cons y ys => exact absurd ((hm y).mpr (by simp)) (by simp)
  | cons x xs ih =>
    cases ys with
    | nil => exact absurd ((hm x).mp (by simp)) (by simp)
    | cons y ys =>
      obtain ⟨hx1, hx2⟩ := List.pairwise_cons.mp hx
      obtain ⟨hn1, hn2⟩ := List.nodup_cons.mp hn
      obtain ⟨hy1, hy2⟩ := List.pairwise_cons.mp hy
      have e : x = y := by
        have h1 : x ∈ y :: ys := (hm x).mp (by simp)
        have h2 : y ∈ x :: xs := (hm y).mpr (by simp)
        rcases List.mem_cons.mp h1 with z | z
        · exact z
        · rcases List.mem_cons.mp h2 with z2 | z2
          · exact z2.symm
          · have := hx1 y z2
            have := hy1 x z
            omega
      subst e
      rw [ih hx2 hn2 hy2 fun a => ?_]
      constructor
      · intro ha
        rcases List.mem_cons.mp ((hm a).mp (by simp [ha])) with z | z
        · subst z; exact absurd ha hn1
        · exact z
      · intro ha
        rcases List.mem_cons.mp ((hm a).mpr (by simp [ha])) with z | z
        · subst z; exact absurd (hy1 _ ha) (by omega)
        · exact z
end K01
set_option Elab.async false
set_option linter.all false
set_option maxRecDepth 100000
namespace K01
open PySem PySem.Spec PyProof.Rows L2 SB C8
open Evl (Ex fresh_back sq_of st_of sz_of)
/-! ### the draws' box -/
abbrev sp_law_begun (K : PySem.W.Frag) : Sp := fun vs H Q _ => vs.length = 1 ∧ ∃ x, vs = [x] ∧ ∃ xs : List Int, Dp K H x (.list (xs.map .int)) ∧ xs.length ≤ 1000 ∧ ∀ b l H2, H b = none → H l = none → Ex H H2 → Bo H2 b l → Q (.ref b) H2
/-! ### what is reached -/
theorem nodup_le : ∀ (n : Nat) (F : List Int), F.Nodup → (∀ a ∈ F, 0 ≤ a ∧ a < n) → F.length ≤ n
  | 0, F, _, h => by
    cases F with
    | nil => simp
    | cons a F => have := h a (by simp); omega
  | n + 1, F, hn, h => by
    by_cases hm : (n : Int) ∈ F
    · have h1 := nodup_le n (F.erase n) (hn.erase _) fun a ha => by
        have h2 := h a (List.mem_of_mem_erase ha)
        have h3 : a ≠ (n : Int) := fun z => by
          subst z
          exact ((List.Nodup.mem_erase_iff hn).mp ha).1 rfl
        omega
      rw [List.length_erase_of_mem hm] at h1
      omega
    · have := nodup_le n F hn fun a ha => by
        have h2 := h a ha
        have h3 : a ≠ (n : Int) := fun z => hm (z ▸ ha)
        omega
      omega
structure Srch (B : Book) (F Pd : List Int) : Prop where
  nd : F.Nodup
  f : ∀ a ∈ F, 0 ≤ a ∧ Rch B a.toNat
  p : ∀ a ∈ Pd, 0 ≤ a ∧ Rch B a.toNat
  z : (0 : Int) ∈ F ∨ (0 : Int) ∈ Pd
  c : ∀ a ∈ F, ∀ R, B[a.toNat]? = some R → ∀ c ∈ callsOf R, c ∈ F ∨ c ∈ Pd
  len : Pd.length ≤ 1 + 24 * F.length
theorem Srch.start (B : Book) : Srch B [] [0] := ⟨by simp, by simp, fun a ha => by simp at ha; subst ha; exact ⟨by omega, .zero⟩, .inr (by simp), by simp, by simp⟩
theorem Srch.fl {B : Book} {F Pd : List Int} (hG : Good B) (s : Srch B F Pd) : F.length ≤ B.length := nodup_le _ F s.nd fun a ha => by
  have h1 := s.f a ha
  have h2 := Rch.lt hG h1.2
  omega
theorem Srch.done {B : Book} {F : List Int} (hG : Good B) (s : Srch B F []) {ys : List Int} (hp : ys.Perm F) (hs : ys.Pairwise (· ≤ ·)) : ys = reach B := by
  refine sorted_eq hs (hp.nodup_iff.mpr s.nd) (reach_sorted B) fun a => ?_
  rw [hp.mem_iff, mem_reach hG]
  refine ⟨s.f a, fun ⟨h0, r⟩ => ?_⟩
  have all : ∀ j, Rch B j → (j : Int) ∈ F := fun j r => by
    induction r with
    | zero =>
      rcases s.z with z | z
      · exact z
      · cases z
    | step ri hR hc ih =>
      rcases s.c _ ih _ (by simpa using hR) _ hc with z | z
      · exact z
      · cases z
  have := all _ r
  rwa [Int.toNat_of_nonneg h0] at this
theorem Srch.skip {B : Book} {F Pd : List Int} {k : Int} (s : Srch B F (Pd ++ [k])) (hk : k ∈ F) : Srch B F Pd := by
  refine ⟨s.nd, s.f, fun a ha => s.p a (by simp [ha]), ?_, fun a ha R hR c hc => ?_, ?_⟩
  · rcases s.z with z | z
    · exact .inl z
    · rcases List.mem_append.mp z with z | z
      · exact .inr z
      · simp at z; subst z; exact .inl hk
  · rcases s.c a ha R hR c hc with z | z
    · exact .inl z
    · rcases List.mem_append.mp z with z | z
      · exact .inr z
      · simp at z; subst z; exact .inl hk
  · have := s.len
    simp at this
    omega
theorem calls_len {B : Book} (hG : Good B) {i : Nat} {R : List (List Key)} (hR : B[i]? = some R) : (callsOf R).length ≤ 24 := by
  obtain ⟨_, _, h4, hv⟩ := hG.r i R hR
  have key : ∀ L : List (List Key), (∀ v ∈ L, v.length ≤ 6) → (callsOf L).length ≤ 6 * L.length := by
    intro L
    induction L with
    | nil => intro _; simp [callsOf]
    | cons v L ih =>
      intro h
      have h1 := ih fun w hw => h w (by simp [hw])
      have h2 : (nums v).length ≤ v.length := List.length_filterMap_le _ _
      have h3 := h v (by simp)
      show ((v :: L).map nums).flatten.length ≤ _
      rw [List.map_cons, List.flatten_cons, List.length_append, List.length_cons]
      have h4 : (L.map nums).flatten.length ≤ 6 * L.length := h1
      omega
  have := key R fun v h => (goodV_it (hv v h)).2.1
  omega
theorem Srch.more {B : Book} (hG : Good B) {F Pd : List Int} {k : Int} {R : List (List Key)} (s : Srch B F (Pd ++ [k])) (hk : k ∉ F) (hR : B[k.toNat]? = some R) : Srch B (F ++ [k]) (Pd ++ callsOf R) := by
  have pk := s.p k (by simp)
  refine ⟨List.nodup_append.mpr ⟨s.nd, by simp, fun a ha b hb => ?_⟩, fun a ha => ?_, fun a ha => ?_, ?_, fun a ha R' hR' c hc => ?_, ?_⟩
  · simp at hb; subst hb; intro z; subst z; exact hk ha
  · rcases List.mem_append.mp ha with z | z
    · exact s.f a z
    · simp at z; subst z; exact pk
  · rcases List.mem_append.mp ha with z | z
    · exact s.p a (by simp [z])
    · have hb := hG.calls hR z
      refine ⟨by omega, .step pk.2 hR ?_⟩
      rw [Int.toNat_of_nonneg (by omega)]
      exact z
  · rcases s.z with z | z
    · exact .inl (by simp [z])
    · rcases List.mem_append.mp z with z | z
      · exact .inr (by simp [z])
      · simp at z; subst z; exact .inl (by simp)
  · rcases List.mem_append.mp ha with z | z
    · rcases s.c a z R' hR' c hc with y | y
      · exact .inl (by simp [y])
      · rcases List.mem_append.mp y with y | y
        · exact .inr (by simp [y])
        · simp at y; subst y; exact .inl (by simp)
    · simp at z; subst z
      rw [hR] at hR'
      cases hR'
      exact .inr (by simp [hc])
  · have h1 := s.len
    have h2 := calls_len hG hR
    simp only [List.length_append, List.length_cons, List.length_nil] at h1 ⊢
    omega
abbrev sp_law_reached (K : PySem.W.Frag) : Sp := spF K 1 fun ds es => ∃ B : Book, ds = [eB B] ∧ Good B ∧ es = (reach B).map .int
theorem inV_ints (k : Int) : ∀ F : List Int, inV (.int k) (F.map V.int) = decide (k ∈ F)
  | [] => by unfold inV; simp
  | a :: F => by
    have ih := inV_ints k F
    unfold inV at ih ⊢
    rw [List.map_cons, List.any_cons, ih]
    show ((a == k) || decide (k ∈ F)) = _
    by_cases h : a = k
    · subst h; simp
    · have h2 : ¬ k = a := fun z => h z.symm
      simp [h, h2]
theorem all_flat_int (F : List Int) : (F.map V.int).all flatV = true := by simp [flatV]
theorem ed_notinI {K : PySem.W.Frag} {ta tb : TE} {σ : L2.St} {H : Hp} {k : Int} {F : List Int} (ha : Ed K ta σ H (.int k)) (hb : Ed K tb σ H (.list (F.map .int))) : Ed K (tOp (rNotInU K) ta tb) σ H (.bool (!decide (k ∈ F))) :=
  ed_op ha hb fun H1 e x y dx dy Q q => by
    cases dp_int dx
    cases dy with
    | lst hs hv =>
      rename_i a vs
      refine .inl ⟨_, _, rfl, .inl hs, rfl, ?_, ?_⟩
      · rw [dpall_int hv]; exact all_flat_int F
      · have : (if true = true then !inV (.int k) vs else inV (.int k) vs) = (!decide (k ∈ F)) := by
          rw [if_pos rfl, dpall_int hv, inV_ints]
        rw [this]
        exact q _ H1 (Ex.refl _) (.bl _)
theorem nums_one (v : List Key) : (((v.map eI).filter fun d => !isStr d).map id) = (nums v).map .int := by
  induction v with
  | nil => rfl
  | cons x v ih =>
    cases x with
    | inl i =>
      show PyData.int i :: _ = PyData.int i :: _
      exact congrArg _ ih
    | inr z => exact ih
section
variable {P : Program} {w : World} {K : PySem.W.Frag} {mg : Str → Option Value} {base : Heap}
abbrev s_law_begun : Stmt := topS 28
theorem sc_law_begun : FnScope ["_law_script", "_law_stirred", "_law_cell"] ["_law_script"] (fnScope s_law_begun) := fnScope_by (by decide +kernel)
theorem ok_law_begun  {f : Addr} {fd : FuncData} (F : Def K mg "_law_begun" s_law_begun f fd) (b : L2.Binds K fd ["_law_script"] []) (m_int : mg "int" = none) (m_len : mg "len" = none) (m_list : mg "list" = none) :
    Cal P w K mg base 1 "_law_begun" (sp_law_begun K) [] := by
  refine cal0 F b .nil sc_law_begun (fun vs H Q E h => h.1) (fun cdv A outer s H vs Q E hr h => ?_)
  have ndX := sc_law_begun.nd
  obtain ⟨_, x, rfl, xs, hx, hlen, q⟩ := h
  refine ⟨_, (pss_cons (ps_set (i := 1) ndX rfl (.inl rfl) pe_int)
      (pss_cons (ps_for PassesOwn.never rfl (k_any (K := K) rfl (pv 0)) (pg_name (i := 2) ndX rfl (.inl rfl))
        (pss_one (ps_set (i := 1) ndX rfl (.inl rfl) (pe_op op_mod (pe_op (k_add (K := K) rfl) (pe_op (k_add (K := K) rfl) (pe_op (k_mul2 (K := K) rfl) (pv 1) pe_int) (pe_op (k_mul2 (K := K) rfl) (pv 2) pe_int)) pe_int) pe_int))))
      (pss_one (ps_ret (pe_lst (pa_cons (pe_callTy (k_list (K := K) rfl) (by rfl) m_list (by decide +kernel) (pa_cons (pv 0) pa_nil)) (pa_cons (pe_op (k_mul2 (K := K) rfl) (pv 1) (pe_callTy call_int1 (by rfl) m_int (by decide +kernel) (pa_cons (pe_cmpR op_gt (pe_callB (k_len (K := K) rfl) (by rfl) m_len (by decide +kernel) (pa_cons (pv 0) pa_nil)) pe_int (nomark _)) pa_nil))) pa_nil))))))), ?_⟩
  refine q_asg (K := K) ed_int fun v H1 e1 dv => ?_
  cases dp_int dv
  refine q_for (ew_L (ed_var rfl (dp_ex e1 hx))) (fun H0 i σ' H' => Ex H0 H' ∧ ∃ (s : Int) (y : Option V), σ' = [some x, some (.int s), y]) (fun H2 e2 => ⟨Ex.refl _, 0, none, rfl⟩) (fun H2 i σ' H' p => p.1) (fun H2 e2 i d y σ' H3 H4 hd p e4 dy => ?_) fun H2 e2 σ' H3 p => ?_
  · obtain ⟨e3, s, y0, rfl⟩ := p
    obtain ⟨c, hc, rfl⟩ := map_get hd
    refine w_asg (ed_mod (ed_add (ed_add (ed_mul2 (ed_var rfl (.int s)) ed_int (.inr (by decide))) (ed_mul2 (ed_var rfl dy) ed_int (.inr (by decide)))) ed_int) ed_int (by decide)) fun u H5 e5 du => ?_
    cases dp_int du
    exact ⟨(e3.trans e4).trans e5, _, _, rfl⟩
  · obtain ⟨e3, s, y0, rfl⟩ := p
    have ee := (e1.trans e2).trans e3
    have hx3 := dp_ex ee hx
    show tCB _ (tCons (tVar 0) tNil) [some x, some (.int s), y0] H3 _
    refine (el_listL (K := K) (ed_var rfl hx3)).use fun l H4 hl e4 L => ?_
    show tOp _ (tVar 1) _ [some x, some (.int s), y0] H4 _
    refine (ed_mul2 (K := K) (ed_var rfl (.int s)) (ed_intb (ed_gt (ed_lenL (ed_var rfl (dp_ex e4 hx3))) ed_int)) (.inr (by split <;> decide))).use fun v H5 e5 dv => ?_
    cases dp_int dv
    refine ⟨sz_of (by simp), fun b hb => ?_⟩
    obtain ⟨ws, hw1, hw2⟩ := L
    have hbl : b ≠ l := ne_of_none (e5 _ _ hw1) hb |>.symm
    refine q b l _ (fresh_back ((ee.trans e4).trans e5) hb) (fresh_back ee hl) ((ee.trans e4).trans (e5.trans (Ex.new hb))) ⟨hbl, xs, _, upd_same, ?_⟩
    rw [upd_ne hbl.symm, ← dpall_int hw2]
    exact e5 _ _ hw1
end
end K01
set_option Elab.async false
set_option linter.all false
set_option maxRecDepth 100000
namespace K01
open PySem PySem.Spec PyProof.Rows L2 SB C8
open Evl (Ex fresh_back sq_of st_of sz_of)
theorem imms_eI (v : List Key) : imms (v.map eI) = true := imms_mem.mpr fun d hd => by
  obtain ⟨x, _, rfl⟩ := List.mem_map.mp hd
  exact imm_eI x
theorem imms_eV (v : List (List Key)) : imms (v.map eV) = true := imms_mem.mpr fun d hd => by
  obtain ⟨x, _, rfl⟩ := List.mem_map.mp hd
  exact imm_eV x
theorem eqv_ints (xs : List Int) : (PyData.list (xs.map .int)).eqv (.list []) = xs.isEmpty := eqv_nil xs
theorem q_par {ta tb : TE} {tz : TS} {D : Ends} {σ : L2.St} {H : Hp} {i j : Nat} (P1 : V → Hp → Prop) (P2 : V → V → Hp → Prop) (h1 : ∀ Q : VK, (∀ v H1, P1 v H1 → Q v H1) → ta σ H Q) (h2 : ∀ v H1, P1 v H1 → ∀ Q : VK, (∀ w H2, P2 v w H2 → Q w H2) → tb σ H1 Q)
    (k : ∀ v w H2, P2 v w H2 → tz D ((σ.set i (some v)).set j (some w)) H2) : tSeq (tPar i j (tCons ta (tCons tb tNil))) tz D σ H := h1 _ fun v H1 p1 => h2 v H1 p1 _ fun w H2 p2 => ⟨v, w, rfl, k v w H2 p2⟩
theorem calls_take {R : List (List Key)} {j : Nat} {v : List Key} (h : R[j]? = some v) : callsOf (R.take (j + 1)) = callsOf (R.take j) ++ nums v := by
  unfold callsOf
  rw [List.take_add_one, h, Option.toList_some, List.map_append, List.flatten_append]
  simp
theorem calls_take_le {B : Book} (hG : Good B) {i : Nat} {R : List (List Key)} (hR : B[i]? = some R) (j : Nat) : (callsOf (R.take j)).length ≤ 24 := by
  have h1 := calls_len hG hR
  have h2 : callsOf R = callsOf (R.take j) ++ callsOf (R.drop j) := by
    unfold callsOf
    rw [← List.flatten_append, ← List.map_append, List.take_append_drop]
  rw [h2, List.length_append] at h1
  omega
section
variable {P : Program} {w : World} {K : PySem.W.Frag} {mg : Str → Option Value} {base : Heap}
abbrev s_law_reached : Stmt := topS 36
theorem sc_law_reached : FnScope ["_law_book_here", "_law_found", "_law_pending", "_law_k", "_law_verse", "_law_item"] ["_law_book_here"] (fnScope s_law_reached) := fnScope_by (by decide +kernel)
theorem ok_law_reached  {f : Addr} {fd : FuncData} (F : Def K mg "_law_reached" s_law_reached f fd) (b : L2.Binds K fd ["_law_book_here"] []) (m_isinstance : mg "isinstance" = none) (m_str : mg "str" = none) (m_sorted : mg "sorted" = none) :
    Cal P w K mg base 1 "_law_reached" (sp_law_reached K) [] := by
  refine cal0 F b .nil sc_law_reached spF_len (fun cdv A outer s H vs Q E hr h => ?_)
  have ndX := sc_law_reached.nd
  obtain ⟨_, ds, es, hds, ⟨B, rfl, hG, rfl⟩, q⟩ := h
  obtain ⟨vb, rfl, hb⟩ := dp1 hds
  refine ⟨_, (pss_cons (ps_par (i := 1) (j := 2) (by rfl) ndX rfl rfl (by decide) rfl rfl (pa_cons (pe_lst pa_nil) (pa_cons (pe_lst (pa_cons pe_int pa_nil)) pa_nil)) (by rfl))
      (pss_cons (ps_while PassesOwn.never (pt_cmpR (k_ne (K := K) rfl hr.units) (pv 2) (pe_lst pa_nil) (nomark _))
        (pss_cons (ps_set (i := 3) ndX rfl (.inl rfl) (k_bm0 (K := K) rfl (pe_bm0 PySem.F.plainAttrs_list PySem.F.slot_list_pop PySem.F.type_list_pop mt_pop (pv 2))))
        (pss_one (ps_if (pt_cmpR (k_notin (K := K) rfl) (pv 3) (pv 1) (by rfl))
          (pss_cons (ps_expr (k_bm (K := K) rfl (pe_bm PySem.F.plainAttrs_list PySem.F.slot_list_append PySem.F.type_list_append mt_append (pv 1) (pa_cons (pv 3) pa_nil))))
          (pss_one (ps_for PassesOwn.never rfl (k_any (K := K) rfl (pe_ix (k_ix (K := K) rfl) (pv 0) (pv 3) (fun _ _ => rfl))) (pg_name (i := 4) ndX rfl (.inl rfl))
            (pss_one (ps_set (i := 2) ndX rfl (.inl rfl) (pe_op (k_add (K := K) rfl) (pv 2) (pe_lc (own := [("_law_item", 5)]) rfl ndX (k_any (K := K) rfl (pv 4)) (blkOk_by (N := ["_law_book_here", "_law_found", "_law_pending", "_law_k", "_law_verse", "_law_item"]) (sc := fnScope s_law_reached) (by decide +kernel)) (fun _ _ _ _ _ => (pg_name (i := 5) ndX rfl (.inl rfl))) (fun _ _ _ _ _ => (pts_one (pt_not (pt_truthK (K := K) rfl (pe_callB (k_isi (K := K) rfl) (by rfl) m_isinstance (by decide +kernel) (pa_cons (pv 5) (pa_cons (pe_bltn (v := .ty "str") (by rfl) m_str (by decide +kernel) rfl) pa_nil))) (by intro _; rfl))))) (fun _ _ _ _ _ => (pv 5))))))))) pss_nil))))
      (pss_one (ps_ret (pe_callB (k_sorted (K := K) rfl) (by rfl) m_sorted (by decide +kernel) (pa_cons (pv 1) pa_nil)))))), ?_⟩
  have hn := hG.len
  refine q_par (fun v H1 => ∃ f, v = .ref f ∧ H f = none ∧ Ex H H1 ∧ Li K H1 f []) (fun v w H2 => ∃ H1 f p, v = .ref f ∧ w = .ref p ∧ H f = none ∧ H1 p = none ∧ Ex H H1 ∧ Ex H1 H2 ∧ Li K H1 f [] ∧ Li K H2 p [.int 0])
    (fun Q' q' => (el_lst (K := K) ea_nil (by simp)).use fun f H1 hf e1 lf => q' _ _ ⟨f, rfl, hf, e1, lf⟩)
    (fun v H1 h Q' q' => by
      obtain ⟨f, rfl, hf, e1, lf⟩ := h
      exact (el_lst (K := K) (ea_cons (ed_int (i := 0)) ea_nil) (by simp)).use fun p H2 hp e2 lp => q' _ _ ⟨H1, f, p, rfl, rfl, hf, hp, e1, e2, lf, lp⟩) fun v w H2 h => ?_
  obtain ⟨H1, f, p, rfl, rfl, hf, hp, e1, e2, lf, lp⟩ := h
  have lf3 := lf.ex e2
  have hfp : f ≠ p := lf.ne hp
  have e03 := e1.trans e2
  have hp0 : H p = none := fresh_back e1 hp
  let Inv' : L2.St → Hp → Prop := fun σ' H' => ∃ (F Pd : List Int) (p : Addr) (y3 y4 y5 : Option V), σ' = [some vb, some (.ref f), some (.ref p), y3, y4, y5] ∧ Ex H H' ∧ H p = none ∧ f ≠ p ∧ Li K H' f (F.map .int) ∧ Li K H' p (Pd.map .int) ∧ Srch B F Pd
  show tWhile _ _ _ _ _
  refine ⟨fun m σ' H' => ∃ (F Pd : List Int) (p : Addr) (y3 y4 y5 : Option V), m = (60 - F.length) * 100 + Pd.length ∧ σ' = [some vb, some (.ref f), some (.ref p), y3, y4, y5] ∧ Ex H H' ∧ H p = none ∧ f ≠ p ∧ Li K H' f (F.map .int) ∧ Li K H' p (Pd.map .int) ∧ Srch B F Pd, ⟨_, [], [0], p, none, none, none, rfl, rfl, e03, hp0, hfp, lf3, lp, Srch.start B⟩, ?_⟩
  rintro m σ' H4 ⟨F, Pd, p, y3, y4, y5, rfl, rfl, e4, hp0, hfp, lf4, lp4, sr⟩
  have hFl := sr.fl hG
  have hPl := sr.len
  refine (et_test ((ed_neD (ed_var rfl lp4.dp) (ed_lst ea_nil (by simp)) (shaped_ints Pd) (by decide)).is (by rw [eqv_ints])) : Et _ _ _ _) H4 (Evl.Ex.refl _) _ fun H5 e5 => ?_
  cases hPd : Pd.isEmpty with
  | true =>
    have : Pd = [] := List.isEmpty_iff.mp hPd
    subst this
    rw [if_neg (by decide)]
    have e45 := e4.trans e5
    obtain ⟨vs, hv1, hv2⟩ := lf4.ex e5
    refine ⟨_, rfl, f, F, rfl, ?_, by omega, fun ys r hperm hsort hr => ?_⟩
    · rw [← dpall_int hv2]; exact sq_of hv1
    · have := sr.done hG hperm hsort
      subst this
      exact q r _ (fresh_back e45 hr) (e45.trans (Evl.Ex.new hr)) ⟨_, upd_same, dpall_ints⟩
  | false =>
    rw [if_pos (by decide)]
    obtain ⟨Pd', k, rfl⟩ : ∃ Pd' k, Pd = Pd' ++ [k] := by
      refine ⟨Pd.dropLast, Pd.getLast (by intro z; rw [z] at hPd; cases hPd), (List.dropLast_concat_getLast _).symm⟩
    refine ⟨_, fun σ'' H'' h => h, ?_⟩
    have e45 := e4.trans e5
    obtain ⟨ws, hw1, hw2⟩ := lp4.ex e5
    rw [dpall_int hw2] at hw1
    -- the pop
    show tBM0 _ _ _ _ _ _ _
    refine ⟨_, rfl, .inl ⟨rfl, _, sq_of hw1⟩, p, _, .int k, rfl, rfl, hw1, ?_, ?_⟩
    · simp
    have hl6 : upd H5 p (.lst (((Pd' ++ [k]).map V.int).dropLast)) p = some (.lst (Pd'.map V.int)) := by rw [upd_same]; simp
    have bx6 : Bx (· = p) H5 (upd H5 p (.lst (((Pd' ++ [k]).map V.int).dropLast))) := Bx.lst hw1 rfl
    have e06 : Ex H (upd H5 p (.lst (((Pd' ++ [k]).map V.int).dropLast))) := ((Bx.of e45).trans bx6).ex fun b hb => by rw [hb]; exact hp0
    generalize upd H5 p (.lst (((Pd' ++ [k]).map V.int).dropLast)) = H6 at hl6 bx6 e06
    have lp6 : Li K H6 p (Pd'.map .int) := ⟨_, hl6, dpall_ints⟩
    have lf6 : Li K H6 f (F.map .int) := (lf4.ex e5).bx bx6 hfp (imms_int F)
    have pk := sr.p k (by simp)
    have hkn := Rch.lt hG pk.2
    have hR : B[k.toNat]? = some B[k.toNat] := List.getElem?_eq_getElem hkn
    generalize B[k.toNat] = R at hR
    refine w_when (et_test (ed_notinI (ed_var rfl (.int k)) (ed_var rfl lf6.dp))) (fun hw H7 e7 => ?_) fun hw H7 e7 => ?_
    · have hk : k ∉ F := by simpa using hw
      have lp7 := lp6.ex e7
      refine q_app (lf6.ex e7) (imms_int F) rfl (ed_var rfl (.int k)) rfl (by simp; omega) fun H8 e8 H9 b9 lf9 => ?_
      have e09 : Ex H H9 := ((Bx.of ((e06.trans e7).trans e8)).trans b9).ex fun b hb => by rw [hb]; exact hf
      have lp9 : Li K H9 p (Pd'.map .int) := (lp7.ex e8).bx b9 (fun z => hfp z.symm) (imms_int Pd')
      have hcN : ((k.toNat : Nat) : Int) = k := Int.toNat_of_nonneg pk.1
      refine w_for (ew_Ti (ds := R.map eV) (ed_ixT (ed_var rfl (dp_ex e09 hb)) (ed_var rfl (.int k)) (by rw [← hcN]; exact atI_nat (by rw [List.getElem?_map, hR]; rfl))) (imms_eV R)) (fun H0 j σ' H' => Tx H0 H' ∧ ∃ (p : Addr) (y4 y5 : Option V), σ' = [some vb, some (.ref f), some (.ref p), some (.int k), y4, y5] ∧ Ex H H' ∧ H p = none ∧ f ≠ p ∧ Li K H' f ((F ++ [k]).map .int) ∧ Li K H' p ((Pd' ++ callsOf (R.take j)).map .int)) (fun H10 e10 => ⟨Tx.refl _, p, y4, y5, rfl, e09.trans e10, hp0, hfp, by rw [List.map_append]; exact lf9.ex e10, by simpa [callsOf] using lp9.ex e10⟩) (fun H10 j σ' H' h => h.1) (fun H10 e10 j d x σ' H11 H12 hd h e12 dx => ?_) fun H10 e10 σ' H11 h => ?_
      · obtain ⟨t11, p, y4, y5, rfl, e11, hp0, hfp, lf11, lp11⟩ := h
        obtain ⟨v, hv, rfl⟩ := map_get hd
        have hvg := goodV_it ((hG.r _ R hR).2.2.2 v (List.mem_of_getElem? hv))
        have hct := calls_take_le hG hR j
        have hnl : (nums v).length ≤ v.length := List.length_filterMap_le _ _
        simp only [List.length_append, List.length_cons, List.length_nil] at hPl
        refine w_asgL (el_catV (es := (nums v).map .int) rfl (lp11.ex e12) ((el_lc (ds := v.map eI) (ew_T (ed_var rfl dx)) (fun d => !isStr d) id (fun d hd y H13 e13 dy => SB.et_not (et_truB (ed_isStr (ed_var rfl dy)))) (fun d hd _ y H13 e13 dy => ed_var rfl dy) (fun d hd _ => imms_mem.mp (imms_eI v) d hd) (by simp; omega)).is (nums_one v)) (by simp; omega)) fun p2 H13 hp2 e13 l13 => ?_
        have e1213 := e12.trans e13
        refine ⟨t11.trans (Tx.of e1213), p2, _, _, rfl, e11.trans e1213, fresh_back (e11.trans e12) hp2, ?_, lf11.ex e1213, ?_⟩
        · exact (lf11.ex e12).ne hp2
        · rw [calls_take hv, ← List.append_assoc, List.map_append]
          exact l13
      · obtain ⟨_, p, y4, y5, rfl, e11, hp0, hfp, lf11, lp11⟩ := h
        rw [List.length_map, List.take_length] at lp11
        have sr2 := sr.more hG hk hR
        have hl2 := sr2.fl hG
        have hc := calls_len hG hR
        refine ⟨_, ?_, F ++ [k], Pd' ++ callsOf R, p, _, y4, y5, rfl, rfl, e11, hp0, hfp, lf11, lp11, sr2⟩
        simp only [List.length_append, List.length_cons, List.length_nil] at hl2 ⊢
        omega
    · have hk : k ∈ F := by simpa using hw
      refine ⟨_, ?_, F, Pd', p, _, y4, y5, rfl, rfl, e06.trans e7, hp0, hfp, lf6.ex e7, lp6.ex e7, sr.skip hk⟩
      simp
end
end K01
set_option Elab.async false
set_option linter.all false
set_option maxRecDepth 100000
namespace K01
open PySem PySem.Spec PyProof.Rows L2 SB C8
open Evl (Ex fresh_back sq_of st_of sz_of)
theorem shaped_flat {l : List PyData} (h : ∀ d ∈ l, d.canLay0 = true ∧ d.depth ≤ 1) : SeqAt.shaped (.list l) = true := by
  have key : ∀ l : List PyData, (∀ d ∈ l, d.canLay0 = true ∧ d.depth ≤ 1) → PyData.canLayAll0 l = true ∧ PyData.depthAll l ≤ 1 := by
    intro l
    induction l with
    | nil => intro _; exact ⟨rfl, Nat.zero_le _⟩
    | cons d l ih =>
      intro h
      obtain ⟨h1, h2⟩ := ih fun x hx => h x (by simp [hx])
      obtain ⟨h3, h4⟩ := h d (by simp)
      refine ⟨by rw [PyData.canLayAll0, h3, h1]; rfl, ?_⟩
      rw [PyData.depthAll]
      omega
  obtain ⟨h1, h2⟩ := key l h
  unfold SeqAt.shaped
  rw [PyData.canLay0, h1, PyData.depth]
  simp only [Bool.true_and, decide_eq_true_eq]
  omega
theorem eqv_empty (l : List PyData) : (PyData.list l).eqv (.list []) = l.isEmpty := by cases l <;> simp [PyData.eqv, PyData.eqvAll]
/-- a sign that no word may have -/
def badS : PyData → Bool
  | .str y => !(!decide (y.cps.toList < ([97] : List Nat)) && !decide (([122] : List Nat) < y.cps.toList))
  | _ => false
theorem bad_signs (w : Str) : (((signsD w).filter badS).map id).isEmpty = (w.cps.toList.map fun c => !decide ([c] < ([97] : List Nat)) && !decide (([122] : List Nat) < [c])).all id := by
  unfold signsD
  rw [List.map_id]
  induction w.cps.toList with
  | nil => rfl
  | cons c l ih =>
    rw [List.map_cons, List.map_cons, List.filter_cons, List.all_cons]
    have e : badS (.str ⟨#[c]⟩) = !(!decide ([c] < ([97] : List Nat)) && !decide (([122] : List Nat) < [c])) := rfl
    rw [e]
    cases hz : (!decide ([c] < ([97] : List Nat)) && !decide (([122] : List Nat) < [c])) with
    | true => simpa using ih
    | false => simp
def defD (B : Book) : PyData := match defB B with
  | none => .none
  | some (r, v) => .tuple [.str "BadBook", .int r, .int v]
abbrev sp_law_defect (K : PySem.W.Frag) : Sp := spP K 1 fun ds d => ∃ B : Book, ds = [eB B] ∧ SmB B ∧ d = defD B
theorem goodV_all {n : Nat} {r : Int} {v : List Key} (h : 1 ≤ v.length ∧ v.length ≤ 6) (ha : ∀ x ∈ v, goodI n r x = true) : goodV n r v = true := by
  unfold goodV
  simp only [Bool.and_eq_true, decide_eq_true_eq]
  refine ⟨by omega, List.all_eq_true.mpr fun b hb => ?_⟩
  obtain ⟨x, hx, rfl⟩ := List.mem_map.mp hb
  exact ha x hx
theorem goodV_not {n : Nat} {r : Int} {v : List Key} (h : ¬ (1 ≤ v.length ∧ v.length ≤ 6)) : goodV n r v = false := by
  cases hz : goodV n r v with
  | false => rfl
  | true => exact absurd ⟨(goodV_it hz).1, (goodV_it hz).2.1⟩ h
theorem goodV_one {n : Nat} {r : Int} {v : List Key} {x : Key} (hx : x ∈ v) (h : goodI n r x = false) : goodV n r v = false := by
  cases hz : goodV n r v with
  | false => rfl
  | true => rw [(goodV_it hz).2.2 x hx] at h; cases h
/-- the first bad verse -/
theorem defR_at {n r j : Nat} {R : List (List Key)} {v : List Key} (hr : ¬ (60 ≤ r ∨ ¬ (1 ≤ R.length ∧ R.length ≤ 4))) (hv : R[j]? = some v) (hb : goodV n r v = false) (ha : ∀ j' : Nat, j' < j → ∀ v', R[j']? = some v' → goodV n r v' = true) : defR n r R = some (j : Int) := by
  unfold defR
  rw [if_neg hr]
  have hvl : j < R.length := (List.getElem?_eq_some_iff.mp hv).1
  have : R.findIdx? (fun v => !goodV n r v) = some j := by
    rw [List.findIdx?_eq_some_iff_getElem]
    refine ⟨hvl, ?_, fun j' hj' => ?_⟩
    · have e : R[j] = v := by
        have := List.getElem?_eq_getElem hvl
        rw [hv] at this
        exact (Option.some.inj this).symm
      rw [e, hb]; rfl
    · rw [ha j' hj' _ (List.getElem?_eq_getElem (by omega))]; decide
  rw [this]; rfl
theorem defR_none {n r : Nat} {R : List (List Key)} (hr : ¬ (60 ≤ r ∨ ¬ (1 ≤ R.length ∧ R.length ≤ 4))) (ha : ∀ j : Nat, j < R.length → ∀ v, R[j]? = some v → goodV n r v = true) : defR n r R = none := by
  unfold defR
  rw [if_neg hr]
  have : R.findIdx? (fun v => !goodV n r v) = none := by
    rw [List.findIdx?_eq_none_iff]
    intro v hv
    obtain ⟨j, hj⟩ := List.mem_iff_getElem?.mp hv
    rw [ha j (List.getElem?_eq_some_iff.mp hj).1 v hj]; rfl
  rw [this]; rfl
section
variable {P : Program} {w : World} {K : PySem.W.Frag} {mg : Str → Option Value} {base : Heap}
abbrev s_law_defect : Stmt := topS 38
theorem sc_law_defect : FnScope ["_law_book_here", "_law_k", "_law_verse", "_law_items", "_law_item", "_law_valid", "_law_sign"] ["_law_book_here"] (fnScope s_law_defect) := fnScope_by (by decide +kernel)
theorem ok_law_defect  {f : Addr} {fd : FuncData} (F : Def K mg "_law_defect" s_law_defect f fd) (b : L2.Binds K fd ["_law_book_here"] []) (m_len : mg "len" = none) (m_range : mg "range" = none) (m_isinstance : mg "isinstance" = none) (m_str : mg "str" = none) :
    Cal P w K mg base 1 "_law_defect" (sp_law_defect K) [] := by
  refine cal0 F b .nil sc_law_defect spP_len (fun cdv A outer s H vs Q E hr h => ?_)
  have ndX := sc_law_defect.nd
  obtain ⟨_, ds, d, hds, ⟨B, rfl, hB, rfl⟩, q⟩ := h
  obtain ⟨vb, rfl, hb⟩ := dp1 hds
  refine ⟨_, (pss_cons (ps_if (pt_cmpR (k_eq (K := K) rfl hr.units) (pe_callB (k_len (K := K) rfl) (by rfl) m_len (by decide +kernel) (pa_cons (pv 0) pa_nil)) pe_int (nomark _))
        (pss_one (ps_ret (pe_tup (pa_cons pe_str (pa_cons pe_int (pa_cons (pe_un un_neg pe_int) pa_nil)))))) pss_nil)
      (pss_cons (ps_for PassesOwn.never rfl (pi_range1 rfl m_range (pa_cons (pe_callB (k_len (K := K) rfl) (by rfl) m_len (by decide +kernel) (pa_cons (pv 0) pa_nil)) pa_nil)) (pg_name (i := 1) ndX rfl (.inl rfl))
        (pss_cons (ps_if (PW.pt (pw_or (pt_cmpR (k_eq (K := K) rfl hr.units) (pv 1) pe_int (nomark _)) (pw_or1 (pt_not (pt_chain oLe oLe pe_int (pe_callB (k_len (K := K) rfl) (by rfl) m_len (by decide +kernel) (pa_cons (pe_ix (k_ix (K := K) rfl) (pv 0) (pv 1) (fun _ _ => rfl)) pa_nil)) pe_int)))))
          (pss_one (ps_ret (pe_tup (pa_cons pe_str (pa_cons (pv 1) (pa_cons (pe_un un_neg pe_int) pa_nil)))))) pss_nil)
        (pss_one (ps_for PassesOwn.never rfl (pi_range1 rfl m_range (pa_cons (pe_callB (k_len (K := K) rfl) (by rfl) m_len (by decide +kernel) (pa_cons (pe_ix (k_ix (K := K) rfl) (pv 0) (pv 1) (fun _ _ => rfl)) pa_nil)) pa_nil)) (pg_name (i := 2) ndX rfl (.inl rfl))
          (pss_cons (ps_set (i := 3) ndX rfl (.inl rfl) (pe_ix (k_ix (K := K) rfl) (pe_ix (k_ix (K := K) rfl) (pv 0) (pv 1) (fun _ _ => rfl)) (pv 2) (fun _ _ => rfl)))
          (pss_cons (ps_if (pt_not (pt_chain oLe oLe pe_int (pe_callB (k_len (K := K) rfl) (by rfl) m_len (by decide +kernel) (pa_cons (pv 3) pa_nil)) pe_int))
            (pss_one (ps_ret (pe_tup (pa_cons pe_str (pa_cons (pv 1) (pa_cons (pv 2) pa_nil)))))) pss_nil)
          (pss_one (ps_for PassesOwn.never rfl (k_any (K := K) rfl (pv 3)) (pg_name (i := 4) ndX rfl (.inl rfl))
            (pss_cut (ps_if (pt_truthK (K := K) rfl (pe_callB (k_isi (K := K) rfl) (by rfl) m_isinstance (by decide +kernel) (pa_cons (pv 4) (pa_cons (pe_bltn (v := .ty "str") (by rfl) m_str (by decide +kernel) rfl) pa_nil))) (by intro _; rfl))
              (pss_one (ps_set (i := 5) ndX rfl (.inl rfl) (pe_and (pe_chain oLe oLe pe_int (pe_callB (k_len (K := K) rfl) (by rfl) m_len (by decide +kernel) (pa_cons (pv 4) pa_nil)) pe_int) (pe_one (pe_cmpR (k_eq (K := K) rfl hr.units) (pe_lc (own := [("_law_sign", 6)]) rfl ndX (k_any (K := K) rfl (pv 4)) (blkOk_by (N := ["_law_book_here", "_law_k", "_law_verse", "_law_items", "_law_item", "_law_valid", "_law_sign"]) (sc := fnScope s_law_defect) (by decide +kernel)) (fun _ _ _ _ _ => (pg_name (i := 6) ndX rfl (.inl rfl))) (fun _ _ _ _ _ => (pts_one (pt_not (pt_chain oLe oLe pe_str (pv 6) pe_str)))) (fun _ _ _ _ _ => (pv 6))) (pe_lst pa_nil) (nomark _)))))) (pss_one (ps_set (i := 5) ndX rfl (.inl rfl) (pe_chain oLt oLt (pv 1) (pv 4) (pe_callB (k_len (K := K) rfl) (by rfl) m_len (by decide +kernel) (pa_cons (pv 0) pa_nil))))))
            (pss_one (ps_if (pt_not (pt_truthK (K := K) rfl (pv 5) (by intro _; rfl)))
              (pss_one (ps_ret (pe_tup (pa_cons pe_str (pa_cons (pv 1) (pa_cons (pv 2) pa_nil)))))) pss_nil)))))))))))
      (pss_one (ps_ret pe_non)))), ?_⟩
  have hsz := hB.len
  have hlB : ((B.map eR).length : Int) = (B.length : Int) := by rw [List.length_map]
  refine q_when (et_test (ed_eqI (ed_lenT (ed_var rfl hb)) ed_int)) (fun hw H1 e1 => ?_) fun hw H1 e1 => ?_
  · have hn : B = [] := by
      simp only [hlB, decide_eq_true_eq] at hw
      exact List.eq_nil_of_length_eq_zero (by omega)
    subst hn
    exact w_ret (K := K) (ed_tup (ea_cons ed_str (ea_cons ed_int (ea_cons (ed_neg ed_int) ea_nil))) (by simp)) fun v H2 e2 dv => q v H2 (e1.trans e2) dv
  have hne : B ≠ [] := fun z => by subst z; simp at hw
  have hdB : defB B = defFrom B.length 0 B := if_neg hne
  refine q_for (ew_R1 (ed_lenT (ed_var rfl (dp_ex e1 hb))) (by omega)) (fun H0 k σ' H' => Ex H0 H' ∧ (∃ y1 y2 y3 y4 y5 y6, σ' = [some vb, y1, y2, y3, y4, y5, y6]) ∧ k ≤ 60 ∧ defFrom B.length 0 B = defFrom B.length k (B.drop k)) (fun H2 e2 => ⟨Ex.refl _, ⟨none, none, none, none, none, none, rfl⟩, by omega, rfl⟩) (fun H2 k σ' H' p => p.1) (fun H2 e2 k d x σ' H3 H4 hd p e4 dx => ?_) fun H2 e2 σ' H3 p => ?_
  · obtain ⟨e3, ⟨y1, y2, y3, y4, y5, y6, rfl⟩, hk60, hdf⟩ := p
    obtain ⟨hk, rfl⟩ := rangeD_get hd
    rw [hlB, Int.toNat_natCast] at hk
    rw [Int.zero_add] at dx
    have e14 := ((e1.trans e2).trans e3).trans e4
    have hR : B[k]? = some B[k] := List.getElem?_eq_getElem hk
    have hdr : B.drop k = B[k] :: B.drop (k + 1) := List.drop_eq_getElem_cons hk
    generalize B[k] = R at hR hdr
    have hsR := hB.it R (List.mem_of_getElem? hR)
    have hsRl := hsR.len
    have hRat : atI (B.map eR) (k : Int) = some (eR R) := atI_nat (by rw [List.getElem?_map, hR]; rfl)
    have hlR : ((R.map eV).length : Int) = (R.length : Int) := by rw [List.length_map]
    have gR : ∀ {σ : L2.St} {H5 : Hp} {i j : Nat}, Ex H4 H5 → σ[i]? = some (some vb) → σ[j]? = some (some x) → Ed K (tOp (rIx K) (tVar i) (tVar j)) σ H5 (eR R) := fun e h1 h2 => ed_ixT (ed_var h1 (dp_ex (e14.trans e) hb)) (ed_var h2 (dp_ex e dx)) hRat
    refine q_when (SB.et_or (et_test (ed_eqI (ed_var rfl dx) ed_int)) fun _ => SB.et_not (et_test (ed_chainLL ed_int (ed_lenT (gR (Ex.refl _) rfl rfl)) ed_int))) (fun hw H5 e5 => ?_) fun hw H5 e5 => ?_
    · refine w_ret (K := K) ((ed_tup (ea_cons ed_str (ea_cons (ed_var rfl (dp_ex e5 dx)) (ea_cons (ed_neg ed_int) ea_nil))) (by simp)).is (d' := defD B) ?_) fun v H6 e6 dv => q v H6 ((e14.trans e5).trans e6) dv
      have hc : 60 ≤ k ∨ ¬ (1 ≤ R.length ∧ R.length ≤ 4) := by
        simp only [hlR, Bool.or_eq_true, Bool.not_eq_true', Bool.and_eq_false_iff, decide_eq_true_eq, decide_eq_false_iff_not] at hw
        omega
      have : defR B.length k R = some (-1) := by unfold defR; rw [if_pos hc]
      unfold defD
      rw [hdB, hdf, hdr, defFrom_some this]
    have hc : ¬ (60 ≤ k ∨ ¬ (1 ≤ R.length ∧ R.length ≤ 4)) := by
      simp only [hlR, Bool.or_eq_false_iff, Bool.not_eq_false', Bool.and_eq_true, decide_eq_true_eq, decide_eq_false_iff_not] at hw
      omega
    refine w_for (ew_R1 (ed_lenT (gR e5 rfl rfl)) (by omega)) (fun H0 j σ' H' => Ex H0 H' ∧ (∃ y2 y3 y4 y5 y6, σ' = [some vb, some x, y2, y3, y4, y5, y6]) ∧ ∀ j' : Nat, j' < j → ∀ v, R[j']? = some v → goodV B.length k v = true) (fun H6 e6 => ⟨Ex.refl _, ⟨_, _, _, _, _, rfl⟩, fun j' h => by omega⟩) (fun H6 j σ' H' p => p.1) (fun H6 e6 j d xj σ' H7 H8 hd p e8 dxj => ?_) fun H6 e6 σ' H7 p => ?_
    · obtain ⟨e7, ⟨y2, y3, y4, y5, y6, rfl⟩, hall⟩ := p
      obtain ⟨hj, rfl⟩ := rangeD_get hd
      rw [hlR, Int.toNat_natCast] at hj
      rw [Int.zero_add] at dxj
      have e48 := ((e5.trans e6).trans e7).trans e8
      have hv : R[j]? = some R[j] := List.getElem?_eq_getElem hj
      generalize R[j] = v at hv
      have hsv := hsR.it v (List.mem_of_getElem? hv)
      have hsvl := hsv.len
      have hlv : ((v.map eI).length : Int) = (v.length : Int) := by rw [List.length_map]
      have fin : ∀ {σ : L2.St} {H9 : Hp}, Ex H8 H9 → σ[1]? = some (some x) → σ[2]? = some (some xj) → goodV B.length k v = false → tRet (tTup (tCons (tC (.str "BadBook")) (tCons (tVar 1) (tCons (tVar 2) tNil)))) { nx := fun _ H' => Q .non H', rt := Q } σ H9 := fun {σ H9} e9 h1 h2 hbad => by
        refine w_ret (K := K) ((ed_tup (ea_cons ed_str (ea_cons (ed_var h1 (dp_ex (e48.trans e9) dx)) (ea_cons (ed_var h2 (dp_ex e9 dxj)) ea_nil))) (by simp)).is (d' := defD B) ?_) fun u H10 e10 du => q u H10 (((e14.trans e48).trans e9).trans e10) du
        unfold defD
        rw [hdB, hdf, hdr, defFrom_some (defR_at hc hv hbad hall)]
      refine q_asg (ed_ixT (d := eV v) (gR e48 rfl rfl) (ed_var rfl dxj) (atI_nat (by rw [List.getElem?_map, hv]; rfl))) fun xv H9 e9 dv => ?_
      refine q_when (SB.et_not (et_test (ed_chainLL ed_int (ed_lenT (ed_var rfl dv)) ed_int))) (fun hw H10 e10 => ?_) fun hw H10 e10 => ?_
      · refine fin (e9.trans e10) rfl rfl (goodV_not ?_)
        simp only [hlv, Bool.not_eq_true', Bool.and_eq_false_iff, decide_eq_false_iff_not] at hw
        omega
      have hvl : 1 ≤ v.length ∧ v.length ≤ 6 := by
        simp only [hlv, Bool.not_eq_false', Bool.and_eq_true, decide_eq_true_eq] at hw
        omega
      refine w_for (ew_T (ds := v.map eI) (ed_var rfl (dp_ex e10 dv))) (fun H0 i σ' H' => Ex H0 H' ∧ (∃ y4 y5 y6, σ' = [some vb, some x, some xj, some xv, y4, y5, y6]) ∧ ∀ i' : Nat, i' < i → ∀ a, v[i']? = some a → goodI B.length k a = true) (fun H11 e11 => ⟨Ex.refl _, ⟨_, _, _, rfl⟩, fun i' h => by omega⟩) (fun H11 i σ' H' p => p.1) (fun H11 e11 i d xa σ' H12 H13 hd p e13 dxa => ?_) fun H11 e11 σ' H12 p => ?_
      · obtain ⟨e12, ⟨y4, y5, y6, rfl⟩, halli⟩ := p
        obtain ⟨a, ha, rfl⟩ := map_get hd
        have e813 := (((e9.trans e10).trans e11).trans e12).trans e13
        have hsa := hsv.it a (List.mem_of_getElem? ha)
        refine q_cut (M := fun σ' H' => Ex H13 H' ∧ ∃ y6, σ' = [some vb, some x, some xj, some xv, some xa, some (.bl (goodI B.length k a)), y6]) (w_if (et_truB (ed_isStr (ed_var rfl dxa))) (fun hw H14 e14' => ?_) fun hw H14 e14' => ?_) fun σ' H' p => ?_
        · cases a with
          | inl i => cases hw
          | inr z =>
            have hz : z.length ≤ 1000 := hsa.1
            have hzz : z.cps.toList.length = z.length := by simp [Str.length]
            refine w_asg (ed_and (ed_chainLL ed_int (ed_lenS (ed_var rfl (dp_ex e14' dxa)) (by omega)) ed_int) fun _ => (ed_eqD (El.ed (el_lc (ew_S (ed_var rfl (dp_ex e14' dxa))) badS id (fun d hd y H15 e15 dy => ?_) (fun d hd _ y H15 e15 dy => ed_var rfl dy) (fun d hd _ => ?_) ?_)) (ed_lst ea_nil (by simp)) ?_ (by decide)).is (by rw [eqv_empty, bad_signs])) fun u H15 e15 du => ?_
            · obtain ⟨c, hc, rfl⟩ := List.mem_map.mp hd
              exact SB.et_not (et_test (ed_chainLLs ed_str (ed_var rfl dy) ed_str))
            · obtain ⟨c, hc, rfl⟩ := List.mem_map.mp hd
              rfl
            · simp only [signsD, List.length_map]
              omega
            · refine shaped_flat fun d hd => ?_
              rw [List.map_id] at hd
              obtain ⟨c, hc, rfl⟩ := List.mem_map.mp (List.mem_filter.mp hd).1
              refine ⟨?_, by simp [PyData.depth]⟩
              have h1 := hsa.2
              unfold PyData.strOk at h1
              have h2 := Array.all_eq_true'.mp h1 c (by simpa using hc)
              unfold PyData.canLay0 PyData.strOk
              simpa using h2
            · cases dp_bl du
              exact ⟨e14'.trans e15, _, rfl⟩
        · cases a with
          | inr z => cases hw
          | inl i =>
            refine w_asg (ed_chainTT (ed_var rfl (dp_ex (e48.trans (e813.trans e14')) dx)) (ed_var rfl (dp_ex e14' dxa)) (ed_lenT (ed_var rfl (dp_ex ((e14.trans e48).trans (e813.trans e14')) hb)))) fun u H15 e15 du => ?_
            rw [List.length_map] at du
            cases dp_bl du
            exact ⟨e14'.trans e15, _, rfl⟩
        · obtain ⟨e15, y6', rfl⟩ := p
          refine w_when (SB.et_not (et_truB (ed_var rfl (.bl _)))) (fun hw H16 e16 => ?_) fun hw H16 e16 => ?_
          · exact fin ((e813.trans e15).trans e16) rfl rfl (goodV_one (List.mem_of_getElem? ha) (by simpa using hw))
          · refine ⟨(e12.trans e13).trans (e15.trans e16), ⟨_, _, _, rfl⟩, fun i' hi' a' ha' => ?_⟩
            by_cases hii : i' = i
            · subst hii
              rw [ha] at ha'
              cases ha'
              simpa using hw
            · exact halli i' (by omega) a' ha'
      · obtain ⟨e12, ⟨y4, y5, y6, rfl⟩, halli⟩ := p
        refine ⟨e7.trans (e8.trans (((e9.trans e10).trans e11).trans e12)), ⟨_, _, _, _, _, rfl⟩, fun j' hj' v' hv' => ?_⟩
        by_cases hjj : j' = j
        · subst hjj
          rw [hv] at hv'
          cases hv'
          refine goodV_all hvl fun a ha => ?_
          obtain ⟨i, hi⟩ := List.mem_iff_getElem?.mp ha
          exact halli i (by rw [List.length_map]; exact (List.getElem?_eq_some_iff.mp hi).1) a hi
        · exact hall j' (by omega) v' hv'
    · obtain ⟨e7, ⟨y2, y3, y4, y5, y6, rfl⟩, hall⟩ := p
      have hl : (rangeD 0 (((R.map eV).length : Int)).toNat).length = R.length := by simp [rangeD]
      rw [hl] at hall
      refine ⟨e3.trans (e4.trans ((e5.trans e6).trans e7)), ⟨_, _, _, _, _, _, rfl⟩, by omega, ?_⟩
      rw [hdf, hdr, defFrom_none (defR_none hc hall)]
  · obtain ⟨e3, ⟨y1, y2, y3, y4, y5, y6, rfl⟩, hk60, hdf⟩ := p
    have hl : (rangeD 0 (((B.map eR).length : Int)).toNat).length = B.length := by simp [rangeD]
    rw [hl, List.drop_length] at hdf
    refine w_ret (K := K) (ed_non.is (d' := defD B) ?_) fun v H4 e4 dv => q v H4 (((e1.trans e2).trans e3).trans e4) dv
    unfold defD
    rw [hdB, hdf]; rfl
end
end K01
set_option Elab.async false
set_option linter.all false
set_option maxRecDepth 100000
set_option maxHeartbeats 1000000
/-! draws within readings -/
namespace SB
open PySem PySem.Spec PyProof.Rows L2 Evl
section
variable {K : PySem.W.Frag} {σ : L2.St} {H H' H'' : Hp} {ta tb tc te tx to ti : TE} {t u : TT} {d : PyData} {ds es : List PyData} {D : Ends} {tu tw tz : TS} {g : TG} {a b l : Addr} {A : Addr → Prop} {P Q R P1 P2 : PyData → Prop}
/-- a change of what the start did not know -/
theorem Bx.own (x : Bx A H H') (y : Bx (· = a) H' H'') (h : H a = none) : Bx A H H'' := ⟨x.1.trans y.1, fun c o n e => y.2 c o (fun z => by rw [z, h] at e; cases e) (x.2 c o n e)⟩
theorem Bx.ne_new (x : Bx A H H') (ha : ¬ A b) (hk : ∃ o, H b = some o) {p : Addr} (hp : H' p = none) : b ≠ p := fun z => by
  obtain ⟨o, ho⟩ := hk
  have := x.2 b o ha ho
  rw [z, hp] at this
  cases this
/-- what was new to a later heap is new to an earlier one, but for A -/
theorem Bx.back (x : Bx A H H') {p : Addr} (hp : H' p = none) (hA : ¬ A p) : H p = none := by
  cases h : H p with
  | none => rfl
  | some o => rw [x.2 p o hA h] at hp; cases hp
theorem Bo.back (x : Bx (BA b l) H H') (bo : Bo H' b l) {p : Addr} (hp : H' p = none) : H p = none := x.back hp (bo.fresh hp)
theorem Li.keep (h : Li K H a ds) (x : Bx (BA b l) H H') (bo : Bo H b l) (hn : ¬ BA b l a) (hi : imms ds = true) : Li K H' a ds := h.bx x hn hi
def IsD (P : PyData → Prop) : List PyData → Prop := fun ds => ∀ d ∈ ds, P d
theorem imm_in {ds : List PyData} (hi : imms ds = true) (hd : d ∈ ds) : imm d = true := imms_mem.mp hi d hd
theorem atI_in {i : Int} {n : Int} (h0 : 0 ≤ i) (h1 : i < n) (hn : n ≤ ds.length) : ∃ d, atI ds i = some d ∧ d ∈ ds := by
  have hl : i.toNat < ds.length := by omega
  refine ⟨ds[i.toNat], ?_, List.getElem_mem hl⟩
  have e : ((i.toNat : Nat) : Int) = i := Int.toNat_of_nonneg h0
  exact (congrArg (atI ds) e).symm.trans (atI_nat (List.getElem?_eq_getElem hl))
/-- xs[draw], xs one's own list -/
theorem es_ixLi {i : Nat} {n : Int} (hs : σ[i]? = some (some (.ref a))) (L : Li K H a ds) (hi : imms ds = true) (hn : ¬ BA b l a) (hb : Es K b l tb σ H (InR n)) (hl : n ≤ ds.length) : Es K b l (tOp (rIx K) (tVar i) tb) σ H (· ∈ ds) := fun H1 e1 b1 Q q =>
  ⟨_, hs, hb H1 e1 b1 _ fun v d H2 e2 b2 pd id dv => by
    obtain ⟨j, rfl, h0, h1⟩ := pd
    obtain ⟨c, hc, hm⟩ := atI_in h0 h1 hl
    have L2 := L.bx (e1.trans e2) hn hi
    exact (ed_ixL (ed_K L2.dp) (ed_K dv) hc : Ed K (tOp (rIx K) (tK (.ref a)) (tK v)) σ H2 c).use fun w H3 e3 dw => q w c H3 (e2.trans (Bx.of e3)) (b2.ex e3) hm (imm_in hi hm) dw⟩
/-- [..][draw], the display draws nothing -/
theorem es_ixLst {n : Int} {tl : TA} (ha : ∀ H1, Ea K tl σ H1 ds) (hz : ds.length ≤ 1000) (hi : imms ds = true) (hb : Es K b l tb σ H (InR n)) (hl : n ≤ ds.length) : Es K b l (tOp (rIx K) (tLst tl) tb) σ H (· ∈ ds) := fun H1 e1 b1 Q q =>
  (el_lst (ha H1) (by omega)).use fun p H2 hp e2 L => by
    have b2 := b1.ex e2
    refine hb H2 (e1.trans (Bx.of e2)) b2 _ fun v d H3 e3 b3 pd id dv => ?_
    obtain ⟨j, rfl, h0, h1⟩ := pd
    obtain ⟨c, hc, hm⟩ := atI_in h0 h1 hl
    have L2 := L.bx e3 (b1.fresh hp) hi
    exact (ed_ixL (ed_K L2.dp) (ed_K dv) hc : Ed K (tOp (rIx K) (tK (.ref p)) (tK v)) σ H3 c).use fun w H4 e4 dw => q w c H4 ((Bx.of e2).trans (e3.trans (Bx.of e4))) (b3.ex e4) hm (imm_in hi hm) dw
/-- [e1, e2][draw] -/
theorem es_pick2 (h1 : Es K b l ta σ H P1) (h2 : Es K b l tb σ H P2) (hc : Es K b l tc σ H (InR 2)) : Es K b l (tOp (rIx K) (tLst (tCons ta (tCons tb tNil))) tc) σ H (fun d => P1 d ∨ P2 d) := fun H1 e1 b1 Q q =>
  h1 H1 e1 b1 _ fun v1 d1 H2 e2 b2 p1 i1 dv1 => h2 H2 (e1.trans e2) b2 _ fun v2 d2 H3 e3 b3 p2 i2 dv2 => by
    refine ⟨sz_of (by simp), fun p hp => ?_⟩
    have L : Li K (upd H3 p (.lst [v1, v2])) p [d1, d2] := ⟨_, upd_same, dps_ex (Ex.new hp) (.cons (dp_tx e3.1 i1 dv1) (.cons dv2 .nil))⟩
    have b4 := b3.ex (Ex.new hp (o := .lst [v1, v2]))
    have hi : imms [d1, d2] = true := by simp [imms, i1, i2]
    refine hc _ ((e1.trans e2).trans (e3.trans (Bx.of (Ex.new hp)))) b4 _ fun w d H5 e5 b5 pd id dw => ?_
    obtain ⟨j, rfl, h0, hj⟩ := pd
    obtain ⟨c, hcc, hm⟩ := atI_in (ds := [d1, d2]) h0 hj (by simp)
    have L2 := L.bx e5 (b3.fresh hp) hi
    refine (ed_ixL (ed_K L2.dp) (ed_K dw) hcc : Ed K (tOp (rIx K) (tK (.ref p)) (tK w)) σ H5 c).use fun w H6 e6 dw => q w c H6 ((e2.trans e3).trans ((Bx.of (Ex.new hp)).trans (e5.trans (Bx.of e6)))) (b5.ex e6) ?_ (imm_in hi hm) dw
    simp only [List.mem_cons, List.not_mem_nil, or_false] at hm
    rcases hm with rfl | rfl
    · exact .inl p1
    · exact .inr p2
/-- tests that draw -/
def Est (b l : Addr) (tt : TT) (σ : L2.St) (H : Hp) (G : Bool → Prop) : Prop := ∀ H1, Bx (BA b l) H H1 → Bo H1 b l → ∀ Q : Bool → Hp → Prop, (∀ k H2, Bx (BA b l) H1 H2 → Bo H2 b l → G k → Q k H2) → tt σ H1 Q
theorem est_of {k : Bool} (h : ∀ H1, Bx (BA b l) H H1 → Bo H1 b l → Et t σ H1 k) : Est b l t σ H (· = k) := fun H1 e1 b1 Q q => h H1 e1 b1 H1 (Ex.refl _) Q fun H2 e2 => q k H2 (Bx.of e2) (b1.ex e2) rfl
theorem Est.imp' {G1 G2 : Bool → Prop} (h : Est b l t σ H G1) (i : ∀ k, G1 k → G2 k) : Est b l t σ H G2 := fun H1 e1 b1 Q q => h H1 e1 b1 Q fun k H2 e2 b2 g => q k H2 e2 b2 (i k g)
theorem est_test {G : Bool → Prop} (h : Es K b l te σ H P) (hG : ∀ d, P d → ∃ k, d = .bool k ∧ G k) : Est b l (tTest te) σ H G := fun H1 e1 b1 Q q => h H1 e1 b1 _ fun v d H2 e2 b2 pd id dv => by
  obtain ⟨k, rfl, gk⟩ := hG d pd
  cases dp_bl dv
  exact ⟨k, rfl, q k H2 e2 b2 gk⟩
theorem est_and {G1 G2 : Bool → Prop} (h1 : Est b l t σ H G1) (h2 : Est b l u σ H G2) : Est b l (tAnd t u) σ H (fun k => k = true → G1 true ∧ G2 true) := fun H1 e1 b1 Q q => h1 H1 e1 b1 _ fun k H2 e2 b2 gk => by
  cases k with
  | true =>
    rw [if_pos rfl]
    exact h2 H2 (e1.trans e2) b2 _ fun k2 H3 e3 b3 gk2 => q k2 H3 (e2.trans e3) b3 fun z => ⟨gk, z ▸ gk2⟩
  | false =>
    rw [if_neg (by decide)]
    exact q false H2 e2 b2 fun z => by cases z
theorem es_if {G : Bool → Prop} (h : Est b l t σ H G) (h1 : G true → Es K b l ta σ H P) (h2 : G false → Es K b l tb σ H P) : Es K b l (tIf t ta tb) σ H P := fun H1 e1 b1 Q q => h H1 e1 b1 _ fun k H2 e2 b2 gk => by
  cases k with
  | true =>
    rw [if_pos rfl]
    exact h1 gk H2 (e1.trans e2) b2 _ fun v d H3 e3 => q v d H3 (e2.trans e3)
  | false =>
    rw [if_neg (by decide)]
    exact h2 gk H2 (e1.trans e2) b2 _ fun v d H3 e3 => q v d H3 (e2.trans e3)
/-- integers -/
theorem es_add {p1 p2 p : Int → Prop} (ha : Es K b l ta σ H (IsI p1)) (hb : Es K b l tb σ H (IsI p2)) (h : ∀ i j, p1 i → p2 j → p (i + j)) : Es K b l (tOp (rPlus K) ta tb) σ H (IsI p) := es_op ha hb fun H1 x y d e _ dx dy pd pe _ _ => by
  obtain ⟨i, rfl, pi⟩ := pd
  obtain ⟨j, rfl, pj⟩ := pe
  exact ⟨_, ⟨_, rfl, h i j pi pj⟩, rfl, ed_add (ed_K dx) (ed_K dy)⟩
theorem es_sub {p1 p2 p : Int → Prop} (ha : Es K b l ta σ H (IsI p1)) (hb : Es K b l tb σ H (IsI p2)) (h : ∀ i j, p1 i → p2 j → p (i - j)) : Es K b l (tOp (rI0 fun i j => .int (i - j)) ta tb) σ H (IsI p) := es_op ha hb fun H1 x y d e _ dx dy pd pe _ _ => by
  obtain ⟨i, rfl, pi⟩ := pd
  obtain ⟨j, rfl, pj⟩ := pe
  exact ⟨_, ⟨_, rfl, h i j pi pj⟩, rfl, ed_sub (ed_K dx) (ed_K dy)⟩
theorem es_gt {p1 p2 : Int → Prop} {G : Bool → Prop} (ha : Es K b l ta σ H (IsI p1)) (hb : Es K b l tb σ H (IsI p2)) (h : ∀ i j, p1 i → p2 j → G (decide (j < i))) : Est b l (tTest (tOp (rI0 fun i j => .bl (decide (j < i))) ta tb)) σ H G := est_test (P := fun d => ∃ k, d = .bool k ∧ G k) (es_op ha hb fun H1 x y d e _ dx dy pd pe _ _ => by
  obtain ⟨i, rfl, pi⟩ := pd
  obtain ⟨j, rfl, pj⟩ := pe
  exact ⟨_, ⟨_, rfl, h i j pi pj⟩, rfl, ed_gt (ed_K dx) (ed_K dy)⟩) fun d h => h
theorem es_eqTest {p1 p2 : Int → Prop} {G : Bool → Prop} (ha : Es K b l ta σ H (IsI p1)) (hb : Es K b l tb σ H (IsI p2)) (h : ∀ i j, p1 i → p2 j → G (decide (i = j))) : Est b l (tTest (tOp (rEqU K) ta tb)) σ H G := est_test (P := fun d => ∃ k, d = .bool k ∧ G k) (es_op ha hb fun H1 x y d e _ dx dy pd pe _ _ => by
  obtain ⟨i, rfl, pi⟩ := pd
  obtain ⟨j, rfl, pj⟩ := pe
  exact ⟨_, ⟨_, rfl, h i j pi pj⟩, rfl, ed_eqI (ed_K dx) (ed_K dy)⟩) fun d h => h
theorem es_intI {i : Int} : Es K b l (tC (.int i)) σ H (IsI (· = i)) := es_int.imp fun d h => ⟨i, h, rfl⟩
theorem es_varI {j : Nat} {i : Int} (hs : σ[j]? = some (some (.int i))) : Es K b l (tVar j) σ H (IsI (· = i)) := (es_var hs (.int i) rfl).imp fun d h => ⟨i, h, rfl⟩
theorem es_takeI {i : Nat} {n : Int} {E : XK} (hs : σ[i]? = some (some (.ref b))) (hn : 0 < n ∧ n < 1073741824) : Es K b l (tCall spTk [] E (tCons (tVar i) (tCons (tC (.int n)) tNil))) σ H (IsI fun j => 0 ≤ j ∧ j < n) := (es_takeC (n := n) hs hn).imp fun d h => h
theorem es_takeV {i j : Nat} {n : Int} {E : XK} (hs : σ[i]? = some (some (.ref b))) (hj : σ[j]? = some (some (.int n))) (hn : 0 < n ∧ n < 1073741824) : Es K b l (tCall spTk [] E (tCons (tVar i) (tCons (tVar j) tNil))) σ H (IsI fun j => 0 ≤ j ∧ j < n) :=
  es_take (n := n) (p := (· = n)) hs (es_varI hj) (fun m hm => by rw [hm]; exact hn) fun m j hm h0 h1 => ⟨j, rfl, h0, by rw [← hm]; exact h1⟩
theorem es_max {i j k : Int} (hi : Ed K ta σ H (.int i)) (hj : Ed K tb σ H (.int j)) : Ed K (tCB (fun xs H Q => ∃ i j, xs = [.int i, .int j] ∧ Q (.int (if j > i then j else i)) H) (tCons ta (tCons tb tNil))) σ H (.int (if j > i then j else i)) := ed_cb (ea_cons hi (ea_cons hj ea_nil)) fun H1 e vs dvs Q q => by
  obtain ⟨x, y, rfl, dx, dy⟩ := dp2 dvs
  cases dp_int dx; cases dp_int dy
  exact ⟨i, j, rfl, q _ H1 (Ex.refl H1) (.int _)⟩
/-! statements -/
theorem v_asg {i : Nat} (h : Es K b l te σ H P) (hb : Bo H b l) (k : ∀ v d H1, Bx (BA b l) H H1 → Bo H1 b l → P d → imm d = true → Dp K H1 v d → tz D (σ.set i (some v)) H1) : tSeq (tAsg te (gName i)) tz D σ H := h.use hb k
theorem v_app {m : Nat} (L : Li K H a ds) (him : imms ds = true) (hn : ¬ BA b l a) (hs : σ[m]? = some (some (.ref a))) (h : Es K b l te σ H P) (hb : Bo H b l) (hz : ds.length < 100000)
    (k : ∀ d H1, Bx (BA b l) H H1 → Bo H1 b l → P d → imm d = true → ∀ H2, Bx (· = a) H1 H2 → Bo H2 b l → Li K H2 a (ds ++ [d]) → D.nx σ H2) : tDrop (tBM K "list" rAppend (tVar m) (tCons te tNil)) D σ H := by
  obtain ⟨vs0, h01, h02⟩ := L
  refine ⟨_, hs, .inl ⟨rfl, vs0, sq_of h01⟩, h.use hb fun v d H1 e1 b1 pd id dv => ?_⟩
  obtain ⟨vs, h1, h2⟩ := Li.bx (K := K) e1 hn him ⟨vs0, h01, h02⟩
  have bx : Bx (· = a) H1 (upd H1 a (.lst (vs ++ [v]))) := Bx.lst h1 rfl
  refine ⟨a, vs, v, rfl, rfl, h1, sz_lt (by rw [dpall_len h2]; exact hz), k d H1 e1 b1 pd id _ bx (b1.bx bx (fun z => hn (.inl z.symm)) (fun z => hn (.inr z.symm))) ⟨_, upd_same, ?_⟩⟩
  exact dpall_app (dps_tx bx.1 him h2) (.cons (dp_tx bx.1 id dv) .nil)
/-- a walk over range(e), e drawing -/
theorem v_range {tb : TS} {j : Nat} {p : Int → Prop} (h : Es K b l te σ H (IsI p)) (hb : Bo H b l) (hp : ∀ n, p n → -100000 ≤ n ∧ n ≤ 100000) (Pv : Int → Nat → L2.St → Hp → Prop)
    (h0 : ∀ n H1, p n → Bx (BA b l) H H1 → Bo H1 b l → Pv n 0 σ H1) (hs : ∀ (n : Int) (i : Nat) σ' H', p n → (i : Int) < n → Pv n i σ' H' → tb { D with nx := Pv n (i + 1), ct := Pv n (i + 1), bk := D.nx } (σ'.set j (some (.int (i : Nat)))) H')
    (hd : ∀ n σ' H', p n → Pv n n.toNat σ' H' → D.nx σ' H') : tFor (iRng1 (tCons te tNil)) (gName j) tb D σ H :=
  h.use hb fun v d H1 e1 b1 pd id dv => by
    obtain ⟨n, rfl, pn⟩ := pd
    cases dp_int dv
    have hn := hp n pn
    refine ⟨n, rfl, by omega, by omega, ?_⟩
    refine for_it (G := fun _ => True) (walk_range.mono (fun H h => h) fun i H v H' hi hg hy => hy) (Pv n) (h0 n H1 pn e1 b1) (fun i σ' H' _ p => trivial) (fun i x σ' H' H'' hi pv y => ?_) fun σ' H' pv => hd n σ' H' pn pv
    obtain ⟨rfl, rfl⟩ := y
    have := hs n i _ _ pn (by omega) pv
    show tb _ (List.set _ j (some (.int (0 + (i : Nat))))) _
    rw [Int.zero_add]
    exact this
theorem u_range {tb : TS} {j : Nat} {p : Int → Prop} (h : Es K b l te σ H (IsI p)) (hb : Bo H b l) (hp : ∀ n, p n → -100000 ≤ n ∧ n ≤ 100000) (Pv : Int → Nat → L2.St → Hp → Prop)
    (h0 : ∀ n H1, p n → Bx (BA b l) H H1 → Bo H1 b l → Pv n 0 σ H1) (hs : ∀ (n : Int) (i : Nat) σ' H', p n → (i : Int) < n → Pv n i σ' H' → tb { D with nx := Pv n (i + 1), ct := Pv n (i + 1), bk := tz D } (σ'.set j (some (.int (i : Nat)))) H')
    (hd : ∀ n σ' H', p n → Pv n n.toNat σ' H' → tz D σ' H') : tSeq (tFor (iRng1 (tCons te tNil)) (gName j) tb) tz D σ H := v_range (D := { D with nx := tz D }) h hb hp Pv h0 hs hd
theorem u_app {m : Nat} (L : Li K H a ds) (him : imms ds = true) (hn : ¬ BA b l a) (hs : σ[m]? = some (some (.ref a))) (h : Es K b l te σ H P) (hb : Bo H b l) (hz : ds.length < 100000)
    (k : ∀ d H1, Bx (BA b l) H H1 → Bo H1 b l → P d → imm d = true → ∀ H2, Bx (· = a) H1 H2 → Bo H2 b l → Li K H2 a (ds ++ [d]) → tz D σ H2) : tSeq (tDrop (tBM K "list" rAppend (tVar m) (tCons te tNil))) tz D σ H := v_app (D := { D with nx := tz D }) L him hn hs h hb hz k
end
end SB
set_option Elab.async false
set_option linter.all false
set_option maxRecDepth 100000
namespace K01
open PySem PySem.Spec PyProof.Rows L2 SB C8
open Evl (Ex fresh_back sq_of st_of sz_of)
abbrev sp_law_book (K : PySem.W.Frag) : Sp := fun vs H Q _ => vs.length = 2 ∧ ∃ b l m, vs = [.ref b, .int m] ∧ Bo H b l ∧ 1 ≤ m ∧ m ≤ 60 ∧ ∀ B v H2, Good B → (B.length : Int) ≤ m → Bx (BA b l) H H2 → Bo H2 b l → Dp K H2 v (eB B) → Q v H2
def okRow (n : Nat) (k : Nat) (R : List (List Key)) : Prop := 1 ≤ R.length ∧ R.length ≤ 4 ∧ ∀ v ∈ R, goodV n k v = true
theorem good_rows {B : Book} {n : Nat} (hl : B.length = n) (h1 : 1 ≤ n) (h2 : n ≤ 60) (h : ∀ (k : Nat) R, B[k]? = some R → okRow n k R) : Good B := by
  refine ⟨fun z => by rw [z] at hl; simp at hl; omega, fun k R hR => ?_⟩
  have hk : k < B.length := (List.getElem?_eq_some_iff.mp hR).1
  obtain ⟨a, b, c⟩ := h k R hR
  rw [hl]
  exact ⟨by omega, a, b, c⟩
def words6 : List Str := ["la", "lu", "lo", "a", "zzzzzzzz", "la"]
theorem words_good : ∀ w ∈ words6, goodW w = true := by decide +kernel
theorem imms_str (ws : List Str) : imms (ws.map .str) = true := imms_mem.mpr fun d hd => by
  obtain ⟨x, _, rfl⟩ := List.mem_map.mp hd; rfl
section
variable {P : Program} {w : World} {K : PySem.W.Frag} {mg : Str → Option Value} {base : Heap}
abbrev s_law_book : Stmt := topS 32
theorem sc_law_book : FnScope ["_law_box", "_law_most", "_law_size", "_law_book_here", "_law_words_here", "_law_k", "_law_verses", "_law_verse", "_law_items", "_law_item", "_law_later", "_law_step"] ["_law_box", "_law_most"] (fnScope s_law_book) := fnScope_by (by decide +kernel)
theorem ok_law_book  {f : Addr} {fd : FuncData} (F : Def K mg "_law_book" s_law_book f fd) (b : L2.Binds K fd ["_law_box", "_law_most"] []) (f_law_take : Cal P w K mg base 1 "_law_take" (sp_law_take K) []) (m_range : mg "range" = none) (m_max : mg "max" = none) (m_tuple : mg "tuple" = none) :
    Cal P w K mg base 2 "_law_book" (sp_law_book K) [] := by
  refine cal0 F b .nil sc_law_book (fun vs H Q E h => h.1) (fun cdv A outer s H vs Q E hr h => ?_)
  have ndX := sc_law_book.nd
  obtain ⟨_, b, l, m, rfl, bo, hm1, hm2, q⟩ := h
  refine ⟨_, (pss_cons (ps_par (i := 2) (j := 3) (by rfl) ndX rfl rfl (by decide) rfl rfl (pa_cons (pe_op (k_add (K := K) rfl) pe_int (pe_c f_law_take hr (by decide) (by rfl) (pa_cons (pv 0) (pa_cons (pv 1) pa_nil)))) (pa_cons (pe_lst pa_nil) pa_nil)) (by rfl))
      (pss_cons (ps_set (i := 4) ndX rfl (.inl rfl) (pe_lst (pa_cons pe_str (pa_cons pe_str (pa_cons pe_str (pa_cons pe_str (pa_cons pe_str (pa_cons pe_str pa_nil))))))))
      (pss_cons (ps_for PassesOwn.never rfl (pi_range1 rfl m_range (pa_cons (pv 2) pa_nil)) (pg_name (i := 5) ndX rfl (.inl rfl))
        (pss_cons (ps_set (i := 6) ndX rfl (.inl rfl) (pe_lst pa_nil))
        (pss_cons (ps_for PassesOwn.never rfl (pi_range1 rfl m_range (pa_cons (pe_ix (k_ix (K := K) rfl) (pe_lst (pa_cons pe_int (pa_cons pe_int (pa_cons pe_int (pa_cons pe_int (pa_cons pe_int pa_nil)))))) (pe_c f_law_take hr (by decide) (by rfl) (pa_cons (pv 0) (pa_cons pe_int pa_nil))) (fun _ _ => rfl)) pa_nil)) (pg_name (i := 7) ndX rfl (.inl rfl))
          (pss_cons (ps_set (i := 8) ndX rfl (.inl rfl) (pe_lst pa_nil))
          (pss_cons (ps_for PassesOwn.never rfl (pi_range1 rfl m_range (pa_cons (pe_ix (k_ix (K := K) rfl) (pe_lst (pa_cons pe_int (pa_cons pe_int (pa_cons pe_int (pa_cons pe_int (pa_cons pe_int pa_nil)))))) (pe_c f_law_take hr (by decide) (by rfl) (pa_cons (pv 0) (pa_cons pe_int pa_nil))) (fun _ _ => rfl)) pa_nil)) (pg_name (i := 9) ndX rfl (.inl rfl))
            (pss_cons (ps_set (i := 10) ndX rfl (.inl rfl) (pe_op op_sub (pe_op op_sub (pv 2) (pv 5)) pe_int))
            (pss_cons (ps_set (i := 11) ndX rfl (.inl rfl) (pe_ix (k_ix (K := K) rfl) (pe_lst (pa_cons (pe_op (k_add (K := K) rfl) pe_int (pe_c f_law_take hr (by decide) (by rfl) (pa_cons (pv 0) (pa_cons (pe_callB (call_max2 rfl) (by rfl) m_max (by decide +kernel) (pa_cons pe_int (pa_cons (pv 10) pa_nil))) pa_nil)))) (pa_cons pe_int pa_nil))) (pe_c f_law_take hr (by decide) (by rfl) (pa_cons (pv 0) (pa_cons pe_int pa_nil))) (fun _ _ => rfl)))
            (pss_one (ps_expr (k_bm (K := K) rfl (pe_bm PySem.F.plainAttrs_list PySem.F.slot_list_append PySem.F.type_list_append mt_append (pv 8) (pa_cons (pe_ifExp (PW.pt (pw_and (pt_cmpR op_gt (pv 10) pe_int (nomark _)) (pw_and1 (pt_cmpR op_gt (pe_c f_law_take hr (by decide) (by rfl) (pa_cons (pv 0) (pa_cons pe_int pa_nil))) pe_int (nomark _))))) (pe_op (k_add (K := K) rfl) (pv 5) (pv 11)) (pe_ix (k_ix (K := K) rfl) (pv 4) (pe_c f_law_take hr (by decide) (by rfl) (pa_cons (pv 0) (pa_cons pe_int pa_nil))) (fun _ _ => rfl))) pa_nil))))))))
          (pss_one (ps_expr (k_bm (K := K) rfl (pe_bm PySem.F.plainAttrs_list PySem.F.slot_list_append PySem.F.type_list_append mt_append (pv 6) (pa_cons (pe_callTy (k_tuple (K := K) rfl) (by rfl) m_tuple (by decide +kernel) (pa_cons (pv 8) pa_nil)) pa_nil))))))))
        (pss_one (ps_expr (k_bm (K := K) rfl (pe_bm PySem.F.plainAttrs_list PySem.F.slot_list_append PySem.F.type_list_append mt_append (pv 3) (pa_cons (pe_callTy (k_tuple (K := K) rfl) (by rfl) m_tuple (by decide +kernel) (pa_cons (pv 6) pa_nil)) pa_nil))))))))
      (pss_one (ps_ret (pe_callTy (k_tuple (K := K) rfl) (by rfl) m_tuple (by decide +kernel) (pa_cons (pv 3) pa_nil))))))), ?_⟩
  refine q_par (fun v H1 => ∃ n : Int, v = .int n ∧ 1 ≤ n ∧ n ≤ m ∧ Bx (BA b l) H H1 ∧ Bo H1 b l) (fun v w H2 => ∃ (n : Int) (p : Addr), v = .int n ∧ w = .ref p ∧ 1 ≤ n ∧ n ≤ m ∧ Bx (BA b l) H H2 ∧ Bo H2 b l ∧ H p = none ∧ ¬ BA b l p ∧ Li K H2 p [])
    (fun Q' q' => (es_add (K := K) (p := fun n => 1 ≤ n ∧ n ≤ m) es_intI (es_takeV rfl rfl (by omega)) (fun i j hi hj => by omega)).use bo fun v d H1 e1 b1 pd id dv => by
      obtain ⟨n, rfl, h1, h2⟩ := pd
      cases dp_int dv
      exact q' _ _ ⟨n, rfl, h1, h2, e1, b1⟩)
    (fun v H1 h Q' q' => by
      obtain ⟨n, rfl, h1, h2, e1, b1⟩ := h
      exact (el_lst (K := K) ea_nil (by simp)).use fun p H2 hp e2 lp => q' _ _ ⟨n, p, rfl, rfl, h1, h2, e1.trans (Bx.of e2), b1.ex e2, Bo.back e1 b1 hp, b1.fresh hp, lp⟩) fun v w H2 h => ?_
  obtain ⟨n, bk, rfl, rfl, hn1, hnm, e2, b2, hbk, nbk, lbk⟩ := h
  refine q_asgL (K := K) (ds := words6.map .str) (el_lst (ea_cons ed_str (ea_cons ed_str (ea_cons ed_str (ea_cons ed_str (ea_cons ed_str (ea_cons ed_str ea_nil)))))) (by decide)) fun wd H3 hwd e3 lwd => ?_
  have hbw : bk ≠ wd := lbk.ne hwd
  have nwd : ¬ BA b l wd := b2.fresh hwd
  have hwd0 := Bo.back e2 b2 hwd
  obtain ⟨N, rfl⟩ : ∃ N : Nat, n = N := ⟨n.toNat, (Int.toNat_of_nonneg (by omega)).symm⟩
  refine v_range (K := K) (b := b) (l := l) (p := fun n => n = (N : Int)) (es_varI rfl) (b2.ex e3) (fun n h => by omega) (fun _ k σ' H' => Bx (BA b l) H H' ∧ Bo H' b l ∧ (∃ y5 y6 y7 y8 y9 y10 y11, σ' = [some (.ref b), some (.int m), some (.int N), some (.ref bk), some (.ref wd), y5, y6, y7, y8, y9, y10, y11]) ∧ Li K H' wd (words6.map .str) ∧ ∃ B : Book, B.length = k ∧ (∀ (i : Nat) R, B[i]? = some R → okRow N i R) ∧ Li K H' bk (B.map eR))
    (fun n' H4 hn e4 b4 => ⟨(e2.trans (Bx.of e3)).trans e4, b4, ⟨_, _, _, _, _, _, _, rfl⟩, lwd.bx e4 nwd (imms_str _), [], rfl, fun i R h => by simp at h, (lbk.ex e3).bx e4 nbk rfl⟩) (fun n' k σ' H5 hn hk p => ?_) fun n' σ' H5 hn p => ?_
  · obtain ⟨e5, b5, ⟨y5, y6, y7, y8, y9, y10, y11, rfl⟩, lwd5, B, hBl, hB, lbk5⟩ := p
    have hkN : k < N := by omega
    refine q_asgL (K := K) (el_lst ea_nil (by simp)) fun vr H6 hvr e6 lvr => ?_
    have b6 := b5.ex e6
    have e06 := e5.trans (Bx.of e6)
    have nvr : ¬ BA b l vr := b5.fresh hvr
    have hvb : bk ≠ vr := lbk5.ne hvr
    have hvw : wd ≠ vr := lwd5.ne hvr
    have hvr0 := Bo.back e5 b5 hvr
    refine u_range (K := K) (b := b) (l := l) (p := fun n => 1 ≤ n ∧ n ≤ 4) ((es_ixLst (ds := [.int 1, .int 2, .int 2, .int 3, .int 4]) (fun H1 => ea_cons ed_int (ea_cons ed_int (ea_cons ed_int (ea_cons ed_int (ea_cons ed_int ea_nil))))) (by simp) rfl (es_takeC rfl (by decide)) (by simp)).imp fun d hd => ?_) b6 (fun n h => by omega) (fun _ j σ' H' => Bx (BA b l) H H' ∧ Bo H' b l ∧ (∃ y7 y8 y9 y10 y11, σ' = [some (.ref b), some (.int m), some (.int N), some (.ref bk), some (.ref wd), some (.int k), some (.ref vr), y7, y8, y9, y10, y11]) ∧ Li K H' wd (words6.map .str) ∧ Li K H' bk (B.map eR) ∧ ∃ R : List (List Key), R.length = j ∧ (∀ v ∈ R, goodV N k v = true) ∧ Li K H' vr (R.map eV))
      (fun n' H7 hn e7 b7 => ⟨e06.trans e7, b7, ⟨_, _, _, _, _, rfl⟩, (lwd5.ex e6).bx e7 nwd (imms_str _), (lbk5.ex e6).bx e7 nbk (imms_eB B), [], rfl, by simp, lvr.bx e7 nvr rfl⟩) (fun nv j σ' H7 hnv hj p => ?_) fun nv σ' H7 hnv p => ?_
    · simp only [List.mem_cons, List.not_mem_nil, or_false] at hd
      rcases hd with rfl | rfl | rfl | rfl | rfl <;> exact ⟨_, rfl, by omega⟩
    · obtain ⟨e7, b7, ⟨y7, y8, y9, y10, y11, rfl⟩, lwd7, lbk7, R, hRl, hRg, lvr7⟩ := p
      refine q_asgL (K := K) (el_lst ea_nil (by simp)) fun it H8 hit e8 lit => ?_
      have b8 := b7.ex e8
      have e08 := e7.trans (Bx.of e8)
      have nit : ¬ BA b l it := b7.fresh hit
      have hib : bk ≠ it := lbk7.ne hit
      have hiw : wd ≠ it := lwd7.ne hit
      have hiv : vr ≠ it := lvr7.ne hit
      have hit0 := Bo.back e7 b7 hit
      refine u_range (K := K) (b := b) (l := l) (p := fun n => 1 ≤ n ∧ n ≤ 6) ((es_ixLst (ds := [.int 1, .int 2, .int 2, .int 3, .int 6]) (fun H1 => ea_cons ed_int (ea_cons ed_int (ea_cons ed_int (ea_cons ed_int (ea_cons ed_int ea_nil))))) (by simp) rfl (es_takeC rfl (by decide)) (by simp)).imp fun d hd => ?_) b8 (fun n h => by omega) (fun _ i σ' H' => Bx (BA b l) H H' ∧ Bo H' b l ∧ (∃ y9 y10 y11, σ' = [some (.ref b), some (.int m), some (.int N), some (.ref bk), some (.ref wd), some (.int k), some (.ref vr), some (.int j), some (.ref it), y9, y10, y11]) ∧ Li K H' wd (words6.map .str) ∧ Li K H' bk (B.map eR) ∧ Li K H' vr (R.map eV) ∧ ∃ v : List Key, v.length = i ∧ (∀ x ∈ v, goodI N k x = true) ∧ Li K H' it (v.map eI))
        (fun n' H9 hn e9 b9 => ⟨e08.trans e9, b9, ⟨_, _, _, rfl⟩, (lwd7.ex e8).bx e9 nwd (imms_str _), (lbk7.ex e8).bx e9 nbk (imms_eB B), (lvr7.ex e8).bx e9 nvr (imms_eV R), [], rfl, by simp, lit.bx e9 nit rfl⟩) (fun ni i σ' H9 hni hi p => ?_) fun ni σ' H9 hni p => ?_
      · simp only [List.mem_cons, List.not_mem_nil, or_false] at hd
        rcases hd with rfl | rfl | rfl | rfl | rfl <;> exact ⟨_, rfl, by omega⟩
      · obtain ⟨e9, b9, ⟨y9, y10, y11, rfl⟩, lwd9, lbk9, lvr9, v, hvl, hvg, lit9⟩ := p
        refine q_asg (K := K) (ed_sub (ed_sub (ed_var rfl (.int N)) (ed_var rfl (.int k))) ed_int) fun u H10 e10 du => ?_
        cases dp_int du
        have b10 := b9.ex e10
        have hmax : 0 < (if ((N : Int) - k - 1) > 1 then ((N : Int) - k - 1) else 1) ∧ (if ((N : Int) - k - 1) > 1 then ((N : Int) - k - 1) else 1) < 1073741824 := by split <;> omega
        refine v_asg (K := K) (b := b) (l := l) (P := IsI fun s => 1 ≤ s ∧ (s ≤ (N : Int) - k - 1 ∨ s = 1)) ((es_pick2 (es_add (p := fun s => 1 ≤ s ∧ (s ≤ (N : Int) - k - 1 ∨ s = 1)) es_intI (es_take (R := IsI fun j => 0 ≤ j ∧ j < (if ((N : Int) - k - 1) > 1 then ((N : Int) - k - 1) else 1)) (n := 0) (p := (· = (if ((N : Int) - k - 1) > 1 then ((N : Int) - k - 1) else 1))) rfl ((es_of (fun H1 _ _ => es_max (k := 0) ed_int (ed_var rfl (.int _))) rfl).imp fun d h => ⟨_, h, rfl⟩) (fun n h => by rw [h]; exact hmax) (fun n i h h0 h1 => ⟨i, rfl, h0, by rw [← h]; exact h1⟩)) (fun i j hi hj => ?_)) es_intI (es_takeC rfl (by decide))).imp fun d h => ?_) b10 fun sv sd H11 e11 b11 ps is ds => ?_
        · obtain ⟨h0, h1⟩ := hj
          subst hi
          split at h1 <;> omega
        · rcases h with ⟨s, rfl, h⟩ | ⟨s, rfl, rfl⟩
          · exact ⟨s, rfl, h⟩
          · exact ⟨1, rfl, by omega⟩
        · obtain ⟨sp, rfl, hs1, hs2⟩ := ps
          cases dp_int ds
          have e911 := (Bx.of e10).trans e11
          refine v_app (K := K) (b := b) (l := l) (P := fun d => ∃ x, d = eI x ∧ goodI N k x = true) (lit9.bx e911 nit (imms_eI v)) (imms_eI v) nit rfl (es_if (G := fun z => z = true → 0 < (N : Int) - k - 1) ((est_and (G1 := fun z => z = true → 0 < (N : Int) - k - 1) (G2 := fun _ => True) (es_gt (K := K) (es_varI rfl) es_intI fun i j hi hj z => ?_) (es_gt (K := K) (es_takeI rfl (by decide)) es_intI fun _ _ _ _ => trivial)).imp' fun z h hz => ?_) (fun h => ?_) fun _ => ?_) b11 (by simp; omega) fun d H12 e12 b12 pd id H13 e13 b13 L13 => ?_
          · subst hi hj
            exact of_decide_eq_true z
          · exact (h hz).1 rfl
          · refine (es_add (p := fun x => (k : Int) < x ∧ x < N) (es_varI rfl) (es_varI rfl) fun i j hi hj => ?_).imp fun d hd => ?_
            · have := h rfl
              subst hi hj
              omega
            · obtain ⟨x, rfl, hx1, hx2⟩ := hd
              exact ⟨.inl x, rfl, by simp [goodI, hx1, hx2]⟩
          · refine (es_ixLi rfl (lwd9.bx e911 nwd (imms_str _)) (imms_str _) nwd (es_takeC rfl (by decide)) (by simp [words6])).imp fun d hd => ?_
            obtain ⟨x, hx, rfl⟩ := List.mem_map.mp hd
            exact ⟨.inr x, rfl, words_good x hx⟩
          · obtain ⟨x, rfl, hx⟩ := pd
            have e1112 := e911.trans e12
            refine ⟨((e9.trans e1112).own e13 hit0), b13, ⟨_, _, _, rfl⟩, (lwd9.bx e1112 nwd (imms_str _)).bx e13 hiw (imms_str _), (lbk9.bx e1112 nbk (imms_eB B)).bx e13 hib (imms_eB B), (lvr9.bx e1112 nvr (imms_eV R)).bx e13 hiv (imms_eV R), v ++ [x], by simp; omega, fun y hy => ?_, by rw [List.map_append]; exact L13⟩
            rcases List.mem_append.mp hy with z | z
            · exact hvg y z
            · simp at z; subst z; exact hx
      · obtain ⟨e9, b9, ⟨y9, y10, y11, rfl⟩, lwd9, lbk9, lvr9, v, hvl, hvg, lit9⟩ := p
        refine v_app (K := K) (b := b) (l := l) (P := (· = eV v)) lvr9 (imms_eV R) nvr rfl (es_of (fun H1 e1 b1 => ed_tupleL (ed_var rfl (lit9.bx e1 nit (imms_eI v)).dp)) (imm_eV v)) b9 (by simp; omega) fun d H12 e12 b12 pd id H13 e13 b13 L13 => ?_
        subst pd
        refine ⟨(e9.trans e12).own e13 hvr0, b13, ⟨_, _, _, _, _, rfl⟩, (lwd9.bx e12 nwd (imms_str _)).bx e13 hvw (imms_str _), (lbk9.bx e12 nbk (imms_eB B)).bx e13 hvb (imms_eB B), R ++ [v], by simp; omega, fun y hy => ?_, by rw [List.map_append]; exact L13⟩
        rcases List.mem_append.mp hy with z | z
        · exact hRg y z
        · simp at z; subst z; exact goodV_all (by omega) hvg
    · obtain ⟨e7, b7, ⟨y7, y8, y9, y10, y11, rfl⟩, lwd7, lbk7, R, hRl, hRg, lvr7⟩ := p
      refine v_app (K := K) (b := b) (l := l) (P := (· = eR R)) lbk7 (imms_eB B) nbk rfl (es_of (fun H1 e1 b1 => ed_tupleL (ed_var rfl (lvr7.bx e1 nvr (imms_eV R)).dp)) (imm_eR R)) b7 (by simp; omega) fun d H12 e12 b12 pd id H13 e13 b13 L13 => ?_
      subst pd
      refine ⟨(e7.trans e12).own e13 hbk, b13, ⟨_, _, _, _, _, _, _, rfl⟩, (lwd7.bx e12 nwd (imms_str _)).bx e13 (fun z => hbw z.symm) (imms_str _), B ++ [R], by simp; omega, fun i R' hR' => ?_, by rw [List.map_append]; exact L13⟩
      by_cases hi : i < B.length
      · exact hB i R' (by rw [List.getElem?_append_left hi] at hR'; exact hR')
      · rw [List.getElem?_append_right (by omega)] at hR'
        have hik : i = k := by
          have := (List.getElem?_eq_some_iff.mp hR').1
          simp at this
          omega
        subst hik
        rw [hBl, Nat.sub_self] at hR'
        simp at hR'
        subst hR'
        exact ⟨by omega, by omega, hRg⟩
  · obtain ⟨e5, b5, ⟨y5, y6, y7, y8, y9, y10, y11, rfl⟩, lwd5, B, hBl, hB, lbk5⟩ := p
    subst hn
    rw [Int.toNat_natCast] at hBl
    refine w_ret (K := K) (ed_tupleL (ed_var rfl lbk5.dp)) fun v H6 e6 dv => q B v H6 (good_rows hBl (by omega) (by omega) hB) (by omega) (e5.trans (Bx.of e6)) (b5.ex e6) dv
end
end K01
set_option Elab.async false
set_option linter.all false
set_option maxRecDepth 100000
set_option maxHeartbeats 1000000
/-! slices, and a store whose value and place are drawn -/
namespace SB
open PySem PySem.Spec PyProof.Rows L2 Evl
def cutD (ds : List PyData) (lo hi : Option Int) : List PyData := (ds.drop (HT.sIx ds.length 0 lo)).take (HT.sIx ds.length ds.length hi - HT.sIx ds.length 0 lo)
section
variable {K : PySem.W.Frag} {σ : L2.St} {H H' H'' : Hp} {ta tb tc te tx to ti : TE} {t u : TT} {d : PyData} {ds es : List PyData} {D : Ends} {tu tw tz : TS} {g : TG} {a b l : Addr} {A : Addr → Prop} {P Q R P1 P2 : PyData → Prop}
theorem dpall_cut {vs : List V} (h : DpAll K H vs ds) (lo hi : Option Int) : DpAll K H (cutV vs lo hi) (cutD ds lo hi) := by
  unfold cutV cutD
  rw [dpall_len h]
  exact dpall_take _ (dpall_drop _ h)
theorem cut_take {n : Nat} (h : n ≤ ds.length) : cutD ds none (some (n : Int)) = ds.take n := by
  unfold cutD
  rw [HT.sIx_none, HT.sIx_nat, Nat.min_eq_left h]
  simp
theorem cut_drop {n : Nat} (h : n ≤ ds.length) : cutD ds (some (n : Int)) none = ds.drop n := by
  unfold cutD
  rw [HT.sIx_none, HT.sIx_nat, Nat.min_eq_left h]
  rw [List.take_of_length_le]
  rw [List.length_drop]
  exact Nat.le_refl _
theorem ed_slHi {n : Nat} (h : Ed K te σ H (.tuple ds)) (hi : Ed K ta σ H (.int (n : Int))) (hn : n ≤ ds.length) : Ed K (tSl (rSlU K) te tNoPart (tPart ta)) σ H (.tuple (ds.take n)) := fun H1 e Q q =>
  h H1 e _ fun x H2 e2 dx => hi H2 (e.trans e2) _ fun y H3 e3 dy => by
    cases dp_int dy
    cases dx with
    | tup hs ha =>
      refine ⟨(n : Int), rfl, .inr (.inl ⟨_, _, rfl, ex_t e3 hs, fun z => ?_, fun z p hp => ?_⟩)⟩
      · refine q _ H3 (e2.trans e3) ?_
        have hz := z.2
        rw [HT.sIx_nat, dpall_len ha, Nat.min_eq_left hn] at hz
        rw [hz, List.take_length]
        exact .tup (ex_t e3 hs) (dps_ex e3 ha)
      · refine q _ _ ((e2.trans e3).trans (Ex.new hp)) (.tup (st_of upd_same) ?_)
        rw [← cut_take hn]
        exact dpall_cut (dps_ex (e3.trans (Ex.new hp)) ha) _ _
theorem ed_slLo {n : Nat} (h : Ed K te σ H (.tuple ds)) (hi : Ed K ta σ H (.int (n : Int))) (hn : n ≤ ds.length) : Ed K (tSl (rSlU K) te (tPart ta) tNoPart) σ H (.tuple (ds.drop n)) := fun H1 e Q q =>
  h H1 e _ fun x H2 e2 dx => hi H2 (e.trans e2) _ fun y H3 e3 dy => by
    cases dp_int dy
    cases dx with
    | tup hs ha =>
      refine ⟨(n : Int), rfl, .inr (.inl ⟨_, _, rfl, ex_t e3 hs, fun z => ?_, fun z p hp => ?_⟩)⟩
      · refine q _ H3 (e2.trans e3) ?_
        have hz := z.1
        rw [HT.sIx_nat, dpall_len ha, Nat.min_eq_left hn] at hz
        rw [hz, List.drop_zero]
        exact .tup (ex_t e3 hs) (dps_ex e3 ha)
      · refine q _ _ ((e2.trans e3).trans (Ex.new hp)) (.tup (st_of upd_same) ?_)
        rw [← cut_drop hn]
        exact dpall_cut (dps_ex (e3.trans (Ex.new hp)) ha) _ _
/-- xs[:n], xs a list -/
theorem el_slHi {n : Nat} (h : Ed K te σ H (.list ds)) (hi : Ed K ta σ H (.int (n : Int))) (hn : n ≤ ds.length) : El K (tSl (rSlU K) te tNoPart (tPart ta)) σ H (ds.take n) := fun H1 e Q q =>
  h H1 e _ fun x H2 e2 dx => hi H2 (e.trans e2) _ fun y H3 e3 dy => by
    cases dp_int dy
    cases dx with
    | lst hs ha =>
      refine ⟨(n : Int), rfl, .inl ⟨_, _, rfl, ex_l e3 hs, fun p hp => ?_⟩⟩
      refine q p _ (fresh_back (e2.trans e3) hp) ((e2.trans e3).trans (Ex.new hp)) ⟨_, upd_same, ?_⟩
      rw [← cut_take hn]
      exact dpall_cut (dps_ex (e3.trans (Ex.new hp)) ha) _ _
/-- xs * n, xs a list under a name -/
theorem el_repV {n : Int} {i : Nat} (hs : σ[i]? = some (some (.ref a))) (L : Li K H a ds) (hn : Ed K tb σ H (.int n)) (hb : -100000 ≤ n ∧ n ≤ 100000) (hz : ds.length * n.toNat ≤ 100000) : El K (tOp (rTimes2 K) (tVar i) tb) σ H (List.replicate n.toNat ds).flatten := fun H1 e Q q =>
  ⟨_, hs, hn H1 e _ fun v H3 e3 dv => by
    cases dp_int dv
    obtain ⟨vs, h1, h2⟩ := L
    refine .inl (.inr (.inl ⟨a, n, vs, rfl, rfl, e3 _ _ (e _ _ h1), by omega, by omega, sz_of (by rw [dpall_len h2]; exact hz), fun l hl => ?_⟩))
    exact q l _ (fresh_back e3 hl) (e3.trans (Ex.new hl)) ⟨_, upd_same, dpall_rep (dps_ex ((e.trans e3).trans (Ex.new hl)) h2) _⟩⟩
/-- xs[draw] = drawn -/
theorem v_setL {m : Nat} {n : Int} (L : Li K H a ds) (him : imms ds = true) (hn : ¬ BA b l a) (hs : σ[m]? = some (some (.ref a))) (h : Es K b l te σ H P) (hi : ∀ H1, Bx (BA b l) H H1 → Es K b l ti σ H1 (InR n)) (hb : Bo H b l) (hz : n ≤ ds.length)
    (k : ∀ d (j : Nat) H1, Bx (BA b l) H H1 → Bo H1 b l → P d → imm d = true → j < ds.length → ∀ H2, Bx (· = a) H1 H2 → Bo H2 b l → Li K H2 a (ds.set j d) → D.nx σ H2) : tAsg te (gSub (tVar m) ti rSetL) D σ H :=
  h.use hb fun v d H1 e1 b1 pd id dv => ⟨_, hs, (hi H1 e1).use b1 fun w c H2 e2 b2 pc ic dw => by
    obtain ⟨j, rfl, h0, h1⟩ := pc
    cases dp_int dw
    have hjn : ((j.toNat : Nat) : Int) = j := Int.toNat_of_nonneg h0
    have hjl : j.toNat < ds.length := by omega
    obtain ⟨vs, h3, h4⟩ := Li.bx (K := K) (e1.trans e2) hn him L
    have bx : Bx (· = a) H2 (upd H2 a (.lst (vs.set j.toNat v))) := Bx.lst h3 rfl
    refine ⟨a, vs, j, j.toNat, rfl, rfl, h3, ?_, k d j.toNat H2 (e1.trans e2) b2 pd id hjl _ bx (b2.bx bx (fun z => hn (.inl z.symm)) (fun z => hn (.inr z.symm))) ⟨_, upd_same, ?_⟩⟩
    · rw [← hjn]
      exact ixN_nat (by rw [dpall_len h4]; exact hjl)
    · exact dpall_set (dp_tx (e2.1.trans bx.1) id dv) _ (dps_tx bx.1 him h4)⟩
theorem u_setL {m : Nat} {n : Int} (L : Li K H a ds) (him : imms ds = true) (hn : ¬ BA b l a) (hs : σ[m]? = some (some (.ref a))) (h : Es K b l te σ H P) (hi : ∀ H1, Bx (BA b l) H H1 → Es K b l ti σ H1 (InR n)) (hb : Bo H b l) (hz : n ≤ ds.length)
    (k : ∀ d (j : Nat) H1, Bx (BA b l) H H1 → Bo H1 b l → P d → imm d = true → j < ds.length → ∀ H2, Bx (· = a) H1 H2 → Bo H2 b l → Li K H2 a (ds.set j d) → tz D σ H2) : tSeq (tAsg te (gSub (tVar m) ti rSetL)) tz D σ H := v_setL (D := { D with nx := tz D }) L him hn hs h hi hb hz k
/-- x = [xs, ys, zs][i], new lists -/
theorem w_pick3 {ds1 ds2 ds3 : List PyData} {i : Int} {j : Nat} (h1 : El K ta σ H ds1) (h2 : El K tb σ H ds2) (h3 : El K tc σ H ds3) (hi : Ed K ti σ H (.int i)) (h : i = 0 ∨ i = 1 ∨ i = 2)
    (k : ∀ p H', H p = none → Ex H H' → (i = 0 → Li K H' p ds1) → (i = 1 → Li K H' p ds2) → (i = 2 → Li K H' p ds3) → D.nx (σ.set j (some (.ref p))) H') : tAsg (tOp (rIx K) (tLst (tCons ta (tCons tb (tCons tc tNil)))) ti) (gName j) D σ H :=
  h1 H (Ex.refl H) _ fun p1 H1 hp1 e1 l1 => h2 H1 e1 _ fun p2 H2 hp2 e2 l2 => h3 H2 (e1.trans e2) _ fun p3 H3 hp3 e3 l3 => ⟨sz_of (by simp), fun p4 hp4 => by
    have e4 : Ex H3 (upd H3 p4 (.lst [.ref p1, .ref p2, .ref p3])) := Ex.new hp4
    have hs4 : SqL K (upd H3 p4 (.lst [.ref p1, .ref p2, .ref p3])) p4 [.ref p1, .ref p2, .ref p3] := sq_of upd_same
    have ee := ((e1.trans e2).trans e3).trans e4
    refine hi _ ee _ fun v H5 e5 dv => ?_
    cases dp_int dv
    have s5 := ex_l e5 hs4
    rcases h with rfl | rfl | rfl
    · exact .inl ⟨p4, _, _, .ref p1, rfl, rfl, s5, rfl, k p1 H5 hp1 (ee.trans e5) (fun _ => l1.ex (((e2.trans e3).trans e4).trans e5)) (fun z => absurd z (by decide)) fun z => absurd z (by decide)⟩
    · exact .inl ⟨p4, _, _, .ref p2, rfl, rfl, s5, rfl, k p2 H5 (fresh_back e1 hp2) (ee.trans e5) (fun z => absurd z (by decide)) (fun _ => l2.ex ((e3.trans e4).trans e5)) fun z => absurd z (by decide)⟩
    · exact .inl ⟨p4, _, _, .ref p3, rfl, rfl, s5, rfl, k p3 H5 (fresh_back (e1.trans e2) hp3) (ee.trans e5) (fun z => absurd z (by decide)) (fun z => absurd z (by decide)) fun _ => l3.ex (e4.trans e5)⟩⟩
end
end SB
set_option Elab.async false
set_option linter.all false
set_option maxRecDepth 100000
namespace K01
open PySem PySem.Spec PyProof.Rows L2 SB C8
open Evl (Ex fresh_back sq_of st_of sz_of)
theorem lay_all {l : List PyData} (h : ∀ d ∈ l, d.canLay0 = true) : PyData.canLayAll0 l = true := by
  induction l with
  | nil => rfl
  | cons d l ih => rw [PyData.canLayAll0, h d (by simp), ih fun x hx => h x (by simp [hx])]; rfl
theorem depth_all {l : List PyData} {n : Nat} (h : ∀ d ∈ l, d.depth ≤ n) : PyData.depthAll l ≤ n := by
  induction l with
  | nil => exact Nat.zero_le _
  | cons d l ih =>
    rw [PyData.depthAll]
    have := h d (by simp)
    have := ih fun x hx => h x (by simp [hx])
    omega
theorem lay_eI {x : Key} (h : smallK x) : (eI x).canLay0 = true := by
  cases x with
  | inl i => rfl
  | inr w => unfold eI PyData.canLay0; exact h.2
theorem depth_eI (x : Key) : (eI x).depth ≤ 1 := by cases x <;> simp [eI, PyData.depth]
theorem lay_eV {v : List Key} (h : ∀ x ∈ v, smallK x) : (eV v).canLay0 = true := by
  unfold eV PyData.canLay0
  exact lay_all fun d hd => by
    obtain ⟨x, hx, rfl⟩ := List.mem_map.mp hd
    exact lay_eI (h x hx)
theorem depth_eV (v : List Key) : (eV v).depth ≤ 2 := by
  unfold eV PyData.depth
  have := depth_all (l := v.map eI) (n := 1) fun d hd => by
    obtain ⟨x, hx, rfl⟩ := List.mem_map.mp hd
    exact depth_eI x
  omega
theorem shaped_eV {v : List Key} (h : ∀ x ∈ v, smallK x) : SeqAt.shaped (eV v) = true := by
  unfold SeqAt.shaped
  rw [lay_eV h]
  have := depth_eV v
  simp only [Bool.true_and, decide_eq_true_eq]
  omega
theorem shaped_eVs {R : List (List Key)} (h : ∀ v ∈ R, ∀ x ∈ v, smallK x) : SeqAt.shaped (.list (R.map eV)) = true := by
  unfold SeqAt.shaped
  rw [PyData.canLay0, lay_all fun d hd => by
    obtain ⟨v, hv, rfl⟩ := List.mem_map.mp hd
    exact lay_eV (h v hv), PyData.depth]
  have := depth_all (l := R.map eV) (n := 2) fun d hd => by
    obtain ⟨v, hv, rfl⟩ := List.mem_map.mp hd
    exact depth_eV v
  simp only [Bool.true_and, decide_eq_true_eq]
  omega
theorem eqv_tup (v : List Key) : (eV v).eqv (.tuple []) = v.isEmpty := by cases v <;> simp [eV, PyData.eqv, PyData.eqvAll]
def okVs (v : List Key) : Prop := v.length ≤ 7 ∧ ∀ x ∈ v, smallK x
/-- a book with changes -/
structure Dm (m : Nat) (B : Book) : Prop where
  ne : B ≠ []
  len : B.length ≤ 9
  r : ∀ R ∈ B, R.length ≤ m ∧ ∀ v ∈ R, okVs v
theorem Dm.mono {m m' : Nat} {B : Book} (h : Dm m B) (hm : m ≤ m') : Dm m' B := ⟨h.ne, h.len, fun R hR => ⟨Nat.le_trans (h.r R hR).1 hm, (h.r R hR).2⟩⟩
theorem Dm.sm {m : Nat} {B : Book} (h : Dm m B) (hm : m ≤ 1000) : SmB B := by
  refine ⟨?_, fun R hR => ⟨?_, fun v hv => ⟨?_, fun x hx => ?_⟩⟩⟩
  · have := h.len; omega
  · have := (h.r R hR).1; omega
  · have := ((h.r R hR).2 v hv).1; omega
  · exact ((h.r R hR).2 v hv).2 x hx
theorem Dm.set {m m' : Nat} {B : Book} (h : Dm m B) (hm : m ≤ m') {R : List (List Key)} (hR : R.length ≤ m') (hv : ∀ v ∈ R, okVs v) (k : Nat) : Dm m' (B.set k R) := by
  refine ⟨fun z => h.ne ?_, by rw [List.length_set]; exact h.len, fun R' hR' => ?_⟩
  · have := congrArg List.length z
    rw [List.length_set] at this
    exact List.eq_nil_of_length_eq_zero this
  · rcases List.mem_or_eq_of_mem_set hR' with z | z
    · exact ⟨Nat.le_trans (h.r R' z).1 hm, (h.r R' z).2⟩
    · subst z; exact ⟨hR, hv⟩
def odds (k n : Int) : List Key := [.inr "", .inr "abcdefghi", .inr "A", .inr "a b", .inl (-1), .inl 0, .inl k, .inl n, .inl (k + 1), .inr "z"]
theorem odds_small {k n : Int} : ∀ x ∈ odds k n, smallK x := by
  intro x hx
  simp only [odds, List.mem_cons, List.not_mem_nil, or_false] at hx
  rcases hx with rfl | rfl | rfl | rfl | rfl | rfl | rfl | rfl | rfl | rfl <;> first | exact trivial | exact ⟨by decide +kernel, by decide +kernel⟩
def aaa (n : Nat) : List Key := List.replicate n (.inr "a")
theorem aaa_ok {n : Nat} (h : n ≤ 7) : okVs (aaa n) := ⟨by simp [aaa]; exact h, fun x hx => by
  rw [List.eq_of_mem_replicate hx]
  exact ⟨by decide +kernel, by decide +kernel⟩⟩
theorem okVs_nil : okVs [] := ⟨by simp, by simp⟩
abbrev sp_law_damaged (K : PySem.W.Frag) : Sp := fun vs H Q _ => vs.length = 2 ∧ ∃ b l x B m, vs = [.ref b, x] ∧ Bo H b l ∧ Dp K H x (eB B) ∧ Dm m B ∧ m ≤ 100 ∧ ∀ B' v H2, Dm (5 * m) B' → Bx (BA b l) H H2 → Bo H2 b l → Dp K H2 v (eB B') → Q v H2
section
variable {P : Program} {w : World} {K : PySem.W.Frag} {mg : Str → Option Value} {base : Heap}
abbrev s_law_damaged : Stmt := topS 39
theorem sc_law_damaged : FnScope ["_law_box", "_law_book_here", "_law_k", "_law_verses", "_law_way", "_law_j", "_law_odd", "_law_items"] ["_law_box", "_law_book_here"] (fnScope s_law_damaged) := fnScope_by (by decide +kernel)
theorem ok_law_damaged  {f : Addr} {fd : FuncData} (F : Def K mg "_law_damaged" s_law_damaged f fd) (b : L2.Binds K fd ["_law_box", "_law_book_here"] []) (f_law_take : Cal P w K mg base 1 "_law_take" (sp_law_take K) []) (m_len : mg "len" = none) (m_list : mg "list" = none) (m_int : mg "int" = none) (m_tuple : mg "tuple" = none) :
    Cal P w K mg base 2 "_law_damaged" (sp_law_damaged K) [] := by
  refine cal0 F b .nil sc_law_damaged (fun vs H Q E h => h.1) (fun cdv A outer s H vs Q E hr h => ?_)
  have ndX := sc_law_damaged.nd
  obtain ⟨_, b, l, vb, B, m, rfl, bo, hb, hD, hm, q⟩ := h
  refine ⟨_, (pss_cons (ps_set (i := 2) ndX rfl (.inl rfl) (pe_c f_law_take hr (by decide) (by rfl) (pa_cons (pv 0) (pa_cons (pe_callB (k_len (K := K) rfl) (by rfl) m_len (by decide +kernel) (pa_cons (pv 1) pa_nil)) pa_nil))))
      (pss_cons (ps_set (i := 3) ndX rfl (.inl rfl) (pe_callTy (k_list (K := K) rfl) (by rfl) m_list (by decide +kernel) (pa_cons (pe_ix (k_ix (K := K) rfl) (pv 1) (pv 2) (fun _ _ => rfl)) pa_nil)))
      (pss_cons (ps_if (pt_cmpR (k_eq (K := K) rfl hr.units) (pv 3) (pe_lst pa_nil) (nomark _))
        (pss_one (ps_ret (pv 1))) pss_nil)
      (pss_cons (ps_par (i := 4) (j := 5) (by rfl) ndX rfl rfl (by decide) rfl rfl (pa_cons (pe_c f_law_take hr (by decide) (by rfl) (pa_cons (pv 0) (pa_cons pe_int pa_nil))) (pa_cons (pe_c f_law_take hr (by decide) (by rfl) (pa_cons (pv 0) (pa_cons (pe_callB (k_len (K := K) rfl) (by rfl) m_len (by decide +kernel) (pa_cons (pv 3) pa_nil)) pa_nil))) pa_nil)) (by rfl))
      (pss_cons (ps_set (i := 6) ndX rfl (.inl rfl) (pe_lst (pa_cons pe_str (pa_cons pe_str (pa_cons pe_str (pa_cons pe_str (pa_cons (pe_un un_neg pe_int) (pa_cons pe_int (pa_cons (pv 2) (pa_cons (pe_callB (k_len (K := K) rfl) (by rfl) m_len (by decide +kernel) (pa_cons (pv 1) pa_nil)) (pa_cons (pe_op (k_add (K := K) rfl) (pv 2) pe_int) (pa_cons pe_str pa_nil))))))))))))
      (pss_cons (ps_set (i := 7) ndX rfl (.inl rfl) (pe_op (k_add (K := K) rfl) (pe_callTy (k_list (K := K) rfl) (by rfl) m_list (by decide +kernel) (pa_cons (pe_ix (k_ix (K := K) rfl) (pv 3) (pv 5) (fun _ _ => rfl)) pa_nil)) (pe_op (k_mul2 (K := K) rfl) (pe_lst (pa_cons pe_str pa_nil)) (pe_callTy call_int1 (by rfl) m_int (by decide +kernel) (pa_cons (pe_cmpR (k_eq (K := K) rfl hr.units) (pe_ix (k_ix (K := K) rfl) (pv 3) (pv 5) (fun _ _ => rfl)) (pe_tup pa_nil) (nomark _)) pa_nil)))))
      (pss_cons (ps_asg (pe_ix (k_ix (K := K) rfl) (pv 6) (pe_c f_law_take hr (by decide) (by rfl) (pa_cons (pv 0) (pa_cons pe_int pa_nil))) (fun _ _ => rfl)) (pg_sub (pv 7) (pe_c f_law_take hr (by decide) (by rfl) (pa_cons (pv 0) (pa_cons (pe_callB (k_len (K := K) rfl) (by rfl) m_len (by decide +kernel) (pa_cons (pv 7) pa_nil)) pa_nil))) set_list))
      (pss_cut (ps_if (pt_cmpR oLt (pv 4) pe_int (nomark _))
        (pss_one (ps_asg (pe_callTy (k_tuple (K := K) rfl) (by rfl) m_tuple (by decide +kernel) (pa_cons (pv 7) pa_nil)) (pg_sub (pv 3) (pv 5) set_list))) (pss_one (ps_if (pt_cmpR (k_eq (K := K) rfl hr.units) (pv 4) pe_int (nomark _))
          (pss_one (ps_asg (pe_ix (k_ix (K := K) rfl) (pe_lst (pa_cons (pe_tup pa_nil) (pa_cons (pe_op (k_mul2 (K := K) rfl) (pe_tup (pa_cons pe_str pa_nil)) pe_int) (pa_cons (pe_op (k_mul2 (K := K) rfl) (pe_tup (pa_cons pe_str pa_nil)) pe_int) pa_nil)))) (pe_c f_law_take hr (by decide) (by rfl) (pa_cons (pv 0) (pa_cons pe_int pa_nil))) (fun _ _ => rfl)) (pg_sub (pv 3) (pv 5) set_list))) (pss_one (ps_set (i := 3) ndX rfl (.inl rfl) (pe_ix (k_ix (K := K) rfl) (pe_lst (pa_cons (pe_lst pa_nil) (pa_cons (pe_op (k_mul2 (K := K) rfl) (pv 3) pe_int) (pa_cons (pe_slice (k_sl (K := K) rfl) (pv 3) po_none (po_some pe_int)) pa_nil)))) (pe_op op_sub (pv 4) pe_int) (fun _ _ => rfl)))))))
      (pss_one (ps_ret (pe_op (k_add (K := K) rfl) (pe_op (k_add (K := K) rfl) (pe_slice (k_sl (K := K) rfl) (pv 1) po_none (po_some (pv 2))) (pe_tup (pa_cons (pe_callTy (k_tuple (K := K) rfl) (by rfl) m_tuple (by decide +kernel) (pa_cons (pv 3) pa_nil)) pa_nil))) (pe_slice (k_sl (K := K) rfl) (pv 1) (po_some (pe_op (k_add (K := K) rfl) (pv 2) pe_int)) po_none)))))))))))), ?_⟩
  have hn1 : 1 ≤ B.length := by have := hD.ne; cases B with | nil => exact absurd rfl this | cons _ _ => simp
  have hn9 := hD.len
  have hbk : ∀ {H1 : Hp}, Bx (BA b l) H H1 → Dp K H1 vb (eB B) := fun e => dp_tx e.1 (imm_eB B) hb
  refine v_asg (K := K) (b := b) (l := l) (P := IsI fun i => 0 ≤ i ∧ i < B.length) (es_take (n := 0) (p := (· = (B.length : Int))) rfl ((es_of (fun H1 e1 _ => (ed_lenT (ed_var rfl (hbk e1))).is (by rw [List.length_map])) rfl).imp fun d h => ⟨_, h, rfl⟩) (fun n h => by subst h; omega) (fun n i h h0 h1 => ⟨i, rfl, h0, by rw [← h]; exact h1⟩)) bo fun kv kd H1 e1 b1 pk ik dk => ?_
  obtain ⟨k0, rfl, hk0, hk1⟩ := pk
  cases dp_int dk
  obtain ⟨k, rfl⟩ : ∃ k : Nat, k0 = k := ⟨k0.toNat, (Int.toNat_of_nonneg hk0).symm⟩
  have hk : k < B.length := by omega
  have hR : B[k]? = some B[k] := List.getElem?_eq_getElem hk
  generalize B[k] = R at hR
  have hRm := hD.r R (List.mem_of_getElem? hR)
  refine q_asgL (K := K) (el_listT (ed_ixT (d := eR R) (ed_var rfl (hbk e1)) (ed_var rfl (.int k)) (atI_nat (by rw [List.getElem?_map, hR]; rfl)))) fun vr H2 hvr e2 lvr => ?_
  have b2 := b1.ex e2
  have e02 := e1.trans (Bx.of e2)
  have nvr := b1.fresh hvr
  have hvr0 := Bo.back e1 b1 hvr
  refine q_when (et_test ((ed_eqD (ed_var rfl lvr.dp) (ed_lst ea_nil (by simp)) (shaped_eVs fun v hv => (hRm.2 v hv).2) (by decide)).is (by rw [eqv_empty]))) (fun hw H3 e3 => ?_) fun hw H3 e3 => ?_
  · have e03 := e02.trans (Bx.of e3)
    exact w_ret (ed_var rfl (hbk e03)) fun v H4 e4 dv => q B v H4 (hD.mono (by omega)) (e03.trans (Bx.of e4)) ((b2.ex e3).ex e4) dv
  have hR1 : 1 ≤ R.length := by
    cases R with
    | nil => simp at hw
    | cons _ _ => simp
  have hRl := hRm.1
  have b3 := b2.ex e3
  have e03 := e02.trans (Bx.of e3)
  have lvr3 := lvr.ex e3
  refine q_par (fun v H1 => ∃ wy : Int, v = .int wy ∧ 0 ≤ wy ∧ wy < 8 ∧ Bx (BA b l) H3 H1 ∧ Bo H1 b l) (fun v w H2 => ∃ wy jj : Int, v = .int wy ∧ w = .int jj ∧ 0 ≤ wy ∧ wy < 8 ∧ 0 ≤ jj ∧ jj < R.length ∧ Bx (BA b l) H3 H2 ∧ Bo H2 b l)
    (fun Q' q' => (es_takeI (K := K) (b := b) (l := l) (n := 8) rfl (by decide)).use b3 fun v d H1 e1 b1 pd id dv => by
      obtain ⟨n, rfl, h1, h2⟩ := pd
      cases dp_int dv
      exact q' _ _ ⟨n, rfl, h1, h2, e1, b1⟩)
    (fun v H4 h Q' q' => by
      obtain ⟨wy, rfl, h1, h2, e4, b4⟩ := h
      exact (es_take (K := K) (R := InR R.length) (n := 0) (p := (· = (R.length : Int))) rfl ((es_of (fun H5 e5 _ => (ed_lenL (ed_var rfl (lvr3.bx (e4.trans e5) nvr (imms_eV R)).dp)).is (by rw [List.length_map])) rfl).imp fun d h => ⟨_, h, rfl⟩) (fun n h => by subst h; omega) (fun n i h h0 h1 => ⟨i, rfl, h0, by rw [← h]; exact h1⟩)).use b4 fun w d H5 e5 b5 pd id dw => by
        obtain ⟨jj, rfl, h3, h4⟩ := pd
        cases dp_int dw
        exact q' _ _ ⟨wy, jj, rfl, rfl, h1, h2, h3, h4, e4.trans e5, b5⟩) fun v w H4 h => ?_
  obtain ⟨wy, jj, rfl, rfl, hw0, hw8, hj0, hjR, e4, b4⟩ := h
  obtain ⟨j, rfl⟩ : ∃ j : Nat, jj = j := ⟨jj.toNat, (Int.toNat_of_nonneg hj0).symm⟩
  have e04 := e03.trans e4
  have lvr4 := lvr3.bx e4 nvr (imms_eV R)
  have hv : R[j]? = some R[j] := List.getElem?_eq_getElem (by omega)
  generalize R[j] = v at hv
  have hvo := hRm.2 v (List.mem_of_getElem? hv)
  have hvat : atI (R.map eV) (j : Int) = some (eV v) := atI_nat (by rw [List.getElem?_map, hv]; rfl)
  refine q_asgL (K := K) (ds := (odds k B.length).map eI) (el_lst (ea_cons ed_str (ea_cons ed_str (ea_cons ed_str (ea_cons ed_str (ea_cons (ed_neg ed_int) (ea_cons ed_int (ea_cons (ed_var rfl (.int k)) (ea_cons ((ed_lenT (ed_var rfl (hbk e04))).is (by rw [List.length_map]; rfl)) (ea_cons (ed_add (ed_var rfl (.int k)) ed_int) (ea_cons ed_str ea_nil)))))))))) (by simp [odds])) fun od H5 hod e5 lod => ?_
  have b5 := b4.ex e5
  have e05 := e04.trans (Bx.of e5)
  have lvr5 := lvr4.ex e5
  have nod := b4.fresh hod
  have hvo2 : vr ≠ od := lvr4.ne hod
  let v2 : List Key := if v = [] then [.inr ""] else v
  have hv2 : 1 ≤ v2.length ∧ okVs v2 := by
    show 1 ≤ (if v = [] then [.inr ""] else v : List Key).length ∧ okVs (if v = [] then [.inr ""] else v)
    by_cases hz : v = []
    · rw [if_pos hz]
      refine ⟨by simp, by simp, fun x hx => ?_⟩
      simp at hx
      subst hx
      exact ⟨by decide +kernel, by decide +kernel⟩
    · rw [if_neg hz]
      refine ⟨?_, hvo⟩
      cases v with
      | nil => exact absurd rfl hz
      | cons _ _ => simp
  refine q_asgL (K := K) (ds := v2.map eI) ((el_cat (ds := v.map eI) (el_listT (ed_ixL (d := eV v) (ed_var rfl lvr5.dp) (ed_var rfl (.int j)) hvat)) (el_rep2 (n := if v.isEmpty = true then 1 else 0) (el_lst (ea_cons ed_str ea_nil) (by simp)) (ed_intb ((ed_eqD (ed_ixL (d := eV v) (ed_var rfl lvr5.dp) (ed_var rfl (.int j)) hvat) (ed_tup ea_nil (by simp)) (shaped_eV hvo.2) (by decide)).is (by rw [eqv_tup]))) (by split <;> omega) (by split <;> decide)) (imms_eI v) ?_).is ?_) fun it H6 hit e6 lit => ?_
  · have := hvo.1
    split <;> simp <;> omega
  · show _ = (if v = [] then [.inr ""] else v : List Key).map eI
    cases v with
    | nil => simp [eI]
    | cons x v => simp
  have b6 := b5.ex e6
  have e06 := e05.trans (Bx.of e6)
  have nit := b5.fresh hit
  have hvi : vr ≠ it := lvr5.ne hit
  have hoi : od ≠ it := lod.ne hit
  have hit0 := Bo.back e05 b5 hit
  have lvr6 := lvr5.ex e6
  have hl2 := hv2.2.1
  refine u_setL (K := K) (b := b) (l := l) (P := (· ∈ (odds k B.length).map eI)) (n := (v2.length : Int)) lit (imms_eI v2) nit rfl (es_ixLi (K := K) rfl (lod.ex e6) (imms_eI _) nod (es_takeC rfl (by decide)) (by simp [odds])) (fun H1 e1 => es_take (R := InR v2.length) (n := 0) (p := (· = (v2.length : Int))) rfl ((es_of (fun H5 e5 _ => (ed_lenL (ed_var rfl (lit.bx (e1.trans e5) nit (imms_eI v2)).dp)).is (by rw [List.length_map])) rfl).imp fun d h => ⟨_, h, rfl⟩) (fun n h => by subst h; omega) (fun n i h h0 h1 => ⟨i, rfl, h0, by rw [← h]; exact h1⟩)) b6 (by simp) fun d jn H7 e7 b7 pd id hjn H8 e8 b8 lit8 => ?_
  obtain ⟨x, hx, rfl⟩ := List.mem_map.mp pd
  rw [← List.map_set] at lit8
  have hv3 : okVs (v2.set jn x) := by
    refine ⟨by rw [List.length_set]; exact hl2, fun y hy => ?_⟩
    rcases List.mem_or_eq_of_mem_set hy with z | z
    · exact hv2.2.2 y z
    · subst z; exact odds_small y hx
  generalize v2.set jn x = v3 at lit8 hv3
  have e08 := (e06.trans e7).own e8 hit0
  have lvr8 := (lvr6.bx e7 nvr (imms_eV R)).bx e8 hvi (imms_eV R)
  have okSet : ∀ v' : List Key, okVs v' → (R.set j v').length ≤ 5 * m ∧ ∀ u ∈ R.set j v', okVs u := fun v' h' => ⟨by rw [List.length_set]; omega, fun u hu => by
    rcases List.mem_or_eq_of_mem_set hu with z | z
    · exact hRm.2 u z
    · subst z; exact h'⟩
  refine q_cut (M := fun σ' H' => ∃ (vr' : Addr) (R' : List (List Key)), σ' = [some (.ref b), some vb, some (.int k), some (.ref vr'), some (.int wy), some (.int j), some (.ref od), some (.ref it)] ∧ Bx (BA b l) H H' ∧ Bo H' b l ∧ Li K H' vr' (R'.map eV) ∧ R'.length ≤ 5 * m ∧ ∀ u ∈ R', okVs u) (w_if (et_test (K := K) (ed_lt (ed_var rfl (.int wy)) ed_int)) (fun hw H9 e9 => ?_) fun hw H9 e9 => ?_) fun σ' H9 p => ?_
  · refine w_setL (K := K) (d := eV v3) (j := j) (lvr8.ex e9) (imms_eV R) rfl (ed_tupleL (ed_var rfl (lit8.ex e9).dp)) (imm_eV v3) (ed_var rfl (.int j)) (by rw [List.length_map]; omega) fun H10 e10 H11 e11 l11 => ?_
    rw [← List.map_set] at l11
    have := okSet v3 hv3
    have e011 := ((e08.trans (Bx.of (e9.trans e10))).own e11 hvr0)
    exact ⟨vr, _, rfl, e011, ((b8.ex e9).ex e10).bx e11 (fun z => nvr (.inl z.symm)) (fun z => nvr (.inr z.symm)), l11, this.1, this.2⟩
  · refine w_if (et_test (ed_eqI (ed_var rfl (.int wy)) ed_int)) (fun hw H10 e10 => ?_) fun hw2 H10 e10 => ?_
    · have b10 := (b8.ex e9).ex e10
      have l10 := (lvr8.ex e9).ex e10
      refine v_setL (K := K) (b := b) (l := l) (P := fun d => ∃ v', d = eV v' ∧ okVs v') (n := (R.length : Int)) l10 (imms_eV R) nvr rfl ((es_ixLst (ds := [eV [], eV (aaa 7), eV (aaa 6)]) (fun H1 => ea_cons (ed_tup ea_nil (by simp)) (ea_cons ((ed_repT (n := 7) (ed_tup (ea_cons ed_str ea_nil) (by simp)) ed_int (by simp) (by omega) (by simp)).is (by simp [eV, aaa, eI])) (ea_cons ((ed_repT (n := 6) (ed_tup (ea_cons ed_str ea_nil) (by simp)) ed_int (by simp) (by omega) (by simp)).is (by simp [eV, aaa, eI])) ea_nil))) (by simp) (by simp [imms, imm_eV]) (es_takeC rfl (by decide)) (by simp)).imp fun d hd => ?_) (fun H1 e1 => (es_varI (K := K) rfl).imp fun d hd => ?_) b10 (by simp) fun d jn H11 e11 b11 pd id hjn H12 e12 b12 l12 => ?_
      · simp only [List.mem_cons, List.not_mem_nil, or_false] at hd
        rcases hd with rfl | rfl | rfl
        · exact ⟨_, rfl, okVs_nil⟩
        · exact ⟨_, rfl, aaa_ok (by omega)⟩
        · exact ⟨_, rfl, aaa_ok (by omega)⟩
      · obtain ⟨i, rfl, rfl⟩ := hd
        exact ⟨_, rfl, by omega, by omega⟩
      · obtain ⟨v', rfl, hv'⟩ := pd
        rw [← List.map_set] at l12
        refine ⟨vr, _, rfl, (((e08.trans (Bx.of (e9.trans e10))).trans e11).own e12 hvr0), b12, l12, by rw [List.length_set]; omega, fun u hu => ?_⟩
        rcases List.mem_or_eq_of_mem_set hu with z | z
        · exact hRm.2 u z
        · subst z; exact hv'
    · have l10 := (lvr8.ex e9).ex e10
      have b10 := (b8.ex e9).ex e10
      have e010 := e08.trans (Bx.of (e9.trans e10))
      have hw5 : 5 ≤ wy := by
        simp only [decide_eq_false_iff_not] at hw hw2
        omega
      refine w_pick3 (K := K) (i := wy - 5) (el_lst ea_nil (by simp)) (el_repV (n := 5) rfl l10 ed_int (by omega) (by simp; omega)) (el_slHi (n := 1) (ds := R.map eV) (ed_var rfl l10.dp) ed_int (by simp; omega)) (ed_sub (ed_var rfl (.int wy)) ed_int) (by omega) fun p H11 hp e11 g1 g2 g3 => ?_
      have rep5 : (List.replicate (5 : Int).toNat (R.map eV)).flatten = (List.replicate 5 R).flatten.map eV := by
        rw [List.map_flatten, List.map_replicate]
        rfl
      have ok5 : ∀ u ∈ (List.replicate 5 R).flatten, okVs u := fun u hu => by
        obtain ⟨L, hL, hu2⟩ := List.mem_flatten.mp hu
        rw [List.eq_of_mem_replicate hL] at hu2
        exact hRm.2 u hu2
      rw [rep5] at g2
      rw [← List.map_take] at g3
      have ee := e010.trans (Bx.of e11)
      have bb := b10.ex e11
      have h3 : wy = 5 ∨ wy = 6 ∨ wy = 7 := by omega
      rcases h3 with h3 | h3 | h3
      · exact ⟨p, [], rfl, ee, bb, g1 (by omega), by simp, by simp⟩
      · exact ⟨p, _, rfl, ee, bb, g2 (by omega), by simp; omega, ok5⟩
      · exact ⟨p, _, rfl, ee, bb, g3 (by omega), by simp; omega, fun u hu => hRm.2 u (List.mem_of_mem_take hu)⟩
  · obtain ⟨vr', R', rfl, e09, b9, l9, hR'l, hR'o⟩ := p
    have hkN : ((k : Nat) : Int) = k := rfl
    refine w_ret (K := K) ((ed_catT (ds := (B.map eR).take k ++ [eR R']) (es := (B.map eR).drop (k + 1)) (ed_catT (ed_slHi (ds := B.map eR) (n := k) (ed_var rfl (hbk e09)) (ed_var rfl (.int k)) (by rw [List.length_map]; omega)) (ed_tup (ea_cons (ed_tupleL (ed_var rfl l9.dp)) ea_nil) (by simp)) (by simp; omega)) (ed_slLo (ds := B.map eR) (n := k + 1) (ed_var rfl (hbk e09)) ((ed_add (ed_var rfl (.int k)) ed_int).is (by simp)) (by rw [List.length_map]; omega)) (by simp; omega)).is (d' := eB (B.set k R')) ?_) fun v H10 e10 dv => q (B.set k R') v H10 (hD.set (by omega) hR'l hR'o k) (e09.trans (Bx.of e10)) (b9.ex e10) dv
    unfold eB
    rw [← List.map_take, ← List.map_drop, List.set_eq_take_append_cons_drop, if_pos hk, List.map_append, List.map_cons, List.append_assoc]
    rfl
end
end K01
set_option Elab.async false
set_option linter.all false
set_option maxRecDepth 100000
set_option maxHeartbeats 1000000
/-! what stays when a lambda is made -/
namespace SB
open PySem PySem.Spec PyProof.Rows L2 Evl LamX
mutual
theorem dp_n {K : PySem.W.Frag} {H H' : Hp} (e : ExtN H H') : ∀ {d : PyData} {v : V}, Dp K H v d → Dp K H' v d
  | .none, _, h => by cases h; exact .non
  | .bool b, _, h => by cases h; exact .bl b
  | .int i, _, h => by cases h; exact .int i
  | .str x, _, h => by cases h; exact .str x
  | .list ds, _, h => by
    cases h with
    | lst a b =>
      refine .lst ?_ (dps_n e b)
      rcases a with (a | ⟨o, a⟩) | a
      · exact .inl (.inl (e _ _ a fun ps z => by cases z))
      · exact .inl (.inr ⟨o, e _ _ a fun ps z => by cases z⟩)
      · exact .inr a
  | .tuple ds, _, h => by
    cases h with
    | tup a b =>
      refine .tup ?_ (dps_n e b)
      rcases a with (a | ⟨o, a⟩) | a
      · exact .inl (.inl (e _ _ a fun ps z => by cases z))
      · exact .inl (.inr ⟨o, e _ _ a fun ps z => by cases z⟩)
      · exact .inr a
  | .dict _, _, h => by cases h
theorem dps_n {K : PySem.W.Frag} {H H' : Hp} (e : ExtN H H') : ∀ {ds : List PyData} {vs : List V}, DpAll K H vs ds → DpAll K H' vs ds
  | [], _, h => by cases h; exact .nil
  | d :: ds, _, h => by cases h with | cons a b => exact .cons (dp_n e a) (dps_n e b)
end
section
variable {K : PySem.W.Frag} {H H' : Hp} {b l : Addr} {T : List (Addr × Str)}
theorem Bo.n (e : ExtN H H') (h : Bo H b l) : Bo H' b l := let ⟨h1, xs, s, h2, h3⟩ := h; ⟨h1, xs, s, e _ _ h2 (fun ps z => by cases z), e _ _ h3 (fun ps z => by cases z)⟩
theorem tabs_ex (e : Ex H H') (t : Tabs T H) : Tabs T H' := t.ext e
theorem tabs_bx (e : Bx (BA b l) H H') (bo : Bo H b l) (t : Tabs T H) : Tabs T H' := fun p hp => by
  obtain ⟨ps, h1, h2, h3⟩ := t p hp
  obtain ⟨_, xs, s, hb, hl⟩ := bo
  have ne : ∀ {a : Addr} {o : HO}, H a = some o → (∀ ys, o ≠ .lst ys) → ¬ BA b l a := fun h n z => by
    rcases z with rfl | rfl
    · rw [hb] at h; exact n _ (Option.some.inj h).symm
    · rw [hl] at h; exact n _ (Option.some.inj h).symm
  refine ⟨ps, e.2 _ _ (ne h1 fun ys z => by cases z) h1, h2, fun pos cv hc => ?_⟩
  obtain ⟨c, e1, e2⟩ := h3 pos cv hc
  exact ⟨c, e1, e.2 _ _ (ne e2 fun ys z => by unfold CodeO at z; cases z) e2⟩
variable {σ : L2.St} {te ta tb : TE} {t : TT} {tu tw : TS} {D : Ends} {P : PyData → Prop} {TT' : (XK → Hp → VK → Prop) → Hp → VK → Prop} {t1 t2 : XK → TE} {d1 d2 : PyData}
theorem vw_asg {i : Nat} (h : Es K b l te σ H P) (hb : Bo H b l) (k : ∀ v d H1, Bx (BA b l) H H1 → Bo H1 b l → P d → imm d = true → Dp K H1 v d → D.nx (σ.set i (some v)) H1) : tAsg te (gName i) D σ H := h.use hb k
theorem v_if {G : Bool → Prop} (h : Est b l t σ H G) (hb : Bo H b l) (h1 : G true → ∀ H1, Bx (BA b l) H H1 → Bo H1 b l → tu D σ H1) (h2 : G false → ∀ H1, Bx (BA b l) H H1 → Bo H1 b l → tw D σ H1) : tIfS t tu tw D σ H := h H Bx.refl hb _ fun k H1 e1 b1 g => by
  cases k with
  | true => rw [if_pos rfl]; exact h1 g H1 e1 b1
  | false => rw [if_neg (by decide)]; exact h2 g H1 e1 b1
/-- [f(lambda: ..), f(lambda: ..)] -/
theorem two_lam (hT : Tabs T H) (h1 : ∀ H1, ExtN H H1 → Tabs T H1 → ∀ Q : VK, (∀ v H2, Ex H1 H2 → Dp K H2 v d1 → Q v H2) → TT' (fun E H' Q' => t1 E σ H' Q') H1 Q)
    (h2 : ∀ H1, ExtN H H1 → Tabs T H1 → ∀ Q : VK, (∀ v H2, Ex H1 H2 → Dp K H2 v d2 → Q v H2) → TT' (fun E H' Q' => t2 E σ H' Q') H1 Q) {Q : VK} (q : ∀ p H', ExtN H H' → Tabs T H' → Dp K H' (.ref p) (.list [d1, d2]) → Q (.ref p) H') :
    tLst (tCons (tLam T TT' t1) (tCons (tLam T TT' t2) tNil)) σ H Q :=
  ⟨hT, fun H1 n1 T1 => h1 H1 n1 T1 _ fun v1 H2 e2 dv1 => ⟨T1.ext e2, fun H3 n3 T3 => h2 H3 (n1.trans ((ExtN.of e2).trans n3)) T3 _ fun v2 H4 e4 dv2 => ⟨sz_of (by simp), fun p hp => by
    have e5 : Ex H4 (upd H4 p (.lst [v1, v2])) := Ex.new hp
    exact q p _ (n1.trans ((ExtN.of e2).trans (n3.trans (ExtN.of (e4.trans e5))))) (T3.ext (e4.trans e5)) (.lst (sq_of upd_same) (.cons (dp_ex (e4.trans e5) (dp_n n3 dv1)) (.cons (dp_ex e5 dv2) .nil)))⟩⟩⟩
theorem q_two {i : Nat} {tz : TS} (hT : Tabs T H) (h1 : ∀ H1, ExtN H H1 → Tabs T H1 → ∀ Q : VK, (∀ v H2, Ex H1 H2 → Dp K H2 v d1 → Q v H2) → TT' (fun E H' Q' => t1 E σ H' Q') H1 Q)
    (h2 : ∀ H1, ExtN H H1 → Tabs T H1 → ∀ Q : VK, (∀ v H2, Ex H1 H2 → Dp K H2 v d2 → Q v H2) → TT' (fun E H' Q' => t2 E σ H' Q') H1 Q) (q : ∀ p H', ExtN H H' → Tabs T H' → Dp K H' (.ref p) (.list [d1, d2]) → tz D (σ.set i (some (.ref p))) H') :
    tSeq (tAsg (tLst (tCons (tLam T TT' t1) (tCons (tLam T TT' t2) tNil))) (gName i)) tz D σ H := two_lam (Q := fun v H1 => tz D (σ.set i (some v)) H1) hT h1 h2 q
/-- a call that gives a new list or raises -/
theorem w_callXF {mg : Str → Option Value} {ta : TA} {ds : List PyData} {n : Nat} {P : List PyData → Except Err (List PyData) → Prop} {o : Except Err (List PyData)} {E : XK} {Q : VK} (h : Ea K ta σ H ds) (hp : P ds o) (hn : ds.length = n)
    (k1 : ∀ es, o = .ok es → ∀ p H1, Ex H H1 → Li K H1 p es → Q (.ref p) H1) (k2 : ∀ er, o = .error er → ∀ cls dd H1, Ex H H1 → ErrAt mg er cls dd H1 → E cls dd H1) : tCall (spXF K mg n P) [] E ta σ H Q :=
  h H (Ex.refl H) _ fun vs H1 e1 dvs => by
    rw [List.append_nil]
    exact ⟨(dpall_len dvs).trans hn, ds, o, dvs, hp, fun es hd p H2 _ e2 l => k1 es hd p H2 (e1.trans e2) l, fun er he cls dd H2 e2 hE => k2 er he cls dd H2 (e1.trans e2) hE⟩
end
end SB
set_option Elab.async false
set_option linter.all false
set_option maxRecDepth 100000
namespace K01
open PySem PySem.Spec PyProof.Rows L2 SB C8
open Evl (Ex fresh_back sq_of st_of sz_of)
abbrev s_law : Stmt := topS 40
theorem sc_law : FnScope ["_law_script", "_law_box", "_law_turn", "_law_book_here", "_law_change", "_law_error", "_law_expected", "_law_once", "_law_found"] ["_law_script"] (fnScope s_law) := fnScope_by (by decide +kernel)
theorem sc_law_result : FnScope ["_law_call", "e", "_law_kinds", "_law_name"] ["_law_call"] (fnScope s_law_result) := fnScope_by (by decide +kernel)
abbrev qL : Str := ("law" : Str) ++ (".<locals>." : Str) ++ ("<lambda>" : Str)
abbrev sp_law (K : PySem.W.Frag) (PT : Addr) : Sp := fun vs H Q _ => vs.length = 1 ∧ ∃ x, vs = [x] ∧ ∃ xs : List Int, Dp K H x (.list (xs.map .int)) ∧ xs.length ≤ 1000 ∧ H PT = some (.tbl #[]) ∧ ∀ H2, Q (.bl true) H2
def errT (r v : Int) : PyData := .tuple [.str "BadBook", .int r, .int v]
def r1 (B : Book) : PyData := match defB B with
  | none => .tuple [.tuple (List.replicate B.length (.int 0)), .tuple []]
  | some (r, v) => errT r v
def r2 (B : Book) : PyData := match defB B with
  | none => .list ((reach B).map .int)
  | some (r, v) => errT r v
theorem alk_int {n : Nat} (i : Int) : alk (n + 1) (.int i) := trivial
theorem alk_err {n : Nat} (r v : Int) : alk (n + 2) (errT r v) := ⟨by simp, fun d hd => by
  simp only [List.mem_cons, List.not_mem_nil, or_false] at hd
  rcases hd with rfl | rfl | rfl <;> exact trivial⟩
theorem alk_ints {n : Nat} {xs : List Int} (h : xs.length ≤ 100000) : alk (n + 2) (.list (xs.map .int)) := ⟨by simpa using h, fun d hd => by
  obtain ⟨x, _, rfl⟩ := List.mem_map.mp hd
  exact trivial⟩
theorem reach_le (B : Book) : (reach B).length ≤ B.length := by
  unfold reach
  refine Nat.le_trans (List.length_filter_le _ _) ?_
  simp
theorem alk_exp {B : Book} (hB : SmB B) : alk 4 (.list [r1 B, r2 B]) := by
  have hl := hB.len
  have hr := reach_le B
  refine ⟨by simp, fun d hd => ?_⟩
  simp only [List.mem_cons, List.not_mem_nil, or_false] at hd
  rcases hd with rfl | rfl
  · unfold r1
    split
    · refine ⟨by simp, fun d hd => ?_⟩
      simp only [List.mem_cons, List.not_mem_nil, or_false] at hd
      rcases hd with rfl | rfl
      · refine ⟨by simp; omega, fun d hd => ?_⟩
        rw [List.eq_of_mem_replicate hd]
        exact trivial
      · exact ⟨by simp, by simp⟩
    · exact alk_err _ _
  · unfold r2
    split
    · exact alk_ints (by omega)
    · exact alk_err _ _
theorem sign_le {c : Nat} (h : (!decide ([c] < ([97] : List Nat)) && !decide (([122] : List Nat) < [c])) = true) : c ≤ 122 := by
  simp only [Bool.and_eq_true, Bool.not_eq_true', decide_eq_false_iff_not] at h
  by_cases hc : c ≤ 122
  · exact hc
  · exact absurd (List.Lex.rel (by omega)) h.2
theorem goodW_small {x : Str} (h : goodW x = true) : smallK (.inr x) := by
  unfold goodW at h
  simp only [Bool.and_eq_true, decide_eq_true_eq] at h
  refine ⟨by omega, ?_⟩
  unfold PyData.strOk
  rw [Array.all_eq_true']
  intro c hc
  have := List.all_eq_true.mp h.2 _ (List.mem_map_of_mem (f := fun c => !decide ([c] < ([97] : List Nat)) && !decide (([122] : List Nat) < [c])) (show c ∈ x.cps.toList by simpa using hc))
  have := sign_le this
  simp only [decide_eq_true_eq]
  omega
theorem good_dm {B : Book} (h : Good B) (hl : B.length ≤ 9) : Dm 4 B := by
  refine ⟨h.ne, hl, fun R hR => ?_⟩
  obtain ⟨i, hi⟩ := List.mem_iff_getElem?.mp hR
  obtain ⟨_, _, h4, hv⟩ := h.r i R hi
  refine ⟨h4, fun v hvm => ?_⟩
  have hg := goodV_it (hv v hvm)
  refine ⟨by omega, fun x hx => ?_⟩
  have := hg.2.2 x hx
  cases x with
  | inl i => exact trivial
  | inr w => exact goodW_small this
def book1 (n : Nat) : Book := List.replicate n [[.inr "a"]]
theorem book1_sm {n : Nat} (h : n ≤ 61) : SmB (book1 n) := by
  refine ⟨by simp [book1]; omega, fun R hR => ?_⟩
  rw [List.eq_of_mem_replicate hR]
  refine ⟨by simp, fun v hv => ?_⟩
  simp at hv
  subst hv
  refine ⟨by simp, fun x hx => ?_⟩
  simp at hx
  subst hx
  exact ⟨by decide +kernel, by decide +kernel⟩
theorem nil_sm : SmB [] := ⟨by simp, by simp⟩
section
variable {P : Program} {w : World} {K : PySem.W.Frag} {mg : Str → Option Value} {base : Heap} {C0 C1 C2 C3 C4 C5 C6 C7 C8 S : Addr}
theorem ok_law {f c PT fR : Addr} {oc : Value} {od : Option Addr} {dV kV doc pm ct : Value} {an : Option Addr} {osl : Array (Option Value)} {fdR : FuncData}
    (lk : K.lookup f = some ⟨oc, od, .func (PySem.W.fnOf "law" "law" (fnParams s_law) (fnBody s_law) (fnScope s_law) dV kV doc pm an (.ref c) ct), osl⟩) (hcd : PySem.W.codeIn K (.ref c) "law" = true) (TB : LamX.TabB base mg c PT)
    (FR : Def K mg "_law_result" s_law_result fR fdR) (bR : L2.Binds K fdR ["_law_call"] [])
    (m_range : mg "range" = none) (m_len : mg "len" = none) (m_isinstance : mg "isinstance" = none) (m_ValueError : mg "ValueError" = none) (k_Song : mg "SongError" = some (.ref S))
    (k_BadBook : mg "BadBook" = some (.ref C0)) (k_BadCertificate : mg "BadCertificate" = some (.ref C1)) (k_BadCount : mg "BadCount" = some (.ref C2)) (k_BadRefrain : mg "BadRefrain" = some (.ref C3)) (k_BadState : mg "BadState" = some (.ref C4))
    (k_BadTurns : mg "BadTurns" = some (.ref C5)) (k_RefrainBusy : mg "RefrainBusy" = some (.ref C6)) (k_TooManyCandidates : mg "TooManyCandidates" = some (.ref C7)) (k_TooManyWords : mg "TooManyWords" = some (.ref C8))
    (TF : XfC K C0) (nf_refrain : PySem.W.findIn K (.ref C0) "refrain" = some none) (nf_verse : PySem.W.findIn K (.ref C0) "verse" = some none) (h9_0 : Own9 K [C0, C1, C2, C3, C4, C5, C6, C7, C8] S 0 C0)
    (f_law_begun : Cal P w K mg base 1 "_law_begun" (sp_law_begun K) []) (f_law_book : Cal P w K mg base 2 "_law_book" (sp_law_book K) []) (f_law_take : Cal P w K mg base 1 "_law_take" (sp_law_take K) []) (f_law_damaged : Cal P w K mg base 2 "_law_damaged" (sp_law_damaged K) [])
    (f_law_defect : Cal P w K mg base 1 "_law_defect" (sp_law_defect K) []) (f_law_reached : Cal P w K mg base 1 "_law_reached" (sp_law_reached K) []) (f_law_alike : Cal P w K mg base 4 "_law_alike" (sp_law_alike K 4) [])
    (f_reachable_refrains : CalX P w K mg base 7 "reachable_refrains" (sp_reachable_refrains K mg) []) (f_initial_state : CalX P w K mg base 7 "initial_state" (sp_initial_state K mg) []) :
    FnOk P w K mg base _root_.C8.CX0 10 f (PySem.W.fnOf "law" "law" (fnParams s_law) (fnBody s_law) (fnScope s_law) dV kV doc pm an (.ref c) ct) ["_law_script"] (sp_law K PT) := by
  obtain ⟨ocR, odR, dVR, kVR, docR, pmR, anR, cdvR, ctR, oslR, rfl, lkR, hcdR⟩ := FR.fn.ex
  refine fn_of (N := ["_law_script", "_law_box", "_law_turn", "_law_book_here", "_law_change", "_law_error", "_law_expected", "_law_once", "_law_found"]) lk hcd sc_law (fun vs H Q E h => h.1) fun A outer s H vs Q E hr h => ?_
  have ndX := sc_law.nd
  obtain ⟨_, x, rfl, xs, hx, hlen, hPT, q⟩ := h
  refine ⟨_, PSs.nox (pss_cons (ps_set (i := 1) ndX rfl (.inl rfl) (pe_c f_law_begun hr (by decide) (by rfl) (pa_cons (pv 0) pa_nil)))
      (pss_cons (ps_for PassesOwn.never rfl (pi_range1 rfl m_range (pa_cons pe_int pa_nil)) (pg_name (i := 2) ndX rfl (.inl rfl))
        (pss_cons (ps_set (i := 3) ndX rfl (.inr rfl) (pe_c f_law_book hr (by decide) (by rfl) (pa_cons (pv 1) (pa_cons pe_int pa_nil))))
        (pss_cons (ps_for PassesOwn.never rfl (pi_range1 rfl m_range (pa_cons (pe_c f_law_take hr (by decide) (by rfl) (pa_cons (pv 1) (pa_cons pe_int pa_nil))) pa_nil)) (pg_name (i := 4) ndX rfl (.inl rfl))
          (pss_one (ps_set (i := 3) ndX rfl (.inr rfl) (pe_c f_law_damaged hr (by decide) (by rfl) (pa_cons (pv 1) (pa_cons (pv 3) pa_nil))))))
        (pss_cut (ps_if (pt_cmpR (k_eq (K := K) rfl hr.units) (pe_c f_law_take hr (by decide) (by rfl) (pa_cons (pv 1) (pa_cons pe_int pa_nil))) pe_int (nomark _))
          (pss_one (ps_set (i := 3) ndX rfl (.inr rfl) (pe_ix (k_ix (K := K) rfl) (pe_lst (pa_cons (pe_tup pa_nil) (pa_cons (pe_op (k_mul2 (K := K) rfl) (pe_tup (pa_cons (pe_tup (pa_cons (pe_tup (pa_cons pe_str pa_nil)) pa_nil)) pa_nil)) (pe_op (k_add (K := K) rfl) pe_int (pe_c f_law_take hr (by decide) (by rfl) (pa_cons (pv 1) (pa_cons pe_int pa_nil))))) pa_nil))) (pe_c f_law_take hr (by decide) (by rfl) (pa_cons (pv 1) (pa_cons pe_int pa_nil))) (fun _ _ => rfl)))) pss_nil)
        (pss_cons (ps_set (i := 5) ndX rfl (.inl rfl) (pe_c f_law_defect hr (by decide) (by rfl) (pa_cons (pv 3) pa_nil)))
        (pss_cons (ps_set (i := 6) ndX rfl (.inl rfl) (pe_ifExp (pt_cmpR op_notN (pv 5) pe_non (nomark _)) (pe_lst (pa_cons (pv 5) (pa_cons (pv 5) pa_nil))) (pe_lst (pa_cons (pe_tup (pa_cons (pe_op (k_mul2 (K := K) rfl) (pe_tup (pa_cons pe_int pa_nil)) (pe_callB (k_len (K := K) rfl) (by rfl) m_len (by decide +kernel) (pa_cons (pv 3) pa_nil))) (pa_cons (pe_tup pa_nil) pa_nil))) (pa_cons (pe_c f_law_reached hr (by decide) (by rfl) (pa_cons (pv 3) pa_nil)) pa_nil)))))
        (pss_one (ps_for PassesOwn.never rfl (pi_range1 rfl m_range (pa_cons pe_int pa_nil)) (pg_name (i := 7) ndX rfl (.inl rfl))
          (pss_cons (ps_set (i := 8) ndX rfl (.inl rfl) (pe_lst (pa_cons (LamX.pe_lamcall (k := 7) (T := [(PT, qL)]) (by rfl) FR.mgf FR.kp lkR hcdR bR sc_law_result rfl (.inl rfl) (gives_result rfl rfl m_isinstance m_ValueError k_Song k_BadBook k_BadCertificate k_BadCount k_BadRefrain k_BadState k_BadTurns k_RefrainBusy k_TooManyCandidates k_TooManyWords TF nf_refrain nf_verse) TB rfl (List.mem_singleton.mpr rfl) (fun p hp _ => by rw [List.mem_singleton.mp hp]; rfl) (hr.mono (by decide)) (LamX.lamS_by (sc := fnScope s_law) (by decide +kernel)) (by rfl) (fun _ _ _ _ _ => by rfl) (fun A outer s H E f c2 hr2 => (pe_cX f_initial_state hr2 (by decide) (takes_of rfl rfl rfl rfl) (by rfl) (pa_cons (pv 3) pa_nil)))) (pa_cons (LamD.pe_lamcallD (k := 7) (T := [(PT, qL)]) (a1 := "_law_a") (by rfl) FR.mgf FR.kp lkR hcdR bR sc_law_result rfl (.inl rfl) (gives_result rfl rfl m_isinstance m_ValueError k_Song k_BadBook k_BadCertificate k_BadCount k_BadRefrain k_BadState k_BadTurns k_RefrainBusy k_TooManyCandidates k_TooManyWords TF nf_refrain nf_verse) TB rfl (List.mem_singleton.mpr rfl) (fun p hp _ => by rw [List.mem_singleton.mp hp]; rfl) (hr.mono (by decide)) (LamD.sc_by (N := ["_law_script", "_law_box", "_law_turn", "_law_book_here", "_law_change", "_law_error", "_law_expected", "_law_once", "_law_found"]) (sc := fnScope s_law) (by decide +kernel)) rfl rfl rfl pe_int (by decide +kernel) (fun _ _ _ _ _ _ _ _ => ⟨_, rfl, rfl⟩) (fun A outer s H E f c2 hr2 => (pe_cX f_reachable_refrains hr2 (by decide) (takes_of rfl rfl rfl rfl) (by rfl) (pa_cons (pv 3) pa_nil)))) pa_nil))))
          (pss_one (ps_if (pt_not (pt_truthK (K := K) rfl (pe_c f_law_alike hr (by decide) (by rfl) (pa_cons (pv 8) (pa_cons (pv 6) pa_nil))) (by intro _; rfl)))
            (pss_one (ps_ret pe_bl)) pss_nil)))))))))))
      (pss_one (ps_ret pe_bl)))), ?_⟩
  let T0 : List (Addr × Str) := [(PT, qL)]
  have hT0 : LamX.Tabs T0 H := fun p hp => by
    rw [List.mem_singleton.mp hp]
    exact LamX.TabS.nil hPT
  refine ⟨_, rfl, rfl, x, rfl, xs, hx, hlen, fun b l H1 hb0 hl0 e1 bo1 => ?_⟩
  have T1 := tabs_ex e1 hT0
  refine u_range (K := K) (b := b) (l := l) (p := (· = 6)) es_intI bo1 (fun n h => by omega) (fun _ i σ' H' => (∃ y2 y3 y4 y5 y6 y7 y8, σ' = [some x, some (.ref b), y2, y3, y4, y5, y6, y7, y8]) ∧ Bo H' b l ∧ LamX.Tabs T0 H')
    (fun n H2 hn e2 b2 => ⟨⟨_, _, _, _, _, _, _, rfl⟩, b2, tabs_bx e2 bo1 T1⟩) (fun n6 i σ' H2 hn6 hi p => ?_) fun n6 σ' H2 hn6 p => w_ret (K := K) ed_bl fun v H3 e3 dv => by cases dp_bl dv; exact q _
  obtain ⟨⟨y2, y3, y4, y5, y6, y7, y8, rfl⟩, b2, T2⟩ := p
  refine ⟨_, rfl, rfl, b, l, 9, rfl, b2, by omega, by omega, fun B0 v0 H3 hG hlB e3 b3 dv0 => ?_⟩
  have T3 := tabs_bx e3 b2 T2
  refine u_range (K := K) (b := b) (l := l) (p := fun n => 0 ≤ n ∧ n < 3) (es_takeI rfl (by decide)) b3 (fun n h => by omega) (fun _ j σ' H' => ∃ (B : Book) (v : V) (y2 y4 y5 y6 y7 y8 : Option V), σ' = [some x, some (.ref b), y2, some v, y4, y5, y6, y7, y8] ∧ Dp K H' v (eB B) ∧ Dm (4 * 5 ^ j) B ∧ Bo H' b l ∧ LamX.Tabs T0 H')
    (fun n H4 hn e4 b4 => ⟨B0, v0, _, _, _, _, _, _, rfl, dp_tx e4.1 (imm_eB B0) dv0, good_dm hG (by omega), b4, tabs_bx e4 b3 T3⟩) (fun n j σ' H4 hn hj p => ?_) fun n σ' H4 hn p => ?_
  · obtain ⟨B, v, y2, y4, y5, y6, y7, y8, rfl, dv, hD, b4, T4⟩ := p
    have hj2 : j = 0 ∨ j = 1 := by omega
    refine ⟨_, rfl, _, rfl, rfl, b, l, v, B, 4 * 5 ^ j, rfl, b4, dv, hD, by rcases hj2 with rfl | rfl <;> decide, fun B' v' H5 hD' e5 b5 dv' => ⟨B', v', _, _, _, _, _, _, rfl, dv', ?_, b5, tabs_bx e5 b4 T4⟩⟩
    have : 5 * (4 * 5 ^ j) = 4 * 5 ^ (j + 1) := by rw [Nat.pow_succ]; omega
    rw [← this]
    exact hD'
  obtain ⟨B, v, y2, y4, y5, y6, y7, y8, rfl, dv, hD, b4, T4⟩ := p
  have hn2 : n.toNat ≤ 2 := by omega
  have hD100 : Dm 100 B := hD.mono (by
    have : 5 ^ n.toNat ≤ 5 ^ 2 := Nat.pow_le_pow_right (by decide) hn2
    omega)
  have hSm := hD100.sm (by omega)
  refine q_cut (M := fun σ' H' => ∃ (B : Book) (v : V) (y2 y4 y5 y6 y7 y8 : Option V), σ' = [some x, some (.ref b), y2, some v, y4, y5, y6, y7, y8] ∧ Dp K H' v (eB B) ∧ SmB B ∧ Bo H' b l ∧ LamX.Tabs T0 H') (v_if (b := b) (l := l) (G := fun _ => True) (es_eqTest (K := K) (es_takeI rfl (by decide)) es_intI fun _ _ _ _ => trivial) b4 (fun _ H5 e5 b5 => ?_) fun _ H5 e5 b5 => ⟨B, v, _, _, _, _, _, _, rfl, dp_tx e5.1 (imm_eB B) dv, hSm, b5, tabs_bx e5 b4 T4⟩) fun σ' H5 p => ?_
  · have T5 := tabs_bx e5 b4 T4
    refine vw_asg (K := K) (b := b) (l := l) (P := fun d => ∃ n : Nat, n ≤ 61 ∧ d = eB (book1 n)) ((es_pick2 (P1 := (· = eB [])) (P2 := fun d => ∃ n : Nat, n ≤ 61 ∧ d = eB (book1 n)) (es_of (fun _ _ _ => ed_tup ea_nil (by simp)) rfl) (es_op (es_of (d := eB (book1 1)) (fun _ _ _ => ed_tup (ea_cons (ed_tup (ea_cons (ed_tup (ea_cons ed_str ea_nil) (by simp)) ea_nil) (by simp)) ea_nil) (by simp [book1])) (imm_eB _)) (es_add (p := fun n => 59 ≤ n ∧ n < 62) es_intI (es_takeI rfl (by decide)) fun i j hi hj => by omega) fun H6 xx yy d e _ dx dy pd pe _ _ => ?_) (es_takeC rfl (by decide))).imp fun d h => ?_) b5 fun v6 d6 H6 e6 b6 p6 i6 dv6 => ?_
    · obtain ⟨m, rfl, hm1, hm2⟩ := pe
      subst pd
      refine ⟨eB (book1 m.toNat), ⟨m.toNat, by omega, rfl⟩, imm_eB _, (ed_repT (ed_K dx) (ed_K dy) (by simp [book1]) (by omega) (by simp [book1])).is ?_⟩
      simp [eB, book1, eR, eV]
    · rcases h with rfl | h
      · exact ⟨0, by omega, rfl⟩
      · exact h
    · obtain ⟨m, hm, rfl⟩ := p6
      exact ⟨book1 m, v6, _, _, _, _, _, _, rfl, dv6, book1_sm hm, b6, tabs_bx e6 b5 T5⟩
  clear hSm hD100 hD dv T4 b4
  obtain ⟨B, v, y2, y4, y5, y6, y7, y8, rfl, dv, hSm, b5, T5⟩ := p
  refine q_asg (K := K) (ed_callP (ea_cons (ed_var rfl dv) ea_nil) ⟨B, rfl, hSm, rfl⟩) fun ve H6 e6 de => ?_
  have dv6 := dp_ex e6 dv
  refine q_asg (K := K) (d := .list [r1 B, r2 B]) (ed_if (et_test (ed_notN (ed_var rfl de))) (fun hw => ?_) fun hw => ?_) fun vx H7 e7 dx => ?_
  · refine (ed_lst (ea_cons (ed_var rfl de) (ea_cons (ed_var rfl de) ea_nil)) (by simp)).is ?_
    unfold defD r1 r2
    unfold defD at hw
    cases hz : defB B with
    | none => rw [hz] at hw; cases hw
    | some p => rfl
  · have hz : defB B = none := by
      unfold defD at hw
      cases hz : defB B with
      | none => rfl
      | some p => rw [hz] at hw; cases hw
    have hG := good_of hz
    have hl := hG.len
    refine (ed_lst (ea_cons (ed_tup (ea_cons (ed_repT (ed_tup (ea_cons ed_int ea_nil) (by simp)) (ed_lenT (ed_var rfl dv6)) (by simp) (by rw [List.length_map]; omega) (by simp)) (ea_cons (ed_tup ea_nil (by simp)) ea_nil)) (by simp)) (ea_cons (El.ed (el_callF (ea_cons (ed_var rfl dv6) ea_nil) ⟨B, rfl, hG, rfl⟩)) ea_nil)) (by simp)).is ?_
    unfold r1 r2
    rw [hz]
    simp
  have b7 := (b5.ex e6).ex e7
  have T7 := tabs_ex (e6.trans e7) T5
  refine w_for (S := fun _ _ => True) (ew_R1 (K := K) (n := 2) ed_int (by omega)) (fun _ i σ' H' => (∃ y2 y4 y7 y8, σ' = [some x, some (.ref b), y2, some v, y4, some ve, some vx, y7, y8]) ∧ Dp K H' v (eB B) ∧ Dp K H' vx (.list [r1 B, r2 B]) ∧ Bo H' b l ∧ LamX.Tabs T0 H')
    (fun H8 e8 => ⟨⟨_, _, _, _, rfl⟩, dp_ex (e7.trans e8) dv6, dp_ex e8 dx, b7.ex e8, tabs_ex e8 T7⟩) (fun _ _ _ _ _ => trivial) (fun H0 e0 i2 d2 xi σ' Ha H8 hd p ea dxi => ?_) fun H0 e0 σ' H8 p => ?_
  · obtain ⟨⟨y2, y4, y7, y8, rfl⟩, dva, dxa, ba, Ta⟩ := p
    have dv8 := dp_ex ea dva
    have dx8 := dp_ex ea dxa
    have b8 := ba.ex ea
    have T8 := tabs_ex ea Ta
    show tSeq _ _ _ _ _
    refine q_two (K := K) (d1 := r1 B) (d2 := r2 B) T8 (fun H9 n9 T9 Q' q' => ?_) (fun H9 n9 T9 Q' q' => ?_) fun pf H9 n9 T9 df => ?_
    · intro E hE
      have dv9 := dp_n n9 dv8
      refine w_callX (ea_cons (ed_var rfl dv9) ea_nil) ⟨B, rfl, hSm, rfl⟩ rfl (fun d hk u H10 e10 du => ?_) fun er hk cls dd H10 e10 hEr => ?_
      · refine q' u H10 e10 ?_
        unfold iniB at hk
        unfold r1
        cases hz : defB B with
        | none => rw [hz] at hk; cases hk; exact du
        | some p => rw [hz] at hk; cases hk
      · unfold iniB at hk
        cases hz : defB B with
        | none => rw [hz] at hk; cases hk
        | some p =>
          obtain ⟨r, vv⟩ := p
          rw [hz] at hk
          cases hk
          obtain ⟨C, hC, hcl, hfs⟩ := hEr
          have hC0 : C = C0 := by
            have h1 : mg "BadBook" = some (.ref C) := hC
            rw [k_BadBook] at h1
            cases h1; rfl
          subst hC0
          refine hE cls dd H10 (badBook r vv) 0 C (errT r vv) ⟨C, hC, hcl, hfs⟩ hcl h9_0 (.book r vv) fun u H11 e11 du => q' u H11 (e10.trans e11) ?_
          unfold r1
          rw [hz]
          exact du
    · intro E hE
      have dv9 := dp_n n9 dv8
      refine w_callXF (ea_cons (ed_var rfl dv9) ea_nil) ⟨B, rfl, hSm, rfl⟩ rfl (fun d hk u H10 e10 lu => ?_) fun er hk cls dd H10 e10 hEr => ?_
      · refine q' _ H10 e10 ?_
        unfold rchB at hk
        unfold r2
        cases hz : defB B with
        | none => rw [hz] at hk; cases hk; exact lu.dp
        | some p => rw [hz] at hk; cases hk
      · unfold rchB at hk
        cases hz : defB B with
        | none => rw [hz] at hk; cases hk
        | some p =>
          obtain ⟨r, vv⟩ := p
          rw [hz] at hk
          cases hk
          obtain ⟨C, hC, hcl, hfs⟩ := hEr
          have hC0 : C = C0 := by
            have h1 : mg "BadBook" = some (.ref C) := hC
            rw [k_BadBook] at h1
            cases h1; rfl
          subst hC0
          refine hE cls dd H10 (badBook r vv) 0 C (errT r vv) ⟨C, hC, hcl, hfs⟩ hcl h9_0 (.book r vv) fun u H11 e11 du => q' u H11 (e10.trans e11) ?_
          unfold r2
          rw [hz]
          exact du
    · have dx9 := dp_n n9 dx8
      refine w_when (SB.et_not (et_truB (ed_callP (ea_cons (ed_var rfl df) (ea_cons (ed_var rfl dx9) ea_nil)) ⟨_, rfl, alk_exp hSm, rfl⟩))) (fun hw H10 e10 => ?_) fun hw H10 e10 => ⟨⟨_, _, _, _, rfl⟩, dp_ex e10 (dp_n n9 dv8), dp_ex e10 dx9, (b8.n n9).ex e10, tabs_ex e10 T9⟩
      exact absurd hw (by decide)
  · obtain ⟨⟨y2, y4, y7, y8, rfl⟩, dv8, dx8, b8, T8⟩ := p
    exact ⟨⟨_, _, _, _, _, _, _, rfl⟩, b8, T8⟩
end
end K01
set_option Elab.async false
set_option linter.all false
set_option maxRecDepth 100000
set_option maxHeartbeats 2000000
namespace TR
end TR
namespace MT
end MT
namespace K01
open PySem PySem.Spec PyProof.Rows L2 SB C8 TR MT
/-- a def of the text, found among the globals -/
def DF (K : PySem.W.Frag) (x : Str) (st : Stmt) : Prop := ∃ (f : Addr) (oc : Value) (od : Option Addr) (kV doc pm : Value) (an : Option Addr) (cd ct : Value) (sl : Array (Option Value)), PySem.W.nsIn K mainGlobals x = some (some (.ref f)) ∧
  K.lookup f = some ⟨oc, od, .func (PySem.W.fnOf x x (fnArgs st) (fnBody st) (fnScope st) .none kV doc pm an cd ct), sl⟩ ∧ PySem.W.codeIn K cd x = true ∧ PySem.W.keepIn K (.ref f) = true
theorem DF.get {K : PySem.W.Frag} {h : Heap} {mg : Str → Option Value} {x : Str} {st : Stmt} (D : DF K x st) (X : K.In h) (G : h.Ns mainGlobals mg) : ∃ f fd, C8.Def K mg x st f fd ∧ fd.defaults = .none := by
  obtain ⟨f, oc, od, kV, doc, pm, an, cd, ct, sl, a, l, c, k⟩ := D
  exact ⟨f, _, ⟨⟨oc, od, _, kV, doc, pm, an, cd, ct, sl, rfl, l, c⟩, PySem.W.mg_of X G a, k⟩, rfl⟩
/-- a method of a class -/
def MF (K : PySem.W.Frag) (C : Addr) (x qual : Str) (st : Stmt) : Prop := ∃ (f : Addr) (oc : Value) (od : Option Addr) (kV doc pm : Value) (an : Option Addr) (cd ct : Value) (sl : Array (Option Value)), PySem.W.findIn K (.ref C) x = some (some (.ref f)) ∧
  K.lookup f = some ⟨oc, od, .func (PySem.W.fnOf x qual (fnArgs st) (fnBody st) (fnScope st) .none kV doc pm an cd ct), sl⟩ ∧ PySem.W.codeIn K cd qual = true ∧ PySem.W.isFn K (.ref f) = true ∧ PySem.W.keepIn K (.ref f) = true
theorem MF.get {K : PySem.W.Frag} {C : Addr} {x qual : Str} {st : Stmt} (D : MF K C x qual st) : ∃ f fd, C8.Fun K x qual st f fd ∧ fd.defaults = .none ∧ PySem.W.findIn K (.ref C) x = some (some (.ref f)) ∧ PySem.W.isFn K (.ref f) = true ∧ PySem.W.keepIn K (.ref f) = true := by
  obtain ⟨f, oc, od, kV, doc, pm, an, cd, ct, sl, a, l, c, i, k⟩ := D
  exact ⟨f, _, ⟨⟨oc, od, _, kV, doc, pm, an, cd, ct, sl, rfl, l, c⟩⟩, rfl, a, i, k⟩
theorem get_law_begun {K : PySem.W.Frag} {h : Heap} {mg : Str → Option Value} (D : DF K "_law_begun" s_law_begun) (X : K.In h) (G : h.Ns mainGlobals mg) : ∃ f fd, C8.Def K mg "_law_begun" s_law_begun f fd ∧ L2.Binds K fd ["_law_script"] [] := by
  obtain ⟨f, fd, F, df⟩ := D.get X G
  exact ⟨f, fd, F, F.fn.binds df fun _ _ _ _ _ _ us hl => match us, hl with | [_], _ => rfl⟩
theorem get_law_take {K : PySem.W.Frag} {h : Heap} {mg : Str → Option Value} (D : DF K "_law_take" s_law_take) (X : K.In h) (G : h.Ns mainGlobals mg) : ∃ f fd, C8.Def K mg "_law_take" s_law_take f fd ∧ L2.Binds K fd ["_law_box", "_law_size"] [] := by
  obtain ⟨f, fd, F, df⟩ := D.get X G
  exact ⟨f, fd, F, F.fn.binds df fun _ _ _ _ _ _ us hl => match us, hl with | [_, _], _ => rfl⟩
theorem get_law_book {K : PySem.W.Frag} {h : Heap} {mg : Str → Option Value} (D : DF K "_law_book" s_law_book) (X : K.In h) (G : h.Ns mainGlobals mg) : ∃ f fd, C8.Def K mg "_law_book" s_law_book f fd ∧ L2.Binds K fd ["_law_box", "_law_most"] [] := by
  obtain ⟨f, fd, F, df⟩ := D.get X G
  exact ⟨f, fd, F, F.fn.binds df fun _ _ _ _ _ _ us hl => match us, hl with | [_, _], _ => rfl⟩
theorem get_law_damaged {K : PySem.W.Frag} {h : Heap} {mg : Str → Option Value} (D : DF K "_law_damaged" s_law_damaged) (X : K.In h) (G : h.Ns mainGlobals mg) : ∃ f fd, C8.Def K mg "_law_damaged" s_law_damaged f fd ∧ L2.Binds K fd ["_law_box", "_law_book_here"] [] := by
  obtain ⟨f, fd, F, df⟩ := D.get X G
  exact ⟨f, fd, F, F.fn.binds df fun _ _ _ _ _ _ us hl => match us, hl with | [_, _], _ => rfl⟩
theorem get_law_defect {K : PySem.W.Frag} {h : Heap} {mg : Str → Option Value} (D : DF K "_law_defect" s_law_defect) (X : K.In h) (G : h.Ns mainGlobals mg) : ∃ f fd, C8.Def K mg "_law_defect" s_law_defect f fd ∧ L2.Binds K fd ["_law_book_here"] [] := by
  obtain ⟨f, fd, F, df⟩ := D.get X G
  exact ⟨f, fd, F, F.fn.binds df fun _ _ _ _ _ _ us hl => match us, hl with | [_], _ => rfl⟩
theorem get_law_reached {K : PySem.W.Frag} {h : Heap} {mg : Str → Option Value} (D : DF K "_law_reached" s_law_reached) (X : K.In h) (G : h.Ns mainGlobals mg) : ∃ f fd, C8.Def K mg "_law_reached" s_law_reached f fd ∧ L2.Binds K fd ["_law_book_here"] [] := by
  obtain ⟨f, fd, F, df⟩ := D.get X G
  exact ⟨f, fd, F, F.fn.binds df fun _ _ _ _ _ _ us hl => match us, hl with | [_], _ => rfl⟩
theorem get_law_alike {K : PySem.W.Frag} {h : Heap} {mg : Str → Option Value} (D : DF K "_law_alike" s_law_alike) (X : K.In h) (G : h.Ns mainGlobals mg) : ∃ f fd, C8.Def K mg "_law_alike" s_law_alike f fd ∧ L2.Binds K fd ["_law_found", "_law_due"] [] := by
  obtain ⟨f, fd, F, df⟩ := D.get X G
  exact ⟨f, fd, F, F.fn.binds df fun _ _ _ _ _ _ us hl => match us, hl with | [_, _], _ => rfl⟩
theorem get_is_word {K : PySem.W.Frag} {h : Heap} {mg : Str → Option Value} (D : DF K "is_word" s_is_word) (X : K.In h) (G : h.Ns mainGlobals mg) : ∃ f fd, C8.Def K mg "is_word" s_is_word f fd ∧ L2.Binds K fd ["item"] [] := by
  obtain ⟨f, fd, F, df⟩ := D.get X G
  exact ⟨f, fd, F, F.fn.binds df fun _ _ _ _ _ _ us hl => match us, hl with | [_], _ => rfl⟩
theorem get_are_letters {K : PySem.W.Frag} {h : Heap} {mg : Str → Option Value} (D : DF K "are_letters" s_are_letters) (X : K.In h) (G : h.Ns mainGlobals mg) : ∃ f fd, C8.Def K mg "are_letters" s_are_letters f fd ∧ L2.Binds K fd ["text"] [] := by
  obtain ⟨f, fd, F, df⟩ := D.get X G
  exact ⟨f, fd, F, F.fn.binds df fun _ _ _ _ _ _ us hl => match us, hl with | [_], _ => rfl⟩
theorem get_is_valid_word {K : PySem.W.Frag} {h : Heap} {mg : Str → Option Value} (D : DF K "is_valid_word" s_is_valid_word) (X : K.In h) (G : h.Ns mainGlobals mg) : ∃ f fd, C8.Def K mg "is_valid_word" s_is_valid_word f fd ∧ L2.Binds K fd ["text"] [] := by
  obtain ⟨f, fd, F, df⟩ := D.get X G
  exact ⟨f, fd, F, F.fn.binds df fun _ _ _ _ _ _ us hl => match us, hl with | [_], _ => rfl⟩
theorem get_is_valid_item {K : PySem.W.Frag} {h : Heap} {mg : Str → Option Value} (D : DF K "is_valid_item" s_is_valid_item) (X : K.In h) (G : h.Ns mainGlobals mg) : ∃ f fd, C8.Def K mg "is_valid_item" s_is_valid_item f fd ∧ L2.Binds K fd ["book", "refrain", "item"] [] := by
  obtain ⟨f, fd, F, df⟩ := D.get X G
  exact ⟨f, fd, F, F.fn.binds df fun _ _ _ _ _ _ us hl => match us, hl with | [_, _, _], _ => rfl⟩
theorem get_is_valid_verse {K : PySem.W.Frag} {h : Heap} {mg : Str → Option Value} (D : DF K "is_valid_verse" s_is_valid_verse) (X : K.In h) (G : h.Ns mainGlobals mg) : ∃ f fd, C8.Def K mg "is_valid_verse" s_is_valid_verse f fd ∧ L2.Binds K fd ["book", "refrain", "verse"] [] := by
  obtain ⟨f, fd, F, df⟩ := D.get X G
  exact ⟨f, fd, F, F.fn.binds df fun _ _ _ _ _ _ us hl => match us, hl with | [_, _, _], _ => rfl⟩
theorem get_check_refrain {K : PySem.W.Frag} {h : Heap} {mg : Str → Option Value} (D : DF K "check_refrain" s_check_refrain) (X : K.In h) (G : h.Ns mainGlobals mg) : ∃ f fd, C8.Def K mg "check_refrain" s_check_refrain f fd ∧ L2.Binds K fd ["book", "refrain"] [] := by
  obtain ⟨f, fd, F, df⟩ := D.get X G
  exact ⟨f, fd, F, F.fn.binds df fun _ _ _ _ _ _ us hl => match us, hl with | [_, _], _ => rfl⟩
theorem get_check_book {K : PySem.W.Frag} {h : Heap} {mg : Str → Option Value} (D : DF K "check_book" s_check_book) (X : K.In h) (G : h.Ns mainGlobals mg) : ∃ f fd, C8.Def K mg "check_book" s_check_book f fd ∧ L2.Binds K fd ["book"] [] := by
  obtain ⟨f, fd, F, df⟩ := D.get X G
  exact ⟨f, fd, F, F.fn.binds df fun _ _ _ _ _ _ us hl => match us, hl with | [_], _ => rfl⟩
theorem get_called_refrains {K : PySem.W.Frag} {h : Heap} {mg : Str → Option Value} (D : DF K "called_refrains" s_called_refrains) (X : K.In h) (G : h.Ns mainGlobals mg) : ∃ f fd, C8.Def K mg "called_refrains" s_called_refrains f fd ∧ L2.Binds K fd ["verses"] [] := by
  obtain ⟨f, fd, F, df⟩ := D.get X G
  exact ⟨f, fd, F, F.fn.binds df fun _ _ _ _ _ _ us hl => match us, hl with | [_], _ => rfl⟩
theorem get_reachable_refrains {K : PySem.W.Frag} {h : Heap} {mg : Str → Option Value} (D : DF K "reachable_refrains" s_reachable_refrains) (X : K.In h) (G : h.Ns mainGlobals mg) : ∃ f fd, C8.Def K mg "reachable_refrains" s_reachable_refrains f fd ∧ L2.Binds K fd ["book"] [] := by
  obtain ⟨f, fd, F, df⟩ := D.get X G
  exact ⟨f, fd, F, F.fn.binds df fun _ _ _ _ _ _ us hl => match us, hl with | [_], _ => rfl⟩
theorem get_initial_state {K : PySem.W.Frag} {h : Heap} {mg : Str → Option Value} (D : DF K "initial_state" s_initial_state) (X : K.In h) (G : h.Ns mainGlobals mg) : ∃ f fd, C8.Def K mg "initial_state" s_initial_state f fd ∧ L2.Binds K fd ["book"] [] := by
  obtain ⟨f, fd, F, df⟩ := D.get X G
  exact ⟨f, fd, F, F.fn.binds df fun _ _ _ _ _ _ us hl => match us, hl with | [_], _ => rfl⟩
theorem get_law_result {K : PySem.W.Frag} {h : Heap} {mg : Str → Option Value} (D : DF K "_law_result" s_law_result) (X : K.In h) (G : h.Ns mainGlobals mg) : ∃ f fd, C8.Def K mg "_law_result" s_law_result f fd ∧ L2.Binds K fd ["_law_call"] [] := by
  obtain ⟨f, fd, F, df⟩ := D.get X G
  exact ⟨f, fd, F, F.fn.binds df fun _ _ _ _ _ _ us hl => match us, hl with | [_], _ => rfl⟩
/-- names that nobody binds -/
def NF (K : PySem.W.Frag) : Prop := PySem.W.nsIn K mainGlobals "ValueError" = some none ∧ PySem.W.nsIn K mainGlobals "all" = some none ∧ PySem.W.nsIn K mainGlobals "bool" = some none ∧ PySem.W.nsIn K mainGlobals "enumerate" = some none ∧ PySem.W.nsIn K mainGlobals "int" = some none ∧ PySem.W.nsIn K mainGlobals "isinstance" = some none ∧ PySem.W.nsIn K mainGlobals "len" = some none ∧ PySem.W.nsIn K mainGlobals "list" = some none ∧ PySem.W.nsIn K mainGlobals "max" = some none ∧ PySem.W.nsIn K mainGlobals "range" = some none ∧ PySem.W.nsIn K mainGlobals "sorted" = some none ∧ PySem.W.nsIn K mainGlobals "str" = some none ∧ PySem.W.nsIn K mainGlobals "super" = some none ∧ PySem.W.nsIn K mainGlobals "tuple" = some none
/-- the module's constants -/
def CF (K : PySem.W.Frag) : Prop := (∃ t, PySem.W.nsIn K mainGlobals "LONGEST_WORD" = some (some (.int 8 t))) ∧ (∃ t, PySem.W.nsIn K mainGlobals "MOST_ITEMS" = some (some (.int 6 t))) ∧ (∃ t, PySem.W.nsIn K mainGlobals "MOST_REFRAINS" = some (some (.int 60 t))) ∧ (∃ t, PySem.W.nsIn K mainGlobals "MOST_VERSES" = some (some (.int 4 t)))
/-- .. and its defs -/
def DFs (K : PySem.W.Frag) : Prop := DF K "_law_begun" s_law_begun ∧ DF K "_law_take" s_law_take ∧ DF K "_law_book" s_law_book ∧ DF K "_law_damaged" s_law_damaged ∧ DF K "_law_defect" s_law_defect ∧ DF K "_law_reached" s_law_reached ∧ DF K "_law_alike" s_law_alike ∧ DF K "is_word" s_is_word ∧ DF K "are_letters" s_are_letters ∧ DF K "is_valid_word" s_is_valid_word ∧ DF K "is_valid_item" s_is_valid_item ∧ DF K "is_valid_verse" s_is_valid_verse ∧ DF K "check_refrain" s_check_refrain ∧ DF K "check_book" s_check_book ∧ DF K "called_refrains" s_called_refrains ∧ DF K "reachable_refrains" s_reachable_refrains ∧ DF K "initial_state" s_initial_state ∧ DF K "_law_result" s_law_result
/-- the law itself, its code object and that one's table -/
def LF (K : PySem.W.Frag) : Prop := ∃ (f c PT : Addr) (oc : Value) (od : Option Addr) (kV doc pm : Value) (an : Option Addr) (ct : Value) (sl : Array (Option Value)), PySem.W.nsIn K mainGlobals "law" = some (some (.ref f)) ∧ K.lookup f = some ⟨oc, od, .func (PySem.W.fnOf "law" "law" (fnParams s_law) (fnBody s_law) (fnScope s_law) .none kV doc pm an (.ref c) ct), sl⟩ ∧ PySem.W.codeIn K (.ref c) "law" = true ∧ PySem.W.tabIn K "law" = some (c, PT) ∧ K.lookup PT = none
/-- what the written part says of the error class that has an __init__ -/
def EB (K : PySem.W.Frag) (P : Program) : Prop := ∃ (C0 fI cc cda : Addr) (kV doc pm ct oc : Value) (an od : Option Addr) (osl : Array (Option Value)),
  PySem.W.nsIn K mainGlobals "BadBook" = some (some (.ref C0)) ∧ OexC K C0 ∧ PySem.W.findIn K (.ref C0) "refrain" = some none ∧ PySem.W.findIn K (.ref C0) "verse" = some none ∧
  PySem.W.findIn K (.ref C0) "__init__" = some (some (.ref fI)) ∧ PySem.W.typeIn K (.ref fI) = some (.type "function") ∧
  K.lookup fI = some ⟨oc, od, .func (PySem.W.fnX "__init__" "BadBook.__init__" (fnParams s_BadBook_init) (fnBody s_BadBook_init) (fnScope s_BadBook_init) [(("__class__" : Str), cc)] .none kV doc pm an (.ref cda) ct), osl⟩ ∧
  PySem.W.codeIn K (.ref cda) "BadBook.__init__" = true ∧ (∀ mg, mg "super" = none → InCls P K mg C0 cc fI cda)
/-- .. of the nine -/
def EN (K : PySem.W.Frag) : Prop := ∃ (C0 C1 C2 C3 C4 C5 C6 C7 C8 S : Addr), PySem.W.nsIn K mainGlobals "BadBook" = some (some (.ref C0)) ∧ PySem.W.nsIn K mainGlobals "BadCertificate" = some (some (.ref C1)) ∧ PySem.W.nsIn K mainGlobals "BadCount" = some (some (.ref C2)) ∧ PySem.W.nsIn K mainGlobals "BadRefrain" = some (some (.ref C3)) ∧ PySem.W.nsIn K mainGlobals "BadState" = some (some (.ref C4)) ∧ PySem.W.nsIn K mainGlobals "BadTurns" = some (some (.ref C5)) ∧ PySem.W.nsIn K mainGlobals "RefrainBusy" = some (some (.ref C6)) ∧ PySem.W.nsIn K mainGlobals "TooManyCandidates" = some (some (.ref C7)) ∧ PySem.W.nsIn K mainGlobals "TooManyWords" = some (some (.ref C8)) ∧ PySem.W.nsIn K mainGlobals "SongError" = some (some (.ref S)) ∧ XfC K C0 ∧ PySem.W.findIn K (.ref C0) "refrain" = some none ∧ PySem.W.findIn K (.ref C0) "verse" = some none ∧ (ExcC K C0 ∧ (PySem.W.clsIn K C0).isSome = true ∧ PySem.W.kitOne K (.ref C0) (.ref C0) = some true ∧ PySem.W.kitOne K (.ref C0) (.ref C1) = some false ∧ PySem.W.kitOne K (.ref C0) (.ref C2) = some false ∧ PySem.W.kitOne K (.ref C0) (.ref C3) = some false ∧ PySem.W.kitOne K (.ref C0) (.ref C4) = some false ∧ PySem.W.kitOne K (.ref C0) (.ref C5) = some false ∧ PySem.W.kitOne K (.ref C0) (.ref C6) = some false ∧ PySem.W.kitOne K (.ref C0) (.ref C7) = some false ∧ PySem.W.kitOne K (.ref C0) (.ref C8) = some false ∧ PySem.W.kitOne K (.ref C0) (.type "ValueError") = some true ∧ PySem.W.exmOne K (.ref C0) (.ref S) = some true)
theorem all_law {l : PySem.W.OpenLaw} {w : World} {K : PySem.W.Frag} {h : Heap} {mg : Str → Option Value} {fa : Addr} {q : Program} {d : DefRec} (X : K.In h) (hT : ∃ loose mean mb, Top q loose mean mg mb h) (hfa : mg "law" = some (.ref fa)) (hr : (recsOf q).find? (fun e => e.name == ("law" : Str)) = some d)
    (hN : NF K) (hC : CF K) (hD : DFs K) (hL : LF K) (hE : EB K l.prog) (hK : EN K) : LamX.LawAtS l w K _root_.C8.CX0 10 63 "_law_script" mg fa h := by
  obtain ⟨loose2, mean, mb, T⟩ := hT
  have G := T.g
  obtain ⟨n_ValueError, n_all, n_bool, n_enumerate, n_int, n_isinstance, n_len, n_list, n_max, n_range, n_sorted, n_str, n_super, n_tuple⟩ := hN
  have m_ValueError : mg "ValueError" = none := PySem.W.mg_none_of X G n_ValueError
  have m_all : mg "all" = none := PySem.W.mg_none_of X G n_all
  have m_bool : mg "bool" = none := PySem.W.mg_none_of X G n_bool
  have m_enumerate : mg "enumerate" = none := PySem.W.mg_none_of X G n_enumerate
  have m_int : mg "int" = none := PySem.W.mg_none_of X G n_int
  have m_isinstance : mg "isinstance" = none := PySem.W.mg_none_of X G n_isinstance
  have m_len : mg "len" = none := PySem.W.mg_none_of X G n_len
  have m_list : mg "list" = none := PySem.W.mg_none_of X G n_list
  have m_max : mg "max" = none := PySem.W.mg_none_of X G n_max
  have m_range : mg "range" = none := PySem.W.mg_none_of X G n_range
  have m_sorted : mg "sorted" = none := PySem.W.mg_none_of X G n_sorted
  have m_str : mg "str" = none := PySem.W.mg_none_of X G n_str
  have m_super : mg "super" = none := PySem.W.mg_none_of X G n_super
  have m_tuple : mg "tuple" = none := PySem.W.mg_none_of X G n_tuple
  obtain ⟨⟨t_LONGEST_WORD, e_LONGEST_WORD⟩, ⟨t_MOST_ITEMS, e_MOST_ITEMS⟩, ⟨t_MOST_REFRAINS, e_MOST_REFRAINS⟩, ⟨t_MOST_VERSES, e_MOST_VERSES⟩⟩ := hC
  have c_LONGEST_WORD : ∃ u, mg "LONGEST_WORD" = some u ∧ RelV (.int 8) u := ⟨_, PySem.W.mg_of X G e_LONGEST_WORD, t_LONGEST_WORD, rfl⟩
  have c_MOST_ITEMS : ∃ u, mg "MOST_ITEMS" = some u ∧ RelV (.int 6) u := ⟨_, PySem.W.mg_of X G e_MOST_ITEMS, t_MOST_ITEMS, rfl⟩
  have c_MOST_REFRAINS : ∃ u, mg "MOST_REFRAINS" = some u ∧ RelV (.int 60) u := ⟨_, PySem.W.mg_of X G e_MOST_REFRAINS, t_MOST_REFRAINS, rfl⟩
  have c_MOST_VERSES : ∃ u, mg "MOST_VERSES" = some u ∧ RelV (.int 4) u := ⟨_, PySem.W.mg_of X G e_MOST_VERSES, t_MOST_VERSES, rfl⟩
  obtain ⟨D_law_begun, D_law_take, D_law_book, D_law_damaged, D_law_defect, D_law_reached, D_law_alike, D_is_word, D_are_letters, D_is_valid_word, D_is_valid_item, D_is_valid_verse, D_check_refrain, D_check_book, D_called_refrains, D_reachable_refrains, D_initial_state, D_law_result⟩ := hD
  obtain ⟨f_law_begun, fd_law_begun, F_law_begun, b_law_begun⟩ := get_law_begun D_law_begun X G
  obtain ⟨f_law_take, fd_law_take, F_law_take, b_law_take⟩ := get_law_take D_law_take X G
  obtain ⟨f_law_book, fd_law_book, F_law_book, b_law_book⟩ := get_law_book D_law_book X G
  obtain ⟨f_law_damaged, fd_law_damaged, F_law_damaged, b_law_damaged⟩ := get_law_damaged D_law_damaged X G
  obtain ⟨f_law_defect, fd_law_defect, F_law_defect, b_law_defect⟩ := get_law_defect D_law_defect X G
  obtain ⟨f_law_reached, fd_law_reached, F_law_reached, b_law_reached⟩ := get_law_reached D_law_reached X G
  obtain ⟨f_law_alike, fd_law_alike, F_law_alike, b_law_alike⟩ := get_law_alike D_law_alike X G
  obtain ⟨f_is_word, fd_is_word, F_is_word, b_is_word⟩ := get_is_word D_is_word X G
  obtain ⟨f_are_letters, fd_are_letters, F_are_letters, b_are_letters⟩ := get_are_letters D_are_letters X G
  obtain ⟨f_is_valid_word, fd_is_valid_word, F_is_valid_word, b_is_valid_word⟩ := get_is_valid_word D_is_valid_word X G
  obtain ⟨f_is_valid_item, fd_is_valid_item, F_is_valid_item, b_is_valid_item⟩ := get_is_valid_item D_is_valid_item X G
  obtain ⟨f_is_valid_verse, fd_is_valid_verse, F_is_valid_verse, b_is_valid_verse⟩ := get_is_valid_verse D_is_valid_verse X G
  obtain ⟨f_check_refrain, fd_check_refrain, F_check_refrain, b_check_refrain⟩ := get_check_refrain D_check_refrain X G
  obtain ⟨f_check_book, fd_check_book, F_check_book, b_check_book⟩ := get_check_book D_check_book X G
  obtain ⟨f_called_refrains, fd_called_refrains, F_called_refrains, b_called_refrains⟩ := get_called_refrains D_called_refrains X G
  obtain ⟨f_reachable_refrains, fd_reachable_refrains, F_reachable_refrains, b_reachable_refrains⟩ := get_reachable_refrains D_reachable_refrains X G
  obtain ⟨f_initial_state, fd_initial_state, F_initial_state, b_initial_state⟩ := get_initial_state D_initial_state X G
  obtain ⟨f_law_result, fd_law_result, F_law_result, b_law_result⟩ := get_law_result D_law_result X G
  obtain ⟨f, c, PT, oc, od, kV, doc, pm, an, ct, sl, a_law, l_law, c_law, t_law, n_tab⟩ := hL
  obtain ⟨B0, fI, cc, cda, kVI, docI, pmI, ctI, ocI, anI, odI, oslI, a_B, eO, eBR, eBV, eI, eT, eL, eCd, eIn⟩ := hE
  obtain ⟨C0, C1, C2, C3, C4, C5, C6, C7, C8, S, a0, a1, a2, a3, a4, a5, a6, a7, a8, aS, eX, eR, eV, ⟨x0, cl0, e0_0, e0_1, e0_2, e0_3, e0_4, e0_5, e0_6, e0_7, e0_8, ve0, m0⟩⟩ := hK
  have kit0 : ∀ (j : Nat) (C : Addr), [C0, C1, C2, C3, C4, C5, C6, C7, C8][j]? = some C → PySem.W.kitOne K (.ref C0) (.ref C) = some (j == 0) := fun j C hj => by
    rcases j with _ | _ | _ | _ | _ | _ | _ | _ | _ | j
    · cases hj; exact e0_0
    · cases hj; exact e0_1
    · cases hj; exact e0_2
    · cases hj; exact e0_3
    · cases hj; exact e0_4
    · cases hj; exact e0_5
    · cases hj; exact e0_6
    · cases hj; exact e0_7
    · cases hj; exact e0_8
    · simp at hj
  have h9_0 : Own9 K [C0, C1, C2, C3, C4, C5, C6, C7, C8] S 0 C0 := ⟨rfl, by decide, kit0, ve0, x0, cl0, m0⟩
  have efa : fa = f := by
    have := hfa.symm.trans (PySem.W.mg_of X G a_law)
    cases this; rfl
  subst efa
  obtain ⟨hCode, hTab⟩ := PySem.W.tab_of T X hr t_law
  refine ⟨PySem.W.fnOf "law" "law" (fnParams s_law) (fnBody s_law) (fnScope s_law) .none kV doc pm an (.ref c) ct, [(c, PT)], sp_law K PT, fun p hp => ?_, fun p hp => ?_, fun p hp => ?_, fun s u => .of_eq rfl, fun H a ns hl hb hH hS => ?_, fun base Kb Gb TB => ?_⟩
  · rw [List.mem_singleton.mp hp]; exact hTab
  · rw [List.mem_singleton.mp hp]; exact n_tab
  · rw [List.mem_singleton.mp hp]; exact hCode
  · exact ⟨rfl, _, rfl, ns, .lst hS dpall_ints, by omega, hH (c, PT) (by simp), fun _ => rfl⟩
  have mk_BadBook : MakX l.prog w K mg base 1 "BadBook" B0 (spI_BadBook B0) := ⟨fI, _, ["self", "refrain", "verse"], eO, eI, eT, ok_BadBook_init eL eCd eO (eIn mg m_super) eBR eBV, PySem.W.mg_of X G a_B, .all fun us hl => match us, hl with | [_, _, _], _ => rfl⟩
  have k_law_begun := ok_law_begun (P := l.prog) (w := w) (base := base) (F := F_law_begun) (b := b_law_begun) (m_int := m_int) (m_len := m_len) (m_list := m_list)
  have k_law_take := ok_law_take (P := l.prog) (w := w) (base := base) (F := F_law_take) (b := b_law_take) (m_int := m_int)
  have k_law_book := ok_law_book (P := l.prog) (w := w) (base := base) (F := F_law_book) (b := b_law_book) (f_law_take := k_law_take) (m_range := m_range) (m_max := m_max) (m_tuple := m_tuple)
  have k_law_damaged := ok_law_damaged (P := l.prog) (w := w) (base := base) (F := F_law_damaged) (b := b_law_damaged) (f_law_take := k_law_take) (m_len := m_len) (m_list := m_list) (m_int := m_int) (m_tuple := m_tuple)
  have k_law_defect := ok_law_defect (P := l.prog) (w := w) (base := base) (F := F_law_defect) (b := b_law_defect) (m_len := m_len) (m_range := m_range) (m_isinstance := m_isinstance) (m_str := m_str)
  have k_law_reached := ok_law_reached (P := l.prog) (w := w) (base := base) (F := F_law_reached) (b := b_law_reached) (m_isinstance := m_isinstance) (m_str := m_str) (m_sorted := m_sorted)
  have k_law_alike := oks_law_alike (P := l.prog) (w := w) (base := base) F_law_alike b_law_alike m_isinstance m_bool m_int m_str m_list m_tuple m_len m_range 4
  have k_is_word := ok_is_word (P := l.prog) (w := w) (base := base) (F := F_is_word) (b := b_is_word) (m_isinstance := m_isinstance) (m_str := m_str)
  have k_are_letters := ok_are_letters (P := l.prog) (w := w) (base := base) (F := F_are_letters) (b := b_are_letters) (m_all := m_all)
  have k_is_valid_word := ok_is_valid_word (P := l.prog) (w := w) (base := base) (F := F_is_valid_word) (b := b_is_valid_word) (f_are_letters := k_are_letters) (m_len := m_len) (c_LONGEST_WORD := c_LONGEST_WORD)
  have k_is_valid_item := ok_is_valid_item (P := l.prog) (w := w) (base := base) (F := F_is_valid_item) (b := b_is_valid_item) (f_is_word := k_is_word) (f_is_valid_word := k_is_valid_word) (m_len := m_len)
  have k_is_valid_verse := ok_is_valid_verse (P := l.prog) (w := w) (base := base) (F := F_is_valid_verse) (b := b_is_valid_verse) (m_len := m_len) (c_MOST_ITEMS := c_MOST_ITEMS) (m_all := m_all) (f_is_valid_item := k_is_valid_item)
  have k_check_refrain := ok_check_refrain (P := l.prog) (w := w) (base := base) (F := F_check_refrain) (b := b_check_refrain) (m_len := m_len) (c_MOST_VERSES := c_MOST_VERSES) (c_MOST_REFRAINS := c_MOST_REFRAINS) (mk_BadBook := mk_BadBook) (m_enumerate := m_enumerate) (f_is_valid_verse := k_is_valid_verse)
  have k_check_book := ok_check_book (P := l.prog) (w := w) (base := base) (F := F_check_book) (b := b_check_book) (mk_BadBook := mk_BadBook) (m_range := m_range) (m_len := m_len) (f_check_refrain := k_check_refrain)
  have k_called_refrains := ok_called_refrains (P := l.prog) (w := w) (base := base) (F := F_called_refrains) (b := b_called_refrains) (f_is_word := k_is_word)
  have k_reachable_refrains := ok_reachable_refrains (P := l.prog) (w := w) (base := base) (F := F_reachable_refrains) (b := b_reachable_refrains) (f_check_book := k_check_book) (m_len := m_len) (m_enumerate := m_enumerate) (f_called_refrains := k_called_refrains) (m_range := m_range)
  have k_initial_state := ok_initial_state (P := l.prog) (w := w) (base := base) (F := F_initial_state) (b := b_initial_state) (f_check_book := k_check_book) (m_len := m_len)
  exact ok_law (lk := l_law) (hcd := c_law) (TB := TB (c, PT) (by simp)) (FR := F_law_result) (bR := b_law_result) (m_range := m_range) (m_len := m_len) (m_isinstance := m_isinstance) (m_ValueError := m_ValueError) (k_Song := PySem.W.mg_of X G aS) (k_BadBook := PySem.W.mg_of X G a0) (k_BadCertificate := PySem.W.mg_of X G a1) (k_BadCount := PySem.W.mg_of X G a2) (k_BadRefrain := PySem.W.mg_of X G a3) (k_BadState := PySem.W.mg_of X G a4) (k_BadTurns := PySem.W.mg_of X G a5) (k_RefrainBusy := PySem.W.mg_of X G a6) (k_TooManyCandidates := PySem.W.mg_of X G a7) (k_TooManyWords := PySem.W.mg_of X G a8) (TF := eX) (nf_refrain := eR) (nf_verse := eV) (h9_0 := h9_0) (f_law_begun := k_law_begun) (f_law_book := k_law_book) (f_law_take := k_law_take) (f_law_damaged := k_law_damaged) (f_law_defect := k_law_defect) (f_law_reached := k_law_reached) (f_law_alike := k_law_alike) (f_reachable_refrains := k_reachable_refrains) (f_initial_state := k_initial_state)
/-- the end of a law's row, with what the top has written -/
theorem walk_top {l : PySem.W.OpenLaw} {n k : Nat} {q : Program} {loose : List Str} {XP : (Str → Option Value) → Heap → Prop} {YP : World → Heap → Prop} {d : DefRec} {K : Params → PySem.W.Frag} {CX : World → CXT} {x : Str} (hn : l.most = some n) (hn2 : n ≤ sizeLine) (hdf : d.params.defaults = []) (hr : Room k callerA)
    (hY : ∀ (w : World) (h : Heap), YP w h → (K w.params).In h) (F : ∀ (w : World) (mg : Str → Option Value) (fa : Addr) (h : Heap), (K w.params).In h → (∃ loose mean mb, Top q loose mean mg mb h) → mg d.name = some (.ref fa) → LamX.LawAtS l w (K w.params) (CX w) k n x mg fa h)
    (hCX : ∀ (w : World) (H : Hp) (s : Shared) (e : Value) (s' : Shared), CX w [] H s (fun _ _ _ => False) e s' → False) : PySem.W.WalkO q loose XP YP l.row.toRowW d [] (fun f vs => PySem.call f vs) :=
  Att.attach_callB hn hdf fun w s0 s1 mg mb fa o pm cd doc a vs ns G Y ho hd hcd hmg hobj hints hlen hbits hg => by
    obtain ⟨fd, cs, sp, z1, z2, z3, z4, z5, z6⟩ := F w mg fa _ (hY w _ Y) ⟨_, _, _, G.T⟩ hmg
    exact LamX.law_callTs (hY w _ Y) G.T.g G.T.b G.T.builtins G.T.nolimit hg z1 z2 z3 G.T.bmain hobj hints (Nat.le_trans hlen hn2) hr z6 z4 (fun H hH hS => z5 H a ns hlen hbits hH hS) fun H e s' => hCX w H s1 e s'
end K01
open PySem PySem.W PyProof.Rows
set_option maxHeartbeats 0 in
set_option maxRecDepth 100000 in
theorem PySem.Challenge.cw_sungbyturns_k01_books_validated_holds : PySem.Challenge.rw_sungbyturns_k01_books_validated.Holds := by
  w_on; o_law; k_head; (case hw => w_witness2)
  k_fill
  refine K01.walk_top (l := PySem.Challenge.rw_sungbyturns_k01_books_validated) (n := 63) (k := 10) (x := "_law_script") (CX := fun _ => _root_.C8.CX0) rfl (by decide) rfl ⟨rfl, by decide, by decide⟩ (fun w h Y => PySem.W.km_in_of Y) ?zF (fun _ _ _ _ _ h => h)
  case zF =>
    intro w mg fa h KX T hmg
    refine K01.all_law KX T hmg rfl ?zN ?zC ?zD ?zL ?zE ?zK
    case zN =>
      unfold K01.NF
      repeat' apply And.intro
      all_goals k_is
    case zC => exact ⟨⟨_, by k_is⟩, ⟨_, by k_is⟩, ⟨_, by k_is⟩, ⟨_, by k_is⟩⟩
    case zD => exact ⟨⟨_, _, _, _, _, _, _, _, _, _, by k_is, by k_is, by k_is, by k_is⟩, ⟨_, _, _, _, _, _, _, _, _, _, by k_is, by k_is, by k_is, by k_is⟩, ⟨_, _, _, _, _, _, _, _, _, _, by k_is, by k_is, by k_is, by k_is⟩, ⟨_, _, _, _, _, _, _, _, _, _, by k_is, by k_is, by k_is, by k_is⟩, ⟨_, _, _, _, _, _, _, _, _, _, by k_is, by k_is, by k_is, by k_is⟩, ⟨_, _, _, _, _, _, _, _, _, _, by k_is, by k_is, by k_is, by k_is⟩, ⟨_, _, _, _, _, _, _, _, _, _, by k_is, by k_is, by k_is, by k_is⟩, ⟨_, _, _, _, _, _, _, _, _, _, by k_is, by k_is, by k_is, by k_is⟩, ⟨_, _, _, _, _, _, _, _, _, _, by k_is, by k_is, by k_is, by k_is⟩, ⟨_, _, _, _, _, _, _, _, _, _, by k_is, by k_is, by k_is, by k_is⟩, ⟨_, _, _, _, _, _, _, _, _, _, by k_is, by k_is, by k_is, by k_is⟩, ⟨_, _, _, _, _, _, _, _, _, _, by k_is, by k_is, by k_is, by k_is⟩, ⟨_, _, _, _, _, _, _, _, _, _, by k_is, by k_is, by k_is, by k_is⟩, ⟨_, _, _, _, _, _, _, _, _, _, by k_is, by k_is, by k_is, by k_is⟩, ⟨_, _, _, _, _, _, _, _, _, _, by k_is, by k_is, by k_is, by k_is⟩, ⟨_, _, _, _, _, _, _, _, _, _, by k_is, by k_is, by k_is, by k_is⟩, ⟨_, _, _, _, _, _, _, _, _, _, by k_is, by k_is, by k_is, by k_is⟩, ⟨_, _, _, _, _, _, _, _, _, _, by k_is, by k_is, by k_is, by k_is⟩⟩
    case zL => exact ⟨_, _, _, _, _, _, _, _, _, _, _, by k_is, by k_is, by k_is, by rfl, by kernel_rfl⟩
    case zE => exact ⟨_, _, _, _, _, _, _, _, _, _, _, _, by k_is, ⟨⟨_, _, _, _, _, _, _, _, _, _, _, _, _, _, _, by k_is, by rfl⟩, by k_is, by k_is, by k_is, by k_is⟩, by k_is, by k_is, by k_is, by k_is, by k_is, by k_is, fun mg hs => ⟨⟨_, _, _, by k_is⟩, by k_is, by kernel_rfl, by k_is, by k_is, hs, ⟨_, _, _, _, _, _, by k_is, by rfl, by rfl⟩, by rfl⟩⟩
    case zK => exact ⟨_, _, _, _, _, _, _, _, _, _, by k_is, by k_is, by k_is, by k_is, by k_is, by k_is, by k_is, by k_is, by k_is, by k_is, ⟨by k_is, by k_is, by k_is, by k_is⟩, by k_is, by k_is, ⟨⟨by k_is, by k_is, by k_is, by k_is, by k_is, by k_is, by k_is, by k_is⟩, by kernel_rfl, by kernel_rfl, by kernel_rfl, by kernel_rfl, by kernel_rfl, by kernel_rfl, by kernel_rfl, by kernel_rfl, by kernel_rfl, by kernel_rfl, by kernel_rfl, by kernel_rfl⟩⟩
