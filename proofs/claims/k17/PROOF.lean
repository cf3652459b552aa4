import PyProof.Rows.All
import Wide.All
import OpenK.AllK
import Wide.FinOn
import HandS.ForMost
import HandS.ForExc
import HandS.Evl
import HandS.IsInst
import HandS.TupAny
import HandS.TupMul
import HandS.SetKeys
import HandS.Walk
import KE.GoesEnum
import HandS.ExcInit
import HandS.DictComp
import HandS.Zip
import HandS.Conv
import HandS.Style
import HandS.WordsDict
import HandS.Set
import HandS.Strs
import KE.KExcIs
import HandS.Lambda
import HandS.Exc
import HandS.ExcField
import HandS.ExcOwn
import HandS.SetFor
import HandS.Gcd
import HandS.Wide
import HandS.DeepEq
import KE.KSetDisp
import KE.KMathGC
import PyProof.Rows.SortShellAny
import HandS.TupSets
import KE.KDictList
import HandS.Deep
import HandS.EndTab
import KE.KNestM
import HandS.Nested
import KE.KDflt
import HandS.RevRange
import HandS.FStr
import HandS.RaiseMore
import PySem.Challenge.RW_fullboats_k17_differences_found
set_option Elab.async false
set_option linter.all false
set_option maxRecDepth 100000
set_option maxHeartbeats 4000000
/-! One rule an operator sign: which of the readings it is, the values tell. -/
namespace FB
open PySem PySem.Spec PyProof.Rows L2 Evl
section
variable {X : Cx}
theorem orOp {f : Value → Value → Sem Value} {r r' : R2} (h : OpR X f r) (h' : OpR X f r') : OpR X f (fun x y H Q => r x y H Q ∨ r' x y H Q) := fun pins s σ H x y v u Q I rx ry q =>
  q.elim (h pins s σ H x y v u Q I rx ry) (h' pins s σ H x y v u Q I rx ry)
theorem orCall {f : Value} {r r' : List V → Hp → VK → Prop} (h : CallR X f r) (h' : CallR X f r') : CallR X f (fun x H Q => r x H Q ∨ r' x H Q) := fun pins s σ H xs us Q I r q =>
  q.elim (h pins s σ H xs us Q I r) (h' pins s σ H xs us Q I r)
/-- a + b of ints, texts, lists, tuples -/
def rAddS2 : R2 := fun x y H Q => ∃ i j, x = .str i ∧ y = .str j ∧ i.length + j.length ≤ sizeLine ∧ Q (.str (i ++ j)) H
def rAddU (K : PySem.W.Frag) : R2 := fun x y H Q => (rI0 (fun i j => .int (i + j)) x y H Q ∨ rCat x y H Q) ∨ rCatA K x y H Q
theorem op_addU {K : PySem.W.Frag} (hK : X.K = K := by rfl) : OpR X (binaryOp .Add) (rAddU K) := by subst hK; exact orOp (orOp op_add op_cat) op_catA
def rMulU (K : PySem.W.Frag) : R2 := fun x y H Q => (rI CMul (fun i j => .int (i * j)) x y H Q ∨ rRep x y H Q) ∨ rRepT K x y H Q
theorem op_mulU {K : PySem.W.Frag} (hK : X.K = K := by rfl) : OpR X (binaryOp .Mult) (rMulU K) := by subst hK; exact orOp (orOp op_mul op_rep) op_repT
def rLtU : R2 := fun x y H Q => rI0 (fun i j => .bl (decide (i < j))) x y H Q ∨ (∃ i j, x = .str i ∧ y = .str j ∧ Q (.bl (decide (i.cps.toList < j.cps.toList))) H)
theorem op_ltU : OpR X (compareOp .Lt) rLtU := orOp op_lt op_lt_str
def rLeU : R2 := fun x y H Q => rI0 (fun i j => .bl (decide (i ≤ j))) x y H Q ∨ (∃ i j, x = .str i ∧ y = .str j ∧ Q (.bl (!decide (j.cps.toList < i.cps.toList))) H)
theorem op_leU : OpR X (compareOp .LtE) rLeU := orOp op_le op_le_str
abbrev rGtU : R2 := rI0 (fun i j => .bl (decide (j < i)))
theorem op_gtU : OpR X (compareOp .Gt) rGtU := op_gt
abbrev rGeU : R2 := rI0 (fun i j => .bl (decide (j ≤ i)))
theorem op_geU : OpR X (compareOp .GtE) rGeU := op_ge
def rEqU (K : PySem.W.Frag) : R2 := fun x y H Q => rEq x y H Q ∨ rEqD K x y H Q
theorem op_eqU {K : PySem.W.Frag} (hu : X.A.units + 64 < cLine) (hK : X.K = K := by rfl) : OpR X (compareOp .Eq) (rEqU K) := by subst hK; exact orOp op_eq (op_eqD hu)
def rNeU (K : PySem.W.Frag) : R2 := fun x y H Q => rNe x y H Q ∨ rNeD K x y H Q
theorem op_neU {K : PySem.W.Frag} (hu : X.A.units + 64 < cLine) (hK : X.K = K := by rfl) : OpR X (compareOp .NotEq) (rNeU K) := by subst hK; exact orOp op_ne (op_neD hu)
def rInU (K : PySem.W.Frag) (P : Program) (w : World) (neg : Bool) : R2 := fun x y H Q => rIn K neg x y H Q ∨ rSInK P w neg x y H Q
theorem op_inU {K : PySem.W.Frag} {P : Program} {w : World} (hK : X.K = K := by rfl) (hP : X.prog = P := by rfl) (hw : X.w = w := by rfl) : OpR X (compareOp .In) (rInU K P w false) := by subst hK hP hw; exact orOp op_in_seq or_sinK
theorem op_notInU {K : PySem.W.Frag} {P : Program} {w : World} (hK : X.K = K := by rfl) (hP : X.prog = P := by rfl) (hw : X.w = w := by rfl) : OpR X (compareOp .NotIn) (rInU K P w true) := by subst hK hP hw; exact orOp op_notIn_seq or_snotinK
theorem ix_U {K : PySem.W.Frag} (hK : X.K = K := by rfl) : IxR X (rIx K) := by subst hK; exact ix_seq
def rSlU (K : PySem.W.Frag) : V → Option Int → Option Int → Hp → VK → Prop := fun x lo hi H Q => rSlL K x lo hi H Q ∨ rSlA K x lo hi H Q
theorem sl_U {K : PySem.W.Frag} (hK : X.K = K := by rfl) : SlR X (rSlU K) := by subst hK; exact SlR.or sl_list sl_tupA
def rLenU (K : PySem.W.Frag) : List V → Hp → VK → Prop := fun xs H Q => ∃ x n, xs = [x] ∧ LenV K x H n ∧ Q (.int (n : Nat)) H
theorem call_lenU {K : PySem.W.Frag} (hK : X.K = K := by rfl) : CallR X (.builtin "len") (rLenU K) := by subst hK; exact call_len
def rIsiU (K : PySem.W.Frag) : List V → Hp → VK → Prop := fun xs H Q => rIsi K xs H Q ∨ rIsiT K xs H Q
theorem call_isiU {K : PySem.W.Frag} (hK : X.K = K := by rfl) : CallR X (.builtin "isinstance") (rIsiU K) := by subst hK; exact orCall call_isi call_isiT
def rIntU : List V → Hp → VK → Prop := fun xs H Q => (∃ i, xs = [.int i] ∧ Q (.int i) H) ∨ ∃ k, xs = [.bl k] ∧ Q (.int (if k then 1 else 0)) H
theorem call_intU : CallR X (.type "int") rIntU := call_int1
def rMaxU : List V → Hp → VK → Prop := fun xs H Q => ∃ i j, xs = [.int i, .int j] ∧ Q (.int (if j > i then j else i)) H
theorem call_maxU (hc : X.calm = true) : CallR X (.builtin "max") rMaxU := call_max2 hc
def rMinU : List V → Hp → VK → Prop := fun xs H Q => ∃ i j, xs = [.int i, .int j] ∧ Q (.int (if j < i then j else i)) H
theorem call_minU (hc : X.calm = true) : CallR X (.builtin "min") rMinU := call_min2 hc
def rListU (K : PySem.W.Frag) : List V → Hp → VK → Prop := fun xs H Q => ∃ p ys, xs = [.ref p] ∧ (SqL K H p ys ∨ SqT K H p ys) ∧ ∀ l, H l = none → Q (.ref l) (upd H l (.lst ys))
theorem call_listU {K : PySem.W.Frag} (hK : X.K = K := by rfl) : CallR X (.type "list") (rListU K) := by subst hK; exact call_list_of
def rTupU (K : PySem.W.Frag) : List V → Hp → VK → Prop := fun xs H Q => ∃ p ys, xs = [.ref p] ∧ ((SqL K H p ys ∧ ∀ l, H l = none → Q (.ref l) (upd H l (.tup ys))) ∨ (SqT K H p ys ∧ Q (.ref p) H))
theorem call_tupU {K : PySem.W.Frag} (hK : X.K = K := by rfl) : CallR X (.type "tuple") (rTupU K) := by subst hK; exact call_tuple_of
end
/-! ### evaluation -/
section
variable {K : PySem.W.Frag} {H H1 H2 : Hp} {Q : VK} {x y v : V} {a b p q l : Addr} {xs ys : List V} {i j : Int} {z z2 : Str} {P : Program} {w : World}
theorem x_addI : rAddU K (.int i) (.int j) H Q ↔ Q (.int (i + j)) H := by
  constructor
  · rintro ((⟨_, _, h1, h2, h⟩ | ⟨_, _, _, _, h1, _⟩) | ⟨_, _, _, _, h1, _⟩)
    · cases h1; cases h2; exact h
    · cases h1
    · cases h1
  · exact fun h => .inl (.inl ⟨i, j, rfl, rfl, h⟩)
theorem x_mulI : rMulU K (.int i) (.int j) H Q ↔ CMul i j ∧ Q (.int (i * j)) H := by
  constructor
  · rintro ((⟨_, _, h1, h2, h3, h⟩ | ⟨_, _, _, h1, _⟩) | ⟨_, _, _, h1, _⟩)
    · cases h1; cases h2; exact ⟨h3, h⟩
    · cases h1
    · cases h1
  · exact fun h => .inl (.inl ⟨i, j, rfl, rfl, h.1, h.2⟩)
theorem x_rI {C : Int → Int → Prop} {g : Int → Int → V} : rI C g (.int i) (.int j) H Q ↔ C i j ∧ Q (g i j) H := by
  constructor
  · rintro ⟨_, _, h1, h2, h3, h⟩
    cases h1; cases h2; exact ⟨h3, h⟩
  · exact fun h => ⟨i, j, rfl, rfl, h.1, h.2⟩
theorem x_rI0 {g : Int → Int → V} : rI0 g (.int i) (.int j) H Q ↔ Q (g i j) H := by
  constructor
  · rintro ⟨_, _, h1, h2, h⟩
    cases h1; cases h2; exact h
  · exact fun h => ⟨i, j, rfl, rfl, h⟩
theorem x_ltI : rLtU (.int i) (.int j) H Q ↔ Q (.bl (decide (i < j))) H := by
  constructor
  · rintro (⟨_, _, h1, h2, h⟩ | ⟨_, _, h1, _⟩)
    · cases h1; cases h2; exact h
    · cases h1
  · exact fun h => .inl ⟨i, j, rfl, rfl, h⟩
theorem x_leI : rLeU (.int i) (.int j) H Q ↔ Q (.bl (decide (i ≤ j))) H := by
  constructor
  · rintro (⟨_, _, h1, h2, h⟩ | ⟨_, _, h1, _⟩)
    · cases h1; cases h2; exact h
    · cases h1
  · exact fun h => .inl ⟨i, j, rfl, rfl, h⟩
theorem x_ltS : rLtU (.str z) (.str z2) H Q ↔ Q (.bl (decide (z.cps.toList < z2.cps.toList))) H := by
  constructor
  · rintro (⟨_, _, h1, _⟩ | ⟨_, _, h1, h2, h⟩)
    · cases h1
    · cases h1; cases h2; exact h
  · exact fun h => .inr ⟨z, z2, rfl, rfl, h⟩
theorem x_leS : rLeU (.str z) (.str z2) H Q ↔ Q (.bl (!decide (z2.cps.toList < z.cps.toList))) H := by
  constructor
  · rintro (⟨_, _, h1, _⟩ | ⟨_, _, h1, h2, h⟩)
    · cases h1
    · cases h1; cases h2; exact h
  · exact fun h => .inr ⟨z, z2, rfl, rfl, h⟩
theorem dp_int {d : PyData} (h : Dp K H (.int i) d) : d = .int i := by cases h; rfl
theorem dp_str {d : PyData} (h : Dp K H (.str z) d) : d = .str z := by cases h; rfl
theorem dp_bl {c : Bool} {d : PyData} (h : Dp K H (.bl c) d) : d = .bool c := by cases h; rfl
theorem dp_non {d : PyData} (h : Dp K H .non d) : d = .none := by cases h; rfl
theorem eqv_int : PyData.eqv (.int i) (.int j) = decide (V.int i = V.int j) := by
  unfold PyData.eqv
  rw [dec_int]
theorem eqv_str : PyData.eqv (.str z) (.str z2) = decide (V.str z = V.str z2) := by
  unfold PyData.eqv
  rw [dec_str]
theorem eqv_bl {c d : Bool} : PyData.eqv (.bool c) (.bool d) = decide (V.bl c = V.bl d) := by
  unfold PyData.eqv
  rw [dec_bl]
theorem x_eqI : rEqU K (.int i) (.int j) H Q ↔ Q (.bl (decide (i = j))) H := by
  have e0 : decide (V.int i = V.int j) = decide (i = j) := by simp
  constructor
  · rintro (⟨_, h⟩ | ⟨d, e, h1, h2, _, _, h⟩)
    · rw [e0] at h; exact h
    · rw [dp_int h1, dp_int h2, eqv_int, e0] at h; exact h
  · exact fun h => .inl ⟨rfl, by rw [e0]; exact h⟩
theorem x_neI : rNeU K (.int i) (.int j) H Q ↔ Q (.bl (!decide (i = j))) H := by
  have e0 : decide (V.int i = V.int j) = decide (i = j) := by simp
  constructor
  · rintro (⟨_, h⟩ | ⟨d, e, h1, h2, _, _, h⟩)
    · rw [e0] at h; exact h
    · rw [dp_int h1, dp_int h2, eqv_int, e0] at h; exact h
  · exact fun h => .inl ⟨rfl, by rw [e0]; exact h⟩
theorem x_eqS : rEqU K (.str z) (.str z2) H Q ↔ Q (.bl (decide (z = z2))) H := by
  have e0 : decide (V.str z = V.str z2) = decide (z = z2) := by simp
  constructor
  · rintro (⟨_, h⟩ | ⟨d, e, h1, h2, _, _, h⟩)
    · rw [e0] at h; exact h
    · rw [dp_str h1, dp_str h2, eqv_str, e0] at h; exact h
  · exact fun h => .inl ⟨rfl, by rw [e0]; exact h⟩
theorem x_eqB {c d : Bool} : rEqU K (.bl c) (.bl d) H Q ↔ Q (.bl (decide (c = d))) H := by
  have e0 : decide (V.bl c = V.bl d) = decide (c = d) := by simp
  constructor
  · rintro (⟨_, h⟩ | ⟨d, e, h1, h2, _, _, h⟩)
    · rw [e0] at h; exact h
    · rw [dp_bl h1, dp_bl h2, eqv_bl, e0] at h; exact h
  · exact fun h => .inl ⟨rfl, by rw [e0]; exact h⟩
theorem x_neB {c d : Bool} : rNeU K (.bl c) (.bl d) H Q ↔ Q (.bl (!decide (c = d))) H := by
  have e0 : decide (V.bl c = V.bl d) = decide (c = d) := by simp
  constructor
  · rintro (⟨_, h⟩ | ⟨d, e, h1, h2, _, _, h⟩)
    · rw [e0] at h; exact h
    · rw [dp_bl h1, dp_bl h2, eqv_bl, e0] at h; exact h
  · exact fun h => .inl ⟨rfl, by rw [e0]; exact h⟩
def rLst (xs : List V) (H : Hp) (Q : VK) : Prop := xs.length ≤ sizeLine ∧ ∀ p, H p = none → Q (.ref p) (upd H p (.lst xs))
def rTup (xs : List V) (H : Hp) (Q : VK) : Prop := xs.length ≤ sizeLine ∧ ∀ p, H p = none → Q (.ref p) (upd H p (.tup xs))
theorem x_tLst {t : TA} {σ : L2.St} : tLst t σ H Q = t σ H fun xs H1 => rLst xs H1 Q := rfl
theorem x_tTup {t : TA} {σ : L2.St} : tTup t σ H Q = t σ H fun xs H1 => rTup xs H1 Q := rfl
theorem x_new {o : HO} (k : ∀ p H', H p = none → Ex H H' → H' p = some o → Q (.ref p) H') : ∀ p, H p = none → Q (.ref p) (upd H p o) := fun p hp => k p _ hp (Ex.new hp) upd_same
theorem small {n : Nat} (h : n ≤ 1000000) : n ≤ sizeLine := by rw [sizeLine_eq]; omega
theorem x_lst (hl : xs.length ≤ 1000000) (k : ∀ p H', H p = none → Ex H H' → H' p = some (.lst xs) → Q (.ref p) H') : rLst xs H Q := ⟨small hl, x_new k⟩
theorem x_tup (hl : xs.length ≤ 1000000) (k : ∀ p H', H p = none → Ex H H' → H' p = some (.tup xs) → Q (.ref p) H') : rTup xs H Q := ⟨small hl, x_new k⟩
/-! subscripts -/
theorem x_ixL (h : SqL K H p xs) (e : atI xs i = some v) (k : Q v H) : rIx K (.ref p) (.int i) H Q := .inl ⟨p, xs, i, v, rfl, rfl, h, e, k⟩
theorem x_ixT (h : SqT K H p xs) (e : atI xs i = some v) (k : Q v H) : rIx K (.ref p) (.int i) H Q := .inr (.inl ⟨p, xs, i, v, rfl, rfl, h, e, k⟩)
theorem x_cat (h1 : H p = some (.lst xs)) (h2 : H q = some (.lst ys)) (hl : xs.length + ys.length ≤ 1000000) (k : ∀ l H', H l = none → Ex H H' → H' l = some (.lst (xs ++ ys)) → Q (.ref l) H') : rAddU K (.ref p) (.ref q) H Q :=
  .inl (.inr ⟨p, q, xs, ys, rfl, rfl, h1, h2, small hl, x_new k⟩)
theorem x_catT (h1 : SqT K H p xs) (h2 : SqT K H q ys) (hl : xs.length + ys.length ≤ 1000000) (k : ∀ l H', (∀ x o, H x = some o → H' x = some o) → SqT K H' l (xs ++ ys) → Q (.ref l) H') : rAddU K (.ref p) (.ref q) H Q := by
  refine .inr ⟨p, q, xs, ys, rfl, rfl, h1, h2, small hl, fun e => ?_, fun e e2 => ?_, fun e e2 l hl => ?_⟩
  · subst e; exact k q H (fun _ _ h => h) h2
  · subst e2; exact k p H (fun _ _ h => h) (by rw [List.append_nil]; exact h1)
  · exact k l _ (fun x o h => by rw [upd_ne (ne_of_none h hl)]; exact h) (SqT.of upd_same)
theorem x_lenL (h : SqL K H p xs) (k : Q (.int (xs.length : Nat)) H) : rLenU K [V.ref p] H Q := ⟨_, xs.length, rfl, .inl ⟨xs, h, rfl⟩, k⟩
theorem x_lenT (h : SqT K H p xs) (k : Q (.int (xs.length : Nat)) H) : rLenU K [V.ref p] H Q := ⟨_, xs.length, rfl, .inr ⟨xs, h, rfl⟩, k⟩
theorem x_lenS (h : z.length ≤ sizeLine) (k : Q (.int (z.length : Nat)) H) : rLenU K [V.str z] H Q := ⟨_, z.length, rfl, ⟨h, rfl⟩, k⟩
theorem x_int : rIntU [.int i] H Q ↔ Q (.int i) H := by
  constructor
  · rintro (⟨_, h1, h⟩ | ⟨_, h1, _⟩)
    · cases h1; exact h
    · cases h1
  · exact fun h => .inl ⟨_, rfl, h⟩
theorem x_max : rMaxU [.int i, .int j] H Q ↔ Q (.int (if j > i then j else i)) H := by
  constructor
  · rintro ⟨_, _, h1, h⟩
    cases h1; exact h
  · exact fun h => ⟨_, _, rfl, h⟩
theorem x_min : rMinU [.int i, .int j] H Q ↔ Q (.int (if j < i then j else i)) H := by
  constructor
  · rintro ⟨_, _, h1, h⟩
    cases h1; exact h
  · exact fun h => ⟨_, _, rfl, h⟩
theorem x_listL (h : SqL K H p xs) (k : ∀ l H', H l = none → Ex H H' → H' l = some (.lst xs) → Q (.ref l) H') : rListU K [.ref p] H Q := ⟨p, xs, rfl, .inl h, x_new k⟩
theorem x_listT (h : SqT K H p xs) (k : ∀ l H', H l = none → Ex H H' → H' l = some (.lst xs) → Q (.ref l) H') : rListU K [.ref p] H Q := ⟨p, xs, rfl, .inr h, x_new k⟩
theorem x_tupL (h : SqL K H p xs) (k : ∀ l H', H l = none → Ex H H' → H' l = some (.tup xs) → Q (.ref l) H') : rTupU K [.ref p] H Q := ⟨p, xs, rfl, .inl ⟨h, x_new k⟩⟩
theorem x_tupT (h : SqT K H p xs) (k : Q (.ref p) H) : rTupU K [.ref p] H Q := ⟨p, xs, rfl, .inr ⟨h, k⟩⟩
theorem x_setL {n : Nat} {k : Hp → Prop} (h : H p = some (.lst xs)) (hj : ixN xs.length i = some n) (q : ∀ H', (∀ x o, x ≠ p → H x = some o → H' x = some o) → H' p = some (.lst (xs.set n v)) → k H') : rSetL (.ref p) (.int i) v H k :=
  ⟨p, xs, i, n, rfl, rfl, h, hj, q _ (fun x o hx e => by rw [upd_ne hx]; exact e) upd_same⟩
theorem ixN_in {n : Nat} {i : Int} (h0 : 0 ≤ i) (h1 : i < n) : ixN n i = some i.toNat := by unfold ixN; rw [if_pos h0, if_pos h1]
theorem atI_in {xs : List V} {i : Int} {v : V} (h0 : 0 ≤ i) (h : xs[i.toNat]? = some v) : atI xs i = some v := by
  have h1 : i.toNat < xs.length := (List.getElem?_eq_some_iff.mp h).1
  unfold atI
  rw [ixN_in h0 (by omega)]
  exact h
theorem x_isiI : rIsiU K [.int i, .ty "str"] H Q ↔ Q (.bl false) H := by
  constructor
  · rintro (⟨x, c, t, u, b, h1, h2, h3, h4, h⟩ | ⟨x, tp, cs, t, us, b, h1, h2⟩)
    · cases h1
      cases h2
      cases h3 with
      | base h3 =>
        cases h3
        have e : PySem.W.kitOne K (.type "int") (.type "str") = some false := by rfl
        rw [e] at h4; cases h4; exact h
    · cases h1
  · exact fun h => .inl ⟨_, _, .type "int", .type "str", false, rfl, .ty _, .base (.int i), rfl, h⟩
theorem x_isiS : rIsiU K [.str z, .ty "str"] H Q ↔ Q (.bl true) H := by
  constructor
  · rintro (⟨x, c, t, u, b, h1, h2, h3, h4, h⟩ | ⟨x, tp, cs, t, us, b, h1, h2⟩)
    · cases h1
      cases h2
      cases h3 with
      | base h3 =>
        cases h3
        have e : PySem.W.kitOne K (.type "str") (.type "str") = some true := by rfl
        rw [e] at h4; cases h4; exact h
    · cases h1
  · exact fun h => .inl ⟨_, _, .type "str", .type "str", true, rfl, .ty _, .base (.str z), rfl, h⟩
end
end FB
set_option Elab.async false
set_option linter.all false
set_option maxRecDepth 100000
set_option maxHeartbeats 4000000
/-! Data that never changes: ints, texts, tuples of such. -/
namespace L2
open PySem PySem.Spec PyProof.Rows Evl FB
def isConst : HO → Prop
  | .tup _ => True
  | .frz _ _ => True
  | _ => False
/-- what never changes stands -/
def TX (H H' : Hp) : Prop := ∀ x o, H x = some o → isConst o → H' x = some o
/-- all but what stands at a and b -/
def Ex2 (a b : Addr) (H H' : Hp) : Prop := ∀ x o, H x = some o → x ≠ a → x ≠ b → H' x = some o
section
variable {K : PySem.W.Frag} {H H1 H' : Hp} {a b p x : Addr} {xs ys : List V} {v : V}
theorem TX.refl (H : Hp) : TX H H := fun _ _ h _ => h
theorem TX.trans (e : TX H H1) (f : TX H1 H') : TX H H' := fun x o h c => f x o (e x o h c) c
theorem TX.of (e : Ex H H') : TX H H' := fun x o h _ => e x o h
theorem TX.new {o : HO} (h : H p = none) : TX H (upd H p o) := TX.of (Ex.new h)
theorem TX.but (h : H p = some (.lst xs)) (e : ∀ x o, x ≠ p → H x = some o → H' x = some o) : TX H H' := fun x o hx c => e x o (fun z => by subst z; rw [h] at hx; cases hx; exact c) hx
theorem TX.upd {o : HO} (h : H p = some (.lst xs)) : TX H (upd H p o) := TX.but h fun x u hx e => by rw [upd_ne hx]; exact e
theorem TX.two (h : H a = some (.lst xs)) (h2 : H b = some (.lst ys)) (e : Ex2 a b H H') : TX H H' := fun x o hx c =>
  e x o hx (fun z => by subst z; rw [h] at hx; cases hx; exact c) (fun z => by subst z; rw [h2] at hx; cases hx; exact c)
theorem TX.rd {u : HO} (e : TX H H') (c : isConst u) (h : Rd H a u) : Rd H' a u := by
  rcases h with h | ⟨o, h⟩
  · exact .inl (e a _ h c)
  · exact .inr ⟨o, e a _ h trivial⟩
theorem TX.t (e : TX H H') (h : SqT K H a xs) : SqT K H' a xs := by
  rcases h with h | h
  · exact .inl (e.rd trivial h)
  · exact .inr h
theorem Ex2.refl (H : Hp) : Ex2 a b H H := fun _ _ h _ _ => h
theorem Ex2.of (e : Ex H H') : Ex2 a b H H' := fun x o h _ _ => e x o h
theorem Ex2.trans (e : Ex2 a b H H1) (f : Ex2 a b H1 H') : Ex2 a b H H' := fun x o h ha hb => f x o (e x o h ha hb) ha hb
theorem Ex2.ex (e : Ex2 a b H H1) (f : Ex H1 H') : Ex2 a b H H' := fun x o h ha hb => f x o (e x o h ha hb)
/-- ints, texts, tuples of such -/
inductive TupD : PyData → Prop
  | non : TupD .none
  | bl (b : Bool) : TupD (.bool b)
  | int (i : Int) : TupD (.int i)
  | str (x : Str) : TupD (.str x)
  | tup {ds : List PyData} : (∀ d ∈ ds, TupD d) → TupD (.tuple ds)
theorem TupD.all {ds : List PyData} (h : TupD (.tuple ds)) : ∀ d ∈ ds, TupD d := by
  cases h with
  | tup h => exact h
mutual
theorem Dp.tx (e : TX H H') : ∀ {v : V} {d : PyData}, Dp K H v d → TupD d → Dp K H' v d
  | _, _, .non, _ => .non
  | _, _, .bl b, _ => .bl b
  | _, _, .int i, _ => .int i
  | _, _, .str x, _ => .str x
  | _, _, .lst _ _, t => nomatch t
  | _, _, .tup h hs, .tup hd => .tup (e.t h) (DpAll.tx e hs hd)
theorem DpAll.tx (e : TX H H') : ∀ {vs : List V} {ds : List PyData}, DpAll K H vs ds → (∀ d ∈ ds, TupD d) → DpAll K H' vs ds
  | _, _, .nil, _ => .nil
  | _, _, .cons h hs, t => .cons (Dp.tx e h (t _ (List.mem_cons_self ..))) (DpAll.tx e hs fun d hd => t d (List.mem_cons_of_mem _ hd))
end
mutual
theorem Dp.ex (e : Ex H H') : ∀ {v : V} {d : PyData}, Dp K H v d → Dp K H' v d
  | _, _, .non => .non
  | _, _, .bl b => .bl b
  | _, _, .int i => .int i
  | _, _, .str x => .str x
  | _, _, .lst h hs => .lst (ex_l e h) (DpAll.ex e hs)
  | _, _, .tup h hs => .tup (ex_t e h) (DpAll.ex e hs)
theorem DpAll.ex (e : Ex H H') : ∀ {vs : List V} {ds : List PyData}, DpAll K H vs ds → DpAll K H' vs ds
  | _, _, .nil => .nil
  | _, _, .cons h hs => .cons (Dp.ex e h) (DpAll.ex e hs)
end
theorem Dp.tup_inv {ds : List PyData} (h : Dp K H v (.tuple ds)) : ∃ a xs, v = .ref a ∧ SqT K H a xs ∧ DpAll K H xs ds := by
  cases h with
  | tup h hs => exact ⟨_, _, rfl, h, hs⟩
theorem Dp.int_inv {i : Int} (h : Dp K H v (.int i)) : v = .int i := by cases h; rfl
theorem Dp.str_inv {i : Str} (h : Dp K H v (.str i)) : v = .str i := by cases h; rfl
theorem DpAll.len : ∀ {vs : List V} {ds : List PyData}, DpAll K H vs ds → vs.length = ds.length
  | _, _, .nil => rfl
  | _, _, .cons _ hs => congrArg (· + 1) hs.len
theorem DpAll.get : ∀ {vs : List V} {ds : List PyData} {i : Nat} {d : PyData}, DpAll K H vs ds → ds[i]? = some d → ∃ v, vs[i]? = some v ∧ Dp K H v d
  | _, _, _, _, .nil, e => by simp at e
  | _, _, 0, _, .cons h _, e => by simp at e; subst e; exact ⟨_, rfl, h⟩
  | _, _, i + 1, _, .cons _ hs, e => by
    obtain ⟨v, h1, h2⟩ := DpAll.get (i := i) hs (by simpa using e)
    exact ⟨v, by simpa using h1, h2⟩
theorem DpAll.get' : ∀ {vs : List V} {ds : List PyData} {i : Nat} {v : V}, DpAll K H vs ds → vs[i]? = some v → ∃ d, ds[i]? = some d ∧ Dp K H v d
  | _, _, _, _, .nil, e => by simp at e
  | _, _, 0, _, .cons h _, e => by simp at e; subst e; exact ⟨_, rfl, h⟩
  | _, _, i + 1, _, .cons _ hs, e => by
    obtain ⟨v, h1, h2⟩ := DpAll.get' (i := i) hs (by simpa using e)
    exact ⟨v, by simpa using h1, h2⟩
theorem DpAll.append : ∀ {vs ws : List V} {ds es : List PyData}, DpAll K H vs ds → DpAll K H ws es → DpAll K H (vs ++ ws) (ds ++ es)
  | _, _, _, _, .nil, h => h
  | _, _, _, _, .cons h hs, k => .cons h (hs.append k)
theorem DpAll.take : ∀ {vs : List V} {ds : List PyData} (n : Nat), DpAll K H vs ds → DpAll K H (vs.take n) (ds.take n)
  | _, _, 0, _ => .nil
  | _, _, _ + 1, .nil => .nil
  | _, _, n + 1, .cons h hs => .cons h (hs.take n)
theorem DpAll.drop : ∀ {vs : List V} {ds : List PyData} (n : Nat), DpAll K H vs ds → DpAll K H (vs.drop n) (ds.drop n)
  | _, _, 0, h => h
  | _, _, _ + 1, .nil => .nil
  | _, _, n + 1, .cons _ hs => hs.drop n
end
/-! ### a place, a station, a network -/
abbrev Net := List (List Key)
def keyD : Key → PyData
  | .inl i => .int i
  | .inr x => .str x
def stD (s : List Key) : PyData := .tuple (s.map keyD)
def netD (N : Net) : PyData := .tuple (N.map stD)
section
variable {K : PySem.W.Frag} {H H' : Hp} {v : V}
theorem keyD_t : ∀ k : Key, TupD (keyD k)
  | .inl i => .int i
  | .inr x => .str x
theorem stD_t (s : List Key) : TupD (stD s) := .tup fun d hd => by
  obtain ⟨k, _, rfl⟩ := List.mem_map.mp hd
  exact keyD_t k
theorem netD_t (N : Net) : TupD (netD N) := .tup fun d hd => by
  obtain ⟨k, _, rfl⟩ := List.mem_map.mp hd
  exact stD_t k
theorem key_dp : ∀ k : Key, Dp K H (kV k) (keyD k)
  | .inl i => .int i
  | .inr x => .str x
theorem keys_dp : ∀ s : List Key, DpAll K H (s.map kV) (s.map keyD)
  | [] => .nil
  | k :: s => .cons (key_dp k) (keys_dp s)
theorem dp_key {k : Key} (h : Dp K H v (keyD k)) : v = kV k := by
  cases k with
  | inl i => exact h.int_inv
  | inr x => exact h.str_inv
theorem dp_keys : ∀ {s : List Key} {vs : List V}, DpAll K H vs (s.map keyD) → vs = s.map kV
  | [], _, .nil => rfl
  | k :: s, _, .cons h hs => by rw [dp_key h, dp_keys hs]; rfl
/-- a station of the network stands at v -/
abbrev StAt (K : PySem.W.Frag) (H : Hp) (v : V) (s : List Key) : Prop := Dp K H v (stD s)
abbrev NetAt (K : PySem.W.Frag) (H : Hp) (v : V) (N : Net) : Prop := Dp K H v (netD N)
theorem StAt.at {s : List Key} (h : StAt K H v s) : ∃ a, v = .ref a ∧ SqT K H a (s.map kV) := by
  obtain ⟨a, xs, e, h1, h2⟩ := Dp.tup_inv h
  rw [dp_keys h2] at h1
  exact ⟨a, e, h1⟩
theorem StAt.of {a : Addr} {s : List Key} (h : SqT K H a (s.map kV)) : StAt K H (.ref a) s := .tup h (keys_dp s)
theorem NetAt.at {N : Net} (h : NetAt K H v N) : ∃ a ts, v = .ref a ∧ SqT K H a ts ∧ DpAll K H ts (N.map stD) := Dp.tup_inv h
theorem NetAt.tx {N : Net} (e : TX H H') (h : NetAt K H v N) : NetAt K H' v N := Dp.tx e h (netD_t N)
theorem StAt.tx {s : List Key} (e : TX H H') (h : StAt K H v s) : StAt K H' v s := Dp.tx e h (stD_t s)
end
end L2
set_option Elab.async false
set_option linter.all false
set_option maxRecDepth 100000
set_option maxHeartbeats 4000000
/-! Loops and comprehensions, folded. -/
namespace FB
open PySem PySem.Spec PyProof.Rows L2 Evl
/-- a loop's reading -/
def Loop (J : It) (g : TG) (tb : TS) (D : Ends) (σ : L2.St) (H1 : Hp) : Prop := ∃ W : Nat → Nat → L2.St → Hp → Prop, (∃ m, W 0 m σ H1) ∧ ∀ i m σ H, W i m σ H →
  (J.stop i H ∧ D.nx σ H) ∨ (J.go i H ∧ ∃ N : L2.St → Hp → Prop, (∀ σ' H', N σ' H' → ∃ m', m' < m ∧ W (i + 1) m' σ' H') ∧ ∀ x H', J.yld i H x H' → g x σ H' fun σ2 H2 => tb { D with nx := N, ct := N, bk := D.nx } σ2 H2)
theorem x_tFor {wi : TI} {g : TG} {tb : TS} {D : Ends} {σ : L2.St} {H : Hp} : tFor wi g tb D σ H = wi σ H fun J H1 => Loop J g tb D σ H1 := rfl
theorem loop_it {J : It} {n : Nat} {G : Hp → Prop} {Y : Nat → Hp → V → Hp → Prop} {g : TG} {tb : TS} {D : Ends} {σ : L2.St} {H : Hp} (w : Walk J n G Y) (Pv : Nat → L2.St → Hp → Prop) (h0 : Pv 0 σ H) (hG : ∀ i σ H, i ≤ n → Pv i σ H → G H)
    (hs : ∀ i x σ H H', i < n → Pv i σ H → Y i H x H' → g x σ H' fun σ2 H2 => tb { D with nx := Pv (i + 1), ct := Pv (i + 1), bk := D.nx } σ2 H2) (hd : ∀ σ H, Pv n σ H → D.nx σ H) : Loop J g tb D σ H := for_it w Pv h0 hG hs hd
/-- a comprehension's reading -/
def LcL (J : It) (g : TG) (tt : TT) (te : TE) (vs : List Nat) (σ : L2.St) (H1 : Hp) (Q : VK) : Prop := ∀ D, H1 D = none → ∃ W : Nat → Nat → Hp → Prop, (∃ m, W 0 m (upd H1 D (.lst []))) ∧ ∀ i m H, W i m H →
  (J.stop i H ∧ Q (.ref D) H) ∨ (J.go i H ∧ ∃ Nx : Hp → Prop, (∀ H', Nx H' → ∃ m', m' < m ∧ W (i + 1) m' H') ∧ ∀ x H', J.yld i H x H' → g x (wipe σ vs) H' fun σ2 H2 => wipe σ2 vs = wipe σ vs ∧ tt σ2 H2 fun b H3 =>
    if b = true then te σ2 H3 fun y H4 => ∃ acc, H4 D = some (.lst acc) ∧ acc.length < sizeLine ∧ Nx (upd H4 D (.lst (acc ++ [y]))) else Nx H3)
theorem x_tLc {wi : TI} {g : TG} {tt : TT} {te : TE} {vs : List Nat} {σ : L2.St} {H : Hp} {Q : VK} : tLc wi g tt te vs σ H Q = wi σ H fun J H1 => LcL J g tt te vs σ H1 Q := rfl
/-- the item goes to the list at D -/
def Push (D : Addr) (N : Hp → Prop) : VK := fun y H4 => ∃ acc, H4 D = some (.lst acc) ∧ acc.length < sizeLine ∧ N (upd H4 D (.lst (acc ++ [y])))
theorem x_push {D : Addr} {N : Hp → Prop} {y : V} {H : Hp} {acc : List V} (h : H D = some (.lst acc)) (hl : acc.length < 1000000) (k : ∀ H5, (∀ x o, x ≠ D → H x = some o → H5 x = some o) → H5 D = some (.lst (acc ++ [y])) → N H5) : Push D N y H :=
  ⟨acc, h, by rw [sizeLine_eq]; omega, k _ (fun x o hx e => by rw [upd_ne hx]; exact e) upd_same⟩
theorem lcl_it {J : It} {n : Nat} {G : Hp → Prop} {Y : Nat → Hp → V → Hp → Prop} {g : TG} {tt : TT} {te : TE} {vs : List Nat} {σ : L2.St} {H1 : Hp} {Q : VK} (w : Walk J n G Y) (Pv : Addr → Nat → Hp → Prop)
    (h0 : ∀ D H', H1 D = none → Ex H1 H' → H' D = some (.lst []) → Pv D 0 H') (hG : ∀ D i H, i ≤ n → Pv D i H → G H)
    (hs : ∀ D i x H H', H1 D = none → i < n → Pv D i H → Y i H x H' → g x (wipe σ vs) H' fun σ2 H2 => wipe σ2 vs = wipe σ vs ∧ tt σ2 H2 fun b H3 => if b = true then te σ2 H3 (Push D (Pv D (i + 1))) else Pv D (i + 1) H3)
    (hd : ∀ D H, H1 D = none → Pv D n H → Q (.ref D) H) : LcL J g tt te vs σ H1 Q := fun D hD =>
  lc_it w (Pv D) (h0 D _ hD (Ex.new hD) upd_same) (hG D) (fun i x H H' hi p y => hs D i x H H' hD hi p y) (fun H p => hd D H hD p)
section
variable {H : Hp} {p : Addr} {xs : List V} {v : V} {Q : VK}
theorem x_menu {K : PySem.W.Frag} {r : Int} (h : H p = some (.lst xs)) (r0 : 0 ≤ r) (r1 : r < xs.length) (k : ∀ v, xs[r.toNat]? = some v → v ∈ xs → Q v H) : rIx K (.ref p) (.int r) H Q := by
  have hr : r.toNat < xs.length := by omega
  exact x_ixL (SqL.of h) (atI_in r0 (by simp [hr])) (k xs[r.toNat] (by simp [hr]) (List.getElem_mem hr))
theorem x_tyL {K : PySem.W.Frag} (h : SqL K H p xs) : tyV K "list" (.ref p) H := .inl ⟨rfl, xs, h⟩
theorem x_append (h : H p = some (.lst xs)) (hl : xs.length < 1000000) (k : ∀ H', (∀ x o, x ≠ p → H x = some o → H' x = some o) → H' p = some (.lst (xs ++ [v])) → Q .non H') : rAppend (.ref p) [v] H Q :=
  ⟨p, xs, v, rfl, rfl, h, by rw [sizeLine_eq]; omega, k _ (fun x o hx e => by rw [upd_ne hx]; exact e) upd_same⟩
theorem x_never {D : Ends} {σ : L2.St} {H : Hp} : tNever D σ H = False := rfl
/-- a list or a tuple that is read -/
def SqA (K : PySem.W.Frag) (H : Hp) (p : Addr) (xs : List V) : Prop := SqL K H p xs ∨ SqT K H p xs
theorem SqA.ex {K : PySem.W.Frag} {H' : Hp} (h : SqA K H p xs) (e : Ex H H') : SqA K H' p xs := h.elim (fun h => .inl (ex_l e h)) (fun h => .inr (ex_t e h))
theorem x_ixA {K : PySem.W.Frag} {i : Int} (h : SqA K H p xs) (e : atI xs i = some v) (k : Q v H) : rIx K (.ref p) (.int i) H Q := h.elim (fun h => x_ixL h e k) (fun h => x_ixT h e k)
theorem x_lenA {K : PySem.W.Frag} (h : SqA K H p xs) (k : Q (.int (xs.length : Nat)) H) : rLenU K [.ref p] H Q := h.elim (fun h => x_lenL h k) (fun h => x_lenT h k)
theorem x_eqD {K : PySem.W.Frag} {x y : V} {d e : PyData} (h1 : Dp K H x d) (h2 : Dp K H y e) (s1 : SeqAt.shaped d = true) (s2 : SeqAt.shaped e = true) (k : Q (.bl (PyData.eqv d e)) H) : rEqU K x y H Q := .inr ⟨d, e, h1, h2, s1, s2, k⟩
theorem x_neD {K : PySem.W.Frag} {x y : V} {d e : PyData} (h1 : Dp K H x d) (h2 : Dp K H y e) (s1 : SeqAt.shaped d = true) (s2 : SeqAt.shaped e = true) (k : Q (.bl (!PyData.eqv d e)) H) : rNeU K x y H Q := .inr ⟨d, e, h1, h2, s1, s2, k⟩
def tyN : PyData → String
  | .none => "NoneType"
  | .bool _ => "bool"
  | .int _ => "int"
  | .str _ => "str"
  | .list _ => "list"
  | .tuple _ => "tuple"
  | .dict _ => "dict"
theorem dp_ty {K : PySem.W.Frag} {d : PyData} (h : Dp K H v d) : TyX K H v (.type (tyN d)) := by
  cases h with
  | non => exact .base .non
  | bl b => exact .base (.bl b)
  | int i => exact .base (.int i)
  | str x => exact .base (.str x)
  | lst h _ =>
    rcases h with (h | ⟨o, h⟩) | ⟨o, its, n, h1, h2, _⟩
    · exact .base (.lst h)
    · exact .base (.frz h)
    · exact .kList h1 h2
  | tup h _ =>
    rcases h with (h | ⟨o, h⟩) | ⟨o, its, n, h1, h2, _⟩
    · exact .base (.tup h)
    · exact .fTuple h
    · exact .kTuple h1 h2
theorem x_isD {K : PySem.W.Frag} {d : PyData} {T : String} {b : Bool} (h : Dp K H v d) (e : PySem.W.kitOne K (.type (tyN d)) (.type T) = some b) (k : Q (.bl b) H) : rIsiU K [v, .ty T] H Q := .inl ⟨_, _, _, _, b, rfl, .ty _, dp_ty h, e, k⟩
theorem x_isD2 {K : PySem.W.Frag} {d : PyData} {A B : String} {b : Bool} {tp : Addr} (h : Dp K H v d) (ht : H tp = some (.tup [.ty A, .ty B])) (e : PySem.W.kitAny K (.type (tyN d)) [.type A, .type B] = some b) (k : Q (.bl b) H) : rIsiU K [v, .ref tp] H Q :=
  .inr ⟨v, tp, [.ty A, .ty B], _, [.type A, .type B], b, rfl, ht, .cons (.ty _) (.cons (.ty _) .nil), dp_ty h, e, k⟩
theorem x_range1 {n : Int} {R : It → Hp → Prop} (h : -1000000000000000000 ≤ n ∧ n ≤ 1000000000000000000) (k : R (Itr 0 n.toNat) H) : ∃ j : Int, [V.int n] = [.int j] ∧ -(2 ^ 62) ≤ j ∧ j < 2 ^ 62 ∧ R (Itr 0 j.toNat) H := ⟨n, rfl, by omega, by omega, k⟩
end
/-- a list, a tuple, a text that is walked -/
def rIter (K : PySem.W.Frag) (x : V) (H : Hp) (R : It → Hp → Prop) : Prop := (∃ a xs, x = .ref a ∧ SqL K H a xs ∧ R (Itl K a) H) ∨ (∃ a xs, x = .ref a ∧ SqT K H a xs ∧ R (Itt K a) H) ∨ (∃ z, x = .str z ∧ R (Its z) H)
def iU (K : PySem.W.Frag) (te : TE) : TI := fun σ H R => te σ H fun x H1 => rIter K x H1 R
theorem pi_U {X : Cx} {tg e : Expr} {te : TE} {K : PySem.W.Frag} (he : PE X e te) (hK : X.K = K := by rfl) : PI X tg e (iU K te) := by
  subst hK
  refine ⟨fun pins s σ H R I h => ?_⟩
  refine thn (he.run pins s σ H _ I h) fun v s1 ⟨x, H1, I1, r1, q1⟩ => ?_
  rcases q1 with ⟨a, xs, e, hq, q⟩ | ⟨a, xs, e, hq, q⟩ | ⟨z, e, q⟩
  · subst e
    cases r1
    obtain ⟨its, rv, p, hz⟩ := I1.list hq
    refine wpAny_pyIter_list p.isList ?_
    refine ⟨s1.heap.objs.size, [s1.heap.objs.size], _, _, H1, rfl, I1.kept (t' := s1.toks) fun b o e => Heap.get?_push_of_some _ e, turn_list a _, ⟨_, Heap.get?_push_size _ rfl, rfl, rfl⟩, fun b hb => ?_, q⟩
    have e : b = s1.heap.objs.size := by simpa using hb
    subst e
    exact I1.fpOk (Nat.le_refl _) (I1.hok.fresh (Nat.le_refl _))
  · subst e
    cases r1
    obtain ⟨its, rv, p, hz⟩ := I1.tuple hq
    refine wpAny_pyIter_tuple (show s1.heap.IsTuple a its.toArray from p) ?_
    refine ⟨s1.heap.objs.size, [s1.heap.objs.size], _, _, H1, rfl, I1.kept (t' := s1.toks) fun b o e => Heap.get?_push_of_some _ e, turn_tuple a _, ⟨_, Heap.get?_push_size _ rfl, rfl, rfl⟩, fun b hb => ?_, q⟩
    have e : b = s1.heap.objs.size := by simpa using hb
    subst e
    exact I1.fpOk (Nat.le_refl _) (I1.hok.fresh (Nat.le_refl _))
  · subst e
    obtain ⟨t, rfl⟩ := r1
    cases ha : z.cps.all (· < 128)
    · exact wpAny_pyIter_wide ha (pi_one (tk := s1.toks) I1 _ (turn_str _ z t "str_iterator" (.inr rfl)) ⟨_, Heap.get?_push_size _ rfl, rfl, rfl⟩ q)
    · exact wpAny_pyIter_ascii ha (pi_one (tk := s1.toks) I1 _ (turn_str _ z t "str_ascii_iterator" (.inl rfl)) ⟨_, Heap.get?_push_size _ rfl, rfl, rfl⟩ q)
theorem x_itL {K : PySem.W.Frag} {H : Hp} {a : Addr} {xs : List V} {R : It → Hp → Prop} (h : SqL K H a xs) (k : R (Itl K a) H) : rIter K (.ref a) H R := .inl ⟨a, xs, rfl, h, k⟩
theorem x_itT {K : PySem.W.Frag} {H : Hp} {a : Addr} {xs : List V} {R : It → Hp → Prop} (h : SqT K H a xs) (k : R (Itt K a) H) : rIter K (.ref a) H R := .inr (.inl ⟨a, xs, rfl, h, k⟩)
theorem x_itS {K : PySem.W.Frag} {H : Hp} {z : Str} {R : It → Hp → Prop} : rIter K (.str z) H R ↔ R (Its z) H := by
  constructor
  · rintro (⟨_, _, e, _⟩ | ⟨_, _, e, _⟩ | ⟨_, e, h⟩)
    · cases e
    · cases e
    · cases e; exact h
  · exact fun h => .inr (.inr ⟨z, rfl, h⟩)
theorem call_allU {X : Cx} (hc : X.calm = true) {K : PySem.W.Frag} (hK : X.K = K := by rfl) : CallR X (.builtin "all") (rAll K) := by subst hK; exact cr_all hc
theorem call_anyU {X : Cx} (hc : X.calm = true) {K : PySem.W.Frag} (hK : X.K = K := by rfl) : CallR X (.builtin "any") (rAny K) := by subst hK; exact cr_any hc
end FB
set_option Elab.async false
set_option linter.all false
set_option maxRecDepth 100000
set_option maxHeartbeats 4000000
namespace K
open PySem PySem.Spec PyProof.Rows L2 Evl FB
def top (i : Nat) : Stmt := PySem.Challenge.pw_fullboats_k17_differences_found.main.body.getD i (.Pass ⟨0, 0, 0, 0⟩)
/-- a def of the text as it stands behind the top -/
structure Df (K : PySem.W.Frag) (mg : Str → Option Value) (x : Str) (st : Stmt) (ps : List Str) (f : Addr) (fd : FuncData) : Prop where
  F : Fun K x x st f fd
  g : mg x = some (.ref f)
  b : Binds K fd ps []
structure Bt (mg : Str → Option Value) : Prop where
  b_range : mg "range" = none
  b_tuple : mg "tuple" = none
  b_min : mg "min" = none
  b_isinstance : mg "isinstance" = none
  b_str : mg "str" = none
  b_dict : mg "dict" = none
  b_bool : mg "bool" = none
  b_sorted : mg "sorted" = none
  b_set : mg "set" = none
  b_enumerate : mg "enumerate" = none
  b_all : mg "all" = none
  b_len : mg "len" = none
  b_list : mg "list" = none
  b_int : mg "int" = none
  b_max : mg "max" = none
  b_sum : mg "sum" = none
  b_zip : mg "zip" = none
  b_abs : mg "abs" = none
  b_reversed : mg "reversed" = none
  b_any : mg "any" = none
local macro_rules | `(tactic| walk_at "run") => `(tactic| try simp only [tSeq, tAsg, tVar, tC, gName, L2.start, List.map_cons, List.map_nil, List.cons_append, List.nil_append, List.length_cons, List.length_nil, List.replicate, List.getElem?_cons_zero, List.getElem?_cons_succ, Option.some.injEq, exists_eq_left', List.set_cons_zero, List.set_cons_succ, V.ref.injEq, tRet, x_tLst, x_tTup, tCons, tCB, tNil, tOp, x_addI, x_mulI, x_rI, x_rI0, x_ltI, x_leI, x_ltS, x_leS, x_eqI, x_neI, x_eqS, x_eqB, x_neB, x_isiI, x_isiS, x_int, x_max, x_min, cxOf, tIfS, tNext, tTest, V.bl.injEq, decide_eq_true_eq, gSub, tAnd, tOr, tNot, tB, tDrop, tBM, x_tFor, iRng1, iList, iTup, x_tLc, tYes, tCall, tIf, tAndV, tOrV, tNotV, tChain, List.append_nil, tUn, if_true, wipe, true_and, x_never, iU, x_itS])
abbrev s_l_mix : Stmt := top 36
theorem sc_l_mix : FnScope ["_law_script", "_law_seed", "_law_mixed", "_law_cell"] ["_law_script", "_law_seed"] (defScope s_l_mix) := ⟨rfl, rfl, rfl, by decide +kernel, rfl, by decide +kernel, by decide +kernel⟩
/-- the law's source of draws: its list at a, its cells at b -/
def Gen (H : Hp) (a b : Addr) : Prop := ∃ (m c : Int) (ns : List Int), H a = some (.lst [.int m, .ref b, .int c]) ∧ H b = some (.lst (ns.map V.int)) ∧ ns.length ≤ 63
section
variable {P : Program} {w : World} {K : PySem.W.Frag} {mg : Str → Option Value} {base : Heap}
def spMix (K : PySem.W.Frag) : Sp := fun vs H Q _ => ∃ (a : Addr) (ns : List Int) (z : Int), vs = [.ref a, .int z] ∧ SqL K H a (ns.map V.int) ∧ ns.length ≤ 63 ∧ ∀ (p b : Addr) (H' : Hp), Ex H H' → H p = none → H b = none → Gen H' p b → Q (.ref p) H'
theorem ok_l_mix {f : Addr} {fd : FuncData} (D : Df K mg "_law_mix" s_l_mix ["_law_script", "_law_seed"] f fd) (T : Bt mg) : FnOk P w K mg base CX0 1 f fd ["_law_script", "_law_seed"] (spMix K) := by
  refine D.F.ok sc_l_mix (fun vs H Q E h => ?_) (fun cdv A outer s H vs Q E hr h => ?_)
  · obtain ⟨a, ns, z, rfl, _⟩ := h
    rfl
  · obtain ⟨a, ns, z, rfl, hS, hl, k⟩ := h
    refine ⟨_, (pss_cons (ps_set (i := 2) sc_l_mix.nd rfl (Or.inl rfl) (pv 1))
      (pss_cons (ps_for PassesOwn.never rfl (pi_U (K := K) (pv 0)) (pg_name (i := 3) sc_l_mix.nd rfl (Or.inl rfl)) (pss_one (ps_set (i := 2) sc_l_mix.nd rfl (Or.inl rfl) (pe_op op_modN (pe_op (op_addU (K := K)) (pe_op (op_addU (K := K)) (pe_op (op_mulU (K := K)) (pv 2) pe_int) (pe_op op_modN (pv 3) pe_int)) pe_int) pe_int))))
      (pss_one (ps_ret (pe_lst (pa_cons (pv 2) (pa_cons (pe_callTy (call_listU (K := K)) (by rfl) T.b_list (by decide +kernel) (pa_cons (pv 0) pa_nil)) (pa_cons pe_int pa_nil)))))))), ?_⟩
    walk_at "run"
    refine x_itL hS (loop_it (walk_list (xs := ns.map V.int)) (fun i σ H' => ∃ (m : Int) (u : Option V), σ = [some (.ref a), some (.int z), some (.int m), u] ∧ H' = H) ⟨z, _, rfl, rfl⟩ (fun i σ H' _ ⟨_, _, _, e⟩ => e ▸ hS) ?_ ?_)
    · rintro i y σ H' _ _ ⟨m, u, rfl, rfl⟩ ⟨rfl, hi⟩
      obtain ⟨n, _, rfl⟩ : ∃ n, ns[i]? = some n ∧ V.int n = y := by simpa using hi
      walk_at "run"
      refine ⟨.inr (by decide), by decide, by decide, _, _, rfl, trivial⟩
    · rintro σ H' ⟨m, u, rfl, rfl⟩
      walk_at "run"
      refine x_listL hS fun l H1 nl e1 h1 => ?_
      walk_at "run"
      refine x_lst (by simp) fun p H2 np e2 h2 => ?_
      exact k p l _ (e1.trans e2) (fresh_back e1 np) nl ⟨m, 0, ns, h2, e2 _ _ h1, hl⟩

theorem ints_ne {ns : List Int} {m c : Int} {b : Addr} : ns.map V.int ≠ [.int m, .ref b, .int c] := by
  intro h
  match ns, h with
  | [], h => cases h
  | [_], h => cases h
  | _ :: _ :: _, h =>
    simp at h
theorem Gen.ne {H : Hp} {a b : Addr} (g : Gen H a b) : a ≠ b := by
  obtain ⟨m, c, ns, h1, h2, _⟩ := g
  exact ne_of h1 h2 (fun z => ints_ne (HO.lst.inj z).symm)
abbrev s_l_next : Stmt := top 37
theorem sc_l_next : FnScope ["_law_h", "_law_limit", "_law_cell"] ["_law_h", "_law_limit"] (defScope s_l_next) := ⟨rfl, rfl, rfl, by decide +kernel, rfl, by decide +kernel, by decide +kernel⟩
def spNext : Sp := fun vs H Q _ => ∃ (a b : Addr) (n : Int), vs = [.ref a, .int n] ∧ Gen H a b ∧ 0 < n ∧ n < 1073741824 ∧ ∀ (r : Int) (H' : Hp), 0 ≤ r → r < n → Gen H' a b → Ex2 a b H H' → Q (.int r) H'
theorem ok_l_next {f : Addr} {fd : FuncData} (D : Df K mg "_law_next" s_l_next ["_law_h", "_law_limit"] f fd) (T : Bt mg) : FnOk P w K mg base CX0 1 f fd ["_law_h", "_law_limit"] spNext := by
  refine D.F.ok sc_l_next (fun vs H Q E h => ?_) (fun cdv A outer s H vs Q E hr h => ?_)
  · obtain ⟨a, b, n, rfl, _⟩ := h
    rfl
  · obtain ⟨a, b, n, rfl, ⟨m, c, ns, hA, hB, hl⟩, h0, h1, k⟩ := h
    refine ⟨_, (pss_cons (ps_set (i := 2) sc_l_next.nd rfl (Or.inl rfl) (pe_ix (ix_U (K := K)) (pe_op (op_addU (K := K)) (pe_ix (ix_U (K := K)) (pv 0) pe_int (fun _ _ => rfl)) (pe_lst (pa_cons pe_int pa_nil))) (pe_op op_modN (pe_callTy call_intU (by rfl) T.b_int (by decide +kernel) (pa_cons (pe_ix (ix_U (K := K)) (pv 0) pe_int (fun _ _ => rfl)) pa_nil)) (pe_callB (call_maxU rfl) (by rfl) T.b_max (by decide +kernel) (pa_cons pe_int (pa_cons (pe_callB (call_lenU (K := K)) (by rfl) T.b_len (by decide +kernel) (pa_cons (pe_ix (ix_U (K := K)) (pv 0) pe_int (fun _ _ => rfl)) pa_nil)) pa_nil)))) (fun _ _ => rfl)))
      (pss_cons (ps_if (pt_cmpR (op_geU) (pv 2) (pe_op op_pow pe_int pe_int) (nomark _)) (pss_cons (ps_asg (pe_op op_fdivN (pv 2) (pv 1)) (pg_sub (pe_ix (ix_U (K := K)) (pv 0) pe_int (fun _ _ => rfl)) (pe_op op_modN (pe_callTy call_intU (by rfl) T.b_int (by decide +kernel) (pa_cons (pe_ix (ix_U (K := K)) (pv 0) pe_int (fun _ _ => rfl)) pa_nil)) (pe_callB (call_lenU (K := K)) (by rfl) T.b_len (by decide +kernel) (pa_cons (pe_ix (ix_U (K := K)) (pv 0) pe_int (fun _ _ => rfl)) pa_nil))) set_list))
      (pss_one (ps_ret (pe_op op_modN (pe_callTy call_intU (by rfl) T.b_int (by decide +kernel) (pa_cons (pv 2) pa_nil)) (pv 1))))) pss_nil)
      (pss_cons (ps_asg (pe_op op_modN (pe_op (op_addU (K := K)) (pe_op (op_addU (K := K)) (pe_op (op_mulU (K := K)) (pe_ix (ix_U (K := K)) (pv 0) pe_int (fun _ _ => rfl)) pe_int) (pe_op (op_mulU (K := K)) (pv 2) pe_int)) pe_int) pe_int) (pg_sub (pv 0) pe_int set_list))
      (pss_cons (ps_asg (pe_op (op_addU (K := K)) (pe_ix (ix_U (K := K)) (pv 0) pe_int (fun _ _ => rfl)) pe_int) (pg_sub (pv 0) pe_int set_list))
      (pss_one (ps_ret (pe_op op_modN (pe_op op_fdivN (pe_ix (ix_U (K := K)) (pv 0) pe_int (fun _ _ => rfl)) pe_int) (pv 1)))))))), ?_⟩
    walk_at "run"
    refine x_ixL (SqL.of hA) rfl ?_
    refine x_lst (by simp) fun p H1 np e1 hp => ?_
    refine x_cat (e1 _ _ hB) hp (by simp; omega) fun l H2 nl e2 hL => ?_
    have hA2 := e2 _ _ (e1 _ _ hA)
    have hB2 := e2 _ _ (e1 _ _ hB)
    refine x_ixL (SqL.of hA2) rfl ?_
    walk_at "run"
    refine x_ixL (SqL.of hA2) rfl ?_
    refine x_lenL (SqL.of hB2) ?_
    walk_at "run"
    have hn : (List.map V.int ns).length = ns.length := List.length_map ..
    rw [hn]
    refine ⟨by split <;> omega, ?_⟩
    generalize hd : (if (ns.length : Int) > 1 then (ns.length : Int) else 1) = d
    have d0 : 0 < d := by rw [← hd]; split <;> omega
    have d1 : d ≤ ns.length ∨ (ns = [] ∧ d = 1) := by
      rw [← hd]
      split
      · exact .inl (Int.le_refl _)
      · by_cases z : ns = []
        · exact .inr ⟨z, rfl⟩
        · have := List.length_pos_iff.mpr z
          exact .inl (by omega)
    have k0 : 0 ≤ c.fmod d := Int.fmod_nonneg_of_pos _ d0
    have k1 : c.fmod d < d := Int.fmod_lt_of_pos _ d0
    obtain ⟨cell, hc, hc0⟩ : ∃ cell : Int, (List.map V.int ns ++ [V.int 0])[(c.fmod d).toNat]? = some (V.int cell) ∧ (cell ≠ 0 → ns ≠ []) := by
      rcases d1 with h | ⟨h, h'⟩
      · have hk : (c.fmod d).toNat < ns.length := by omega
        refine ⟨ns[(c.fmod d).toNat], ?_, fun _ z => by subst z; simp at hk⟩
        rw [List.getElem?_append_left (by simpa using hk)]
        simp [hk]
      · subst h
        subst h'
        have z : c.fmod 1 = 0 := by omega
        rw [z]
        exact ⟨0, rfl, fun z => (z rfl).elim⟩
    refine x_ixL (SqL.of hL) (atI_in k0 hc) ?_
    walk_at "run"
    refine ⟨⟨by decide, by decide, by decide⟩, ?_⟩
    split
    · rename_i hge
      have hge : (10 : Int) ^ Int.toNat 18 ≤ cell := hge
      have hne : ns ≠ [] := hc0 (by intro z; rw [z] at hge; exact absurd hge (by decide))
      have hp' := List.length_pos_iff.mpr hne
      refine ⟨⟨by omega, by omega⟩, ?_⟩
      refine x_ixL (SqL.of hA2) rfl ?_
      refine x_ixL (SqL.of hA2) rfl ?_
      walk_at "run"
      refine x_ixL (SqL.of hA2) rfl ?_
      refine x_lenL (SqL.of hB2) ?_
      walk_at "run"
      rw [hn]
      have q0 : 0 ≤ c.fmod ns.length := Int.fmod_nonneg_of_pos _ (by omega)
      have q1 : c.fmod ns.length < ns.length := Int.fmod_lt_of_pos _ (by omega)
      refine ⟨by omega, ?_⟩
      refine x_setL hB2 (ixN_in q0 (by simpa using q1)) fun H3 e3 hB3 => ?_
      walk_at "run"
      refine ⟨by omega, ?_⟩
      have nab : a ≠ b := Gen.ne ⟨m, c, ns, hA2, hB2, hl⟩
      refine k _ H3 (Int.fmod_nonneg_of_pos _ h0) (Int.fmod_lt_of_pos _ h0) ⟨m, c, ns.set (c.fmod ns.length).toNat (cell.fdiv n), e3 _ _ nab hA2, by rw [hB3, List.map_set], by simpa using hl⟩ fun x o h _ hb => e3 _ _ hb (e2 _ _ (e1 _ _ h))
    · refine x_ixL (SqL.of hA2) rfl ?_
      walk_at "run"
      refine ⟨.inr (by decide), .inr (by decide), by decide, ?_⟩
      refine x_setL hA2 rfl fun H3 e3 hA3 => ?_
      refine x_ixL (SqL.of hA3) rfl ?_
      walk_at "run"
      refine x_setL hA3 rfl fun H4 e4 hA4 => ?_
      refine x_ixL (SqL.of hA4) rfl ?_
      walk_at "run"
      refine ⟨⟨by decide, by decide⟩, by omega, ?_⟩
      have nab : b ≠ a := (Gen.ne ⟨m, c, ns, hA2, hB2, hl⟩).symm
      refine k _ H4 (Int.fmod_nonneg_of_pos _ h0) (Int.fmod_lt_of_pos _ h0) ⟨_, _, ns, hA4, e4 _ _ nab (e3 _ _ nab hB2), hl⟩ fun x o h ha _ => e4 _ _ ha (e3 _ _ ha (e2 _ _ (e1 _ _ h)))
end
end K
set_option Elab.async false
set_option linter.all false
set_option maxRecDepth 100000
set_option maxHeartbeats 4000000
namespace K
open PySem PySem.Spec PyProof.Rows L2 Evl FB
local macro_rules | `(tactic| walk_at "run") => `(tactic| try simp only [tSeq, tAsg, tVar, tC, gName, L2.start, List.map_cons, List.map_nil, List.cons_append, List.nil_append, List.length_cons, List.length_nil, List.replicate, List.getElem?_cons_zero, List.getElem?_cons_succ, Option.some.injEq, exists_eq_left', List.set_cons_zero, List.set_cons_succ, V.ref.injEq, tRet, x_tLst, x_tTup, tCons, tCB, tNil, tOp, x_addI, x_mulI, x_rI, x_rI0, x_ltI, x_leI, x_ltS, x_leS, x_eqI, x_neI, x_eqS, x_eqB, x_neB, x_isiI, x_isiS, x_int, x_max, x_min, cxOf, tIfS, tNext, tTest, V.bl.injEq, decide_eq_true_eq, gSub, tAnd, tOr, tNot, tB, tDrop, tBM, x_tFor, iRng1, iList, iTup, x_tLc, tYes, tCall, tIf, tAndV, tOrV, tNotV, tChain, List.append_nil, tUn, if_true, wipe, true_and, x_never, iU, x_itS])
theorem Gen.ex {H H' : Hp} {a b : Addr} (g : Gen H a b) (e : Ex H H') : Gen H' a b := by
  obtain ⟨m, c, ns, h1, h2, h3⟩ := g
  exact ⟨m, c, ns, e _ _ h1, e _ _ h2, h3⟩
theorem Gen.na {H : Hp} {a b p : Addr} (g : Gen H a b) (h : H p = none) : p ≠ a := by
  obtain ⟨m, c, ns, h1, h2, h3⟩ := g
  exact (ne_of_none h1 h).symm
theorem Gen.nb {H : Hp} {a b p : Addr} (g : Gen H a b) (h : H p = none) : p ≠ b := by
  obtain ⟨m, c, ns, h1, h2, h3⟩ := g
  exact (ne_of_none h2 h).symm
theorem Gen.tx {H H' : Hp} {a b : Addr} (g : Gen H a b) (e : Ex2 a b H H') : TX H H' := by
  obtain ⟨m, c, ns, h1, h2, h3⟩ := g
  exact TX.two h1 h2 e
theorem Gen.but {H H' : Hp} {a b p : Addr} (g : Gen H a b) (ha : p ≠ a) (hb : p ≠ b) (e : ∀ x o, x ≠ p → H x = some o → H' x = some o) : Gen H' a b := by
  obtain ⟨m, c, ns, h1, h2, h3⟩ := g
  exact ⟨m, c, ns, e _ _ ha.symm h1, e _ _ hb.symm h2, h3⟩
theorem x_next {H : Hp} {a b : Addr} {n : Int} {Q : VK} {E : XK} (g : Gen H a b) (h0 : 0 < n) (h1 : n < 1073741824) (k : ∀ r H', 0 ≤ r → r < n → Gen H' a b → Ex2 a b H H' → Q (.int r) H') : spNext [.ref a, .int n] H Q E :=
  ⟨a, b, n, rfl, g, h0, h1, k⟩
def W4 : List Str := ["a", "b", "west", "abcdefgh"]
/-- a place that is drawn for a seat of the station st of n -/
def PlOk (st n : Int) : Key → Prop
  | .inl j => st < j ∧ j < n
  | .inr z => z ∈ W4
abbrev s_l_place : Stmt := top 40
theorem sc_l_place : FnScope ["_law_h", "_law_station", "_law_count", "_law_far"] ["_law_h", "_law_station", "_law_count"] (defScope s_l_place) := ⟨rfl, rfl, rfl, by decide +kernel, rfl, by decide +kernel, by decide +kernel⟩
/-- a network that is drawn -/
structure Drawn (N : Net) (most : Int) : Prop where
  pos : 1 ≤ N.length
  le : (N.length : Int) ≤ most
  st : ∀ (k : Nat) s, N[k]? = some s → 1 ≤ s.length ∧ s.length ≤ 8 ∧ ∀ p ∈ s, PlOk k N.length p
section
variable {P : Program} {w : World} {K : PySem.W.Frag} {mg : Str → Option Value} {base : Heap}
def spPlace : Sp := fun vs H Q _ => ∃ (a b : Addr) (st n : Int), vs = [.ref a, .int st, .int n] ∧ Gen H a b ∧ 0 ≤ st ∧ st < n ∧ n ≤ 1000000 ∧ ∀ (k : Key) (H' : Hp), PlOk st n k → Gen H' a b → Ex2 a b H H' → Q (kV k) H'
theorem ok_l_place {f f1 : Addr} {fd fd1 : FuncData} (D : Df K mg "_law_place" s_l_place ["_law_h", "_law_station", "_law_count"] f fd) (T : Bt mg) (D_l_next : Df K mg "_law_next" s_l_next ["_law_h", "_law_limit"] f1 fd1) :
    FnOk P w K mg base CX0 2 f fd ["_law_h", "_law_station", "_law_count"] spPlace := by
  have G_l_next : FnOk P w K mg base CX0 1 f1 fd1 _ _ := ok_l_next D_l_next T
  refine D.F.ok sc_l_place (fun vs H Q E h => ?_) (fun cdv A outer s H vs Q E hr h => ?_)
  · obtain ⟨a, b, st, n, rfl, _⟩ := h
    rfl
  · obtain ⟨a, b, st, n, rfl, g, h0, h1, h2, k⟩ := h
    refine ⟨_, (pss_cons (ps_if (PW.pt (pw_and (pt_cmpR (op_ltU) (pe_op (op_addU (K := K)) (pv 1) pe_int) (pv 2) (nomark _)) (pw_and1 (pt_cmpR (op_gtU) (pe_call (G_l_next) (hr.mono (by decide)) rfl D_l_next.g D_l_next.F.kp D_l_next.b .nil pass0 (pa_cons (pv 0) (pa_cons pe_int pa_nil))) pe_int (nomark _))))) (pss_cons (ps_set (i := 3) sc_l_place.nd rfl (Or.inl rfl) (pe_ix (ix_U (K := K)) (pe_lst (pa_cons pe_int (pa_cons pe_int (pa_cons (pv 2) pa_nil)))) (pe_call (G_l_next) (hr.mono (by decide)) rfl D_l_next.g D_l_next.F.kp D_l_next.b .nil pass0 (pa_cons (pv 0) (pa_cons pe_int pa_nil))) (fun _ _ => rfl)))
      (pss_one (ps_ret (pe_op (op_addU (K := K)) (pe_op (op_addU (K := K)) (pv 1) pe_int) (pe_call (G_l_next) (hr.mono (by decide)) rfl D_l_next.g D_l_next.F.kp D_l_next.b .nil pass0 (pa_cons (pv 0) (pa_cons (pe_callB (call_maxU rfl) (by rfl) T.b_max (by decide +kernel) (pa_cons pe_int (pa_cons (pe_callB (call_minU rfl) (by rfl) T.b_min (by decide +kernel) (pa_cons (pv 3) (pa_cons (pe_op op_sub (pe_op op_sub (pv 2) (pv 1)) pe_int) pa_nil))) pa_nil))) pa_nil))))))) pss_nil)
      (pss_one (ps_ret (pe_ix (ix_U (K := K)) (pe_lst (pa_cons pe_str (pa_cons pe_str (pa_cons pe_str (pa_cons pe_str pa_nil))))) (pe_call (G_l_next) (hr.mono (by decide)) rfl D_l_next.g D_l_next.F.kp D_l_next.b .nil pass0 (pa_cons (pv 0) (pa_cons pe_int pa_nil))) (fun _ _ => rfl))))), ?_⟩
    walk_at "run"
    have tail : ∀ H1, Gen H1 a b → Ex2 a b H H1 → rLst [V.str "a", V.str "b", V.str "west", V.str "abcdefgh"] H1 fun x H1 => spNext [V.ref a, V.int 4] H1 (fun y H2 => rIx K x y H2 Q) E0 := by
      intro H1 g1 e1
      refine x_lst (by simp) fun p H2 np e2 hp => ?_
      refine x_next (g1.ex e2) (by decide) (by decide) fun r H3 r0 r1 g3 e3 => ?_
      have hp3 := e3 _ _ hp (g1.na np) (g1.nb np)
      have e := (e1.ex e2).trans e3
      obtain rfl | rfl | rfl | rfl : r = 0 ∨ r = 1 ∨ r = 2 ∨ r = 3 := by omega
      · exact x_ixL (SqL.of hp3) rfl (k (.inr "a") _ (.head _) g3 e)
      · exact x_ixL (SqL.of hp3) rfl (k (.inr "b") _ (.tail _ (.head _)) g3 e)
      · exact x_ixL (SqL.of hp3) rfl (k (.inr "west") _ (.tail _ (.tail _ (.head _))) g3 e)
      · exact x_ixL (SqL.of hp3) rfl (k (.inr "abcdefgh") _ (.tail _ (.tail _ (.tail _ (.head _)))) g3 e)
    split
    · refine x_next g (by decide) (by decide) fun r H1 r0 r1 g1 e1 => ?_
      walk_at "run"
      split
      · refine x_lst (by simp) fun p H2 np e2 hp => ?_
        refine x_next (g1.ex e2) (by decide) (by decide) fun r H3 r0 r1 g3 e3 => ?_
        have hp3 := e3 _ _ hp (g1.na np) (g1.nb np)
        have e := (e1.ex e2).trans e3
        have fin : ∀ far : Int, 1 ≤ far → far ≤ 1000000 → rMinU [V.int far, V.int (n - st - 1)] H3 fun x H1 => rMaxU [V.int 1, x] H1 fun x H1 => spNext [V.ref a, x] H1 (fun y H2 => rAddU K (V.int (st + 1)) y H2 Q) E0 := by
          intro far f0 f1
          walk_at "run"
          refine x_next g3 (by split <;> (split at * <;> omega)) (by split <;> (split at * <;> omega)) fun r H4 r0 r1 g4 e4 => ?_
          walk_at "run"
          exact k (.inl (st + 1 + r)) _ ⟨by omega, by revert r1; split <;> (split at * <;> omega)⟩ g4 (e.trans e4)
        obtain rfl | rfl | rfl : r = 0 ∨ r = 1 ∨ r = 2 := by omega
        · exact x_ixL (SqL.of hp3) rfl (fin _ (by omega) (by omega))
        · exact x_ixL (SqL.of hp3) rfl (fin _ (by omega) (by omega))
        · exact x_ixL (SqL.of hp3) rfl (fin _ (by omega) (by omega))
      · exact tail _ g1 e1
    · rw [if_neg Bool.false_ne_true]
      exact tail _ g (Ex2.refl _)
abbrev s_l_network : Stmt := top 41
theorem sc_l_network : FnScope ["_law_h", "_law_most", "_law_count", "_law_network_here", "_law_station", "_law_seats", "_law_seat"] ["_law_h", "_law_most"] (defScope s_l_network) := ⟨rfl, rfl, rfl, by decide +kernel, rfl, by decide +kernel, by decide +kernel⟩
def spNetwork (K : PySem.W.Frag) : Sp := fun vs H Q _ => ∃ (a b : Addr) (most : Int), vs = [.ref a, .int most] ∧ Gen H a b ∧ 1 ≤ most ∧ most ≤ 1000 ∧ ∀ (v : V) (N : Net) (H' : Hp), Drawn N most → NetAt K H' v N → Gen H' a b → Ex2 a b H H' → Q v H'
theorem ok_l_network {f f1 f2 : Addr} {fd fd1 fd2 : FuncData} (D : Df K mg "_law_network" s_l_network ["_law_h", "_law_most"] f fd) (T : Bt mg) (D_l_next : Df K mg "_law_next" s_l_next ["_law_h", "_law_limit"] f1 fd1)
    (D_l_place : Df K mg "_law_place" s_l_place ["_law_h", "_law_station", "_law_count"] f2 fd2) :
    FnOk P w K mg base CX0 3 f fd ["_law_h", "_law_most"] (spNetwork K) := by
  have G_l_next : FnOk P w K mg base CX0 1 f1 fd1 _ _ := ok_l_next D_l_next T
  have G_l_place : FnOk P w K mg base CX0 2 f2 fd2 _ _ := ok_l_place D_l_place T D_l_next
  refine D.F.ok sc_l_network (fun vs H Q E h => ?_) (fun cdv A outer s H vs Q E hr h => ?_)
  · obtain ⟨a, b, n, rfl, _⟩ := h
    rfl
  · obtain ⟨a, b, most, rfl, g, h0, h1, k⟩ := h
    refine ⟨_, (pss_cons (ps_set (i := 2) sc_l_network.nd rfl (Or.inr rfl) (pe_op (op_addU (K := K)) pe_int (pe_call (G_l_next) (hr.mono (by decide)) rfl D_l_next.g D_l_next.F.kp D_l_next.b .nil pass0 (pa_cons (pv 0) (pa_cons (pv 1) pa_nil)))))
      (pss_cons (ps_set (i := 3) sc_l_network.nd rfl (Or.inl rfl) (pe_lst pa_nil))
      (pss_cons (ps_for PassesOwn.never rfl (pi_range1 (by rfl) T.b_range (pa_cons (pv 2) pa_nil)) (pg_name (i := 4) sc_l_network.nd rfl (Or.inr rfl)) (pss_cons (ps_set (i := 5) sc_l_network.nd rfl (Or.inl rfl) (pe_op (op_addU (K := K)) pe_int (pe_call (G_l_next) (hr.mono (by decide)) rfl D_l_next.g D_l_next.F.kp D_l_next.b .nil pass0 (pa_cons (pv 0) (pa_cons (pe_ix (ix_U (K := K)) (pe_lst (pa_cons pe_int (pa_cons pe_int (pa_cons pe_int pa_nil)))) (pe_call (G_l_next) (hr.mono (by decide)) rfl D_l_next.g D_l_next.F.kp D_l_next.b .nil pass0 (pa_cons (pv 0) (pa_cons pe_int pa_nil))) (fun _ _ => rfl)) pa_nil)))))
      (pss_one (ps_expr (pe_bm PySem.F.plainAttrs_list PySem.F.slot_list_append PySem.F.type_list_append mt_append (pv 3) (pa_cons (pe_callTy (call_tupU (K := K)) (by rfl) T.b_tuple (by decide +kernel) (pa_cons (pe_lc (own := [("_law_seat", 6)]) (g := gName 6) (tt := tYes) rfl sc_l_network.nd (pi_range1 (by rfl) T.b_range (pa_cons (pv 5) pa_nil)) (blkOk_by (own := [("_law_seat", 6)]) (N := ["_law_h", "_law_most", "_law_count", "_law_network_here", "_law_station", "_law_seats", "_law_seat"]) (sc := defScope s_l_network) (by decide +kernel)) (fun _ _ _ _ _ => (pg_name (i := 6) sc_l_network.nd rfl (Or.inl rfl))) (fun _ _ _ _ _ => pts_nil) (fun _ _ _ _ _ => (pe_call (G_l_place) (hr.mono (by decide)) rfl D_l_place.g D_l_place.F.kp D_l_place.b .nil pass0 (pa_cons (pv 0) (pa_cons (pv 4) (pa_cons (pv 2) pa_nil)))))) pa_nil)) pa_nil))))))
      (pss_one (ps_ret (pe_callTy (call_tupU (K := K)) (by rfl) T.b_tuple (by decide +kernel) (pa_cons (pv 3) pa_nil))))))), ?_⟩
    walk_at "run"
    refine x_next g (by omega) (by omega) fun r H1 r0 r1 g1 e1 => ?_
    walk_at "run"
    refine x_lst (by simp) fun L H2 nL e2 hL => ?_
    obtain ⟨n, hn⟩ : ∃ n : Nat, 1 + r = (n : Int) := ⟨(1 + r).toNat, by omega⟩
    rw [hn]
    refine ⟨n, rfl, by omega, by omega, ?_⟩
    have hn1 : 1 ≤ n := by omega
    have nLa := (g1.na nL)
    have nLb := (g1.nb nL)
    have e02 : Ex2 a b H H2 := e1.ex e2
    refine loop_it walk_range (fun i σ H' => ∃ (u5 u6 u4 : Option V) (ts : List V) (M : Net), σ = [some (.ref a), some (.int most), some (.int n), some (.ref L), u4, u5, u6] ∧ H' L = some (.lst ts) ∧ DpAll K H' ts (M.map stD) ∧ M.length = i ∧ Gen H' a b ∧ (∀ x o, H x = some o → x ≠ a → x ≠ b → H' x = some o) ∧
      ∀ (k : Nat) s, M[k]? = some s → 1 ≤ s.length ∧ s.length ≤ 8 ∧ ∀ p ∈ s, PlOk k n p) ⟨_, _, _, [], [], rfl, hL, .nil, rfl, g1.ex e2, e02, fun k s h => by simp at h⟩ (fun _ _ _ _ _ => trivial) ?_ ?_
    · rintro i x σ H3 H3' hi ⟨u5, u6, u4, ts, M, rfl, hL3, hts, hM, g3, e3, hok⟩ ⟨eH, rfl⟩
      subst eH
      have hi : i < n := by simpa using hi
      walk_at "run"
      refine x_lst (by simp) fun p H4 np e4 hp => ?_
      refine x_next (g3.ex e4) (by decide) (by decide) fun r H5 r0 r1 g5 e5 => ?_
      have hp5 := e5 _ _ hp (g3.na np) (g3.nb np)
      have hL5 := e5 _ _ (e4 _ _ hL3) nLa nLb
      have e35 := (Ex2.of e4).trans e5
      have t35 := (TX.of e4).trans ((g3.ex e4).tx e5)
      refine x_menu hp5 r0 (by simpa using r1) fun v _ hv => ?_
      obtain ⟨q, rfl, q0, q1⟩ : ∃ q : Int, v = .int q ∧ 2 ≤ q ∧ q ≤ 8 := by
        simp at hv
        rcases hv with rfl | rfl | rfl <;> exact ⟨_, rfl, by omega, by omega⟩
      refine x_next g5 (by omega) (by omega) fun r H6 r0 r1 g6 e6 => ?_
      obtain ⟨m, hm⟩ : ∃ m : Nat, 1 + r = (m : Int) := ⟨(1 + r).toNat, by omega⟩
      have hL6 := e6 _ _ hL5 nLa nLb
      walk_at "run"
      rw [hm]
      refine ⟨x_tyL (SqL.of hL6), m, rfl, by omega, by omega, ?_⟩
      refine lcl_it walk_range (fun D j H' => ∃ acc : List Key, H' D = some (.lst (acc.map kV)) ∧ acc.length = j ∧ (∀ p ∈ acc, PlOk i n p) ∧ Gen H' a b ∧ ∀ x o, H6 x = some o → x ≠ a → x ≠ b → H' x = some o)
        (fun D H' hD e h => ⟨[], h, rfl, (by simp), g6.ex e, fun x o hx _ _ => e _ _ hx⟩) (fun _ _ _ _ _ => trivial) ?_ ?_
      · rintro D j x H7 H7' hD hj ⟨acc, hacc, hl, hok, g7, e7⟩ ⟨eH, rfl⟩
        subst eH
        have hj : j < m := by simpa using hj
        walk_at "run"
        refine ⟨a, b, _, _, rfl, g7, by omega, by omega, by omega, fun k H8 hk g8 e8 => ?_⟩
        refine x_push (e8 _ _ hacc (g6.na hD) (g6.nb hD)) (by simp; omega) fun H9 e9 h9 => ⟨acc ++ [k], by rw [h9]; simp, by simp [hl], ?_, g8.but (g6.na hD) (g6.nb hD) e9, fun x o hx ha hb => e9 _ _ (ne_of_none hx hD) (e8 _ _ (e7 _ _ hx ha hb) ha hb)⟩
        intro p hp
        rcases List.mem_append.mp hp with h | h
        · exact hok p h
        · obtain rfl : p = k := by simpa using h
          have e : (0 : Int) + i = i := by omega
          rw [e] at hk
          exact hk
      · rintro D H7 hD ⟨acc, hacc, hl, hok', g7, e7⟩
        have hl : acc.length = m := by simpa using hl
        refine x_tupL (SqL.of hacc) fun t H8 nt e8 ht => ?_
        have hL8 := e8 _ _ (e7 _ _ hL6 nLa nLb)
        refine x_append hL8 (by rw [hts.len]; simp; omega) fun H9 e9 h9 => ?_
        have t9 : TX H3' H9 := (((t35.trans (g5.tx e6)).trans (g6.tx e7)).trans (TX.of e8)).trans (TX.but hL8 e9)
        have hL7 := e7 _ _ hL6 nLa nLb
        have nLt : L ≠ t := ne_of_none hL7 nt
        refine ⟨some (.int m), u6, some (.int (0 + (i : Int))), ts ++ [.ref t], M ++ [acc], rfl, h9, ?_, by simp [hM], (g7.ex e8).but nLa nLb e9, fun x o hx ha hb => ?_, ?_⟩
        · rw [List.map_append]
          exact DpAll.append (DpAll.tx t9 hts fun d hd => (netD_t M).all d hd) (.cons (StAt.of (SqT.of (e9 _ _ nLt.symm ht))) .nil)
        · exact e9 _ _ (fun z => by subst z; exact absurd (e1 _ _ hx ha hb) (by rw [nL]; simp)) (e8 _ _ (e7 _ _ (e6 _ _ (e5 _ _ (e4 _ _ (e3 _ _ hx ha hb)) ha hb) ha hb) ha hb))
        · intro k s hs
          by_cases hk : k < M.length
          · rw [List.getElem?_append_left hk] at hs
            exact hok k s hs
          · rw [List.getElem?_append_right (by omega)] at hs
            have hz : k - M.length = 0 := by
              have := (List.getElem?_eq_some_iff.mp hs).1
              simp at this
              omega
            rw [hz] at hs
            obtain rfl : acc = s := by simpa using hs
            exact ⟨by omega, by omega, fun p hp => by
              have e : k = i := by omega
              rw [e]; exact hok' p hp⟩
    · rintro σ H3 ⟨u5, u6, u4, ts, M, rfl, hL3, hts, hM, g3, e3, hok⟩
      walk_at "run"
      refine x_tupL (SqL.of hL3) fun p H4 np e4 hp => ?_
      have hM : M.length = n := by simpa using hM
      refine k _ M _ ⟨by omega, by omega, fun k s h => by rw [hM]; exact hok k s h⟩ (.tup (SqT.of hp) (DpAll.ex e4 hts)) (g3.ex e4) (Ex2.ex e3 e4)
end
end K
set_option Elab.async false
set_option linter.all false
set_option maxRecDepth 100000
set_option maxHeartbeats 4000000
/-! enumerate of a tuple. -/
namespace FB
open PySem PySem.Spec PyProof.Rows L2 Evl
/-- one argument: the count begins at 0 -/
theorem meets_enum1 {v : Value} {o : Obj} {W : Heap → Prop} (B : Begins v o W) :
    Meets (Builtin.«enumerate.__new__» ⟨[.type "enumerate", v], []⟩) (fun _ R s => W s.heap ∧
      R (.ok (.ret (.ref (s.heap.push o).objs.size))) { s with heap := (s.heap.push o).push { cls := .type "enumerate", data := .fields #[.none, .bool false, .ref s.heap.objs.size, rawInt 0, .none, .none] } }) := by
  refine .of_wp ?_
  intro prog w A R s hs
  rcases s with ⟨hp, g, d, tk, os⟩
  rcases hs with ⟨h1, h2⟩
  have sub0 := sub_enumerate
  have go : ∀ {A' : Around} {E Q : Value → Shared → Prop}, Q (.ref hp.objs.size) ⟨hp.push o, g, d, tk, os⟩ → wpAny (model prog w) A' (pyIter v) Q E ⟨hp, g, d, tk, os⟩ := by
    intro A' E Q q
    exact B.iter prog w A' E _ Q h1 q
  wp_walk using go
  apply wpAny_stack_any
  intro st
  apply wpAny_pure
  split
  case h_1 c _ _ _ _ _ =>
    by_cases hc : (c == Value.type "enumerate") = true
    all_goals (simp only [hc]; wp_walk using go)
    all_goals exact ⟨_, rfl, h2⟩
  all_goals (wp_walk using go)
  all_goals exact ⟨_, rfl, h2⟩
section
variable {prog : Program} {w : World} {A : Around} {E : Value → Shared → Prop} {s : Shared}
theorem enum_one {v : Value} {o : Obj} {W : Heap → Prop} {Q : Value → Shared → Prop} (B : Begins v o W) (h1 : W s.heap)
    (h : ∀ h', IsEnum h' (s.heap.objs.size + 1) s.heap.objs.size 0 .none → h'.get? s.heap.objs.size = some o → (∀ b u, s.heap.get? b = some u → h'.get? b = some u) → Q (.ref (s.heap.objs.size + 1)) { s with heap := h' }) :
    wpAny (model prog w) A (call (.type "enumerate") [v]) Q E s := by
  have sz : (s.heap.push o).objs.size = s.heap.objs.size + 1 := Heap.size_push ..
  have at1 := Heap.get?_push_size (s.heap.push o) (o := { cls := .type "enumerate", data := .fields #[.none, .bool false, .ref s.heap.objs.size, rawInt 0, .none, .none] }) rfl
  rw [sz] at at1
  have en : IsEnum _ (s.heap.objs.size + 1) s.heap.objs.size 0 .none := at1
  apply callType_new F.called_enumerate (by decide) (F.typeCall_enumerate_1 _) (F.newCall_enumerate_1 _) (fun x => F.args_object_init_2 x _) F.entry_enumerate_new (meets_enum1 B)
  refine ⟨h1, ?_⟩
  rw [sz]
  exact ⟨⟨_, en, rfl⟩, h _ en (Heap.get?_push_of_some _ (Heap.get?_push_size _ B.free)) (fun b u x => Heap.get?_push_of_some _ (Heap.get?_push_of_some _ x))⟩
end
/-- the tuple at a, each item in a new pair with its place -/
def IteT (K : PySem.W.Frag) (a : Addr) : It where
  go := fun i H => ∃ (xs : List V) (x : V), SqT K H a xs ∧ xs[i]? = some x
  yld := fun i H v H' => ∃ T x, v = .ref T ∧ H T = none ∧ H' = upd H T (.tup [.int (i : Nat), x]) ∧ ∀ xs, SqT K H a xs → xs[i]? = some x
  stop := fun i H => ∃ xs : List V, SqT K H a xs ∧ xs.length = i
theorem walk_enumT {K : PySem.W.Frag} {a : Addr} {xs : List V} : Walk (IteT K a) xs.length (fun H => SqT K H a xs) (YPair (fun i => some (.int (i : Nat))) (fun i => xs[i]?)) where
  goes := fun i H hi q => ⟨xs, xs[i], q, by simp [hi]⟩
  stops := fun H q => ⟨xs, q, rfl⟩
  yields := fun i H v H' _ q ⟨T, x, h1, h2, h3, h4⟩ => ⟨T, .int (i : Nat), x, h1, h2, h3, rfl, h4 xs q⟩
/-- the iterator's two objects -/
def EnT (a e it : Addr) (i : Nat) (h : Heap) : Prop := (∃ old, IsEnum h e it ((i : Nat) : Int) old) ∧ h.IsTupleIter it a i ∧ e ≠ it
theorem turn_enumT {P : Program} {w : World} {K : PySem.W.Frag} {elts : List Expr} {kk : Nat} {tpos : Pos} (a e it : Addr) : Turn P w K (.Tuple elts kk tpos) (IteT K a) [e, it] e (EnT a e it) := by
  constructor
  case mem => exact List.mem_cons_self ..
  case obj =>
    rintro i h ⟨⟨old, he⟩, ⟨o, ho, _, hd⟩, _⟩ b hb
    simp only [List.mem_cons, List.not_mem_nil, or_false] at hb
    rcases hb with rfl | rfl
    · exact ⟨_, he, fun v q => nomatch q⟩
    · exact ⟨o, ho, fun v q => by rw [hd] at q; cases q⟩
  case keep =>
    rintro i h h' ⟨⟨old, he⟩, hi, ne⟩ k
    exact ⟨⟨old, k e (by simp) _ he⟩, hi.at (fun o q => k it (by simp) o q), ne⟩
  case self =>
    rintro A i s Q E ⟨⟨old, he⟩, _⟩ h
    exact wpAny_pyIter_enum he h
  case item =>
    rintro X rfl rfl rfl hc i pins s σ H E I hf ⟨⟨old, he⟩, hit, ne⟩ ⟨xs, x, hq, hx⟩
    obtain ⟨its, rv, p, hz⟩ := I.tuple hq
    have p' : s.heap.IsTuple a its.toArray := p
    obtain ⟨u, hu, ru⟩ := rv.get hx
    have hlt : i < its.length := (List.getElem?_eq_some_iff.mp hu).1
    have nai : a ≠ it := by
      rintro rfl
      obtain ⟨o1, e1, c1, _⟩ := p'
      obtain ⟨o2, e2, c2, _⟩ := hit
      rw [e1] at e2
      cases e2
      rw [c1] at c2
      exact absurd c2 (by decide)
    have nea : e ≠ a := by
      rintro rfl
      obtain ⟨o1, e1, c1, _⟩ := p'
      have e2 : s.heap.get? e = some _ := he
      rw [e1] at e2
      cases e2
      have c : Value.type "enumerate" = Value.type "tuple" := c1
      exact absurd c (by decide)
    have hh : X.A.in1.handled = none := I.ok.hd hc
    have le : e < s.heap.objs.size := Heap.lt_size he
    have li : it < s.heap.objs.size := by
      obtain ⟨_, q, _⟩ := hit
      exact Heap.lt_size q
    have ez : ((i + 1 : Nat) : Int) = (i : Int) + 1 := by omega
    refine wpAny_pyNext_enum_itemC (Draws.tuple hh it a nai its.toArray) he ⟨hit, p'⟩ (by simpa using hlt) ne (by simp [ne, nea]) ?_
    intro y h' tk hy ho hst hT _ hk
    obtain rfl : y = u := by
      have : its[i]? = some y := by simpa using hy
      rw [hu] at this
      exact (Option.some.inj this).symm
    refine ⟨_, rfl, wpAny_letOwnedTupleGo_enum (s := { s with heap := h', toks := tk + 1 }) ho ?_⟩
    intro h2 he2 sb
    have hT2 : h2.get? s.heap.objs.size = some { cls := .type "tuple", data := .seq #[.int i tk, y] } := (sb.2 _ (Nat.ne_of_gt le)).trans hT
    have mk : ObjOk X.prog X.w (upd H s.heap.objs.size (.tup [.int (i : Nat), x])) h2 s.heap.objs.size (.tup [.int (i : Nat), x]) :=
      ⟨small (n := 2) (by omega), [.int i tk, y], .cons ⟨tk, rfl⟩ (.cons ru .nil), ⟨_, hT2, rfl, _, rfl⟩⟩
    have J : Inv X pins σ (upd H s.heap.objs.size (.tup [.int (i : Nat), x])) { s with heap := h2, toks := tk + 1 } := by
      refine I.turnedNew (ch := [e, it]) (fun b ob hb q => ?_) hf (Nat.le_refl _) mk
      simp only [List.mem_cons, List.not_mem_nil, or_false, not_or] at hb
      exact (sb.2 b hb.1).trans (hk b ob hb.1 hb.2 q)
    refine ⟨.ref s.heap.objs.size, _, J, rfl, ⟨_, x, rfl, I.hok.fresh (Nat.le_refl _), rfl, fun ys hy => by rw [I.tuple_inj hy hq]; exact hx⟩, ⟨⟨y, ?_⟩, hst.1.at (fun o q => (sb.2 it ne.symm).trans q), ne⟩, fun b hb => ?_⟩
    · rw [ez]
      exact he2
    · have lb : b < s.heap.objs.size := by
        simp only [List.mem_cons, List.not_mem_nil, or_false] at hb
        rcases hb with rfl | rfl
        · exact le
        · exact li
      rw [upd_ne (Nat.ne_of_lt lb)]
      exact (hf b hb).1
  case done =>
    rintro X rfl rfl rfl hc i pins s σ H E I hf ⟨⟨old, he⟩, hit, ne⟩ ⟨xs, hq, hx⟩
    obtain ⟨its, rv, p, hz⟩ := I.tuple hq
    have p' : s.heap.IsTuple a its.toArray := p
    have hlen := rv.length
    have hh : X.A.in1.handled = none := I.ok.hd hc
    have nai : a ≠ it := by
      rintro rfl
      obtain ⟨o1, e1, c1, _⟩ := p'
      obtain ⟨o2, e2, c2, _⟩ := hit
      rw [e1] at e2
      cases e2
      rw [c1] at c2
      exact absurd c2 (by decide)
    have hi : its.toArray.size = i := by rw [List.size_toArray, ← hlen, hx]
    obtain ⟨f0, f1, f2, f3, f4, f5⟩ := hf it (by simp)
    refine wpAny_pyNext_enum_endD (Draws.tuple hh it a nai its.toArray) he (by rw [hi]; exact ⟨hit, p'⟩) ?_
    intro h' eb
    exact ⟨rfl, I.turned (t' := s.toks) (fun b o hb q => eb b o hb q) f0 f1 f3 f4 f5⟩
def iEnumT (K : PySem.W.Frag) (ta : TA) : TI := fun σ H R => ta σ H fun vs H1 => ∃ a xs, vs = [.ref a] ∧ SqT K H1 a xs ∧ R (IteT K a) H1
theorem pi_enumT {X : Cx} {e : Expr} {ta : TA} {p pos tpos : Pos} {elts : List Expr} {kk : Nat} {K : PySem.W.Frag} (hg : Gl X "enumerate") (hm : X.mg "enumerate" = none) (ha : PA X [e] ta) (hK : X.K = K := by rfl) (hs : starEach [e] X.env = [(false, eval e X.env)] := by rfl) :
    PI X (.Tuple elts kk tpos) (.Call (.Name "enumerate" p) [e] [] pos) (iEnumT K ta) := by
  subst hK
  constructor
  intro pins s σ H R I h
  apply Call_ (ld_blt I hg hm boot_enumerate (PyProof.Rows.callWith_type1 (thn (ha.run pos pins s σ H _ I h) ?_) hs rfl))
  rintro us s1 ⟨vs, H1, I1, r1, a, xs, rfl, hq, q⟩
  cases r1 with
  | cons r rr =>
    cases rr
    cases r
    obtain ⟨its, rv, p', hz⟩ := I1.tuple hq
    refine enum_one (begins_tuple a its.toArray) p' fun h' he hit hk => wpAny_pyIter_enum he ?_
    have I2 : Inv X pins σ H1 { s1 with heap := h' } := I1.kept (t' := s1.toks) hk
    refine ⟨s1.heap.objs.size + 1, [s1.heap.objs.size + 1, s1.heap.objs.size], _, _, H1, rfl, I2, turn_enumT a (s1.heap.objs.size + 1) s1.heap.objs.size, ⟨⟨.none, he⟩, ⟨_, hit, rfl, rfl⟩, Nat.succ_ne_self _⟩, fun b hb => ?_, q⟩
    have le : s1.heap.objs.size ≤ b := by
      simp only [List.mem_cons, List.not_mem_nil, or_false] at hb
      rcases hb with rfl | rfl
      · exact Nat.le_succ _
      · exact Nat.le_refl _
    exact I1.fpOk le (I1.hok.fresh le)
section
variable {K : PySem.W.Frag} {H : Hp} {σ : L2.St}
theorem x_rU {g : Int → V} {i : Int} {Q : VK} : rU g (.int i) H Q ↔ Q (g i) H := by
  constructor
  · rintro ⟨_, h1, h⟩
    cases h1; exact h
  · exact fun h => ⟨i, rfl, h⟩
theorem x_two {n i j : Nat} {T : Addr} {x y : V} {Q : L2.St → Hp → Prop} (h : SqT K H T [x, y]) (k : Q ((σ.set i (some x)).set j (some y)) H) (hn : n = 2 := by rfl) : gTup K n (gCons (gName i) (gCons (gName j) gNil)) (.ref T) σ H Q := by
  subst hn
  exact ⟨T, _, rfl, h, rfl, x, [y], rfl, y, [], rfl, rfl, k⟩
end
/-- C(..), its __init__ keeping sp -/
def rMk (C : Addr) (sp : Sp) (dvs vs : List V) (H1 : Hp) (Q : XK) : Prop := vs.length ≤ 1000 ∧ ∀ a, H1 a = none → sp (.ref a :: (vs ++ dvs)) (upd H1 a (exo a C none))
  (fun v H2 => v = .non ∧ ∃ (d : Addr) (fs : List (Str × V)), H2 a = some (exo a C (some d)) ∧ H2 d = some (exd d fs) ∧ H1 d = none ∧ Q (.ref C) (some d) (upd (del H2 a) d (.xd fs))) (fun _ _ _ => False)
theorem x_tMkO {C : Addr} {sp : Sp} {dvs : List V} {ta : TA} {σ : L2.St} {H : Hp} {Q : XK} : tMkO C sp dvs ta σ H Q = ta σ H fun vs H1 => rMk C sp dvs vs H1 Q := rfl
end FB
set_option Elab.async false
set_option linter.all false
set_option maxRecDepth 100000
set_option maxHeartbeats 4000000
/-! Dicts: made by a comprehension, walked, asked, filled; sets; zip of tuples. -/
namespace FB
open PySem PySem.Spec PyProof.Rows L2 Evl
section
variable {X : Cx}
/-- the value is locked from here on -/
def tLockV (t : TE) : TE := fun σ H Q => t σ H fun x H1 => ∃ d u, x = .ref d ∧ H1 d = some u ∧ Mut (some u) ∧ ∀ od, Q x (upd H1 d (.frz od u))
theorem pe_lockV {e : Expr} {t : TE} (h : PE X e t) : PE X e (tLockV t) := by
  refine ⟨fun pins s σ H Q I hw => ?_⟩
  refine thn (h.run pins s σ _ _ I hw) fun v s1 ⟨x, H1, I1, r, d, u, e, hd, mu, q⟩ => ?_
  obtain ⟨od, I2⟩ := I1.lock hd mu
  exact ⟨x, _, I2, r, q od⟩
/-- name = {..} on one line, the name a local -/
theorem ps_setDc {i : Nat} {y : Str} {py : Pos} {kx vx tg iter : Expr} {ifs : List Expr} {scope : Scope} {own : List (Str × Nat)} {pos spos : Pos} {wi : TI} {g : TG} {tt : TT} {tk tv : TE} (hc : X.calm = true) (hN : X.N.Nodup) (hy : X.N[i]? = some y) (hyl : X.env.scope.names.lookup y = some .local)
    (hsw : swapsWith (.DictComp kx vx [⟨tg, iter, ifs, 0⟩] scope pos) (some (.Name y py)) spos.line X.env = pure true) (hi : PI X tg iter wi) (ok : BlkOk X.N X.env.scope scope own)
    (hg : ∀ (s : Shared) (H : Hp) (C : Addr) (cl : List (Str × Addr)) (fp : List Addr), PG (X.blk s H scope (compEnvC scope cl C X.env) fp) tg g) (ht : ∀ (s : Shared) (H : Hp) (C : Addr) (cl : List (Str × Addr)) (fp : List Addr), PTs (X.blk s H scope (compEnvC scope cl C X.env) fp) ifs tt)
    (hk : ∀ (s : Shared) (H : Hp) (C : Addr) (cl : List (Str × Addr)) (fp : List Addr), PE (X.blk s H scope (compEnvC scope cl C X.env) fp) kx tk)
    (he : ∀ (s : Shared) (H : Hp) (C : Addr) (cl : List (Str × Addr)) (fp : List Addr), PE (X.blk s H scope (compEnvC scope cl C X.env) fp) vx tv) (hs : ∀ x, foldedSetIterable iter X.env x = pure x := by intro _; rfl) :
    PS X (.Assign [.Name y py] (.DictComp kx vx [⟨tg, iter, ifs, 0⟩] scope pos) spos) (tAsg (tDc wi g tt tk tv (own.map (·.2))) (gName i)) := by
  refine ⟨fun pins s σ H D I h => ?_⟩
  rw [exec_Assign_Name_used _ _ _ _ hsw]
  refine wpAny_bind (wpAny_standAt (wpAny_bind ?_))
  show wpAny _ X.A (do let _ ← comprehension (.DictComp kx vx [⟨tg, iter, ifs, 0⟩] scope pos) scope X.env (firstIterPos [⟨tg, iter, ifs, 0⟩] pos) newDict false (eval iter X.env) (some (assign (.Name y py) X.env))) _ _ s
  have h : tDc wi g tt tk tv (own.map (·.2)) σ H (fun x H1 => gName i x σ H1 D.nx) := h
  refine wpAny_bind (thn (dc_core (Qf := fun _ s' => SP X pins D .next s') hc hN I hi ok hg ht hk he hs h fun L C s' m H' I' q hn f => ?_) fun _ s' hq => wpAny_pure (wpAny_pure hq))
  show wpAny _ _ (assign (.Name y py) X.env (.ref L)) _ _ _
  refine wpAny_assign_Name (store_ok2 (v := V.ref L) I' hN hy (.inl hyl) rfl (fun s2 I2 ⟨a, sb, ha⟩ => ?_) (.inr hyl))
  obtain ⟨f0, f1, f2, f3, f4, f5⟩ := f
  have haC : C ≠ a := by
    rcases ha with z | z
    · rw [z]; exact f1
    · exact fun e => f4 y a z e.symm
  refine ⟨m, hn.sameBut sb haC, fun h3 sb3 => ?_⟩
  exact ⟨_, H', I2.turned (t' := s2.toks) (fun b o hb e => (sb3.2 b hb).trans e) f0 f1 f3 f4 f5, q⟩
theorem sw_trueD {kx vx : Expr} {gs : List Comprehension} {scope : Scope} {pos py : Pos} {y : Str} {l : Nat} {env : Env} (hk : env.scope.kind = .function) (hy : env.scope.names.lookup y = some .local) (hl : (py.line == pos.line) = true)
    (ha : (scope.names.any fun (n, k) => n == y && (k == .local || k == .cell)) = false) : swapsWith (.DictComp kx vx gs scope pos) (some (.Name y py)) l env = pure true := by
  have ky : env.kindOf y = some .local := hy
  have hb : env.blockKind = .function := by unfold Env.blockKind; rw [hk]; rfl
  unfold swapsWith
  simp only [hb, ky, ha, Expr.pos, hl]
  rfl
end
/-- a dict comprehension's reading -/
def DcL (J : It) (g : TG) (tt : TT) (tk tv : TE) (vs : List Nat) (σ : L2.St) (H1 : Hp) (Q : VK) : Prop := ∀ D, H1 D = none → ∃ W : Nat → Nat → Hp → Prop, (∃ m, W 0 m (upd H1 D (.dK []))) ∧ ∀ i m H, W i m H →
  (J.stop i H ∧ Q (.ref D) H) ∨ (J.go i H ∧ ∃ Nx : Hp → Prop, (∀ H', Nx H' → ∃ m', m' < m ∧ W (i + 1) m' H') ∧ ∀ x H', J.yld i H x H' → g x (wipe σ vs) H' fun σ2 H2 => wipe σ2 vs = wipe σ vs ∧ tt σ2 H2 fun b H3 =>
    if b = true then tk σ2 H3 fun y H4 => tv σ2 H4 fun z H5 => ∃ kvs k, y = kV k ∧ H5 D = some (.dK kvs) ∧ kvs.length < sizeLine ∧ Nx (upd H5 D (.dK (putK kvs k z))) else Nx H3)
theorem x_tDc {wi : TI} {g : TG} {tt : TT} {tk tv : TE} {vs : List Nat} {σ : L2.St} {H : Hp} {Q : VK} : tDc wi g tt tk tv vs σ H Q = wi σ H fun J H1 => DcL J g tt tk tv vs σ H1 Q := rfl
/-- the item goes to the dict at D -/
def PutD (D : Addr) (N : Hp → Prop) (y : V) : VK := fun z H5 => ∃ kvs k, y = kV k ∧ H5 D = some (.dK kvs) ∧ kvs.length < sizeLine ∧ N (upd H5 D (.dK (putK kvs k z)))
theorem x_putD {D : Addr} {N : Hp → Prop} {k : Key} {z : V} {H : Hp} {kvs : List (Key × V)} (h : H D = some (.dK kvs)) (hl : kvs.length < 1000000) (q : ∀ H5, (∀ x o, x ≠ D → H x = some o → H5 x = some o) → H5 D = some (.dK (putK kvs k z)) → N H5) : PutD D N (kV k) z H :=
  ⟨kvs, k, rfl, h, by rw [sizeLine_eq]; omega, q _ (fun x o hx e => by rw [upd_ne hx]; exact e) upd_same⟩
theorem dcl_it {J : It} {n : Nat} {G : Hp → Prop} {Y : Nat → Hp → V → Hp → Prop} {g : TG} {tt : TT} {tk tv : TE} {vs : List Nat} {σ : L2.St} {H1 : Hp} {Q : VK} (w : Walk J n G Y) (Pv : Addr → Nat → Hp → Prop)
    (h0 : ∀ D H', H1 D = none → Ex H1 H' → H' D = some (.dK []) → Pv D 0 H') (hG : ∀ D i H, i ≤ n → Pv D i H → G H)
    (hs : ∀ D i x H H', H1 D = none → i < n → Pv D i H → Y i H x H' → g x (wipe σ vs) H' fun σ2 H2 => wipe σ2 vs = wipe σ vs ∧ tt σ2 H2 fun b H3 => if b = true then tk σ2 H3 fun y H4 => tv σ2 H4 (PutD D (Pv D (i + 1)) y) else Pv D (i + 1) H3)
    (hd : ∀ D H, H1 D = none → Pv D n H → Q (.ref D) H) : DcL J g tt tk tv vs σ H1 Q := fun D hD => by
  refine ⟨fun i m H => m = n - i ∧ i ≤ n ∧ Pv D i H, ⟨n, by simp, Nat.zero_le _, h0 D _ hD (Ex.new hD) upd_same⟩, ?_⟩
  rintro i m H ⟨rfl, hi, p⟩
  have q := hG D i H hi p
  by_cases hlt : i < n
  · exact .inr ⟨w.goes i H hlt q, Pv D (i + 1), fun H' p' => ⟨n - (i + 1), by omega, rfl, hlt, p'⟩, fun x H' y => hs D i x H H' hD hlt p (w.yields i H x H' hlt q y)⟩
  · have e : i = n := by omega
    subst e
    exact .inl ⟨w.stops H q, hd D H hD p⟩
section
variable {K : PySem.W.Frag} {H H' : Hp} {a b d p : Addr} {kvs : List (Key × V)} {k : Key} {v : V} {Q : VK} {xs ys : List V}
theorem x_lock {t : TE} {σ : L2.St} {u : HO} (h : H d = some u) (mu : Mut (some u)) (q : ∀ od H1, (∀ x o, x ≠ d → H x = some o → H1 x = some o) → (∀ x, x ≠ d → H1 x = none → H x = none) → H1 d = some (.frz od u) → t σ H1 fun v H' => H' d = some (.frz od u) ∧ Q v (upd H' d u)) : tLockE t σ H Q :=
  ⟨d, u, h, mu, fun od => q od _ (fun x o hx e => by rw [upd_ne hx]; exact e) (fun x hx e => by rw [upd_ne hx] at e; exact e) upd_same⟩
def rLockV (x : V) (H : Hp) (Q : VK) : Prop := ∃ d u, x = .ref d ∧ H d = some u ∧ Mut (some u) ∧ ∀ od, Q x (upd H d (.frz od u))
theorem x_tLockV {t : TE} {σ : L2.St} : tLockV t σ H Q = t σ H fun x H1 => rLockV x H1 Q := rfl
theorem x_lockV {u : HO} (h : H d = some u) (mu : Mut (some u)) (q : ∀ od H1, (∀ x o, x ≠ d → H x = some o → H1 x = some o) → (∀ x, x ≠ d → H1 x = none → H x = none) → H1 d = some (.frz od u) → Q (.ref d) H1) : rLockV (.ref d) H Q :=
  ⟨d, u, rfl, h, mu, fun od => q od _ (fun x o hx e => by rw [upd_ne hx]; exact e) (fun x hx e => by rw [upd_ne hx] at e; exact e) upd_same⟩
/-- d[k] -/
def rDGet (x y : V) (H : Hp) (Q : VK) : Prop := ∃ a v, x = .ref a ∧ DGet H a y (some v) ∧ Q v H
theorem x_tDGet {td ty : TE} {σ : L2.St} : tDGet td ty σ H Q = td σ H fun x H1 => ty σ H1 fun y H2 => rDGet x y H2 Q := rfl
theorem x_dget (h : H a = some (.dK kvs)) (e : valV kvs k = some v) (q : Q v H) : rDGet (.ref a) (kV k) H Q := ⟨a, v, rfl, by rw [← e]; exact DGet.k h, q⟩
/-- d.get(k, z) -/
def rDGet2 (a : Addr) (y z : V) (H : Hp) (Q : VK) : Prop := ∃ o, DGet H a y o ∧ Q (o.getD z) H
theorem x_tDGet2 {td ty tx : TE} {σ : L2.St} : tDGet2 td ty tx σ H Q = td σ H fun x H1 => ∃ a, x = .ref a ∧ IsD H1 a ∧ ty σ H1 fun y H2 => tx σ H2 fun z H3 => rDGet2 a y z H3 Q := rfl
theorem isD_k (h : H a = some (.dK kvs)) : IsD H a := .inl ⟨kvs, .inl h⟩
theorem x_dget2 {z : V} (h : H a = some (.dK kvs)) (q : Q ((valV kvs k).getD z) H) : rDGet2 a (kV k) z H Q := ⟨_, DGet.k h, q⟩
/-- d[k] = v -/
def rDPut (x y v : V) (H : Hp) (N : Hp → Prop) : Prop := ∃ a H4, x = .ref a ∧ DPut H a y v H4 ∧ N H4
theorem x_sDPut {td ty tv : TE} {σ : L2.St} {D : Ends} : sDPut td ty tv D σ H = tv σ H fun v H1 => td σ H1 fun x H2 => ty σ H2 fun y H3 => rDPut x y v H3 (D.nx σ) := rfl
theorem x_dput {N : Hp → Prop} (h : H a = some (.dK kvs)) (hl : kvs.length < 1000000) (q : ∀ H1, (∀ x o, x ≠ a → H x = some o → H1 x = some o) → (∀ x, x ≠ a → H1 x = none → H x = none) → H1 a = some (.dK (putK kvs k v)) → N H1) : rDPut (.ref a) (kV k) v H N :=
  ⟨a, _, rfl, DPut.k h (by rw [sizeLine_eq]; omega), q _ (fun x o hx e => by rw [upd_ne hx]; exact e) (fun x hx e => by rw [upd_ne hx] at e; exact e) upd_same⟩
/-- d.setdefault(k, z) -/
def rDSetd (a : Addr) (y z : V) (H : Hp) (Q : VK) : Prop := ∃ (kvs : List (Key × V)) (k : Key), H a = some (.dK kvs) ∧ y = kV k ∧ kvs.length < sizeLine ∧ (∀ v, valV kvs k = some v → Q v H) ∧ (valV kvs k = none → Q z (upd H a (.dK (putK kvs k z))))
theorem x_tDSetd {td ty tx : TE} {σ : L2.St} : tDSetd td ty tx σ H Q = td σ H fun x H1 => ∃ a, x = .ref a ∧ IsD H1 a ∧ ty σ H1 fun y H2 => tx σ H2 fun z H3 => rDSetd a y z H3 Q := rfl
theorem x_dsetd {z : V} (h : H a = some (.dK kvs)) (hl : kvs.length < 1000000) (q : ∀ v, valV kvs k = some v → Q v H)
    (q2 : valV kvs k = none → ∀ H1, (∀ x o, x ≠ a → H x = some o → H1 x = some o) → (∀ x, x ≠ a → H1 x = none → H x = none) → H1 a = some (.dK (putK kvs k z)) → Q z H1) : rDSetd a (kV k) z H Q :=
  ⟨kvs, k, h, rfl, by rw [sizeLine_eq]; omega, q, fun e => q2 e _ (fun x o hx e => by rw [upd_ne hx]; exact e) (fun x hx e => by rw [upd_ne hx] at e; exact e) upd_same⟩
/-- {} -/
def rDNew (H : Hp) (Q : VK) : Prop := ∀ p, H p = none → Q (.ref p) (upd H p (.dK []))
theorem x_tDNewK {σ : L2.St} : tDNewK σ H Q = rDNew H Q := rfl
theorem x_dnew (q : ∀ p H', H p = none → Ex H H' → H' p = some (.dK []) → Q (.ref p) H') : rDNew H Q := x_new q
/-- items of a locked dict -/
def rItems (x : V) (H : Hp) (R : It → Hp → Prop) : Prop := ∃ d o kvs, x = .ref d ∧ H d = some (.frz o (.dK kvs)) ∧ R (Iti d o kvs) H
theorem x_iItems {td : TE} {σ : L2.St} {R : It → Hp → Prop} : iItems td σ H R = td σ H fun x H1 => rItems x H1 R := rfl
theorem x_items {o : Obj} {R : It → Hp → Prop} (h : H d = some (.frz o (.dK kvs))) (q : R (Iti d o kvs) H) : rItems (.ref d) H R := ⟨d, o, kvs, rfl, h, q⟩
/-- tuple(range(i, j)) -/
def rTupRg (i j : Int) (H : Hp) (Q : VK) : Prop := RgOk i j ∧ ∀ q, H q = none → Q (.ref q) (upd H q (.tup (rgV i j)))
theorem x_tTupRg {te : L2.St → Hp → (Int → Int → Hp → Prop) → Prop} {σ : L2.St} : tTupRg te σ H Q = te σ H fun i j H1 => rTupRg i j H1 Q := rfl
theorem x_tRg2 {ta tb : TE} {σ : L2.St} {R : Int → Int → Hp → Prop} : tRg2 ta tb σ H R = ta σ H fun x H1 => tb σ H1 fun y H2 => ∃ i j, x = .int i ∧ y = .int j ∧ R i j H2 := rfl
theorem x_tupRg {i j : Int} (h : RgOk i j) (q : ∀ t H', H t = none → Ex H H' → H' t = some (.tup (rgV i j)) → Q (.ref t) H') : rTupRg i j H Q := ⟨h, x_new q⟩
theorem x_sum {ns : List Int} (h : SqL K H a (ns.map V.int)) (q : Q (.int ns.sum) H) : rSum K [.ref a] H Q := ⟨a, ns, rfl, h, q⟩
theorem walk_zipT (hn : xs.length = ys.length) : Walk (RZ.ItzT K a b) xs.length (fun H => SqT K H a xs ∧ SqT K H b ys) (YPair (fun i => xs[i]?) (fun i => ys[i]?)) := by
  refine ⟨fun i _ hi q => ?_, fun _ q => ⟨xs, ys, q.1, q.2, by omega⟩, fun i H v H' _ q y => ?_⟩
  · have h2 : i < ys.length := by omega
    exact ⟨xs, ys, xs[i], ys[i], q.1, q.2, by simp [hi], by simp [h2]⟩
  · obtain ⟨T, x, z, h1, h2, h3, h4, h5⟩ := y
    exact ⟨T, x, z, h1, h2, h3, h4 xs q.1, h5 ys q.2⟩
def rZip (K : PySem.W.Frag) (vs : List V) (H : Hp) (R : It → Hp → Prop) : Prop := ∃ a b xs ys, vs = [.ref a, .ref b] ∧ ((SqL K H a xs ∧ SqL K H b ys ∧ R (Itz K a b) H) ∨ (SqT K H a xs ∧ SqT K H b ys ∧ R (RZ.ItzT K a b) H))
theorem x_iZip {ta : TA} {σ : L2.St} {R : It → Hp → Prop} : RZ.iZipA K ta σ H R = ta σ H fun vs H1 => rZip K vs H1 R := rfl
theorem x_zipT {R : It → Hp → Prop} (h1 : SqT K H a xs) (h2 : SqT K H b ys) (q : R (RZ.ItzT K a b) H) : rZip K [.ref a, .ref b] H R := ⟨a, b, xs, ys, rfl, .inr ⟨h1, h2, q⟩⟩
end
end FB
set_option Elab.async false
set_option linter.all false
set_option maxRecDepth 100000
set_option maxHeartbeats 4000000
/-! The seats of a network's first stations, and who feeds a place. -/
namespace FB
open PySem PySem.Spec PyProof.Rows L2 Evl
/-- a seat: its station, and where it leads -/
abbrev Seats := List (Nat × Key)
def stSeats (k : Nat) (s : List Key) : Seats := s.map fun p => (k, p)
/-- the seats of the first k stations -/
def seatsOf (N : Net) : Nat → Seats
  | 0 => []
  | k + 1 => seatsOf N k ++ stSeats k (N.getD k [])
/-- what f gives for the seats that lead to q -/
def toQ (f : Nat → Int) (q : Key) : Seats → Int
  | [] => 0
  | (i, p) :: r => (if p = q then f i else 0) + toQ f q r
theorem toQ_append {f : Nat → Int} {q : Key} : ∀ {a b : Seats}, toQ f q (a ++ b) = toQ f q a + toQ f q b
  | [], b => by simp [toQ]
  | (i, p) :: r, b => by
    show (if p = q then f i else 0) + toQ f q (r ++ b) = (if p = q then f i else 0) + toQ f q r + toQ f q b
    rw [toQ_append]; omega
theorem toQ_nil {f : Nat → Int} {q : Key} : ∀ {a : Seats}, (∀ s ∈ a, s.2 ≠ q) → toQ f q a = 0
  | [], _ => rfl
  | (i, p) :: r, h => by
    show (if p = q then f i else 0) + toQ f q r = 0
    rw [if_neg (h (i, p) (List.mem_cons_self ..)), toQ_nil fun s hs => h s (List.mem_cons_of_mem _ hs)]
    rfl
theorem toQ_congr {f g : Nat → Int} {q : Key} : ∀ {a : Seats}, (∀ s ∈ a, s.2 = q → f s.1 = g s.1) → toQ f q a = toQ g q a
  | [], _ => rfl
  | (i, p) :: r, h => by
    show (if p = q then f i else 0) + toQ f q r = (if p = q then g i else 0) + toQ g q r
    rw [toQ_congr fun s hs => h s (List.mem_cons_of_mem _ hs)]
    by_cases e : p = q
    · rw [if_pos e, if_pos e, h (i, p) (List.mem_cons_self ..) e]
    · rw [if_neg e, if_neg e]
theorem toQ_nn {f : Nat → Int} {q : Key} : ∀ {a : Seats}, (∀ s ∈ a, 0 ≤ f s.1) → 0 ≤ toQ f q a
  | [], _ => by simp [toQ]
  | (i, p) :: r, h => by
    show 0 ≤ (if p = q then f i else 0) + toQ f q r
    have h1 : 0 ≤ f i := h (i, p) (List.mem_cons_self ..)
    have h2 := toQ_nn (q := q) fun s hs => h s (List.mem_cons_of_mem _ hs)
    split <;> omega
theorem mem_seatsOf {N : Net} {i : Nat} {q : Key} : ∀ {k : Nat}, (i, q) ∈ seatsOf N k ↔ i < k ∧ q ∈ N.getD i []
  | 0 => by simp [seatsOf]
  | k + 1 => by
    show (i, q) ∈ seatsOf N k ++ stSeats k (N.getD k []) ↔ _
    rw [List.mem_append, mem_seatsOf]
    have e : (i, q) ∈ stSeats k (N.getD k []) ↔ i = k ∧ q ∈ N.getD k [] := by
      unfold stSeats
      rw [List.mem_map]
      constructor
      · rintro ⟨p, hp, e⟩
        cases e
        exact ⟨rfl, hp⟩
      · rintro ⟨rfl, h⟩
        exact ⟨q, h, rfl⟩
    rw [e]
    constructor
    · rintro (⟨h1, h2⟩ | ⟨rfl, h2⟩)
      · exact ⟨by omega, h2⟩
      · exact ⟨by omega, h2⟩
    · rintro ⟨h1, h2⟩
      by_cases z : i = k
      · subst z; exact .inr ⟨rfl, h2⟩
      · exact .inl ⟨by omega, h2⟩
theorem seatsOf_len {N : Net} (h : ∀ s ∈ N, s.length ≤ 8) : ∀ k, (seatsOf N k).length ≤ 8 * k
  | 0 => by simp [seatsOf]
  | k + 1 => by
    show (seatsOf N k ++ stSeats k (N.getD k [])).length ≤ _
    rw [List.length_append]
    have h1 := seatsOf_len h k
    have h2 : (stSeats k (N.getD k [])).length ≤ 8 := by
      unfold stSeats
      rw [List.length_map, List.getD_eq_getElem?_getD]
      cases e : N[k]? with
      | none => simp
      | some s => exact h s (List.mem_of_getElem? e)
    omega
/-! ### a place's feeders -/
abbrev Cnt := List (Nat × Int)
def cntV (G : Cnt) : List (Key × V) := G.map fun g => (.inl (g.1 : Int), .int g.2)
def cntQ (f : Nat → Int) : Cnt → Int
  | [] => 0
  | (i, c) :: r => c * f i + cntQ f r
def getC (i : Nat) : Cnt → Int
  | [] => 0
  | (j, c) :: r => if j = i then c else getC i r
def bump (i : Nat) : Cnt → Cnt
  | [] => [(i, 1)]
  | (j, c) :: r => if j = i then (j, c + 1) :: r else (j, c) :: bump i r
theorem cntQ_bump {f : Nat → Int} {i : Nat} : ∀ {G : Cnt}, cntQ f (bump i G) = cntQ f G + f i
  | [] => by simp [bump, cntQ]
  | (j, c) :: r => by
    unfold bump
    by_cases e : j = i
    · rw [if_pos e]
      show (c + 1) * f j + cntQ f r = c * f j + cntQ f r + f i
      rw [e, Int.add_mul]; omega
    · rw [if_neg e]
      show c * f j + cntQ f (bump i r) = c * f j + cntQ f r + f i
      rw [cntQ_bump]; omega
theorem val_cntV {i : Nat} : ∀ {G : Cnt}, (valV (cntV G) (.inl (i : Int))).getD (.int 0) = .int (getC i G)
  | [] => rfl
  | (j, c) :: r => by
    show (valV ((.inl (j : Int), .int c) :: cntV r) (.inl (i : Int))).getD (.int 0) = .int (if j = i then c else getC i r)
    by_cases e : j = i
    · subst e
      rw [if_pos rfl, valV_pos rfl]; rfl
    · rw [if_neg e, valV_neg (by show ¬ (Sum.inl (j : Int) : Key) = Sum.inl (i : Int); intro z; exact e (by have := Sum.inl.inj z; omega)), val_cntV]
theorem any_cntV {i : Nat} : ∀ {G : Cnt}, ((cntV G).any fun kv => decide (kv.1 = (.inl (i : Int) : Key))) = true ↔ i ∈ G.map (·.1)
  | [] => by simp [cntV]
  | (j, c) :: r => by
    show (decide ((Sum.inl (j : Int) : Key) = Sum.inl (i : Int)) || (cntV r).any fun kv => decide (kv.1 = (.inl (i : Int) : Key))) = true ↔ i ∈ j :: r.map (·.1)
    rw [Bool.or_eq_true, any_cntV, List.mem_cons, decide_eq_true_eq]
    constructor
    · rintro (h | h)
      · exact .inl (by have := Sum.inl.inj h; omega)
      · exact .inr h
    · rintro (h | h)
      · exact .inl (by rw [h])
      · exact .inr h
theorem getC_not {i : Nat} : ∀ {G : Cnt}, ¬ i ∈ G.map (·.1) → getC i G = 0
  | [], _ => rfl
  | (j, c) :: r, h => by
    rw [List.map_cons, List.mem_cons, not_or] at h
    show (if j = i then c else getC i r) = 0
    rw [if_neg (fun z => h.1 z.symm), getC_not h.2]
theorem bump_not {i : Nat} : ∀ {G : Cnt}, ¬ i ∈ G.map (·.1) → bump i G = G ++ [(i, 1)]
  | [], _ => rfl
  | (j, c) :: r, h => by
    rw [List.map_cons, List.mem_cons, not_or] at h
    show (if j = i then _ else _) = _
    rw [if_neg (fun z => h.1 z.symm), bump_not h.2]; rfl
theorem map_not {i : Nat} {y : V} : ∀ {G : Cnt}, ¬ i ∈ G.map (·.1) → (cntV G).map (fun kv => if kv.1 = (.inl (i : Int) : Key) then (kv.1, y) else kv) = cntV G
  | [], _ => rfl
  | (j, c) :: r, h => by
    rw [List.map_cons, List.mem_cons, not_or] at h
    show (if (Sum.inl (j : Int) : Key) = Sum.inl (i : Int) then _ else _) :: (cntV r).map _ = _ :: cntV r
    rw [if_neg (fun z => h.1 (by have := Sum.inl.inj z; omega)), map_not h.2]
theorem put_cntV {i : Nat} : ∀ {G : Cnt}, (G.map (·.1)).Nodup → putK (cntV G) (.inl (i : Int)) (.int (getC i G + 1)) = cntV (bump i G)
  | G, nd => by
    unfold putK
    by_cases h : i ∈ G.map (·.1)
    · rw [if_pos (any_cntV.mpr h)]
      induction G with
      | nil => simp at h
      | cons g r ih =>
        obtain ⟨j, c⟩ := g
        rw [List.map_cons, List.nodup_cons] at nd
        by_cases e : j = i
        · subst e
          show (if (Sum.inl (j : Int) : Key) = Sum.inl (j : Int) then ((Sum.inl (j : Int) : Key), V.int (getC j ((j, c) :: r) + 1)) else _) :: (cntV r).map _ = cntV (if j = j then _ else _)
          rw [if_pos rfl, if_pos rfl, map_not nd.1]
          show (_, V.int ((if j = j then c else getC j r) + 1)) :: _ = _
          rw [if_pos rfl]; rfl
        · rw [List.map_cons, List.mem_cons] at h
          have hr : i ∈ r.map (·.1) := h.resolve_left fun z => e z.symm
          show (if (Sum.inl (j : Int) : Key) = Sum.inl (i : Int) then _ else ((Sum.inl (j : Int) : Key), V.int c)) :: (cntV r).map (fun kv => if kv.1 = (.inl (i : Int) : Key) then (kv.1, V.int ((if j = i then c else getC i r) + 1)) else kv) = cntV (if j = i then _ else _)
          rw [if_neg (fun z => e (by have := Sum.inl.inj z; omega)), if_neg e, if_neg e, ih nd.2 hr]; rfl
    · rw [if_neg (fun z => h (any_cntV.mp z)), bump_not h, getC_not h]
      simp [cntV]
theorem bump_keys {i j : Nat} : ∀ {G : Cnt}, j ∈ (bump i G).map (·.1) ↔ j = i ∨ j ∈ G.map (·.1)
  | [] => by simp [bump]
  | (l, c) :: r => by
    unfold bump
    by_cases e : l = i
    · subst e
      rw [if_pos rfl]
      simp
    · rw [if_neg e, List.map_cons, List.mem_cons, bump_keys, List.map_cons, List.mem_cons]
      constructor
      · rintro (h | h | h)
        · exact .inr (.inl h)
        · exact .inl h
        · exact .inr (.inr h)
      · rintro (h | h | h)
        · exact .inr (.inl h)
        · exact .inl h
        · exact .inr (.inr h)
theorem bump_nd {i : Nat} : ∀ {G : Cnt}, (G.map (·.1)).Nodup → ((bump i G).map (·.1)).Nodup
  | [], _ => by simp [bump]
  | (l, c) :: r, nd => by
    rw [List.map_cons, List.nodup_cons] at nd
    unfold bump
    by_cases e : l = i
    · rw [if_pos e, List.map_cons, List.nodup_cons]
      exact nd
    · rw [if_neg e, List.map_cons, List.nodup_cons]
      refine ⟨fun z => ?_, bump_nd nd.2⟩
      rcases bump_keys.mp z with h | h
      · exact e h
      · exact nd.1 h
theorem bump_le {i : Nat} {b : Int} : ∀ {G : Cnt}, (∀ g ∈ G, 0 < g.2 ∧ g.2 ≤ b) → 0 ≤ b → ∀ g ∈ bump i G, 0 < g.2 ∧ g.2 ≤ b + 1
  | [], _, h0, g, hg => by
    have e : g = (i, 1) := by simpa [bump] using hg
    rw [e]; exact ⟨by show (0 : Int) < 1; decide, by show (1 : Int) ≤ b + 1; omega⟩
  | (l, c) :: r, h, h0, g, hg => by
    have hr : ∀ g ∈ r, 0 < g.2 ∧ g.2 ≤ b := fun g hg => h g (List.mem_cons_of_mem _ hg)
    have hc := h (l, c) (List.mem_cons_self ..)
    unfold bump at hg
    by_cases e : l = i
    · rw [if_pos e] at hg
      rcases List.mem_cons.mp hg with rfl | hg
      · exact ⟨by show 0 < c + 1; have := hc.1; omega, by show c + 1 ≤ b + 1; have := hc.2; omega⟩
      · have := hr g hg; exact ⟨this.1, by omega⟩
    · rw [if_neg e] at hg
      rcases List.mem_cons.mp hg with rfl | hg
      · exact ⟨hc.1, by have := hc.2; omega⟩
      · exact bump_le hr h0 g hg
theorem bump_len {i : Nat} : ∀ {G : Cnt}, (bump i G).length ≤ G.length + 1
  | [] => by simp [bump]
  | (l, c) :: r => by
    unfold bump
    by_cases e : l = i
    · rw [if_pos e]; simp
    · rw [if_neg e]
      have := @bump_len i r
      simp; omega
/-! ### dicts as functions -/
theorem putK_keys {kvs : List (Key × V)} {k : Key} {v : V} (nd : (kvs.map (·.1)).Nodup) : ((putK kvs k v).map (·.1)).Nodup := by
  unfold putK
  by_cases h : (kvs.any fun kv => decide (kv.1 = k)) = true
  · rw [if_pos h, List.map_map]
    have e : kvs.map ((·.1) ∘ fun kv => if kv.1 = k then (kv.1, v) else kv) = kvs.map (·.1) := List.map_congr_left fun a _ => by
      show (if a.1 = k then (a.1, v) else a).1 = a.1
      split <;> rfl
    rw [e]; exact nd
  · rw [if_neg h, List.map_append]
    refine nd_snoc nd fun z => h ?_
    obtain ⟨p, hp, e⟩ := List.mem_map.mp z
    exact List.any_eq_true.mpr ⟨p, hp, decide_eq_true e⟩
theorem val_of_mem : ∀ {kvs : List (Key × V)} {k : Key} {v : V}, (kvs.map (·.1)).Nodup → (k, v) ∈ kvs → valV kvs k = some v
  | p :: r, k, v, nd, h => by
    rw [List.map_cons, List.nodup_cons] at nd
    rcases List.mem_cons.mp h with e | h
    · rw [← e, valV_pos rfl]
    · rw [valV_neg (fun z => nd.1 (by rw [z]; exact List.mem_map.mpr ⟨_, h, rfl⟩)), val_of_mem nd.2 h]
theorem sq_but {K : PySem.W.Frag} {H H1 : Hp} {b d : Addr} {xs : List V} {kvs : List (Key × V)} (h : SqL K H b xs) (hd : H d = some (.dK kvs)) (e : ∀ x o, x ≠ d → H x = some o → H1 x = some o) : SqL K H1 b xs := by
  rcases h with (h | ⟨o, h⟩) | h
  · exact .inl (.inl (e _ _ (ne_of h hd (fun z => by cases z)) h))
  · exact .inl (.inr ⟨o, e _ _ (ne_of h hd (fun z => by cases z)) h⟩)
  · exact .inr h
theorem mem_of_val : ∀ {kvs : List (Key × V)} {k : Key} {v : V}, valV kvs k = some v → (k, v) ∈ kvs
  | [], k, v, h => by cases h
  | p :: r, k, v, h => by
    by_cases e : p.1 = k
    · rw [valV_pos e] at h
      rw [← Option.some.inj h, ← e]; exact List.mem_cons_self ..
    · rw [valV_neg e] at h
      exact List.mem_cons_of_mem _ (mem_of_val h)
/-- the dict at D with the feeders of all places, n stations given and the seats of L counted; H0: ahead of it all -/
structure Feed (H0 H : Hp) (D : Addr) (n : Nat) (L : Seats) (A : Key → Option Addr) (G : Key → Cnt) (kvs : List (Key × V)) : Prop where
  nd : (kvs.map (·.1)).Nodup
  val : ∀ q, valV kvs q = (A q).map V.ref
  inj : ∀ q q' a, A q = some a → A q' = some a → q = q'
  ne : ∀ q a, A q = some a → a ≠ D
  inn : ∀ q a, A q = some a → H a = some (.dK (cntV (G q)))
  new : ∀ q a, A q = some a → H0 a = none
  newD : H0 D = none
  keys : ∀ q, (A q).isSome = true ↔ (∃ i : Nat, i < n ∧ q = .inl (i : Int)) ∨ ∃ i, (i, q) ∈ L
  sum : ∀ q f, cntQ f (G q) = toQ f q L
  mem : ∀ q g, g ∈ G q → (g.1, q) ∈ L
  le : ∀ q, ∀ g ∈ G q, 0 < g.2 ∧ g.2 ≤ (L.length : Int)
  ndG : ∀ q, ((G q).map (·.1)).Nodup
  len : kvs.length ≤ n + L.length
  lenG : ∀ q, (G q).length ≤ L.length
  ex : Ex H0 H
section
variable {H0 H H2 : Hp} {D z : Addr} {n i : Nat} {L : Seats} {A : Key → Option Addr} {G : Key → Cnt} {kvs : List (Key × V)} {p : Key}
theorem Feed.empty (F : Feed H0 H D n L A G kvs) (h : A p = none) : G p = [] := by
  cases e : G p with
  | nil => rfl
  | cons g r =>
    have := (F.keys p).mpr (.inr ⟨g.1, F.mem p g (by rw [e]; exact List.mem_cons_self ..)⟩)
    rw [h] at this; cases this
/-- the heap may grow and change elsewhere -/
theorem Feed.but (F : Feed H0 H D n L A G kvs) (e : ∀ x o, H0 x = some o → H2 x = some o) (k : ∀ q a, A q = some a → H2 a = H a) : Feed H0 H2 D n L A G kvs :=
  { F with inn := fun q a h => by rw [k q a h]; exact F.inn q a h, ex := e }
theorem Feed.ex2 (F : Feed H0 H D n L A G kvs) (e : Ex H H2) : Feed H0 H2 D n L A G kvs :=
  { F with inn := fun q a h => e _ _ (F.inn q a h), ex := F.ex.trans e }
/-- one station more in the dict, nobody leads there yet -/
theorem Feed.key (F : Feed H0 H D i [] A G kvs) (hz : H0 z = none) (hzD : z ≠ D) (hzA : ∀ q a, A q = some a → a ≠ z) (h2 : ∀ x o, x ≠ D → H x = some o → H2 x = some o) (h3 : H2 z = some (.dK [])) :
    Feed H0 H2 D (i + 1) [] (fun q => if q = .inl (i : Int) then some z else A q) G (putK kvs (.inl (i : Int)) (.ref z)) where
  nd := putK_keys F.nd
  val := fun q => by
    rw [valV_put, F.val]
    by_cases e : q = .inl (i : Int)
    · rw [if_pos e, if_pos e]; rfl
    · rw [if_neg e, if_neg e]
  inj := fun q q' a h h' => by
    by_cases e : q = .inl (i : Int)
    · rw [if_pos e] at h
      by_cases e' : q' = .inl (i : Int)
      · rw [e, e']
      · rw [if_neg e'] at h'
        exact absurd (Option.some.inj h).symm (hzA _ _ h')
    · rw [if_neg e] at h
      by_cases e' : q' = .inl (i : Int)
      · rw [if_pos e'] at h'
        exact absurd (Option.some.inj h').symm (hzA _ _ h)
      · rw [if_neg e'] at h'
        exact F.inj q q' a h h'
  ne := fun q a h => by
    by_cases e : q = .inl (i : Int)
    · rw [if_pos e] at h; rw [← Option.some.inj h]; exact hzD
    · rw [if_neg e] at h; exact F.ne q a h
  inn := fun q a h => by
    by_cases e : q = .inl (i : Int)
    · rw [if_pos e] at h; rw [← Option.some.inj h, h3]
      have : G q = [] := by
        cases e2 : G q with
        | nil => rfl
        | cons g r =>
          have := F.mem q g (by rw [e2]; exact List.mem_cons_self ..)
          simp at this
      rw [this]; rfl
    · rw [if_neg e] at h; exact h2 _ _ (F.ne q a h) (F.inn q a h)
  new := fun q a h => by
    by_cases e : q = .inl (i : Int)
    · rw [if_pos e] at h; rw [← Option.some.inj h]; exact hz
    · rw [if_neg e] at h; exact F.new q a h
  newD := F.newD
  keys := fun q => by
    by_cases e : q = .inl (i : Int)
    · rw [if_pos e]
      exact ⟨fun _ => .inl ⟨i, by omega, e⟩, fun _ => rfl⟩
    · rw [if_neg e, F.keys q]
      constructor
      · rintro (⟨j, hj, h⟩ | h)
        · exact .inl ⟨j, by omega, h⟩
        · exact .inr h
      · rintro (⟨j, hj, h⟩ | h)
        · by_cases z : j = i
          · rw [z] at h; exact absurd h e
          · exact .inl ⟨j, by omega, h⟩
        · exact .inr h
  sum := F.sum
  mem := F.mem
  le := F.le
  ndG := F.ndG
  len := by
    have := length_putK kvs (.inl (i : Int)) (.ref z)
    have := F.len
    simp at *
    omega
  lenG := F.lenG
  ex := fun x o h => h2 x o (ne_of_none h F.newD) (F.ex x o h)
theorem Feed.start (h : H0 D = none) (e : Ex H0 H) : Feed H0 H D 0 [] (fun _ => none) (fun _ => []) [] where
  nd := List.nodup_nil
  val := fun q => rfl
  inj := fun _ _ _ h => nomatch h
  ne := fun _ _ h => nomatch h
  inn := fun _ _ h => nomatch h
  new := fun _ _ h => nomatch h
  newD := h
  keys := fun q => by simp
  sum := fun q f => rfl
  mem := fun _ _ h => by simp at h
  le := fun _ _ h => by simp at h
  ndG := fun _ => List.nodup_nil
  len := by simp
  lenG := fun _ => by simp
  ex := e
/-- a seat more: z is its place's dict, old or new -/
theorem Feed.seat (F : Feed H0 H D n L A G kvs) (hz : A p = some z ∨ (A p = none ∧ H0 z = none ∧ z ≠ D ∧ ∀ q a, A q = some a → a ≠ z)) (h2 : ∀ x o, x ≠ D → x ≠ z → H x = some o → H2 x = some o) (h3 : H2 z = some (.dK (cntV (bump i (G p))))) :
    Feed H0 H2 D n (L ++ [(i, p)]) (fun q => if q = p then some z else A q) (fun q => if q = p then bump i (G p) else G q) (if A p = none then putK kvs p (.ref z) else kvs) := by
  have hzD : z ≠ D := by
    rcases hz with h | h
    · exact F.ne _ _ h
    · exact h.2.2.1
  have hz0 : H0 z = none := by
    rcases hz with h | h
    · exact F.new _ _ h
    · exact h.2.1
  have hzA : ∀ q a, q ≠ p → A q = some a → a ≠ z := fun q a hq h => by
    rcases hz with h' | h'
    · intro e; subst e; exact hq (F.inj _ _ _ h h')
    · exact h'.2.2.2 q a h
  have pos : 0 ≤ (L.length : Int) := by omega
  refine { nd := ?_, val := fun q => ?_, inj := fun q q' a h h' => ?_, ne := fun q a h => ?_, inn := fun q a h => ?_, new := fun q a h => ?_, newD := F.newD, keys := fun q => ?_, sum := fun q f => ?_, mem := fun q g hg => ?_, le := fun q g hg => ?_, ndG := fun q => ?_, len := ?_, lenG := fun q => ?_, ex := fun x o h => h2 x o (ne_of_none h F.newD) (ne_of_none h hz0) (F.ex x o h) }
  · split
    · exact putK_keys F.nd
    · exact F.nd
  · by_cases e : q = p
    · subst e
      rw [if_pos rfl]
      rcases hz with h | h
      · rw [if_neg (by rw [h]; simp), F.val, h]
      · rw [if_pos h.1, valV_put, if_pos rfl]; rfl
    · rw [if_neg e]
      split
      · rw [valV_put, if_neg e]; exact F.val q
      · exact F.val q
  · by_cases e : q = p
    · by_cases e' : q' = p
      · rw [e, e']
      · rw [if_pos e] at h
        rw [if_neg e'] at h'
        exact absurd (Option.some.inj h).symm (hzA _ _ e' h')
    · rw [if_neg e] at h
      by_cases e' : q' = p
      · rw [if_pos e'] at h'
        exact absurd (Option.some.inj h').symm (hzA _ _ e h)
      · rw [if_neg e'] at h'
        exact F.inj q q' a h h'
  · by_cases e : q = p
    · rw [if_pos e] at h; rw [← Option.some.inj h]; exact hzD
    · rw [if_neg e] at h; exact F.ne q a h
  · by_cases e : q = p
    · rw [if_pos e] at h; rw [← Option.some.inj h, if_pos e]; exact h3
    · rw [if_neg e] at h
      rw [if_neg e]
      exact h2 _ _ (F.ne q a h) (hzA q a e h) (F.inn q a h)
  · by_cases e : q = p
    · rw [if_pos e] at h; rw [← Option.some.inj h]; exact hz0
    · rw [if_neg e] at h; exact F.new q a h
  · by_cases e : q = p
    · rw [if_pos e]
      refine ⟨fun _ => .inr ⟨i, ?_⟩, fun _ => rfl⟩
      rw [e]; simp
    · rw [if_neg e, F.keys q]
      constructor
      · rintro (h | ⟨j, h⟩)
        · exact .inl h
        · exact .inr ⟨j, List.mem_append_left _ h⟩
      · rintro (h | ⟨j, h⟩)
        · exact .inl h
        · rcases List.mem_append.mp h with h | h
          · exact .inr ⟨j, h⟩
          · have : (j, q) = (i, p) := by simpa using h
            exact absurd (Prod.mk.inj this).2 e
  · rw [toQ_append]
    show cntQ f (if q = p then bump i (G p) else G q) = toQ f q L + ((if p = q then f i else 0) + 0)
    by_cases e : q = p
    · subst e
      rw [if_pos rfl, if_pos rfl, cntQ_bump, F.sum]; omega
    · rw [if_neg e, if_neg (fun z => e z.symm), F.sum]; omega
  · by_cases e : q = p
    · rw [if_pos e] at hg
      have hk : g.1 ∈ (bump i (G p)).map (·.1) := List.mem_map.mpr ⟨g, hg, rfl⟩
      rcases bump_keys.mp hk with h | h
      · rw [h, e]; simp
      · obtain ⟨g', hg', e'⟩ := List.mem_map.mp h
        have := F.mem p g' hg'
        rw [e', ← e] at this
        exact List.mem_append_left _ this
    · rw [if_neg e] at hg
      exact List.mem_append_left _ (F.mem q g hg)
  · have hl : ((L ++ [(i, p)]).length : Int) = L.length + 1 := by simp
    rw [hl]
    by_cases e : q = p
    · rw [if_pos e] at hg
      exact bump_le (F.le p) pos g hg
    · rw [if_neg e] at hg
      have := F.le q g hg
      exact ⟨this.1, by omega⟩
  · by_cases e : q = p
    · rw [if_pos e]; exact bump_nd (F.ndG p)
    · rw [if_neg e]; exact F.ndG q
  · rw [List.length_append]
    have := F.len
    split
    · have := length_putK kvs p (.ref z)
      simp; omega
    · simp; omega
  · rw [List.length_append]
    have h1 := F.lenG q
    have h2 := F.lenG p
    have h3 := @bump_len i (G p)
    by_cases e : q = p
    · rw [if_pos e]; simp; omega
    · rw [if_neg e]; simp; omega
end
/-! ### states -/
def qD (q : List Int) : PyData := .tuple (q.map PyData.int)
def qsD (qs : List (List Int)) : PyData := .tuple (qs.map qD)
def stateD (p : Int) (qs : List (List Int)) : PyData := .tuple [.int p, qsD qs]
theorem qD_t (q : List Int) : TupD (qD q) := .tup fun d hd => by
  obtain ⟨k, _, rfl⟩ := List.mem_map.mp hd
  exact .int k
theorem qsD_t (qs : List (List Int)) : TupD (qsD qs) := .tup fun d hd => by
  obtain ⟨k, _, rfl⟩ := List.mem_map.mp hd
  exact qD_t k
theorem stateD_t (p : Int) (qs : List (List Int)) : TupD (stateD p qs) := .tup fun d hd => by
  simp only [List.mem_cons, List.not_mem_nil, or_false] at hd
  rcases hd with rfl | rfl
  · exact .int p
  · exact qsD_t qs
theorem ints_dp {K : PySem.W.Frag} {H : Hp} : ∀ q : List Int, DpAll K H (q.map V.int) (q.map PyData.int)
  | [] => .nil
  | i :: q => .cons (.int i) (ints_dp q)
theorem dp_ints {K : PySem.W.Frag} {H : Hp} : ∀ {q : List Int} {vs : List V}, DpAll K H vs (q.map PyData.int) → vs = q.map V.int
  | [], _, .nil => rfl
  | i :: q, _, .cons h hs => by rw [h.int_inv, dp_ints hs]; rfl
theorem q_at {K : PySem.W.Frag} {H : Hp} {v : V} {q : List Int} (h : Dp K H v (qD q)) : ∃ a, v = .ref a ∧ SqT K H a (q.map V.int) := by
  obtain ⟨a, xs, e, h1, h2⟩ := Dp.tup_inv h
  rw [dp_ints h2] at h1
  exact ⟨a, e, h1⟩
theorem qs_at {K : PySem.W.Frag} {H : Hp} {v : V} {qs : List (List Int)} (h : Dp K H v (qsD qs)) : ∃ a ts, v = .ref a ∧ SqT K H a ts ∧ DpAll K H ts (qs.map qD) := Dp.tup_inv h
theorem state_at {K : PySem.W.Frag} {H : Hp} {v : V} {p : Int} {qs : List (List Int)} (h : Dp K H v (stateD p qs)) : ∃ a u, v = .ref a ∧ SqT K H a [.int p, u] ∧ Dp K H u (qsD qs) := by
  obtain ⟨a, xs, e, h1, h2⟩ := Dp.tup_inv h
  cases h2 with
  | cons h hs =>
    cases hs with
    | cons h' hs =>
      cases hs
      rw [h.int_inv] at h1
      exact ⟨a, _, e, h1, h'⟩
/-- the queues of a network's stations -/
structure StOk (N : Net) (p : Int) (qs : List (List Int)) : Prop where
  pos : 1 ≤ p
  len : qs.length = N.length
  lt : ∀ (k : Nat) q s, qs[k]? = some q → N[k]? = some s → q.length < s.length
  nd : qs.flatten.Nodup
  rng : ∀ x ∈ qs.flatten, 1 ≤ x ∧ x < p
/-! ### sets -/
section
variable {K : PySem.W.Frag} {P : Program} {w : World} {H : Hp} {Q : VK} {p : Addr} {S : Key → Bool} {n : Nat} {k : Key}
theorem x_tSAddK {to : TE} {t : TA} {σ : L2.St} : tSAddK P w to t σ H Q = to σ H fun x H1 => (∃ a S n, x = V.ref a ∧ H1 a = some (SetK P w a S n)) ∧ t σ H1 fun xs H2 => rSAddK P w x xs H2 Q := rfl
theorem x_set0 (q : ∀ p H', H p = none → Ex H H' → H' p = some (SetK P w p (fun _ => false) 0) → Q (.ref p) H') : rSet0K P w [] H Q := ⟨rfl, fun p hp => q p _ hp (Ex.new hp) upd_same⟩
theorem x_inS (h : H p = some (SetK P w p S n)) (q : Q (.bl (S k)) H) : rInU K P w false (kV k) (.ref p) H Q := .inr ⟨k, p, S, n, rfl, rfl, h, q⟩
theorem x_sadd (h : H p = some (SetK P w p S n)) (hn : n ≤ 1000) (q : ∀ H' m, (∀ x o, x ≠ p → H x = some o → H' x = some o) → m ≤ n + 1 → H' p = some (SetK P w p (fun j => S j || decide (j = k)) m) → Q .non H') : rSAddK P w (.ref p) [kV k] H Q :=
  ⟨p, k, S, n, rfl, rfl, h, by have : (1002 : Nat) ≤ scanBound := by decide +kernel
                               omega, q _ _ (fun x o hx e => by rw [upd_ne hx]; exact e) (by split <;> omega) upd_same⟩
end
end FB
set_option Elab.async false
set_option linter.all false
set_option maxRecDepth 100000
set_option maxHeartbeats 4000000
/-! Sorted texts; flat data. -/
namespace FB
open PySem PySem.Spec PyProof.Rows L2 Evl
theorem str_ext {a b : Str} (h : a.cps.toList = b.cps.toList) : a = b := by
  cases a with
  | mk x =>
    cases b with
    | mk y =>
      have : x = y := by
        have h : x.toList = y.toList := h
        rw [← Array.toArray_toList (xs := x), ← Array.toArray_toList (xs := y), h]
      rw [this]
theorem rising_pw : ∀ {r : List Str} {p : Str}, risingS p r = true → (p :: r).Pairwise fun a b => a.cps.toList ≤ b.cps.toList
  | [], p, _ => by simp
  | x :: r, p, h => by
    have h : (!ltCps x.cps.toList p.cps.toList && risingS x r) = true := h
    rw [Bool.and_eq_true] at h
    have ih := rising_pw h.2
    have hx : p.cps.toList ≤ x.cps.toList := by
      have := h.1
      rw [PyProof.Rows.ltCps_eq] at this
      simpa using this
    rw [List.pairwise_cons]
    refine ⟨fun y hy => ?_, ih⟩
    rcases List.mem_cons.mp hy with rfl | hy
    · exact hx
    · exact List.le_trans hx ((List.pairwise_cons.mp ih).1 y hy)
theorem sorted_same {a b : List Str} (hp : a.Perm b) (ha : sortedS a = true) (hb : sortedS b = true) : a = b := by
  have pw : ∀ {l : List Str}, sortedS l = true → l.Pairwise fun a b => a.cps.toList ≤ b.cps.toList := fun {l} h => by
    cases l with
    | nil => exact List.Pairwise.nil
    | cons x r => exact rising_pw h
  exact List.Perm.eq_of_pairwise (fun x y _ _ h1 h2 => str_ext (List.le_antisymm h1 h2)) (pw ha) (pw hb) hp
theorem depthAll_le {m : Nat} : ∀ {ds : List PyData}, (∀ d ∈ ds, d.depth ≤ m) → PyData.depthAll ds ≤ m
  | [], _ => by simp [PyData.depthAll]
  | d :: r, h => by
    have h1 := h d (List.mem_cons_self ..)
    have h2 := depthAll_le fun d hd => h d (List.mem_cons_of_mem _ hd)
    simp [PyData.depthAll]
    omega
theorem layAll : ∀ {ds : List PyData}, (∀ d ∈ ds, d.canLay0 = true) → PyData.canLayAll0 ds = true
  | [], _ => by simp [PyData.canLayAll0]
  | d :: r, h => by
    simp [PyData.canLayAll0, h d (List.mem_cons_self ..), layAll fun d hd => h d (List.mem_cons_of_mem _ hd)]
theorem strs_dp {K : PySem.W.Frag} {H : Hp} : ∀ q : List Str, DpAll K H (q.map V.str) (q.map PyData.str)
  | [] => .nil
  | i :: q => .cons (.str i) (strs_dp q)
/-- sorted(d), the keys texts -/
def rSortD (vs : List V) (H : Hp) (Q : VK) : Prop := ∃ (a : Addr) (kvs : List (Key × V)) (ks : List Str), vs = [.ref a] ∧ Rd H a (.dK kvs) ∧ kvs.map (·.1) = ks.map Sum.inr ∧ ks.length < 64 ∧ ∀ ys p, ys.Perm ks → sortedS ys = true → H p = none → Q (.ref p) (upd H p (.lst (ys.map V.str)))
theorem call_sortD {X : Cx} (hc : X.calm = true) : CallR X (.builtin "sorted") rSortD := call_sortedD hc
section
variable {K : PySem.W.Frag} {H : Hp} {a b : Addr} {ka kb : List (Key × V)} {Q : VK}
theorem x_sortD {ks : List Str} (h : H a = some (.dK ka)) (hk : ka.map (·.1) = ks.map Sum.inr) (hl : ks.length < 64) (q : ∀ ys p H', ys.Perm ks → sortedS ys = true → H p = none → Ex H H' → H' p = some (.lst (ys.map V.str)) → Q (.ref p) H') : rSortD [.ref a] H Q :=
  ⟨a, ka, ks, rfl, .inl h, hk, hl, fun ys p h1 h2 h3 => q ys p _ h1 h2 h3 (Ex.new h3) upd_same⟩
theorem x_isDict (h : H a = some (.dK ka)) (q : Q (.bl true) H) : rIsiU K [.ref a, .ty "dict"] H Q := .inl ⟨_, _, .type "dict", .type "dict", true, rfl, .ty _, .base (.dK h), rfl, q⟩
theorem x_eqDA (h1 : H a = some (.dK ka)) (h2 : H b = some (.dK kb)) (hl : ka.length = kb.length) (hp : ∀ p ∈ ka, valV kb p.1 = some p.2 ∧ flatB p.2 = true) (q : Q (.bl true) H) : rEqDA (.ref a) (.ref b) H Q := ⟨a, b, ka, kb, rfl, rfl, h1, h2, hl, hp, q⟩
end
end FB
set_option Elab.async false
set_option linter.all false
set_option maxRecDepth 100000
set_option maxHeartbeats 4000000
/-! Arrivals: who joins a queue, whose boat departs. -/
namespace FB
open PySem PySem.Spec PyProof.Rows L2 Evl
/-- queues of what waits -/
abbrev QsA (α : Type) := List (List α)
abbrev Qs := QsA Int
/-- what happens: a boat with its passengers (.inl), one who finishes (.inr) -/
abbrev EvsA (α : Type) := List (Key × List α)
abbrev Evs := EvsA Int
abbrev Dep (α : Type) := QsA α → Nat → QsA α × EvsA α
section
variable {α : Type} [Inhabited α]
def joinW (N : Net) (dep : Dep α) (qs : QsA α) (j : Nat) (p : α) : QsA α × EvsA α :=
  if (qs.getD j [] ++ [p]).length = (N.getD j []).length then dep (qs.set j (qs.getD j [] ++ [p])) j else (qs.set j (qs.getD j [] ++ [p]), [])
def moveW (N : Net) (dep : Dep α) : List (Key × α) → QsA α → QsA α × EvsA α
  | [], qs => (qs, [])
  | (.inr z, p) :: r, qs => ((moveW N dep r qs).1, (.inr z, [p]) :: (moveW N dep r qs).2)
  | (.inl j, p) :: r, qs => ((moveW N dep r (joinW N dep qs j.toNat p).1).1, (joinW N dep qs j.toNat p).2 ++ (moveW N dep r (joinW N dep qs j.toNat p).1).2)
/-- f: how many stations are left at most -/
def departW (N : Net) : Nat → Dep α
  | 0 => fun qs _ => (qs, [])
  | f + 1 => fun qs st => ((moveW N (departW N f) ((N.getD st []).zip (qs.getD st [])) (qs.set st [])).1, (.inl (st : Int), qs.getD st []) :: (moveW N (departW N f) ((N.getD st []).zip (qs.getD st [])) (qs.set st [])).2)
/-- who finishes -/
def finOf : EvsA α → List (Str × α)
  | [] => []
  | (.inl _, _) :: r => finOf r
  | (.inr z, ps) :: r => (z, ps.headD default) :: finOf r
theorem finOf_append : ∀ {a b : EvsA α}, finOf (a ++ b) = finOf a ++ finOf b
  | [], _ => rfl
  | (.inl _, _) :: r, b => finOf_append (a := r)
  | (.inr z, ps) :: r, b => congrArg ((z, ps.headD default) :: ·) (finOf_append (a := r))
theorem moveW_append {N : Net} {dep : Dep α} : ∀ {a b : List (Key × α)} {qs : QsA α}, moveW N dep (a ++ b) qs = ((moveW N dep b (moveW N dep a qs).1).1, (moveW N dep a qs).2 ++ (moveW N dep b (moveW N dep a qs).1).2)
  | [], b, qs => rfl
  | (.inr z, p) :: r, b, qs => by
    show ((moveW N dep (r ++ b) qs).1, (.inr z, [p]) :: (moveW N dep (r ++ b) qs).2) = _
    rw [moveW_append]; rfl
  | (.inl j, p) :: r, b, qs => by
    show ((moveW N dep (r ++ b) (joinW N dep qs j.toNat p).1).1, (joinW N dep qs j.toNat p).2 ++ (moveW N dep (r ++ b) (joinW N dep qs j.toNat p).1).2) = _
    rw [moveW_append]
    show (_, (joinW N dep qs j.toNat p).2 ++ (_ ++ _)) = (_, ((joinW N dep qs j.toNat p).2 ++ _) ++ _)
    rw [List.append_assoc]; rfl
/-- one move more -/
theorem moveW_snoc {N : Net} {dep : Dep α} {a : List (Key × α)} {k : Key} {p : α} {qs : QsA α} : moveW N dep (a ++ [(k, p)]) qs = ((moveW N dep [(k, p)] (moveW N dep a qs).1).1, (moveW N dep a qs).2 ++ (moveW N dep [(k, p)] (moveW N dep a qs).1).2) := moveW_append
theorem move_one_r {N : Net} {dep : Dep α} {z : Str} {p : α} {qs : QsA α} : moveW N dep [(.inr z, p)] qs = (qs, [(.inr z, [p])]) := rfl
theorem move_one_l {N : Net} {dep : Dep α} {j : Int} {p : α} {qs : QsA α} : moveW N dep [(.inl j, p)] qs = joinW N dep qs j.toNat p := by
  show (_, (joinW N dep qs j.toNat p).2 ++ []) = _
  rw [List.append_nil]; rfl
/-- each queue is shorter than its boat -/
structure Short (N : Net) (qs : QsA α) : Prop where
  len : qs.length = N.length
  lt : ∀ k, k < N.length → (qs.getD k []).length < (N.getD k []).length
/-- seats lead to later stations that there are -/
def Fw (N : Net) : Prop := ∀ i, i < N.length → ∀ j : Int, (.inl j : Key) ∈ N.getD i [] → (i : Int) < j ∧ j < N.length
theorem getD_set' {l : QsA α} {i j : Nat} {x : List α} (h : i < l.length) : (l.set i x).getD j [] = if j = i then x else l.getD j [] := by
  rw [List.getD_eq_getElem?_getD, List.getElem?_set]
  by_cases e : i = j
  · subst e
    rw [if_pos rfl, if_pos rfl, if_pos h]; rfl
  · rw [if_neg e, if_neg (fun z => e z.symm), ← List.getD_eq_getElem?_getD]
/-- a departure from st on is sound: what it asks, what it leaves -/
def DepOk (N : Net) (f : Nat) (dep : Dep α) : Prop := ∀ qs st, N.length ≤ st + f → st < N.length → qs.length = N.length → (∀ k, k < N.length → k ≠ st → (qs.getD k []).length < (N.getD k []).length) → (qs.getD st []).length ≤ (N.getD st []).length → 1 ≤ (N.getD st []).length →
  Short N (dep qs st).1 ∧ ∀ k, k < st → (dep qs st).1.getD k [] = qs.getD k []
theorem joinW_ok {N : Net} {f : Nat} {dep : Dep α} (h1 : ∀ k, k < N.length → 1 ≤ (N.getD k []).length) (hd : DepOk N f dep) {qs : QsA α} {j : Nat} {p : α} (S : Short N qs) (hj : j < N.length) (hf : N.length ≤ j + f) : Short N (joinW N dep qs j p).1 ∧ ∀ k, k < j → (joinW N dep qs j p).1.getD k [] = qs.getD k [] := by
  have hjl : j < qs.length := by rw [S.len]; exact hj
  have lt := S.lt j hj
  unfold joinW
  split
  · rename_i e
    have q := hd (qs.set j (qs.getD j [] ++ [p])) j hf hj (by rw [List.length_set]; exact S.len) (fun k hk hne => by rw [getD_set' hjl, if_neg hne]; exact S.lt k hk) (by rw [getD_set' hjl, if_pos rfl]; omega) (h1 j hj)
    exact ⟨q.1, fun k hk => by rw [q.2 k hk, getD_set' hjl, if_neg (by omega)]⟩
  · rename_i e
    refine ⟨⟨by rw [List.length_set]; exact S.len, fun k hk => ?_⟩, fun k hk => by rw [getD_set' hjl, if_neg (by omega)]⟩
    rw [getD_set' hjl]
    split
    · rename_i e2
      subst e2
      have e3 : (qs.getD k [] ++ [p]).length = (qs.getD k []).length + 1 := by simp
      omega
    · exact S.lt k hk
theorem moveW_ok {N : Net} {f : Nat} {dep : Dep α} (h1 : ∀ k, k < N.length → 1 ≤ (N.getD k []).length) (hd : DepOk N f dep) {st : Nat} (hf : N.length ≤ st + 1 + f) : ∀ {ms : List (Key × α)} {qs : QsA α}, (∀ m ∈ ms, ∀ j : Int, m.1 = .inl j → (st : Int) < j ∧ j < N.length) → Short N qs →
    Short N (moveW N dep ms qs).1 ∧ ∀ k, k ≤ st → (moveW N dep ms qs).1.getD k [] = qs.getD k []
  | [], qs, _, S => ⟨S, fun _ _ => rfl⟩
  | (.inr z, p) :: r, qs, hm, S => moveW_ok h1 hd hf (ms := r) (fun m h => hm m (List.mem_cons_of_mem _ h)) S
  | (.inl j, p) :: r, qs, hm, S => by
    obtain ⟨a, b⟩ := hm _ (List.mem_cons_self ..) j rfl
    obtain ⟨S1, K1⟩ := joinW_ok h1 hd (p := p) S (j := j.toNat) (by omega) (by omega)
    obtain ⟨S2, K2⟩ := moveW_ok h1 hd hf (ms := r) (fun m h => hm m (List.mem_cons_of_mem _ h)) S1
    exact ⟨S2, fun k hk => by
      show (moveW N dep r (joinW N dep qs j.toNat p).1).1.getD k [] = _
      rw [K2 k hk, K1 k (by omega)]⟩
theorem departW_ok {N : Net} (h1 : ∀ k, k < N.length → 1 ≤ (N.getD k []).length) (fw : Fw N) : ∀ f, DepOk N f (departW (α := α) N f)
  | 0 => fun qs st h1 h2 => by omega
  | f + 1 => fun qs st hf hst hl hs hs2 h1s => by
    have hql : st < qs.length := by rw [hl]; exact hst
    have S0 : Short N (qs.set st []) := ⟨by rw [List.length_set]; exact hl, fun k hk => by
      rw [getD_set' hql]
      split
      · rename_i e; subst e; exact h1s
      · rename_i e; exact hs k hk e⟩
    obtain ⟨S1, K1⟩ := moveW_ok h1 (departW_ok h1 fw f) (st := st) (by omega) (ms := (N.getD st []).zip (qs.getD st [])) (fun m hm j e => fw st hst j (by rw [← e]; exact (List.of_mem_zip hm).1)) S0
    exact ⟨S1, fun k hk => by
      show (moveW N (departW N f) _ _).1.getD k [] = _
      rw [K1 k (by omega), getD_set' hql, if_neg (by omega)]⟩
/-! ### nobody is lost -/
theorem flat_set {x y : List α} : ∀ {qs : QsA α} {j : Nat}, qs[j]? = some x → ∃ a b, qs.flatten = a ++ x ++ b ∧ (qs.set j y).flatten = a ++ y ++ b
  | [], j, h => by simp at h
  | q :: qs, 0, h => by
    have e : q = x := by simpa using h
    subst e
    exact ⟨[], qs.flatten, by simp, by simp⟩
  | q :: qs, j + 1, h => by
    obtain ⟨a, b, h1, h2⟩ := flat_set (qs := qs) (j := j) (x := x) (y := y) (by simpa using h)
    exact ⟨q ++ a, b, by simp [h1], by simp [h2]⟩
theorem getD_some {qs : QsA α} {j : Nat} (h : j < qs.length) : qs[j]? = some (qs.getD j []) := by simp [List.getD_eq_getElem?_getD, h]
/-- who waits or has finished afterwards has waited before -/
def DepPm (N : Net) (dep : Dep α) : Prop := ∀ qs st, st < qs.length → qs.length = N.length → (qs.getD st []).length ≤ (N.getD st []).length → (dep qs st).1.length = qs.length ∧ ((dep qs st).1.flatten ++ (finOf (dep qs st).2).map (·.2)).Perm qs.flatten
theorem set_perm {qs : QsA α} {j : Nat} {p : α} (h : j < qs.length) : ((qs.set j (qs.getD j [] ++ [p])).flatten).Perm (qs.flatten ++ [p]) := by
  obtain ⟨a, b, h1, h2⟩ := flat_set (y := qs.getD j [] ++ [p]) (getD_some h)
  rw [h1, h2]
  simp only [List.append_assoc]
  refine List.Perm.append_left _ (List.Perm.append_left _ ?_)
  exact List.perm_append_comm
theorem joinW_pm {N : Net} {dep : Dep α} (hd : DepPm N dep) {qs : QsA α} {j : Nat} {p : α} (h : j < qs.length) (hl : qs.length = N.length) : (joinW N dep qs j p).1.length = qs.length ∧ ((joinW N dep qs j p).1.flatten ++ (finOf (joinW N dep qs j p).2).map (·.2)).Perm (qs.flatten ++ [p]) := by
  unfold joinW
  split
  · rename_i e
    obtain ⟨a, b⟩ := hd (qs.set j (qs.getD j [] ++ [p])) j (by rw [List.length_set]; exact h) (by rw [List.length_set]; exact hl) (by rw [getD_set' h, if_pos rfl]; omega)
    exact ⟨by rw [a, List.length_set], b.trans (set_perm h)⟩
  · exact ⟨by rw [List.length_set], by simpa [finOf] using set_perm (p := p) h⟩
theorem moveW_pm {N : Net} {dep : Dep α} (hd : DepPm N dep) : ∀ {ms : List (Key × α)} {qs : QsA α}, (∀ m ∈ ms, ∀ j : Int, m.1 = .inl j → j.toNat < qs.length) → qs.length = N.length → (moveW N dep ms qs).1.length = qs.length ∧ ((moveW N dep ms qs).1.flatten ++ (finOf (moveW N dep ms qs).2).map (·.2)).Perm (qs.flatten ++ ms.map (·.2))
  | [], qs, _, _ => ⟨rfl, by simp [moveW, finOf]⟩
  | (.inr z, p) :: r, qs, hm, hl => by
    obtain ⟨a, b⟩ := moveW_pm hd (ms := r) (qs := qs) (fun m h => hm m (List.mem_cons_of_mem _ h)) hl
    refine ⟨a, ?_⟩
    show ((moveW N dep r qs).1.flatten ++ p :: (finOf (moveW N dep r qs).2).map (·.2)).Perm (qs.flatten ++ p :: r.map (·.2))
    exact (List.perm_middle.trans (b.cons p)).trans List.perm_middle.symm
  | (.inl j, p) :: r, qs, hm, hl => by
    obtain ⟨a1, b1⟩ := joinW_pm (N := N) hd (p := p) (hm _ (List.mem_cons_self ..) j rfl) hl
    obtain ⟨a2, b2⟩ := moveW_pm hd (ms := r) (qs := (joinW N dep qs j.toNat p).1) (fun m h j' e => by rw [a1]; exact hm m (List.mem_cons_of_mem _ h) j' e) (a1.trans hl)
    refine ⟨a2.trans a1, ?_⟩
    show ((moveW N dep r (joinW N dep qs j.toNat p).1).1.flatten ++ (finOf ((joinW N dep qs j.toNat p).2 ++ (moveW N dep r (joinW N dep qs j.toNat p).1).2)).map (·.2)).Perm (qs.flatten ++ p :: r.map (·.2))
    rw [finOf_append, List.map_append]
    generalize (moveW N dep r (joinW N dep qs j.toNat p).1).1.flatten = X at b2
    generalize (finOf (moveW N dep r (joinW N dep qs j.toNat p).1).2).map (·.2) = Y at b2
    generalize (joinW N dep qs j.toNat p).1.flatten = Z at b1 b2
    generalize (finOf (joinW N dep qs j.toNat p).2).map (·.2) = U at b1
    have e1 : (X ++ (U ++ Y)).Perm (U ++ (X ++ Y)) := by
      rw [← List.append_assoc, ← List.append_assoc]
      exact List.Perm.append_right _ List.perm_append_comm
    have e2 : (U ++ (X ++ Y)).Perm (U ++ (Z ++ r.map (·.2))) := List.Perm.append_left _ b2
    have e3 : (U ++ (Z ++ r.map (·.2))).Perm ((Z ++ U) ++ r.map (·.2)) := by
      rw [← List.append_assoc]
      exact List.Perm.append_right _ List.perm_append_comm
    have e4 : ((Z ++ U) ++ r.map (·.2)).Perm ((qs.flatten ++ [p]) ++ r.map (·.2)) := List.Perm.append_right _ b1
    have e5 : (qs.flatten ++ [p]) ++ r.map (·.2) = qs.flatten ++ p :: r.map (·.2) := by simp
    rw [← e5]
    exact ((e1.trans e2).trans e3).trans e4
theorem zip_snd : ∀ {a : List Key} {b : List α}, b.length ≤ a.length → (a.zip b).map (·.2) = b
  | _, [], _ => by simp
  | [], _ :: _, h => by simp at h
  | x :: a, y :: b, h => by
    rw [List.zip_cons_cons, List.map_cons, zip_snd (by simpa using h)]
theorem departW_pm {N : Net} (fw : Fw N) : ∀ f, DepPm N (departW (α := α) N f)
  | 0 => fun qs st _ _ _ => ⟨rfl, by simp [departW, finOf]⟩
  | f + 1 => fun qs st hst hl hs => by
    obtain ⟨a, b⟩ := moveW_pm (departW_pm fw f) (ms := (N.getD st []).zip (qs.getD st [])) (qs := qs.set st []) (fun m hm j e => by
      have := fw st (by omega) j (by rw [← e]; exact (List.of_mem_zip hm).1)
      rw [List.length_set]; omega) (by rw [List.length_set]; exact hl)
    refine ⟨by show (moveW N (departW N f) _ _).1.length = _; rw [a, List.length_set], ?_⟩
    show ((moveW (α := α) N (departW N f) ((N.getD st []).zip (qs.getD st [])) (qs.set st [])).1.flatten ++ (finOf (α := α) (moveW N (departW N f) ((N.getD st []).zip (qs.getD st [])) (qs.set st [])).2).map (fun x : Str × α => x.2)).Perm _
    refine b.trans ?_
    rw [zip_snd hs]
    obtain ⟨u, v, h1, h2⟩ := flat_set (y := []) (getD_some hst)
    rw [h1, h2]
    simp only [List.append_nil, List.append_assoc]
    exact List.Perm.append_left _ List.perm_append_comm
end
/-! ### the queues as lists in a list -/
structure QsAt (K : PySem.W.Frag) (H : Hp) (Qa : Addr) (as : List Addr) (qs : Qs) : Prop where
  at_ : H Qa = some (.lst (as.map V.ref))
  len : as.length = qs.length
  nd : as.Nodup
  ne : Qa ∉ as
  q : ∀ (i : Nat) a, as[i]? = some a → H a = some (.lst ((qs.getD i []).map V.int))
def fpD (p : Str × Int) : PyData := .tuple [.str p.1, .int p.2]
theorem fpD_t (p : Str × Int) : TupD (fpD p) := .tup fun d hd => by
  simp only [List.mem_cons, List.not_mem_nil, or_false] at hd
  rcases hd with rfl | rfl
  · exact .str _
  · exact .int _
structure FinAt (K : PySem.W.Frag) (H : Hp) (Fa : Addr) (fs : List (Str × Int)) : Prop where
  ex : ∃ ts, H Fa = some (.lst ts) ∧ DpAll K H ts (fs.map fpD)
section
variable {K : PySem.W.Frag} {H H2 : Hp} {Qa Fa a : Addr} {as : List Addr} {qs : Qs} {fs : List (Str × Int)} {j : Nat} {y : List Int}
theorem QsAt.ex (W : QsAt K H Qa as qs) (e : Ex H H2) : QsAt K H2 Qa as qs := ⟨e _ _ W.at_, W.len, W.nd, W.ne, fun i a h => e _ _ (W.q i a h)⟩
theorem QsAt.but (W : QsAt K H Qa as qs) (e : ∀ x o, x ≠ a → H x = some o → H2 x = some o) (h1 : Qa ≠ a) (h2 : a ∉ as) : QsAt K H2 Qa as qs :=
  ⟨e _ _ h1 W.at_, W.len, W.nd, W.ne, fun i b h => e _ _ (fun z => h2 (by rw [← z]; exact List.mem_of_getElem? h)) (W.q i b h)⟩
theorem QsAt.set (W : QsAt K H Qa as qs) (ha : as[j]? = some a) (e : ∀ x o, x ≠ a → H x = some o → H2 x = some o) (h2 : H2 a = some (.lst (y.map V.int))) : QsAt K H2 Qa as (qs.set j y) := by
  have hj : j < qs.length := by rw [← W.len]; exact (List.getElem?_eq_some_iff.mp ha).1
  refine ⟨e _ _ (fun z => W.ne (by rw [z]; exact List.mem_of_getElem? ha)) W.at_, by rw [List.length_set]; exact W.len, W.nd, W.ne, fun i b h => ?_⟩
  rw [getD_set' hj]
  by_cases z : i = j
  · subst z
    rw [ha] at h
    cases h
    rw [if_pos rfl, h2]
  · rw [if_neg z]
    refine e _ _ (fun z2 => z ?_) (W.q i b h)
    subst z2
    have hi := (List.getElem?_eq_some_iff.mp h).1
    exact (List.getElem?_inj hi W.nd).mp (by rw [h, ha])
theorem FinAt.tx (W : FinAt K H Fa fs) (t : TX H H2) (h : ∀ o, H Fa = some o → H2 Fa = some o) : FinAt K H2 Fa fs := by
  obtain ⟨ts, h1, h2⟩ := W.ex
  exact ⟨⟨ts, h _ h1, DpAll.tx t h2 fun d hd => by
    obtain ⟨p, _, rfl⟩ := List.mem_map.mp hd
    exact fpD_t p⟩⟩
theorem FinAt.e (W : FinAt K H Fa fs) (e : Ex H H2) : FinAt K H2 Fa fs := W.tx (TX.of e) fun o h => e _ _ h
theorem QsAt.get (W : QsAt K H Qa as qs) (hj : j < qs.length) : ∃ a, as[j]? = some a ∧ H a = some (.lst ((qs.getD j []).map V.int)) ∧ a ∈ as := by
  have hj2 : j < as.length := by rw [W.len]; exact hj
  exact ⟨as[j], List.getElem?_eq_getElem hj2, W.q j _ (List.getElem?_eq_getElem hj2), List.getElem_mem hj2⟩
/-- all but the queues and the list of who finished stand -/
def Ex3 (as : List Addr) (Fa : Addr) (H H' : Hp) : Prop := ∀ x o, H x = some o → x ≠ Fa → x ∉ as → H' x = some o
theorem Ex3.tx (e : Ex3 as Fa H H2) (W : QsAt K H Qa as qs) (F : FinAt K H Fa fs) : TX H H2 := fun x o h c => by
  obtain ⟨ts, h1, _⟩ := F.ex
  refine e x o h (fun z => by subst z; rw [h1] at h; cases h; exact c) fun z => ?_
  obtain ⟨i, hi⟩ := List.mem_iff_getElem?.mp z
  rw [W.q i x hi] at h
  cases h
  exact c
end
theorem pm_len {a b c : Qs × Evs} {q : Qs} {x : List Int} (h : (a.1.flatten ++ (finOf a.2).map (·.2)).Perm x) : a.1.flatten.length + (finOf a.2).length = x.length := by
  have := h.length_eq
  rw [List.length_append, List.length_map] at this
  exact this
theorem shInts (ns : List Int) : SeqAt.shaped (.list (ns.map PyData.int)) = true := by
  have h1 : PyData.canLayAll0 (ns.map PyData.int) = true := layAll fun d hd => by
    obtain ⟨i, _, rfl⟩ := List.mem_map.mp hd; rfl
  have h2 : PyData.depthAll (ns.map PyData.int) ≤ 1 := depthAll_le fun d hd => by
    obtain ⟨i, _, rfl⟩ := List.mem_map.mp hd; simp [PyData.depth]
  have h3 : (PyData.list (ns.map PyData.int)).depth ≤ 64 := by rw [PyData.depth]; omega
  unfold SeqAt.shaped
  rw [show (PyData.list (ns.map PyData.int)).canLay0 = true by rw [PyData.canLay0]; exact h1]
  simpa using h3
theorem eqv_empty (ns : List Int) : PyData.eqv (.list (ns.map PyData.int)) (.list []) = decide (ns = []) := by
  cases ns with
  | nil => simp [PyData.eqv, PyData.eqvAll]
  | cons a r => simp [PyData.eqv, PyData.eqvAll]
section
variable {K : PySem.W.Frag} {H H2 : Hp} {Qa Fa a h b : Addr} {as : List Addr} {qs : Qs} {fs : List (Str × Int)} {Q : VK} {q : List Int}
theorem QsAt.ex2 (W : QsAt K H Qa as qs) (e : Ex2 h b H H2) (h1 : Qa ≠ h ∧ Qa ≠ b) (h2 : ∀ a ∈ as, a ≠ h ∧ a ≠ b) : QsAt K H2 Qa as qs :=
  ⟨e _ _ W.at_ h1.1 h1.2, W.len, W.nd, W.ne, fun i a ha => have z := h2 a (List.mem_of_getElem? ha); e _ _ (W.q i a ha) z.1 z.2⟩
/-- x != [], a list of ints -/
theorem x_neEmpty (h1 : H a = some (.lst (q.map V.int))) (k : ∀ H', Ex H H' → Q (.bl (!decide (q = []))) H') : rLst [] H (fun y H1 => rNeU K (.ref a) y H1 Q) :=
  x_lst (by simp) fun p H1 np e hp => x_neD (.lst (SqL.of (e _ _ h1)) (ints_dp q)) (.lst (SqL.of hp) .nil) (shInts q) rfl (by rw [eqv_empty]; exact k H1 e)
end
end FB
set_option Elab.async false
set_option linter.all false
set_option maxRecDepth 100000
set_option maxHeartbeats 4000000
namespace K
open PySem PySem.Spec PyProof.Rows L2 Evl FB
local macro_rules | `(tactic| walk_at "run") => `(tactic| try simp only [tSeq, tAsg, tVar, tC, gName, L2.start, List.map_cons, List.map_nil, List.cons_append, List.nil_append, List.length_cons, List.length_nil, List.replicate, List.getElem?_cons_zero, List.getElem?_cons_succ, Option.some.injEq, exists_eq_left', List.set_cons_zero, List.set_cons_succ, V.ref.injEq, tRet, x_tLst, x_tTup, tCons, tCB, tNil, tOp, x_addI, x_mulI, x_rI, x_rI0, x_ltI, x_leI, x_ltS, x_leS, x_eqI, x_neI, x_eqS, x_eqB, x_neB, x_isiI, x_isiS, x_int, x_max, x_min, cxOf, tIfS, tNext, tTest, V.bl.injEq, decide_eq_true_eq, gSub, tAnd, tOr, tNot, tB, tDrop, tBM, x_tFor, iRng1, iList, iTup, x_tLc, tYes, tCall, tIf, tAndV, tOrV, tNotV, tChain, List.append_nil, tUn, if_true, wipe, true_and, x_never, iU, x_itS, kV, Nat.reduceAdd, Nat.reduceSub, List.replicate_zero, x_rU, x_tMkO, iEnumT, x_tDc, x_tDGet, x_tDGet2, x_sDPut, x_tDSetd, x_tDNewK, x_iItems, x_iZip, x_tSAddK, x_tLockV, x_tTupRg, x_tRg2, tPar, tPar3, tBM0])
/-- a network on which boats depart: stations of one to eight seats, seats lead on -/
structure JN (N : Net) : Prop where
  le : N.length ≤ 40
  st : ∀ k, k < N.length → 1 ≤ (N.getD k []).length ∧ (N.getD k []).length ≤ 8
  fw : Fw N
section
variable {P : Program} {w : World} {K : PySem.W.Frag} {mg : Str → Option Value} {base : Heap}
theorem FnOk.absurd {CX : CXT} {k : Nat} {f : Addr} {fd : FuncData} {ps : List Str} {sp : Sp} (h : ∀ vs H Q E, sp vs H Q E → False) : FnOk P w K mg base CX k f fd ps sp :=
  ⟨fun _ _ _ _ x => (h _ _ _ _ x).elim, fun _ _ _ _ _ _ _ _ _ _ _ _ _ x => (h _ _ _ _ x).elim⟩
abbrev s_l_join : Stmt := top 42
theorem sc_l_join : FnScope ["_law_network_here", "_law_queues", "_law_station", "_law_passenger", "_law_finished_here"] ["_law_network_here", "_law_queues", "_law_station", "_law_passenger", "_law_finished_here"] (defScope s_l_join) := ⟨rfl, rfl, rfl, by decide +kernel, rfl, by decide +kernel, by decide +kernel⟩
abbrev s_l_depart : Stmt := top 43
theorem sc_l_depart : FnScope ["_law_network_here", "_law_queues", "_law_station", "_law_finished_here", "_law_passengers", "_law_seat", "_law_place_here"] ["_law_network_here", "_law_queues", "_law_station", "_law_finished_here"] (defScope s_l_depart) := ⟨rfl, rfl, rfl, by decide +kernel, rfl, by decide +kernel, by decide +kernel⟩
def spJoinL (K : PySem.W.Frag) (f : Nat) : Sp := fun vs H Q _ => ∃ (v : V) (N : Net) (Qa Fa : Addr) (as : List Addr) (qs : Qs) (fs : List (Str × Int)) (j : Nat) (p : Int), vs = [v, .ref Qa, .int (j : Int), .int p, .ref Fa] ∧ NetAt K H v N ∧ JN N ∧ QsAt K H Qa as qs ∧ FinAt K H Fa fs ∧ Fa ≠ Qa ∧ Fa ∉ as ∧
  Short N qs ∧ j < N.length ∧ N.length ≤ j + f ∧ fs.length + qs.flatten.length + 1 ≤ 100000 ∧
  ∀ H', Ex3 as Fa H H' → QsAt K H' Qa as (joinW N (departW N f) qs j p).1 → FinAt K H' Fa (fs ++ finOf (joinW N (departW N f) qs j p).2) → Q .non H'
def spDepartL (K : PySem.W.Frag) (f : Nat) : Sp := fun vs H Q _ => ∃ (v : V) (N : Net) (Qa Fa : Addr) (as : List Addr) (qs : Qs) (fs : List (Str × Int)) (st : Nat), vs = [v, .ref Qa, .int (st : Int), .ref Fa] ∧ NetAt K H v N ∧ JN N ∧ QsAt K H Qa as qs ∧ FinAt K H Fa fs ∧ Fa ≠ Qa ∧ Fa ∉ as ∧
  qs.length = N.length ∧ (∀ k, k < N.length → k ≠ st → (qs.getD k []).length < (N.getD k []).length) ∧ (qs.getD st []).length ≤ (N.getD st []).length ∧ st < N.length ∧ N.length ≤ st + f ∧ fs.length + qs.flatten.length ≤ 100000 ∧
  ∀ H', Ex3 as Fa H H' → QsAt K H' Qa as (departW N f qs st).1 → FinAt K H' Fa (fs ++ finOf (departW N f qs st).2) → Q .non H'
theorem ok_l_join {f g : Addr} {fd gd : FuncData} {l n : Nat} (D : Df K mg "_law_join" s_l_join ["_law_network_here", "_law_queues", "_law_station", "_law_passenger", "_law_finished_here"] f fd) (T : Bt mg) (D_l_depart : Df K mg "_law_depart" s_l_depart ["_law_network_here", "_law_queues", "_law_station", "_law_finished_here"] g gd)
    (G_l_depart : FnOk P w K mg base CX0 l g gd ["_law_network_here", "_law_queues", "_law_station", "_law_finished_here"] (spDepartL K n)) : FnOk P w K mg base CX0 (l + 1) f fd ["_law_network_here", "_law_queues", "_law_station", "_law_passenger", "_law_finished_here"] (spJoinL K n) := by
  refine D.F.ok sc_l_join (fun vs H Q E h => ?_) (fun cdv A outer s H vs Q E hr h => ?_)
  · obtain ⟨v, N, Qa, Fa, as, qs, fs, j, p, rfl, _⟩ := h
    rfl
  · obtain ⟨v, N, Qa, Fa, as, qs, fs, j, p, rfl, hN, hJ, hQ, hF, n1, n2, S, hj, hf, hb, q⟩ := h
    have hu := hr.units
    refine ⟨_, (pss_cons (ps_expr (pe_bm PySem.F.plainAttrs_list PySem.F.slot_list_append PySem.F.type_list_append mt_append (pe_ix (ix_U (K := K)) (pv 1) (pv 2) (fun _ _ => rfl)) (pa_cons (pv 3) pa_nil)))
      (pss_one (ps_if (pt_cmpR (op_eqU (K := K) hu) (pe_callB (call_lenU (K := K)) (by rfl) T.b_len (by decide +kernel) (pa_cons (pe_ix (ix_U (K := K)) (pv 1) (pv 2) (fun _ _ => rfl)) pa_nil)) (pe_callB (call_lenU (K := K)) (by rfl) T.b_len (by decide +kernel) (pa_cons (pe_ix (ix_U (K := K)) (pv 0) (pv 2) (fun _ _ => rfl)) pa_nil)) (nomark _)) (pss_one (ps_expr (pe_call (G_l_depart) hr rfl D_l_depart.g D_l_depart.F.kp D_l_depart.b .nil pass0 (pa_cons (pv 0) (pa_cons (pv 1) (pa_cons (pv 2) (pa_cons (pv 4) pa_nil))))))) pss_nil))), ?_⟩
    walk_at "run"
    have hjq : j < qs.length := by rw [S.len]; exact hj
    obtain ⟨a, ha, hHa, ham⟩ := hQ.get hjq
    obtain ⟨vn, us, rfl, hU, hus⟩ := hN.at
    obtain ⟨h1s, h8s⟩ := hJ.st j hj
    have hlt := S.lt j hj
    have haj : (as.map V.ref)[j]? = some (.ref a) := by simp [ha]
    refine x_ixL (SqL.of hQ.at_) (atI_nat haj) ?_
    refine ⟨x_tyL (SqL.of hHa), x_append hHa (by rw [List.length_map]; omega) fun H1 e1 h1 => ?_⟩
    have hQ1 : QsAt K H1 Qa as (qs.set j (qs.getD j [] ++ [p])) := hQ.set ha e1 (by rw [h1, List.map_append]; rfl)
    have t1 : TX H H1 := TX.but hHa e1
    have hFa : a ≠ Fa := fun z => n2 (by rw [← z]; exact ham)
    have hF1 : FinAt K H1 Fa fs := hF.tx t1 fun o h => e1 _ _ hFa.symm h
    have ex1 : Ex3 as Fa H H1 := fun x o h h1 h2 => e1 x o (fun z => h2 (by rw [z]; exact ham)) h
    refine x_ixL (SqL.of hQ1.at_) (atI_nat haj) (x_lenL (SqL.of h1) ?_)
    obtain ⟨sv, hsv, hsd⟩ := hus.get (show (N.map stD)[j]? = some (stD (N.getD j [])) by simp [List.getD_eq_getElem?_getD, hj])
    obtain ⟨b, rfl, hbs⟩ := StAt.at hsd
    refine x_ixT (t1.t hU) (atI_nat hsv) (x_lenT (t1.t hbs) ?_)
    rw [List.length_map, List.length_append, List.length_map, show [V.int p].length = 1 from rfl]
    walk_at "run"
    have hlen : (qs.getD j [] ++ [p]).length = (qs.getD j []).length + 1 := by simp
    by_cases e : (qs.getD j [] ++ [p]).length = (N.getD j []).length
    · rw [if_pos (by omega)]
      have hjw : joinW N (departW N n) qs j p = departW N n (qs.set j (qs.getD j [] ++ [p])) j := by unfold joinW; rw [if_pos e]
      rw [hjw] at q
      have hfl := (set_perm (p := p) hjq).length_eq
      rw [List.length_append, show [p].length = 1 from rfl] at hfl
      refine ⟨_, N, Qa, Fa, as, _, fs, j, rfl, hN.tx t1, hJ, hQ1, hF1, n1, n2, by rw [List.length_set]; exact S.len, fun k hk hne => by rw [getD_set' hjq, if_neg hne]; exact S.lt k hk, by rw [getD_set' hjq, if_pos rfl]; omega, hj, hf, by omega, fun H2 ex2 hQ2 hF2 => ?_⟩
      exact q H2 (fun x o h h1 h2 => ex2 x o (ex1 x o h h1 h2) h1 h2) hQ2 hF2
    · rw [if_neg (by omega)]
      have hjw : joinW N (departW N n) qs j p = (qs.set j (qs.getD j [] ++ [p]), []) := by unfold joinW; rw [if_neg e]
      rw [hjw] at q
      exact q H1 ex1 hQ1 (by simpa [finOf] using hF1)
theorem ok_l_depart {f g : Addr} {fd gd : FuncData} {l n : Nat} (D : Df K mg "_law_depart" s_l_depart ["_law_network_here", "_law_queues", "_law_station", "_law_finished_here"] f fd) (T : Bt mg) (D_l_join : Df K mg "_law_join" s_l_join ["_law_network_here", "_law_queues", "_law_station", "_law_passenger", "_law_finished_here"] g gd)
    (G_l_join : FnOk P w K mg base CX0 l g gd ["_law_network_here", "_law_queues", "_law_station", "_law_passenger", "_law_finished_here"] (spJoinL K n)) : FnOk P w K mg base CX0 (l + 1) f fd ["_law_network_here", "_law_queues", "_law_station", "_law_finished_here"] (spDepartL K (n + 1)) := by
  refine D.F.ok sc_l_depart (fun vs H Q E h => ?_) (fun cdv A outer s H vs Q E hr h => ?_)
  · obtain ⟨v, N, Qa, Fa, as, qs, fs, st, rfl, _⟩ := h
    rfl
  · obtain ⟨v, N, Qa, Fa, as, qs, fs, st, rfl, hN, hJ, hQ, hF, n1, n2, hl, hsh, hle, hst, hf, hb, q⟩ := h
    refine ⟨_, (pss_cons (ps_set (i := 4) sc_l_depart.nd rfl (Or.inl rfl) (pe_callTy (call_listU (K := K)) (by rfl) T.b_list (by decide +kernel) (pa_cons (pe_ix (ix_U (K := K)) (pv 1) (pv 2) (fun _ _ => rfl)) pa_nil)))
      (pss_cons (ps_expr (pe_bm0 PySem.F.plainAttrs_list PySem.F.slot_list_clear PySem.F.type_list_clear mt_clear (pe_ix (ix_U (K := K)) (pv 1) (pv 2) (fun _ _ => rfl))))
      (pss_one (ps_for PassesOwn.never rfl (pi_range1 (by rfl) T.b_range (pa_cons (pe_callB (call_lenU (K := K)) (by rfl) T.b_len (by decide +kernel) (pa_cons (pv 4) pa_nil)) pa_nil)) (pg_name (i := 5) sc_l_depart.nd rfl (Or.inl rfl)) (pss_cons (ps_set (i := 6) sc_l_depart.nd rfl (Or.inl rfl) (pe_ix (ix_U (K := K)) (pe_ix (ix_U (K := K)) (pv 0) (pv 2) (fun _ _ => rfl)) (pv 5) (fun _ _ => rfl)))
      (pss_one (ps_if (pt_val (pe_callB (call_isiU (K := K)) (by rfl) T.b_isinstance (by decide +kernel) (pa_cons (pv 6) (pa_cons (pe_bltn (v := .ty "str") (by rfl) T.b_str (by decide +kernel) rfl) pa_nil)))) (pss_one (ps_expr (pe_bm PySem.F.plainAttrs_list PySem.F.slot_list_append PySem.F.type_list_append mt_append (pv 3) (pa_cons (pe_tup (pa_cons (pv 6) (pa_cons (pe_ix (ix_U (K := K)) (pv 4) (pv 5) (fun _ _ => rfl)) pa_nil))) pa_nil)))) (pss_one (ps_expr (pe_call (G_l_join) hr rfl D_l_join.g D_l_join.F.kp D_l_join.b .nil pass0 (pa_cons (pv 0) (pa_cons (pv 1) (pa_cons (pv 6) (pa_cons (pe_ix (ix_U (K := K)) (pv 4) (pv 5) (fun _ _ => rfl)) (pa_cons (pv 3) pa_nil))))))))))))))), ?_⟩
    walk_at "run"
    have hsq : st < qs.length := by omega
    obtain ⟨a, ha, hHa, ham⟩ := hQ.get hsq
    obtain ⟨vn, us, rfl, hU, hus⟩ := hN.at
    obtain ⟨h1s, h8s⟩ := hJ.st st hst
    have haj : (as.map V.ref)[st]? = some (.ref a) := by simp [ha]
    have hFa : a ≠ Fa := fun z => n2 (by rw [← z]; exact ham)
    refine x_ixL (SqL.of hQ.at_) (atI_nat haj) (x_listL (SqL.of hHa) fun pl H1 npl e1 h1 => ?_)
    walk_at "run"
    refine x_ixL (SqL.of (e1 _ _ hQ.at_)) (atI_nat haj) ⟨x_tyL (SqL.of (e1 _ _ hHa)), a, _, rfl, rfl, e1 _ _ hHa, ?_⟩
    generalize hH2 : upd H1 a (.lst []) = H2
    have e2 : ∀ x o, x ≠ a → H1 x = some o → H2 x = some o := fun x o hx h => by rw [← hH2, upd_ne hx]; exact h
    have h2 : H2 a = some (.lst []) := by rw [← hH2, upd_same]
    have hpa : pl ≠ a := (ne_of_none hHa npl).symm
    have t2 : TX H H2 := (TX.of e1).trans (TX.but (e1 _ _ hHa) e2)
    have hQ2 : QsAt K H2 Qa as (qs.set st []) := (hQ.ex e1).set ha e2 h2
    have hF2 : FinAt K H2 Fa fs := (hF.e e1).tx (TX.but (e1 _ _ hHa) e2) fun o h => e2 _ _ hFa.symm h
    have hpl2 := e2 _ _ hpa h1
    have hplF : pl ≠ Fa := fun z => by
      obtain ⟨ts, h, _⟩ := hF.ex
      rw [z] at npl
      rw [npl] at h; cases h
    have hpls : pl ∉ as := fun z => by
      obtain ⟨i, hi⟩ := List.mem_iff_getElem?.mp z
      have := hQ.q i pl hi
      rw [npl] at this; cases this
    have ex2 : Ex3 as Fa H H2 := fun x o h h1 h2 => e2 x o (fun z => h2 (by rw [z]; exact ham)) (e1 _ _ h)
    refine x_lenL (SqL.of hpl2) ⟨_, rfl, by rw [List.length_map]; omega, by rw [List.length_map]; omega, ?_⟩
    have hnn : ((((qs.getD st []).map V.int).length : Nat) : Int).toNat = (qs.getD st []).length := by rw [List.length_map]; omega
    rw [hnn]
    have h1k : ∀ k, k < N.length → 1 ≤ (N.getD k []).length := fun k hk => (hJ.st k hk).1
    have S0 : Short N (qs.set st []) := ⟨by rw [List.length_set]; exact hl, fun k hk => by
      rw [getD_set' hsq]
      split
      · rename_i e; subst e; exact h1s
      · rename_i e; exact hsh k hk e⟩
    have hdep := departW_ok (α := Int) h1k hJ.fw n
    have hpm := departW_pm (α := Int) hJ.fw n
    have hzl : ((N.getD st []).zip (qs.getD st [])).length = (qs.getD st []).length := by rw [List.length_zip]; omega
    have hmem : ∀ i, ∀ m ∈ ((N.getD st []).zip (qs.getD st [])).take i, ∀ j : Int, m.1 = .inl j → (st : Int) < j ∧ j < N.length := fun i m hm j e =>
      hJ.fw st hst j (by rw [← e]; exact (List.of_mem_zip (List.mem_of_mem_take hm)).1)
    have hfl0 : (qs.set st []).flatten.length + (qs.getD st []).length = qs.flatten.length := by
      obtain ⟨u, w, h1, h2⟩ := flat_set (y := []) (getD_some hsq)
      rw [h1, h2]
      simp only [List.append_nil, List.length_append]
      omega
    refine loop_it walk_range (fun i σ H' => ∃ u5 u6, σ = [some (.ref vn), some (.ref Qa), some (.int (st : Int)), some (.ref Fa), some (.ref pl), u5, u6] ∧ Ex3 as Fa H H' ∧ TX H H' ∧ H' pl = some (.lst ((qs.getD st []).map V.int)) ∧
      QsAt K H' Qa as (moveW N (departW N n) (((N.getD st []).zip (qs.getD st [])).take i) (qs.set st [])).1 ∧ FinAt K H' Fa (fs ++ finOf (moveW N (departW N n) (((N.getD st []).zip (qs.getD st [])).take i) (qs.set st [])).2)) ⟨_, _, rfl, ex2, t2, hpl2, hQ2, by simpa [moveW, finOf] using hF2⟩ (fun _ _ _ _ _ => trivial) ?_ ?_
    · rintro i x σ H3 H3' hi ⟨u5, u6, rfl, ex3, t3, hpl3, hQ3, hF3⟩ ⟨eH, rfl⟩
      subst eH
      have hz : (0 : Int) + i = (i : Int) := by omega
      obtain ⟨S3, K3⟩ := moveW_ok h1k hdep (st := st) (by omega) (ms := ((N.getD st []).zip (qs.getD st [])).take i) (hmem i) S0
      obtain ⟨L3, P3⟩ := moveW_pm hpm (ms := ((N.getD st []).zip (qs.getD st [])).take i) (qs := qs.set st []) (fun m hm j e => by
        have := hmem i m hm j e
        rw [List.length_set]; omega) (by rw [List.length_set]; exact hl)
      have hlen3 := P3.length_eq
      rw [List.length_append, List.length_append, List.length_map, List.length_map, List.length_take, hzl] at hlen3
      obtain ⟨k, hk⟩ : ∃ k, (N.getD st [])[i]? = some k := ⟨(N.getD st [])[i]'(by omega), List.getElem?_eq_getElem (by omega)⟩
      obtain ⟨p, hp⟩ : ∃ p, (qs.getD st [])[i]? = some p := ⟨(qs.getD st [])[i]'(by omega), List.getElem?_eq_getElem (by omega)⟩
      have hzi : ((N.getD st []).zip (qs.getD st []))[i]? = some (k, p) := by
        rw [List.getElem?_zip_eq_some]
        exact ⟨hk, hp⟩
      have htk : ((N.getD st []).zip (qs.getD st [])).take (i + 1) = ((N.getD st []).zip (qs.getD st [])).take i ++ [(k, p)] := by rw [List.take_add_one, hzi]; rfl
      rw [htk, moveW_snoc]
      generalize hR : moveW N (departW N n) (((N.getD st []).zip (qs.getD st [])).take i) (qs.set st []) = R at hQ3 hF3 S3 K3 L3 hlen3
      walk_at "run"
      rw [hz]
      have hpi : ((qs.getD st []).map V.int)[i]? = some (.int p) := by simp only [List.getElem?_map, hp]; rfl
      obtain ⟨sv, hsv, hsd⟩ := hus.get (show (N.map stD)[st]? = some (stD (N.getD st [])) by simp [List.getD_eq_getElem?_getD, hst])
      obtain ⟨b, rfl, hbs⟩ := StAt.at hsd
      have hki : ((N.getD st []).map kV)[i]? = some (kV k) := by simp only [List.getElem?_map, hk]; rfl
      refine x_ixT (t3.t hU) (atI_nat hsv) (x_ixT (t3.t hbs) (atI_nat hki) ?_)
      cases k with
      | inl j =>
        have hj := hJ.fw st hst j (List.mem_of_getElem? hk)
        obtain ⟨j', rfl⟩ : ∃ j' : Nat, j = (j' : Int) := ⟨j.toNat, by omega⟩
        walk_at "run"
        rw [if_neg Bool.false_ne_true]
        refine x_ixL (SqL.of hpl3) (atI_nat hpi) ?_
        have hjo := move_one_l (N := N) (dep := departW N n) (j := (j' : Int)) (p := p) (qs := R.1)
        rw [Int.toNat_natCast] at hjo
        rw [hjo]
        refine ⟨_, N, Qa, Fa, as, R.1, _, j', p, rfl, hN.tx t3, hJ, hQ3, hF3, n1, n2, S3, by omega, by omega, ?_, fun H4 ex4 hQ4 hF4 => ?_⟩
        · rw [List.length_append]; omega
        · refine ⟨_, _, rfl, fun x o h h1 h2 => ex4 x o (ex3 x o h h1 h2) h1 h2, t3.trans (ex4.tx hQ3 hF3), ex4 _ _ hpl3 hplF hpls, hQ4, ?_⟩
          rw [finOf_append, ← List.append_assoc]
          exact hF4
      | inr z =>
        walk_at "run"
        obtain ⟨ts, hF4, hts⟩ := hF3.ex
        refine ⟨x_tyL (SqL.of hF4), x_ixL (SqL.of hpl3) (atI_nat hpi) ?_⟩
        refine x_tup (by simp) fun tp H4 ntp e4 h4 => ?_
        have htl := hts.len
        rw [List.length_map, List.length_append] at htl
        refine x_append (e4 _ _ hF4) (by rw [htl]; omega) fun H5 e5 h5 => ?_
        have hFt : Fa ≠ tp := ne_of_none hF4 ntp
        have t5 : TX H3' H5 := (TX.of e4).trans (TX.but (e4 _ _ hF4) e5)
        rw [move_one_r]
        refine ⟨_, _, rfl, fun x o h h1 h2 => e5 _ _ h1 (e4 _ _ (ex3 x o h h1 h2)), t3.trans t5, e5 _ _ hplF (e4 _ _ hpl3), (hQ3.ex e4).but e5 n1.symm n2, ⟨_, h5, ?_⟩⟩
        rw [finOf_append, ← List.append_assoc, List.map_append]
        refine DpAll.append (DpAll.tx t5 hts fun d hd => ?_) (.cons (.tup (SqT.of (e5 _ _ hFt.symm h4)) (.cons (.str z) (.cons (.int p) .nil))) .nil)
        obtain ⟨y, _, rfl⟩ := List.mem_map.mp hd
        exact fpD_t y
    · rintro σ H3 ⟨u5, u6, rfl, ex3, t3, hpl3, hQ3, hF3⟩
      have ht : ((N.getD st []).zip (qs.getD st [])).take (qs.getD st []).length = (N.getD st []).zip (qs.getD st []) := List.take_of_length_le (by omega)
      rw [ht] at hQ3 hF3
      exact q H3 ex3 hQ3 hF3
end
end K
set_option Elab.async false
set_option linter.all false
set_option maxRecDepth 100000
set_option maxHeartbeats 4000000
/-! Queues as tuples in a list, and the list of what happens. -/
namespace FB
open PySem PySem.Spec PyProof.Rows L2 Evl
section
variable {K : PySem.W.Frag} {H H' H2 : Hp} {a b Qa Ea x : Addr} {xs ys : List V}
theorem walk_zipM : Walk (RZ.ItzT K a b) (min xs.length ys.length) (fun H => SqT K H a xs ∧ SqT K H b ys) (YPair (fun i => xs[i]?) (fun i => ys[i]?)) := by
  refine ⟨fun i _ hi q => ?_, fun _ q => ⟨xs, ys, q.1, q.2, by omega⟩, fun i H v H' _ q y => ?_⟩
  · have h1 : i < xs.length := by omega
    have h2 : i < ys.length := by omega
    exact ⟨xs, ys, xs[i], ys[i], q.1, q.2, by simp [h1], by simp [h2]⟩
  · obtain ⟨T, x, z, h1, h2, h3, h4, h5⟩ := y
    exact ⟨T, x, z, h1, h2, h3, h4 xs q.1, h5 ys q.2⟩
theorem DpAll.set : ∀ {vs : List V} {ds : List PyData} {i : Nat} {v : V} {d : PyData}, DpAll K H vs ds → Dp K H v d → DpAll K H (vs.set i v) (ds.set i d)
  | _, _, _, _, _, .nil, _ => .nil
  | _, _, 0, _, _, .cons _ hs, h => .cons h hs
  | _, _, _ + 1, _, _, .cons h0 hs, h => .cons h0 (DpAll.set hs h)
section
variable {α : Type} [Inhabited α]
/-- what each passenger is, as data -/
structure PD (pd : α → PyData) : Prop where
  t : ∀ a, TupD (pd a)
def qA (pd : α → PyData) (q : List α) : PyData := .tuple (q.map pd)
def evA (pd : α → PyData) (e : Key × List α) : PyData := .tuple [keyD e.1, qA pd e.2]
variable {pd : α → PyData} {qs : QsA α} {es : EvsA α}
theorem qA_t (h : PD pd) (q : List α) : TupD (qA pd q) := .tup fun d hd => by
  obtain ⟨k, _, rfl⟩ := List.mem_map.mp hd
  exact h.t k
theorem evA_t (h : PD pd) (e : Key × List α) : TupD (evA pd e) := .tup fun d hd => by
  simp only [List.mem_cons, List.not_mem_nil, or_false] at hd
  rcases hd with rfl | rfl
  · exact keyD_t _
  · exact qA_t h _
/-- data in a list -/
structure LsAt (K : PySem.W.Frag) (H : Hp) (a : Addr) (ds : List PyData) : Prop where
  ex : ∃ ts, H a = some (.lst ts) ∧ DpAll K H ts ds
theorem LsAt.tx {ds : List PyData} (W : LsAt K H a ds) (td : ∀ d ∈ ds, TupD d) (t : TX H H2) (h : ∀ o, H a = some o → H2 a = some o) : LsAt K H2 a ds := by
  obtain ⟨ts, h1, h2⟩ := W.ex
  exact ⟨⟨ts, h _ h1, DpAll.tx t h2 td⟩⟩
theorem LsAt.ex2 {ds : List PyData} (W : LsAt K H a ds) (e : Ex H H2) : LsAt K H2 a ds := by
  obtain ⟨ts, h1, h2⟩ := W.ex
  exact ⟨⟨ts, e _ _ h1, DpAll.ex e h2⟩⟩
abbrev QtAt (K : PySem.W.Frag) (H : Hp) (Qa : Addr) (pd : α → PyData) (qs : QsA α) : Prop := LsAt K H Qa (qs.map (qA pd))
abbrev EvAt (K : PySem.W.Frag) (H : Hp) (Ea : Addr) (pd : α → PyData) (es : EvsA α) : Prop := LsAt K H Ea (es.map (evA pd))
theorem qs_t (h : PD pd) : ∀ d ∈ qs.map (qA pd), TupD d := fun d hd => by
  obtain ⟨q, _, rfl⟩ := List.mem_map.mp hd
  exact qA_t h q
theorem es_t (h : PD pd) : ∀ d ∈ es.map (evA pd), TupD d := fun d hd => by
  obtain ⟨q, _, rfl⟩ := List.mem_map.mp hd
  exact evA_t h q
theorem QtAt.get (W : QtAt K H Qa pd qs) {j : Nat} (hj : j < qs.length) : ∃ ts b vs, H Qa = some (.lst ts) ∧ DpAll K H ts (qs.map (qA pd)) ∧ ts[j]? = some (.ref b) ∧ SqT K H b vs ∧ DpAll K H vs ((qs.getD j []).map pd) := by
  obtain ⟨ts, h1, h2⟩ := W.ex
  obtain ⟨v, hv, hd⟩ := h2.get (show (qs.map (qA pd))[j]? = some (qA pd (qs.getD j [])) by simp [List.getD_eq_getElem?_getD, hj])
  obtain ⟨b, vs, rfl, h3, h4⟩ := Dp.tup_inv hd
  exact ⟨ts, b, vs, h1, h2, hv, h3, h4⟩
/-! ### how much happens -/
/-- everybody's way still to go, twice -/
def wayW (n : Nat) : Nat → QsA α → Nat
  | _, [] => 0
  | k, q :: r => q.length * (2 * (n - k)) + wayW n (k + 1) r
theorem wayW_set {n : Nat} : ∀ {qs : QsA α} {k j : Nat} {q : List α}, j < qs.length → wayW n k (qs.set j q) + (qs.getD j []).length * (2 * (n - (k + j))) = wayW n k qs + q.length * (2 * (n - (k + j)))
  | [], _, _, _, h => by simp at h
  | q0 :: r, k, 0, q, _ => by
    show q.length * (2 * (n - k)) + wayW n (k + 1) r + q0.length * (2 * (n - (k + 0))) = q0.length * (2 * (n - k)) + wayW n (k + 1) r + q.length * (2 * (n - (k + 0)))
    simp only [Nat.add_zero]; omega
  | q0 :: r, k, j + 1, q, h => by
    have ih := wayW_set (n := n) (qs := r) (k := k + 1) (j := j) (q := q) (by simpa using h)
    show q0.length * (2 * (n - k)) + wayW n (k + 1) (r.set j q) + (r.getD j []).length * (2 * (n - (k + (j + 1)))) = q0.length * (2 * (n - k)) + wayW n (k + 1) r + q.length * (2 * (n - (k + (j + 1))))
    have e : k + (j + 1) = k + 1 + j := by omega
    rw [e]; omega
theorem wayW_le {n : Nat} : ∀ {qs : QsA α} {k : Nat}, wayW n k qs ≤ qs.flatten.length * (2 * n)
  | [], _ => by simp [wayW]
  | q :: r, k => by
    show q.length * (2 * (n - k)) + wayW n (k + 1) r ≤ _
    have h1 := wayW_le (n := n) (qs := r) (k := k + 1)
    have h2 : q.length * (2 * (n - k)) ≤ q.length * (2 * n) := Nat.mul_le_mul_left _ (by omega)
    rw [List.flatten_cons, List.length_append, Nat.add_mul]
    omega
/-- what a departure costs at most -/
def DepW (N : Net) (f : Nat) (dep : Dep α) : Prop := ∀ qs st, qs.length = N.length → st < N.length → N.length ≤ st + f → 1 ≤ (qs.getD st []).length → wayW N.length 0 (dep qs st).1 + (dep qs st).2.length ≤ wayW N.length 0 qs ∧ (dep qs st).1.length = qs.length
theorem joinW_way {N : Net} {f : Nat} {dep : Dep α} (hd : DepW N f dep) {qs : QsA α} {j : Nat} {p : α} (hl : qs.length = N.length) (hj : j < N.length) (hf : N.length ≤ j + f) : wayW N.length 0 (joinW N dep qs j p).1 + (joinW N dep qs j p).2.length ≤ wayW N.length 0 qs + 2 * (N.length - j) ∧ (joinW N dep qs j p).1.length = qs.length := by
  have h0 := wayW_set (n := N.length) (qs := qs) (k := 0) (j := j) (q := qs.getD j [] ++ [p]) (by omega)
  rw [List.length_append, show [p].length = 1 from rfl, Nat.add_mul, Nat.zero_add, Nat.one_mul] at h0
  unfold joinW
  split
  · obtain ⟨a, b⟩ := hd (qs.set j (qs.getD j [] ++ [p])) j (by rw [List.length_set]; exact hl) hj hf (by rw [getD_set' (by omega), if_pos rfl]; simp)
    refine ⟨?_, by rw [b, List.length_set]⟩
    omega
  · refine ⟨?_, by rw [List.length_set]⟩
    show wayW N.length 0 (qs.set j (qs.getD j [] ++ [p])) + 0 ≤ _
    omega
theorem moveW_way {N : Net} {f : Nat} {dep : Dep α} (hd : DepW N f dep) {st : Nat} (hf : N.length ≤ st + 1 + f) (hst : st < N.length) : ∀ {ms : List (Key × α)} {qs : QsA α}, (∀ m ∈ ms, ∀ j : Int, m.1 = .inl j → (st : Int) < j ∧ j < N.length) → qs.length = N.length →
    wayW N.length 0 (moveW N dep ms qs).1 + (moveW N dep ms qs).2.length + ms.length ≤ wayW N.length 0 qs + ms.length * (2 * (N.length - st)) ∧ (moveW N dep ms qs).1.length = qs.length
  | [], qs, _, _ => by simp [moveW]
  | (.inr z, p) :: r, qs, hm, hl => by
    obtain ⟨a, b⟩ := moveW_way hd hf hst (ms := r) (qs := qs) (fun m h => hm m (List.mem_cons_of_mem _ h)) hl
    refine ⟨?_, b⟩
    show wayW N.length 0 (moveW N dep r qs).1 + ((moveW N dep r qs).2.length + 1) + (r.length + 1) ≤ wayW N.length 0 qs + (r.length + 1) * (2 * (N.length - st))
    rw [Nat.add_mul, Nat.one_mul]
    omega
  | (.inl j, p) :: r, qs, hm, hl => by
    obtain ⟨j1, j2⟩ := hm _ (List.mem_cons_self ..) j rfl
    obtain ⟨a1, b1⟩ := joinW_way (N := N) hd (p := p) (j := j.toNat) hl (by omega) (by omega)
    obtain ⟨a2, b2⟩ := moveW_way hd hf hst (ms := r) (qs := (joinW N dep qs j.toNat p).1) (fun m h => hm m (List.mem_cons_of_mem _ h)) (b1.trans hl)
    refine ⟨?_, b2.trans b1⟩
    show wayW N.length 0 (moveW N dep r (joinW N dep qs j.toNat p).1).1 + ((joinW N dep qs j.toNat p).2 ++ (moveW N dep r (joinW N dep qs j.toNat p).1).2).length + (r.length + 1) ≤ wayW N.length 0 qs + (r.length + 1) * (2 * (N.length - st))
    rw [List.length_append, Nat.add_mul, Nat.one_mul]
    omega
theorem departW_way {N : Net} (fw : Fw N) : ∀ f, DepW N f (departW (α := α) N f)
  | 0 => fun qs st hl hst hf _ => absurd hf (by omega)
  | f + 1 => fun qs st hl hst hf h1 => by
    obtain ⟨a, b⟩ := moveW_way (departW_way fw f) (st := st) (by omega) hst (ms := (N.getD st []).zip (qs.getD st [])) (qs := qs.set st []) (fun m hm j e => by
      exact fw st hst j (by rw [← e]; exact (List.of_mem_zip hm).1)) (by rw [List.length_set]; exact hl)
    refine ⟨?_, b.trans (List.length_set ..)⟩
    have h0 := wayW_set (n := N.length) (qs := qs) (k := 0) (j := st) (q := []) (by omega)
    rw [Nat.zero_add, List.length_nil, Nat.zero_mul] at h0
    have hz : ((N.getD st []).zip (qs.getD st [])).length ≤ (qs.getD st []).length := by rw [List.length_zip]; omega
    generalize hm : ((N.getD st []).zip (qs.getD st [])).length = m at a hz
    show wayW N.length 0 (moveW (α := α) N (departW N f) ((N.getD st []).zip (qs.getD st [])) (qs.set st [])).1 + ((moveW (α := α) N (departW N f) ((N.getD st []).zip (qs.getD st [])) (qs.set st [])).2.length + 1) ≤ _
    have hp : m * (2 * (N.length - st)) - m + 1 ≤ (qs.getD st []).length * (2 * (N.length - st)) := by
      generalize hX : 2 * (N.length - st) = X
      have hX2 : 2 ≤ X := by omega
      generalize (qs.getD st []).length = L at hz h1
      have hle : m * X ≤ L * X := Nat.mul_le_mul_right _ hz
      by_cases e : m = 0
      · subst e
        have : 1 * X ≤ L * X := Nat.mul_le_mul_right _ h1
        omega
      · have : m ≤ m * X := Nat.le_mul_of_pos_right _ (by omega)
        omega
    have hm2 : m ≤ m * (2 * (N.length - st)) := Nat.le_mul_of_pos_right _ (by omega)
    omega
/-- whoever finishes is told -/
def EvOk (es : EvsA α) : Prop := ∀ e ∈ es, ∀ z, e.1 = .inr z → e.2 ≠ []
def DepE (dep : Dep α) : Prop := ∀ qs st, EvOk (dep qs st).2
theorem EvOk.nil : EvOk ([] : EvsA α) := fun _ h => by cases h
theorem EvOk.cons {e : Key × List α} {es : EvsA α} (h1 : ∀ z, e.1 = .inr z → e.2 ≠ []) (h2 : EvOk es) : EvOk (e :: es) := fun x h => by
  rcases List.mem_cons.mp h with rfl | h
  · exact h1
  · exact h2 x h
theorem EvOk.append {a b : EvsA α} (h1 : EvOk a) (h2 : EvOk b) : EvOk (a ++ b) := fun x h => (List.mem_append.mp h).elim (h1 x) (h2 x)
theorem joinW_e {N : Net} {dep : Dep α} (h : DepE dep) (qs : QsA α) (j : Nat) (p : α) : EvOk (joinW N dep qs j p).2 := by
  unfold joinW
  split
  · exact h _ _
  · exact EvOk.nil
theorem moveW_e {N : Net} {dep : Dep α} (h : DepE dep) : ∀ (ms : List (Key × α)) (qs : QsA α), EvOk (moveW N dep ms qs).2
  | [], _ => EvOk.nil
  | (.inr z, p) :: r, qs => EvOk.cons (fun _ _ => by simp) (moveW_e h r qs)
  | (.inl j, p) :: r, qs => EvOk.append (joinW_e h qs j.toNat p) (moveW_e h r _)
theorem departW_e {N : Net} : ∀ f, DepE (departW (α := α) N f)
  | 0 => fun _ _ => EvOk.nil
  | f + 1 => fun qs st => EvOk.cons (fun z e => nomatch e) (moveW_e (departW_e f) ((N.getD st []).zip (qs.getD st [])) (qs.set st []))
/-- who finishes does so at a port of the network -/
def FinS (N : Net) (es : EvsA α) : Prop := ∀ x ∈ finOf es, ∃ k, (.inr x.1 : Key) ∈ N.getD k []
theorem FinS.append {N : Net} {a b : EvsA α} (h1 : FinS N a) (h2 : FinS N b) : FinS N (a ++ b) := fun x h => by
  rw [finOf_append] at h
  exact (List.mem_append.mp h).elim (h1 x) (h2 x)
theorem FinS.nil {N : Net} : FinS N ([] : EvsA α) := fun _ h => by cases h
def DepS (N : Net) (dep : Dep α) : Prop := ∀ qs st, FinS N (dep qs st).2
theorem joinW_s {N : Net} {dep : Dep α} (h : DepS N dep) (qs : QsA α) (j : Nat) (p : α) : FinS N (joinW N dep qs j p).2 := by
  unfold joinW
  split
  · exact h _ _
  · exact FinS.nil
theorem moveW_s {N : Net} {dep : Dep α} (h : DepS N dep) : ∀ (ms : List (Key × α)) (qs : QsA α), (∀ m ∈ ms, ∃ k, m.1 ∈ N.getD k []) → FinS N (moveW N dep ms qs).2
  | [], _, _ => FinS.nil
  | (.inr z, p) :: r, qs, hm => fun x hx => by
    rcases List.mem_cons.mp hx with rfl | hx
    · exact hm _ (List.mem_cons_self ..)
    · exact moveW_s h r qs (fun m h => hm m (List.mem_cons_of_mem _ h)) x hx
  | (.inl j, p) :: r, qs, hm => FinS.append (joinW_s h qs j.toNat p) (moveW_s h r _ fun m h => hm m (List.mem_cons_of_mem _ h))
theorem departW_s {N : Net} : ∀ f, DepS N (departW (α := α) N f)
  | 0 => fun _ _ => FinS.nil
  | f + 1 => fun qs st => fun x hx => moveW_s (departW_s f) ((N.getD st []).zip (qs.getD st [])) (qs.set st []) (fun m hm => ⟨st, (List.of_mem_zip hm).1⟩) x hx
end
end
end FB
set_option Elab.async false
set_option linter.all false
set_option maxRecDepth 100000
set_option maxHeartbeats 4000000
namespace K
open PySem PySem.Spec PyProof.Rows L2 Evl FB
local macro_rules | `(tactic| walk_at "run") => `(tactic| try simp only [tSeq, tAsg, tVar, tC, gName, L2.start, List.map_cons, List.map_nil, List.cons_append, List.nil_append, List.length_cons, List.length_nil, List.replicate, List.getElem?_cons_zero, List.getElem?_cons_succ, Option.some.injEq, exists_eq_left', List.set_cons_zero, List.set_cons_succ, V.ref.injEq, tRet, x_tLst, x_tTup, tCons, tCB, tNil, tOp, x_addI, x_mulI, x_rI, x_rI0, x_ltI, x_leI, x_ltS, x_leS, x_eqI, x_neI, x_eqS, x_eqB, x_neB, x_isiI, x_isiS, x_int, x_max, x_min, cxOf, tIfS, tNext, tTest, V.bl.injEq, decide_eq_true_eq, gSub, tAnd, tOr, tNot, tB, tDrop, tBM, x_tFor, iRng1, iList, iTup, x_tLc, tYes, tCall, tIf, tAndV, tOrV, tNotV, tChain, List.append_nil, tUn, if_true, wipe, true_and, x_never, iU, x_itS, kV, Nat.reduceAdd, Nat.reduceSub, List.replicate_zero, x_rU, x_tMkO, iEnumT, x_tDc, x_tDGet, x_tDGet2, x_sDPut, x_tDSetd, x_tDNewK, x_iItems, x_iZip, x_tSAddK, x_tLockV, x_tTupRg, x_tRg2, tPar, tPar3, tBM0])
section
variable {P : Program} {w : World} {K : PySem.W.Frag} {mg : Str → Option Value} {base : Heap} {α : Type} [Inhabited α] {pd : α → PyData}
abbrev s_join_queue : Stmt := top 29
theorem sc_join_queue : FnScope ["network", "queues", "station", "passenger", "events"] ["network", "queues", "station", "passenger", "events"] (defScope s_join_queue) := ⟨rfl, rfl, rfl, by decide +kernel, rfl, by decide +kernel, by decide +kernel⟩
abbrev s_depart : Stmt := top 30
theorem sc_depart : FnScope ["network", "queues", "station", "events", "passengers", "place", "passenger"] ["network", "queues", "station", "events"] (defScope s_depart) := ⟨rfl, rfl, rfl, by decide +kernel, rfl, by decide +kernel, by decide +kernel⟩
/-- a passenger joins a queue of the package -/
def spJoinP (K : PySem.W.Frag) (pd : α → PyData) (f : Nat) : Sp := fun vs H Q _ => ∃ (v x : V) (N : Net) (Qa Ea : Addr) (qs : QsA α) (es : EvsA α) (j : Nat) (p : α), vs = [v, .ref Qa, .int (j : Int), x, .ref Ea] ∧ NetAt K H v N ∧ JN N ∧ Dp K H x (pd p) ∧ QtAt K H Qa pd qs ∧ EvAt K H Ea pd es ∧ Qa ≠ Ea ∧
  Short N qs ∧ j < N.length ∧ N.length ≤ j + f ∧ es.length + (wayW N.length 0 qs + 2 * (N.length - j)) ≤ 900000 ∧
  ∀ H', Ex2 Qa Ea H H' → QtAt K H' Qa pd (joinW N (departW N f) qs j p).1 → EvAt K H' Ea pd (es ++ (joinW N (departW N f) qs j p).2) → Q .non H'
def spDepartP (K : PySem.W.Frag) (pd : α → PyData) (f : Nat) : Sp := fun vs H Q _ => ∃ (v : V) (N : Net) (Qa Ea : Addr) (qs : QsA α) (es : EvsA α) (st : Nat), vs = [v, .ref Qa, .int (st : Int), .ref Ea] ∧ NetAt K H v N ∧ JN N ∧ QtAt K H Qa pd qs ∧ EvAt K H Ea pd es ∧ Qa ≠ Ea ∧
  qs.length = N.length ∧ (∀ k, k < N.length → k ≠ st → (qs.getD k []).length < (N.getD k []).length) ∧ (qs.getD st []).length ≤ (N.getD st []).length ∧ 1 ≤ (qs.getD st []).length ∧ st < N.length ∧ N.length ≤ st + f ∧ es.length + wayW N.length 0 qs ≤ 900000 ∧
  ∀ H', Ex2 Qa Ea H H' → QtAt K H' Qa pd (departW N f qs st).1 → EvAt K H' Ea pd (es ++ (departW N f qs st).2) → Q .non H'
theorem ok_join_queue (hp : PD pd) {f g : Addr} {fd gd : FuncData} {l n : Nat} (D : Df K mg "join_queue" s_join_queue ["network", "queues", "station", "passenger", "events"] f fd) (T : Bt mg) (D_depart : Df K mg "depart" s_depart ["network", "queues", "station", "events"] g gd)
    (G_depart : FnOk P w K mg base CX0 l g gd ["network", "queues", "station", "events"] (spDepartP K pd n)) : FnOk P w K mg base CX0 (l + 1) f fd ["network", "queues", "station", "passenger", "events"] (spJoinP K pd n) := by
  refine D.F.ok sc_join_queue (fun vs H Q E h => ?_) (fun cdv A outer s H vs Q E hr h => ?_)
  · obtain ⟨v, x, N, Qa, Ea, qs, es, j, p, rfl, _⟩ := h
    rfl
  · obtain ⟨v, x, N, Qa, Ea, qs, es, j, p, rfl, hN, hJ, hx, hQ, hE, hne, S, hj, hf, hb, q⟩ := h
    have hu := hr.units
    refine ⟨_, (pss_cons (ps_asg (pe_op (op_addU (K := K)) (pe_ix (ix_U (K := K)) (pv 1) (pv 2) (fun _ _ => rfl)) (pe_tup (pa_cons (pv 3) pa_nil))) (pg_sub (pv 1) (pv 2) set_list))
      (pss_one (ps_if (pt_cmpR (op_eqU (K := K) hu) (pe_callB (call_lenU (K := K)) (by rfl) T.b_len (by decide +kernel) (pa_cons (pe_ix (ix_U (K := K)) (pv 1) (pv 2) (fun _ _ => rfl)) pa_nil)) (pe_callB (call_lenU (K := K)) (by rfl) T.b_len (by decide +kernel) (pa_cons (pe_ix (ix_U (K := K)) (pv 0) (pv 2) (fun _ _ => rfl)) pa_nil)) (nomark _)) (pss_one (ps_expr (pe_call (G_depart) hr rfl D_depart.g D_depart.F.kp D_depart.b .nil pass0 (pa_cons (pv 0) (pa_cons (pv 1) (pa_cons (pv 2) (pa_cons (pv 4) pa_nil))))))) pss_nil))), ?_⟩
    walk_at "run"
    have hjq : j < qs.length := by rw [S.len]; exact hj
    obtain ⟨ts, b, vs, hQa, hts, htj, hbv, hvs⟩ := QtAt.get hQ hjq
    obtain ⟨vn, us, rfl, hU, hus⟩ := hN.at
    obtain ⟨h1s, h8s⟩ := hJ.st j hj
    have hlt := S.lt j hj
    have hvl : vs.length = (qs.getD j []).length := by rw [hvs.len, List.length_map]
    have htl : ts.length = qs.length := by rw [hts.len, List.length_map]
    refine x_ixL (SqL.of hQa) (atI_nat htj) (x_tup (by simp) fun t1 H1 nt1 e1 h1 => ?_)
    refine x_catT (ex_t e1 hbv) (SqT.of h1) (by simp; omega) fun t2 H2 e2 h2 => ?_
    walk_at "run"
    have hix : ixN ts.length (j : Int) = some j := by unfold ixN; rw [if_pos (by omega), if_pos (by omega)]; simp
    refine x_setL (e2 _ _ (e1 _ _ hQa)) hix fun H3 e3 h3 => ?_
    have e12 : Ex H H2 := fun x o h => e2 _ _ (e1 _ _ h)
    have t3 : TX H H3 := (TX.of e12).trans (TX.but (e2 _ _ (e1 _ _ hQa)) e3)
    have hQ3 : QtAt K H3 Qa pd (qs.set j (qs.getD j [] ++ [p])) := ⟨⟨_, h3, by
      rw [List.map_set]
      refine DpAll.set (DpAll.tx t3 hts (qs_t hp)) ?_
      unfold qA
      rw [List.map_append]
      refine .tup ((TX.but (e2 _ _ (e1 _ _ hQa)) e3).t h2) ?_
      refine DpAll.append (DpAll.tx t3 hvs fun d hd => ?_) (.cons (Dp.tx t3 hx (hp.t p)) .nil)
      obtain ⟨y, _, rfl⟩ := List.mem_map.mp hd
      exact hp.t y⟩⟩
    have hE3 : EvAt K H3 Ea pd es := hE.tx (es_t hp) t3 fun o h => e3 _ _ hne.symm (e12 _ _ h)
    have ex3 : Ex2 Qa Ea H H3 := fun x o h h1 _ => e3 _ _ h1 (e12 _ _ h)
    have htj3 : (ts.set j (.ref t2))[j]? = some (.ref t2) := by rw [List.getElem?_set_self (by omega)]
    refine x_ixL (SqL.of h3) (atI_nat htj3) (x_lenT ((TX.but (e2 _ _ (e1 _ _ hQa)) e3).t h2) ?_)
    obtain ⟨sv, hsv, hsd⟩ := hus.get (show (N.map stD)[j]? = some (stD (N.getD j [])) by simp [List.getD_eq_getElem?_getD, hj])
    obtain ⟨c, rfl, hcs⟩ := StAt.at hsd
    refine x_ixT (t3.t hU) (atI_nat hsv) (x_lenT (t3.t hcs) ?_)
    rw [List.length_map, List.length_append, show [x].length = 1 from rfl]
    walk_at "run"
    have hlen : (qs.getD j [] ++ [p]).length = (qs.getD j []).length + 1 := by simp
    by_cases e : (qs.getD j [] ++ [p]).length = (N.getD j []).length
    · rw [if_pos (by omega)]
      have hjw : joinW N (departW N n) qs j p = departW N n (qs.set j (qs.getD j [] ++ [p])) j := by unfold joinW; rw [if_pos e]
      rw [hjw] at q
      have hw := wayW_set (n := N.length) (qs := qs) (k := 0) (j := j) (q := qs.getD j [] ++ [p]) hjq
      rw [List.length_append, show [p].length = 1 from rfl, Nat.add_mul, Nat.zero_add, Nat.one_mul] at hw
      refine ⟨_, N, Qa, Ea, _, es, j, rfl, hN.tx t3, hJ, hQ3, hE3, hne, by rw [List.length_set]; exact S.len, fun k hk hn => by rw [getD_set' hjq, if_neg hn]; exact S.lt k hk, by rw [getD_set' hjq, if_pos rfl]; omega, by rw [getD_set' hjq, if_pos rfl]; simp, hj, hf, by omega, fun H4 ex4 hQ4 hE4 => ?_⟩
      exact q H4 (fun x o h h1 h2 => ex4 x o (ex3 x o h h1 h2) h1 h2) hQ4 hE4
    · rw [if_neg (by omega)]
      have hjw : joinW N (departW N n) qs j p = (qs.set j (qs.getD j [] ++ [p]), []) := by unfold joinW; rw [if_neg e]
      rw [hjw] at q
      exact q H3 ex3 hQ3 (by simpa using hE3)
theorem ok_depart (hp : PD pd) {f g : Addr} {fd gd : FuncData} {l n : Nat} (D : Df K mg "depart" s_depart ["network", "queues", "station", "events"] f fd) (T : Bt mg) (D_join_queue : Df K mg "join_queue" s_join_queue ["network", "queues", "station", "passenger", "events"] g gd)
    (G_join_queue : FnOk P w K mg base CX0 l g gd ["network", "queues", "station", "passenger", "events"] (spJoinP K pd n)) : FnOk P w K mg base CX0 (l + 1) f fd ["network", "queues", "station", "events"] (spDepartP K pd (n + 1)) := by
  refine D.F.ok sc_depart (fun vs H Q E h => ?_) (fun cdv A outer s H vs Q E hr h => ?_)
  · obtain ⟨v, N, Qa, Ea, qs, es, st, rfl, _⟩ := h
    rfl
  · obtain ⟨v, N, Qa, Ea, qs, es, st, rfl, hN, hJ, hQ, hE, hne, hl, hsh, hle, h1q, hst, hf, hb, q⟩ := h
    have hu := hr.units
    refine ⟨_, (pss_cons (ps_set (i := 4) sc_depart.nd rfl (Or.inl rfl) (pe_ix (ix_U (K := K)) (pv 1) (pv 2) (fun _ _ => rfl)))
      (pss_cons (ps_asg (pe_tup pa_nil) (pg_sub (pv 1) (pv 2) set_list))
      (pss_cons (ps_expr (pe_bm PySem.F.plainAttrs_list PySem.F.slot_list_append PySem.F.type_list_append mt_append (pv 3) (pa_cons (pe_tup (pa_cons (pv 2) (pa_cons (pv 4) pa_nil))) pa_nil)))
      (pss_one (ps_for PassesOwn.never rfl (RZ.pi_zipA (by rfl) T.b_zip (pa_cons (pe_ix (ix_U (K := K)) (pv 0) (pv 2) (fun _ _ => rfl)) (pa_cons (pv 4) pa_nil))) (pg_tup rfl (pgs_cons (pg_name (i := 5) sc_depart.nd rfl (Or.inl rfl)) (pgs_cons (pg_name (i := 6) sc_depart.nd rfl (Or.inl rfl)) pgs_nil))) (pss_one (ps_if (pt_val (pe_callB (call_isiU (K := K)) (by rfl) T.b_isinstance (by decide +kernel) (pa_cons (pv 5) (pa_cons (pe_bltn (v := .ty "str") (by rfl) T.b_str (by decide +kernel) rfl) pa_nil)))) (pss_one (ps_expr (pe_bm PySem.F.plainAttrs_list PySem.F.slot_list_append PySem.F.type_list_append mt_append (pv 3) (pa_cons (pe_tup (pa_cons (pv 5) (pa_cons (pe_tup (pa_cons (pv 6) pa_nil)) pa_nil))) pa_nil)))) (pss_one (ps_expr (pe_call (G_join_queue) hr rfl D_join_queue.g D_join_queue.F.kp D_join_queue.b .nil pass0 (pa_cons (pv 0) (pa_cons (pv 1) (pa_cons (pv 5) (pa_cons (pv 6) (pa_cons (pv 3) pa_nil))))))))))))))), ?_⟩
    walk_at "run"
    have hsq : st < qs.length := by omega
    obtain ⟨ts, b, vs, hQa, hts, htj, hbv, hvs⟩ := QtAt.get hQ hsq
    obtain ⟨vn, us, rfl, hU, hus⟩ := hN.at
    obtain ⟨h1s, h8s⟩ := hJ.st st hst
    have hvl : vs.length = (qs.getD st []).length := by rw [hvs.len, List.length_map]
    have htl : ts.length = qs.length := by rw [hts.len, List.length_map]
    have hix : ixN ts.length (st : Int) = some st := by unfold ixN; rw [if_pos (by omega), if_pos (by omega)]; simp
    refine x_ixL (SqL.of hQa) (atI_nat htj) (x_tup (by simp) fun t1 H1 nt1 e1 h1 => ?_)
    walk_at "run"
    refine x_setL (e1 _ _ hQa) hix fun H2 e2 h2 => ?_
    have t12 : TX H1 H2 := TX.but (e1 _ _ hQa) e2
    have t2 : TX H H2 := (TX.of e1).trans t12
    have hQ2 : QtAt K H2 Qa pd (qs.set st []) := ⟨⟨_, h2, by
      rw [List.map_set]
      exact DpAll.set (DpAll.tx t2 hts (qs_t hp)) (.tup (t12.t (SqT.of h1)) .nil)⟩⟩
    have hE2 : EvAt K H2 Ea pd es := hE.tx (es_t hp) t2 fun o h => e2 _ _ hne.symm (e1 _ _ h)
    have ex2 : Ex2 Qa Ea H H2 := fun x o h h1 _ => e2 _ _ h1 (e1 _ _ h)
    obtain ⟨eS, hEa, heS⟩ := hE2.ex
    have hel : eS.length = es.length := by rw [heS.len, List.length_map]
    refine ⟨x_tyL (SqL.of hEa), x_tup (by simp) fun t3 H3 nt3 e3 h3 => ?_⟩
    refine x_append (e3 _ _ hEa) (by omega) fun H4 e4 h4 => ?_
    have t24 : TX H2 H4 := (TX.of e3).trans (TX.but (e3 _ _ hEa) e4)
    have t4 : TX H H4 := t2.trans t24
    have hEt3 : Ea ≠ t3 := ne_of_none hEa nt3
    have hbq : Dp K H4 (.ref b) (qA pd (qs.getD st [])) := Dp.tx t4 (.tup hbv hvs) (qA_t hp _)
    have hE4 : EvAt K H4 Ea pd (es ++ [(.inl (st : Int), qs.getD st [])]) := ⟨⟨_, h4, by
      rw [List.map_append]
      refine DpAll.append (DpAll.tx t24 heS (es_t hp)) (.cons (.tup (SqT.of (e4 _ _ hEt3.symm h3)) (.cons (.int _) (.cons hbq .nil))) .nil)⟩⟩
    have hQ4 : QtAt K H4 Qa pd (qs.set st []) := hQ2.tx (qs_t hp) t24 fun o h => e4 _ _ hne (e3 _ _ h)
    have ex4 : Ex2 Qa Ea H H4 := fun x o h h1 h2 => e4 _ _ h2 (e3 _ _ (ex2 x o h h1 h2))
    obtain ⟨sv, hsv, hsd⟩ := hus.get (show (N.map stD)[st]? = some (stD (N.getD st [])) by simp [List.getD_eq_getElem?_getD, hst])
    obtain ⟨c, rfl, hcs⟩ := StAt.at hsd
    refine x_ixT (t4.t hU) (atI_nat hsv) (x_zipT (t4.t hcs) (t4.t hbv) ?_)
    have hw := wayW_set (n := N.length) (qs := qs) (k := 0) (j := st) (q := []) hsq
    rw [Nat.zero_add, List.length_nil, Nat.zero_mul] at hw
    have h1k : ∀ k, k < N.length → 1 ≤ (N.getD k []).length := fun k hk => (hJ.st k hk).1
    have S0 : Short N (qs.set st []) := ⟨by rw [List.length_set]; exact hl, fun k hk => by
      rw [getD_set' hsq]
      split
      · rename_i e; subst e; exact h1s
      · rename_i e; exact hsh k hk e⟩
    have hdep := departW_ok (α := α) h1k hJ.fw n
    have hway := departW_way (α := α) hJ.fw n
    have hzl : ((N.getD st []).zip (qs.getD st [])).length = (qs.getD st []).length := by rw [List.length_zip]; omega
    have hmem : ∀ i, ∀ m ∈ ((N.getD st []).zip (qs.getD st [])).take i, ∀ j : Int, m.1 = .inl j → (st : Int) < j ∧ j < N.length := fun i m hm j e =>
      hJ.fw st hst j (by rw [← e]; exact (List.of_mem_zip (List.mem_of_mem_take hm)).1)
    have hmn : min ((N.getD st []).map kV).length vs.length = (qs.getD st []).length := by rw [List.length_map]; omega
    refine loop_it walk_zipM (fun i σ H' => ∃ u5 u6, σ = [some (.ref vn), some (.ref Qa), some (.int (st : Int)), some (.ref Ea), some (.ref b), u5, u6] ∧ Ex2 Qa Ea H H' ∧ TX H4 H' ∧
      QtAt K H' Qa pd (moveW (α := α) N (departW N n) (((N.getD st []).zip (qs.getD st [])).take i) (qs.set st [])).1 ∧ EvAt K H' Ea pd ((es ++ [(.inl (st : Int), qs.getD st [])]) ++ (moveW (α := α) N (departW N n) (((N.getD st []).zip (qs.getD st [])).take i) (qs.set st [])).2)) ⟨_, _, rfl, ex4, TX.refl _, hQ4, by simpa [moveW] using hE4⟩
      (fun i σ H' _ ⟨_, _, _, _, t, _, _⟩ => ⟨(t4.trans t).t hcs, (t4.trans t).t hbv⟩) ?_ ?_
    · rintro i v σ H5 H6 hi ⟨u5, u6, rfl, ex5, t5, hQ5, hE5⟩ ⟨T0, x, y, rfl, hT0, rfl, hx, hy⟩
      rw [hmn] at hi
      have e6 : Ex H5 (upd H5 T0 (.tup [x, y])) := Ex.new hT0
      refine x_two (SqT.of upd_same) ?_
      generalize upd H5 T0 (.tup [x, y]) = H6 at e6
      have t6 : TX H4 H6 := t5.trans (TX.of e6)
      obtain ⟨S5, K5⟩ := moveW_ok h1k hdep (st := st) (by omega) (ms := ((N.getD st []).zip (qs.getD st [])).take i) (hmem i) S0
      obtain ⟨W5, L5⟩ := moveW_way (f := n) hway (st := st) (by omega) hst (ms := ((N.getD st []).zip (qs.getD st [])).take i) (qs := qs.set st []) (hmem i) (by rw [List.length_set]; exact hl)
      have hlen5 : (((N.getD st []).zip (qs.getD st [])).take i).length = i := by rw [List.length_take]; omega
      rw [hlen5] at W5
      obtain ⟨k, hk⟩ : ∃ k, (N.getD st [])[i]? = some k := ⟨(N.getD st [])[i]'(by omega), List.getElem?_eq_getElem (by omega)⟩
      obtain ⟨p, hp2⟩ : ∃ p, (qs.getD st [])[i]? = some p := ⟨(qs.getD st [])[i]'(by omega), List.getElem?_eq_getElem (by omega)⟩
      have hzi : ((N.getD st []).zip (qs.getD st []))[i]? = some (k, p) := by
        rw [List.getElem?_zip_eq_some]
        exact ⟨hk, hp2⟩
      have htk : ((N.getD st []).zip (qs.getD st [])).take (i + 1) = ((N.getD st []).zip (qs.getD st [])).take i ++ [(k, p)] := by rw [List.take_add_one, hzi]; rfl
      rw [htk, moveW_snoc]
      have hQ6 := hQ5.ex2 e6
      have hE6 := hE5.ex2 e6
      have ex6 : Ex2 Qa Ea H H6 := ex5.ex e6
      generalize moveW (α := α) N (departW N n) (((N.getD st []).zip (qs.getD st [])).take i) (qs.set st []) = R at hQ6 hE6 S5 K5 L5 W5
      obtain rfl : kV k = x := by
        change ((N.getD st []).map kV)[i]? = some x at hx
        have : ((N.getD st []).map kV)[i]? = some (kV k) := by simp only [List.getElem?_map, hk]; rfl
        rw [this] at hx
        exact Option.some.inj hx
      obtain ⟨dp, hdp, hyd⟩ := DpAll.get' (DpAll.tx t4 hvs fun d hd => by
        obtain ⟨y, _, rfl⟩ := List.mem_map.mp hd
        exact hp.t y) hy
      obtain rfl : pd p = dp := by
        have : ((qs.getD st []).map pd)[i]? = some (pd p) := by simp only [List.getElem?_map, hp2]; rfl
        rw [this] at hdp
        exact Option.some.inj hdp
      have hy6 : Dp K H6 y (pd p) := Dp.tx t6 hyd (hp.t p)
      have hiX : i * (2 * (N.length - st)) + 2 * (N.length - st) ≤ (qs.getD st []).length * (2 * (N.length - st)) := by
        have := Nat.mul_le_mul_right (2 * (N.length - st)) (show i + 1 ≤ (qs.getD st []).length by omega)
        rw [Nat.add_mul, Nat.one_mul] at this
        exact this
      walk_at "run"
      cases k with
      | inl j =>
        have hj := hJ.fw st hst j (List.mem_of_getElem? hk)
        obtain ⟨j', rfl⟩ : ∃ j' : Nat, j = (j' : Int) := ⟨j.toNat, by omega⟩
        walk_at "run"
        rw [if_neg Bool.false_ne_true]
        have hjo := move_one_l (N := N) (dep := departW N n) (j := (j' : Int)) (p := p) (qs := R.1)
        rw [Int.toNat_natCast] at hjo
        rw [hjo]
        refine ⟨_, y, N, Qa, Ea, R.1, _, j', p, rfl, hN.tx (t4.trans t6), hJ, hy6, hQ6, hE6, hne, S5, by omega, by omega, ?_, fun H7 ex7 hQ7 hE7 => ?_⟩
        · rw [List.length_append, List.length_append, List.length_singleton]; omega
        · refine ⟨_, _, rfl, fun x o h h1 h2 => ex7 x o (ex6 x o h h1 h2) h1 h2, t6.trans ?_, hQ7, ?_⟩
          · obtain ⟨_, a1, _⟩ := hQ6.ex
            obtain ⟨_, a2, _⟩ := hE6.ex
            exact TX.two a1 a2 ex7
          · rw [← List.append_assoc]
            exact hE7
      | inr z =>
        walk_at "run"
        obtain ⟨es6, hEa6, hes6⟩ := hE6.ex
        have hl6 : es6.length = es.length + 1 + R.2.length := by rw [hes6.len, List.length_map, List.length_append, List.length_append, List.length_singleton]
        refine ⟨x_tyL (SqL.of hEa6), x_tup (by simp) fun t7 H7 nt7 e7 h7 => x_tup (by simp) fun t8 H8 nt8 e8 h8 => ?_⟩
        refine x_append (e8 _ _ (e7 _ _ hEa6)) (by omega) fun H9 e9 h9 => ?_
        have hE7' : Ea ≠ t7 := ne_of_none hEa6 nt7
        have hE8' : Ea ≠ t8 := ne_of_none (e7 _ _ hEa6) nt8
        have t69 : TX H6 H9 := ((TX.of e7).trans (TX.of e8)).trans (TX.but (e8 _ _ (e7 _ _ hEa6)) e9)
        rw [move_one_r]
        refine ⟨_, _, rfl, fun x o h h1 h2 => e9 _ _ h2 (e8 _ _ (e7 _ _ (ex6 x o h h1 h2))), t6.trans t69, hQ6.tx (qs_t hp) t69 fun o h => e9 _ _ hne (e8 _ _ (e7 _ _ h)), ⟨⟨_, h9, ?_⟩⟩⟩
        rw [← List.append_assoc, List.map_append]
        refine DpAll.append (DpAll.tx t69 hes6 (es_t hp)) (.cons (.tup (SqT.of (e9 _ _ hE8'.symm h8)) (.cons (.str z) (.cons (.tup (SqT.of (e9 _ _ hE7'.symm (e8 _ _ h7))) (.cons (Dp.tx t69 hy6 (hp.t p)) .nil)) .nil))) .nil)
    · rintro σ H5 ⟨u5, u6, rfl, ex5, t5, hQ5, hE5⟩
      rw [hmn] at hQ5 hE5
      have ht : ((N.getD st []).zip (qs.getD st [])).take (qs.getD st []).length = (N.getD st []).zip (qs.getD st []) := List.take_of_length_le (by omega)
      rw [ht] at hQ5 hE5
      refine q H5 ex5 hQ5 ?_
      rw [List.append_assoc] at hE5
      exact hE5
theorem ok_p_pair (hp : PD pd) {f g : Addr} {fd gd : FuncData} (D_join_queue : Df K mg "join_queue" s_join_queue ["network", "queues", "station", "passenger", "events"] f fd) (T : Bt mg) (D_depart : Df K mg "depart" s_depart ["network", "queues", "station", "events"] g gd) : ∀ n : Nat,
    FnOk P w K mg base CX0 (2 * n) g gd ["network", "queues", "station", "events"] (spDepartP K pd n) ∧ FnOk P w K mg base CX0 (2 * n + 1) f fd ["network", "queues", "station", "passenger", "events"] (spJoinP K pd n)
  | 0 => by
    have h0 : FnOk P w K mg base CX0 (2 * 0) g gd ["network", "queues", "station", "events"] (spDepartP K pd 0) := FnOk.absurd fun vs H Q E ⟨_, _, _, _, _, _, _, _, _, _, _, _, _, _, _, _, _, h1, h2, _⟩ => by omega
    exact ⟨h0, ok_join_queue hp D_join_queue T D_depart h0⟩
  | n + 1 => by
    have h0 : FnOk P w K mg base CX0 (2 * (n + 1)) g gd ["network", "queues", "station", "events"] (spDepartP K pd (n + 1)) := ok_depart hp D_depart T D_join_queue (ok_p_pair hp D_join_queue T D_depart n).2
    exact ⟨h0, ok_join_queue hp D_join_queue T D_depart h0⟩
end
end K
set_option Elab.async false
set_option linter.all false
set_option maxRecDepth 100000
set_option maxHeartbeats 4000000
namespace K
open PySem PySem.Spec PyProof.Rows L2 Evl FB
local macro_rules | `(tactic| walk_at "run") => `(tactic| try simp only [tSeq, tAsg, tVar, tC, gName, L2.start, List.map_cons, List.map_nil, List.cons_append, List.nil_append, List.length_cons, List.length_nil, List.replicate, List.getElem?_cons_zero, List.getElem?_cons_succ, Option.some.injEq, exists_eq_left', List.set_cons_zero, List.set_cons_succ, V.ref.injEq, tRet, x_tLst, x_tTup, tCons, tCB, tNil, tOp, x_addI, x_mulI, x_rI, x_rI0, x_ltI, x_leI, x_ltS, x_leS, x_eqI, x_neI, x_eqS, x_eqB, x_neB, x_isiI, x_isiS, x_int, x_max, x_min, cxOf, tIfS, tNext, tTest, V.bl.injEq, decide_eq_true_eq, gSub, tAnd, tOr, tNot, tB, tDrop, tBM, x_tFor, iRng1, iList, iTup, x_tLc, tYes, tCall, tIf, tAndV, tOrV, tNotV, tChain, List.append_nil, tUn, if_true, wipe, true_and, x_never, iU, x_itS])
section
variable {P : Program} {w : World} {K : PySem.W.Frag} {mg : Str → Option Value} {base : Heap}
theorem FnOk.never {CX : CXT} {k : Nat} {f : Addr} {fd : FuncData} {ps : List Str} : FnOk P w K mg base CX k f fd ps (fun _ _ _ _ => False) := ⟨fun _ _ _ _ h => h.elim, fun _ _ _ _ _ _ _ _ _ _ _ _ _ h => h.elim⟩
abbrev s_l_alike : Stmt := top 38
theorem sc_l_alike : FnScope ["_law_found", "_law_due", "_law_k"] ["_law_found", "_law_due"] (defScope s_l_alike) := ⟨rfl, rfl, rfl, by decide +kernel, rfl, by decide +kernel, by decide +kernel⟩
theorem mem_depth : ∀ {ds : List PyData} {e : PyData}, e ∈ ds → e.depth ≤ PyData.depthAll ds
  | x :: r, e, h => by
    rw [PyData.depthAll]
    rcases List.mem_cons.mp h with rfl | h
    · omega
    · have := mem_depth h
      omega
theorem mem_lay : ∀ {ds : List PyData} {e : PyData}, PyData.canLayAll0 ds = true → e ∈ ds → e.canLay0 = true
  | x :: r, e, hc, h => by
    rw [PyData.canLayAll0, Bool.and_eq_true] at hc
    rcases List.mem_cons.mp h with rfl | h
    · exact hc.1
    · exact mem_lay hc.2 h
theorem shaped_mk {d : PyData} (h : d.canLay0 = true) (h2 : d.depth ≤ 64) : SeqAt.shaped d = true := by
  unfold SeqAt.shaped
  rw [h]
  simpa using h2
theorem shaped_get {d : PyData} (h : SeqAt.shaped d = true) : d.canLay0 = true ∧ d.depth ≤ 64 := by
  unfold SeqAt.shaped at h
  simpa using h
theorem shaped_l {ds : List PyData} {e : PyData} (h : SeqAt.shaped (.list ds) = true) (he : e ∈ ds) : SeqAt.shaped e = true ∧ e.depth + 1 ≤ (PyData.list ds).depth := by
  obtain ⟨h1, h2⟩ := shaped_get h
  rw [PyData.canLay0] at h1
  rw [PyData.depth] at h2 ⊢
  have := mem_depth he
  exact ⟨shaped_mk (mem_lay h1 he) (by omega), by omega⟩
theorem shaped_t {ds : List PyData} {e : PyData} (h : SeqAt.shaped (.tuple ds) = true) (he : e ∈ ds) : SeqAt.shaped e = true ∧ e.depth + 1 ≤ (PyData.tuple ds).depth := by
  obtain ⟨h1, h2⟩ := shaped_get h
  rw [PyData.canLay0] at h1
  rw [PyData.depth] at h2 ⊢
  have := mem_depth he
  exact ⟨shaped_mk (mem_lay h1 he) (by omega), by omega⟩
theorem eqv_same {d : PyData} (h : SeqAt.shaped d = true) : PyData.eqv d d = true := SeqAt.eqv_refl d (shaped_get h).1
/-- no list or tuple in it is very long -/
inductive SmD : PyData → Prop
  | non : SmD .none
  | bl (b : Bool) : SmD (.bool b)
  | int (i : Int) : SmD (.int i)
  | str (x : Str) : SmD (.str x)
  | lst {ds : List PyData} : ds.length ≤ 1000000 → (∀ d ∈ ds, SmD d) → SmD (.list ds)
  | tup {ds : List PyData} : ds.length ≤ 1000000 → (∀ d ∈ ds, SmD d) → SmD (.tuple ds)
/-- the same data on both sides, not deeper than n -/
def spAlike (K : PySem.W.Frag) : Nat → Sp
  | 0 => fun _ _ _ _ => False
  | n + 1 => fun vs H Q _ => ∃ (x y : V) (d : PyData), vs = [x, y] ∧ Dp K H x d ∧ Dp K H y d ∧ SeqAt.shaped d = true ∧ d.depth ≤ n ∧ SmD d ∧ ∀ H', Ex H H' → Q (.bl true) H'
theorem ok_l_alike {f : Addr} {fd : FuncData} (D : Df K mg "_law_alike" s_l_alike ["_law_found", "_law_due"] f fd) (T : Bt mg) : ∀ n, FnOk P w K mg base CX0 n f fd ["_law_found", "_law_due"] (spAlike K n)
  | 0 => FnOk.never
  | n + 1 => by
    have D_l_alike := D
    have G_l_alike : FnOk P w K mg base CX0 n f fd _ _ := ok_l_alike D T n
    refine D.F.ok sc_l_alike (fun vs H Q E h => ?_) (fun cdv A outer s H vs Q E hr h => ?_)
    · obtain ⟨a, b, n, rfl, _⟩ := h
      rfl
    · obtain ⟨x, y, d, rfl, hx, hy, sh, hd, sm, k⟩ := h
      have hu := hr.units
      refine ⟨_, (pss_cons (ps_if (pt_val (pe_callB (call_isiU (K := K)) (by rfl) T.b_isinstance (by decide +kernel) (pa_cons (pv 1) (pa_cons (pe_bltn (v := .ty "dict") (by rfl) T.b_dict (by decide +kernel) rfl) pa_nil)))) pss_never pss_nil)
      (pss_cons (ps_if (pt_val (pe_callB (call_isiU (K := K)) (by rfl) T.b_isinstance (by decide +kernel) (pa_cons (pv 1) (pa_cons (pe_tup (pa_cons (pe_bltn (v := .ty "tuple") (by rfl) T.b_tuple (by decide +kernel) rfl) (pa_cons (pe_bltn (v := .ty "list") (by rfl) T.b_list (by decide +kernel) rfl) pa_nil))) pa_nil)))) (pss_cons (ps_if (PW.pt (pw_or (pt_not (pt_val (pe_callB (call_isiU (K := K)) (by rfl) T.b_isinstance (by decide +kernel) (pa_cons (pv 0) (pa_cons (pe_tup (pa_cons (pe_bltn (v := .ty "tuple") (by rfl) T.b_tuple (by decide +kernel) rfl) (pa_cons (pe_bltn (v := .ty "list") (by rfl) T.b_list (by decide +kernel) rfl) pa_nil))) pa_nil))))) (pw_or1 (pt_cmpR (op_neU (K := K) hu) (pe_callB (call_isiU (K := K)) (by rfl) T.b_isinstance (by decide +kernel) (pa_cons (pv 0) (pa_cons (pe_bltn (v := .ty "list") (by rfl) T.b_list (by decide +kernel) rfl) pa_nil))) (pe_callB (call_isiU (K := K)) (by rfl) T.b_isinstance (by decide +kernel) (pa_cons (pv 1) (pa_cons (pe_bltn (v := .ty "list") (by rfl) T.b_list (by decide +kernel) rfl) pa_nil))) (nomark _))))) (pss_one (ps_ret pe_bl)) pss_nil)
      (pss_cons (ps_if (pt_cmpR (op_neU (K := K) hu) (pe_callB (call_lenU (K := K)) (by rfl) T.b_len (by decide +kernel) (pa_cons (pv 0) pa_nil)) (pe_callB (call_lenU (K := K)) (by rfl) T.b_len (by decide +kernel) (pa_cons (pv 1) pa_nil)) (nomark _)) (pss_one (ps_ret pe_bl)) pss_nil)
      (pss_one (ps_ret (pe_cmpR (op_eqU (K := K) hu) (pe_lc (own := [("_law_k", 2)]) (g := gName 2) (tt := _) rfl sc_l_alike.nd (pi_range1 (by rfl) T.b_range (pa_cons (pe_callB (call_lenU (K := K)) (by rfl) T.b_len (by decide +kernel) (pa_cons (pv 1) pa_nil)) pa_nil)) (blkOk_by (own := [("_law_k", 2)]) (N := ["_law_found", "_law_due", "_law_k"]) (sc := defScope s_l_alike) (by decide +kernel)) (fun _ _ _ _ _ => (pg_name (i := 2) sc_l_alike.nd rfl (Or.inl rfl))) (fun _ _ _ _ _ => (pts_one (pt_not (pt_val (pe_call (G_l_alike) hr rfl D_l_alike.g D_l_alike.F.kp D_l_alike.b .nil pass0 (pa_cons (pe_ix (ix_U (K := K)) (pv 0) (pv 2) (fun _ _ => rfl)) (pa_cons (pe_ix (ix_U (K := K)) (pv 1) (pv 2) (fun _ _ => rfl)) pa_nil))))))) (fun _ _ _ _ _ => (pv 2))) (pe_lst pa_nil) (nomark _)))))) pss_nil)
      (pss_cons (ps_if (PW.pt (pw_or (pt_cmpR op_isN (pv 1) pe_non (nomark _)) (pw_or1 (pt_val (pe_callB (call_isiU (K := K)) (by rfl) T.b_isinstance (by decide +kernel) (pa_cons (pv 1) (pa_cons (pe_bltn (v := .ty "str") (by rfl) T.b_str (by decide +kernel) rfl) pa_nil))))))) (pss_one (ps_ret (pe_and (pe_cmpR (op_eqU (K := K) hu) (pv 0) (pv 1) (nomark _)) (pe_one (pe_cmpR (op_eqU (K := K) hu) (pe_callB (call_isiU (K := K)) (by rfl) T.b_isinstance (by decide +kernel) (pa_cons (pv 0) (pa_cons (pe_bltn (v := .ty "str") (by rfl) T.b_str (by decide +kernel) rfl) pa_nil))) (pe_callB (call_isiU (K := K)) (by rfl) T.b_isinstance (by decide +kernel) (pa_cons (pv 1) (pa_cons (pe_bltn (v := .ty "str") (by rfl) T.b_str (by decide +kernel) rfl) pa_nil))) (nomark _)))))) pss_nil)
      (pss_one (ps_ret (pe_and (pe_callB (call_isiU (K := K)) (by rfl) T.b_isinstance (by decide +kernel) (pa_cons (pv 0) (pa_cons (pe_bltn (v := .ty "int") (by rfl) T.b_int (by decide +kernel) rfl) pa_nil))) (pe_and (pe_cmpR (op_eqU (K := K) hu) (pe_callB (call_isiU (K := K)) (by rfl) T.b_isinstance (by decide +kernel) (pa_cons (pv 0) (pa_cons (pe_bltn (v := .ty "bool") (by rfl) T.b_bool (by decide +kernel) rfl) pa_nil))) (pe_callB (call_isiU (K := K)) (by rfl) T.b_isinstance (by decide +kernel) (pa_cons (pv 1) (pa_cons (pe_bltn (v := .ty "bool") (by rfl) T.b_bool (by decide +kernel) rfl) pa_nil))) (nomark _)) (pe_one (pe_cmpR (op_eqU (K := K) hu) (pv 0) (pv 1) (nomark _)))))))))), ?_⟩
      walk_at "run"
      -- a tuple or a list: the items
      have seq : ∀ (ds : List PyData) (a b : Addr) (xs ys : List V) (H1 : Hp), Ex H H1 → x = .ref a → y = .ref b → SqA K H1 a xs → SqA K H1 b ys → DpAll K H1 xs ds → DpAll K H1 ys ds → ds.length ≤ 1000000 → (∀ e ∈ ds, SeqAt.shaped e = true ∧ e.depth + 1 ≤ n ∧ SmD e) →
          rLenU K [x] H1 fun x_8 H1 => rLenU K [y] H1 fun y_2 H2 => rNeU K x_8 y_2 H2 fun x_9 H' => ∃ k, x_9 = V.bl k ∧ if k = true then Q (V.bl false) H' else rLenU K [y] H' fun x_10 H1 => ∃ j, [x_10] = [V.int j] ∧ -2 ^ 62 ≤ j ∧ j < 2 ^ 62 ∧
            LcL (Itr 0 j.toNat) (gName 2) (tNot (tB (tCall (spAlike K n) [] E0 (tCons (tOp (rIx K) (tVar 0) (tVar 2)) (tCons (tOp (rIx K) (tVar 1) (tVar 2)) tNil))))) (tVar 2) [2] [some x, some y, none] H1 fun x H1 => rLst [] H1 fun y H2 => rEqU K x y H2 Q := by
        intro ds a b xs ys H1 e1 hxa hyb ha hb dx dy hlen hds
        subst hxa hyb
        have lx := dx.len
        have ly := dy.len
        refine x_lenA ha (x_lenA hb ?_)
        rw [lx, ly]
        walk_at "run"
        rw [if_neg (by simp)]
        refine x_lenA hb ⟨_, rfl, by omega, by omega, ?_⟩
        refine lcl_it walk_range (fun D i H' => H' D = some (.lst []) ∧ Ex H1 H') (fun D H' _ e h => ⟨h, e⟩) (fun _ _ _ _ _ => trivial) ?_ ?_
        · rintro D i v H2 H2' hD hi ⟨hD2, e2⟩ ⟨eH, rfl⟩
          subst eH
          have hi : i < ys.length := by simpa using hi
          obtain ⟨v1, hv1⟩ : ∃ v, xs[i]? = some v := ⟨xs[i], by simp⟩
          obtain ⟨v2, hv2⟩ : ∃ v, ys[i]? = some v := ⟨ys[i], by simp⟩
          obtain ⟨e, he, hd1⟩ := dx.get' hv1
          obtain ⟨e', he', hd2⟩ := dy.get' hv2
          obtain rfl : e = e' := by rw [he] at he'; exact Option.some.inj he'
          have hm := hds e (List.mem_of_getElem? he)
          have hz : (0 : Int) + i = (i : Int) := by omega
          walk_at "run"
          rw [hz]
          refine x_ixA (ha.ex e2) (atI_nat hv1) (x_ixA (hb.ex e2) (atI_nat hv2) ?_)
          obtain ⟨m, rfl⟩ : ∃ m, n = m + 1 := ⟨n - 1, by omega⟩
          refine ⟨_, _, e, rfl, Dp.ex e2 hd1, Dp.ex e2 hd2, hm.1, by omega, hm.2.2, fun H4 e4 => ⟨true, rfl, ?_⟩⟩
          rw [if_neg (by simp)]
          exact ⟨e4 _ _ hD2, e2.trans e4⟩
        · rintro D H2 hD ⟨hD2, e2⟩
          refine x_lst (by simp) fun p H3 np e3 hp => ?_
          refine x_eqD (.lst (SqL.of (e3 _ _ hD2)) .nil) (.lst (SqL.of hp) .nil) rfl rfl ?_
          exact k H3 (e1.trans (e2.trans e3))
      -- a scalar
      have e0 := eqv_same sh
      have eqd : ∀ (H1 : Hp) (Q1 : VK), Ex H H1 → Q1 (.bl true) H1 → rEqU K x y H1 Q1 := fun H1 Q1 e q => x_eqD (Dp.ex e hx) (Dp.ex e hy) sh sh (by rw [e0]; exact q)
      cases d with
      | dict _ => cases hx
      | list ds =>
        obtain ⟨a, xs, rfl, hxs, dx⟩ : ∃ a xs, x = .ref a ∧ SqL K H a xs ∧ DpAll K H xs ds := by
          cases hx with
          | lst h1 h2 => exact ⟨_, _, rfl, h1, h2⟩
        obtain ⟨b, ys, rfl, hys, dy⟩ : ∃ b ys, y = .ref b ∧ SqL K H b ys ∧ DpAll K H ys ds := by
          cases hy with
          | lst h1 h2 => exact ⟨_, _, rfl, h1, h2⟩
        obtain ⟨hlen, hsm⟩ : ds.length ≤ 1000000 ∧ ∀ d ∈ ds, SmD d := by
          cases sm with
          | lst h1 h2 => exact ⟨h1, h2⟩
        refine x_isD hy rfl ?_
        refine ⟨false, rfl, ?_⟩
        rw [if_neg Bool.false_ne_true]
        refine x_tup (by simp) fun p H1 np e1 hp => ?_
        refine x_isD2 (Dp.ex e1 hy) hp rfl ?_
        refine ⟨true, rfl, ?_⟩
        rw [if_pos rfl]
        refine x_tup (by simp) fun p2 H2 np2 e2 hp2 => ?_
        have e02 := e1.trans e2
        refine x_isD2 (Dp.ex e02 hx) hp2 rfl ?_
        refine ⟨true, rfl, ?_⟩
        rw [if_neg (by simp)]
        refine x_isD (Dp.ex e02 hx) rfl (x_isD (Dp.ex e02 hy) rfl ?_)
        walk_at "run"
        rw [if_neg (by simp)]
        refine seq ds a b xs ys H2 e02 rfl rfl (.inl (ex_l e02 hxs)) (.inl (ex_l e02 hys)) (DpAll.ex e02 dx) (DpAll.ex e02 dy) hlen fun e he => ?_
        have := shaped_l sh he
        exact ⟨this.1, by omega, hsm e he⟩
      | tuple ds =>
        obtain ⟨a, xs, rfl, hxs, dx⟩ := Dp.tup_inv hx
        obtain ⟨b, ys, rfl, hys, dy⟩ := Dp.tup_inv hy
        obtain ⟨hlen, hsm⟩ : ds.length ≤ 1000000 ∧ ∀ d ∈ ds, SmD d := by
          cases sm with
          | tup h1 h2 => exact ⟨h1, h2⟩
        refine x_isD hy rfl ?_
        refine ⟨false, rfl, ?_⟩
        rw [if_neg Bool.false_ne_true]
        refine x_tup (by simp) fun p H1 np e1 hp => ?_
        refine x_isD2 (Dp.ex e1 hy) hp rfl ?_
        refine ⟨true, rfl, ?_⟩
        rw [if_pos rfl]
        refine x_tup (by simp) fun p2 H2 np2 e2 hp2 => ?_
        have e02 := e1.trans e2
        refine x_isD2 (Dp.ex e02 hx) hp2 rfl ?_
        refine ⟨true, rfl, ?_⟩
        rw [if_neg (by simp)]
        refine x_isD (Dp.ex e02 hx) rfl (x_isD (Dp.ex e02 hy) rfl ?_)
        walk_at "run"
        rw [if_neg (by simp)]
        refine seq ds a b xs ys H2 e02 rfl rfl (.inr (ex_t e02 hxs)) (.inr (ex_t e02 hys)) (DpAll.ex e02 dx) (DpAll.ex e02 dy) hlen fun e he => ?_
        have := shaped_t sh he
        exact ⟨this.1, by omega, hsm e he⟩
      | none =>
        obtain rfl : y = .non := by cases hy; rfl
        refine x_isD hy rfl ⟨false, rfl, ?_⟩
        rw [if_neg Bool.false_ne_true]
        refine x_tup (by simp) fun p H1 np e1 hp => ?_
        refine x_isD2 (Dp.ex e1 hy) hp rfl ⟨false, rfl, ?_⟩
        rw [if_neg Bool.false_ne_true, if_pos rfl]
        refine eqd H1 _ e1 ⟨true, rfl, ?_⟩
        rw [if_pos rfl]
        refine x_isD (Dp.ex e1 hx) rfl (x_isD (Dp.ex e1 hy) rfl ?_)
        walk_at "run"
        exact k H1 e1
      | str z =>
        obtain rfl : y = .str z := by cases hy; rfl
        refine x_isD hy rfl ⟨false, rfl, ?_⟩
        rw [if_neg Bool.false_ne_true]
        refine x_tup (by simp) fun p H1 np e1 hp => ?_
        refine x_isD2 (Dp.ex e1 hy) hp rfl ⟨false, rfl, ?_⟩
        rw [if_neg Bool.false_ne_true, if_neg (by simp)]
        refine x_isD (Dp.ex e1 hy) rfl ⟨true, rfl, ?_⟩
        rw [if_pos rfl]
        refine eqd H1 _ e1 ⟨true, rfl, ?_⟩
        rw [if_pos rfl]
        refine x_isD (Dp.ex e1 hx) rfl (x_isD (Dp.ex e1 hy) rfl ?_)
        walk_at "run"
        exact k H1 e1
      | int z =>
        obtain rfl : y = .int z := by cases hy; rfl
        refine x_isD hy rfl ⟨false, rfl, ?_⟩
        rw [if_neg Bool.false_ne_true]
        refine x_tup (by simp) fun p H1 np e1 hp => ?_
        refine x_isD2 (Dp.ex e1 hy) hp rfl ⟨false, rfl, ?_⟩
        rw [if_neg Bool.false_ne_true, if_neg (by simp)]
        refine x_isD (Dp.ex e1 hy) rfl ⟨false, rfl, ?_⟩
        rw [if_neg Bool.false_ne_true]
        refine x_isD (Dp.ex e1 hx) rfl ⟨true, rfl, ?_⟩
        rw [if_pos rfl]
        refine x_isD (Dp.ex e1 hx) rfl (x_isD (Dp.ex e1 hy) rfl ?_)
        walk_at "run"
        exact eqd H1 _ e1 (k H1 e1)
      | bool z =>
        obtain rfl : y = .bl z := by cases hy; rfl
        refine x_isD hy rfl ⟨false, rfl, ?_⟩
        rw [if_neg Bool.false_ne_true]
        refine x_tup (by simp) fun p H1 np e1 hp => ?_
        refine x_isD2 (Dp.ex e1 hy) hp rfl ⟨false, rfl, ?_⟩
        rw [if_neg Bool.false_ne_true, if_neg (by simp)]
        refine x_isD (Dp.ex e1 hy) rfl ⟨false, rfl, ?_⟩
        rw [if_neg Bool.false_ne_true]
        refine x_isD (Dp.ex e1 hx) rfl ⟨true, rfl, ?_⟩
        rw [if_pos rfl]
        refine x_isD (Dp.ex e1 hx) rfl (x_isD (Dp.ex e1 hy) rfl ?_)
        walk_at "run"
        exact eqd H1 _ e1 (k H1 e1)
end
end K
set_option Elab.async false
set_option linter.all false
set_option maxRecDepth 100000
set_option maxHeartbeats 4000000
namespace K
open PySem PySem.Spec PyProof.Rows L2 Evl FB
local macro_rules | `(tactic| walk_at "run") => `(tactic| try simp only [tSeq, tAsg, tVar, tC, gName, L2.start, List.map_cons, List.map_nil, List.cons_append, List.nil_append, List.length_cons, List.length_nil, List.replicate, List.getElem?_cons_zero, List.getElem?_cons_succ, Option.some.injEq, exists_eq_left', List.set_cons_zero, List.set_cons_succ, V.ref.injEq, tRet, x_tLst, x_tTup, tCons, tCB, tNil, tOp, x_addI, x_mulI, x_rI, x_rI0, x_ltI, x_leI, x_ltS, x_leS, x_eqI, x_neI, x_eqS, x_eqB, x_neB, x_isiI, x_isiS, x_int, x_max, x_min, cxOf, tIfS, tNext, tTest, V.bl.injEq, decide_eq_true_eq, gSub, tAnd, tOr, tNot, tB, tDrop, tBM, x_tFor, iRng1, iList, iTup, x_tLc, tYes, tCall, tIf, tAndV, tOrV, tNotV, tChain, List.append_nil, tUn, if_true, wipe, true_and, x_never, iU, x_itS, kV])
/-- the program's constants -/
abbrev s_is_letters : Stmt := top 21
structure Ct (K : PySem.W.Frag) (mg : Str → Option Value) : Prop where
  g_MAX_LETTERS : ∃ t, mg "MAX_LETTERS" = some (.int 8 t)
  g_MAX_SEATS : ∃ t, mg "MAX_SEATS" = some (.int 8 t)
  g_MAX_STATIONS : ∃ t, mg "MAX_STATIONS" = some (.int 40 t)
  is_letters : ∃ f fd, Df K mg "is_letters" s_is_letters ["text"] f fd
def okc (c : Nat) : Bool := decide (97 ≤ c) && decide (c ≤ 122)
theorem one_lt (c d : Nat) : decide (([c] : List Nat) < [d]) = decide (c < d) := by
  have e : (([c] : List Nat) < [d]) ↔ c < d := by
    simp [List.cons_lt_cons_iff]
  simp [e]
/-- one to eight letters -/
def wordB (z : Str) : Bool := decide (1 ≤ z.length) && decide (z.length ≤ 8) && z.cps.toList.all okc
/-- a seat of the station st of n may lead to it -/
def placeB (st n : Int) : Key → Bool
  | .inl j => decide (st < j) && decide (j < n)
  | .inr z => wordB z
section
variable {P : Program} {w : World} {K : PySem.W.Frag} {mg : Str → Option Value} {base : Heap}
theorem sc_is_letters : FnScope ["text", "letter"] ["text"] (defScope s_is_letters) := ⟨rfl, rfl, rfl, by decide +kernel, rfl, by decide +kernel, by decide +kernel⟩
/-- letters a to z, at least one -/
def lettersB (z : Str) : Bool := decide (1 ≤ z.length) && z.cps.toList.all okc
def spLetters : Sp := fun vs H Q _ => ∃ z : Str, vs = [.str z] ∧ z.length ≤ 100000 ∧ ∀ H', Ex H H' → Q (.bl (lettersB z)) H'
theorem ok_is_letters {f : Addr} {fd : FuncData} (D : Df K mg "is_letters" s_is_letters ["text"] f fd) (T : Bt mg) : FnOk P w K mg base CX0 1 f fd ["text"] spLetters := by
  refine D.F.ok sc_is_letters (fun vs H Q E h => ?_) (fun cdv A outer s H vs Q E hr h => ?_)
  · obtain ⟨z, rfl, _⟩ := h
    rfl
  · obtain ⟨z, rfl, hl, k⟩ := h
    refine ⟨_, (pss_one (ps_ret (pe_and (pe_cmpR (op_gtU) (pe_callB (call_lenU (K := K)) (by rfl) T.b_len (by decide +kernel) (pa_cons (pv 0) pa_nil)) pe_int (nomark _)) (pe_one (pe_callB (call_allU (K := K) rfl) (by rfl) T.b_all (by decide +kernel) (pa_cons (pe_lc (own := [("letter", 1)]) (g := gName 1) (tt := tYes) rfl sc_is_letters.nd (pi_U (K := K) (pv 0)) (blkOk_by (own := [("letter", 1)]) (N := ["text", "letter"]) (sc := defScope s_is_letters) (by decide +kernel)) (fun _ _ _ _ _ => (pg_name (i := 1) sc_is_letters.nd rfl (Or.inl rfl))) (fun _ _ _ _ _ => pts_nil) (fun _ _ _ _ _ => (pe_chain (op_leU) (op_leU) pe_str (pv 1) pe_str))) pa_nil)))))), ?_⟩
    walk_at "run"
    refine x_lenS (by rw [sizeLine_eq]; omega) ?_
    walk_at "run"
    by_cases h1 : (0 : Int) < (z.length : Nat)
    · rw [if_pos h1]
      walk_at "run"
      have hz : z.cps.size = z.cps.toList.length := by simp
      have hzl : z.cps.size = z.length := rfl
      refine lcl_it walk_str (fun D i H' => H' D = some (.lst (((z.cps.toList.take i).map okc).map V.bl)) ∧ Ex H H') (fun D H' _ e h => ⟨h, e⟩) (fun _ _ _ _ _ => trivial) ?_ ?_
      · rintro D i v H2 H2' hD hi ⟨hD2, e2⟩ ⟨eH, c, hc, rfl⟩
        subst eH
        have hc' : z.cps.toList[i]? = some c := by simpa using hc
        walk_at "run"
        have ea : (Str.ofString "a").cps.toList = [97] := by decide +kernel
        have ez : (Str.ofString "z").cps.toList = [122] := by decide +kernel
        rw [ea]
        show if (!decide (([c] : List Nat) < [97])) = true then _ else _
        rw [one_lt]
        have push : ∀ b, b = okc c → Push D (fun H' => H' D = some (.lst (((z.cps.toList.take (i + 1)).map okc).map V.bl)) ∧ Ex H H') (.bl b) H2' := fun b hb => by
          refine x_push hD2 (by simp; omega) fun H5 e5 h5 => ⟨?_, fun x o hx => e5 _ _ (ne_of_none hx hD) (e2 _ _ hx)⟩
          rw [h5, List.take_add_one, hc', hb]
          simp
        by_cases g1 : c < 97
        · rw [if_neg (by simp [g1])]
          refine push _ ?_
          unfold okc
          simp; omega
        · rw [if_pos (by simp [g1])]
          rw [ez]
          show Push D _ (V.bl (!decide (([122] : List Nat) < [c]))) H2'
          rw [one_lt]
          refine push _ ?_
          unfold okc
          by_cases g2 : 122 < c
          · have : ¬ c ≤ 122 := by omega
            simp [g2, this]
          · have h1 : 97 ≤ c := by omega
            have h2 : c ≤ 122 := by omega
            simp [g2, h1, h2]
      · rintro D H2 hD ⟨hD2, e2⟩
        refine ⟨D, _, rfl, SqL.of hD2, ?_⟩
        have e : (((z.cps.toList.take z.cps.size).map okc).all id) = lettersB z := by
          rw [hz, List.take_length]
          unfold lettersB
          have a1 : decide (1 ≤ z.length) = true := by simp; omega
          rw [a1, List.all_map]
          rfl
        rw [e]
        exact k H2 e2
    · rw [if_neg h1]
      have q := k H (Ex.refl H)
      have e : lettersB z = false := by unfold lettersB; have : ¬ 1 ≤ z.length := by omega
                                        simp [this]
      rw [e] at q
      exact q
abbrev s_is_word : Stmt := top 22
theorem sc_is_word : FnScope ["text"] ["text"] (defScope s_is_word) := ⟨rfl, rfl, rfl, by decide +kernel, rfl, by decide +kernel, by decide +kernel⟩
def spWord : Sp := fun vs H Q _ => ∃ z : Str, vs = [.str z] ∧ z.length ≤ 1000 ∧ ∀ H', Ex H H' → Q (.bl (wordB z)) H'
theorem ok_is_word {f : Addr} {fd : FuncData} (D : Df K mg "is_word" s_is_word ["text"] f fd) (T : Bt mg) (C : Ct K mg) : FnOk P w K mg base CX0 2 f fd ["text"] spWord := by
  obtain ⟨f1, fd1, D_is_letters⟩ := C.is_letters
  have G_is_letters : FnOk P w K mg base CX0 1 f1 fd1 _ _ := ok_is_letters D_is_letters T
  refine D.F.ok sc_is_word (fun vs H Q E h => ?_) (fun cdv A outer s H vs Q E hr h => ?_)
  · obtain ⟨z, rfl, _⟩ := h
    rfl
  · obtain ⟨z, rfl, hl, k⟩ := h
    obtain ⟨tl, g_MAX_LETTERS⟩ := C.g_MAX_LETTERS
    refine ⟨_, (pss_one (ps_ret (pe_and (pe_cmpR (op_leU) (pe_callB (call_lenU (K := K)) (by rfl) T.b_len (by decide +kernel) (pa_cons (pv 0) pa_nil)) (pe_glob (v := .int 8) rfl g_MAX_LETTERS ⟨_, rfl⟩) (nomark _)) (pe_one (pe_call (G_is_letters) (hr.mono (by decide)) rfl D_is_letters.g D_is_letters.F.kp D_is_letters.b .nil pass0 (pa_cons (pv 0) pa_nil)))))), ?_⟩
    walk_at "run"
    refine x_lenS (by rw [sizeLine_eq]; omega) ?_
    walk_at "run"
    by_cases h8 : ((z.length : Nat) : Int) ≤ 8
    · rw [if_pos h8]
      refine ⟨z, rfl, by omega, fun H1 e1 => ?_⟩
      have e : lettersB z = wordB z := by
        unfold lettersB wordB
        have a2 : decide (z.length ≤ 8) = true := by simp; omega
        rw [a2, Bool.and_true]
      rw [e]
      exact k H1 e1
    · rw [if_neg h8]
      have q := k H (Ex.refl H)
      have e : wordB z = false := by unfold wordB; have : ¬ z.length ≤ 8 := by omega
                                     simp [this]
      rw [e] at q
      exact q
abbrev s_is_place : Stmt := top 23
theorem sc_is_place : FnScope ["place", "station", "stations"] ["place", "station", "stations"] (defScope s_is_place) := ⟨rfl, rfl, rfl, by decide +kernel, rfl, by decide +kernel, by decide +kernel⟩
def spPlaceQ : Sp := fun vs H Q _ => ∃ (k : Key) (st n : Int), vs = [kV k, .int st, .int n] ∧ (∀ z, k = .inr z → z.length ≤ 1000) ∧ ∀ H', Ex H H' → Q (.bl (placeB st n k)) H'
theorem ok_is_place {f f1 : Addr} {fd fd1 : FuncData} (D : Df K mg "is_place" s_is_place ["place", "station", "stations"] f fd) (T : Bt mg) (C : Ct K mg) (D_is_word : Df K mg "is_word" s_is_word ["text"] f1 fd1) :
    FnOk P w K mg base CX0 3 f fd ["place", "station", "stations"] spPlaceQ := by
  have G_is_word : FnOk P w K mg base CX0 2 f1 fd1 _ _ := ok_is_word D_is_word T C
  refine D.F.ok sc_is_place (fun vs H Q E h => ?_) (fun cdv A outer s H vs Q E hr h => ?_)
  · obtain ⟨k, st, n, rfl, _⟩ := h
    rfl
  · obtain ⟨key, st, n, rfl, hl, k⟩ := h
    refine ⟨_, (pss_cons (ps_if (pt_val (pe_callB (call_isiU (K := K)) (by rfl) T.b_isinstance (by decide +kernel) (pa_cons (pv 0) (pa_cons (pe_bltn (v := .ty "str") (by rfl) T.b_str (by decide +kernel) rfl) pa_nil)))) (pss_one (ps_ret (pe_call (G_is_word) (hr.mono (by decide)) rfl D_is_word.g D_is_word.F.kp D_is_word.b .nil pass0 (pa_cons (pv 0) pa_nil)))) pss_nil)
      (pss_one (ps_ret (pe_chain (op_ltU) (op_ltU) (pv 1) (pv 0) (pv 2))))), ?_⟩
    cases key with
    | inl j =>
      walk_at "run"
      rw [if_neg Bool.false_ne_true]
      by_cases h : st < j
      · rw [if_pos h]
        have e : placeB st n (.inl j) = decide (j < n) := by unfold placeB; simp [h]
        rw [← e]
        exact k H (Ex.refl H)
      · rw [if_neg h]
        have e : placeB st n (.inl j) = false := by unfold placeB; simp [h]
        rw [← e]
        exact k H (Ex.refl H)
    | inr z =>
      walk_at "run"
      exact ⟨z, rfl, hl z rfl, k⟩
end
end K
set_option Elab.async false
set_option linter.all false
set_option maxRecDepth 100000
set_option maxHeartbeats 4000000
namespace K
open PySem PySem.Spec PyProof.Rows L2 Evl FB
local macro_rules | `(tactic| walk_at "run") => `(tactic| try simp only [tSeq, tAsg, tVar, tC, gName, L2.start, List.map_cons, List.map_nil, List.cons_append, List.nil_append, List.length_cons, List.length_nil, List.replicate, List.getElem?_cons_zero, List.getElem?_cons_succ, Option.some.injEq, exists_eq_left', List.set_cons_zero, List.set_cons_succ, V.ref.injEq, tRet, x_tLst, x_tTup, tCons, tCB, tNil, tOp, x_addI, x_mulI, x_rI, x_rI0, x_ltI, x_leI, x_ltS, x_leS, x_eqI, x_neI, x_eqS, x_eqB, x_neB, x_isiI, x_isiS, x_int, x_max, x_min, cxOf, tIfS, tNext, tTest, V.bl.injEq, decide_eq_true_eq, gSub, tAnd, tOr, tNot, tB, tDrop, tBM, x_tFor, iRng1, iList, iTup, x_tLc, tYes, tCall, tIf, tAndV, tOrV, tNotV, tChain, List.append_nil, tUn, if_true, wipe, true_and, x_never, iU, x_itS, kV, Nat.reduceAdd, Nat.reduceSub, List.replicate_zero, x_rU, x_tMkO, iEnumT])
/-- a network without fault -/
structure ValidN (N : Net) : Prop where
  pos : 1 ≤ N.length
  le : N.length ≤ 40
  st : ∀ (k : Nat) s, N[k]? = some s → 1 ≤ s.length ∧ s.length ≤ 8 ∧ ∀ p ∈ s, placeB k N.length p = true ∧ ∀ z, p = .inr z → z.length ≤ 1000
theorem wordB_W4 {z : Str} (h : z ∈ W4) : wordB z = true ∧ z.length ≤ 8 := by
  unfold W4 at h
  simp only [List.mem_cons, List.not_mem_nil, or_false] at h
  rcases h with rfl | rfl | rfl | rfl <;> exact ⟨by decide +kernel, by decide +kernel⟩
theorem Drawn.valid {N : Net} {most : Int} (D : Drawn N most) (h : most ≤ 40) : ValidN N where
  pos := D.pos
  le := by have := D.le; omega
  st := fun k s hk => by
    obtain ⟨h1, h2, h3⟩ := D.st k s hk
    refine ⟨h1, h2, fun p hp => ?_⟩
    have := h3 p hp
    cases p with
    | inl j =>
      obtain ⟨a, b⟩ := this
      exact ⟨by unfold placeB; simp; omega, fun z e => by cases e⟩
    | inr z =>
      have := wordB_W4 this
      exact ⟨this.1, fun y e => by cases e; omega⟩
theorem ValidN.seat {N : Net} (h : ValidN N) {i : Nat} {s : List Key} (hs : N[i]? = some s) {j : Int} (hp : (.inl j : Key) ∈ s) : (i : Int) < j ∧ j < N.length := by
  have := ((h.st i s hs).2.2 _ hp).1
  unfold placeB at this
  simpa using this
section
variable {P : Program} {w : World} {K : PySem.W.Frag} {mg : Str → Option Value} {base : Heap}
def spCheckOk (K : PySem.W.Frag) : Sp := fun vs H Q _ => ∃ (v : V) (N : Net), vs = [v] ∧ NetAt K H v N ∧ ValidN N ∧ ∀ H', Ex H H' → Q .non H'
abbrev s_check_network : Stmt := top 24
theorem sc_check_network : FnScope ["network", "station", "seats", "seat", "place"] ["network"] (defScope s_check_network) := ⟨rfl, rfl, rfl, by decide +kernel, rfl, by decide +kernel, by decide +kernel⟩
theorem ok_check_network0 {f f1 f2 : Addr} {fd fd1 fd2 : FuncData} (D : Df K mg "check_network" s_check_network ["network"] f fd) (T : Bt mg) (Ck : Ct K mg) (D_is_word : Df K mg "is_word" s_is_word ["text"] f1 fd1)
    (D_is_place : Df K mg "is_place" s_is_place ["place", "station", "stations"] f2 fd2) :
    FnOk P w K mg base CX0 4 f fd ["network"] (spCheckOk K) := by
  have G_is_place : FnOk P w K mg base CX0 3 f2 fd2 _ _ := ok_is_place D_is_place T Ck D_is_word
  refine D.F.ok sc_check_network (fun vs H Q E h => ?_) (fun cdv A outer s H vs Q E hr h => ?_)
  · obtain ⟨v, N, rfl, _⟩ := h
    rfl
  · obtain ⟨v, N, rfl, hN, hV, k1⟩ := h
    have hu := hr.units
    obtain ⟨tML, g_MAX_STATIONS⟩ := Ck.g_MAX_STATIONS
    obtain ⟨tMS, g_MAX_SEATS⟩ := Ck.g_MAX_SEATS
    refine ⟨_, (pss_cons (ps_if (pt_cmpR (op_eqU (K := K) hu) (pe_callB (call_lenU (K := K)) (by rfl) T.b_len (by decide +kernel) (pa_cons (pv 0) pa_nil)) pe_int (nomark _)) pss_never pss_nil)
      (pss_one (ps_for PassesOwn.never rfl (pi_enumT (by rfl) T.b_enumerate (pa_cons (pv 0) pa_nil)) (pg_tup rfl (pgs_cons (pg_name (i := 1) sc_check_network.nd rfl (Or.inl rfl)) (pgs_cons (pg_name (i := 2) sc_check_network.nd rfl (Or.inl rfl)) pgs_nil))) (pss_cons (ps_if (PW.pt (pw_or (pt_cmpR (op_eqU (K := K) hu) (pv 1) (pe_glob (v := .int 40) rfl g_MAX_STATIONS ⟨_, rfl⟩) (nomark _)) (pw_or1 (pt_not (pt_chain (op_leU) (op_leU) pe_int (pe_callB (call_lenU (K := K)) (by rfl) T.b_len (by decide +kernel) (pa_cons (pv 2) pa_nil)) (pe_glob (v := .int 8) rfl g_MAX_SEATS ⟨_, rfl⟩)))))) pss_never pss_nil)
      (pss_one (ps_for PassesOwn.never rfl (pi_enumT (by rfl) T.b_enumerate (pa_cons (pv 2) pa_nil)) (pg_tup rfl (pgs_cons (pg_name (i := 3) sc_check_network.nd rfl (Or.inl rfl)) (pgs_cons (pg_name (i := 4) sc_check_network.nd rfl (Or.inl rfl)) pgs_nil))) (pss_one (ps_if (pt_not (pt_val (pe_call (G_is_place) (hr.mono (by decide)) rfl D_is_place.g D_is_place.F.kp D_is_place.b .nil pass0 (pa_cons (pv 4) (pa_cons (pv 1) (pa_cons (pe_callB (call_lenU (K := K)) (by rfl) T.b_len (by decide +kernel) (pa_cons (pv 0) pa_nil)) pa_nil)))))) pss_never pss_nil)))))))), ?_⟩
    walk_at "run"
    obtain ⟨a, ts, rfl, hT, hts⟩ := hN.at
    have hl : ts.length = N.length := by rw [hts.len, List.length_map]
    have hp := hV.pos
    have h40 := hV.le
    refine x_lenT hT ?_
    rw [hl]
    walk_at "run"
    rw [if_neg (by omega)]
    refine ⟨_, _, rfl, hT, loop_it walk_enumT (fun i σ H' => ∃ u1 u2 u3 u4, σ = [some (.ref a), u1, u2, u3, u4] ∧ Ex H H') ⟨_, _, _, _, rfl, Ex.refl H⟩
      (fun i σ H' _ ⟨_, _, _, _, _, e⟩ => ex_t e hT) ?_ ?_⟩
    · rintro i v σ H1 H2 hi ⟨u1, u2, u3, u4, rfl, e1⟩ ⟨T0, x, y, rfl, hT0, rfl, hx, hy⟩
      obtain rfl : V.int (i : Nat) = x := Option.some.inj hx
      have e2 : Ex H (upd H1 T0 (.tup [.int (i : Nat), y])) := e1.trans (Ex.new hT0)
      refine x_two (SqT.of upd_same) ?_
      generalize upd H1 T0 (.tup [.int (i : Nat), y]) = H2 at e2
      obtain ⟨sD, hs, hy2⟩ := hts.get' hy
      obtain ⟨s, hsN, rfl⟩ : ∃ s, N[i]? = some s ∧ stD s = sD := by simpa using hs
      obtain ⟨b, rfl, hB⟩ := StAt.at hy2
      obtain ⟨s1, s2, s3⟩ := hV.st i s hsN
      walk_at "run"
      rw [if_neg (by omega)]
      refine x_lenT (ex_t e2 hB) ?_
      rw [List.length_map]
      walk_at "run"
      rw [if_pos (by omega), if_neg (by simp; omega)]
      refine ⟨_, _, rfl, ex_t e2 hB, loop_it walk_enumT (fun j σ H' => ∃ u3 u4, σ = [some (.ref a), some (.int i), some (.ref b), u3, u4] ∧ Ex H H') ⟨_, _, rfl, e2⟩
        (fun j σ H' _ ⟨_, _, _, e⟩ => ex_t e hB) ?_ ?_⟩
      · rintro j v σ H3 H4 hj ⟨u3, u4, rfl, e3⟩ ⟨T1, x, y, rfl, hT1, rfl, hx, hy⟩
        obtain rfl : V.int (j : Nat) = x := Option.some.inj hx
        have e4 : Ex H (upd H3 T1 (.tup [.int (j : Nat), y])) := e3.trans (Ex.new hT1)
        refine x_two (SqT.of upd_same) ?_
        generalize upd H3 T1 (.tup [.int (j : Nat), y]) = H4 at e4
        obtain ⟨p, hp, rfl⟩ : ∃ p, s[j]? = some p ∧ kV p = y := by simpa using hy
        have hpm := s3 p (List.mem_of_getElem? hp)
        walk_at "run"
        refine x_lenT (ex_t e4 hT) ?_
        rw [hl]
        refine ⟨p, i, N.length, rfl, hpm.2, fun H5 e5 => ⟨_, rfl, ?_⟩⟩
        rw [if_neg (by rw [hpm.1]; decide)]
        exact ⟨_, _, rfl, e4.trans e5⟩
      · rintro σ H3 ⟨u3, u4, rfl, e3⟩
        exact ⟨_, _, _, _, rfl, e3⟩
    · rintro σ H1 ⟨u1, u2, u3, u4, rfl, e1⟩
      exact k1 H1 e1
end
/-- what is enough of a network for the counting -/
structure CntN (N : Net) : Prop where
  le : N.length ≤ 40
  st : ∀ s ∈ N, 1 ≤ s.length ∧ s.length ≤ 8
  fw : ∀ (i : Nat) s, N[i]? = some s → ∀ j : Int, (.inl j : Key) ∈ s → (i : Int) < j ∧ j < N.length
theorem ValidN.cnt {N : Net} (h : ValidN N) : CntN N :=
  ⟨h.le, fun s hs => by
    obtain ⟨k, hk⟩ := List.mem_iff_getElem?.mp hs
    obtain ⟨a, b, _⟩ := h.st k s hk
    exact ⟨a, b⟩, fun i s hs j hj => h.seat hs hj⟩
theorem seats_len {N : Net} (h : CntN N) {k : Nat} (hk : k ≤ N.length) : (seatsOf N k).length ≤ 320 := by
  have := seatsOf_len (N := N) (fun s hs => (h.st s hs).2) k
  have := h.le
  omega
end K
set_option Elab.async false
set_option linter.all false
set_option maxRecDepth 100000
set_option maxHeartbeats 4000000
namespace K
open PySem PySem.Spec PyProof.Rows L2 Evl FB
local macro_rules | `(tactic| walk_at "run") => `(tactic| try simp only [tSeq, tAsg, tVar, tC, gName, L2.start, List.map_cons, List.map_nil, List.cons_append, List.nil_append, List.length_cons, List.length_nil, List.replicate, List.getElem?_cons_zero, List.getElem?_cons_succ, Option.some.injEq, exists_eq_left', List.set_cons_zero, List.set_cons_succ, V.ref.injEq, tRet, x_tLst, x_tTup, tCons, tCB, tNil, tOp, x_addI, x_mulI, x_rI, x_rI0, x_ltI, x_leI, x_ltS, x_leS, x_eqI, x_neI, x_eqS, x_eqB, x_neB, x_isiI, x_isiS, x_int, x_max, x_min, cxOf, tIfS, tNext, tTest, V.bl.injEq, decide_eq_true_eq, gSub, tAnd, tOr, tNot, tB, tDrop, tBM, x_tFor, iRng1, iList, iTup, x_tLc, tYes, tCall, tIf, tAndV, tOrV, tNotV, tChain, List.append_nil, tUn, if_true, wipe, true_and, x_never, iU, x_itS, kV, Nat.reduceAdd, Nat.reduceSub, List.replicate_zero, x_rU, x_tMkO, iEnumT, x_tDc, x_tDGet, x_tDGet2, x_sDPut, x_tDSetd, x_tDNewK, x_iItems, x_iZip, x_tSAddK])
section
variable {P : Program} {w : World} {K : PySem.W.Frag} {mg : Str → Option Value} {base : Heap}
abbrev s_check_passengers : Stmt := top 27
theorem sc_check_passengers : FnScope ["next_passenger", "queues", "waiting", "queue", "passenger"] ["next_passenger", "queues"] (defScope s_check_passengers) := ⟨rfl, rfl, rfl, by decide +kernel, rfl, by decide +kernel, by decide +kernel⟩
def spPass (K : PySem.W.Frag) : Sp := fun vs H Q _ => ∃ (v : V) (p : Int) (qs : List (List Int)), vs = [.int p, v] ∧ Dp K H v (qsD qs) ∧ qs.flatten.Nodup ∧ (∀ x ∈ qs.flatten, 1 ≤ x ∧ x < p) ∧ qs.flatten.length ≤ 1000 ∧ ∀ H', Ex H H' → Q .non H'
theorem ok_check_passengers {f : Addr} {fd : FuncData} (D : Df K mg "check_passengers" s_check_passengers ["next_passenger", "queues"] f fd) (T : Bt mg) : FnOk P w K mg base CX0 1 f fd ["next_passenger", "queues"] (spPass K) := by
  refine D.F.ok sc_check_passengers (fun vs H Q E h => ?_) (fun cdv A outer s H vs Q E hr h => ?_)
  · obtain ⟨v, p, qs, rfl, _⟩ := h
    rfl
  · obtain ⟨v, p, qs, rfl, hv, nd, rg, hl, q⟩ := h
    have hu := hr.units
    refine ⟨_, (pss_cons (ps_set (i := 2) sc_check_passengers.nd rfl (Or.inl rfl) (pe_callTy0 cr_set0K (by rfl) T.b_set (by decide +kernel)))
      (pss_one (ps_for PassesOwn.never rfl (pi_U (K := K) (pv 1)) (pg_name (i := 3) sc_check_passengers.nd rfl (Or.inl rfl)) (pss_one (ps_for PassesOwn.never rfl (pi_U (K := K) (pv 3)) (pg_name (i := 4) sc_check_passengers.nd rfl (Or.inl rfl)) (pss_cons (ps_if (pt_not (pt_chain (op_leU) (op_ltU) pe_int (pv 4) (pv 0))) pss_never pss_nil)
      (pss_cons (ps_if (pt_cmpR ((op_inU (K := K) (P := P) (w := w))) (pv 4) (pv 2) (by rfl)) pss_never pss_nil)
      (pss_one (ps_expr (pe_saddK (pv 2) (pa_cons (pv 4) pa_nil))))))))))), ?_⟩
    walk_at "run"
    obtain ⟨a, ts, rfl, hT, hts⟩ := qs_at hv
    have hlt : ts.length = qs.length := by rw [hts.len, List.length_map]
    refine x_set0 fun S H1 nS e1 hS => ?_
    refine x_itT (ex_t e1 hT) (loop_it walk_tup (fun i σ H' => ∃ u3 u4 W n, σ = [some (.int p), some (.ref a), some (.ref S), u3, u4] ∧ Ex H H' ∧ H' S = some (SetK P w S W n) ∧ n ≤ (qs.take i).flatten.length ∧ ∀ x : Int, W (.inl x) = true ↔ x ∈ (qs.take i).flatten) ⟨_, _, _, _, rfl, e1, hS, by simp, by simp⟩
      (fun i σ H' _ ⟨_, _, _, _, _, e, _⟩ => ex_t e hT) ?_ ?_)
    · rintro i x σ H2 H2' hi ⟨u3, u4, W, n, rfl, e2, hS2, hn, hW⟩ ⟨eH, hx⟩
      subst eH
      obtain ⟨d, hd, hd2⟩ := hts.get' hx
      obtain ⟨qi, hq, rfl⟩ : ∃ q, qs[i]? = some q ∧ qD q = d := by simpa using hd
      obtain ⟨b, rfl, hb⟩ := q_at hd2
      have htk : (qs.take (i + 1)).flatten = (qs.take i).flatten ++ qi := by
        rw [List.take_add_one, hq, List.flatten_append]; simp
      have hpre : ((qs.take i).flatten ++ qi) <+: qs.flatten := by
        rw [← htk]
        have : qs.flatten = (qs.take (i + 1)).flatten ++ (qs.drop (i + 1)).flatten := by rw [← List.flatten_append, List.take_append_drop]
        rw [this]; exact List.prefix_append _ _
      have hlen := hpre.length_le
      rw [List.length_append] at hlen
      have nd2 : ((qs.take i).flatten ++ qi).Nodup := nd.sublist hpre.sublist
      walk_at "run"
      refine x_itT (ex_t e2 hb) (loop_it walk_tup (fun j σ H' => ∃ u4 W n, σ = [some (.int p), some (.ref a), some (.ref S), some (.ref b), u4] ∧ Ex H H' ∧ H' S = some (SetK P w S W n) ∧ n ≤ ((qs.take i).flatten ++ qi.take j).length ∧ ∀ x : Int, W (.inl x) = true ↔ x ∈ (qs.take i).flatten ++ qi.take j) ⟨_, _, _, rfl, e2, hS2, by simpa using hn, by simpa using hW⟩
        (fun i σ H' _ ⟨_, _, _, _, e, _⟩ => ex_t e hb) ?_ ?_)
      · rintro j y σ H3 H3' hj ⟨u4, W, n, rfl, e3, hS3, hn, hW⟩ ⟨eH, hy⟩
        subst eH
        obtain ⟨z, hz, rfl⟩ : ∃ z, qi[j]? = some z ∧ V.int z = y := by simpa using hy
        have hj2 : j < qi.length := (List.getElem?_eq_some_iff.mp hz).1
        have hzm : z ∈ qs.flatten := hpre.subset (List.mem_append_right _ (List.mem_of_getElem? hz))
        obtain ⟨z1, z2⟩ := rg z hzm
        have htj : qi.take (j + 1) = qi.take j ++ [z] := by rw [List.take_add_one, hz]; rfl
        have hnot : ¬ z ∈ (qs.take i).flatten ++ qi.take j := by
          have hp2 : ((qs.take i).flatten ++ qi.take j ++ [z]) <+: ((qs.take i).flatten ++ qi) := by
            rw [List.append_assoc, ← htj]
            exact List.prefix_append_right_inj _ |>.mpr (List.take_prefix _ _)
          have nd3 := nd2.sublist hp2.sublist
          rw [List.nodup_append] at nd3
          intro hm
          exact nd3.2.2 z hm z (by simp) rfl
        have hWz : W (.inl z) = false := by
          cases e : W (.inl z) with
          | false => rfl
          | true => exact absurd ((hW z).mp e) hnot
        walk_at "run"
        rw [if_pos (by omega)]
        rw [if_neg (by simp; omega)]
        refine x_inS (k := .inl z) hS3 ?_
        rw [hWz]
        refine ⟨_, rfl, ?_⟩
        rw [if_neg Bool.false_ne_true]
        have hln : ((qs.take i).flatten ++ qi.take j).length ≤ 1000 := by
          rw [List.length_append, List.length_take]; omega
        refine ⟨⟨_, _, _, rfl, hS3⟩, x_sadd (k := .inl z) hS3 (by omega) fun H4 m e4 hm h4 => ?_⟩
        refine ⟨_, _, _, rfl, fun x o hx => e4 _ _ (ne_of_none hx nS) (e3 _ _ hx), h4, ?_, fun x => ?_⟩
        · rw [htj, ← List.append_assoc, List.length_append]
          simp only [List.length_cons, List.length_nil]
          omega
        · rw [htj, ← List.append_assoc, List.mem_append, ← hW x]
          simp
      · rintro σ H3 ⟨u4, W, n, rfl, e3, hS3, hn, hW⟩
        have hlq : qi.take ((qi.map V.int).length) = qi := by rw [List.length_map, List.take_length]
        rw [hlq, ← htk] at hn hW
        exact ⟨_, _, _, _, rfl, e3, hS3, hn, hW⟩
    · rintro σ H2 ⟨u3, u4, W, n, rfl, e2, _⟩
      exact q H2 e2
end
end K
set_option Elab.async false
set_option linter.all false
set_option maxRecDepth 100000
set_option maxHeartbeats 4000000
namespace K
open PySem PySem.Spec PyProof.Rows L2 Evl FB
local macro_rules | `(tactic| walk_at "run") => `(tactic| try simp only [tSeq, tAsg, tVar, tC, gName, L2.start, List.map_cons, List.map_nil, List.cons_append, List.nil_append, List.length_cons, List.length_nil, List.replicate, List.getElem?_cons_zero, List.getElem?_cons_succ, Option.some.injEq, exists_eq_left', List.set_cons_zero, List.set_cons_succ, V.ref.injEq, tRet, x_tLst, x_tTup, tCons, tCB, tNil, tOp, x_addI, x_mulI, x_rI, x_rI0, x_ltI, x_leI, x_ltS, x_leS, x_eqI, x_neI, x_eqS, x_eqB, x_neB, x_isiI, x_isiS, x_int, x_max, x_min, cxOf, tIfS, tNext, tTest, V.bl.injEq, decide_eq_true_eq, gSub, tAnd, tOr, tNot, tB, tDrop, tBM, x_tFor, iRng1, iList, iTup, x_tLc, tYes, tCall, tIf, tAndV, tOrV, tNotV, tChain, List.append_nil, tUn, if_true, wipe, true_and, x_never, iU, x_itS, kV, Nat.reduceAdd, Nat.reduceSub, List.replicate_zero, x_rU, x_tMkO, iEnumT, x_tDc, x_tDGet, x_tDGet2, x_sDPut, x_tDSetd, x_tDNewK, x_iItems, x_iZip, x_tSAddK])
theorem flat_len : ∀ {qs : List (List Int)} {N : Net}, qs.length = N.length → (∀ (k : Nat) q s, qs[k]? = some q → N[k]? = some s → q.length < s.length) → (∀ s ∈ N, s.length ≤ 8) → qs.flatten.length ≤ 8 * N.length
  | [], _, _, _, _ => by simp
  | q :: qs, [], h, _, _ => by simp at h
  | q :: qs, s :: N, h, hlt, h8 => by
    have h1 := hlt 0 q s rfl rfl
    have h2 := h8 s (List.mem_cons_self ..)
    have h3 := flat_len (qs := qs) (N := N) (by simpa using h) (fun k q' s' a b => hlt (k + 1) q' s' (by simpa using a) (by simpa using b)) (fun s hs => h8 s (List.mem_cons_of_mem _ hs))
    rw [List.flatten_cons, List.length_append, List.length_cons]
    omega
section
variable {P : Program} {w : World} {K : PySem.W.Frag} {mg : Str → Option Value} {base : Heap}
abbrev s_check_state : Stmt := top 26
theorem sc_check_state : FnScope ["network", "state", "next_passenger", "queues", "seats", "queue"] ["network", "state"] (defScope s_check_state) := ⟨rfl, rfl, rfl, by decide +kernel, rfl, by decide +kernel, by decide +kernel⟩
def spState (K : PySem.W.Frag) : Sp := fun vs H Q _ => ∃ (v u : V) (N : Net) (p : Int) (qs : List (List Int)), vs = [v, u] ∧ NetAt K H v N ∧ ValidN N ∧ Dp K H u (stateD p qs) ∧ StOk N p qs ∧ ∀ H', Ex H H' → Q .non H'
theorem ok_check_state {f f1 f2 f3 f4 : Addr} {fd fd1 fd2 fd3 fd4 : FuncData} (D : Df K mg "check_state" s_check_state ["network", "state"] f fd) (T : Bt mg) (Ck : Ct K mg)
    (D_check_network : Df K mg "check_network" s_check_network ["network"] f1 fd1) (D_check_passengers : Df K mg "check_passengers" s_check_passengers ["next_passenger", "queues"] f2 fd2) (D_is_word : Df K mg "is_word" s_is_word ["text"] f3 fd3)
    (D_is_place : Df K mg "is_place" s_is_place ["place", "station", "stations"] f4 fd4) : FnOk P w K mg base CX0 5 f fd ["network", "state"] (spState K) := by
  have G_check_network : FnOk P w K mg base CX0 4 f1 fd1 _ _ := ok_check_network0 D_check_network T Ck D_is_word D_is_place
  have G_check_passengers : FnOk P w K mg base CX0 1 f2 fd2 _ _ := ok_check_passengers D_check_passengers T
  refine D.F.ok sc_check_state (fun vs H Q E h => ?_) (fun cdv A outer s H vs Q E hr h => ?_)
  · obtain ⟨v, u, N, p, qs, rfl, _⟩ := h
    rfl
  · obtain ⟨v, u, N, p, qs, rfl, hN, hV, hu2, hO, q⟩ := h
    have hu := hr.units
    refine ⟨_, (pss_cons (ps_expr (pe_call (G_check_network) (hr.mono (by decide)) rfl D_check_network.g D_check_network.F.kp D_check_network.b .nil pass0 (pa_cons (pv 0) pa_nil)))
      (pss_cons (ps_asg (pv 1) (pg_tup rfl (pgs_cons (pg_name (i := 2) sc_check_state.nd rfl (Or.inl rfl)) (pgs_cons (pg_name (i := 3) sc_check_state.nd rfl (Or.inl rfl)) pgs_nil))))
      (pss_cons (ps_if (pt_cmpR (op_ltU) (pv 2) pe_int (nomark _)) pss_never pss_nil)
      (pss_cons (ps_if (pt_cmpR (op_neU (K := K) hu) (pe_callB (call_lenU (K := K)) (by rfl) T.b_len (by decide +kernel) (pa_cons (pv 3) pa_nil)) (pe_callB (call_lenU (K := K)) (by rfl) T.b_len (by decide +kernel) (pa_cons (pv 0) pa_nil)) (nomark _)) pss_never pss_nil)
      (pss_cons (ps_for PassesOwn.never rfl (RZ.pi_zipA (by rfl) T.b_zip (pa_cons (pv 0) (pa_cons (pv 3) pa_nil))) (pg_tup rfl (pgs_cons (pg_name (i := 4) sc_check_state.nd rfl (Or.inl rfl)) (pgs_cons (pg_name (i := 5) sc_check_state.nd rfl (Or.inl rfl)) pgs_nil))) (pss_one (ps_if (pt_cmpR (op_geU) (pe_callB (call_lenU (K := K)) (by rfl) T.b_len (by decide +kernel) (pa_cons (pv 5) pa_nil)) (pe_callB (call_lenU (K := K)) (by rfl) T.b_len (by decide +kernel) (pa_cons (pv 4) pa_nil)) (nomark _)) pss_never pss_nil)))
      (pss_one (ps_expr (pe_call (G_check_passengers) (hr.mono (by decide)) rfl D_check_passengers.g D_check_passengers.F.kp D_check_passengers.b .nil pass0 (pa_cons (pv 2) (pa_cons (pv 3) pa_nil)))))))))), ?_⟩
    walk_at "run"
    refine ⟨v, N, rfl, hN, hV, fun H1 e1 => ?_⟩
    obtain ⟨a, y, rfl, hS, hy⟩ := state_at hu2
    refine x_two (ex_t e1 hS) ?_
    obtain ⟨b, ts, rfl, hT, hts⟩ := qs_at hy
    obtain ⟨c, us, rfl, hU, hus⟩ := hN.at
    have hlt : ts.length = qs.length := by rw [hts.len, List.length_map]
    have hlu : us.length = N.length := by rw [hus.len, List.length_map]
    have hp := hO.pos
    have hql := hO.len
    walk_at "run"
    rw [if_neg (by omega)]
    refine x_lenT (ex_t e1 hT) (x_lenT (ex_t e1 hU) ?_)
    rw [hlt, hlu]
    walk_at "run"
    rw [if_neg (by simp; omega)]
    refine x_zipT (ex_t e1 hU) (ex_t e1 hT) ?_
    refine loop_it (walk_zipT (by omega)) (fun i σ H' => ∃ u4 u5, σ = [some (.ref c), some (.ref a), some (.int p), some (.ref b), u4, u5] ∧ Ex H H') ⟨_, _, rfl, e1⟩ (fun i σ H' _ ⟨_, _, _, e⟩ => ⟨ex_t e hU, ex_t e hT⟩) ?_ ?_
    · rintro i v σ H2 H3 hi ⟨u4, u5, rfl, e2⟩ ⟨T0, x, y, rfl, hT0, rfl, hx, hy⟩
      have e3 : Ex H (upd H2 T0 (.tup [x, y])) := e2.trans (Ex.new hT0)
      refine x_two (SqT.of upd_same) ?_
      generalize upd H2 T0 (.tup [x, y]) = H3 at e3
      obtain ⟨sD, hs, hx2⟩ := hus.get' hx
      obtain ⟨s, hsN, rfl⟩ : ∃ s, N[i]? = some s ∧ stD s = sD := by simpa using hs
      obtain ⟨b1, rfl, hb1⟩ := StAt.at hx2
      obtain ⟨qD', hq, hy2⟩ := hts.get' hy
      obtain ⟨qi, hqi, rfl⟩ : ∃ s, qs[i]? = some s ∧ qD s = qD' := by simpa using hq
      obtain ⟨b2, rfl, hb2⟩ := q_at hy2
      have := hO.lt i qi s hqi hsN
      walk_at "run"
      refine x_lenT (ex_t e3 hb2) (x_lenT (ex_t e3 hb1) ?_)
      rw [List.length_map, List.length_map]
      walk_at "run"
      rw [if_neg (by omega)]
      exact ⟨_, _, rfl, e3⟩
    · rintro σ H2 ⟨u4, u5, rfl, e2⟩
      walk_at "run"
      have hfl := flat_len hql hO.lt (fun s hs => (hV.cnt.st s hs).2)
      have h40 := hV.le
      exact ⟨_, p, qs, rfl, Dp.ex e2 hy, hO.nd, hO.rng, by omega, fun H3 e3 => q H3 (e2.trans e3)⟩
end
end K
set_option Elab.async false
set_option linter.all false
set_option maxRecDepth 100000
set_option maxHeartbeats 4000000
namespace K
open PySem PySem.Spec PyProof.Rows L2 Evl FB
local macro_rules | `(tactic| walk_at "run") => `(tactic| try simp only [tSeq, tAsg, tVar, tC, gName, L2.start, List.map_cons, List.map_nil, List.cons_append, List.nil_append, List.length_cons, List.length_nil, List.replicate, List.getElem?_cons_zero, List.getElem?_cons_succ, Option.some.injEq, exists_eq_left', List.set_cons_zero, List.set_cons_succ, V.ref.injEq, tRet, x_tLst, x_tTup, tCons, tCB, tNil, tOp, x_addI, x_mulI, x_rI, x_rI0, x_ltI, x_leI, x_ltS, x_leS, x_eqI, x_neI, x_eqS, x_eqB, x_neB, x_isiI, x_isiS, x_int, x_max, x_min, cxOf, tIfS, tNext, tTest, V.bl.injEq, decide_eq_true_eq, gSub, tAnd, tOr, tNot, tB, tDrop, tBM, x_tFor, iRng1, iList, iTup, x_tLc, tYes, tCall, tIf, tAndV, tOrV, tNotV, tChain, List.append_nil, tUn, if_true, wipe, true_and, x_never, iU, x_itS, kV, Nat.reduceAdd, Nat.reduceSub, List.replicate_zero, x_rU, x_tMkO, iEnumT, x_tDc, x_tDGet, x_tDGet2, x_sDPut, x_tDSetd, x_tDNewK, x_iItems, x_iZip, x_tSAddK, x_tLockV, x_tTupRg, x_tRg2, tPar, tPar3, tBM0])
/-- an own error class without fields -/
structure Rz (K : PySem.W.Frag) (mg : Str → Option Value) (x : Str) (C : Addr) : Prop where
  xP : PySem.W.excIn K C [.type "ValueError", .type "Exception", .type "BaseException", .type "object"] "ValueError.__new__" = true
  g : mg x = some (.ref C)
  kP : PySem.W.keepIn K (.ref C) = true
  bP : PySem.W.subIn K (.ref C) (.type "BaseException") = some true
  tP : PySem.W.typeIn K (.ref C) = some (.type "type")
section
variable {P : Program} {w : World} {K : PySem.W.Frag} {mg : Str → Option Value} {base : Heap} {α : Type} [Inhabited α] {pd : α → PyData}
abbrev s_list_finished : Stmt := top 28
theorem sc_list_finished : FnScope ["events", "place", "passengers"] ["events"] (defScope s_list_finished) := ⟨rfl, rfl, rfl, by decide +kernel, rfl, by decide +kernel, by decide +kernel⟩
/-- who finishes, as data -/
def fpA (pd : α → PyData) (p : Str × α) : PyData := .tuple [.str p.1, pd p.2]
theorem fpA_t (hp : PD pd) (p : Str × α) : TupD (fpA pd p) := .tup fun d hd => by
  simp only [List.mem_cons, List.not_mem_nil, or_false] at hd
  rcases hd with rfl | rfl
  · exact .str _
  · exact hp.t _
def spListF (K : PySem.W.Frag) (pd : α → PyData) : Sp := fun vs H Q _ => ∃ (Ea : Addr) (es : EvsA α), vs = [.ref Ea] ∧ EvAt K H Ea pd es ∧ EvOk es ∧ es.length ≤ 1000000 ∧ ∀ H' l, Ex H H' → H l = none → LsAt K H' l ((finOf es).map (fpA pd)) → Q (.ref l) H'
theorem ok_list_finished (hp : PD pd) {f : Addr} {fd : FuncData} (D : Df K mg "list_finished" s_list_finished ["events"] f fd) (T : Bt mg) : FnOk P w K mg base CX0 1 f fd ["events"] (spListF K pd) := by
  refine D.F.ok sc_list_finished (fun vs H Q E h => ?_) (fun cdv A outer s H vs Q E hr h => ?_)
  · obtain ⟨Ea, es, rfl, _⟩ := h
    rfl
  · obtain ⟨Ea, es, rfl, hE, hok, hlen, q⟩ := h
    refine ⟨_, (pss_one (ps_ret (pe_lc (own := [("place", 1), ("passengers", 2)]) (g := (gTup K 2 (gCons (gName 1) (gCons (gName 2) gNil)))) (tt := _) rfl sc_list_finished.nd (pi_U (K := K) (pv 0)) (blkOk_by (own := [("place", 1), ("passengers", 2)]) (N := ["events", "place", "passengers"]) (sc := defScope s_list_finished) (by decide +kernel)) (fun _ _ _ _ _ => (pg_tup rfl (pgs_cons (pg_name (i := 1) sc_list_finished.nd rfl (Or.inl rfl)) (pgs_cons (pg_name (i := 2) sc_list_finished.nd rfl (Or.inl rfl)) pgs_nil)))) (fun _ _ _ _ _ => (pts_one (pt_val (pe_callB (call_isiU (K := K)) (by rfl) T.b_isinstance (by decide +kernel) (pa_cons (pv 1) (pa_cons (pe_bltn (v := .ty "str") (by rfl) T.b_str (by decide +kernel) rfl) pa_nil)))))) (fun _ _ _ _ _ => (pe_tup (pa_cons (pv 1) (pa_cons (pe_ix (ix_U (K := K)) (pv 2) pe_int (fun _ _ => rfl)) pa_nil))))))), ?_⟩
    walk_at "run"
    obtain ⟨ts, hEa, hts⟩ := hE.ex
    have htl : ts.length = es.length := by rw [hts.len, List.length_map]
    refine x_itL (SqL.of hEa) (lcl_it walk_list (fun D i H' => Ex H H' ∧ LsAt K H' D ((finOf (es.take i)).map (fpA pd)) ∧ (finOf (es.take i)).length ≤ i) (fun D H' hD e h => ⟨e, ⟨⟨[], h, .nil⟩⟩, by simp [finOf]⟩) (fun D i H' _ h => SqL.of (h.1 _ _ hEa)) ?_ ?_)
    · rintro D i v H1 H1' hD hi ⟨e1, hL, hn⟩ ⟨eH, hx⟩
      subst eH
      obtain ⟨d, hd, hv⟩ := hts.get' hx
      obtain ⟨e, he, rfl⟩ : ∃ e, es[i]? = some e ∧ evA pd e = d := by simpa using hd
      obtain ⟨t, ys, rfl, hT, hys⟩ := Dp.tup_inv (Dp.ex e1 hv)
      have hl2 : ys.length = 2 := hys.len
      obtain ⟨ky, py, rfl⟩ : ∃ x y, ys = [x, y] := match ys, hl2 with
        | [x, y], _ => ⟨x, y, rfl⟩
      obtain ⟨hk, hpy⟩ : Dp K H1' ky (keyD e.1) ∧ Dp K H1' py (qA pd e.2) := by
        cases hys with
        | cons a b => cases b with
          | cons c _ => exact ⟨a, c⟩
      obtain rfl := dp_key hk
      refine x_two hT ?_
      have htk : es.take (i + 1) = es.take i ++ [e] := by rw [List.take_add_one, he]; rfl
      obtain ⟨k, ps⟩ := e
      cases k with
      | inl j =>
        walk_at "run"
        rw [htk, finOf_append]
        exact ⟨e1, by simpa [finOf] using hL, by simpa [finOf] using (by omega : (finOf (es.take i)).length ≤ i + 1)⟩
      | inr z =>
        walk_at "run"
        have hne : ps ≠ [] := hok _ (List.mem_of_getElem? he) z rfl
        obtain ⟨p, pr, rfl⟩ : ∃ p pr, ps = p :: pr := List.exists_cons_of_ne_nil hne
        obtain ⟨b, us, rfl, hU, hus⟩ := Dp.tup_inv hpy
        obtain ⟨u, hu0, hud⟩ := hus.get (show ((p :: pr).map pd)[0]? = some (pd p) from rfl)
        refine x_ixT hU (atI_nat (j := 0) hu0) (x_tup (by simp) fun t2 H2 n2 e2 h2 => ?_)
        obtain ⟨ls, hls, hlsd⟩ := hL.ex
        have hll : ls.length = (finOf (es.take i)).length := by rw [hlsd.len, List.length_map]
        refine x_push (e2 _ _ hls) (by omega) fun H3 e3 h3 => ?_
        have hDt : D ≠ t2 := ne_of_none hls n2
        have e13 : Ex H H3 := fun x o h => e3 _ _ (ne_of_none h hD) (e2 _ _ (e1 _ _ h))
        have t13 : TX H1' H3 := (TX.of e2).trans (TX.but (e2 _ _ hls) e3)
        refine ⟨e13, ⟨⟨_, h3, ?_⟩⟩, ?_⟩
        · rw [htk, finOf_append, List.map_append]
          refine DpAll.append (DpAll.tx t13 hlsd fun d hd => ?_) (.cons (.tup (SqT.of (e3 _ _ hDt.symm h2)) (.cons (.str z) (.cons (Dp.tx t13 hud (hp.t p)) .nil))) .nil)
          obtain ⟨y, _, rfl⟩ := List.mem_map.mp hd
          exact fpA_t hp y
        · rw [htk, finOf_append, List.length_append]
          show _ + 1 ≤ _
          omega
    · rintro D H1 hD ⟨e1, hL, _⟩
      rw [htl, List.take_length] at hL
      exact q H1 D e1 hD hL
end
end K
set_option Elab.async false
set_option linter.all false
set_option maxRecDepth 100000
set_option maxHeartbeats 4000000
namespace K
open PySem PySem.Spec PyProof.Rows L2 Evl FB
local macro_rules | `(tactic| walk_at "run") => `(tactic| try simp only [tSeq, tAsg, tVar, tC, gName, L2.start, List.map_cons, List.map_nil, List.cons_append, List.nil_append, List.length_cons, List.length_nil, List.replicate, List.getElem?_cons_zero, List.getElem?_cons_succ, Option.some.injEq, exists_eq_left', List.set_cons_zero, List.set_cons_succ, V.ref.injEq, tRet, x_tLst, x_tTup, tCons, tCB, tNil, tOp, x_addI, x_mulI, x_rI, x_rI0, x_ltI, x_leI, x_ltS, x_leS, x_eqI, x_neI, x_eqS, x_eqB, x_neB, x_isiI, x_isiS, x_int, x_max, x_min, cxOf, tIfS, tNext, tTest, V.bl.injEq, decide_eq_true_eq, gSub, tAnd, tOr, tNot, tB, tDrop, tBM, x_tFor, iRng1, iList, iTup, x_tLc, tYes, tCall, tIf, tAndV, tOrV, tNotV, tChain, List.append_nil, tUn, if_true, wipe, true_and, x_never, iU, x_itS, kV, Nat.reduceAdd, Nat.reduceSub, List.replicate_zero, x_rU, x_tMkO, iEnumT])
/-- an own error class with an __init__ of its own, at C; its __init__ at fI -/
structure Er (K : PySem.W.Frag) (mg : Str → Option Value) (x : Str) (C fI : Addr) : Prop where
  O : OexC K C
  g : mg x = some (.ref C)
  iC : PySem.W.findIn K (.ref C) "__init__" = some (some (.ref fI))
  tI : PySem.W.typeIn K (.ref fI) = some (.type "function")
/-- the first seat from the j-th on that leads nowhere -/
def seatBad (k n : Int) : Nat → List Key → Option Nat
  | _, [] => none
  | j, p :: r => if placeB k n p = true then seatBad k n (j + 1) r else some j
/-- what is wrong at the station k -/
def stBad (n : Int) (k : Nat) (s : List Key) : Option Int :=
  if k = 40 ∨ ¬ (1 ≤ s.length ∧ s.length ≤ 8) then some (-1) else (seatBad k n 0 s).map (fun (j : Nat) => (j : Int))
/-- the first fault from the k-th station on -/
def netBad (n : Int) : Nat → Net → Option (Int × Int)
  | _, [] => none
  | k, s :: r => match stBad n k s with
    | some j => some (k, j)
    | none => netBad n (k + 1) r
def firstBad (N : Net) : Option (Int × Int) := if N.length = 0 then some (0, -1) else netBad N.length 0 N
/-- nothing in it is very long -/
def SmN (N : Net) : Prop := N.length ≤ 1000 ∧ ∀ s ∈ N, s.length ≤ 1000 ∧ ∀ p ∈ s, ∀ z, p = Sum.inr z → z.length ≤ 1000
abbrev s_init : Stmt := inClass (top 2) 0
theorem sc_init : FnScope ["self", "station", "seat"] ["self", "station", "seat"] (defScope s_init) := ⟨rfl, rfl, rfl, by decide +kernel, rfl, by decide +kernel, by decide +kernel⟩
section
variable {P : Program} {w : World} {K : PySem.W.Frag} {mg : Str → Option Value} {base : Heap}
def spInit (C : Addr) : Sp := fun vs H Q _ => ∃ (a : Addr) (s t : V), vs = [.ref a, s, t] ∧ H a = some (exo a C none) ∧ ∀ (d : Addr) (H' : Hp), H d = none → H' a = some (exo a C (some d)) → H' d = some (exd d [("seat", t), ("station", s)]) → (∀ x o, x ≠ a → H x = some o → H' x = some o) → Q .non H'
theorem ok_init {f C fI : Addr} {fd : FuncData} (F : Fun K "__init__" "InvalidNetwork.__init__" s_init f fd) (N_E : Er K mg "InvalidNetwork" C fI) (n1 : PySem.W.findIn K (.ref C) "station" = some none) (n2 : PySem.W.findIn K (.ref C) "seat" = some none) :
    FnOk P w K mg base CX0 1 f fd ["self", "station", "seat"] (spInit C) := by
  refine F.ok sc_init (fun vs H Q E h => ?_) (fun cdv A outer s H vs Q E hr h => ?_)
  · obtain ⟨a, s, t, rfl, _⟩ := h
    rfl
  · obtain ⟨a, s, t, rfl, hA, k⟩ := h
    refine ⟨_, pss_cons (ps_ost (pv 0) (pv 1)) (pss_one (ps_ost (pv 0) (pv 2))), ?_⟩
    walk_at "run"
    refine ⟨_, rfl, _, rfl, a, C, rfl, N_E.O, n1, .inl ⟨hA, fun d hd hda => ?_⟩⟩
    refine ⟨_, rfl, _, rfl, a, C, rfl, N_E.O, n2, .inr ⟨d, _, upd_same, by rw [upd_ne hda, upd_same], by simp, ?_⟩⟩
    refine k d _ hd (by rw [upd_ne hda.symm, upd_same]) upd_same fun x o hx e => ?_
    rw [upd_ne (ne_of_none e hd), upd_ne hx, upd_ne (ne_of_none e hd)]
    exact e
theorem x_init {C : Addr} {s t : V} {H : Hp} {Q : XK} (k : ∀ d H', Ex H H' → H d = none → H' d = some (.xd [("seat", t), ("station", s)]) → Q (.ref C) (some d) H') : rMk C (spInit C) [] [s, t] H Q := by
  refine ⟨by simp, fun a ha => ⟨a, s, t, rfl, upd_same, fun d H' hd h1 h2 h3 => ⟨rfl, d, _, h1, h2, ?_, ?_⟩⟩⟩
  · by_cases z : d = a
    · rw [z]; exact ha
    · rw [upd_ne z] at hd; exact hd
  · have hdn : H d = none := by
      by_cases z : d = a
      · rw [z]; exact ha
      · rw [upd_ne z] at hd; exact hd
    refine k d _ (fun x o hx => ?_) hdn upd_same
    rw [upd_ne (ne_of_none hx hdn), del_ne (ne_of_none hx ha)]
    exact h3 _ _ (ne_of_none hx ha) (by rw [upd_ne (ne_of_none hx ha)]; exact hx)
/-- N stands at v: nothing happens, or the error of its first fault -/
def spCheck (K : PySem.W.Frag) (C : Addr) : Sp := fun vs H Q E => ∃ (v : V) (N : Net), vs = [v] ∧ NetAt K H v N ∧ SmN N ∧ (firstBad N = none → ∀ H', Ex H H' → Q .non H') ∧
  ∀ k j, firstBad N = some (k, j) → ∀ d H', Ex H H' → H d = none → H' d = some (.xd [("seat", .int j), ("station", .int k)]) → E (.ref C) (some d) H'
theorem ok_check_network {f f1 f2 C fI : Addr} {fd fd1 fd2 fdI : FuncData} (D : Df K mg "check_network" s_check_network ["network"] f fd) (T : Bt mg) (Ck : Ct K mg) (D_is_word : Df K mg "is_word" s_is_word ["text"] f1 fd1)
    (D_is_place : Df K mg "is_place" s_is_place ["place", "station", "stations"] f2 fd2) (N_E : Er K mg "InvalidNetwork" C fI) (D_init_F : Fun K "__init__" "InvalidNetwork.__init__" s_init fI fdI) (D_init_b : Binds K fdI ["self", "station", "seat"] [])
    (n1 : PySem.W.findIn K (.ref C) "station" = some none) (n2 : PySem.W.findIn K (.ref C) "seat" = some none) :
    FnOk P w K mg base (L2.CX P w) 4 f fd ["network"] (spCheck K C) := by
  have G_is_place : FnOk P w K mg base CX0 3 f2 fd2 _ _ := ok_is_place D_is_place T Ck D_is_word
  have G_init : FnOk P w K mg base CX0 1 fI fdI _ _ := ok_init D_init_F N_E n1 n2
  refine D.F.okX sc_check_network (fun vs H Q E h => ?_) (fun cdv A outer s H vs Q E hr h => ?_)
  · obtain ⟨v, N, rfl, _⟩ := h
    rfl
  · obtain ⟨v, N, rfl, hN, hS, k1, k2⟩ := h
    have hu := hr.units
    obtain ⟨tML, g_MAX_STATIONS⟩ := Ck.g_MAX_STATIONS
    obtain ⟨tMS, g_MAX_SEATS⟩ := Ck.g_MAX_SEATS
    refine ⟨_, (pss_cons (ps_if (pt_cmpR (op_eqU (K := K) hu) (pe_callB (call_lenU (K := K)) (by rfl) T.b_len (by decide +kernel) (pa_cons (pv 0) pa_nil)) pe_int (nomark _)) (pss_one (ps_raise rfl (takes_of rfl rfl rfl rfl) (pmk_oex (N_E.O) N_E.iC N_E.tI G_init (hr.mono (by decide)) D_init_b .nil pass0 rfl N_E.g (pa_cons pe_int (pa_cons (pe_un un_neg pe_int) pa_nil))))) pss_nil)
      (pss_one (ps_for (passes_of rfl) rfl (pi_enumT (by rfl) T.b_enumerate (pa_cons (pv 0) pa_nil)) (pg_tup rfl (pgs_cons (pg_name (i := 1) sc_check_network.nd rfl (Or.inl rfl)) (pgs_cons (pg_name (i := 2) sc_check_network.nd rfl (Or.inl rfl)) pgs_nil))) (pss_cons (ps_if (PW.pt (pw_or (pt_cmpR (op_eqU (K := K) hu) (pv 1) (pe_glob (v := .int 40) rfl g_MAX_STATIONS ⟨_, rfl⟩) (nomark _)) (pw_or1 (pt_not (pt_chain (op_leU) (op_leU) pe_int (pe_callB (call_lenU (K := K)) (by rfl) T.b_len (by decide +kernel) (pa_cons (pv 2) pa_nil)) (pe_glob (v := .int 8) rfl g_MAX_SEATS ⟨_, rfl⟩)))))) (pss_one (ps_raise rfl (takes_of rfl rfl rfl rfl) (pmk_oex (N_E.O) N_E.iC N_E.tI G_init (hr.mono (by decide)) D_init_b .nil pass0 rfl N_E.g (pa_cons (pv 1) (pa_cons (pe_un un_neg pe_int) pa_nil))))) pss_nil)
      (pss_one (ps_for (passes_of rfl) rfl (pi_enumT (by rfl) T.b_enumerate (pa_cons (pv 2) pa_nil)) (pg_tup rfl (pgs_cons (pg_name (i := 3) sc_check_network.nd rfl (Or.inl rfl)) (pgs_cons (pg_name (i := 4) sc_check_network.nd rfl (Or.inl rfl)) pgs_nil))) (pss_one (ps_if (pt_not (pt_val (pe_call (G_is_place) (hr.mono (by decide)) rfl D_is_place.g D_is_place.F.kp D_is_place.b .nil pass0 (pa_cons (pv 4) (pa_cons (pv 1) (pa_cons (pe_callB (call_lenU (K := K)) (by rfl) T.b_len (by decide +kernel) (pa_cons (pv 0) pa_nil)) pa_nil)))))) (pss_one (ps_raise rfl (takes_of rfl rfl rfl rfl) (pmk_oex (N_E.O) N_E.iC N_E.tI G_init (hr.mono (by decide)) D_init_b .nil pass0 rfl N_E.g (pa_cons (pv 1) (pa_cons (pv 3) pa_nil))))) pss_nil)))))))), ?_⟩
    walk_at "run"
    obtain ⟨a, ts, rfl, hT, hts⟩ := hN.at
    have hl : ts.length = N.length := by rw [hts.len, List.length_map]
    refine x_lenT hT ?_
    rw [hl]
    walk_at "run"
    by_cases h0 : N.length = 0
    · rw [if_pos (by omega)]
      exact x_init fun d H' e hd h => k2 0 (-1) (if_pos h0) d H' e hd h
    rw [if_neg (by omega)]
    have hR : firstBad N = netBad N.length 0 N := if_neg h0
    refine ⟨_, _, rfl, hT, loop_it walk_enumT (fun i σ H' => ∃ u1 u2 u3 u4, σ = [some (.ref a), u1, u2, u3, u4] ∧ Ex H H' ∧ netBad N.length i (N.drop i) = netBad N.length 0 N) ⟨_, _, _, _, rfl, Ex.refl H, rfl⟩
      (fun i σ H' _ ⟨_, _, _, _, _, e, _⟩ => ex_t e hT) ?_ ?_⟩
    · rintro i v σ H1 H2 hi ⟨u1, u2, u3, u4, rfl, e1, hb⟩ ⟨T0, x, y, rfl, hT0, rfl, hx, hy⟩
      obtain rfl : V.int (i : Nat) = x := Option.some.inj hx
      have e2 : Ex H (upd H1 T0 (.tup [.int (i : Nat), y])) := e1.trans (Ex.new hT0)
      refine x_two (SqT.of upd_same) ?_
      generalize upd H1 T0 (.tup [.int (i : Nat), y]) = H2 at e2
      obtain ⟨sD, hs, hy2⟩ := hts.get' hy
      obtain ⟨s, hsN, rfl⟩ : ∃ s, N[i]? = some s ∧ stD s = sD := by simpa using hs
      obtain ⟨b, rfl, hB⟩ := StAt.at hy2
      have hm : s ∈ N := List.mem_of_getElem? hsN
      obtain ⟨s1, s2⟩ := hS.2 s hm
      have hd : N.drop i = s :: N.drop (i + 1) := by
        obtain ⟨q, e⟩ := List.getElem?_eq_some_iff.mp hsN
        rw [List.drop_eq_getElem_cons q, e]
      rw [hd] at hb
      have hb1 : (match stBad N.length i s with
        | some j => some ((i : Int), j)
        | none => netBad N.length (i + 1) (N.drop (i + 1))) = netBad N.length 0 N := hb
      have bad : ∀ j : Int, stBad N.length i s = some j → firstBad N = some ((i : Int), j) := fun j h => by
        rw [hR, ← hb1, h]
      have fine : stBad N.length i s = none → netBad N.length (i + 1) (N.drop (i + 1)) = netBad N.length 0 N := fun h => by
        rw [← hb1, h]
      walk_at "run"
      by_cases h40 : i = 40
      · rw [if_pos (by omega)]
        exact x_init fun d H' e hd h => k2 i (-1) (bad _ (if_pos (.inl h40))) d H' (e2.trans e) (fresh_back e2 hd) h
      rw [if_neg (by omega)]
      refine x_lenT (ex_t e2 hB) ?_
      rw [List.length_map]
      walk_at "run"
      have wrong : ¬ (1 ≤ s.length ∧ s.length ≤ 8) → rMk C (spInit C) [] [V.int (i : Nat), V.int (-1)] H2 fun cls d H' => E cls d H' := fun z =>
        x_init fun d H' e hd h => k2 i (-1) (bad _ (if_pos (.inr z))) d H' (e2.trans e) (fresh_back e2 hd) h
      by_cases g1 : 1 ≤ s.length
      · rw [if_pos (by omega)]
        by_cases g8 : s.length ≤ 8
        · rw [if_neg (by simp; omega)]
          have sb : stBad N.length i s = (seatBad i N.length 0 s).map (fun (j : Nat) => (j : Int)) := if_neg (fun z => z.elim h40 (fun h => h ⟨g1, g8⟩))
          refine ⟨_, _, rfl, ex_t e2 hB, loop_it walk_enumT (fun j σ H' => ∃ u3 u4, σ = [some (.ref a), some (.int i), some (.ref b), u3, u4] ∧ Ex H H' ∧ seatBad i N.length j (s.drop j) = seatBad i N.length 0 s) ⟨_, _, rfl, e2, rfl⟩
            (fun j σ H' _ ⟨_, _, _, e, _⟩ => ex_t e hB) ?_ ?_⟩
          · rintro j v σ H3 H4 hj ⟨u3, u4, rfl, e3, hb3⟩ ⟨T1, x, y, rfl, hT1, rfl, hx, hy⟩
            obtain rfl : V.int (j : Nat) = x := Option.some.inj hx
            have e4 : Ex H (upd H3 T1 (.tup [.int (j : Nat), y])) := e3.trans (Ex.new hT1)
            refine x_two (SqT.of upd_same) ?_
            generalize upd H3 T1 (.tup [.int (j : Nat), y]) = H4 at e4
            obtain ⟨p, hp, rfl⟩ : ∃ p, s[j]? = some p ∧ kV p = y := by simpa using hy
            have hd2 : s.drop j = p :: s.drop (j + 1) := by
              obtain ⟨q, e⟩ := List.getElem?_eq_some_iff.mp hp
              rw [List.drop_eq_getElem_cons q, e]
            rw [hd2] at hb3
            have hb4 : (if placeB i N.length p = true then seatBad i N.length (j + 1) (s.drop (j + 1)) else some j) = seatBad i N.length 0 s := hb3
            walk_at "run"
            refine x_lenT (ex_t e4 hT) ?_
            rw [hl]
            refine ⟨p, i, N.length, rfl, fun z hz => s2 p (List.mem_of_getElem? hp) z hz, fun H5 e5 => ⟨_, rfl, ?_⟩⟩
            have e6 := e4.trans e5
            by_cases hg : placeB i N.length p = true
            · rw [if_neg (by rw [hg]; decide)]
              rw [if_pos hg] at hb4
              exact ⟨_, _, rfl, e6, hb4⟩
            · rw [if_pos (by simpa using hg)]
              rw [if_neg hg] at hb4
              exact x_init fun d H' e hd h => k2 i j (bad _ (by rw [sb, ← hb4]; rfl)) d H' (e6.trans e) (fresh_back e6 hd) h
          · rintro σ H3 ⟨u3, u4, rfl, e3, hb3⟩
            refine ⟨_, _, _, _, rfl, e3, fine ?_⟩
            rw [sb, ← hb3, List.length_map, List.drop_length]
            rfl
        · rw [if_pos (by simp; omega)]
          exact wrong (fun z => g8 z.2)
      · rw [if_neg (by omega)]
        rw [if_pos (by decide)]
        exact wrong (fun z => g1 z.1)
    · rintro σ H1 ⟨u1, u2, u3, u4, rfl, e1, hb⟩
      refine k1 ?_ H1 e1
      rw [hR, ← hb, hl, List.drop_length]
      rfl
end
end K
set_option Elab.async false
set_option linter.all false
set_option maxRecDepth 100000
set_option maxHeartbeats 4000000
namespace K
open PySem PySem.Spec PyProof.Rows L2 Evl FB
local macro_rules | `(tactic| walk_at "run") => `(tactic| try simp only [tSeq, tAsg, tVar, tC, gName, L2.start, List.map_cons, List.map_nil, List.cons_append, List.nil_append, List.length_cons, List.length_nil, List.replicate, List.getElem?_cons_zero, List.getElem?_cons_succ, Option.some.injEq, exists_eq_left', List.set_cons_zero, List.set_cons_succ, V.ref.injEq, tRet, x_tLst, x_tTup, tCons, tCB, tNil, tOp, x_addI, x_mulI, x_rI, x_rI0, x_ltI, x_leI, x_ltS, x_leS, x_eqI, x_neI, x_eqS, x_eqB, x_neB, x_isiI, x_isiS, x_int, x_max, x_min, cxOf, tIfS, tNext, tTest, V.bl.injEq, decide_eq_true_eq, gSub, tAnd, tOr, tNot, tB, tDrop, tBM, x_tFor, iRng1, iList, iTup, x_tLc, tYes, tCall, tIf, tAndV, tOrV, tNotV, tChain, List.append_nil, tUn, if_true, wipe, true_and, x_never, iU, x_itS, kV, Nat.reduceAdd, Nat.reduceSub, List.replicate_zero, x_rU, x_tMkO, iEnumT, x_tDc, x_tDGet, x_tDGet2, x_sDPut, x_tDSetd, x_tDNewK, x_iItems, x_iZip, x_tSAddK, x_tLockV, x_tTupRg, x_tRg2, tPar, tPar3, tBM0])
theorem Drawn.jn {N : Net} {most : Int} (D : Drawn N most) (h : most ≤ 40) : JN N where
  le := by have := D.le; omega
  st := fun k hk => by
    have e : N[k]? = some (N.getD k []) := by simp [List.getD_eq_getElem?_getD, hk]
    have := D.st k _ e
    exact ⟨this.1, this.2.1⟩
  fw := fun i hi j hj => by
    have e : N[i]? = some (N.getD i []) := by simp [List.getD_eq_getElem?_getD, hi]
    exact (D.st i _ e).2.2 _ hj
/-- a state while it is drawn -/
structure LS (K : PySem.W.Frag) (H0 H : Hp) (N : Net) (h b Qa Fa : Addr) (as : List Addr) (qs : Qs) (fs : List (Str × Int)) (p : Int) (i : Nat) : Prop where
  gen : Gen H h b
  q : QsAt K H Qa as qs
  f : FinAt K H Fa fs
  sh : Short N qs
  nd : qs.flatten.Nodup
  rg : ∀ x ∈ qs.flatten, 1 ≤ x ∧ x < p
  pos : 1 ≤ p
  le : fs.length + qs.flatten.length ≤ i
  ex : Ex2 h b H0 H
/-- the lists of the state are new -/
structure Nw (H0 : Hp) (h b Qa Fa : Addr) (as : List Addr) : Prop where
  g : Gen H0 h b
  q : H0 Qa = none
  f : H0 Fa = none
  a : ∀ a ∈ as, H0 a = none
  fq : Fa ≠ Qa
  fa : Fa ∉ as
section
variable {K : PySem.W.Frag} {H0 H H2 : Hp} {N : Net} {h b Qa Fa : Addr} {as : List Addr} {qs qs' : Qs} {fs fs' : List (Str × Int)} {p p' : Int} {i i' : Nat}
theorem LS.ex1 (W : LS K H0 H N h b Qa Fa as qs fs p i) (e : Ex H H2) : LS K H0 H2 N h b Qa Fa as qs fs p i :=
  { W with gen := W.gen.ex e, q := W.q.ex e, f := W.f.e e, ex := W.ex.ex e }
theorem LS.dr (W : LS K H0 H N h b Qa Fa as qs fs p i) (n : Nw H0 h b Qa Fa as) (g : Gen H2 h b) (e : Ex2 h b H H2) : LS K H0 H2 N h b Qa Fa as qs fs p i :=
  { W with gen := g, q := W.q.ex2 e ⟨n.g.na n.q, n.g.nb n.q⟩ (fun a ha => ⟨n.g.na (n.a a ha), n.g.nb (n.a a ha)⟩), f := W.f.tx (W.gen.tx e) (fun o ho => e _ _ ho (n.g.na n.f) (n.g.nb n.f)), ex := W.ex.trans e }
theorem LS.more (W : LS K H0 H N h b Qa Fa as qs fs p i) (hi : i ≤ i') : LS K H0 H N h b Qa Fa as qs fs p i' := { W with le := by have := W.le; omega }
/-- the queues and the list of who finished are others now -/
theorem LS.put (W : LS K H0 H N h b Qa Fa as qs fs p i) (n : Nw H0 h b Qa Fa as) (e : Ex3 as Fa H H2) (q2 : QsAt K H2 Qa as qs') (f2 : FinAt K H2 Fa fs') (sh : Short N qs') (nd : qs'.flatten.Nodup) (rg : ∀ x ∈ qs'.flatten, 1 ≤ x ∧ x < p') (pos : 1 ≤ p') (le : fs'.length + qs'.flatten.length ≤ i') :
    LS K H0 H2 N h b Qa Fa as qs' fs' p' i' := by
  have no : ∀ x o, H0 x = some o → x ≠ Fa ∧ x ∉ as := fun x o hx => ⟨ne_of_none hx n.f, fun z => ne_of_none hx (n.a x z) rfl⟩
  obtain ⟨m, c, ns, g1, g2, g3⟩ := n.g
  obtain ⟨m2, c2, ns2, k1, k2, k3⟩ := W.gen
  refine ⟨⟨m2, c2, ns2, e _ _ k1 (no _ _ g1).1 (no _ _ g1).2, e _ _ k2 (no _ _ g2).1 (no _ _ g2).2, k3⟩, q2, f2, sh, nd, rg, pos, le, fun x o hx ha hb => e _ _ (W.ex x o hx ha hb) (no _ _ hx).1 (no _ _ hx).2⟩
end
theorem MeetsSeq_idx {k n : Nat} (h : k < n) : seqIndex? (k : Int) n = some k := by
  unfold seqIndex?
  have h1 : ¬ (k : Int) < 0 := by omega
  rw [if_neg h1]
  have h2 : (decide (0 ≤ (k : Int)) && decide ((k : Int) < (n : Int))) = true := by
    rw [Bool.and_eq_true, decide_eq_true_eq, decide_eq_true_eq]; omega
  show (if (decide (0 ≤ (k : Int)) && decide ((k : Int) < (n : Int))) = true then some ((k : Int)).toNat else none) = some k
  rw [if_pos h2]
  rfl
theorem eraseIdx_mapV : ∀ {l : List Int} {k : Nat}, (l.map V.int).eraseIdx k = (l.eraseIdx k).map V.int
  | [], _ => by simp
  | a :: r, 0 => rfl
  | a :: r, k + 1 => by
    show V.int a :: (r.map V.int).eraseIdx k = V.int a :: (r.eraseIdx k).map V.int
    rw [eraseIdx_mapV]
theorem sub_of_pm {a b c : List Int} (h : (a ++ b).Perm c) : (c.Nodup → a.Nodup) ∧ ∀ x ∈ a, x ∈ c :=
  ⟨fun n => (List.nodup_append.mp (h.nodup_iff.mpr n)).1, fun x hx => h.mem_iff.mp (List.mem_append_left _ hx)⟩
/-- a passenger put into a queue, or an arrival -/
def tThird (K : PySem.W.Frag) : TS := tIfS (tAnd (tTest (tOp (rEqU K) (tVar 8) (tC (V.int 2)))) (tTest (tOp rLtU (tOp (rAddU K) (tCB (rLenU K) (tCons (tOp (rIx K) (tVar 4) (tVar 3)) tNil)) (tC (V.int 1))) (tCB (rLenU K) (tCons (tOp (rIx K) (tVar 1) (tVar 3)) tNil)))))
    (tSeq (tDrop (tBM K "list" rAppend (tOp (rIx K) (tVar 4) (tVar 3)) (tCons (tVar 5) tNil))) (tAsg (tOp (rAddU K) (tVar 5) (tC (V.int 1))) (gName 5)))
    (tSeq (tDrop (tCall (spJoinL K 8) [] E0 (tCons (tVar 1) (tCons (tVar 4) (tCons (tC (V.int 0)) (tCons (tVar 5) (tCons (tVar 6) tNil))))))) (tAsg (tOp (rAddU K) (tVar 5) (tC (V.int 1))) (gName 5)))
def tSecond (K : PySem.W.Frag) : TS := tIfS (tAnd (tTest (tOp (rEqU K) (tVar 8) (tC (V.int 1)))) (tTest (tOp (rNeU K) (tOp (rIx K) (tVar 4) (tVar 3)) (tLst tNil))))
    (tDrop (tBM K "list" rPopAt (tOp (rIx K) (tVar 4) (tVar 3)) (tCons (tCall spNext [] E0 (tCons (tVar 0) (tCons (tCB (rLenU K) (tCons (tOp (rIx K) (tVar 4) (tVar 3)) tNil)) tNil))) tNil))) (tThird K)
def tFirst (K : PySem.W.Frag) : TS := tIfS (tAnd (tTest (tOp (rEqU K) (tVar 8) (tC (V.int 0)))) (tTest (tOp (rNeU K) (tOp (rIx K) (tVar 4) (tVar 3)) (tLst tNil))))
    (tDrop (tCall (spDepartL K 8) [] E0 (tCons (tVar 1) (tCons (tVar 4) (tCons (tVar 3) (tCons (tVar 6) tNil)))))) (tSecond K)
section
variable {K : PySem.W.Frag} {H0 H : Hp} {N : Net} {h b Qa Fa vn : Addr} {us : List V} {as : List Addr} {qs : Qs} {fs : List (Str × Int)} {p most kd : Int} {i st : Nat} {u7 u9 : Option V} {D : Ends}
theorem LS.total (W : LS K H0 H N h b Qa Fa as qs fs p i) : qs.length = N.length := W.sh.len
theorem state_third (hJ : JN N) (hD8 : N.length ≤ 8) (h0 : 1 ≤ N.length) (hU : SqT K H0 vn us) (hus : DpAll K H0 us (N.map stD)) (n : Nw H0 h b Qa Fa as) (hst : st < N.length) (hi : i ≤ 1000) (W : LS K H0 H N h b Qa Fa as qs fs p i) (nx : ∀ p' qs' fs' H1, LS K H0 H1 N h b Qa Fa as qs' fs' p' (i + 1) → D.nx [some (.ref h), some (.ref vn), some (.int most), some (.int (st : Nat)), some (.ref Qa), some (.int p'), some (.ref Fa), u7, some (.int kd), u9] H1) : tThird K D [some (.ref h), some (.ref vn), some (.int most), some (.int (st : Nat)), some (.ref Qa), some (.int p), some (.ref Fa), u7, some (.int kd), u9] H := by
  have t := n.g.tx W.ex
  have hsq : st < qs.length := by rw [W.total]; exact hst
  have hle := W.le
  have join : spJoinL K 8 [.ref vn, .ref Qa, .int 0, .int p, .ref Fa] H (fun _ H1 => D.nx [some (.ref h), some (.ref vn), some (.int most), some (.int (st : Nat)), some (.ref Qa), some (.int (p + 1)), some (.ref Fa), u7, some (.int kd), u9] H1) E0 := by
    have h0q : 0 < qs.length := by rw [W.total]; omega
    obtain ⟨jl, jp⟩ := joinW_pm (departW_pm hJ.fw 8) (p := p) h0q W.total
    obtain ⟨j1, _⟩ := joinW_ok (fun k hk => (hJ.st k hk).1) (departW_ok (fun k hk => (hJ.st k hk).1) hJ.fw 8) (p := p) W.sh (j := 0) (by omega) (by omega)
    have hlen := jp.length_eq
    rw [List.length_append, List.length_append, List.length_map, show [p].length = 1 from rfl] at hlen
    have hsub := sub_of_pm jp
    refine ⟨_, N, Qa, Fa, as, qs, fs, 0, p, rfl, .tup (t.t hU) (DpAll.tx t hus (netD_t N).all), hJ, W.q, W.f, n.fq, n.fa, W.sh, by omega, by omega, by omega, fun H1 e1 q1 f1 => nx _ _ _ _ (W.put n e1 q1 f1 j1 ?_ ?_ (by have := W.pos; omega) ?_)⟩
    · refine hsub.1 ?_
      rw [List.nodup_append]
      refine ⟨W.nd, by simp, fun a ha b hb e => ?_⟩
      rw [List.mem_singleton.mp hb] at e
      have := (W.rg a ha).2
      omega
    · intro x hx
      rcases List.mem_append.mp (hsub.2 x hx) with h | h
      · have := W.rg x h; omega
      · rw [List.mem_singleton.mp h]; have := W.pos; omega
    · rw [List.length_append]
      omega
  unfold tThird
  walk_at "run"
  by_cases h2 : kd = 2
  · rw [if_pos h2]
    obtain ⟨a, ha, hHa, ham⟩ := W.q.get hsq
    have haj : (as.map V.ref)[st]? = some (.ref a) := by simp [ha]
    obtain ⟨sv, hsv, hsd⟩ := hus.get (show (N.map stD)[st]? = some (stD (N.getD st [])) by simp [List.getD_eq_getElem?_getD, hst])
    obtain ⟨bs, rfl, hbs⟩ := StAt.at hsd
    obtain ⟨h1s, h8s⟩ := hJ.st st hst
    refine x_ixL (SqL.of W.q.at_) (atI_nat haj) (x_lenL (SqL.of hHa) ?_)
    walk_at "run"
    refine x_ixT (t.t hU) (atI_nat hsv) (x_lenT (t.t hbs) ?_)
    rw [List.length_map, List.length_map]
    walk_at "run"
    by_cases hlt : (qs.getD st []).length + 1 < (N.getD st []).length
    · rw [if_pos (by omega)]
      refine x_ixL (SqL.of W.q.at_) (atI_nat haj) ⟨x_tyL (SqL.of hHa), x_append hHa (by rw [List.length_map]; omega) fun H1 e1 h1 => ?_⟩
      have hQ1 : QsAt K H1 Qa as (qs.set st (qs.getD st [] ++ [p])) := W.q.set ha e1 (by rw [h1, List.map_append]; rfl)
      have hFa : a ≠ Fa := fun z => n.fa (by rw [← z]; exact ham)
      have hpm := set_perm (p := p) hsq
      have hlen := hpm.length_eq
      rw [List.length_append, show [p].length = 1 from rfl] at hlen
      refine nx _ _ _ _ (W.put n (fun x o hx h1 h2 => e1 x o (fun z => h2 (by rw [z]; exact ham)) hx) hQ1 (W.f.tx (TX.but hHa e1) fun o ho => e1 _ _ hFa.symm ho) ⟨by rw [List.length_set]; exact W.total, fun k hk => ?_⟩ ?_ (fun x hx => ?_) (by have := W.pos; omega) (by omega))
      · rw [getD_set' hsq]
        split
        · rename_i e; subst e; rw [List.length_append, show [p].length = 1 from rfl]; exact hlt
        · exact W.sh.lt k hk
      · rw [hpm.nodup_iff, List.nodup_append]
        refine ⟨W.nd, by simp, fun a ha b hb e => ?_⟩
        rw [List.mem_singleton.mp hb] at e
        have := (W.rg a ha).2
        omega
      · rcases List.mem_append.mp (hpm.mem_iff.mp hx) with h | h
        · have := W.rg x h; omega
        · rw [List.mem_singleton.mp h]; have := W.pos; omega
    · rw [if_neg (by omega)]
      exact join
  · rw [if_neg h2, if_neg Bool.false_ne_true]
    exact join
theorem state_second (hJ : JN N) (hD8 : N.length ≤ 8) (h0 : 1 ≤ N.length) (hU : SqT K H0 vn us) (hus : DpAll K H0 us (N.map stD)) (n : Nw H0 h b Qa Fa as) (hst : st < N.length) (hi : i ≤ 1000) (W : LS K H0 H N h b Qa Fa as qs fs p i) (nx : ∀ p' qs' fs' H1, LS K H0 H1 N h b Qa Fa as qs' fs' p' (i + 1) → D.nx [some (.ref h), some (.ref vn), some (.int most), some (.int (st : Nat)), some (.ref Qa), some (.int p'), some (.ref Fa), u7, some (.int kd), u9] H1) : tSecond K D [some (.ref h), some (.ref vn), some (.int most), some (.int (st : Nat)), some (.ref Qa), some (.int p), some (.ref Fa), u7, some (.int kd), u9] H := by
  have t := n.g.tx W.ex
  have hsq : st < qs.length := by rw [W.total]; exact hst
  have hle := W.le
  unfold tSecond
  walk_at "run"
  by_cases h1 : kd = 1
  · rw [if_pos h1]
    obtain ⟨a, ha, hHa, ham⟩ := W.q.get hsq
    have haj : (as.map V.ref)[st]? = some (.ref a) := by simp [ha]
    refine x_ixL (SqL.of W.q.at_) (atI_nat haj) (x_neEmpty hHa fun H1 e1 => ⟨_, rfl, ?_⟩)
    have W1 := W.ex1 e1
    by_cases hq : qs.getD st [] = []
    · rw [if_neg (by rw [decide_eq_true hq]; decide)]
      exact state_third hJ hD8 h0 hU hus n hst hi W1 nx
    · rw [if_pos (by rw [decide_eq_false hq]; rfl)]
      have hql : 0 < (qs.getD st []).length := List.length_pos_iff.mpr hq
      obtain ⟨_, h8s⟩ := hJ.st st hst
      have hlt := W.sh.lt st hst
      refine x_ixL (SqL.of W1.q.at_) (atI_nat haj) ⟨x_tyL (SqL.of (e1 _ _ hHa)), x_ixL (SqL.of W1.q.at_) (atI_nat haj) (x_lenL (SqL.of (e1 _ _ hHa)) ?_)⟩
      rw [List.length_map]
      refine x_next W1.gen (by omega) (by omega) fun r H2 r0 r1 g2 e2 => ?_
      have W2 := W1.dr n g2 e2
      obtain ⟨k, rfl⟩ : ∃ k : Nat, r = (k : Int) := ⟨r.toNat, by omega⟩
      have hk : k < (qs.getD st []).length := by omega
      have hHa2 := W2.q.q st a ha
      refine ⟨a, _, (k : Int), k, .int ((qs.getD st [])[k]), rfl, rfl, hHa2, by omega, by omega, by rw [List.length_map]; exact MeetsSeq_idx hk, by rw [List.getElem?_map, List.getElem?_eq_getElem hk]; rfl, ?_⟩
      generalize hH3 : upd H2 a (.lst (((qs.getD st []).map V.int).eraseIdx k)) = H3
      have e3 : ∀ x o, x ≠ a → H2 x = some o → H3 x = some o := fun x o hx h => by rw [← hH3, upd_ne hx]; exact h
      have h3 : H3 a = some (.lst (((qs.getD st []).eraseIdx k).map V.int)) := by rw [← hH3, upd_same, eraseIdx_mapV]
      have hQ3 : QsAt K H3 Qa as (qs.set st ((qs.getD st []).eraseIdx k)) := W2.q.set ha e3 h3
      have hFa : a ≠ Fa := fun z => n.fa (by rw [← z]; exact ham)
      obtain ⟨u, v, k1, k2⟩ := flat_set (y := (qs.getD st []).eraseIdx k) (getD_some hsq)
      have hsl : (qs.set st ((qs.getD st []).eraseIdx k)).flatten.Sublist qs.flatten := by
        rw [k1, k2]
        exact ((List.Sublist.refl u).append (List.eraseIdx_sublist ..)).append (List.Sublist.refl v)
      refine nx _ _ _ _ (W2.put n (fun x o hx h1 h2 => e3 x o (fun z => h2 (by rw [z]; exact ham)) hx) hQ3 (W2.f.tx (TX.but hHa2 e3) fun o ho => e3 _ _ hFa.symm ho) ⟨by rw [List.length_set]; exact W.total, fun j hj => ?_⟩ (W.nd.sublist hsl) (fun x hx => W.rg x (hsl.subset hx)) W.pos (by have := hsl.length_le; omega))
      rw [getD_set' hsq]
      split
      · rename_i e; subst e
        have := (List.eraseIdx_sublist (qs.getD j []) k).length_le
        omega
      · exact W.sh.lt j hj
  · rw [if_neg h1, if_neg Bool.false_ne_true]
    exact state_third hJ hD8 h0 hU hus n hst hi W nx
theorem state_first (hJ : JN N) (hD8 : N.length ≤ 8) (h0 : 1 ≤ N.length) (hU : SqT K H0 vn us) (hus : DpAll K H0 us (N.map stD)) (n : Nw H0 h b Qa Fa as) (hst : st < N.length) (hi : i ≤ 1000) (W : LS K H0 H N h b Qa Fa as qs fs p i) (nx : ∀ p' qs' fs' H1, LS K H0 H1 N h b Qa Fa as qs' fs' p' (i + 1) → D.nx [some (.ref h), some (.ref vn), some (.int most), some (.int (st : Nat)), some (.ref Qa), some (.int p'), some (.ref Fa), u7, some (.int kd), u9] H1) : tFirst K D [some (.ref h), some (.ref vn), some (.int most), some (.int (st : Nat)), some (.ref Qa), some (.int p), some (.ref Fa), u7, some (.int kd), u9] H := by
  have t := n.g.tx W.ex
  have hsq : st < qs.length := by rw [W.total]; exact hst
  have hle := W.le
  unfold tFirst
  walk_at "run"
  by_cases h1 : kd = 0
  · rw [if_pos h1]
    obtain ⟨a, ha, hHa, ham⟩ := W.q.get hsq
    have haj : (as.map V.ref)[st]? = some (.ref a) := by simp [ha]
    refine x_ixL (SqL.of W.q.at_) (atI_nat haj) (x_neEmpty hHa fun H1 e1 => ⟨_, rfl, ?_⟩)
    have W1 := W.ex1 e1
    by_cases hq : qs.getD st [] = []
    · rw [if_neg (by rw [decide_eq_true hq]; decide)]
      exact state_second hJ hD8 h0 hU hus n hst hi W1 nx
    · rw [if_pos (by rw [decide_eq_false hq]; rfl)]
      have hlt := W.sh.lt st hst
      obtain ⟨dl, dp⟩ := departW_pm hJ.fw 8 qs st hsq W.total (by omega)
      obtain ⟨d1, _⟩ := departW_ok (fun k hk => (hJ.st k hk).1) hJ.fw 8 qs st (by omega) hst W.total (fun k hk _ => W.sh.lt k hk) (by omega) (hJ.st st hst).1
      have hlen := dp.length_eq
      rw [List.length_append, List.length_map] at hlen
      have hsub := sub_of_pm dp
      have t1 := n.g.tx W1.ex
      refine ⟨_, N, Qa, Fa, as, qs, fs, st, rfl, .tup (t1.t hU) (DpAll.tx t1 hus (netD_t N).all), hJ, W1.q, W1.f, n.fq, n.fa, W.total, fun k hk _ => W.sh.lt k hk, by omega, hst, by omega, by omega, fun H2 e2 q2 f2 => nx _ _ _ _ (W1.put n e2 q2 f2 d1 (hsub.1 W.nd) (fun x hx => W.rg x (hsub.2 x hx)) W.pos ?_)⟩
      rw [List.length_append]
      omega
  · rw [if_neg h1, if_neg Bool.false_ne_true]
    exact state_second hJ hD8 h0 hU hus n hst hi W nx
end
section
variable {P : Program} {w : World} {K : PySem.W.Frag} {mg : Str → Option Value} {base : Heap}
theorem ok_l_pair {f g : Addr} {fd gd : FuncData} (D_l_join : Df K mg "_law_join" s_l_join ["_law_network_here", "_law_queues", "_law_station", "_law_passenger", "_law_finished_here"] f fd) (T : Bt mg) (D_l_depart : Df K mg "_law_depart" s_l_depart ["_law_network_here", "_law_queues", "_law_station", "_law_finished_here"] g gd) : ∀ n : Nat,
    FnOk P w K mg base CX0 (2 * n) g gd ["_law_network_here", "_law_queues", "_law_station", "_law_finished_here"] (spDepartL K n) ∧ FnOk P w K mg base CX0 (2 * n + 1) f fd ["_law_network_here", "_law_queues", "_law_station", "_law_passenger", "_law_finished_here"] (spJoinL K n)
  | 0 => by
    have h0 : FnOk P w K mg base CX0 (2 * 0) g gd ["_law_network_here", "_law_queues", "_law_station", "_law_finished_here"] (spDepartL K 0) := FnOk.absurd fun vs H Q E ⟨_, _, _, _, _, _, _, _, _, _, _, _, _, _, _, _, _, _, h1, h2, _⟩ => by omega
    exact ⟨h0, ok_l_join D_l_join T D_l_depart h0⟩
  | n + 1 => by
    have h0 : FnOk P w K mg base CX0 (2 * (n + 1)) g gd ["_law_network_here", "_law_queues", "_law_station", "_law_finished_here"] (spDepartL K (n + 1)) := ok_l_depart D_l_depart T D_l_join (ok_l_pair D_l_join T D_l_depart n).2
    exact ⟨h0, ok_l_join D_l_join T D_l_depart h0⟩
abbrev s_l_state : Stmt := top 44
theorem sc_l_state : FnScope ["_law_h", "_law_network_here", "_law_most", "_law_station", "_law_queues", "_law_number", "_law_finished_here", "_law_k", "_law_kind", "_law_queue"] ["_law_h", "_law_network_here", "_law_most"] (defScope s_l_state) := ⟨rfl, rfl, rfl, by decide +kernel, rfl, by decide +kernel, by decide +kernel⟩
def spStateL (K : PySem.W.Frag) : Sp := fun vs H Q _ => ∃ (h b : Addr) (v : V) (N : Net) (most : Int), vs = [.ref h, v, .int most] ∧ Gen H h b ∧ NetAt K H v N ∧ Drawn N 8 ∧ 1 ≤ most ∧ most ≤ 1000 ∧
  ∀ (u : V) (p : Int) (qs : Qs) (H' : Hp), StOk N p qs → Dp K H' u (stateD p qs) → Gen H' h b → Ex2 h b H H' → Q u H'
theorem ok_l_state {f f1 f2 f3 : Addr} {fd fd1 fd2 fd3 : FuncData} (D : Df K mg "_law_state" s_l_state ["_law_h", "_law_network_here", "_law_most"] f fd) (T : Bt mg) (D_l_next : Df K mg "_law_next" s_l_next ["_law_h", "_law_limit"] f1 fd1)
    (D_l_join : Df K mg "_law_join" s_l_join ["_law_network_here", "_law_queues", "_law_station", "_law_passenger", "_law_finished_here"] f2 fd2) (D_l_depart : Df K mg "_law_depart" s_l_depart ["_law_network_here", "_law_queues", "_law_station", "_law_finished_here"] f3 fd3) : FnOk P w K mg base CX0 18 f fd ["_law_h", "_law_network_here", "_law_most"] (spStateL K) := by
  have G_l_next : FnOk P w K mg base CX0 1 f1 fd1 _ _ := ok_l_next D_l_next T
  have G_l_depart : FnOk P w K mg base CX0 16 f3 fd3 _ _ := (ok_l_pair D_l_join T D_l_depart 8).1
  have G_l_join : FnOk P w K mg base CX0 17 f2 fd2 _ _ := (ok_l_pair D_l_join T D_l_depart 8).2
  refine D.F.ok sc_l_state (fun vs H Q E h => ?_) (fun cdv A outer s H vs Q E hr h => ?_)
  · obtain ⟨a, b, v, N, most, rfl, _⟩ := h
    rfl
  · obtain ⟨h, b, v, N, most, rfl, g0, hN, hD, m0, m1, q⟩ := h
    have hu := hr.units
    refine ⟨_, (pss_cons (ps_par3 (i := 4) (j := 5) (l := 6) rfl sc_l_state.nd rfl rfl rfl (by decide) (by decide) (by decide) rfl rfl rfl (pa_cons (pe_lc (own := [("_law_station", 3)]) (g := gName 3) (tt := tYes) rfl sc_l_state.nd (pi_U (K := K) (pv 1)) (blkOk_by (own := [("_law_station", 3)]) (N := ["_law_h", "_law_network_here", "_law_most", "_law_station", "_law_queues", "_law_number", "_law_finished_here", "_law_k", "_law_kind", "_law_queue"]) (sc := defScope s_l_state) (by decide +kernel)) (fun _ _ _ _ _ => (pg_name (i := 3) sc_l_state.nd rfl (Or.inl rfl))) (fun _ _ _ _ _ => pts_nil) (fun _ _ _ _ _ => (pe_lst pa_nil))) (pa_cons (pe_op (op_addU (K := K)) pe_int (pe_call (G_l_next) (hr.mono (by decide)) rfl D_l_next.g D_l_next.F.kp D_l_next.b .nil pass0 (pa_cons (pv 0) (pa_cons pe_int pa_nil)))) (pa_cons (pe_lst pa_nil) pa_nil))) (by rfl))
      (pss_cons (ps_for PassesOwn.never rfl (pi_range1 (by rfl) T.b_range (pa_cons (pe_call (G_l_next) (hr.mono (by decide)) rfl D_l_next.g D_l_next.F.kp D_l_next.b .nil pass0 (pa_cons (pv 0) (pa_cons (pv 2) pa_nil))) pa_nil)) (pg_name (i := 7) sc_l_state.nd rfl (Or.inl rfl)) (pss_cons (ps_par (i := 8) (j := 3) (by rfl) sc_l_state.nd rfl rfl (by decide) rfl rfl (pa_cons (pe_call (G_l_next) (hr.mono (by decide)) rfl D_l_next.g D_l_next.F.kp D_l_next.b .nil pass0 (pa_cons (pv 0) (pa_cons pe_int pa_nil))) (pa_cons (pe_call (G_l_next) (hr.mono (by decide)) rfl D_l_next.g D_l_next.F.kp D_l_next.b .nil pass0 (pa_cons (pv 0) (pa_cons (pe_callB (call_lenU (K := K)) (by rfl) T.b_len (by decide +kernel) (pa_cons (pv 1) pa_nil)) pa_nil))) pa_nil)) (by rfl))
      (pss_one (ps_if (PW.pt (pw_and (pt_cmpR (op_eqU (K := K) hu) (pv 8) pe_int (nomark _)) (pw_and1 (pt_cmpR (op_neU (K := K) hu) (pe_ix (ix_U (K := K)) (pv 4) (pv 3) (fun _ _ => rfl)) (pe_lst pa_nil) (nomark _))))) (pss_one (ps_expr (pe_call (G_l_depart) (hr.mono (by decide)) rfl D_l_depart.g D_l_depart.F.kp D_l_depart.b .nil pass0 (pa_cons (pv 1) (pa_cons (pv 4) (pa_cons (pv 3) (pa_cons (pv 6) pa_nil))))))) (pss_one (ps_if (PW.pt (pw_and (pt_cmpR (op_eqU (K := K) hu) (pv 8) pe_int (nomark _)) (pw_and1 (pt_cmpR (op_neU (K := K) hu) (pe_ix (ix_U (K := K)) (pv 4) (pv 3) (fun _ _ => rfl)) (pe_lst pa_nil) (nomark _))))) (pss_one (ps_expr (pe_bm PySem.F.plainAttrs_list PySem.F.slot_list_pop PySem.F.type_list_pop mt_popAt (pe_ix (ix_U (K := K)) (pv 4) (pv 3) (fun _ _ => rfl)) (pa_cons (pe_call (G_l_next) (hr.mono (by decide)) rfl D_l_next.g D_l_next.F.kp D_l_next.b .nil pass0 (pa_cons (pv 0) (pa_cons (pe_callB (call_lenU (K := K)) (by rfl) T.b_len (by decide +kernel) (pa_cons (pe_ix (ix_U (K := K)) (pv 4) (pv 3) (fun _ _ => rfl)) pa_nil)) pa_nil))) pa_nil)))) (pss_one (ps_if (PW.pt (pw_and (pt_cmpR (op_eqU (K := K) hu) (pv 8) pe_int (nomark _)) (pw_and1 (pt_cmpR (op_ltU) (pe_op (op_addU (K := K)) (pe_callB (call_lenU (K := K)) (by rfl) T.b_len (by decide +kernel) (pa_cons (pe_ix (ix_U (K := K)) (pv 4) (pv 3) (fun _ _ => rfl)) pa_nil)) pe_int) (pe_callB (call_lenU (K := K)) (by rfl) T.b_len (by decide +kernel) (pa_cons (pe_ix (ix_U (K := K)) (pv 1) (pv 3) (fun _ _ => rfl)) pa_nil)) (nomark _))))) (pss_cons (ps_expr (pe_bm PySem.F.plainAttrs_list PySem.F.slot_list_append PySem.F.type_list_append mt_append (pe_ix (ix_U (K := K)) (pv 4) (pv 3) (fun _ _ => rfl)) (pa_cons (pv 5) pa_nil)))
      (pss_one (ps_set (i := 5) sc_l_state.nd rfl (Or.inl rfl) (pe_op (op_addU (K := K)) (pv 5) pe_int)))) (pss_cons (ps_expr (pe_call (G_l_join) (hr.mono (by decide)) rfl D_l_join.g D_l_join.F.kp D_l_join.b .nil pass0 (pa_cons (pv 1) (pa_cons (pv 4) (pa_cons pe_int (pa_cons (pv 5) (pa_cons (pv 6) pa_nil)))))))
      (pss_one (ps_set (i := 5) sc_l_state.nd rfl (Or.inl rfl) (pe_op (op_addU (K := K)) (pv 5) pe_int))))))))))))
      (pss_one (ps_ret (pe_tup (pa_cons (pv 5) (pa_cons (pe_callTy (call_tupU (K := K)) (by rfl) T.b_tuple (by decide +kernel) (pa_cons (pe_lc (own := [("_law_queue", 9)]) (g := gName 9) (tt := tYes) rfl sc_l_state.nd (pi_U (K := K) (pv 4)) (blkOk_by (own := [("_law_queue", 9)]) (N := ["_law_h", "_law_network_here", "_law_most", "_law_station", "_law_queues", "_law_number", "_law_finished_here", "_law_k", "_law_kind", "_law_queue"]) (sc := defScope s_l_state) (by decide +kernel)) (fun _ _ _ _ _ => (pg_name (i := 9) sc_l_state.nd rfl (Or.inl rfl))) (fun _ _ _ _ _ => pts_nil) (fun _ _ _ _ _ => (pe_callTy (call_tupU (K := K)) (by rfl) T.b_tuple (by decide +kernel) (pa_cons (pv 9) pa_nil)))) pa_nil)) pa_nil))))))), ?_⟩
    walk_at "run"
    obtain ⟨vn, us, rfl, hU, hus⟩ := hN.at
    have hlu : us.length = N.length := by rw [hus.len, List.length_map]
    have hN1 := hD.pos
    have hN8 := hD.le
    have hJ : JN N := hD.jn (by decide)
    refine x_itT hU (lcl_it walk_tup (fun D i H' => ∃ as : List Addr, H' D = some (.lst (as.map V.ref)) ∧ as.length = i ∧ as.Nodup ∧ D ∉ as ∧ (∀ a ∈ as, H a = none ∧ H' a = some (.lst [])) ∧ Ex H H') (fun D H' hD e h => ⟨[], h, rfl, List.nodup_nil, by simp, by simp, e⟩) (fun D i H' _ ⟨_, _, _, _, _, _, e⟩ => ex_t e hU) ?_ ?_)
    · rintro D i x H2 H2' hDn hi ⟨as, hA, hl, nd, nm, has, e2⟩ ⟨eH, hx⟩
      subst eH
      walk_at "run"
      refine x_lst (by simp) fun t H3 nt e3 ht => x_push (e3 _ _ hA) (by rw [List.length_map]; omega) fun H4 e4 h4 => ?_
      have hDt : D ≠ t := ne_of_none hA nt
      have hta : t ∉ as := fun z => ne_of_none (has t z).2 nt rfl
      refine ⟨as ++ [t], by rw [h4, List.map_append]; rfl, by simp [hl], ?_, ?_, fun a ha => ?_, fun x o hx => e4 _ _ (ne_of_none hx hDn) (e3 _ _ (e2 _ _ hx))⟩
      · exact nd_snoc nd hta
      · simp [nm, hDt]
      · rcases List.mem_append.mp ha with ha | ha
        · exact ⟨(has a ha).1, e4 _ _ (fun z => nm (by rw [← z]; exact ha)) (e3 _ _ (has a ha).2)⟩
        · rw [List.mem_singleton.mp ha]
          exact ⟨fresh_back e2 nt, e4 _ _ hDt.symm ht⟩
    · rintro Qa H1 nQ ⟨as, hA, hl, nd, nm, has, e1⟩
      rw [hlu] at hl
      refine x_next (g0.ex e1) (by decide) (by decide) fun r H2 r0 r1 g2 e2 => ?_
      walk_at "run"
      refine x_lst (by simp) fun Fa H3 nF e3 hF3 => ⟨_, _, _, rfl, ?_⟩
      have nQh : Qa ≠ h ∧ Qa ≠ b := ⟨g0.na nQ, g0.nb nQ⟩
      have nah : ∀ a ∈ as, a ≠ h ∧ a ≠ b := fun a ha => ⟨g0.na (has a ha).1, g0.nb (has a ha).1⟩
      have hQ1 : QsAt K H1 Qa as (List.replicate N.length []) := ⟨hA, by rw [List.length_replicate]; exact hl, nd, nm, fun i a ha => by
        rw [(has a (List.mem_of_getElem? ha)).2, List.getD_eq_getElem?_getD]
        cases e : (List.replicate N.length ([] : List Int))[i]? with
        | none => rfl
        | some y => rw [List.eq_of_mem_replicate (List.mem_of_getElem? e)]; rfl⟩
      have hQ2 := (hQ1.ex2 e2 nQh nah).ex e3
      have ex3 : Ex2 h b H H3 := ((Ex2.of e1).trans e2).ex e3
      have hF0 : H Fa = none := fresh_back e1 (by
        cases e : H1 Fa with
        | none => rfl
        | some o =>
          by_cases z1 : Fa = h
          · obtain ⟨_, _, _, k1, _⟩ := g2
            rw [← z1, nF] at k1; cases k1
          · by_cases z2 : Fa = b
            · obtain ⟨_, _, _, _, k2, _⟩ := g2
              rw [← z2, nF] at k2; cases k2
            · have := e2 _ _ e z1 z2
              rw [nF] at this; cases this)
      have hQ2' := hQ1.ex2 e2 nQh nah
      have nw : Nw H h b Qa Fa as := ⟨g0, nQ, hF0, fun a ha => (has a ha).1, fun z => ne_of_none hQ2'.at_ nF z.symm, fun z => by
        obtain ⟨i, hi⟩ := List.mem_iff_getElem?.mp z
        exact ne_of_none (hQ2'.q i Fa hi) nF rfl⟩
      have flr : (List.replicate N.length ([] : List Int)).flatten = [] := by
        generalize N.length = n
        induction n with
        | zero => rfl
        | succ n ih => rw [List.replicate_succ, List.flatten_cons, ih]; rfl
      have W0 : LS K H H3 N h b Qa Fa as (List.replicate N.length []) [] (1 + r) 0 := ⟨g2.ex e3, hQ2, ⟨[], hF3, .nil⟩, ⟨List.length_replicate .., fun k hk => by
          have := (hJ.st k hk).1
          rw [List.getD_eq_getElem?_getD, List.getElem?_replicate, if_pos hk]
          show 0 < _
          omega⟩, by rw [flr]; exact List.nodup_nil, by rw [flr]; simp, by omega, by rw [flr]; simp, ex3⟩
      refine x_next W0.gen (by omega) (by omega) fun r2 H4 r20 r21 g4 e4 => ⟨_, rfl, by omega, by omega, ?_⟩
      refine loop_it walk_range (fun i σ H' => ∃ u3 u7 u8 u9 qs fs p, σ = [some (.ref h), some (.ref vn), some (.int most), u3, some (.ref Qa), some (.int p), some (.ref Fa), u7, u8, u9] ∧ LS K H H' N h b Qa Fa as qs fs p i) ⟨_, _, _, _, _, _, _, rfl, W0.dr nw g4 e4⟩ (fun _ _ _ _ _ => trivial) ?_ ?_
      · rintro i x σ H5 H5' hi ⟨u3, u7, u8, u9, qs, fs, p, rfl, W⟩ ⟨eH, rfl⟩
        subst eH
        have hi : i < 1000 := by omega
        show tSeq (tPar 8 3 _) (tFirst K) _ _ _
        walk_at "run"
        refine x_next W.gen (by decide) (by decide) fun kd H6 kd0 kd1 g6 e6 => ?_
        have W6 := W.dr nw g6 e6
        have t6 := nw.g.tx W6.ex
        refine x_lenT (t6.t hU) ?_
        rw [hlu]
        refine x_next W6.gen (by omega) (by omega) fun st H7 st0 st1 g7 e7 => ?_
        have W7 := W6.dr nw g7 e7
        obtain ⟨st, rfl⟩ : ∃ k : Nat, st = (k : Int) := ⟨st.toNat, by omega⟩
        refine ⟨_, _, rfl, ?_⟩
        exact state_first hJ (by omega) hN1 hU hus nw (by omega) (by omega) W7 fun p' qs' fs' H1 W' => ⟨_, _, _, _, _, _, _, rfl, W'⟩
      · rintro σ H5 ⟨u3, u7, u8, u9, qs, fs, p, rfl, W⟩
        walk_at "run"
        have hal : (as.map V.ref).length = as.length := List.length_map ..
        refine x_itL (SqL.of W.q.at_) (lcl_it walk_list (fun D i H' => ∃ ts, H' D = some (.lst ts) ∧ DpAll K H' ts ((qs.take i).map qD) ∧ Ex H5 H') (fun D H' hD e hd => ⟨[], hd, by simpa using DpAll.nil, e⟩) (fun D i H' _ ⟨_, _, _, e⟩ => ex_l e (SqL.of W.q.at_)) ?_ ?_)
        · rintro D i x H6 H6' hDn hi ⟨ts, hd, hts, e6⟩ ⟨eH, hx⟩
          subst eH
          have hia : i < as.length := by rw [List.length_map] at hi; exact hi
          have hiq : i < qs.length := by rw [← W.q.len]; exact hia
          obtain ⟨a, ha, hHa, _⟩ := W.q.get hiq
          obtain rfl : x = .ref a := by
            have : (as.map V.ref)[i]? = some (.ref a) := by simp only [List.getElem?_map, ha]; rfl
            rw [hx] at this
            exact Option.some.inj this
          walk_at "run"
          refine x_tupL (SqL.of (e6 _ _ hHa)) fun t H7 nt e7 ht => ?_
          have htl := hts.len
          rw [List.length_map, List.length_take] at htl
          have hql : qs.length = N.length := W.sh.len
          refine x_push (e7 _ _ hd) (by omega) fun H8 e8 h8 => ⟨_, h8, ?_, fun x o hx => e8 _ _ (ne_of_none hx hDn) (e7 _ _ (e6 _ _ hx))⟩
          have hDt : D ≠ t := ne_of_none hd nt
          have t8 : TX H6' H8 := (TX.of e7).trans (TX.but (e7 _ _ hd) e8)
          have htk : qs.take (i + 1) = qs.take i ++ [qs.getD i []] := by rw [List.take_add_one, getD_some hiq]; rfl
          rw [htk, List.map_append]
          refine DpAll.append (DpAll.tx t8 hts fun d hd => ?_) (.cons (.tup (SqT.of (e8 _ _ hDt.symm ht)) (ints_dp _)) .nil)
          obtain ⟨y, _, rfl⟩ := List.mem_map.mp hd
          exact qD_t y
        · rintro D H6 hDn ⟨ts, hd, hts, e6⟩
          have hql : qs.length = N.length := W.sh.len
          have hlq : qs.take (as.map V.ref).length = qs := by rw [hal, W.q.len, List.take_length]
          rw [hlq] at hts
          refine x_tupL (SqL.of hd) fun t H7 nt e7 ht => x_tup (by simp) fun t2 H8 nt2 e8 ht2 => ?_
          have e58 := (e6.trans e7).trans e8
          refine q _ p qs H8 ⟨W.pos, hql, fun k q' s h1 h2 => ?_, W.nd, W.rg⟩ (.tup (SqT.of ht2) (.cons (.int p) (.cons (.tup (SqT.of (e8 _ _ ht)) (DpAll.ex (e7.trans e8) hts)) .nil))) (W.gen.ex e58) (W.ex.ex e58)
          have hk := (List.getElem?_eq_some_iff.mp h2).1
          have := W.sh.lt k hk
          rw [List.getD_eq_getElem?_getD, h1, List.getD_eq_getElem?_getD, h2] at this
          exact this
end
end K
set_option Elab.async false
set_option linter.all false
set_option maxRecDepth 100000
set_option maxHeartbeats 4000000
/-! Sets of ints and texts that can be sorted. -/
namespace FB
open PySem PySem.Spec PyProof.Rows L2 Evl
/-- an element's key -/
def elKey (e : Int × Value) : Key := match e.2 with
  | .int k _ => .inl k
  | .str z _ => .inr z
  | _ => .inl 0
/-- the set at a by its keys; its table can be walked -/
structure Tbl (P : Program) (w : World) (es : Array (Int × Value)) (t : SetTable) (S : Key → Bool) : Prop where
  el : ElemsOf (mixKind P w) es.toList
  mem : ∀ k, S k = true ↔ ∃ e ∈ es.toList, (mixKind P w).is k e.2 = true
  nd : (es.toList.map elKey).Nodup
  few : es.size < scanBound
  fits : t.fits es.size = true
  ris : Ris t.place.toList
  led : w.params.followText "set-order" = true ∨ t.led = true
def SetM0 (P : Program) (w : World) (h : Heap) (a : Addr) (S : Key → Bool) (n : Nat) : Prop := ∃ o es ep t, h.get? a = some o ∧ o.ExactSet ∧ o.data = .set es ep t ∧ es.size = n ∧ Tbl P w es t S
def SetM (P : Program) (w : World) (a : Addr) (S : Key → Bool) (n : Nat) : HO := .ext fun h => SetM0 P w h a S n
section
variable {P : Program} {w : World} {h h' : Heap} {a : Addr} {S : Key → Bool} {n : Nat}
theorem is_elKey {e : Int × Value} {k : Key} (q : (mixKind P w).is k e.2 = true) : elKey e = k := by
  rcases keyIs_shape (show keyIs k e.2 = true from q) with ⟨i, t, ek, ev⟩ | ⟨z, t, ek, ev⟩
  · unfold elKey; rw [ev, ek]
  · unfold elKey; rw [ev, ek]
theorem SetM0.setOf (R : SetM0 P w h a S n) : h.SetOf (mixKind P w) a S n := by
  obtain ⟨o, es, ep, t, r1, r2, r3, r4, T⟩ := R
  exact ⟨o, es, ep, t, r1, r2, r3, T.el, T.mem, T.few, T.fits, r4⟩
theorem Tbl.key {es : Array (Int × Value)} {t : SetTable} (T : Tbl P w es t S) (k : Key) : S k = true ↔ k ∈ es.toList.map elKey := by
  rw [T.mem k, List.mem_map]
  constructor
  · rintro ⟨e, he, q⟩
    exact ⟨e, he, is_elKey q⟩
  · rintro ⟨e, he, q⟩
    obtain ⟨⟨k', hk', _⟩, _⟩ := T.el e he
    have := is_elKey hk'
    rw [q] at this
    exact ⟨e, he, by rw [this]; exact hk'⟩
theorem setM_obj {H : Hp} (R : SetM0 P w h a S n) : ObjOk P w H h a (SetM P w a S n) := by
  have ⟨o, _, _, _, ho, _⟩ := R
  exact ⟨R, ⟨o, ho⟩, fun _ _ ⟨o, es, ep, t, r1, r⟩ st => ⟨o, es, ep, t, st o r1, r⟩⟩
/-- a perm of the elements in another table is the same set -/
theorem Tbl.perm {es es2 : Array (Int × Value)} {t t2 : SetTable} (T : Tbl P w es t S) (pm : es2.toList.Perm es.toList) (hf : t2.fits es2.size = true) (hr : Ris t2.place.toList) (hl : w.params.followText "set-order" = true ∨ t2.led = true) : Tbl P w es2 t2 S :=
  have sz : es2.size = es.size := by rw [← Array.length_toList, pm.length_eq, Array.length_toList]
  ⟨T.el.perm pm, fun k => (T.mem k).trans ⟨fun ⟨e, he, q⟩ => ⟨e, pm.mem_iff.mpr he, q⟩, fun ⟨e, he, q⟩ => ⟨e, pm.mem_iff.mp he, q⟩⟩, (pm.map elKey).nodup_iff.mpr T.nd, by rw [sz]; exact T.few, hf, hr, hl⟩
end
section
variable {P : Program} {w : World} {A : Around} {E : Value → Shared → Prop} {s : Shared} {a : Addr} {S : Key → Bool} {n : Nat}
/-- the new table is stored, and laid anew where it is too full -/
theorem tbl_store {g : Bool → Sem Unit} (hg : ∀ (b : Bool) (s1 : Shared) (Q' : Unit → Shared → Prop), Q' () s1 → wpAny (model P w) A (g b) Q' E s1) {o : Obj} {es es1 : Array (Int × Value)} {ep : Nat} {t t1 : SetTable} {S1 : Key → Bool}
    (ho : s.heap.get? a = some o) (hx : o.ExactSet) (hd : o.data = .set es ep t) (T1 : Tbl P w es1 t1 S1) {dummy : Bool} {R : Option Bool → Shared → Prop} (hR : ∀ h', Heap.SameBut a s.heap h' → SetM0 P w h' a S1 es1.size → R (some true) { s with heap := h' }) :
    wpAny (model P w) A (do
        storeSet a es1 t1
        if (!dummy && t1.tooFull) = true then do
            g (relayAll t1 es1 (SetTable.grown es1.size)).2.2
            storeSet a (relayAll t1 es1 (SetTable.grown es1.size)).1 (relayAll t1 es1 (SetTable.grown es1.size)).2.1
            pure (some true)
          else pure (some true)) R E s := by
  have at1 := store_at (es' := es1) (t' := t1) ho hd
  have sb := Heap.SameBut.update s.heap a (Obj.putSet es1 t1)
  refine wpAny_bind (wpAny_storeSet_of ho hd ?_ (fits_of_scanBound T1.few))
  split
  · have p2 := relayAll_perm t1 es1 (SetTable.grown es1.size)
    have T2 := T1.perm p2 (relayAll_fits t1 es1 (SetTable.grown es1.size)) (relayAll_ris t1 es1 (SetTable.grown es1.size)) (T1.led.imp id fun z => by rw [relayAll_led]; exact z)
    have sz2 : (relayAll t1 es1 (SetTable.grown es1.size)).1.size = es1.size := by rw [← Array.length_toList, p2.length_eq, Array.length_toList]
    refine wpAny_bind (hg _ _ _ (wpAny_bind (wpAny_storeSet_of at1 rfl ?_ (fits_of_scanBound T2.few))))
    exact wpAny_pure (hR _ (sb.trans (Heap.SameBut.update _ a _)) ⟨_, _, _, _, store_at at1 rfl, hx, rfl, sz2, T2⟩)
  · exact wpAny_pure (hR _ sb ⟨_, es1, _, t1, at1, hx, rfl, rfl, T1⟩)
theorem setM_hashed {k : Key} {x : Value} {Q : Bool → Shared → Prop} (hk : (mixKind P w).is k x = true) (hsc : x.scannable = true) (R : SetM0 P w s.heap a S n) (room : n + 1 < scanBound)
    (hQ : ∀ h', Heap.SameBut a s.heap h' → SetM0 P w h' a (fun j => S j || decide (j = k)) (if S k = true then n else n + 1) → Q (!S k) { s with heap := h' }) :
    wpAny (model P w) A (setAddHashed a x ((mixKind P w).hash k)) Q E s := by
  obtain ⟨o, es, ep, t, ho, hx, hd, hn, T⟩ := R
  unfold setAddHashed setAddHashedIn
  refine wpAny_holding (wpAny_bind (wpAny_setState_of ho hd T.fits ?_))
  dsimp only
  rw [byScan_of hsc T.few T.el]
  simp only [↓reduceIte]
  unfold setAddByScan
  refine wpAny_bind (wpAny_bind (wpAny_rule (wpAny_bind (wpAny_setScan_of hk ho hd T.fits T.el ?_))))
  cases found : List.findIdx? (fun e => (mixKind P w).is k e.2) es.toList with
  | some j =>
    dsimp only
    obtain ⟨hj, pj, _⟩ := List.findIdx?_eq_some_iff_getElem.mp found
    have old : S k = true := (T.mem k).mpr ⟨es.toList[j], List.getElem_mem hj, pj⟩
    have same : (fun i => S i || decide (i = k)) = S := funext fun i => by
      by_cases z : i = k
      · rw [z, old]; rfl
      · rw [decide_eq_false z, Bool.or_false]
    have q := hQ s.heap (Heap.SameBut.refl a s.heap) (by rw [same, if_pos old]; exact ⟨o, es, ep, t, ho, hx, hd, hn, T⟩)
    rw [old] at q
    exact wpAny_pure (wpAny_pure q)
  | none =>
    dsimp only
    have new : ¬ k ∈ es.toList.map elKey := fun z => by
      obtain ⟨e, he, q⟩ := (T.mem k).mp ((T.key k).mpr z)
      have c := List.findIdx?_eq_none_iff.mp found e he
      rw [q] at c
      cases c
    have no : S k = false := by
      cases q : S k with
      | false => rfl
      | true => exact absurd ((T.key k).mp q) new
    have told : ∀ (b : Bool) {s1 : Shared} {Q' : Unit → Shared → Prop}, Q' () s1 → wpAny (model P w) A (match b with | true => rule "set.scan.the-table-gave-way" | false => pure ()) Q' E s1 :=
      fun b s1 Q' q => by cases b <;> first | exact wpAny_pure q | exact wpAny_rule q
    have pm := layNew_perm t es ((mixKind P w).hash k) x
    rw [Array.toList_push] at pm
    have pc := pm.trans (List.perm_append_singleton _ _)
    have hf := layNew_fits t es ((mixKind P w).hash k) x
    have hr := layNew_ris t es ((mixKind P w).hash k) x T.ris
    have hl := layNew_led t es ((mixKind P w).hash k) x
    generalize layNew t es ((mixKind P w).hash k) x = Z at pm pc hf hr hl ⊢
    obtain ⟨es1, t1, dummy, gave⟩ := Z
    dsimp only at pm pc hf hr hl ⊢
    have sz : es1.size = n + 1 := by rw [← Array.length_toList, pc.length_eq, List.length_cons, Array.length_toList, hn]
    have pk : (es1.toList.map elKey).Perm (k :: es.toList.map elKey) := by
      have := pc.map elKey
      rw [List.map_cons, is_elKey (e := ((mixKind P w).hash k, x)) hk] at this
      exact this
    have T1 : Tbl P w es1 t1 (fun j => S j || decide (j = k)) := ⟨(T.el.push hk hsc).perm pm, mem_push_iff hk T.mem pm, pk.nodup_iff.mpr (List.nodup_cons.mpr ⟨new, T.nd⟩), by rw [sz]; exact room, hf, hr, T.led.imp id fun z => by rw [hl]; exact z⟩
    have fin : ∀ h', Heap.SameBut a s.heap h' → SetM0 P w h' a (fun j => S j || decide (j = k)) es1.size → Q true { s with heap := h' } := fun h' sb r => by
      have q := hQ h' sb
      rw [no] at q
      rw [sz] at r
      exact q r
    have off : Tbl P w es1 { t1 with plain := false } (fun j => S j || decide (j = k)) := { T1 with fits := SetTable.fits_plain_off hf }
    refine wpAny_bind (told _ ?_)
    split
    · refine wpAny_bind ?_
      rw [hashByValue_scannable 8 hsc]
      refine wpAny_pure ?_
      refine tbl_store (fun b s1 Q' q => by cases b <;> first | exact wpAny_pure q | exact wpAny_rule q) ho hx hd (t1 := _) (S1 := fun j => S j || decide (j = k)) ?_ fun h' sb r => ?_
      · split
        · exact T1
        · exact off
      · dsimp only
        exact wpAny_pure (fin h' sb r)
    · refine wpAny_bind (wpAny_pure ?_)
      simp only [↓reduceIte]
      refine tbl_store (fun b s1 Q' q => by cases b <;> first | exact wpAny_pure q | exact wpAny_rule q) ho hx hd T1 fun h' sb r => ?_
      dsimp only
      exact wpAny_pure (fin h' sb r)
end
end FB
set_option Elab.async false
set_option linter.all false
set_option maxRecDepth 100000
set_option maxHeartbeats 4000000
/-! What a caught error says of itself. -/
namespace FB
open PySem PySem.Spec PyProof.Rows L2 Evl
/-! ### list.count of flat items -/
def rCntF (K : PySem.W.Frag) : V → List V → Hp → VK → Prop := fun x xs H Q => ∃ (a : Addr) (ys : List V) (y : V), x = .ref a ∧ xs = [y] ∧ SqL K H a ys ∧ flatV y = true ∧ ys.all flatV = true ∧ Q (.int (ys.countP (fun z => eqV z y) : Nat)) H
theorem count_flat {y : V} : ∀ {ys : List V} {us : List Value}, Vals ys us → ys.all flatV = true → us.countP (eqU y) = ys.countP (fun z => eqV z y)
  | _, _, .nil, _ => rfl
  | z :: ys, u :: us, .cons r rr, f => by
    rw [List.all_cons, Bool.and_eq_true] at f
    rw [List.countP_cons, List.countP_cons, count_flat rr f.2, eqU_of r f.1]
theorem mt_countF {X : Cx} : MtR X "list.count" (rCntF X.K) := by
  intro pins s σ H x xs v us Q I rx rxs h
  obtain ⟨a, ys, y, rfl, rfl, hs, fy, fys, q⟩ := h
  cases rx
  obtain ⟨uy, rfl, ry⟩ := rxs.one
  obtain ⟨its, rv, ⟨⟨cls, dd, data, sl⟩, n, ho, hc, hdn, hd⟩, hlen⟩ := I.list hs
  cases hc
  cases hd
  refine call_meets PySem.F.slot_list_count ⟨_, ho, rfl⟩ PySem.F.entry_list_count (PySem.F.args_list_count_2 _ _)
    (SeqAt.list_countAt a its.toArray n dd sl uy (eqU y)) ⟨ho, fun u hu => mem_eqAt ry fy rv fys u (List.mem_toArray.mp hu), ?_⟩
  rw [show its.toArray.toList.countP (eqU y) = ys.countP (fun z => eqV z y) from count_flat rv fys]
  exact ⟨.int (ys.countP (fun z => eqV z y) : Nat), H, I.tok _, ⟨_, rfl⟩, q⟩
/-! ### isinstance of the caught error -/
/-- what an own error class says of itself -/
structure ErC (K : PySem.W.Frag) (D : Addr) : Prop where
  cl : (PySem.W.clsIn K D).isSome = true
  ga : PySem.W.findIn K (.ref D) "__getattribute__" = some (some (.builtin "BaseException.__getattribute__"))
  gt : PySem.W.findIn K (.ref D) "__getattr__" = some none
  sb : PySem.W.subIn K (.ref D) (.type "BaseException") = some true
  ca : PySem.W.findIn K (.ref D) "__class__" = some (some (.builtin "object.__class__"))
  sp : PySem.W.specialIn K (.builtin "object.__class__") "__get__" = some (some (.builtin "getset_descriptor.__get__"))
  tk : PySem.W.takesIn K (.builtin "object.__class__") = some true
  mr : PySem.W.mroIn K D (.type "object") = some true
/-- the error's own dict, if it has one, stands -/
def HasD (H : Hp) (d : Option Addr) : Prop := d = none ∨ ∃ dd fs, d = some dd ∧ H dd = some (.xd fs)
def rIsX (K : PySem.W.Frag) (cls : Value) (d : Option Addr) (a : Addr) : List V → Hp → VK → Prop := fun xs H Q => ∃ (c : V) (cv : Value) (b : Bool) (D : Addr), xs = [.ref a, c] ∧ (∀ u, RelV c u → u = cv) ∧ cls = .ref D ∧ ErC K D ∧ HasD H d ∧ PySem.W.kitOne K (.ref D) cv = some b ∧ Q (.bl b) H
theorem call_isX {X : Cx} {a : Addr} {oe : Obj} {cls : Value} {d : Option Addr} {pn : List (Addr × Obj)} (hz : Zc cls d oe) (hf : ∃ vs, oe.data = .fields vs) {K : PySem.W.Frag} (hK : X.K = K := by rfl) : CallR (X.suite a ((a, oe) :: pn)) (.builtin "isinstance") (rIsX K cls d a) := by
  subst hK
  intro pins s σ H xs us Q I r h
  obtain ⟨c, cv, b, D, rfl, hcv, rfl, C, hD, e, q⟩ := h
  cases r with
  | cons rx rr =>
    cases rr with
    | cons rt rr =>
      cases rr
      cases rx
      obtain rfl := hcv _ rt
      obtain ⟨ha, _⟩ := I.pin (a, oe) (List.mem_append_left _ List.mem_cons_self)
      obtain ⟨vs, hv⟩ := hf
      have nc : PySem.W.notCls oe := by unfold PySem.W.notCls; rw [hv] <;> rfl
      have J : ∃ od, PySem.W.InstAt s.heap a oe D od := by
        rcases hD with rfl | ⟨dd, fs, rfl, hx⟩
        · exact ⟨none, ha, hz.1, nc, by rw [hz.2]; trivial⟩
        · obtain ⟨mA, hns, _⟩ : ObjOk X.prog X.w H s.heap dd (.xd fs) := I.hok dd _ hx
          obtain ⟨od, ho, _⟩ := lookIn_ns hns
          exact ⟨some od, ha, hz.1, nc, by rw [hz.2]; exact ho⟩
      obtain ⟨od, J⟩ := J
      exact PySem.W.kia_one (PySem.W.kitx_exc C.cl C.ga C.gt C.sb C.ca C.sp C.tk C.mr) I.kIn J e (fun z => nomatch z) fun tk => ⟨.bl b, H, I.tok _, rfl, q⟩
/-- a stronger wish does as well; the slots are as many as the names -/
theorem pss_impI {X : Cx} {b : List Stmt} {t t' : TS} (h : PSs X b t) (k : ∀ D σ H, σ.length = X.N.length → t' D σ H → t D σ H) : PSs X b t' :=
  ⟨fun pins s σ H D I q => h.run pins s σ H D I (k D σ H I.len q)⟩
/-! ### == and != of ints and texts alone -/
section
variable {H : Hp} {Q : VK} {i j : Int} {z z2 : Str}
theorem x_rEqS : rEq (.str z) (.str z2) H Q ↔ Q (.bl (decide (z = z2))) H := by
  have e0 : decide (V.str z = V.str z2) = decide (z = z2) := by simp
  constructor
  · rintro ⟨_, h⟩; rw [e0] at h; exact h
  · exact fun h => ⟨rfl, by rw [e0]; exact h⟩
theorem x_rNeI : rNe (.int i) (.int j) H Q ↔ Q (.bl (!decide (i = j))) H := by
  have e0 : decide (V.int i = V.int j) = decide (i = j) := by simp
  constructor
  · rintro ⟨_, h⟩; rw [e0] at h; exact h
  · exact fun h => ⟨rfl, by rw [e0]; exact h⟩
end
theorem x_extend {H : Hp} {Q : VK} {l b : Addr} {xs zs : List V} (h1 : H l = some (.lst xs)) (h2 : H b = some (.lst zs)) (hl : xs.length + zs.length ≤ 1000000) (k : ∀ H', (∀ x o, x ≠ l → H x = some o → H' x = some o) → H' l = some (.lst (xs ++ zs)) → Q .non H') : rExtend (.ref l) [.ref b] H Q :=
  ⟨l, b, xs, zs, rfl, rfl, h1, h2, small hl, k _ (fun x o hx h => by rw [upd_ne hx]; exact h) upd_same⟩
/-! ### a tuple's slices -/
theorem x_cutT {K : PySem.W.Frag} {H : Hp} {Q : VK} {a : Addr} {xs : List V} {lo hi : Option Int} (h : SqT K H a xs) (k : ∀ t H', Ex H H' → SqT K H' t (cutV xs lo hi) → Q (.ref t) H') : rSlU K (.ref a) lo hi H Q :=
  .inr ⟨a, xs, rfl, h, fun ⟨e1, e2⟩ => k a H (fun _ _ h => h) (by
    have : cutV xs lo hi = xs := by
      unfold cutV
      rw [e1, e2]
      simp
    rw [this]; exact h), fun _ p hp => k p _ (Ex.new hp) (SqT.of upd_same)⟩
theorem cut_take {xs : List V} {j : Nat} (h : j ≤ xs.length) : cutV xs none (some (j : Int)) = xs.take j := by
  unfold cutV
  rw [HT.sIx_none, HT.sIx_nat, Nat.min_eq_left h]; rfl
theorem cut_drop {xs : List V} {j : Nat} (h : j ≤ xs.length) : cutV xs (some (j : Int)) none = xs.drop j := by
  unfold cutV
  rw [HT.sIx_none, HT.sIx_nat, Nat.min_eq_left h]
  exact List.take_of_length_le (by rw [List.length_drop]; omega)
/-! ### the errors -/
def kinds (i : Nat) : List V := (List.range 13).map fun j => .bl (decide (i = j))
theorem kinds_count : ∀ i, i < 13 → (kinds i).countP (fun z => eqV z (.bl true)) = 1 := by decide
theorem kinds_at : ∀ i, i < 13 → (kinds i)[i]? = some (.bl true) := by decide
theorem kinds_not : ∀ i, i < 13 → ∀ m, m < 13 → m < i → (kinds i)[m]? = some (.bl false) := by decide
/-- the words for the errors, in the order of their classes -/
def errWords : List Str := ["network", "state", "count", "station", "seat", "port", "passenger", "empty", "rates", "lengths", "passengers", "many", "contradiction"]
def errNames : List Str := ["InvalidNetwork", "InvalidState", "InvalidCount", "UnknownStation", "UnknownSeat", "UnknownPort", "UnknownPassenger", "EmptyBoat", "InvalidRates", "InvalidLengths", "InvalidPassengers", "TooManyCandidates", "Contradiction"]
theorem words_at : ∀ i, i < 13 → (errWords.map V.str)[i]? = some (.str (errWords.getD i "")) := by decide
theorem words_first : ∀ i, i < 13 → i ≠ 0 → errWords.getD i "" ≠ "network" := by decide
/-- the error classes: C i is the i-th, CF is above all -/
structure Errs (K : PySem.W.Frag) (mg : Str → Option Value) (CF : Addr) (C : Nat → Addr) : Prop where
  gF : mg "FerryError" = some (.ref CF)
  g : ∀ i, i < 13 → mg (errNames.getD i "") = some (.ref (C i))
  b_ValueError : mg "ValueError" = none
  c : ∀ i, i < 13 → ErC K (C i)
  isi : ∀ i j, i < 13 → j < 13 → PySem.W.kitOne K (.ref (C i)) (.ref (C j)) = some (decide (i = j))
  isv : ∀ i, i < 13 → PySem.W.kitOne K (.ref (C i)) (.type "ValueError") = some true
  exF : ∀ i, i < 13 → PySem.W.exmOne K (.ref (C i)) (.ref CF) = some true
  xf : XfC K (C 0)
  no_station : PySem.W.findIn K (.ref (C 0)) "station" = some none
  no_seat : PySem.W.findIn K (.ref (C 0)) "seat" = some none
/-- the i-th error, with fields if it is the first -/
def ErrIs (C : Nat → Addr) (i : Nat) (st se : V) (cls : Value) (d : Option Addr) (H : Hp) : Prop := cls = .ref (C i) ∧ (if i = 0 then ∃ dd, d = some dd ∧ H dd = some (.xd [("seat", se), ("station", st)]) else d = none)
theorem ErrIs.has {C : Nat → Addr} {i : Nat} {st se : V} {cls : Value} {d : Option Addr} {H : Hp} (h : ErrIs C i st se cls d H) : HasD H d := by
  obtain ⟨_, h⟩ := h
  split at h
  · obtain ⟨dd, rfl, hx⟩ := h; exact .inr ⟨dd, _, rfl, hx⟩
  · exact .inl h
/-- what is told of it -/
def errTell (i : Nat) (st se : V) : List V := if i = 0 then [.str "network", st, se] else [.str (errWords.getD i "")]
theorem x_isX {K : PySem.W.Frag} {mg : Str → Option Value} {CF : Addr} {C : Nat → Addr} {cls : Value} {d : Option Addr} {a : Addr} {i : Nat} {st se : V} {H0 H : Hp} {Q : VK} (R : Errs K mg CF C) (hi : i < 13) (e : ErrIs C i st se cls d H0) (f : Ex H0 H) (j : Nat) (hj : j < 13) (q : Q (.bl (decide (i = j))) H) : rIsX K cls d a [.ref a, .ref (C j)] H Q := by
  refine ⟨_, _, _, C i, rfl, fun u r => r, e.1, R.c i hi, ?_, R.isi i j hi hj, q⟩
  rcases e.has with h | ⟨dd, fs, h, hx⟩
  · exact .inl h
  · exact .inr ⟨dd, fs, h, f _ _ hx⟩
theorem x_isV {K : PySem.W.Frag} {mg : Str → Option Value} {CF : Addr} {C : Nat → Addr} {cls : Value} {d : Option Addr} {a : Addr} {i : Nat} {st se : V} {H0 H : Hp} {Q : VK} (R : Errs K mg CF C) (hi : i < 13) (e : ErrIs C i st se cls d H0) (f : Ex H0 H) (q : Q (.bl true) H) : rIsX K cls d a [.ref a, .ty "ValueError"] H Q := by
  refine ⟨_, _, _, C i, rfl, fun u r => r, e.1, R.c i hi, ?_, R.isv i hi, q⟩
  rcases e.has with h | ⟨dd, fs, h, hx⟩
  · exact .inl h
  · exact .inr ⟨dd, fs, h, f _ _ hx⟩
end FB
set_option Elab.async false
set_option linter.all false
set_option maxRecDepth 100000
set_option maxHeartbeats 1000000
/-! Tables of code objects through a law; a def whose code object is known. -/
namespace FB
open PySem PySem.Spec PyProof.Rows L2 Evl LamX
/-- all but the source of draws and the tables stands -/
def ExN (a b : Addr) (H H' : Hp) : Prop := ∀ x o, H x = some o → x ≠ a → x ≠ b → (∀ ps, o ≠ .tbl ps) → H' x = some o
section
variable {H H1 H2 : Hp} {a b : Addr} {T : List (Addr × Str)}
theorem ExN.of2 (e : Ex2 a b H H1) : ExN a b H H1 := fun x o h h1 h2 _ => e x o h h1 h2
theorem ExN.trans (e : ExN a b H H1) (f : ExN a b H1 H2) : ExN a b H H2 := fun x o h h1 h2 n => f x o (e x o h h1 h2 n) h1 h2 n
theorem ExN.ofN (e : ExtN H H1) : ExN a b H H1 := fun x o h _ _ n => e x o h n
theorem ExN.ex (e : ExN a b H H1) (f : Ex H1 H2) : ExN a b H H2 := fun x o h h1 h2 n => f x o (e x o h h1 h2 n)
theorem eqv_tell {a b : Str} : PyData.eqv (.tuple [.str a]) (.tuple [.str b]) = decide (a = b) := by
  simp only [PyData.eqv, PyData.eqvAll, Bool.and_true]
  by_cases h : a = b
  · simp [h]
  · simp [h]
theorem sh_tell {y : Str} (h : PyData.strOk y = true) : SeqAt.shaped (.tuple [.str y]) = true := by
  unfold SeqAt.shaped
  simp [PyData.canLay0, PyData.canLayAll0, PyData.depth, PyData.depthAll, h]
theorem shIntsT (ns : List Int) : SeqAt.shaped (.tuple (ns.map PyData.int)) = true := by
  have h1 : PyData.canLayAll0 (ns.map PyData.int) = true := layAll fun d hd => by
    obtain ⟨i, _, rfl⟩ := List.mem_map.mp hd; rfl
  have h2 : PyData.depthAll (ns.map PyData.int) ≤ 1 := depthAll_le fun d hd => by
    obtain ⟨i, _, rfl⟩ := List.mem_map.mp hd; simp [PyData.depth]
  have h3 : (PyData.tuple (ns.map PyData.int)).depth ≤ 64 := by rw [PyData.depth]; omega
  unfold SeqAt.shaped
  rw [show (PyData.tuple (ns.map PyData.int)).canLay0 = true by rw [PyData.canLay0]; exact h1]
  simpa using h3
theorem eqv_emptyT (ns : List Int) : PyData.eqv (.tuple (ns.map PyData.int)) (.tuple []) = decide (ns = []) := by
  cases ns with
  | nil => simp [PyData.eqv, PyData.eqvAll]
  | cons a r => simp [PyData.eqv, PyData.eqvAll]
/-- x == (), a tuple of ints -/
theorem x_eqEmptyT {K : PySem.W.Frag} {Q : VK} {x : V} {ns : List Int} (h : Dp K H x (.tuple (ns.map PyData.int))) (k : ∀ H', Ex H H' → Q (.bl (decide (ns = []))) H') : rTup [] H fun z H2 => rEqU K x z H2 Q :=
  x_tup (by simp) fun t H1 n e h1 => x_eqD (Dp.ex e h) (.tup (SqT.of h1) .nil) (shIntsT ns) rfl (by rw [eqv_emptyT]; exact k H1 e)
/-- what was told is compared -/
theorem x_tell {K : PySem.W.Frag} {Q : VK} {p : Addr} {x y : Str} (h : H p = some (.tup [.str x])) (hx : PyData.strOk x = true) (hy : PyData.strOk y = true) (k : ∀ H', Ex H H' → Q (.bl (decide (x = y))) H') : rTup [.str y] H fun z H2 => rEqU K (.ref p) z H2 Q :=
  x_tup (by simp) fun t H1 n e h1 => x_eqD (d := .tuple [.str x]) (e := .tuple [.str y]) (.tup (SqT.of (e _ _ h)) (.cons (.str x) .nil)) (.tup (SqT.of h1) (.cons (.str y) .nil)) (sh_tell hx) (sh_tell hy) (by rw [eqv_tell]; exact k H1 e)
/-- tables are neither lists -/
theorem tabs_ex2 {xs ys : List V} (ha : H a = some (.lst xs)) (hb : H b = some (.lst ys)) (t : Tabs T H) (e : Ex2 a b H H1) : Tabs T H1 := fun p hp => by
  obtain ⟨ps, h1, h2, h3⟩ := t p hp
  have ne : ∀ (x : Addr) (o : HO) (zs : List V) (y : Addr), H y = some (.lst zs) → H x = some o → o ≠ .lst zs → x ≠ y := fun x o zs y hy hx hn z => hn (by rw [z, hy] at hx; exact (Option.some.inj hx).symm)
  have cne : ∀ (c : Addr) (q : Str) (zs : List V), CodeO c q ≠ .lst zs := fun c q zs z => by unfold CodeO at z; cases z
  refine ⟨ps, e _ _ h1 (ne _ _ _ _ ha h1 (by simp)) (ne _ _ _ _ hb h1 (by simp)), h2, fun pos cv hc => ?_⟩
  obtain ⟨c, e1, e2⟩ := h3 pos cv hc
  exact ⟨c, e1, e _ _ e2 (ne _ _ _ _ ha e2 (cne _ _ _)) (ne _ _ _ _ hb e2 (cne _ _ _))⟩
theorem extN_t {K : PySem.W.Frag} {xs : List V} (e : ExtN H H1) (h : SqT K H a xs) : SqT K H1 a xs := by
  rcases h with (h | ⟨o, h⟩) | h
  · exact .inl (.inl (e _ _ h (by simp)))
  · exact .inl (.inr ⟨o, e _ _ h (by simp)⟩)
  · exact .inr h
theorem extN_tx (e : ExtN H H1) : TX H H1 := fun x o h c => e x o h (fun ps z => by rw [z] at c; exact c)
end
section
variable {P : Program} {w : World} {K : PySem.W.Frag} {mg : Str → Option Value} {base : Heap}
/-- a def of the code object c -/
theorem okC {c : Addr} {x qual : Str} {st : Stmt} {f : Addr} {fd : FuncData} {N ps : List Str} {k : Nat} {sp : Sp} (F : Fun K x qual st f fd) (hc : fd.code = .ref c) (S : FnScope N ps (defScope st)) (len : ∀ vs H Q E, sp vs H Q E → vs.length = ps.length)
    (hbody : ∀ (A : Around) (outer : List Env) (s : Shared) (H : Hp) (vs : List V) (Q : VK) (E : XK), Room k (A.deeper (envOfC qual (defScope st) s.heap.objs.size f (.ref c))) → sp vs H Q E →
      ∃ t, PSs (cxOf CX0 P w K mg base N qual (defScope st) f (.ref c) A outer s H E).nox (defBody st) t ∧ t { nx := fun _ H' => Q .non H', rt := Q } (L2.start N vs) H) : FnOk P w K mg base CX0 (k + 1) f fd ps sp := by
  obtain ⟨oc, od, kV, doc, pm, an, cdv, ct, osl, rfl, lk, hcd⟩ := F.ex
  obtain rfl : cdv = .ref c := hc
  exact fn_of lk hcd S len fun A outer s H vs Q E hr hsp => by
    obtain ⟨t, h, q⟩ := hbody A outer s H vs Q E hr hsp
    exact ⟨t, h.nox, q⟩
end
end FB
set_option Elab.async false
set_option linter.all false
set_option maxRecDepth 100000
set_option maxHeartbeats 4000000
set_option exponentiation.threshold 3000
/-! Sets of ints and texts: made, filled, asked, sorted; {x}; gcd, lcm. -/
namespace FB
open PySem PySem.Spec PyProof.Rows L2 Evl
section
variable {P : Program} {w : World} {A : Around} {E : Value → Shared → Prop} {s : Shared} {a : Addr} {S : Key → Bool} {n : Nat}
theorem setM_fresh {h : Heap} : SetM0 P w (h.push { cls := .type "set", dict := none, data := .set #[] 0 (.fresh 0 0 (!w.params.followText "set-order")) }) h.objs.size (fun _ => false) 0 :=
  ⟨_, #[], 0, _, Heap.get?_push_size _ rfl, ⟨rfl, rfl, rfl⟩, rfl, rfl, ⟨fun e he => by simp at he, fun k => by simp, by simp, by decide, by rfl, List.Pairwise.nil, by
    show _ ∨ (!w.params.followText "set-order") = true
    cases w.params.followText "set-order" <;> simp⟩⟩
theorem setM_at {h h' : Heap} (R : SetM0 P w h a S n) (k : ∀ o, h.get? a = some o → h'.get? a = some o) : SetM0 P w h' a S n := by
  obtain ⟨o, es, ep, t, ho, r⟩ := R
  exact ⟨o, es, ep, t, k o ho, r⟩
theorem setM_add {k : Key} {x : Value} {Q : Value → Shared → Prop} (hk : (mixKind P w).is k x = true) (hsc : x.scannable = true) (R : SetM0 P w s.heap a S n) (room : n + 1 < scanBound)
    (q : ∀ h', Heap.SameBut a s.heap h' → SetM0 P w h' a (fun j => S j || decide (j = k)) (if S k = true then n else n + 1) → Q .none { s with heap := h', toks := s.toks + 1 }) :
    wpAny (model P w) A (call (.builtin "set.add") [.ref a, x]) Q E s := by
  refine wpAny_call_entry PySem.F.slot_set_add R.setOf.typeIs PySem.F.entry_set_add ?_ (PySem.F.args_set_add_2 _ _)
  unfold Builtin.«set.add» Builtin.Frozenset.oneOther; simp only [List.isEmpty_nil, bind_assoc]
  unfold Builtin.Frozenset.addrOf setAdd; refine wpAny_bind (wpAny_pure ?_)
  try dsimp only
  refine wpAny_bind (wpAny_pure ?_)
  try dsimp only
  refine wpAny_bind (wpAny_holding (wpAny_bind ((mixKind P w).pyHash hk (setM_hashed (s := { s with toks := s.toks + 1 }) hk hsc R room fun g sb r => ?_))))
  show wpAny (model P w) _ (ret Value.none) _ _ _
  exact wpAny_pure ⟨_, rfl, q g sb r⟩
/-- the members, sorted: ints -/
theorem setM_sortedI {Q : Value → Shared → Prop} (R : SetM0 P w s.heap a S n) (hh : A.handled = none) (hI : ∀ k, S k = true → ∃ i : Int, k = .inl i)
    (q : ∀ s' p (out : Array Value) (c : Nat) (ns : List Int), (∀ b o, s.heap.get? b = some o → s'.heap.get? b = some o) → s'.gens = s.gens → s'.os = s.os → s.heap.objs.size ≤ p →
      s'.heap.get? p = some (seqObj "list" out c) → IntsAre out.toList ns → ns.Pairwise (· < ·) → (∀ i : Int, i ∈ ns ↔ S (.inl i) = true) → ns.length = n → Q (.ref p) s') :
    wpAny (model P w) A (call (.builtin "sorted") [.ref a]) Q E s := by
  obtain ⟨o, es, ep, t, ho, hx, hd, hn, T⟩ := R
  have hlen : es.toList.length = n := by rw [Array.length_toList]; exact hn
  have few := T.few
  refine Calls.call_function_entry kind_sorted plain_sorted entry_sorted (args_sorted1 _) (show wpAny (model P w) _ (Builtin.«sorted» _) _ _ _ from ?_)
  unfold Builtin.«sorted»; refine wpAny_bind (m := checkCount "sorted" 1 1 _) (wpAny_pure (wpAny_bind (collect_set (A := A.in1) hh ⟨o, ho, hx.1, hd⟩ T.fits T.few T.ris T.led fun s1 vs k1 hz g1 o1 pm => ?_)))
  have vl : vs.length = n := by rw [pm.length_eq, List.length_map]; exact hlen
  have el : ∀ e ∈ es.toList, ∃ (i : Int) (tk : Tok), e.2 = .int i tk ∧ elKey e = .inl i := fun e he => by
    obtain ⟨⟨k, hk, _⟩, _⟩ := T.el e he
    obtain ⟨i, rfl⟩ := hI k ((T.mem k).mpr ⟨e, he, hk⟩)
    rcases keyIs_shape (show keyIs (.inl i) e.2 = true from hk) with ⟨j, tk, ek, ev⟩ | ⟨z, tk, ek, ev⟩
    · cases ek; exact ⟨i, tk, ev, is_elKey hk⟩
    · cases ek
  have hin : IntsAre vs (vs.map Builtin.Re.reRawOf) := ints_of vs fun v hv => by
    obtain ⟨e, he, rfl⟩ := List.mem_map.mp (pm.mem_iff.mp hv)
    obtain ⟨i, tk, ev, _⟩ := el e he
    exact ⟨i, tk, ev⟩
  have pk : (vs.map Builtin.Re.reRawOf).Perm (es.toList.map fun e => Builtin.Re.reRawOf e.2) := by
    have := pm.map Builtin.Re.reRawOf
    rwa [List.map_map] at this
  refine wpAny_bind (wpAny_newList ?_ (by rw [vl, ← hlen, sizeLine_eq, Array.length_toList]; unfold scanBound at few; omega))
  have oL : (s1.heap.push (seqObj "list" vs.toArray 0)).get? s1.heap.objs.size = some (seqObj "list" vs.toArray 0) := Heap.get?_push_size _ rfl
  refine wpAny_bind (wpAny_holding (wpAny_call_entry PyProof.Rows.slot_list_sort ⟨_, oL, rfl⟩ PyProof.Rows.entry_list_sort (list_sort_treeAny oL hin (by rw [vl, ← hlen, sizeLine_eq, Array.length_toList]; unfold scanBound at few; omega) fun out ns b1 b2 b3 => ⟨_, rfl, ?_⟩) (args_list_sort _)))
  obtain ⟨c, hc⟩ := sortedHeap_at (vs := vs) (out := out) oL
  have pn : ns.Perm (es.toList.map fun e => Builtin.Re.reRawOf e.2) := b2.trans pk
  have raw : ∀ e ∈ es.toList, elKey e = .inl (Builtin.Re.reRawOf e.2) := fun e he => by
    obtain ⟨i, tk, ev, ek⟩ := el e he
    rw [ek, ev]; rfl
  have mk : es.toList.map elKey = (es.toList.map fun e => Builtin.Re.reRawOf e.2).map Sum.inl := by
    rw [List.map_map]; exact List.map_congr_left fun e he => raw e he
  have nd : (es.toList.map fun e => Builtin.Re.reRawOf e.2).Nodup := by
    have := T.nd
    rw [mk] at this
    exact (List.pairwise_map.mp this).imp fun h e => h (by rw [e])
  refine wpAny_pure ⟨_, rfl, q _ s1.heap.objs.size out c ns (fun b u e => ?_) g1 o1 hz hc b1 (lt_of_le_nodup ns b3 (pn.nodup_iff.mpr nd)) (fun i => ?_) (by rw [pn.length_eq, List.length_map]; exact hlen)⟩
  · have e1 := k1 b u e
    have lb := Heap.lt_size e1
    show (sortedHeap (s1.heap.push (seqObj "list" vs.toArray 0)) s1.heap.objs.size vs out).get? b = some u
    rw [sortedHeap_old (Nat.ne_of_lt lb) (by rw [size_push']; exact Nat.lt_succ_of_lt lb)]; exact Heap.get?_push_of_some _ e1
  · rw [pn.mem_iff, T.key, mk]
    simp
theorem strs_of : ∀ (l : List Value), (∀ v ∈ l, ∃ k tk, v = Value.str k tk) → ∃ ss : List Str, StrsAre l ss ∧ ∀ z, z ∈ ss ↔ ∃ tk, Value.str z tk ∈ l
  | [], _ => ⟨[], .nil, fun z => by simp⟩
  | v :: l, h => by
    obtain ⟨k, tk, rfl⟩ := h v (List.mem_cons_self ..)
    obtain ⟨ss, h1, h2⟩ := strs_of l fun u hu => h u (List.mem_cons_of_mem _ hu)
    refine ⟨k :: ss, .cons k tk h1, fun z => ?_⟩
    rw [List.mem_cons, h2]
    constructor
    · rintro (rfl | ⟨t, ht⟩)
      · exact ⟨tk, List.mem_cons_self ..⟩
      · exact ⟨t, List.mem_cons_of_mem _ ht⟩
    · rintro ⟨t, ht⟩
      rcases List.mem_cons.mp ht with e | e
      · cases e; exact .inl rfl
      · exact .inr ⟨t, e⟩

/-- the members, sorted: texts -/
theorem setM_sortedS {Q : Value → Shared → Prop} (R : SetM0 P w s.heap a S n) (hh : A.handled = none) (hI : ∀ k, S k = true → ∃ z : Str, k = .inr z)
    (q : ∀ s' p (out : Array Value) (c : Nat) (zs : List Str), (∀ b o, s.heap.get? b = some o → s'.heap.get? b = some o) → s'.gens = s.gens → s'.os = s.os → s.heap.objs.size ≤ p →
      s'.heap.get? p = some (seqObj "list" out c) → StrsAre out.toList zs → sortedS zs = true → zs.Nodup → (∀ z : Str, z ∈ zs ↔ S (.inr z) = true) → zs.length = n → Q (.ref p) s') :
    wpAny (model P w) A (call (.builtin "sorted") [.ref a]) Q E s := by
  obtain ⟨o, es, ep, t, ho, hx, hd, hn, T⟩ := R
  have hlen : es.toList.length = n := by rw [Array.length_toList]; exact hn
  have few := T.few
  refine Calls.call_function_entry kind_sorted plain_sorted entry_sorted (args_sorted1 _) (show wpAny (model P w) _ (Builtin.«sorted» _) _ _ _ from ?_)
  unfold Builtin.«sorted»; refine wpAny_bind (m := checkCount "sorted" 1 1 _) (wpAny_pure (wpAny_bind (collect_set (A := A.in1) hh ⟨o, ho, hx.1, hd⟩ T.fits T.few T.ris T.led fun s1 vs k1 hz g1 o1 pm => ?_)))
  have vl : vs.length = n := by rw [pm.length_eq, List.length_map]; exact hlen
  have el : ∀ e ∈ es.toList, ∃ (z : Str) (tk : Tok), e.2 = .str z tk ∧ elKey e = .inr z := fun e he => by
    obtain ⟨⟨k, hk, _⟩, _⟩ := T.el e he
    obtain ⟨z, rfl⟩ := hI k ((T.mem k).mpr ⟨e, he, hk⟩)
    rcases keyIs_shape (show keyIs (.inr z) e.2 = true from hk) with ⟨j, tk, ek, ev⟩ | ⟨y, tk, ek, ev⟩
    · cases ek
    · cases ek; exact ⟨z, tk, ev, is_elKey hk⟩
  obtain ⟨ss, hS, hm⟩ := strs_of vs fun v hv => by
    obtain ⟨e, he, rfl⟩ := List.mem_map.mp (pm.mem_iff.mp hv)
    obtain ⟨z, tk, ev, _⟩ := el e he
    exact ⟨z, tk, ev⟩
  refine wpAny_bind (wpAny_newList ?_ (by rw [vl, ← hlen, sizeLine_eq, Array.length_toList]; unfold scanBound at few; omega))
  have oL : (s1.heap.push (seqObj "list" vs.toArray 0)).get? s1.heap.objs.size = some (seqObj "list" vs.toArray 0) := Heap.get?_push_size _ rfl
  refine wpAny_bind (wpAny_holding (wpAny_call_entry PyProof.Rows.slot_list_sort ⟨_, oL, rfl⟩ PyProof.Rows.entry_list_sort (list_sort_treeKAny strKind_oneLt oL hS.keysOf (fun v₁ v₂ rest e => keyKind_strs (by rw [← e]; exact hS)) (by rw [vl, ← hlen, sizeLine_eq, Array.length_toList]; unfold scanBound at few; omega) fun st' b1 b2 => ⟨_, rfl, ?_⟩) (args_list_sort _)))
  obtain ⟨zs, c1, c2, c3⟩ := sorted_out_str hS b1 b2
  obtain ⟨c, hc⟩ := sortedHeap_at (vs := vs) (out := (arrOf st').map (·.2)) oL
  have strV : ∀ {l : List Value} {ss : List Str}, StrsAre l ss → l.map (fun v => match v with | .str z _ => z | _ => ⟨#[]⟩) = ss := fun {l ss} h => by
    induction h with
    | nil => rfl
    | cons y t r ih => rw [List.map_cons, ih]
  have ps : ss.Perm (es.toList.map fun e => match e.2 with | .str z _ => z | _ => ⟨#[]⟩) := by
    have := pm.map (fun v => match v with | .str z _ => z | _ => (⟨#[]⟩ : Str))
    rw [strV hS, List.map_map] at this
    exact this
  have mk : es.toList.map elKey = (es.toList.map fun e => match e.2 with | .str z _ => z | _ => (⟨#[]⟩ : Str)).map Sum.inr := by
    rw [List.map_map]
    exact List.map_congr_left fun e he => by
      obtain ⟨z, tk, ev, ek⟩ := el e he
      rw [ek]
      show _ = Sum.inr (match e.2 with | .str z _ => z | _ => (⟨#[]⟩ : Str))
      rw [ev]
  have nd : (es.toList.map fun e => match e.2 with | .str z _ => z | _ => (⟨#[]⟩ : Str)).Nodup := by
    have := T.nd
    rw [mk] at this
    exact (List.pairwise_map.mp this).imp fun h e => h (by rw [e])
  have pz := c2.trans ps
  refine wpAny_pure ⟨_, rfl, q _ s1.heap.objs.size _ c zs (fun b u e => ?_) g1 o1 hz hc c1 c3 (pz.nodup_iff.mpr nd) (fun z => ?_) (by rw [pz.length_eq, List.length_map]; exact hlen)⟩
  · have e1 := k1 b u e
    have lb := Heap.lt_size e1
    show (sortedHeap (s1.heap.push (seqObj "list" vs.toArray 0)) s1.heap.objs.size vs _).get? b = some u
    rw [sortedHeap_old (Nat.ne_of_lt lb) (by rw [size_push']; exact Nat.lt_succ_of_lt lb)]; exact Heap.get?_push_of_some _ e1
  · rw [pz.mem_iff, T.key, mk]
    simp
end
/-! ### the rules -/
section
variable {X : Cx} {pins : List (Addr × Obj)} {σ : L2.St} {H : Hp} {s : Shared} {a : Addr} {S : Key → Bool} {n : Nat}
theorem setM_get {P : Program} {w : World} (hP : X.prog = P) (hw : X.w = w) (I : Inv X pins σ H s) (ha : H a = some (SetM P w a S n)) : SetM0 X.prog X.w s.heap a S n := by
  subst hP hw
  exact (I.hok a _ ha).1
theorem setM_ne {P : Program} {w : World} {o : HO} (h : o ≠ SetM P w a S n := by intro z; cases z) : o ≠ SetM P w a S n := h
/-- set() -/
def rSetNew (P : Program) (w : World) : List V → Hp → VK → Prop := fun xs H Q => xs = [] ∧ ∀ p, H p = none → Q (.ref p) (upd H p (SetM P w p (fun _ => false) 0))
theorem call_setM {P : Program} {w : World} (hP : X.prog = P := by rfl) (hw : X.w = w := by rfl) : CallR X (.type "set") (rSetNew P w) := by
  subst hP hw
  intro pins s σ H xs us Q I r ⟨ex, q⟩
  subst ex
  cases r
  exact setR_new fun _ => ⟨.ref _, upd H s.heap.objs.size (SetM X.prog X.w s.heap.objs.size (fun _ => false) 0), I.laid (t' := s.toks) (fun b u e => Heap.get?_push_of_some _ e) (Nat.le_refl _) (setM_obj setM_fresh), rfl, q _ (I.hok.fresh (Nat.le_refl _))⟩
/-- m.add(k) -/
def rSetAdd (P : Program) (w : World) : V → List V → Hp → VK → Prop := fun x xs H Q => ∃ (a : Addr) (k : Key) (S : Key → Bool) (n : Nat), x = V.ref a ∧ xs = [kV k] ∧ H a = some (SetM P w a S n) ∧ n + 1 < scanBound ∧
  Q .non (upd H a (SetM P w a (fun j => S j || decide (j = k)) (if S k = true then n else n + 1)))
theorem inv_add {k : Key} {h' : Heap} (I : Inv X pins σ H s) (ha : H a = some (SetM X.prog X.w a S n)) (sb : Heap.SameBut a s.heap h') (r : SetM0 X.prog X.w h' a (fun j => S j || decide (j = k)) (if S k = true then n else n + 1)) :
    Inv X pins σ (upd H a (SetM X.prog X.w a (fun j => S j || decide (j = k)) (if S k = true then n else n + 1))) { s with heap := h', toks := s.toks + 1 } :=
  I.write (e := a) (t' := s.toks + 1) (by rw [ha]; exact True.intro) (.inl rfl) (fun b u hb hu => (sb.2 b hb).trans hu) (let ⟨o, _, _, _, e, _⟩ := r; ⟨o, e⟩) (setM_obj r)
theorem mt_setAdd : MtR X "set.add" (rSetAdd X.prog X.w) := fun pins s σ H x xs v us Q I rx rxs ⟨a, k, S, n, ex, exs, ha, room, q⟩ => by
  subst ex exs
  cases rx
  cases rxs with
  | cons ry rt =>
    cases rt
    exact setM_add (kV_is ry) (key_scan ry) (setM_get rfl rfl I ha) room fun g sb r => ⟨.non, _, inv_add I ha sb r, rfl, q⟩
def tSetAdd (P : Program) (w : World) (to : TE) (t : TA) : TE := fun σ H Q => to σ H fun x H1 => (∃ a S n, x = V.ref a ∧ H1 a = some (SetM P w a S n)) ∧ t σ H1 fun xs H2 => rSetAdd P w x xs H2 Q
variable {o e : Expr} {es : List Expr} {to : TE} {t : TA} {ap cp : Pos}
theorem pe_setAdd {P : Program} {w : World} (ho : PE X o to) (ha : PA X (e :: es) t) (hP : X.prog = P := by rfl) (hw : X.w = w := by rfl) (h1 : attributeBase o "add" X.env (eval o X.env) = eval o X.env := by rfl)
    (h2 : ((backTo cp (starEach (e :: es) X.env)).all (fun x => !x.1) && (backToKw cp (keywordEach [] X.env)).all (fun x => x.1.isSome) && decide ((e :: es).length + ([] : List Keyword).length + (if ([] : List Keyword).isEmpty then 0 else 1) < 30)) = true := by rfl)
    (h3 : (ap.endLine == cp.line) = true := by rfl) (h4 : starEach (e :: es) X.env = (false, eval e X.env) :: starEach es X.env := by rfl) (h5 : (backTo cp (starEach es X.env)).any (·.1) = false := by rfl) : PE X (.Call (.Attribute o "add" ap) (e :: es) [] cp) (tSetAdd P w to t) := by
  subst hP hw
  refine ⟨fun pins s σ H Q I h => wpAny_Call_method_late h1 h2 h3 rfl (thn (ho.run pins s σ H _ I h) fun v s1 ⟨x, H1, I1, r1, ty, q1⟩ => ?_)⟩
  obtain ⟨a, S, n, rfl, hka⟩ := ty
  have R := (setM_get rfl rfl I1 hka).setOf
  cases r1
  refine ⟨"set", "set.add", PySem.F.plainAttrs_set, PySem.F.slot_set_add, PySem.F.type_set_add, R.typeIs, R.noDict, ?_⟩
  have run := ha.run cp pins s1 σ H1 _ I1 q1
  rw [h4] at run ⊢
  exact Calls.callWith_builtin (show (false || (backTo cp (starEach es X.env)).any (·.1)) = false by rw [h5]; rfl) (Calls.evalArgs_plain (thn run fun us s2 ⟨vs, H2, I2, r2, q2⟩ => mt_setAdd pins s2 σ H2 (.ref a) vs (.ref a) us Q I2 rfl r2 q2))
/-- k in m, k not in m -/
def rSetIn (P : Program) (w : World) (neg : Bool) : V → V → Hp → VK → Prop := fun x y H Q => ∃ (k : Key) (a : Addr) (S : Key → Bool) (n : Nat), x = kV k ∧ y = V.ref a ∧ H a = some (SetM P w a S n) ∧ Q (.bl (if neg then !S k else S k)) H
theorem op_inM {P : Program} {w : World} (hP : X.prog = P := by rfl) (hw : X.w = w := by rfl) : OpR X (compareOp .In) (rSetIn P w false) := by
  subst hP hw
  intro pins s σ H x y v u Q I rx ry ⟨k, a, S, n, ex, ey, ha, q⟩
  subst ex ey
  cases ry
  exact wpAny_inSet_of (kV_is rx) (key_scan rx) (setM_get rfl rfl I ha).setOf ⟨.bl (S k), H, I.tok _, rfl, q⟩
/-- sorted(m): ints; texts -/
def rSortM (P : Program) (w : World) : List V → Hp → VK → Prop := fun vs H Q => ∃ (a : Addr) (S : Key → Bool) (n : Nat), vs = [V.ref a] ∧ H a = some (SetM P w a S n) ∧ n ≤ 1000 ∧
  (((∀ k, S k = true → ∃ i : Int, k = .inl i) ∧ ∀ (ns : List Int) (p : Addr), ns.Pairwise (· < ·) → (∀ i : Int, i ∈ ns ↔ S (.inl i) = true) → ns.length = n → H p = none → Q (.ref p) (upd H p (.lst (ns.map V.int)))) ∨
   ((∀ k, S k = true → ∃ z : Str, k = .inr z) ∧ ∀ (zs : List Str) (p : Addr), sortedS zs = true → zs.Nodup → (∀ z : Str, z ∈ zs ↔ S (.inr z) = true) → zs.length = n → H p = none → Q (.ref p) (upd H p (.lst (zs.map V.str)))))
theorem call_sortM {P : Program} {w : World} (hc : X.calm = true) (hP : X.prog = P := by rfl) (hw : X.w = w := by rfl) : CallR X (.builtin "sorted") (rSortM P w) := by
  subst hP hw
  intro pins s σ H vs us Q I r ⟨a, S, n, ex, ha, hn, hq⟩
  subst ex
  rw [Vals.ref1 r]
  have lay : ∀ (s' : Shared) (p : Nat) (out : Array Value) (c : Nat) (ys : List V), (∀ b o, s.heap.get? b = some o → s'.heap.get? b = some o) → s'.gens = s.gens → s'.os = s.os → s.heap.objs.size ≤ p →
      s'.heap.get? p = some (seqObj "list" out c) → ys.length ≤ 1000 → Vals ys out.toList → (H p = none → Q (.ref p) (upd H p (.lst ys))) → EP X pins σ Q (.ref p) s' := by
    intro s' p out c ys k g o hp hg hl hv q
    have hl2 : ys.length ≤ sizeLine := by rw [sizeLine_eq]; omega
    have hn : H p = none := I.hok.fresh hp
    have J : Inv X pins σ (upd H p (.lst ys)) { s with heap := s'.heap, gens := s'.gens, drawn := s'.drawn, toks := s'.toks } := I.call (ch := []) (Un.laid k hp hn) (I.hok.laid k hp ⟨hl2, out.toList, c, hv, hg⟩) (by rw [g]; exact I.bare) (fun _ z => nomatch z)
    have e : s' = { s with heap := s'.heap, gens := s'.gens, drawn := s'.drawn, toks := s'.toks } := by
      cases s'; cases s; cases o; rfl
    rw [e]
    exact ⟨.ref p, _, J, rfl, q hn⟩
  rcases hq with ⟨hI, q⟩ | ⟨hI, q⟩
  · exact setM_sortedI (setM_get rfl rfl I ha) (I.ok.hd hc) hI fun s' p out c ns k g o hp hg hi hs hm hl => lay s' p out c (ns.map V.int) k g o hp hg (by rw [List.length_map]; omega) (vals_of_ints hi) fun hn => q ns p hs hm hl hn
  · exact setM_sortedS (setM_get rfl rfl I ha) (I.ok.hd hc) hI fun s' p out c zs k g o hp hg hi hs nd hm hl => lay s' p out c (zs.map V.str) k g o hp hg (by rw [List.length_map]; omega) (vals_of_strs hi) fun hn => q zs p hs nd hm hl hn
/-- {x} -/
def tSet1 (P : Program) (w : World) (t : TE) : TE := fun σ H Q => ∀ p, H p = none → t σ (upd H p (SetM P w p (fun _ => false) 0)) fun x H1 => ∃ k : Key, x = kV k ∧ H1 p = some (SetM P w p (fun _ => false) 0) ∧ Q (.ref p) (upd H1 p (SetM P w p (fun j => decide (j = k)) 1))
theorem newSet_at {P : Program} {w : World} {A : Around} {E : Value → Shared → Prop} {Q : Value → Shared → Prop} (q : Q (.ref s.heap.objs.size) { s with heap := s.heap.push { cls := .type "set", dict := none, data := .set #[] 0 (.fresh 0 0 (!w.params.followText "set-order")) } }) :
    wpAny (model P w) A (newSet (.type "set")) Q E s := by
  unfold newSet
  unfold setsByText
  refine wpAny_bind (wpAny_bind (wpAny_askSetting (wpAny_pure ?_)))
  dsimp only
  exact wpAny_newObj_type q
theorem pe_set1 {P : Program} {w : World} {te : TE} {ps : Pos} (h : PE X e te) (hcd : PySem.W.kdsCode X.K X.env.code = true) (hP : X.prog = P := by rfl) (hw : X.w = w := by rfl) (hs : PySem.W.kdsPlain e = true := by rfl) : PE X (.Set [e] 0 ps) (tSet1 P w te) := by
  subst hP hw
  refine ⟨fun pins s σ H Q I hq => ?_⟩
  rw [arm_eval_Set]
  refine wpAny_bind (wpAny_standAt (wpAny_bind (PySem.W.kds_main I.kIn hcd fun b => ?_)))
  rw [PySem.W.kds_star [e] (by rw [List.all_cons, hs]; rfl), arm_evalEach_cons]
  show wpAny (model X.prog X.w) X.A (setDisplay (displayRoad 0 [e]) b [(false, eval e X.env >>= fun v => standAt ps >>= fun _ => pure v)]) _ _ s
  unfold setDisplay
  have road : displayRoad 0 [e] = .oneByOne := by unfold displayRoad; simp
  rw [road]
  rw [if_neg (show ¬ ((DisplayRoad.oneByOne == DisplayRoad.constants) = true) from by decide)]
  refine wpAny_bind (newSet_at ?_)
  dsimp only
  simp only [List.length_cons, List.length_nil, List.findIdx?_cons, List.findIdx?_nil, Option.getD_none, List.take_succ_cons, List.take_zero, List.map_cons, List.map_nil, List.drop_succ_cons, List.drop_zero, List.drop_nil, List.take_nil]
  rw [show (if 0 + 1 > 30 then 0 else ((if false = true then some 0 else Option.map (fun i => i + 1) none) : Option Nat).getD (0 + 1)) = 1 from rfl, List.take_succ_cons, List.take_zero, List.drop_succ_cons, List.drop_zero, List.map_cons, List.map_nil, List.forIn_nil]
  have fresh : H s.heap.objs.size = none := I.hok.fresh (Nat.le_refl _)
  have I0 : Inv X pins σ (upd H s.heap.objs.size (SetM X.prog X.w s.heap.objs.size (fun _ => false) 0)) { s with heap := s.heap.push { cls := .type "set", dict := none, data := .set #[] 0 (.fresh 0 0 (!X.w.params.followText "set-order")) } } :=
    I.laid (t' := s.toks) (fun b u e => Heap.get?_push_of_some _ e) (Nat.le_refl _) (setM_obj setM_fresh)
  refine wpAny_bind (wpAny_holding (wpAny_bind (PySem.W.kds_all ps [e] _ _ (thn (h.run pins _ σ _ _ I0 (hq _ fresh)) fun v s1 ⟨x, H1, I1, r1, k, ex, hm, q⟩ => ?_))))
  subst ex
  refine wpAny_bind (wpAny_holding ?_)
  rw [List.forIn_cons]
  have R := setM_get rfl rfl I1 hm
  refine wpAny_bind (wpAny_bind (wpAny_bind ?_))
  unfold setAdd; refine wpAny_holding (wpAny_bind ((mixKind X.prog X.w).pyHash (kV_is r1) (setM_hashed (s := { s1 with toks := s1.toks + 1 }) (kV_is r1) (key_scan r1) R (by decide) fun g sb r => ?_)))
  have J := inv_add I1 hm sb r
  have eS : (fun j => (fun _ : Key => false) j || decide (j = k)) = fun j => decide (j = k) := by funext j; simp
  rw [show (if (fun _ : Key => false) k = true then 0 else 0 + 1) = 1 from rfl, eS] at J
  refine wpAny_pure ?_
  dsimp only
  rw [List.forIn_nil]
  refine wpAny_pure ?_
  rw [if_neg (show ¬ ((DisplayRoad.oneByOne == DisplayRoad.unsure) = true) from by decide)]
  exact wpAny_pure (wpAny_bind (wpAny_pure (wpAny_pure (wpAny_pure ⟨.ref _, _, J, rfl, q⟩))))
/-! ### readings -/
section
variable {P : Program} {w : World} {H : Hp} {Q : VK} {a : Addr} {S : Key → Bool} {n : Nat} {k : Key}
theorem x_setNew (q : ∀ p H', H p = none → Ex H H' → H' p = some (SetM P w p (fun _ => false) 0) → Q (.ref p) H') : rSetNew P w [] H Q := ⟨rfl, fun p hp => q p _ hp (Ex.new hp) upd_same⟩
def rSetAddI (P : Program) (w : World) (x : V) (H : Hp) : Prop := ∃ a S n, x = V.ref a ∧ H a = some (SetM P w a S n)
theorem x_tSetAdd {to : TE} {t : TA} {σ : L2.St} : tSetAdd P w to t σ H Q = to σ H fun x H1 => rSetAddI P w x H1 ∧ t σ H1 fun xs H2 => rSetAdd P w x xs H2 Q := rfl
theorem x_setIs (h : H a = some (SetM P w a S n)) : rSetAddI P w (.ref a) H := ⟨a, S, n, rfl, h⟩
theorem x_setAdd (h : H a = some (SetM P w a S n)) (hn : n < 1000) (q : ∀ H', (∀ x o, x ≠ a → H x = some o → H' x = some o) → (∀ x, x ≠ a → H' x = none → H x = none) → H' a = some (SetM P w a (fun j => S j || decide (j = k)) (if S k = true then n else n + 1)) → Q .non H') :
    rSetAdd P w (.ref a) [kV k] H Q :=
  ⟨a, k, S, n, rfl, rfl, h, by unfold scanBound; omega, q _ (fun x o hx e => by rw [upd_ne hx]; exact e) (fun x hx e => by rw [upd_ne hx] at e; exact e) upd_same⟩
theorem x_setIn {neg : Bool} (h : H a = some (SetM P w a S n)) (q : Q (.bl (if neg then !S k else S k)) H) : rSetIn P w neg (kV k) (.ref a) H Q := ⟨k, a, S, n, rfl, rfl, h, q⟩
theorem x_sortMI (h : H a = some (SetM P w a S n)) (hn : n ≤ 1000) (hI : ∀ k, S k = true → ∃ i : Int, k = .inl i)
    (q : ∀ (ns : List Int) (p : Addr) (H' : Hp), ns.Pairwise (· < ·) → (∀ i : Int, i ∈ ns ↔ S (.inl i) = true) → ns.length = n → H p = none → Ex H H' → H' p = some (.lst (ns.map V.int)) → Q (.ref p) H') : rSortM P w [.ref a] H Q :=
  ⟨a, S, n, rfl, h, hn, .inl ⟨hI, fun ns p h1 h2 h3 h4 => q ns p _ h1 h2 h3 h4 (Ex.new h4) upd_same⟩⟩
theorem x_sortMS (h : H a = some (SetM P w a S n)) (hn : n ≤ 1000) (hI : ∀ k, S k = true → ∃ z : Str, k = .inr z)
    (q : ∀ (zs : List Str) (p : Addr) (H' : Hp), sortedS zs = true → zs.Nodup → (∀ z : Str, z ∈ zs ↔ S (.inr z) = true) → zs.length = n → H p = none → Ex H H' → H' p = some (.lst (zs.map V.str)) → Q (.ref p) H') : rSortM P w [.ref a] H Q :=
  ⟨a, S, n, rfl, h, hn, .inr ⟨hI, fun zs p h1 h2 h3 h4 h5 => q zs p _ h1 h2 h3 h4 h5 (Ex.new h5) upd_same⟩⟩
/-- {x}, x: it gets its item -/
def rSet1 (P : Program) (w : World) (p : Addr) (x : V) (H1 : Hp) (Q : VK) : Prop := ∃ k : Key, x = kV k ∧ H1 p = some (SetM P w p (fun _ => false) 0) ∧ Q (.ref p) (upd H1 p (SetM P w p (fun j => decide (j = k)) 1))
theorem x_tSet1I {i : Int} {σ : L2.St} (q : ∀ p H', H p = none → Ex H H' → H' p = some (SetM P w p (fun j => decide (j = (.inl i : Key))) 1) → Q (.ref p) H') : tSet1 P w (tC (.int i)) σ H Q := fun p hp =>
  ⟨.inl i, rfl, upd_same, by rw [upd_upd]; exact q p _ hp (Ex.new hp) upd_same⟩
end
end
/-! ### gcd and lcm, numbers of any size that stay small enough -/
section
variable {X : Cx}
def rGcdU (vs : List V) (H : Hp) (Q : VK) : Prop := ∃ a b : Int, vs = [.int a, .int b] ∧ Q (.int ((Nat.gcd a.natAbs b.natAbs : Nat) : Int)) H
theorem call_gcdU : CallR X (.builtin "math.gcd") rGcdU := cr_gcd
def rLcmU (vs : List V) (H : Hp) (Q : VK) : Prop := ∃ a b : Nat, vs = [.int a, .int b] ∧ a < 2 ^ 1000 ∧ b < 2 ^ 1000 ∧ Q (.int ((Nat.lcm a b : Nat) : Int)) H
theorem call_lcmU : CallR X (.builtin "math.lcm") rLcmU := by
  intro pins s σ H vs us Q I r ⟨a, b, ex, ha, hb, q⟩
  subst ex
  obtain ⟨t, u, rfl⟩ := Vals.int2 r
  have l1 : (max 1 (a : Int).natAbs).log2 ≤ 999 := PySem.W.mg_log (by show max 1 (a : Int).natAbs < 2 ^ 1000; rw [Int.natAbs_natCast]; exact Nat.max_lt.mpr ⟨by decide, ha⟩)
  have l2 : (max (a : Int).natAbs (b : Int).natAbs).log2 ≤ 999 := PySem.W.mg_log (by show max (a : Int).natAbs (b : Int).natAbs < 2 ^ 1000; rw [Int.natAbs_natCast, Int.natAbs_natCast]; exact Nat.max_lt.mpr ⟨ha, hb⟩)
  have e1 : (Nat.lcm 1 (a : Int).natAbs).lcm (b : Int).natAbs = Nat.lcm a b := by rw [PySem.W.mc_lcm_one, Int.natAbs_natCast, Int.natAbs_natCast]
  have hs : ((((Nat.lcm 1 (a : Int).natAbs).lcm (b : Int).natAbs : Nat) : Int)).natAbs.log2 < bitsLine := by
    rw [e1, Int.natAbs_natCast]
    have : Nat.lcm a b < 2 ^ 2000 := Nat.lt_of_le_of_lt (PySem.W.mc_lcm_le a b) (by
      rw [show (2 : Nat) ^ 2000 = 2 ^ 1000 * 2 ^ 1000 by rw [← Nat.pow_add]]
      exact Nat.mul_lt_mul'' ha hb)
    have h3 : (Nat.lcm a b).log2 ≤ 1999 := PySem.W.mg_log this
    have : bitsLine = 134217728 := by decide
    omega
  have m := PySem.W.mg_run_lcm (a : Int) t (b : Int) u (by omega) (by omega) hs
  rw [e1] at m
  exact PySem.call_function_meets PySem.W.MGF.kind_lcm PySem.W.MGF.plain_lcm PySem.W.MGF.entry_lcm (PySem.W.MGF.args_lcm _ _) m.meets ⟨.int _, H, I.tok _, ⟨_, rfl⟩, q⟩
end
end FB
set_option Elab.async false
set_option linter.all false
set_option maxRecDepth 100000
set_option maxHeartbeats 4000000
/-! set(xs) of a list of ints and texts: a set that can be sorted. -/
namespace FB
open PySem PySem.Spec PyProof.Rows L2 Evl
section
variable {prog : Program} {w : World} {A : Around} {E : Value → Shared → Prop} {R : Result → Shared → Prop} {s : Shared}
/-- at S there is the set of the keys ks -/
def HasKeys (prog : Program) (w : World) (h : Heap) (S : Addr) (ks : List Key) : Prop := ∃ (T : Key → Bool) (m : Nat), SetM0 prog w h S T m ∧ m ≤ ks.length ∧ ∀ k, T k = true ↔ k ∈ ks
theorem HasKeys.at {h h' : Heap} {S : Addr} {ks : List Key} (r : HasKeys prog w h S ks) (k : ∀ o, h.get? S = some o → h'.get? S = some o) : HasKeys prog w h' S ks := by
  obtain ⟨T, m, z, q⟩ := r
  exact ⟨T, m, setM_at z k, q⟩
theorem HasKeys.add {h' : Heap} {S : Addr} {ks : List Key} {T : Key → Bool} {m : Nat} {k : Key} (hm : m ≤ ks.length) (hT : ∀ k, T k = true ↔ k ∈ ks) (r : SetM0 prog w h' S (fun j => T j || decide (j = k)) (if T k = true then m else m + 1)) : HasKeys prog w h' S (ks ++ [k]) :=
  ⟨_, _, r, by rw [List.length_append, List.length_singleton]; split <;> omega, fun j => by rw [Bool.or_eq_true, hT, decide_eq_true_eq, List.mem_append, List.mem_singleton]⟩
/-- the loop of set.update over what a walk yields -/
theorem setM_update {I : Addr} {fp wr : List Addr} {G : Array GenState → Array GenState → Prop} {n : Nat} {Y : Nat → Value → Prop} {St : Nat → Shared → Prop} (W : WalksS prog w A.in1 I fp wr G n Y St) {S : Addr} (hSf : S ∉ fp) {ks : List Key} (hn : ks.length = n) (hb : n < 1000)
    (hv : ∀ i v, Y i v → ∃ k, ks[i]? = some k ∧ L2.RelV (kV k) v) : ∀ (k i : Nat) (s : Shared), n - i = k → i ≤ n → St i s → HasKeys prog w s.heap S (ks.take i) →
      (∀ s', Moved (S :: wr) G s s' → HasKeys prog w s'.heap S ks → R (.ok (.ret .none)) s') → codeAny (model prog w) A (.builtin "set.update.loop" ⟨[.ref S, .ref I], []⟩) R s := by
  have far : S ∉ wr := fun z => hSf (W.sub _ z)
  intro k
  induction k with
  | zero =>
    intro i s hk hi st r fin
    obtain rfl : i = n := by omega
    refine codeAny_builtin F.entry_set_update_loop (Around.under_plainId F.plain_set_update_loop _ ▸ (show wpAny _ A.in1 (pyNext (.ref I) >>= _) _ _ s from wpAny_bind (W.done s _ _ st fun s' hm => ?_)))
    refine (show wpAny _ A.in1 (ret Value.none) _ _ s' from wpAny_pure (fin s' (hm.mono fun b z => List.mem_cons_of_mem _ z) ?_))
    rw [← hn, List.take_length] at r
    exact r.at fun o e => hm.heap S o far e
  | succ k ih =>
    intro i s hk hi st r fin
    have lt : i < n := by omega
    refine codeAny_builtin F.entry_set_update_loop (Around.under_plainId F.plain_set_update_loop _ ▸ (show wpAny _ A.in1 (pyNext (.ref I) >>= _) _ _ s from wpAny_bind (W.item i s _ _ lt st fun v s' hY st' hm => ?_)))
    obtain ⟨key, hkey, rv⟩ := hv i v hY
    obtain ⟨T, m, R0, hm0, hT⟩ := r.at fun o e => hm.heap S o far e
    have hl : (ks.take i).length ≤ i := by rw [List.length_take]; omega
    refine (show wpAny _ A.in1 (holding [v] (setAdd S v) >>= _) _ _ s' from wpAny_bind (wpAny_holding ?_))
    unfold setAdd
    refine wpAny_holding (wpAny_bind ((mixKind prog w).pyHash (kV_is rv) (setM_hashed (s := { s' with toks := s'.toks + 1 }) (kV_is rv) (key_scan rv) R0 (by unfold scanBound; omega) fun h' sb r2 => ?_)))
    have tk : ks.take (i + 1) = ks.take i ++ [key] := by rw [List.take_add_one, hkey]; rfl
    have ne : ∀ b ∈ fp, b ≠ S := fun b hb z => hSf (z ▸ hb)
    refine wpAny_pure ⟨plainId_quiet F.plain_set_update_loop _, ih (i + 1) _ (by omega) lt (W.frame _ s' _ _ st' (Nat.le_succ _) fun b hb o e => (sb.2 b (ne b hb)).trans e) (tk ▸ HasKeys.add hm0 hT r2) fun s2 hm2 r3 => fin s2 (Moved.trans W.gtrans ((hm.mono fun b z => List.mem_cons_of_mem _ z).then_heap (Nat.le_succ _) fun b o hb e => (sb.2 b fun z => hb (z ▸ List.mem_cons_self)).trans e) hm2) r3⟩
abbrev freshSet (w : World) : Obj := { cls := .type "set", dict := none, data := .set #[] 0 (.fresh 0 0 (!w.params.followText "set-order")) }
/-- set(l) -/
theorem call_set_keys {l : Addr} {its : Array Value} {ks : List Key} {Q : Value → Shared → Prop} (hh : A.handled = none) (hl : s.heap.IsList l its) (hv : ∀ (i : Nat) (v : Value), its[i]? = some v → ∃ k, ks[i]? = some k ∧ L2.RelV (kV k) v) (hn : ks.length = its.size) (hb : its.size < 1000)
    (h : ∀ (h' : Heap) (tk : Nat), HasKeys prog w h' s.heap.objs.size ks → (∀ b o, b < s.heap.objs.size → s.heap.get? b = some o → h'.get? b = some o) → Q (.ref s.heap.objs.size) { s with heap := h', toks := tk }) : wpAny (model prog w) A (call (.type "set") [.ref l]) Q E s := by
  generalize hob : ({ cls := .type "set", dict := none, data := .set #[] 0 (.fresh 0 0 (!w.params.followText "set-order")) } : Obj) = ob
  have hcls : ob.cls = .type "set" := by rw [← hob]
  obtain ⟨c, tl, hmro⟩ := F.called_set.mro
  have made := F.called_set.made; have sub := F.called_set.sub; have c1 := F.called_set.notType; have c2 := F.called_set.canCreate; have c3 := F.typeCall_set_1 (.ref l)
  refine wpAny_call (codeAny_of_tree (show wpAny _ _ (callAny (.type "set") _) _ _ _ from wpAny_pure ⟨Code.quiet_builtin _ (by decide +kernel), codeAny_builtin F.entry_type_call ?_⟩))
  rw [Around.under_plain (weight_type_call_type "set" [.ref l] []) rfl]
  repeat (any_goals (first | assumption | wp_step))
  refine codeAny_mono (code_set_led1 (.ref l) (E := E) (Q₁ := fun obj s₁ => obj = .ref s.heap.objs.size ∧ s₁ = { s with heap := s.heap.push ob }) (by rw [← hob]; exact ⟨rfl, rfl⟩)) fun r s₁ hr => ?_
  rcases r with e | fl
  · exact hr
  rcases fl with obj | _ | _ | _ <;> first | exact hr.elim | skip
  obtain ⟨rfl, rfl⟩ := hr
  have oS : (s.heap.push ob).get? s.heap.objs.size = some ob := Heap.get?_push_size _ (by rw [← hob]; rfl)
  have hT : Shared.TypeIs { s with heap := s.heap.push ob } (.ref s.heap.objs.size) "set" := ⟨_, oS, hcls⟩
  have i1 := F.called_set.init.lookup; have i2 := F.called_set.init.bind (.ref s.heap.objs.size)
  repeat (any_goals (first | assumption | wp_step))
  refine codeAny_mono (codeAny_call_builtin (R := wants (fun r s2 => r = .none ∧ ∃ h' tk, s2 = { s with heap := h', toks := tk } ∧ HasKeys prog w h' s.heap.objs.size ks ∧ (∀ b o, b < s.heap.objs.size → s.heap.get? b = some o → h'.get? b = some o)) E) F.called_set.init.plain F.entry_set_init (check_set_init_1 hT ?_)) fun r2 s2 hr2 => ?_
  · subst hob
    obtain ⟨⟨ocls, odict, odata, oslots⟩, hol, hcl, nl, hdl⟩ := hl
    obtain rfl : ocls = .type "list" := hcl
    obtain rfl : odata = .seq its nl := hdl
    have hol2 : (s.heap.push (freshSet w)).get? l = some { cls := .type "list", dict := odict, data := .seq its nl, slots := oslots } := Heap.get?_push_of_some _ hol
    have hl1 : (s.heap.push (freshSet w)).IsList l its := ⟨_, hol2, rfl, nl, rfl⟩
    have s1 := F.sub_list_set; have s2 := F.sub_list_frozenset; have s3 : (Value.type "list" == Value.type "dict") = false := by decide
    unfold Builtin.«set.__init__» noKeywords Builtin.Frozenset.updateFrom
    generalize hPI : pyIter = PI
    wp_walk
    subst hPI
    apply wpAny_pyIter_list hl1
    apply wpAny_bind
    apply wpAny_runValue
    have lS := Heap.lt_size hol
    have nI : l ≠ (s.heap.push (freshSet w)).objs.size := by rw [Heap.size_push]; exact Nat.ne_of_lt (Nat.lt_succ_of_lt lS)
    have nS : s.heap.objs.size ∉ [(s.heap.push (freshSet w)).objs.size, l] := by
      rw [Heap.size_push]
      intro z
      rcases List.mem_cons.mp z with z | z
      · exact absurd z (Nat.ne_of_lt (Nat.lt_succ_self _))
      · exact absurd (List.mem_singleton.mp z) (Nat.ne_of_gt lS)
    refine setM_update ((Walks.list (A := A.in1.in1.in1) (by simp [hh]) _ l nI its).toS) nS (ks := ks) hn hb hv (its.size - 0) 0 _ (by omega) (Nat.zero_le _) ⟨⟨_, Heap.get?_push_size _ rfl, rfl, rfl⟩, hl1.push _⟩ ?_ fun s' hm hS => ?_
    · refine HasKeys.at (h := s.heap.push (freshSet w)) ?_ fun o e => Heap.get?_push_of_some _ e
      exact ⟨_, 0, setM_fresh, Nat.zero_le _, fun k => by simp⟩
    · obtain ⟨h', g', d', tk', os'⟩ := s'
      obtain rfl : g' = s.gens := hm.gens
      obtain rfl : d' = s.drawn := hm.drawn
      obtain rfl : os' = s.os := hm.os
      show wpAny _ _ _ _ _ _
      refine wpAny_pure (show wpAny _ _ (ret Value.none) _ _ _ from wpAny_pure ⟨rfl, h', tk', rfl, hS, fun b o hlt e => ?_⟩)
      refine hm.heap b o (fun z => ?_) (Heap.get?_push_of_some _ (Heap.get?_push_of_some _ e))
      rcases List.mem_cons.mp z with z | z
      · exact absurd z (Nat.ne_of_lt hlt)
      · rw [List.mem_singleton.mp z, Heap.size_push] at hlt
        exact absurd hlt (by intro q; exact Nat.lt_irrefl _ (Nat.lt_trans (Nat.lt_succ_self _) q))
  · rcases r2 with e | fl
    · exact hr2
    rcases fl with obj | _ | _ | _ <;> first | exact hr2.elim | skip
    obtain ⟨rfl, h', tk, rfl, hS, kk⟩ := hr2
    repeat (any_goals (first | assumption | wp_step))
    exact h _ _ hS kk
end
section
variable {X : Cx}
theorem vals_key : ∀ {ks : List Key} {us : List Value}, Vals (ks.map kV) us → us.length = ks.length ∧ ∀ (i : Nat) (v : Value), us[i]? = some v → ∃ k, ks[i]? = some k ∧ L2.RelV (kV k) v
  | [], us, r => by
    cases r
    exact ⟨rfl, fun i v h => by simp at h⟩
  | k :: ks, us, r => by
    cases r with
    | cons r1 r2 =>
      obtain ⟨h1, h2⟩ := vals_key r2
      refine ⟨by rw [List.length_cons, List.length_cons, h1], fun i v h => ?_⟩
      cases i with
      | zero =>
        simp at h
        exact ⟨k, rfl, h ▸ r1⟩
      | succ i =>
        simp at h
        simpa using h2 i v h
def rSetL (K : PySem.W.Frag) (P : Program) (w : World) : List V → Hp → VK → Prop := fun xs H Q => ∃ (l : Addr) (ks : List Key), xs = [.ref l] ∧ SqL K H l (ks.map kV) ∧ ks.length < 1000 ∧
  ∀ p S n, H p = none → n ≤ ks.length → (∀ k, S k = true ↔ k ∈ ks) → Q (.ref p) (upd H p (SetM P w p S n))
theorem call_setL {K : PySem.W.Frag} {P : Program} {w : World} (hc : X.calm = true) (hK : X.K = K := by rfl) (hP : X.prog = P := by rfl) (hw : X.w = w := by rfl) : CallR X (.type "set") (rSetL K P w) := by
  subst hK hP hw
  intro pins s σ H xs us Q I r ⟨l, ks, ex, hl, hn, q⟩
  subst ex
  rw [Vals.ref1 r]
  obtain ⟨its, rv, pl, hz⟩ := I.list hl
  obtain ⟨e1, e2⟩ := vals_key rv
  refine call_set_keys (I.ok.hd hc) pl.isList (ks := ks) (by simpa using e2) (by simpa using e1.symm) (by rw [List.size_toArray, e1]; exact hn) fun h' tk hS k => ?_
  obtain ⟨T, m, R, hm, hT⟩ := hS
  have kp : ∀ b o, s.heap.get? b = some o → h'.get? b = some o := fun b o e => k b o (Heap.lt_size e) e
  exact ⟨.ref _, upd H s.heap.objs.size (SetM X.prog X.w s.heap.objs.size T m), I.laid (t' := tk) kp (Nat.le_refl _) (setM_obj R), rfl, q _ T m (I.hok.fresh (Nat.le_refl _)) hm hT⟩
theorem x_setOfL {K : PySem.W.Frag} {P : Program} {w : World} {H : Hp} {Q : VK} {l : Addr} {ks : List Key} (h : SqL K H l (ks.map kV)) (hn : ks.length < 1000) (q : ∀ p S n H', H p = none → Ex H H' → H' p = some (SetM P w p S n) → n ≤ ks.length → (∀ k, S k = true ↔ k ∈ ks) → Q (.ref p) H') : rSetL K P w [.ref l] H Q :=
  ⟨l, ks, rfl, h, hn, fun p S n hp h1 h2 => q p S n _ hp (Ex.new hp) upd_same h1 h2⟩
end
end FB
set_option Elab.async false
set_option linter.all false
set_option maxRecDepth 100000
set_option maxHeartbeats 4000000
/-! zip of a tuple and a list: each side by a flag (a tuple: true). -/
namespace FB
open PySem PySem.Spec PyProof.Rows L2 Evl
def ItAt (tp : Bool) (h : Heap) (i l : Addr) (k : Nat) : Prop := match tp with | true => h.IsTupleIter i l k | false => h.IsListIter i l k
def CoAt (tp : Bool) (h : Heap) (l : Addr) (us : Array Value) : Prop := match tp with | true => h.IsTuple l us | false => h.IsList l us
section
variable {tp : Bool} {h h' : Heap} {i l c : Addr} {k : Nat} {us : Array Value}
theorem ItAt.but (t : ItAt tp h i l k) (e : Heap.ExtBut c h h') (n : i ≠ c) : ItAt tp h' i l k := by
  cases tp
  · exact Heap.IsListIter.extBut t e n
  · exact Heap.IsTupleIter.extBut t e n
theorem CoAt.but (t : CoAt tp h l us) (e : Heap.ExtBut c h h') (n : l ≠ c) : CoAt tp h' l us := by
  cases tp
  · exact Heap.IsList.extBut t e n
  · exact Heap.IsTuple.extBut t e n
theorem ItAt.kept (t : ItAt tp h i l k) (e : ∀ o, h.get? i = some o → h'.get? i = some o) : ItAt tp h' i l k := by
  cases tp
  · exact Heap.IsListIter.at t e
  · exact Heap.IsTupleIter.at t e
theorem ItAt.ob (t : ItAt tp h i l k) : ∃ o, h.get? i = some o ∧ ∀ v, o.data ≠ .cell v := by
  cases tp
  · obtain ⟨o, e, _, d⟩ := t
    exact ⟨o, e, fun v z => by rw [d] at z; cases z⟩
  · obtain ⟨o, e, _, d⟩ := t
    exact ⟨o, e, fun v z => by rw [d] at z; cases z⟩
theorem CoAt.ob (t : CoAt tp h l us) : ∃ o, h.get? l = some o := by
  cases tp
  · obtain ⟨o, e, _⟩ := t
    exact ⟨o, e⟩
  · obtain ⟨o, e, _⟩ := t
    exact ⟨o, e⟩
end
section
variable {P : Program} {w : World} {A : Around} {E : Value → Shared → Prop} {s : Shared} {tp tq : Bool} {i l : Addr} {k : Nat} {us : Array Value} {u : Value}
theorem nx_item {Q : Value → Shared → Prop} (t : ItAt tp s.heap i l k) (co : CoAt tp s.heap l us) (hu : us[k]? = some u) (q : ∀ h', ItAt tp h' i l (k + 1) → Heap.SameBut i s.heap h' → Q u { s with heap := h' }) :
    wpAny (model P w) A (Builtin.SmallTypes.nextOf (.ref i)) Q E s := by
  cases tp
  · exact wpAny_nextOf_list_item t co hu q
  · exact RZ.nextOf_tuple_item t co hu q
theorem nx_end {Q : Value → Shared → Prop} (hd : A.handled = none) (t : ItAt tp s.heap i l k) (co : CoAt tp s.heap l us) (hu : us[k]? = none)
    (q : ∀ h' e, Heap.ExtBut i s.heap h' → (∃ o, h'.get? e = some o ∧ o.cls = .type "StopIteration") → E (.ref e) { s with heap := h' }) : wpAny (model P w) A (Builtin.SmallTypes.nextOf (.ref i)) Q E s := by
  cases tp
  · exact wpAny_nextOf_list_end hd t co hu q
  · exact RZ.nextOf_tuple_end hd t co hu q
variable {z a1 a2 j l2 : Addr} {k2 : Nat} {ws : Array Value} {v x y : Value}
/-- what stands around a zip object: its two iterators and the tuple that it hands out -/
structure Zp (tp tq : Bool) (h : Heap) (z a1 a2 i j l l2 : Addr) (k k2 : Nat) (us ws : Array Value) (x y f : Value) : Prop where
  ap : ZipApart z a1 a2 i j l l2
  zip : IsZip h z a1 a2 f
  its : IsPair h a1 (.ref i) (.ref j)
  out : IsPair h a2 x y
  one : ItAt tp h i l k
  two : ItAt tq h j l2 k2
  co : CoAt tp h l us
  co2 : CoAt tq h l2 ws

section
variable {f : Value} {h : Heap}
theorem Zp.lz (Z : Zp tp tq h z a1 a2 i j l l2 k k2 us ws x y f) : z < h.objs.size := Heap.lt_size Z.zip
end
theorem zx_free (kz : IsZip s.heap z a1 a2 .none) {Q : Bool → Shared → Prop} (q : Q true s) : wpAny (model P w) A (Builtin.SmallTypes.ownedTupleIsFree (.ref z)) Q E s := by
  unfold Builtin.SmallTypes.ownedTupleIsFree; exact wpAny_bind (wpAny_field (x := .none) kz rfl rfl (wpAny_pure q))
theorem zx_hand {g : Heap} {n : Nat} (kz : IsZip g z a1 a2 .ellipsis) (hs : s.heap = g.push { cls := .type "tuple", data := .seq #[u, v] }) (hn : g.objs.size = n) {Q : Unit → Shared → Prop}
    (q : ∀ g8, IsZip g8 z a1 a2 (rawInt n) → (∀ c o, c ≠ z → g.get? c = some o → g8.get? c = some o) → IsPair g8 n u v → g8.objs.size = n + 1 → Q () { s with heap := g8 }) :
    wpAny (model P w) A (Builtin.SmallTypes.ownedTupleHandOut (.ref z) (.ref n)) Q E s := by
  subst hn
  unfold Builtin.SmallTypes.ownedTupleHandOut; refine wpAny_bind (wpAny_setField_rec (by rw [hs]; exact Heap.get?_push_of_some _ kz) (by simp) fun g7 kz7 e7 => ?_)
  refine wpAny_setField_rec (show IsZip g7 z a1 a2 (rawInt g.objs.size) from kz7) (by simp) fun g8 kz8 e8 => ?_
  have lift : ∀ c o, c ≠ z → g.get? c = some o → g8.get? c = some o := fun c o n e => e8.extBut _ _ n (e7.extBut _ _ n (by rw [hs]; exact Heap.get?_push_of_some _ e))
  have nz : g.objs.size ≠ z := Nat.ne_of_gt (Heap.lt_size kz)
  exact q g8 kz8 lift (e8.extBut _ _ nz (e7.extBut _ _ nz (by rw [hs]; exact Heap.get?_push_size _ rfl))) (by rw [e8.1, e7.1, hs, Heap.size_push])
/-- both sides have an item -/
theorem zx_item (Z : Zp tp tq s.heap z a1 a2 i j l l2 k k2 us ws x y .none) (hu : us[k]? = some u) (hv : ws[k2]? = some v) {Q : Value → Shared → Prop}
    (q : ∀ h', Zp tp tq h' z a1 a2 i j l l2 (k + 1) (k2 + 1) us ws u v (rawInt s.heap.objs.size) → IsPair h' s.heap.objs.size u v → h'.objs.size = s.heap.objs.size + 1 →
      (∀ c o, c ≠ z → c ≠ a2 → c ≠ i → c ≠ j → s.heap.get? c = some o → h'.get? c = some o) → Q (.ref s.heap.objs.size) { s with heap := h' }) :
    wpAny (model P w) A (Builtin.«zip.__next__» ⟨[.ref z], []⟩) (fun fin s' => ∃ r, fin = .done (.ret r) ∧ Q r s') E s := by
  have ap := Z.ap
  show wpAny (model P w) A (field (.ref z) 2 >>= _) _ E s
  refine wpAny_bind (wpAny_field (x := .bool false) Z.zip rfl rfl ?_)
  show wpAny (model P w) A (field (.ref z) 3 >>= _) _ E s
  refine wpAny_bind (wpAny_field (x := .ref a1) Z.zip rfl rfl (wpAny_bind (wpAny_seqItems Z.its rfl ?_)))
  show wpAny (model P w) A (Builtin.SmallTypes.ownedTupleIsFree (.ref z) >>= _) _ E s
  refine wpAny_bind (zx_free Z.zip ?_)
  simp only [if_true]
  refine wpAny_bind (wpAny_rule (wpAny_bind (wpAny_field (x := .ref a2) Z.zip rfl rfl (wpAny_bind (wpAny_setField_rec Z.zip (by simp) fun g1 kz1 e1 => ?_)))))
  have kz1 : IsZip g1 z a1 a2 .ellipsis := kz1
  refine wpAny_bind ?_
  simp only [List.zipIdx_cons, List.zipIdx_nil, List.forIn_cons, List.forIn_nil]
  -- the first side
  refine wpAny_bind (wpAny_bind (wpAny_onRaise (show wpAny (model P w) A (Builtin.SmallTypes.nextOf (.ref i) >>= _) _ _ _ from wpAny_bind (nx_item (Z.one.but e1.extBut ap.i1z) (Z.co.but e1.extBut ap.l1z) hu fun g2 t2 e2 => wpAny_pure ?_))))
  have ko2 : IsPair g2 a2 x y := e2.extBut _ _ ap.TOi1 (e1.extBut _ _ ap.TOz Z.out)
  refine wpAny_bind (wpAny_seqItems ko2 rfl (wpAny_bind (wpAny_updateSeq_pair ko2 fun g3 ko3 e3 => ?_)))
  have ko3 : IsPair g3 a2 u y := ko3
  refine wpAny_bind (wpAny_letGo (wpAny_pure ?_))
  -- the second side
  have two3 : ItAt tq g3 j l2 k2 := ((Z.two.but e1.extBut ap.i2z).but e2.extBut ap.i12.symm).but e3.extBut ap.TOi2.symm
  have cw3 : CoAt tq g3 l2 ws := ((Z.co2.but e1.extBut ap.l2z).but e2.extBut ap.l2i1).but e3.extBut ap.l2TO
  refine wpAny_bind (wpAny_bind (wpAny_onRaise (show wpAny (model P w) A (Builtin.SmallTypes.nextOf (.ref j) >>= _) _ _ _ from wpAny_bind (nx_item two3 cw3 hv fun g4 t4 e4 => wpAny_pure ?_))))
  have ko4 : IsPair g4 a2 u y := e4.extBut _ _ ap.TOi2 ko3
  refine wpAny_bind (wpAny_seqItems ko4 rfl (wpAny_bind (wpAny_updateSeq_pair ko4 fun g5 ko5 e5 => ?_)))
  have ko5 : IsPair g5 a2 u v := ko5
  refine wpAny_bind (wpAny_letGo (wpAny_pure (wpAny_pure (wpAny_bind (wpAny_seqItems ko5 rfl (wpAny_bind (wpAny_newTuple ?_)))))))
  have size5 : g5.objs.size = s.heap.objs.size := by rw [e5.1, e4.1, e3.1, e2.1, e1.1]
  have kz5 : IsZip g5 z a1 a2 .ellipsis := e5.extBut _ _ ap.TOz.symm (e4.extBut _ _ ap.i2z.symm (e3.extBut _ _ ap.TOz.symm (e2.extBut _ _ ap.i1z.symm kz1)))
  have far : ∀ c o, c ≠ z → c ≠ a2 → c ≠ i → c ≠ j → s.heap.get? c = some o → g5.get? c = some o := fun c o n1 n2 n3 n4 e =>
    e5.extBut _ _ n2 (e4.extBut _ _ n4 (e3.extBut _ _ n2 (e2.extBut _ _ n3 (e1.extBut _ _ n1 e))))
  have one5 : ItAt tp g5 i l (k + 1) := ((t2.but e3.extBut ap.TOi1.symm).but e4.extBut ap.i12).but e5.extBut ap.TOi1.symm
  have two5 : ItAt tq g5 j l2 (k2 + 1) := t4.but e5.extBut ap.TOi2.symm
  have co5 : CoAt tp g5 l us := ((((Z.co.but e1.extBut ap.l1z).but e2.extBut ap.l1i1).but e3.extBut ap.l1TO).but e4.extBut ap.l1i2).but e5.extBut ap.l1TO
  have cw5 : CoAt tq g5 l2 ws := (cw3.but e4.extBut ap.l2i2).but e5.extBut ap.l2TO
  show wpAny (model P w) A (Builtin.SmallTypes.ownedTupleHandOut (.ref z) (.ref g5.objs.size) >>= _) _ _ _
  refine wpAny_bind (zx_hand kz5 rfl rfl fun g8 kz8 lift new8 size8 => ?_)
  have kept : ∀ {c o}, c ≠ z → g5.get? c = some o → g8.get? c = some o := fun n e => lift _ _ n e
  have coK : ∀ {b : Bool} {l : Addr} {us : Array Value}, l ≠ z → CoAt b g5 l us → CoAt b g8 l us := fun {b l us} n t => by
    cases b
    · exact Heap.IsList.at t fun o e => lift _ _ n e
    · exact Heap.IsTuple.at t fun o e => lift _ _ n e
  have Z8 : Zp tp tq g8 z a1 a2 i j l l2 (k + 1) (k2 + 1) us ws u v (rawInt s.heap.objs.size) :=
    ⟨ap, by rw [← size5]; exact kz8, kept ap.TIz (far _ _ ap.TIz ap.TITO ap.TIi1 ap.TIi2 Z.its), kept ap.TOz ko5, one5.kept fun o e => lift _ _ ap.i1z e, two5.kept fun o e => lift _ _ ap.i2z e, coK ap.l1z co5, coK ap.l2z cw5⟩
  have fin := q g8 Z8 (by rw [← size5]; exact new8) (by rw [size8, size5]) fun c o n1 n2 n3 n4 e => lift c o n1 (far c o n1 n2 n3 n4 e)
  rw [← size5] at fin
  exact wpAny_pure ⟨_, rfl, fin⟩
/-- one side has ended -/
theorem zx_end (hd : A.handled = none) (Z : Zp tp tq s.heap z a1 a2 i j l l2 k k2 us ws x y .none) (hn : us[k]? = none ∨ ws[k2]? = none) {Q : Fin → Shared → Prop}
    (q : ∀ h' e, (∀ c o, c ≠ z → c ≠ a2 → c ≠ i → c ≠ j → s.heap.get? c = some o → h'.get? c = some o) → (∃ o, h'.get? e = some o ∧ o.cls = .type "StopIteration") → E (.ref e) { s with heap := h' }) :
    wpAny (model P w) A (Builtin.«zip.__next__» ⟨[.ref z], []⟩) Q E s := by
  have ap := Z.ap
  show wpAny (model P w) A (field (.ref z) 2 >>= _) _ E s
  refine wpAny_bind (wpAny_field (x := .bool false) Z.zip rfl rfl ?_)
  show wpAny (model P w) A (field (.ref z) 3 >>= _) _ E s
  refine wpAny_bind (wpAny_field (x := .ref a1) Z.zip rfl rfl (wpAny_bind (wpAny_seqItems Z.its rfl ?_)))
  show wpAny (model P w) A (Builtin.SmallTypes.ownedTupleIsFree (.ref z) >>= _) _ E s
  refine wpAny_bind (zx_free Z.zip ?_)
  simp only [if_true]
  refine wpAny_bind (wpAny_rule (wpAny_bind (wpAny_field (x := .ref a2) Z.zip rfl rfl (wpAny_bind (wpAny_setField_rec Z.zip (by simp) fun g1 kz1 e1 => ?_)))))
  have kz1 : IsZip g1 z a1 a2 .ellipsis := kz1
  refine wpAny_bind ?_
  simp only [List.zipIdx_cons, List.zipIdx_nil, List.forIn_cons, List.forIn_nil]
  cases hk : us[k]? with
  | none =>
    refine wpAny_bind (wpAny_bind (wpAny_onRaise (show wpAny (model P w) A (Builtin.SmallTypes.nextOf (.ref i) >>= _) _ _ _ from wpAny_bind (nx_end hd (Z.one.but e1.extBut ap.i1z) (Z.co.but e1.extBut ap.l1z) hk fun g2 e e2 ⟨oe, hoe, hce⟩ => ?_))))
    have kz2 : IsZip g2 z a1 a2 .ellipsis := e2 _ _ ap.i1z.symm kz1
    have ne : e ≠ z := fun c => by subst c; rw [kz2] at hoe; cases hoe; simp at hce
    exact wpAny_setField_rec kz2 (by simp) fun g3 _ e3 => q g3 e (fun c o n1 _ n3 _ t => e3.extBut _ _ n1 (e2 _ _ n3 (e1.extBut _ _ n1 t))) ⟨oe, e3.extBut _ _ ne hoe, hce⟩
  | some u =>
    have hk2 : ws[k2]? = none := hn.resolve_left fun c => by rw [hk] at c; cases c
    refine wpAny_bind (wpAny_bind (wpAny_onRaise (show wpAny (model P w) A (Builtin.SmallTypes.nextOf (.ref i) >>= _) _ _ _ from wpAny_bind (nx_item (Z.one.but e1.extBut ap.i1z) (Z.co.but e1.extBut ap.l1z) hk fun g2 t2 e2 => wpAny_pure ?_))))
    have ko2 : IsPair g2 a2 x y := e2.extBut _ _ ap.TOi1 (e1.extBut _ _ ap.TOz Z.out)
    refine wpAny_bind (wpAny_seqItems ko2 rfl (wpAny_bind (wpAny_updateSeq_pair ko2 fun g3 ko3 e3 => wpAny_bind (wpAny_letGo (wpAny_pure ?_)))))
    have two3 : ItAt tq g3 j l2 k2 := ((Z.two.but e1.extBut ap.i2z).but e2.extBut ap.i12.symm).but e3.extBut ap.TOi2.symm
    have cw3 : CoAt tq g3 l2 ws := ((Z.co2.but e1.extBut ap.l2z).but e2.extBut ap.l2i1).but e3.extBut ap.l2TO
    refine wpAny_bind (wpAny_bind (wpAny_onRaise (show wpAny (model P w) A (Builtin.SmallTypes.nextOf (.ref j) >>= _) _ _ _ from wpAny_bind (nx_end hd two3 cw3 hk2 fun g4 e e4 ⟨oe, hoe, hce⟩ => ?_))))
    have kz4 : IsZip g4 z a1 a2 .ellipsis := e4 _ _ ap.i2z.symm (e3.extBut _ _ ap.TOz.symm (e2.extBut _ _ ap.i1z.symm kz1))
    have ne : e ≠ z := fun c => by subst c; rw [kz4] at hoe; cases hoe; simp at hce
    exact wpAny_setField_rec kz4 (by simp) fun g5 _ e5 => q g5 e (fun c o n1 n2 n3 n4 t => e5.extBut _ _ n1 (e4 _ _ n4 (e3.extBut _ _ n2 (e2.extBut _ _ n3 (e1.extBut _ _ n1 t))))) ⟨oe, e5.extBut _ _ ne hoe, hce⟩
theorem zn_item (Z : Zp tp tq s.heap z a1 a2 i j l l2 k k2 us ws x y .none) (hu : us[k]? = some u) (hv : ws[k2]? = some v) {Q : Option Value → Shared → Prop}
    (q : ∀ h', Zp tp tq h' z a1 a2 i j l l2 (k + 1) (k2 + 1) us ws u v (rawInt s.heap.objs.size) → IsPair h' s.heap.objs.size u v → h'.objs.size = s.heap.objs.size + 1 →
      (∀ c o, c ≠ z → c ≠ a2 → c ≠ i → c ≠ j → s.heap.get? c = some o → h'.get? c = some o) → Q (some (.ref s.heap.objs.size)) { s with heap := h' }) : wpAny (model P w) A (pyNext (.ref z)) Q E s := by
  have ty : s.TypeIs (.ref z) "zip" := ⟨_, Z.zip, rfl⟩
  unfold pyNext
  exact wpAny_bind (wpAny_attempt (wpAny_callSpecial?_slot (name := Str.ofString "__next__") ty PySem.F.slot_zip_next (wpAny_call_entry PySem.F.slot_zip_next ty PySem.F.entry_zip_next (zx_item Z hu hv fun h' b1 b2 b3 b4 => wpAny_pure (q h' b1 b2 b3 b4)) (PySem.F.args_zip_next_1 _))))
theorem zn_end (hd : A.handled = none) (Z : Zp tp tq s.heap z a1 a2 i j l l2 k k2 us ws x y .none) (hn : us[k]? = none ∨ ws[k2]? = none) {Q : Option Value → Shared → Prop}
    (q : ∀ h', (∀ c o, c ≠ z → c ≠ a2 → c ≠ i → c ≠ j → s.heap.get? c = some o → h'.get? c = some o) → Q none { s with heap := h' }) : wpAny (model P w) A (pyNext (.ref z)) Q E s := by
  have ty : s.TypeIs (.ref z) "zip" := ⟨_, Z.zip, rfl⟩
  unfold pyNext
  refine wpAny_bind (wpAny_attempt (wpAny_callSpecial?_slot (name := Str.ofString "__next__") ty PySem.F.slot_zip_next (wpAny_call_entry PySem.F.slot_zip_next ty PySem.F.entry_zip_next (zx_end (show A.in1.handled = none from hd) Z hn fun h' e far st => ?_) (PySem.F.args_zip_next_1 _))))
  obtain ⟨oe, ge, ce⟩ := st
  exact wpAny_bind (wpAny_isInstance (T := "StopIteration") (b := true) ⟨oe, ge, ce⟩ isSubtype_stop (wpAny_pure (q _ far)))
end
/-- a tuple at a and a list at b, turn by turn: a new pair -/
def ItzX (K : PySem.W.Frag) (a b : Addr) : It :=
  ⟨fun i H => ∃ (xs ys : List V) (x y : V), SqT K H a xs ∧ SqL K H b ys ∧ xs[i]? = some x ∧ ys[i]? = some y,
    fun i H v H' => ∃ T x y, v = .ref T ∧ H T = none ∧ H' = upd H T (.tup [x, y]) ∧ (∀ xs, SqT K H a xs → xs[i]? = some x) ∧ ∀ ys, SqL K H b ys → ys[i]? = some y,
    fun i H => ∃ xs ys : List V, SqT K H a xs ∧ SqL K H b ys ∧ (xs.length ≤ i ∨ ys.length ≤ i)⟩

section
variable {P : Program} {w : World} {A : Around} {E : Value → Shared → Prop} {s : Shared} {a b : Addr} {us ws : Array Value}
abbrev zm1 (h : Heap) (a : Addr) : Heap := h.push { cls := .type "tuple_iterator", data := .fields #[.ref a, .int 0 0] }
abbrev zm2 (h : Heap) (a b : Addr) : Heap := (zm1 h a).push { cls := .type "list_iterator", data := .fields #[.ref b, .int 0 0] }
abbrev zm3 (h : Heap) (a b : Addr) : Heap := (zm2 h a b).push { cls := .type "tuple", data := .seq #[.ref h.objs.size, .ref (zm1 h a).objs.size] }
abbrev zm4 (h : Heap) (a b : Addr) : Heap := (zm3 h a b).push { cls := .type "tuple", data := .seq #[.none, .none] }
abbrev zm5 (h : Heap) (a b : Addr) : Heap := (zm4 h a b).push { cls := .type "zip", data := .fields #[.none, .bool false, .bool false, .ref (zm2 h a b).objs.size, .ref (zm3 h a b).objs.size] }
theorem zm_new (a b : Addr) (us ws : Array Value) :
    Meets (Builtin.«zip.__new__» ⟨[.type "zip", .ref a, .ref b], []⟩) (fun _ R s => s.heap.IsTuple a us ∧ s.heap.IsList b ws ∧ R (.ok (.ret (.ref (zm4 s.heap a b).objs.size))) { s with heap := zm5 s.heap a b }) :=
  .of_wp fun P w A R s h => by
    obtain ⟨hp, g, d, tk, os⟩ := s; obtain ⟨ta, tb, q⟩ := h
    have sz := sub_zip
    have t1 : Heap.IsTuple (Shared.heap ⟨hp, g, d, tk, os⟩) a us := ta
    have t2 : Heap.IsList (Shared.heap ⟨hp.push { cls := .type "tuple_iterator", data := .fields #[.ref a, .int 0 0] }, g, d, tk, os⟩) b ws := Heap.IsList.push tb _
    wp_walk using wpAny_pyIter_tuple t1, wpAny_pyIter_list t2
    exact ⟨_, rfl, q⟩
theorem zm_call (ta : s.heap.IsTuple a us) (tb : s.heap.IsList b ws) {Q : Value → Shared → Prop}
    (q : ∀ h', Zp true false h' (s.heap.objs.size + 4) (s.heap.objs.size + 2) (s.heap.objs.size + 3) s.heap.objs.size (s.heap.objs.size + 1) a b 0 0 us ws .none .none .none →
      (∀ c o, s.heap.get? c = some o → h'.get? c = some o) → Q (.ref (s.heap.objs.size + 4)) { s with heap := h' }) : wpAny (model P w) A (call (.type "zip") [.ref a, .ref b]) Q E s := by
  refine callType_new PySem.F.called_zip (by decide) (PySem.F.typeCall_zip_2 _ _) (PySem.F.newCall_zip_2 _ _) (fun ob => PySem.F.args_object_init_3 ob _ _) PySem.F.entry_zip_new (zm_new a b us ws) ⟨ta, tb, ?_⟩
  have s1 : (zm1 s.heap a).objs.size = s.heap.objs.size + 1 := Heap.size_push ..
  have s2 : (zm2 s.heap a b).objs.size = s.heap.objs.size + 2 := by rw [Heap.size_push, s1]
  have s3 : (zm3 s.heap a b).objs.size = s.heap.objs.size + 3 := by rw [Heap.size_push, s2]
  have s4 : (zm4 s.heap a b).objs.size = s.heap.objs.size + 4 := by rw [Heap.size_push, s3]
  have up1 : ∀ c o, s.heap.get? c = some o → (zm1 s.heap a).get? c = some o := fun c o e => Heap.get?_push_of_some _ e
  have up2 : ∀ c o, (zm1 s.heap a).get? c = some o → (zm2 s.heap a b).get? c = some o := fun c o e => Heap.get?_push_of_some _ e
  have up3 : ∀ c o, (zm2 s.heap a b).get? c = some o → (zm3 s.heap a b).get? c = some o := fun c o e => Heap.get?_push_of_some _ e
  have up4 : ∀ c o, (zm3 s.heap a b).get? c = some o → (zm4 s.heap a b).get? c = some o := fun c o e => Heap.get?_push_of_some _ e
  have up5 : ∀ c o, (zm4 s.heap a b).get? c = some o → (zm5 s.heap a b).get? c = some o := fun c o e => Heap.get?_push_of_some _ e
  have up : ∀ c o, s.heap.get? c = some o → (zm5 s.heap a b).get? c = some o := fun c o e => up5 _ _ (up4 _ _ (up3 _ _ (up2 _ _ (up1 _ _ e))))
  have o5 : (zm5 s.heap a b).get? (zm4 s.heap a b).objs.size = some _ := Heap.get?_push_size _ rfl
  have o4 : (zm5 s.heap a b).get? (zm3 s.heap a b).objs.size = some _ := up5 _ _ (Heap.get?_push_size _ rfl)
  have o3 : (zm5 s.heap a b).get? (zm2 s.heap a b).objs.size = some _ := up5 _ _ (up4 _ _ (Heap.get?_push_size _ rfl))
  have o2 : (zm5 s.heap a b).get? (zm1 s.heap a).objs.size = some _ := up5 _ _ (up4 _ _ (up3 _ _ (Heap.get?_push_size _ rfl)))
  have o1 : (zm5 s.heap a b).get? s.heap.objs.size = some _ := up5 _ _ (up4 _ _ (up3 _ _ (up2 _ _ (Heap.get?_push_size _ rfl))))
  show _ ∧ _
  rw [s2, s3, s4] at o5
  rw [s1, s2] at o3
  rw [s3] at o4
  rw [s1] at o2
  rw [s4]
  have la : a < s.heap.objs.size := let ⟨o, e, _⟩ := ta; Heap.lt_size e
  have lb : b < s.heap.objs.size := let ⟨o, e, _⟩ := tb; Heap.lt_size e
  exact ⟨⟨_, o5, rfl⟩, q _ ⟨PySem.W.ktu_apart s.heap.objs.size a b la lb, o5, o3, o4, ⟨_, o1, rfl, rfl⟩, ⟨_, o2, rfl, rfl⟩, Heap.IsTuple.at ta fun o e => up _ _ e, Heap.IsList.at tb fun o e => up _ _ e⟩ up⟩
end
theorem turn_zipX {P : Program} {w : World} {K : PySem.W.Frag} {elts : List Expr} {kk : Nat} {tpos : Pos} {a b z a1 a2 i1 i2 : Addr} (ap : ZipApart z a1 a2 i1 i2 a b) :
    Turn P w K (.Tuple elts kk tpos) (ItzX K a b) [z, a1, a2, i1, i2] z (fun i h => IsZip h z a1 a2 .none ∧ IsPair h a1 (.ref i1) (.ref i2) ∧ (∃ x y, IsPair h a2 x y) ∧ ItAt true h i1 a i ∧ ItAt false h i2 b i) where
  mem := List.mem_cons_self ..
  obj := fun i h st c hc => by
    obtain ⟨kz, k1, ⟨x, y, k2⟩, t1, t2⟩ := st
    simp only [List.mem_cons, List.not_mem_nil, or_false] at hc
    rcases hc with rfl | rfl | rfl | rfl | rfl
    · exact ⟨_, kz, fun v q => by cases q⟩
    · exact ⟨_, k1, fun v q => by cases q⟩
    · exact ⟨_, k2, fun v q => by cases q⟩
    · exact t1.ob
    · exact t2.ob
  keep := fun i h h' st k => by
    obtain ⟨kz, k1, ⟨x, y, k2⟩, t1, t2⟩ := st
    exact ⟨k z (by simp) _ kz, k a1 (by simp) _ k1, ⟨x, y, k a2 (by simp) _ k2⟩, t1.kept fun o q => k i1 (by simp) o q, t2.kept fun o q => k i2 (by simp) o q⟩
  item := by
    intro X hP hw hK hc i pins s σ H E I hf st hg
    subst hP hw hK
    obtain ⟨kz, k1, ⟨x0, y0, k2⟩, t1, t2⟩ := st
    obtain ⟨xs, ys, x, y, qx, qy, hx, hy⟩ := hg
    obtain ⟨its, rv, p, _⟩ := I.tuple qx
    obtain ⟨jts, rw, p2, _⟩ := I.list qy
    obtain ⟨u, hu, ru⟩ := rv.get hx
    obtain ⟨v, hv, rv2⟩ := rw.get hy
    have lz : z < s.heap.objs.size := Heap.lt_size kz
    have Z : Zp true false s.heap z a1 a2 i1 i2 a b i i its.toArray jts.toArray x0 y0 .none := ⟨ap, kz, k1, k2, t1, t2, p, p2.isList⟩
    refine zn_item Z (u := u) (v := v) (by simpa using hu) (by simpa using hv) fun g Zg new _ far => ⟨_, rfl, wpAny_letOwnedTupleGo_zip (s := { s with heap := g }) Zg.zip fun g2 kz2 sb => ?_⟩
    have new2 : g2.get? s.heap.objs.size = some { cls := .type "tuple", data := .seq #[u, v] } := (sb.2 _ (Nat.ne_of_gt lz)).trans new
    have ok : ObjOk X.prog X.w (upd H s.heap.objs.size (.tup [x, y])) g2 s.heap.objs.size (.tup [x, y]) := ⟨by show 2 ≤ sizeLine; decide, [u, v], .cons ru (.cons rv2 .nil), ⟨_, new2, rfl, _, rfl⟩⟩
    have I1 : Inv X pins σ (upd H s.heap.objs.size (.tup [x, y])) { s with heap := g2 } :=
      I.turnedNew (t' := s.toks) (ch := [z, a1, a2, i1, i2]) (fun c o hb e => (sb.2 c (fun n => hb (by simp [n]))).trans (far c o (fun n => hb (by simp [n])) (fun n => hb (by simp [n])) (fun n => hb (by simp [n])) (fun n => hb (by simp [n])) e)) hf (Nat.le_refl _) ok
    refine ⟨.ref s.heap.objs.size, _, I1, rfl, ⟨_, x, y, rfl, I.hok.fresh (Nat.le_refl _), rfl, fun l hl => by rw [I.tuple_inj hl qx]; exact hx, fun l hl => by rw [I.list_inj hl qy]; exact hy⟩, ⟨kz2, ?_, ⟨u, v, ?_⟩, ?_, ?_⟩, fun c hcm => ?_⟩
    · exact (sb.2 _ ap.TIz).trans Zg.its
    · exact (sb.2 _ ap.TOz).trans Zg.out
    · exact Zg.one.kept fun o e => (sb.2 _ ap.i1z).trans e
    · exact Zg.two.kept fun o e => (sb.2 _ ap.i2z).trans e
    · have lc : c < s.heap.objs.size := by
        simp only [List.mem_cons, List.not_mem_nil, or_false] at hcm
        rcases hcm with rfl | rfl | rfl | rfl | rfl
        · exact lz
        · exact Heap.lt_size k1
        · exact Heap.lt_size k2
        · obtain ⟨_, e, _⟩ := t1.ob; exact Heap.lt_size e
        · obtain ⟨_, e, _⟩ := t2.ob; exact Heap.lt_size e
      rw [upd_ne (Nat.ne_of_lt lc)]; exact (hf c hcm).1
  done := by
    intro X hP hw hK hc i pins s σ H E I hf st hg
    subst hP hw hK
    obtain ⟨kz, k1, ⟨x0, y0, k2⟩, t1, t2⟩ := st
    obtain ⟨xs, ys, qx, qy, en⟩ := hg
    obtain ⟨its, rv, p, _⟩ := I.tuple qx
    obtain ⟨jts, rw, p2, _⟩ := I.list qy
    have n1 := rv.length
    have n2 := rw.length
    have Z : Zp true false s.heap z a1 a2 i1 i2 a b i i its.toArray jts.toArray x0 y0 .none := ⟨ap, kz, k1, k2, t1, t2, p, p2.isList⟩
    have en2 : its.toArray[i]? = none ∨ jts.toArray[i]? = none := en.imp (fun q => by simp; omega) (fun q => by simp; omega)
    exact zn_end (I.ok.hd hc) Z en2 fun g far => ⟨rfl, I.turnedL (t' := s.toks) (ch := [z, a1, a2, i1, i2]) (fun c o hb e => far c o (fun n => hb (by simp [n])) (fun n => hb (by simp [n])) (fun n => hb (by simp [n])) (fun n => hb (by simp [n])) e) hf⟩
  self := fun A i s Q E st h => wpAny_pyIter_zip st.1 h
def iZipX (K : PySem.W.Frag) (ta : TA) : TI := fun σ H R => ta σ H fun vs H1 => ∃ a b xs ys, vs = [.ref a, .ref b] ∧ SqT K H1 a xs ∧ SqL K H1 b ys ∧ R (ItzX K a b) H1
theorem pi_zipX {X : Cx} {e e2 : Expr} {ta : TA} {p pos tpos : Pos} {elts : List Expr} {kk : Nat} (hg : Gl X "zip") (hm : X.mg "zip" = none) (ha : PA X [e, e2] ta)
    (hs : starEach [e, e2] X.env = (false, eval e X.env) :: starEach [e2] X.env := by rfl) (hpl : (backTo pos (starEach [e2] X.env)).any (·.1) = false := by rfl) :
    PI X (.Tuple elts kk tpos) (.Call (.Name "zip" p) [e, e2] [] pos) (iZipX X.K ta) := by
  refine ⟨fun pins s σ H R I h => Call_ (ld_blt I hg hm PyProof.Rows.boot_zip (PyProof.Rows.callWith_type1 (thn (ha.run pos pins s σ H _ I h) fun us s1 ⟨vs, H1, I1, r1, q1⟩ => ?_) hs hpl))⟩
  obtain ⟨a, b, xs, ys, rfl, qx, qy, q⟩ := q1
  obtain rfl : us = [.ref a, .ref b] := by
    cases r1 with
    | cons r rr =>
      cases rr with
      | cons r2 rr =>
        cases rr
        cases r
        cases r2
        rfl
  obtain ⟨its, rv, p1, _⟩ := I1.tuple qx
  obtain ⟨jts, rw, p2, _⟩ := I1.list qy
  refine zm_call p1 p2.isList fun g Z far => wpAny_pyIter_zip Z.zip ?_
  have I2 : Inv X pins σ H1 { s1 with heap := g } := I1.kept (t' := s1.toks) far
  refine ⟨s1.heap.objs.size + 4, [s1.heap.objs.size + 4, s1.heap.objs.size + 2, s1.heap.objs.size + 3, s1.heap.objs.size, s1.heap.objs.size + 1], _, _, H1, rfl, I2, turn_zipX Z.ap, ⟨Z.zip, Z.its, ⟨_, _, Z.out⟩, Z.one, Z.two⟩, fun c hc => ?_, q⟩
  have hle : s1.heap.objs.size ≤ c := by
    simp only [List.mem_cons, List.not_mem_nil, or_false] at hc
    rcases hc with rfl | rfl | rfl | rfl | rfl <;> omega
  exact I1.fpOk hle (I1.hok.fresh hle)
theorem x_iZipX {K : PySem.W.Frag} {ta : TA} {σ : L2.St} {H : Hp} {R : It → Hp → Prop} : iZipX K ta σ H R = ta σ H fun vs H1 => ∃ a b xs ys, vs = [.ref a, .ref b] ∧ SqT K H1 a xs ∧ SqL K H1 b ys ∧ R (ItzX K a b) H1 := rfl
theorem walk_zipX {K : PySem.W.Frag} {a b : Addr} {xs ys : List V} (hn : xs.length = ys.length) : Walk (ItzX K a b) xs.length (fun H => SqT K H a xs ∧ SqL K H b ys) (YPair (fun i => xs[i]?) (fun i => ys[i]?)) := by
  refine ⟨fun i _ hi q => ?_, fun _ q => ⟨xs, ys, q.1, q.2, by omega⟩, fun i H v H' _ q y => ?_⟩
  · have h2 : i < ys.length := by omega
    exact ⟨xs, ys, xs[i], ys[i], q.1, q.2, by simp [hi], by simp [h2]⟩
  · obtain ⟨T, x, z, h1, h2, h3, h4, h5⟩ := y
    exact ⟨T, x, z, h1, h2, h3, h4 xs q.1, h5 ys q.2⟩
end FB
set_option Elab.async false
set_option linter.all false
set_option maxRecDepth 100000
set_option maxHeartbeats 4000000
/-! list(d.values()); k in d; loops over a dict's keys; == of dicts of tuples. -/
namespace FB
open PySem PySem.Spec PyProof.Rows L2 Evl
theorem vals_snd {kvs : List (Key × V)} {vs : List (Key × Value)} (r : KV kvs vs) : Vals (kvs.map (·.2)) (vs.map (·.2)) := by
  unfold KV at r
  induction r with
  | nil => exact .nil
  | cons h _ ih => exact .cons h.2 ih
/-- the view of the values of the dict at d -/
def ViewO (v d : Addr) : HO := .ext fun h => h.IsValuesView v d
section
variable {X : Cx}
def rVals : V → List V → Hp → VK → Prop := fun x xs H Q => ∃ (d : Addr) (kvs : List (Key × V)), x = .ref d ∧ xs = [] ∧ H d = some (.dK kvs) ∧ ∀ v, H v = none → Q (.ref v) (upd H v (ViewO v d))
theorem mt_vals : MtR X "dict.values" rVals := by
  intro pins s σ H x xs v us Q I rx rxs ⟨d, kvs, ex, exs, hd, q⟩
  subst ex exs
  cases rx
  cases rxs
  obtain ⟨_, lo, vs, _, dd⟩ := dk_of I.hok hd
  refine call_meetsIn PySem.F.slot_dict_values dd.typeIs PySem.F.entry_dict_values (PySem.F.args_dict_values_1 _) (meets_dict_values (mixKind X.prog X.w) d lo) ⟨⟨vs, dd⟩, ?_⟩
  have view : (s.heap.push { cls := .type "dict_values", data := .fields #[.ref d] }).IsValuesView s.heap.objs.size d := ⟨_, Heap.get?_push_size _ rfl, rfl, rfl⟩
  refine ⟨.ref s.heap.objs.size, upd H s.heap.objs.size (ViewO s.heap.objs.size d), I.laid (t' := s.toks) (fun b u e => Heap.get?_push_of_some _ e) (Nat.le_refl _) ⟨view, ⟨_, Heap.get?_push_size _ rfl⟩, fun h1 h2 r k => let ⟨o, e, c, f⟩ := r; ⟨o, k _ e, c, f⟩⟩, rfl, q _ (I.hok.fresh (Nat.le_refl _))⟩
/-- list(view) -/
def rListV : List V → Hp → VK → Prop := fun xs H Q => ∃ (v d : Addr) (kvs : List (Key × V)), xs = [.ref v] ∧ H v = some (ViewO v d) ∧ H d = some (.dK kvs) ∧ ∀ l, H l = none → Q (.ref l) (upd H l (.lst (kvs.map (·.2))))
theorem call_listV (hc : X.calm = true) : CallR X (.type "list") rListV := by
  intro pins s σ H xs us Q I r ⟨v, d, kvs, ex, hv, hd, q⟩
  subst ex
  rw [Vals.ref1 r]
  obtain ⟨hz, _, vs, kv, dd⟩ := dk_of I.hok hd
  obtain ⟨ep, hat⟩ := dd.dictAt
  have view : s.heap.IsValuesView v d := (I.hok v _ hv).1
  have hl : kvs.length = vs.length := kv.length
  refine PySem.W.kdl_call (PySem.W.kdl_values (knd := mixKind X.prog X.w) (kvs := vs) (ep := ep)) (I.ok.hd hc) ⟨view, hat⟩ (by omega) fun h' tk acc c k hg hit => ?_
  have rel : Vals (kvs.map (·.2)) acc.toList := by
    have e : acc.toList = vs.map (·.2) := by
      apply List.ext_getElem
      · rw [Array.length_toList, List.length_map]; exact hit.1
      · intro i h1 h2
        have hi : i < acc.size := by rw [Array.length_toList] at h1; exact h1
        obtain ⟨k2, e2⟩ := hit.2 i _ (Array.getElem?_eq_getElem hi)
        rw [List.getElem_map, Array.getElem_toList]
        have hi2 : i < vs.length := by rw [List.length_map] at h2; exact h2
        rw [List.getElem?_eq_getElem hi2] at e2
        rw [Option.some.inj e2]
    rw [e]
    exact vals_snd kv
  exact ⟨.ref s.heap.objs.size, upd H s.heap.objs.size (.lst (kvs.map (·.2))), I.laid (t' := tk) k (Nat.le_refl _) ⟨by rw [List.length_map]; exact hz, acc.toList, c, rel, by rw [Array.toArray_toList]; exact hg⟩, rfl, q _ (I.hok.fresh (Nat.le_refl _))⟩
end
/-- == of two dicts of the same keys, the values equal data -/
def rEqDD (K : PySem.W.Frag) : R2 := fun x y H Q => ∃ (a b : Addr) (ks ls : List (Key × V)), x = .ref a ∧ y = .ref b ∧ H a = some (.dK ks) ∧ H b = some (.dK ls) ∧ ks.length = ls.length ∧
  (∀ p ∈ ks, ∃ u d, valV ls p.1 = some u ∧ Dp K H p.2 d ∧ Dp K H u d ∧ SeqAt.shaped d = true ∧ d.depth ≤ 60 ∧ PyData.eqv d d = true) ∧ Q (.bl true) H
theorem op_eqDD {X : Cx} {K : PySem.W.Frag} (hu : X.A.units + 64 < cLine) (hK : X.K = K := by rfl) : OpR X (compareOp .Eq) (rEqDD K) := by
  subst hK
  intro pins s σ H x y v u Q I rx ry ⟨a, b, ks, ls, ex, ey, ha, hb, hl, hp, q⟩
  subst ex ey
  cases rx
  cases ry
  obtain ⟨_, ya, va, ra, da⟩ := (show ObjOk X.prog X.w H s.heap a (.dK ks) from I.hok a _ ha)
  obtain ⟨_, yb, vb, rb, db⟩ := (show ObjOk X.prog X.w H s.heap b (.dK ls) from I.hok b _ hb)
  have ih : ∀ x y v u, (∃ d, Dp X.K H x d ∧ Dp X.K H y d ∧ SeqAt.shaped d = true ∧ d.depth ≤ 60 ∧ PyData.eqv d d = true) → RelV x v → RelV y u → SeqAt.EqP X.prog X.w X.A.in1 s v u true := fun x y v u ⟨d, h1, h2, sh, dp, e⟩ r1 r2 => by
    obtain ⟨as, q1⟩ := Dp.reads I d x v h1 r1
    obtain ⟨bs, q2⟩ := Dp.reads I d y u h2 r2
    have sh2 : d.canLay0 = true ∧ d.depth ≤ 64 := by
      unfold SeqAt.shaped at sh
      simpa using sh
    have := SeqAt.eqAt_reads d d X.A.in1 s v u as bs q1 q2 sh2.1 sh2.1 (by show X.A.units + 1 + _ < cLine; omega)
    rw [e] at this
    exact this.eqP
  refine PySem.W.rcP_dicts (knd := mixKind X.prog X.w) (r := true) ya yb da db (by omega) (fun _ => hits_run ih rb ra fun p hm => ?_) _ _ ?_
  · obtain ⟨u, d, e1, e2, e3, e4, e5, e6⟩ := hp p hm
    exact ⟨u, e1, d, e2, e3, e4, e5, e6⟩
  · rw [show (va.length == vb.length && true) = true from by rw [← ra.length, ← rb.length, hl]; simp]
    exact ⟨.bl true, H, I, rfl, q⟩
section
variable {K : PySem.W.Frag} {H : Hp} {Q : VK} {a b d v : Addr} {kvs ka kb : List (Key × V)} {k : Key}
theorem x_tyD (h : H d = some (.dK kvs)) : tyV K "dict" (.ref d) H := .inr (.inr (.inl ⟨rfl, .inl ⟨kvs, h⟩⟩))
theorem x_vals (h : H d = some (.dK kvs)) (q : ∀ v H', H v = none → Ex H H' → H' v = some (ViewO v d) → Q (.ref v) H') : rVals (.ref d) [] H Q := ⟨d, kvs, rfl, rfl, h, fun v hv => q v _ hv (Ex.new hv) upd_same⟩
theorem x_listV (hv : H v = some (ViewO v d)) (h : H d = some (.dK kvs)) (q : ∀ l H', H l = none → Ex H H' → H' l = some (.lst (kvs.map (·.2))) → Q (.ref l) H') : rListV [.ref v] H Q := ⟨v, d, kvs, rfl, hv, h, fun l hl => q l _ hl (Ex.new hl) upd_same⟩
/-- k in d -/
def rDIn (y x : V) (H : Hp) (Q : VK) : Prop := ∃ a o, x = .ref a ∧ DGet H a y o ∧ Q (.bl o.isSome) H
theorem x_tDIn {ty td : TE} {σ : L2.St} : tDIn ty td σ H Q = ty σ H fun y H1 => td σ H1 fun x H2 => rDIn y x H2 Q := rfl
theorem x_dIn (h : H a = some (.dK kvs)) (q : Q (.bl (valV kvs k).isSome) H) : rDIn (kV k) (.ref a) H Q := ⟨a, _, rfl, DGet.k h, q⟩
/-- keys of a locked dict -/
def rKeys (x : V) (H : Hp) (R : It → Hp → Prop) : Prop := ∃ d o, x = .ref d ∧ ((∃ kvs, H d = some (.frz o (.dK kvs)) ∧ R (Itk d o kvs) H) ∨ ∃ kvs, H d = some (.frz o (.dT kvs)) ∧ R (Itkt d o kvs) H)
theorem x_iKeys {td : TE} {σ : L2.St} {R : It → Hp → Prop} : iKeys td σ H R = td σ H fun x H1 => rKeys x H1 R := rfl
theorem x_keys {o : Obj} {R : It → Hp → Prop} (h : H d = some (.frz o (.dK kvs))) (q : R (Itk d o kvs) H) : rKeys (.ref d) H R := ⟨d, o, rfl, .inl ⟨kvs, h, q⟩⟩
theorem x_eqDD (h1 : H a = some (.dK ka)) (h2 : H b = some (.dK kb)) (hl : ka.length = kb.length) (hp : ∀ p ∈ ka, ∃ u d, valV kb p.1 = some u ∧ Dp K H p.2 d ∧ Dp K H u d ∧ SeqAt.shaped d = true ∧ d.depth ≤ 60 ∧ PyData.eqv d d = true) (q : Q (.bl true) H) : rEqDD K (.ref a) (.ref b) H Q :=
  ⟨a, b, ka, kb, rfl, rfl, h1, h2, hl, hp, q⟩
end
end FB
set_option Elab.async false
set_option linter.all false
set_option maxRecDepth 100000
set_option maxHeartbeats 4000000
/-! zip of three tuples. -/
namespace FB
open PySem PySem.Spec PyProof.Rows L2 Evl
/-- the tuples at a, b and c, turn by turn: a new triple -/
def Itz3 (K : PySem.W.Frag) (a b c : Addr) : It :=
  ⟨fun i H => ∃ (xs ys zs : List V) (x y z : V), SqT K H a xs ∧ SqT K H b ys ∧ SqT K H c zs ∧ xs[i]? = some x ∧ ys[i]? = some y ∧ zs[i]? = some z,
    fun i H v H' => ∃ T x y z, v = .ref T ∧ H T = none ∧ H' = upd H T (.tup [x, y, z]) ∧ (∀ xs, SqT K H a xs → xs[i]? = some x) ∧ (∀ ys, SqT K H b ys → ys[i]? = some y) ∧ ∀ zs, SqT K H c zs → zs[i]? = some z,
    fun i H => ∃ xs ys zs : List V, SqT K H a xs ∧ SqT K H b ys ∧ SqT K H c zs ∧ i = xs.length ∧ i = ys.length ∧ i = zs.length⟩
theorem ti_ne {h : Heap} {a i : Addr} {k : Nat} {us : Array Value} (t : h.IsTupleIter i a k) (p : h.IsTuple a us) : a ≠ i := fun e => by
  subst e
  obtain ⟨o, q, c1, _⟩ := t
  obtain ⟨o', q', c2, _⟩ := p
  rw [q] at q'
  cases q'
  rw [c1] at c2
  simp at c2
theorem in1_hd {A : Around} (h : A.handled = none) : A.in1.handled = none := h
theorem turn_zip3 {P : Program} {w : World} {K : PySem.W.Frag} {elts : List Expr} {kk : Nat} {tpos : Pos} {a b c z TI TO i1 i2 i3 : Addr} (D : ZipSep3 z TI TO i1 i2 i3 [i1, a] [i2, b] [i3, c]) :
    Turn P w K (.Tuple elts kk tpos) (Itz3 K a b c) [z, TI, TO, i1, i2, i3] z (fun i h => IsZip h z TI TO .none ∧ IsTupOf3 h TI (.ref i1) (.ref i2) (.ref i3) ∧ (∃ x y v, IsTupOf3 h TO x y v) ∧ h.IsTupleIter i1 a i ∧ h.IsTupleIter i2 b i ∧ h.IsTupleIter i3 c i) where
  mem := List.mem_cons_self ..
  obj := fun i h st c hc => by
    obtain ⟨hz, hTI, ⟨x, y, v, hTO⟩, ⟨o1, e1, _, d1⟩, ⟨o2, e2, _, d2⟩, ⟨o3, e3, _, d3⟩⟩ := st
    simp only [List.mem_cons, List.not_mem_nil, or_false] at hc
    rcases hc with rfl | rfl | rfl | rfl | rfl | rfl
    · exact ⟨_, hz, fun v q => nomatch q⟩
    · exact ⟨_, hTI, fun v q => nomatch q⟩
    · exact ⟨_, hTO, fun v q => nomatch q⟩
    · exact ⟨o1, e1, fun v q => by rw [d1] at q; cases q⟩
    · exact ⟨o2, e2, fun v q => by rw [d2] at q; cases q⟩
    · exact ⟨o3, e3, fun v q => by rw [d3] at q; cases q⟩
  keep := fun i h h' st k => by
    obtain ⟨hz, hTI, ⟨x, y, v, hTO⟩, h1, h2, h3⟩ := st
    exact ⟨k z (by simp) _ hz, k TI (by simp) _ hTI, ⟨x, y, v, k TO (by simp) _ hTO⟩, h1.at fun o q => k i1 (by simp) o q, h2.at fun o q => k i2 (by simp) o q, h3.at fun o q => k i3 (by simp) o q⟩
  item := by
    intro X hP hw hK hc i pins s σ H E I hf st hg
    subst hP hw hK
    obtain ⟨hz, hTI, ⟨x0, y0, v0, hTO⟩, h1, h2, h3⟩ := st
    obtain ⟨xs, ys, zs, x, y, v, hqx, hqy, hqz, hx, hy, hv⟩ := hg
    obtain ⟨its, rv, p, _⟩ := I.tuple hqx
    obtain ⟨its2, rv2, p2, _⟩ := I.tuple hqy
    obtain ⟨its3, rv3, p3, _⟩ := I.tuple hqz
    obtain ⟨u, hu, ru⟩ := rv.get hx
    obtain ⟨u2, hu2, ru2⟩ := rv2.get hy
    obtain ⟨u3, hu3, ru3⟩ := rv3.get hv
    have hzl : z < s.heap.objs.size := Heap.lt_size hz
    have hh := in1_hd (I.ok.hd hc)
    have na : a ≠ i1 := ti_ne h1 (show s.heap.IsTuple a its.toArray from p)
    have nb : b ≠ i2 := ti_ne h2 (show s.heap.IsTuple b its2.toArray from p2)
    have nc : c ≠ i3 := ti_ne h3 (show s.heap.IsTuple c its3.toArray from p3)
    have l1 : i < its.toArray.size := by simpa using (List.getElem?_eq_some_iff.mp hu).1
    have l2 : i < its2.toArray.size := by simpa using (List.getElem?_eq_some_iff.mp hu2).1
    have l3 : i < its3.toArray.size := by simpa using (List.getElem?_eq_some_iff.mp hu3).1
    refine wpAny_pyNext_zipD3_item D (Draws.tuple hh i1 a na its.toArray) (Draws.tuple hh i2 b nb its2.toArray) (Draws.tuple hh i3 c nc its3.toArray) hz hTI hTO ⟨h1, p⟩ ⟨h2, p2⟩ ⟨h3, p3⟩ l1 l2 l3 fun w1 w2 w3 h' tk g1 g2 g3 z' TO' s1' s2' s3' hT hsz hk => ?_
    obtain rfl : u = w1 := by have : its[i]? = some w1 := by simpa using g1
                              rw [hu] at this; exact Option.some.inj this
    obtain rfl : u2 = w2 := by have : its2[i]? = some w2 := by simpa using g2
                               rw [hu2] at this; exact Option.some.inj this
    obtain rfl : u3 = w3 := by have : its3[i]? = some w3 := by simpa using g3
                               rw [hu3] at this; exact Option.some.inj this
    refine ⟨_, rfl, wpAny_letOwnedTupleGo_zip (s := { s with heap := h', toks := tk }) z' fun h'' z'' sb => ?_⟩
    have hT2 : h''.get? s.heap.objs.size = some { cls := .type "tuple", data := .seq #[u, u2, u3] } := (sb.2 _ (Nat.ne_of_gt hzl)).trans hT
    have new : ObjOk X.prog X.w (upd H s.heap.objs.size (.tup [x, y, v])) h'' s.heap.objs.size (.tup [x, y, v]) :=
      ⟨by show 3 ≤ sizeLine; decide, [u, u2, u3], .cons ru (.cons ru2 (.cons ru3 .nil)), ⟨_, hT2, rfl, _, rfl⟩⟩
    have I1 : Inv X pins σ (upd H s.heap.objs.size (.tup [x, y, v])) { s with heap := h'', toks := tk } :=
      I.turnedNew (t' := tk) (ch := [z, TI, TO, i1, i2, i3]) (fun c o hb q => (sb.2 c (fun q' => hb (by simp [q']))).trans (hk c o (fun q' => hb (by simp [q'])) (fun q' => hb (by simp [q'])) (fun q' => hb (by simp [q'])) (fun q' => hb (by simp [q'])) (fun q' => hb (by simp [q'])) q)) hf (Nat.le_refl _) new
    have iz1 : i1 ≠ z := fun e => D.zf1 (by rw [← e]; simp)
    have iz2 : i2 ≠ z := fun e => D.zf2 (by rw [← e]; simp)
    have iz3 : i3 ≠ z := fun e => D.zf3 (by rw [← e]; simp)
    refine ⟨.ref s.heap.objs.size, _, I1, rfl, ⟨_, x, y, v, rfl, I.hok.fresh (Nat.le_refl _), rfl, fun l hl => by rw [I.tuple_inj hl hqx]; exact hx, fun l hl => by rw [I.tuple_inj hl hqy]; exact hy, fun l hl => by rw [I.tuple_inj hl hqz]; exact hv⟩, ⟨z'', ?_, ⟨u, u2, u3, ?_⟩, ?_, ?_, ?_⟩, fun c hcm => ?_⟩
    · exact (sb.2 _ D.TIz).trans (hk _ _ D.TIz D.TITO D.TIi1 D.TIi2 D.TIi3 hTI)
    · exact (sb.2 _ D.TOz).trans TO'
    · exact s1'.1.at fun o q => (sb.2 _ iz1).trans q
    · exact s2'.1.at fun o q => (sb.2 _ iz2).trans q
    · exact s3'.1.at fun o q => (sb.2 _ iz3).trans q
    · have hlt : c < s.heap.objs.size := by
        simp only [List.mem_cons, List.not_mem_nil, or_false] at hcm
        rcases hcm with rfl | rfl | rfl | rfl | rfl | rfl
        · exact hzl
        · exact Heap.lt_size hTI
        · exact Heap.lt_size hTO
        · obtain ⟨_, e1, _⟩ := h1; exact Heap.lt_size e1
        · obtain ⟨_, e2, _⟩ := h2; exact Heap.lt_size e2
        · obtain ⟨_, e2, _⟩ := h3; exact Heap.lt_size e2
      rw [upd_ne (Nat.ne_of_lt hlt)]
      exact (hf c hcm).1
  done := by
    intro X hP hw hK hc i pins s σ H E I hf st hg
    subst hP hw hK
    obtain ⟨hz, hTI, ⟨x0, y0, v0, hTO⟩, h1, h2, h3⟩ := st
    obtain ⟨xs, ys, zs, hqx, hqy, hqz, n1, n2, n3⟩ := hg
    obtain ⟨its, rv, p, _⟩ := I.tuple hqx
    obtain ⟨its2, rv2, p2, _⟩ := I.tuple hqy
    obtain ⟨its3, rv3, p3, _⟩ := I.tuple hqz
    have l1 := rv.length
    have l2 := rv2.length
    have l3 := rv3.length
    have hh := in1_hd (I.ok.hd hc)
    have na : a ≠ i1 := ti_ne h1 (show s.heap.IsTuple a its.toArray from p)
    have nb : b ≠ i2 := ti_ne h2 (show s.heap.IsTuple b its2.toArray from p2)
    have nc : c ≠ i3 := ti_ne h3 (show s.heap.IsTuple c its3.toArray from p3)
    refine wpAny_pyNext_zipD3_end (i := i) D (Draws.tuple hh i1 a na its.toArray) (Draws.tuple hh i2 b nb its2.toArray) (Draws.tuple hh i3 c nc its3.toArray) hz hTI hTO ⟨h1, p⟩ ⟨h2, p2⟩ ⟨h3, p3⟩ (by simp; omega) (by simp; omega) (by simp; omega) (.inl (by simp; omega)) fun h' tk hk => ?_
    exact ⟨rfl, I.turnedL (t' := tk) (ch := [z, TI, TO, i1, i2, i3]) (fun c o hb q =>
      hk c o (fun q' => hb (by simp [q'])) (fun q' => hb (by simp [q'])) (fun q' => hb (by simp [q'])) (fun q' => hb (by simp [q'])) (fun q' => hb (by simp [q'])) q) hf⟩
  self := fun A i s Q E st h => wpAny_pyIter_zip st.1 h
def iZip3 (K : PySem.W.Frag) (ta : TA) : TI := fun σ H R => ta σ H fun vs H1 => ∃ a b c xs ys zs, vs = [.ref a, .ref b, .ref c] ∧ SqT K H1 a xs ∧ SqT K H1 b ys ∧ SqT K H1 c zs ∧ R (Itz3 K a b c) H1
theorem pi_zip3 {X : Cx} {e e2 e3 : Expr} {ta : TA} {p pos tpos : Pos} {elts : List Expr} {kk : Nat} (hg : Gl X "zip") (hm : X.mg "zip" = none) (ha : PA X [e, e2, e3] ta)
    (hs : starEach [e, e2, e3] X.env = (false, eval e X.env) :: starEach [e2, e3] X.env := by rfl) (hpl : (backTo pos (starEach [e2, e3] X.env)).any (·.1) = false := by rfl) :
    PI X (.Tuple elts kk tpos) (.Call (.Name "zip" p) [e, e2, e3] [] pos) (iZip3 X.K ta) := by
  refine ⟨fun pins s σ H R I h => Call_ (ld_blt I hg hm PyProof.Rows.boot_zip (PyProof.Rows.callWith_type1 (thn (ha.run pos pins s σ H _ I h) fun us s1 ⟨vs, H1, I1, r1, q1⟩ => ?_) hs hpl))⟩
  obtain ⟨a, b, c, xs, ys, zs, rfl, qx, qy, qz, q⟩ := q1
  obtain rfl : us = [.ref a, .ref b, .ref c] := by
    cases r1 with
    | cons r rr =>
      cases rr with
      | cons r2 rr =>
        cases rr with
        | cons r3 rr =>
          cases rr
          cases r
          cases r2
          cases r3
          rfl
  obtain ⟨its, rv, p1, _⟩ := I1.tuple qx
  obtain ⟨jts, rw2, p2, _⟩ := I1.tuple qy
  obtain ⟨kts, rw3, p3, _⟩ := I1.tuple qz
  have la : a < s1.heap.objs.size := let ⟨o, e, _⟩ := (show s1.heap.IsTuple a its.toArray from p1); Heap.lt_size e
  have lb : b < s1.heap.objs.size := let ⟨o, e, _⟩ := (show s1.heap.IsTuple b jts.toArray from p2); Heap.lt_size e
  have lc : c < s1.heap.objs.size := let ⟨o, e, _⟩ := (show s1.heap.IsTuple c kts.toArray from p3); Heap.lt_size e
  refine zip_begins3 (begins_tuple a its.toArray) (begins_tuple b jts.toArray) (begins_tuple c kts.toArray) p1 p2 p3 fun g hz hTI hTO g1 g2 g3 hsz far => wpAny_pyIter_zip hz ?_
  have I2 : Inv X pins σ H1 { s1 with heap := g } := I1.kept (t' := s1.toks) far
  have D : ZipSep3 (s1.heap.objs.size + 5) (s1.heap.objs.size + 3) (s1.heap.objs.size + 4) s1.heap.objs.size (s1.heap.objs.size + 1) (s1.heap.objs.size + 2) [s1.heap.objs.size, a] [s1.heap.objs.size + 1, b] [s1.heap.objs.size + 2, c] :=
    zip_sep3 (fun x hx => by rw [List.mem_singleton.mp hx]; exact la) (fun x hx => by rw [List.mem_singleton.mp hx]; exact lb) (fun x hx => by rw [List.mem_singleton.mp hx]; exact lc)
  refine ⟨s1.heap.objs.size + 5, [s1.heap.objs.size + 5, s1.heap.objs.size + 3, s1.heap.objs.size + 4, s1.heap.objs.size, s1.heap.objs.size + 1, s1.heap.objs.size + 2], _, _, H1, rfl, I2, turn_zip3 D, ⟨hz, hTI, ⟨_, _, _, hTO⟩, ⟨_, g1, rfl, rfl⟩, ⟨_, g2, rfl, rfl⟩, ⟨_, g3, rfl, rfl⟩⟩, fun x hx => ?_, q⟩
  have hle : s1.heap.objs.size ≤ x := by
    simp only [List.mem_cons, List.not_mem_nil, or_false] at hx
    rcases hx with rfl | rfl | rfl | rfl | rfl | rfl
    · exact Nat.le_add_right _ _
    · exact Nat.le_add_right _ _
    · exact Nat.le_add_right _ _
    · exact Nat.le_refl _
    · exact Nat.le_add_right _ _
    · exact Nat.le_add_right _ _
  exact I1.fpOk hle (I1.hok.fresh hle)
theorem x_iZip3 {K : PySem.W.Frag} {ta : TA} {σ : L2.St} {H : Hp} {R : It → Hp → Prop} : iZip3 K ta σ H R = ta σ H fun vs H1 => ∃ a b c xs ys zs, vs = [.ref a, .ref b, .ref c] ∧ SqT K H1 a xs ∧ SqT K H1 b ys ∧ SqT K H1 c zs ∧ R (Itz3 K a b c) H1 := rfl
def YTri (xs ys zs : Nat → Option V) : Nat → Hp → V → Hp → Prop := fun i H v H' => ∃ T x y z, v = .ref T ∧ H T = none ∧ H' = upd H T (.tup [x, y, z]) ∧ xs i = some x ∧ ys i = some y ∧ zs i = some z
theorem walk_zip3 {K : PySem.W.Frag} {a b c : Addr} {xs ys zs : List V} (hn : xs.length = ys.length) (hm : xs.length = zs.length) : Walk (Itz3 K a b c) xs.length (fun H => SqT K H a xs ∧ SqT K H b ys ∧ SqT K H c zs) (YTri (fun i => xs[i]?) (fun i => ys[i]?) (fun i => zs[i]?)) := by
  refine ⟨fun i _ hi q => ?_, fun _ q => ⟨xs, ys, zs, q.1, q.2.1, q.2.2, rfl, hn, hm⟩, fun i H v H' _ q y => ?_⟩
  · have h2 : i < ys.length := by omega
    have h3 : i < zs.length := by omega
    exact ⟨xs, ys, zs, xs[i], ys[i], zs[i], q.1, q.2.1, q.2.2, by simp [hi], by simp [h2], by simp [h3]⟩
  · obtain ⟨T, x, z, v, h1, h2, h3, h4, h5, h6⟩ := y
    exact ⟨T, x, z, v, h1, h2, h3, h4 xs q.1, h5 ys q.2.1, h6 zs q.2.2⟩
theorem x_three {K : PySem.W.Frag} {H : Hp} {σ : L2.St} {n i j m : Nat} {T : Addr} {x y z : V} {Q : L2.St → Hp → Prop} (h : SqT K H T [x, y, z]) (k : Q (((σ.set i (some x)).set j (some y)).set m (some z)) H) (hn : n = 3 := by rfl) :
    gTup K n (gCons (gName i) (gCons (gName j) (gCons (gName m) gNil))) (.ref T) σ H Q := by
  subst hn
  exact ⟨T, _, rfl, h, rfl, x, [y, z], rfl, y, [z], rfl, z, [], rfl, rfl, k⟩
end FB
set_option Elab.async false
set_option linter.all false
set_option maxRecDepth 100000
set_option maxHeartbeats 4000000
/-! x not in a tuple of data; a tuple once. -/
namespace FB
open PySem PySem.Spec PyProof.Rows L2 Evl
open Sem (wp)
def rNotInT (K : PySem.W.Frag) : R2 := fun x y H Q => ∃ d ds, Dp K H x d ∧ Dp K H y (.tuple ds) ∧ SeqAt.shaped d = true ∧ SeqAt.shaped (.tuple ds) = true ∧ d.depth ≤ 60 ∧ Q (.bl (!ds.any fun z => PyData.eqv z d)) H
theorem op_notInT {X : Cx} {K : PySem.W.Frag} (hu : X.A.units + 64 < cLine) (hK : X.K = K := by rfl) : OpR X (compareOp .NotIn) (rNotInT K) := by
  subst hK
  intro pins s σ H x y v u Q I rx ry h
  obtain ⟨d, ds, hd, he, sd, se, dd, q⟩ := h
  obtain ⟨as, r1⟩ := Dp.reads I d x v hd rx
  obtain ⟨bs, r2⟩ := Dp.reads I (.tuple ds) y u he ry
  have h2 : min (PyData.depthAll ds) d.depth ≤ d.depth := Nat.min_le_right _ _
  exact SeqAt.notIn_tuple_reads r2 r1 (SeqAt.canLay_of_shaped se) (SeqAt.canLay_of_shaped sd) (by omega) ⟨.bl _, H, I, rfl, q⟩
/-- a tuple once is the tuple -/
theorem tuple_mul1 (l : Addr) (items : Array Value) (n : Nat) (dd : Option Addr) (sl : Array (Option Value)) (u : Tok) :
    Meets (Builtin.«tuple.__mul__» ⟨[.ref l, .int 1 u], []⟩) (fun _ R s => s.heap.get? l = some { cls := .type "tuple", dict := dd, data := .seq items n, slots := sl } ∧ R (.ok (.ret (.ref l))) s) :=
  .of_wp fun prog w A R s h => by
    obtain ⟨hp, g, d, tk, os⟩ := s
    obtain ⟨hl, h⟩ := h
    have f1 := AutoSeq1.idx_int
    wp_walk using wpAny_loadPart' hl
    exact ⟨_, rfl, h⟩
def rMul1 (K : PySem.W.Frag) : R2 := fun x y H Q => ∃ l xs, x = .ref l ∧ y = .int 1 ∧ SqT K H l xs ∧ Q (.ref l) H
theorem op_mul1 {X : Cx} : OpR X (binaryOp .Mult) (rMul1 X.K) := by
  intro pins s σ H x y v u Q I rx ry h
  obtain ⟨l, xs, rfl, rfl, hT, q⟩ := h
  cases rx
  obtain ⟨t, rfl⟩ := ry
  obtain ⟨its, r, ⟨⟨cls, dd, data, sl⟩, ho, hc, n, hd⟩, hs⟩ := I.tuple hT
  simp only at hc hd
  subst hc hd
  refine wpAny_binaryOp_repeat_ref (T := "tuple") (U := "int") (by decide) ⟨_, ho, rfl⟩ (fun s' => typeIs_int s' 1 t) noFill_tuple_mul F.fills_int_mul F.slot_int_rmul repeat_tuple F.slot_int_index.lookup
    (call_meets F.slot_int_rmul (typeIs_int s 1 t) F.entry_int_rmul (F.args_int_rmul_2 _ _) (int_rmul_tuple 1 t l its.toArray n dd sl)
      ⟨ho, rfl, ⟨_, ho, rfl⟩, call_meets F.slot_tuple_mul ⟨_, ho, rfl⟩ F.entry_tuple_mul (F.args_tuple_mul_2 _ _) (tuple_mul1 l its.toArray n dd sl t) ⟨ho, ?_⟩⟩)
  exact ⟨.ref l, H, I, rfl, q⟩
def rMulV (K : PySem.W.Frag) : R2 := fun x y H Q => rMulU K x y H Q ∨ rMul1 K x y H Q
theorem op_mulV {X : Cx} {K : PySem.W.Frag} (hK : X.K = K := by rfl) : OpR X (binaryOp .Mult) (rMulV K) := by
  subst hK
  exact orOp op_mulU op_mul1
theorem flat_one (x : V) : ∀ n : Nat, (List.replicate n [x]).flatten = List.replicate n x
  | 0 => rfl
  | n + 1 => by rw [List.replicate_succ, List.replicate_succ, List.flatten_cons, flat_one x n]; rfl
/-- (x,) * n -/
theorem x_mulT {K : PySem.W.Frag} {H : Hp} {p : Addr} {x : V} {n : Nat} {Q : VK} (h : H p = some (.tup [x])) (h1 : 1 ≤ n) (h2 : n ≤ 1000) (q : ∀ l H', Ex H H' → H' l = some (.tup (List.replicate n x)) → Q (.ref l) H') : rMulV K (.ref p) (.int (n : Nat)) H Q := by
  by_cases e : n = 1
  · subst e
    exact .inr ⟨p, [x], rfl, rfl, SqT.of h, q p H (Ex.refl H) h⟩
  · refine .inl (.inr ⟨p, (n : Nat), [x], rfl, rfl, SqT.of h, by simp, by omega, by omega, by simp, x_new fun l H' _ e hl => q l H' e ?_⟩)
    rw [hl, Int.toNat_natCast]
    congr 2
    exact flat_one x n
end FB
set_option Elab.async false
set_option linter.all false
set_option maxRecDepth 100000
set_option maxHeartbeats 4000000
/-! the empty tuple times n; a slice from behind the end. -/
namespace FB
open PySem PySem.Spec PyProof.Rows L2 Evl
open Sem (wp)
theorem tuple_mulE (l : Addr) (n : Nat) (dd : Option Addr) (sl : Array (Option Value)) (u : Tok) :
    Meets (Builtin.«tuple.__mul__» ⟨[.ref l, .int 5 u], []⟩) (fun _ R s => s.heap.get? l = some { cls := .type "tuple", dict := dd, data := .seq #[] n, slots := sl } ∧ R (.ok (.ret (.ref l))) s) :=
  .of_wp fun prog w A R s h => by
    obtain ⟨hp, g, d, tk, os⟩ := s
    obtain ⟨hl, h⟩ := h
    have f1 := AutoSeq1.idx_int
    wp_walk using wpAny_loadPart' hl
    exact ⟨_, rfl, h⟩
def rMulE (K : PySem.W.Frag) : R2 := fun x y H Q => ∃ l, x = .ref l ∧ y = .int 5 ∧ SqT K H l [] ∧ Q (.ref l) H
theorem op_mulE {X : Cx} : OpR X (binaryOp .Mult) (rMulE X.K) := by
  intro pins s σ H x y v u Q I rx ry h
  obtain ⟨l, rfl, rfl, hT, q⟩ := h
  cases rx
  obtain ⟨t, rfl⟩ := ry
  obtain ⟨its, r, ⟨⟨cls, dd, data, sl⟩, ho, hc, n, hd⟩, hs⟩ := I.tuple hT
  cases r
  simp only at hc hd
  subst hc hd
  refine wpAny_binaryOp_repeat_ref (T := "tuple") (U := "int") (by decide) ⟨_, ho, rfl⟩ (fun s' => typeIs_int s' 5 t) noFill_tuple_mul F.fills_int_mul F.slot_int_rmul repeat_tuple F.slot_int_index.lookup
    (call_meets F.slot_int_rmul (typeIs_int s 5 t) F.entry_int_rmul (F.args_int_rmul_2 _ _) (int_rmul_tuple 5 t l #[] n dd sl)
      ⟨ho, rfl, ⟨_, ho, rfl⟩, call_meets F.slot_tuple_mul ⟨_, ho, rfl⟩ F.entry_tuple_mul (F.args_tuple_mul_2 _ _) (tuple_mulE l n dd sl t) ⟨ho, ?_⟩⟩)
  exact ⟨.ref l, H, I, rfl, q⟩
/-- t * n, t empty too -/
def rMul5 (K : PySem.W.Frag) : R2 := fun x y H Q => rMulV K x y H Q ∨ rMulE K x y H Q
theorem op_mul5 {X : Cx} {K : PySem.W.Frag} (hK : X.K = K := by rfl) : OpR X (binaryOp .Mult) (rMul5 K) := by
  subst hK
  exact orOp op_mulV op_mulE
theorem x_mul5 {K : PySem.W.Frag} {H : Hp} {p : Addr} {xs : List V} {Q : VK} (h : SqT K H p xs) (hl : xs.length ≤ 1000) (q : ∀ l H', Ex H H' → SqT K H' l (List.replicate 5 xs).flatten → Q (.ref l) H') : rMul5 K (.ref p) (.int 5) H Q := by
  cases xs with
  | nil => exact .inr ⟨p, rfl, rfl, h, q p H (Ex.refl H) (by simpa using h)⟩
  | cons x r => exact .inl (.inl (.inr ⟨p, 5, x :: r, rfl, rfl, h, by simp, by decide, by decide, hl, x_new fun l H' _ e hl => q l H' e (SqT.of hl)⟩))
/-- the same by its factor, any from 2 on for what is not empty -/
theorem x_mul5T {K : PySem.W.Frag} {H : Hp} {p : Addr} {x : V} {n : Nat} {Q : VK} (h : H p = some (.tup [x])) (h1 : 1 ≤ n) (h2 : n ≤ 1000) (q : ∀ l H', Ex H H' → H' l = some (.tup (List.replicate n x)) → Q (.ref l) H') : rMul5 K (.ref p) (.int (n : Nat)) H Q := .inl (x_mulT h h1 h2 q)
theorem cut_dropA {xs : List V} (j : Nat) : cutV xs (some (j : Int)) none = xs.drop j := by
  unfold cutV
  rw [HT.sIx_none, HT.sIx_nat]
  by_cases h : j ≤ xs.length
  · rw [Nat.min_eq_left h]
    exact List.take_of_length_le (by rw [List.length_drop]; omega)
  · rw [Nat.min_eq_right (by omega), List.drop_length, List.drop_eq_nil_of_le (by omega)]
    simp
end FB
set_option Elab.async false
set_option linter.all false
set_option maxRecDepth 100000
set_option maxHeartbeats 1000000
/-! The end of a law with lambdas: the tables that the top has left empty, by the names of their defs. -/
namespace FB
open PySem PySem.Spec PyProof.Rows L2 Evl LamX
theorem walk_ofTab {l : PySem.W.OpenLaw} {n k : Nat} {q : Program} {loose : List Str} {XP : (Str → Option Value) → Heap → Prop} {YP : World → Heap → Prop} {d : DefRec} {K : Params → PySem.W.Frag} {x : Str} (names : List Str)
    (h1 : l.most = some n) (h2 : n ≤ sizeLine) (h3 : d.params.defaults = []) (h4 : Room k callerA) (h5 : ∀ (w : World) (h : Heap), YP w h → (K w.params).In h)
    (h6 : ∀ y ∈ names, ∃ e, (recsOf q).find? (fun e => e.name == y) = some e)
    (F : ∀ (w : World) (mg : Str → Option Value) (fa : Addr) (h : Heap), (K w.params).In h → h.Ns mainGlobals mg → mg d.name = some (.ref fa) →
      ∃ (fd : FuncData) (cs : List (Str × Addr × Addr)) (sp : Sp), (∀ p ∈ cs, p.1 ∈ names ∧ PySem.W.tabIn (K w.params) p.1 = some p.2 ∧ (K w.params).lookup p.2.2 = none) ∧ (∀ (s : Shared) (u : Value), BindsTo s fd ⟨[u], []⟩ [(x, u)]) ∧
        (∀ (H : Hp) (a : Addr) (ns : List Int), ns.length ≤ n → (∀ p ∈ cs, H p.2.2 = some (.tbl #[])) → SqL (K w.params) H a (ns.map V.int) → sp [.ref a] H (fun v _ => v = .bl true) fun _ _ _ => False) ∧
        ∀ base : Heap, (K w.params).In base → base.Ns mainGlobals mg → (∀ p ∈ cs, TabB base mg p.2.1 p.2.2) → FnOk l.prog w (K w.params) mg base L2.CX0 k fa fd [x] sp) :
    PySem.W.WalkO q loose XP YP l.row.toRowW d [] (fun f vs => PySem.call f vs) := by
  refine Att.attach_callB h1 h3 fun w sA sB mg mb fa ob pm cd dc a us ns G Y z1 z2 z3 hm z4 z5 z6 z7 z8 => ?_
  have kx := h5 w _ Y
  obtain ⟨fd, cs, sp, hc, hb, hs, hF⟩ := F w mg fa _ kx G.T.g hm
  have tb : ∀ p ∈ cs, PySem.W.CodeHd sB.heap p.2.1 p.2.2 ∧ sB.heap.get? p.2.2 = some { cls := .none, data := .fields #[] } := fun p hp => by
    obtain ⟨m1, m2, _⟩ := hc p hp
    obtain ⟨e, he⟩ := h6 _ m1
    exact PySem.W.tab_of G.T kx he m2
  have mem : ∀ p ∈ cs.map (·.2), ∃ y, (y, p) ∈ cs := fun p hp => by
    obtain ⟨r, hr, rfl⟩ := List.mem_map.mp hp
    exact ⟨r.1, hr⟩
  refine law_callTs (cs := cs.map (·.2)) kx G.T.g G.T.b G.T.builtins G.T.nolimit z8 (fun p hp => ?_) (fun p hp => ?_) (fun p hp => ?_) G.T.bmain z4 z5 (Nat.le_trans z6 h2) h4 (fun base b1 b2 b3 => hF base b1 b2 fun p hp => b3 p.2 (List.mem_map.mpr ⟨p, hp, rfl⟩)) hb (fun H hH hS => hs H a ns z6 (fun p hp => hH p.2 (List.mem_map.mpr ⟨p, hp, rfl⟩)) hS) (fun _ _ _ h => h)
  · obtain ⟨y, hy⟩ := mem p hp
    exact (tb _ hy).2
  · obtain ⟨y, hy⟩ := mem p hp
    exact (hc _ hy).2.2
  · obtain ⟨y, hy⟩ := mem p hp
    exact (tb _ hy).1
end FB
set_option Elab.async false
set_option linter.all false
set_option maxRecDepth 100000
set_option maxHeartbeats 2000000
/-! Lambdas that are kept as values (in lists), with and without a default parameter, and called by a def that gets them as its argument; comprehensions whose block calls them. -/
namespace FB
open PySem PySem.Spec PyProof.Rows L2 Evl LamX
/-- a made lambda: its words, its captured cells, its tuple of defaults, its code object -/
structure LF where
  qual : Str
  params : Arguments
  body : Expr
  scope : Scope
  cl : List (Str × Addr)
  dv : Option Addr
  c : Addr
def dvV : Option Addr → Value
  | none => .none
  | some t => .ref t
abbrev LF.fd (F : LF) (doc pm ctv : Value) : FuncData := PySem.W.kdv_fn "<lambda>" F.qual F.params (.expr F.body) F.scope F.cl (dvV F.dv) doc pm (.ref F.c) ctv
def LamO (f : Addr) (F : LF) : HO := .ext fun h => ∃ (od : Option Addr) (sl : Array (Option Value)) (doc pm ctv : Value), h.get? f = some (⟨.type "function", od, .func (F.fd doc pm ctv), sl⟩ : Obj)
/-- the words without the body, as HandS.Nested takes them -/
abbrev LF.nf (F : LF) : NdefX.NF := ⟨"<lambda>", F.qual, F.params, [], F.scope, F.cl, F.c⟩
theorem lamO_ne {f : Addr} {F : LF} (ps : Array Value) : LamO f F ≠ .tbl ps := fun z => by
  unfold LamO at z
  cases z
theorem lamO_at {P : Program} {w : World} {H : Hp} {h : Heap} {f : Addr} {F : LF} (hok : HOk P w H h) (e : H f = some (LamO f F)) : ∃ (od : Option Addr) (sl : Array (Option Value)) (doc pm ctv : Value), h.get? f = some (⟨.type "function", od, .func (F.fd doc pm ctv), sl⟩ : Obj) := (hok f _ e).1
section
variable {X : Cx} {pins : List (Addr × Obj)} {σ : L2.St} {H : Hp} {s : Shared}
theorem inv_lam {F : LF} {o : Obj} {t' : Nat} {doc pm ctv : Value} (I : Inv X pins σ H s) (ho : o = { cls := .type "function", data := .func (F.fd doc pm ctv) }) :
    Inv X pins σ (upd H s.heap.objs.size (LamO s.heap.objs.size F)) { s with heap := s.heap.push o, toks := t' } := by
  have e : (s.heap.push o).get? s.heap.objs.size = some ({ cls := .type "function", data := .func (F.fd doc pm ctv) } : Obj) := by
    subst ho
    exact Heap.get?_push_size _ rfl
  exact I.laid (fun b u q => Heap.get?_push_of_some _ q) (Nat.le_refl _) ⟨⟨_, _, doc, pm, ctv, e⟩, ⟨_, e⟩, fun h1 h2 q st => by
    obtain ⟨od, sl, d, p, t, z⟩ := q
    exact ⟨od, sl, d, p, t, st _ z⟩⟩
/-- the function object is laid, its code object new or found in the table -/
theorem lam_tail {T : List (Addr × Str)} {c P : Addr} {q : Str} {params : Arguments} {body : Expr} {scope : Scope} {pos : Pos} {dv : Option Addr} {E : Value → Shared → Prop} {Q : Value → Shared → Prop} (I : Inv X pins σ H s) (TB : TabB X.base X.mg c P) (hcode : X.env.code = .ref c)
    (hm : (P, q) ∈ T) (hu : ∀ p ∈ T, p.1 = P → p.2 = q) (hT : Tabs T H) (hfree : ∀ y ∈ scope.names, y.2 = .free → ∃ c, X.env.cells.lookup y.1 = some c)
    (h : ∀ (f c' : Addr) (H1 : Hp) (s' : Shared), Inv X pins σ H1 s' → ExtN H H1 → Tabs T H1 → H f = none → H1 f = some (LamO f ⟨q, params, body, scope, cloFrom X.env.cells scope.names [], dv, c'⟩) → H1 c' = some (CodeO c' q) → Q (.ref f) s') :
    wpAny (model X.prog X.w) X.A (makeTail "<lambda>" q params (.expr body) scope X.env (dvV dv) .none none pos pos.line) Q E s := by
  have tab := hT _ hm
  obtain ⟨ps, hP, ht, ha⟩ := tab
  have bP := TB.bm.keeps I.bk
  have hP' : s.heap.get? P = some { cls := .none, data := .fields ps } := I.hok P _ hP
  have made : ∀ (c' : Addr) (H0 : Hp) (s0 : Shared) (tk : Nat) (doc pm ctv : Value), Inv X pins σ H0 s0 → ExtN H H0 → Tabs T H0 → H s0.heap.objs.size = none → H0 c' = some (CodeO c' q) →
      Q (.ref s0.heap.objs.size) { s0 with heap := s0.heap.push { cls := .type "function", data := .func ((⟨q, params, body, scope, cloFrom X.env.cells scope.names [], dv, c'⟩ : LF).fd doc pm ctv) }, toks := tk } := by
    intro c' H0 s0 tk doc pm ctv I0 eN T0 nf hc0
    have nF := I0.hok.fresh (Nat.le_refl _)
    have far : ∀ b o, H0 b = some o → upd H0 s0.heap.objs.size (LamO s0.heap.objs.size ⟨q, params, body, scope, cloFrom X.env.cells scope.names [], dv, c'⟩) b = some o := fun b o e => (upd_ne (ne_of_none e nF)).trans e
    exact h s0.heap.objs.size c' _ _ (inv_lam (t' := tk) (doc := doc) (pm := pm) (ctv := ctv) I0 rfl) (fun b o e n => far _ _ (eN b o e n)) (T0.ext far) nf upd_same (far _ _ hc0)
  cases hc : codeAmong pos ps.toList with
  | some cv =>
    obtain ⟨c', rfl, hco⟩ := ha pos cv hc
    refine PySem.W.kdv_makeTailHit (mg := X.mg) (c := c) (P := P) (ps := ps) (closure_ok hfree) I.ok.glob (I.mod.glob.keeps I.bk) hcode (TB.code.keeps I.bk) hP' ht hc bP fun ctv doc h' tk hx hsz => ?_
    exact made c' H { s with heap := h' } tk doc _ ctv (I.kept (t' := s.toks) hx) (ExtN.refl H) hT (I.hok.fresh hsz) hco
  | none =>
    refine PySem.W.kdv_makeTail (mg := X.mg) (c := c) (P := P) (ps := ps) (closure_ok hfree) I.ok.glob (I.mod.glob.keeps I.bk) hcode (TB.code.keeps I.bk) hP' ht hc TB.gP bP fun c' ctv doc h' tk hx hge hlt hrec htb => ?_
    obtain ⟨c2, oc, vs, t, e2, hoc, hd, hv⟩ := hrec
    cases e2
    have nC := I.hok.fresh hge
    have I1 := inv_table (t' := s.toks) (more := #[rawInt pos.line, rawInt pos.col, .ref c']) I hP hx htb hge ⟨oc, vs, t, hoc, hd, hv⟩
    have hE : ExtN H (upd (upd H P (.tbl (ps ++ #[rawInt pos.line, rawInt pos.col, .ref c']))) c' (CodeO c' q)) := fun b o e n => by
      have hb : b ≠ P := fun z => n ps (Option.some.inj ((z ▸ e).symm.trans hP))
      exact (upd_ne (ne_of_none e nC)).trans ((upd_ne hb).trans e)
    refine made c' _ { s with heap := h' } tk doc _ ctv I1 hE (fun p hp => ?_) (I.hok.fresh (Nat.le_trans hge (Nat.le_of_lt hlt))) upd_same
    by_cases hb : p.1 = P
    · rw [hu p hp hb, hb]
      have eL : (ps ++ #[rawInt pos.line, rawInt pos.col, .ref c']).toList = ps.toList ++ [rawInt pos.line, rawInt pos.col, .ref c'] := by simp
      refine ⟨_, (upd_ne (ne_of_none hP nC)).trans upd_same, eL ▸ PySem.TriplesOk_snoc _ _ _ _ ht, fun p' cv hcv => ?_⟩
      rw [eL] at hcv
      refine (among_app _ ht hcv).elim (fun z => ?_) fun z => ⟨c', z, upd_same⟩
      obtain ⟨c0, e1, e2⟩ := ha p' cv z
      exact ⟨c0, e1, hE _ _ e2 codeO_ne⟩
    · obtain ⟨qs, a1, a2, a3⟩ := hT p hp
      refine ⟨qs, (upd_ne (ne_of_none a1 nC)).trans ((upd_ne hb).trans a1), a2, fun p' cv hcv => ?_⟩
      obtain ⟨c0, e1, e2⟩ := a3 p' cv hcv
      exact ⟨c0, e1, hE _ _ e2 codeO_ne⟩
end
/-- the captured names are the def's cells, or its own captured names -/
def lamFreeB (sc scope : Scope) : Bool := scope.names.all fun y => !decide (y.2 = .free) || decide (sc.names.lookup y.1 = some .cell) || decide (sc.names.lookup y.1 = some .free)
theorem lam_free {sc scope : Scope} (h : lamFreeB sc scope = true) : ∀ y ∈ scope.names, y.2 = .free → sc.names.lookup y.1 = some .cell ∨ sc.names.lookup y.1 = some .free := fun y hy e => by
  have z := List.all_eq_true.mp h y hy
  simpa [e] using z
/-- the reading of a lambda that is kept: f the new function -/
def tLamK (T : List (Addr × Str)) (mk : Option Addr → Addr → LF) : TE := fun _ H Q => Tabs T H ∧ ∀ (f c' : Addr) (H1 : Hp), ExtN H H1 → Tabs T H1 → H f = none → H1 f = some (LamO f (mk none c')) → H1 c' = some (CodeO c' (mk none c').qual) → Q (.ref f) H1
/-- the same with one default, a whole number: t its tuple -/
def tLamD (T : List (Addr × Str)) (d : Int) (mk : Option Addr → Addr → LF) : TE := fun _ H Q => Tabs T H ∧ ∀ (f c' t : Addr) (H1 : Hp), ExtN H H1 → Tabs T H1 → H f = none → H1 f = some (LamO f (mk (some t) c')) → H1 c' = some (CodeO c' (mk (some t) c').qual) → H1 t = some (.tup [.int d]) → Q (.ref f) H1
section
variable {X : Cx} {T : List (Addr × Str)} {c P : Addr} {params : Arguments} {body : Expr} {scope : Scope} {pos : Pos}
theorem pe_lamK (TB : TabB X.base X.mg c P) (hcode : X.env.code = .ref c) (hm : (P, X.env.qual ++ "<lambda>") ∈ T) (hu : ∀ p ∈ T, p.1 = P → p.2 = X.env.qual ++ "<lambda>")
    (hf : ∀ y ∈ scope.names, y.2 = .free → X.env.scope.names.lookup y.1 = some .cell ∨ X.env.scope.names.lookup y.1 = some .free) (hdef : defaultsOf params X.env = ([], [])) :
    PE X (.Lambda params body scope pos) (tLamK T fun dv c' => ⟨X.env.qual ++ "<lambda>", params, body, scope, cloFrom X.env.cells scope.names [], dv, c'⟩) := by
  refine ⟨fun pins s σ H Q I h => ?_⟩
  have hfr : ∀ y ∈ scope.names, y.2 = .free → ∃ c, X.env.cells.lookup y.1 = some c := fun y hy e => (hf y hy e).elim (fun z => I.ok.has _ (.inl z)) fun z => I.ok.has _ (.inr z)
  refine PySem.W.kla_eval hdef ?_
  rw [makeFunction_eq]
  simp only [List.zip_nil_right, List.filterMap_nil, List.isEmpty_nil, if_true, pure_bind]
  exact lam_tail (dv := none) I TB hcode hm hu h.1 hfr fun f c' H1 s' I1 eN T1 nf hf hc => ⟨.ref f, H1, I1, rfl, h.2 f c' H1 eN T1 nf hf hc⟩
theorem pe_lamD {d : Int} {dp : Pos} {kk : Nat} (TB : TabB X.base X.mg c P) (hcode : X.env.code = .ref c) (hm : (P, X.env.qual ++ "<lambda>") ∈ T) (hu : ∀ p ∈ T, p.1 = P → p.2 = X.env.qual ++ "<lambda>")
    (hf : ∀ y ∈ scope.names, y.2 = .free → X.env.scope.names.lookup y.1 = some .cell ∨ X.env.scope.names.lookup y.1 = some .free) (hd : params.defaults = [.Constant (.int d) kk dp]) (hk0 : params.kw_defaults = []) :
    PE X (.Lambda params body scope pos) (tLamD T d fun dv c' => ⟨X.env.qual ++ "<lambda>", params, body, scope, cloFrom X.env.cells scope.names [], dv, c'⟩) := by
  refine ⟨fun pins s σ H Q I h => ?_⟩
  have hfr : ∀ y ∈ scope.names, y.2 = .free → ∃ c, X.env.cells.lookup y.1 = some c := fun y hy e => (hf y hy e).elim (fun z => I.ok.has _ (.inl z)) fun z => I.ok.has _ (.inr z)
  refine PySem.W.kdv_lam (by rw [hd]; rfl) hk0 ?_
  rw [hd]
  refine PySem.W.kdv_all1 (thn ((pe_int (X := X) (i := d) (pos := dp)).run pins s σ H (fun v H1 => v = .int d ∧ H1 = H) I ⟨rfl, rfl⟩) fun u s1 ⟨v, H1, I1, r1, ev, eH⟩ => ?_)
  subst ev eH
  refine PySem.W.kdv_all0 ?_
  rw [makeFunction_eq]
  simp only [List.zip_nil_right, List.filterMap_nil, List.isEmpty_nil, List.isEmpty_cons, Bool.false_eq_true, if_false, if_true, pure_bind]
  refine wpAny_bind (wpAny_newTextTuple ?_)
  have nt := I1.hok.fresh (Nat.le_refl _)
  have et : (s1.heap.push ({ cls := .type "tuple", data := .seq [u].toArray } : Obj)).get? s1.heap.objs.size = some { cls := .type "tuple", data := .seq [u].toArray } := Heap.get?_push_size _ rfl
  have I2 : Inv X pins σ (upd H1 s1.heap.objs.size (.tup [.int d])) { s1 with heap := s1.heap.push { cls := .type "tuple", data := .seq [u].toArray } } :=
    I1.laid (t' := s1.toks) (fun b o e => Heap.get?_push_of_some _ e) (Nat.le_refl _) ⟨by show 1 ≤ sizeLine; decide, [u], .cons r1 .nil, _, et, rfl, _, rfl⟩
  have far : ∀ b o, H1 b = some o → upd H1 s1.heap.objs.size (.tup [.int d]) b = some o := fun b o e => (upd_ne (ne_of_none e nt)).trans e
  refine lam_tail (dv := some s1.heap.objs.size) I2 TB hcode hm hu (h.1.ext far) hfr fun f c' H2 s' I3 eN T1 nf hf hc => ⟨.ref f, H2, I3, rfl, h.2 f c' s1.heap.objs.size H2 (fun b o e n => eN b o (far b o e) n) T1 (NdefX.upd_none nf) hf hc (eN _ _ upd_same fun ps z => by cases z)⟩
end
/-! ### the call -/
/-- captured cells hold what they held, where nothing but callers' frames and tracked things changed -/
theorem cells_un {fs ex : List Addr} {H H' : Hp} {h h' : Heap} {cl : List (Str × Addr)} {fr : List Str} {ws : List (Option V)} (C : NdefX.CellsAt cl fr ws h H) (u : Un fs ex H H' h h') (hx : ∀ y c, cl.lookup y = some c → c ∉ ex) : NdefX.CellsAt cl fr ws h' H' := by
  have kp : ∀ y c, cl.lookup y = some c → ∀ v, h.IsCell c v → h'.IsCell c v := fun y c e v z => by
    obtain ⟨o, ho, hd⟩ := z
    obtain ⟨sl, q⟩ := u.any ho (C.all y c e).1 (hx y c e)
    exact ⟨_, q, hd⟩
  refine ⟨C.len, fun y c e => ?_, C.inj, fun i y e => ?_⟩
  · obtain ⟨n, v, z⟩ := C.all y c e
    exact ⟨by obtain ⟨o, ho, _⟩ := z; exact u.free c o ho n (hx y c e), v, kp y c e v z⟩
  · obtain ⟨c, hc, hv⟩ := C.has i y e
    exact ⟨c, hc, fun v ev => by obtain ⟨w, r, z⟩ := hv v ev; exact ⟨w, r, kp y c hc _ z⟩⟩
section
variable {CX : CXT} {P : Program} {w : World} {K : PySem.W.Frag} {mg : Str → Option Value} {base : Heap} {N ps fr : List Str} {F : LF} {f : Addr} {k : Nat} {A : Around} {outer : List Env} {s : Shared} {H : Hp} {us : List Value} {vs : List V} {ws : List (Option V)} {Q : VK} {E : XK} {tb : TE}
/-- f() runs its expression in a frame of its own: the parameters (their defaults), then the captured names -/
theorem lam_run (S : NdefX.NScope N ps fr F.scope) (hr : Room (k + 1) A) (e0 : Env0 P w K mg base A outer s H) (hf : H f = some (LamO f F)) (hc : H F.c = some (CodeO F.c F.qual)) (hb : ∀ doc pm ctv, BindsTo s (F.fd doc pm ctv) ⟨[], []⟩ (ps.zip us))
    (C : NdefX.CellsAt F.cl fr ws s.heap H) (r : Vals vs us) (hl : vs.length = ps.length) (hbody : Room k (A.deeper (NdefX.envF F.nf f s.heap.objs.size)) → PE (NdefX.ncx CX P w K mg base N F.nf f A outer s H E) F.body tb) (hq : tb (NdefX.startF N vs ws) H Q) :
    codeAny (model P w) A (.call (.ref f) ⟨[], []⟩) (CR CX outer P w H s Q E) s := by
  obtain ⟨od, sl, doc, pm, ctv, ho⟩ := lamO_at e0.hok hf
  have lim : s.heap.NoLimit := e0.mod.nolimit.keeps fun b o e => (e0.bs b o e).1
  refine PySem.W.kla_callFunE hr.depth ho rfl S.co S.gen rfl (NdefX.codeO_at e0.hok hc) (hb doc pm ctv _ _ _ _ ?_)
  refine wpAny_newFunctionEnv S.nocell (fun y hy => S.par y.1 (List.of_mem_zip hy).1) (fun h₁ hns hsb => ⟨lim.fresh _ hsb, ?_⟩) S.kind
  have kp : ∀ b o, s.heap.get? b = some o → h₁.get? b = some o := fun b o e => hsb.extBut b o (Nat.ne_of_lt (Heap.lt_size e)) (Heap.get?_push_of_some _ e)
  have I := NdefX.inv_startN (CX := CX) (E := E) (f := f) (F := F.nf) (tk := s.toks + (ps.zip us).length) S hr.hd e0 hl r C hns kp
  refine PySem.W.kla_codeExpr (wpAny_mono ((hbody (hr.deeper _)).run [] _ _ H Q I hq) (fun v s' z => ?_) fun e s' z => z)
  obtain ⟨w', H', J, rv, q⟩ := z
  exact ⟨w', H', J.os, J.bare, J.base, J.hok, rv, q⟩
/-- x(), x the parameter of a def that was called with the lambda at f, nothing tracked changed since -/
theorem pe_actK {CXg : CXT} {Eg : XK} {Ng : List Str} {qg : Str} {sg : Scope} {g : Addr} {cdg : Value} {i : Nat} {a : Str} {pn : List (Addr × Obj)} {xe : Value → Shared → Prop} {W : WX} {p1 p2 : Pos}
    (S : NdefX.NScope N ps fr F.scope) (hf : H f = some (LamO f F)) (hc : H F.c = some (CodeO F.c F.qual)) (hb : ∀ (s1 : Shared), HOk P w H s1.heap → ∃ us, Vals vs us ∧ ∀ doc pm ctv, BindsTo s1 (F.fd doc pm ctv) ⟨[], []⟩ (ps.zip us))
    (C : NdefX.CellsAt F.cl fr ws s.heap H) (hl : vs.length = ps.length) (tk : Takes ((cxOf CXg P w K mg base Ng qg sg g cdg A outer s H Eg).tr pn xe) W) (hW : ∀ cls d σ' H', E cls d H' → W cls d σ' H')
    (hr : Room (k + 1) (A.deeper (envOfC qg sg s.heap.objs.size g cdg))) (hbody : ∀ (A : Around) (outer : List Env) (s : Shared) (H : Hp), Room k (A.deeper (NdefX.envF F.nf f s.heap.objs.size)) → PE (NdefX.ncx (L2.CX P w) P w K mg base N F.nf f A outer s H E) F.body tb)
    (hN : Ng[i]? = some a) (hv : Vis sg a) (hd : (a == ("__debug__" : Str)) = false := by decide) (hcd : (a == ("__classdict__" : Str)) = false := by decide) :
    PE ((cxOf CXg P w K mg base Ng qg sg g cdg A outer s H Eg).tr pn xe) (.Call (.Name a p1) [] [] p2) (fun σZ HZ Q => σZ[i]? = some (some (.ref f)) ∧ HZ = H ∧ tb (NdefX.startF N vs ws) H Q) := by
  refine ⟨fun pinsZ sZ σZ HZ Q IZ h => ?_⟩
  obtain ⟨hs, eH, ht⟩ := h
  refine wpAny_Call_Name_kw (thn ((pe_var (pos := p1) (i := i) hN hv hd hcd).run pinsZ sZ σZ HZ (fun v H1 => v = .ref f ∧ H1 = HZ) IZ ⟨.ref f, hs, rfl, rfl⟩) fun u s1 q1 => ?_)
  obtain ⟨v, H1, I1, r1, rfl, rfl⟩ := q1
  obtain rfl : u = Value.ref f := r1
  subst eH
  obtain ⟨od, sl, doc, pm, ctv, ho⟩ := lamO_at I1.hok hf
  obtain ⟨us, r, hb1⟩ := hb s1 I1.hok
  refine PySem.W.callWith_F0 ⟨_, _, _, _, ho⟩ (wpAny_call (codeAny_mono (lam_run S hr I1.env0 hf hc hb1 (cells_un C I1.base fun _ _ _ z => nomatch z) r hl (fun hr2 => hbody _ _ s1 _ hr2) ht) fun res s' hq => ?_))
  have hx : Passes (L2.CX P w) ((cxOf CXg P w K mg base Ng qg sg g cdg A outer s H1 Eg).tr pn xe) E := passes_call tk hW
  cases res with
  | error e => exact hx pinsZ σZ H1 s1 e s' I1 hq
  | ok fl =>
    cases fl with
    | ret u => exact I1.after hq
    | next => exact False.elim hq
    | brk => exact False.elim hq
    | cont => exact False.elim hq
end
/-- a lambda of a def, as it is kept: its words, its default (a whole number), the names that it captures and where they lie among the def's, what its expression is read as -/
structure LamI where
  qual : Str
  params : Arguments
  body : Expr
  scope : Scope
  cl : List (Str × Addr)
  d : Option Int
  ps : List Str
  fr : List Str
  js : List Nat
  t : XK → TE
abbrev LamI.lf (L : LamI) (dv : Option Addr) (c : Addr) : LF := ⟨L.qual, L.params, L.body, L.scope, L.cl, dv, c⟩
def LamI.vs (L : LamI) : List V := match L.d with
  | none => []
  | some d => [.int d]
def LamI.at_ (L : LamI) (H : Hp) (f c' : Addr) (dv : Option Addr) : Prop := H f = some (LamO f (L.lf dv c')) ∧ H c' = some (CodeO c' L.qual) ∧ match L.d with
  | none => dv = none
  | some d => ∃ t, dv = some t ∧ H t = some (.tup [.int d])
theorem LamI.at_.ex {L : LamI} {H H' : Hp} {f c' : Addr} {dv : Option Addr} (h : L.at_ H f c' dv) (e : ∀ b o, H b = some o → (∀ ps, o ≠ .tbl ps) → H' b = some o) : L.at_ H' f c' dv := by
  obtain ⟨h1, h2, h3⟩ := h
  refine ⟨e _ _ h1 lamO_ne, e _ _ h2 codeO_ne, ?_⟩
  cases hd : L.d with
  | none =>
    rw [hd] at h3
    exact h3
  | some d =>
    rw [hd] at h3
    obtain ⟨t, rfl, ht⟩ := h3
    exact ⟨t, rfl, e _ _ ht fun ps z => by cases z⟩
/-- how its parameters are bound -/
def LamI.binds (L : LamI) : Prop := match L.d with
  | none => L.ps = [] ∧ ∀ (c : Addr) (doc pm ctv : Value), bindArgs ((L.lf none c).fd doc pm ctv) ⟨[], []⟩ = pure []
  | some _ => ∃ x, L.ps = [x] ∧ ∀ (t c : Addr) (doc pm ctv u : Value), ∃ kk, bindArgs ((L.lf (some t) c).fd doc pm ctv) ⟨[], []⟩ = seqItems? (.ref t) >>= kk ∧ kk (some #[u]) = pure [(x, u)]
theorem LamI.bind {L : LamI} {P : Program} {w : World} {H : Hp} {f c' : Addr} {dv : Option Addr} {s1 : Shared} (b : L.binds) (h : L.at_ H f c' dv) (hok : HOk P w H s1.heap) : ∃ us, Vals L.vs us ∧ ∀ doc pm ctv, BindsTo s1 ((L.lf dv c').fd doc pm ctv) ⟨[], []⟩ (L.ps.zip us) := by
  obtain ⟨h1, h2, h3⟩ := h
  unfold LamI.binds at b
  unfold LamI.vs
  cases hd : L.d with
  | none =>
    rw [hd] at h3 b
    obtain ⟨e, b⟩ := b
    have h3 : dv = none := h3
    subst h3
    refine ⟨[], .nil, fun doc pm ctv => ?_⟩
    rw [List.zip_nil_right]
    exact .of_eq (b c' doc pm ctv)
  | some d =>
    rw [hd] at h3 b
    obtain ⟨x, e, b⟩ := b
    obtain ⟨t, rfl, ht⟩ := h3
    obtain ⟨_, its, r, o, ho, _, n, hdt⟩ := hok t _ ht
    refine ⟨its, r, fun doc pm ctv => ?_⟩
    cases r with
    | cons r1 r2 =>
      cases r2
      obtain ⟨kk, k1, k2⟩ := b t c' doc pm ctv _
      rw [e]
      exact .of_defaults rfl ho hdt k1 k2
structure LamI.Ok (L : LamI) (Y : Cx) (k : Nat) : Prop where
  S : NdefX.NScope (L.ps ++ L.fr) L.ps L.fr L.scope
  cp : Y.Ok → NdefX.Caps Y L.cl L.fr L.js
  len : L.vs.length = L.ps.length
  b : L.binds
  body : ∀ (A : Around) (outer : List Env) (s : Shared) (H : Hp) (E : XK) (f c' : Addr) (dv : Option Addr), Room k (A.deeper (NdefX.envF (L.lf dv c').nf f s.heap.objs.size)) → PE (NdefX.ncx (L2.CX Y.prog Y.w) Y.prog Y.w Y.K Y.mg Y.base (L.ps ++ L.fr) (L.lf dv c').nf f A outer s H E) L.body (L.t E)
/-- its reading, the captured names' values taken from the def's slots -/
def LamI.tl (L : LamI) (σ0 : L2.St) : XK → Hp → VK → Prop := fun E H Q => L.t E (NdefX.startF (L.ps ++ L.fr) L.vs (L.js.map (NdefX.slotAt σ0))) H Q
/-! ### a comprehension whose block calls kept lambdas: its element's rule may know the def's state at the block's start -/
section
variable {X B : Cx}
/-- the block's loop, over any block's context B that bears the iterator -/
theorem lcK_loop {elt tg iter : Expr} {scope : Scope} {pos : Pos} {g : TG} {te : TE} {σ0 : L2.St} {vs : List Nat} {J : It} {fp : List Addr} {it D : Addr} {tn : Nat → Heap → Prop} {G : VK} {R : Result → Shared → Prop} {s : Shared} {H : Hp} {W : Nat → Nat → Hp → Prop} {m0 : Nat}
    (hc : B.calm = true) (hex : B.ex = fp) (hpn : B.pn = []) (hxe : B.xe = fun _ _ => False) (T : Turn B.prog B.w B.K tg J fp it tn) (pg : PG B tg g) (pe : PE B elt te) (I : Inv B [] (wipe σ0 vs) H s) (st : tn 0 s.heap) (nf : ∀ b ∈ fp, H b = none) (w0 : W 0 m0 H)
    (turn : ∀ i m H, W i m H → (J.stop i H ∧ G (.ref D) H) ∨ (J.go i H ∧ ∃ Nx : Hp → Prop, (∀ H', Nx H' → ∃ m', m' < m ∧ W (i + 1) m' H') ∧ ∀ x H', J.yld i H x H' → g x (wipe σ0 vs) H' fun σ2 H2 => wipe σ2 vs = wipe σ0 vs ∧ tYes σ2 H2 fun b H3 =>
      if b = true then te σ2 H3 fun y H4 => ∃ acc, H4 D = some (.lst acc) ∧ acc.length < sizeLine ∧ Nx (upd H4 D (.lst (acc ++ [y]))) else Nx H3))
    (out : ∀ H' s', Inv B [] (wipe σ0 vs) H' s' → G (.ref D) H' → R (.ok .next) s') :
    codeAny (model B.prog B.w) B.A (.compLoop (.ListComp elt [⟨tg, iter, [], 0⟩] scope pos) 0 (.ref it) (.ref D) B.env) R s := by
  have okf : ∀ {σ' : L2.St} {H' : Hp} {s' : Shared}, Inv B [] σ' H' s' → (∀ b ∈ fp, H' b = none) → ∀ b ∈ fp, FpOk B [] H' b := fun J0 hn b hb =>
    have hb' : b ∈ B.ex := by rw [hex]; exact hb
    ⟨hn b hb, (J0.ok.exf b hb').1, J0.ok.exfs b hb', .inl hb', (J0.ok.exf b hb').2, fun p hp => absurd hp (by rw [hpn]; simp)⟩
  refine compLoop_any (fun n s' => ∃ i H', Inv B [] (wipe σ0 vs) H' s' ∧ tn i s'.heap ∧ (∀ b ∈ fp, H' b = none) ∧ W i n H') (fun n s5 hI => ?_) m0 ⟨0, H, I, st, nf, w0⟩
  obtain ⟨i, H5, I5, st5, n5, w5⟩ := hI
  rcases turn i n H5 w5 with z | ⟨go, Nx, hNx, step⟩
  · exact thnF (T.done B rfl rfl rfl hc i [] s5 _ H5 (fun _ _ => False) I5 (okf I5 n5) st5 z.1) fun r s6 q => by
      obtain ⟨rfl, I6⟩ := q
      exact out H5 s6 I6 z.2
  · refine thnF (T.item B rfl rfl rfl hc i [] s5 _ H5 (fun _ _ => False) I5 (okf I5 n5) st5 go) fun r s6 q => ?_
    obtain ⟨u, rfl, h6⟩ := q
    refine thnF h6 fun _ s7 q => ?_
    obtain ⟨x, H7, I7, r7, y7, st7, n7⟩ := q
    have toF : ∀ {α : Type} {t : Sem α} {Q1 : α → Shared → Prop} {s1 : Shared}, wpAny (model B.prog B.w) B.A t Q1 B.xe s1 → wpAny (model B.prog B.w) B.A t Q1 (fun _ _ => False) s1 := fun h => by rw [hxe] at h; exact h
    refine thnF (toF (pg.run _ s7 _ H7 x u _ (I7.pinned (okf I7 n7) (T.obj _ _ st7)) r7 (step x H7 y7))) fun _ s8 q => ?_
    obtain ⟨σ8, H8, I8, hw8, q8⟩ := q
    refine thnF (toF (pts_nil.run _ s8 σ8 H8 _ I8 q8)) fun b s9 q => ?_
    obtain ⟨H9, I9, q9⟩ := q
    have back : ∀ {s' : Shared} {H' : Hp}, Inv B ([] ++ pinsAt fp s7.heap) σ8 H' s' → Nx H' → ∃ m, m < n ∧ ∃ i H', Inv B [] (wipe σ0 vs) H' s' ∧ tn i s'.heap ∧ (∀ b ∈ fp, H' b = none) ∧ W i m H' := fun {s' H'} I' nx => by
      obtain ⟨m', hm, w'⟩ := hNx H' nx
      have pin : ∀ b ∈ fp, ∀ o, s7.heap.get? b = some o → s'.heap.get? b = some o ∧ H' b = none := fun b hb o e => by
        have z := I'.pin (b, o) (List.mem_append_right _ (List.mem_append_right _ (mem_pinsAt hb e)))
        exact ⟨z.1, z.2.1⟩
      have J1 : Inv B [] σ8 H' s' := I'.unpinned
      refine ⟨m', hm, i + 1, H', J1.weak (by rw [← hw8, wipe_length]) (fun j v e => (wipe_some (hw8 ▸ e)).1), T.keep _ _ _ st7 fun b hb o e => (pin b hb o e).1, fun b hb => ?_, w'⟩
      obtain ⟨o, e, _⟩ := T.obj _ _ st7 b hb
      exact (pin b hb o e).2
    cases b with
    | false => exact back I9 q9
    | true =>
      refine thnF (toF (pe.run _ s9 σ8 H9 _ I9 q9)) fun z s10 q => ?_
      obtain ⟨yv, H10, I10, r10, acc, hD10, hz10, nx⟩ := q
      exact app_ok I10 hD10 hz10 r10 fun s11 I11 => back I11 nx
/-- the reading: te may look at the def's slots as they stand when the comprehension begins -/
def tLcK (wi : TI) (g : TG) (te : L2.St → TE) (vs : List Nat) : TE := fun σ H Q => tLc wi g tYes (te σ) vs σ H Q
theorem pe_lcK {elt tg iter : Expr} {scope : Scope} {own : List (Str × Nat)} {pos : Pos} {wi : TI} {g : TG} {te : L2.St → TE} (hc : X.calm = true) (hN : X.N.Nodup) (hi : PI X tg iter wi) (ok : BlkOk X.N X.env.scope scope own)
    (hg : ∀ (s : Shared) (H : Hp) (C : Addr) (cl : List (Str × Addr)) (fp : List Addr), PG (X.blk s H scope (compEnvC scope cl C X.env) fp) tg g)
    (he : ∀ (σ : L2.St) (pins : List (Addr × Obj)) (s : Shared) (H : Hp) (C : Addr) (cl : List (Str × Addr)) (fp : List Addr), Inv X pins σ H s → (∀ b ∈ fp, ∀ y c, X.env.cells.lookup y = some c → c ≠ b) → PE (X.blk s H scope (compEnvC scope cl C X.env) fp) elt (te σ))
    (hs : ∀ x, foldedSetIterable iter X.env x = pure x := by intro _; rfl) : PE X (.ListComp elt [⟨tg, iter, [], 0⟩] scope pos) (tLcK wi g te (own.map (·.2))) := by
  refine ⟨fun pins s σ H Q I h => ?_⟩
  have hfree : ∀ y ∈ scope.names, y.2 = .free → ∃ c, X.env.cells.lookup y.1 = some c := fun y hy e => (ok.free y hy e).elim (fun k => I.ok.has _ (.inl k)) fun k => I.ok.has _ (.inr k)
  rw [eval_ListComp]
  refine wpAny_comprehension_free (use := none) rfl hs (closure_ok hfree) ok.kind (fun y hy e => (ok.uniq y hy).trans (by rw [e])) (thn (hi.run pins s σ H _ I h) fun xv s1 hx => thn hx fun itv s2 h2 => ?_)
  obtain ⟨it, fp, tn, J, H2, rfl, I2, T, st2, f2, q⟩ := h2
  refine wpAny_newObj_type (newEnv_comp ?_) (by show 0 ≤ sizeLine; decide)
  obtain ⟨W, ⟨m0, w0⟩, turn⟩ := q s2.heap.objs.size (I2.hok.fresh (Nat.le_refl _))
  have I3 : Inv X pins σ (upd H2 s2.heap.objs.size (.lst [])) { s2 with heap := s2.heap.push { cls := .type "list", data := .seq ([] : List Value).toArray } } :=
    I2.laid (t' := s2.toks) (fun b o e => Heap.get?_push_of_some _ e) (Nat.le_refl _) ⟨Nat.zero_le _, [], 0, .nil, Heap.get?_push_size _ rfl⟩
  have f3 : ∀ b ∈ fp, FpOk X pins (upd H2 s2.heap.objs.size (.lst [])) b ∧ b < (s2.heap.push ({ cls := .type "list", data := .seq ([] : List Value).toArray } : Obj)).objs.size := fun b hb => by
    obtain ⟨o, e, _⟩ := T.obj _ _ st2 b hb
    have hlt := Heap.lt_size e
    exact ⟨⟨(upd_ne (Nat.ne_of_lt hlt)).trans (f2 b hb).1, (f2 b hb).2⟩, by rw [Heap.size_push]; exact Nat.lt_succ_of_lt hlt⟩
  have st3 := T.keep _ _ _ st2 fun b _ o e => Heap.get?_push_of_some ({ cls := .type "list", data := .seq ([] : List Value).toArray } : Obj) e
  clear q
  generalize s2.heap.objs.size = D at *
  generalize upd H2 D (.lst []) = H3 at *
  generalize hs3 : ({ s2 with heap := s2.heap.push { cls := .type "list", data := .seq ([] : List Value).toArray } } : Shared) = s3 at *
  have f3 : ∀ b ∈ fp, FpOk X pins H3 b ∧ b < s3.heap.objs.size := fun b hb => by
    rw [← hs3]
    exact f3 b hb
  have st3 : tn 0 s3.heap := by
    rw [← hs3]
    exact st3
  have I4 := block_start I3 ok hN f3
  have cellOk : ∀ b ∈ fp, ∀ y c, X.env.cells.lookup y = some c → c ≠ b := fun b hb => (f3 b hb).1.2.2.2.2.1
  have kp4 : ∀ b o, s3.heap.get? b = some o → (pushCells (s3.heap.push { cls := .type "dict", data := .dict #[] }) scope.names).get? b = some o := fun b o e => pushCells_keeps _ _ _ _ (Heap.get?_push_of_some _ e)
  have st4 := T.keep _ _ _ st3 fun b _ o e => kp4 b o e
  have loop := lcK_loop (B := X.blk s3 H3 scope (compEnvC scope (cellsFrom (s3.heap.objs.size + 1) scope.names (cloFrom X.env.cells scope.names [])) s3.heap.objs.size X.env) fp) (G := Q) (R := compPost (model X.prog X.w) X.A X.xe none (EP X pins σ Q) (.ref D) s3.heap.objs.size) (pos := pos) (iter := iter) (scope := scope) hc rfl rfl rfl T (hg _ _ _ _ _) (he σ pins s3 H3 _ _ _ I3 cellOk) I4 st4 (fun b hb => (f3 b hb).1.1) w0 turn fun H' s' I6 qq => ?_
  · rw [← hs3] at loop ⊢
    exact codeAny_compStart_list loop (T.self X.A 0 _ _ _ (by rw [hs3]; exact st4) loop)
  · have I7 : Inv X pins σ H' s' := I3.call' (ch := fp) I6.os I6.base I6.hok I6.bare fun b hb => ⟨(f3 b hb).1.2.2.2.1, (f3 b hb).1.2.1, cellOk b hb, (f3 b hb).1.2.2.2.2.2⟩
    obtain ⟨m, hn, _⟩ := I6.loc
    obtain ⟨f0, f1, f2', f4, f5, f6⟩ := I3.fpOk (Nat.le_refl _) (H' := H') I6.free
    exact ⟨m, hn, fun h'' sb => ⟨.ref D, H', I7.turned (t' := s'.toks) (fun b o hb e => (sb.2 b hb).trans e) f0 f1 f4 f5 f6, rfl, qq⟩⟩
end
end FB
set_option Elab.async false
set_option linter.all false
set_option maxRecDepth 100000
set_option maxHeartbeats 4000000
namespace K
open PySem PySem.Spec PyProof.Rows L2 Evl FB LamX
local macro_rules | `(tactic| walk_at "run") => `(tactic| try simp only [tSeq, tAsg, tVar, tC, gName, L2.start, List.map_cons, List.map_nil, List.cons_append, List.nil_append, List.length_cons, List.length_nil, List.replicate, List.getElem?_cons_zero, List.getElem?_cons_succ, Option.some.injEq, exists_eq_left', List.set_cons_zero, List.set_cons_succ, V.ref.injEq, tRet, x_tLst, x_tTup, tCons, tCB, tNil, tOp, x_addI, x_mulI, x_rI, x_rI0, x_ltI, x_leI, x_ltS, x_leS, x_eqI, x_neI, x_eqS, x_eqB, x_neB, x_isiI, x_isiS, x_int, x_max, x_min, cxOf, tIfS, tNext, tTest, V.bl.injEq, decide_eq_true_eq, gSub, tAnd, tOr, tNot, tB, tDrop, tBM, x_tFor, iRng1, iList, iTup, x_tLc, tYes, tCall, tIf, tAndV, tOrV, tNotV, tChain, List.append_nil, tUn, if_true, wipe, true_and, x_never, iU, x_itS, kV, Nat.reduceAdd, Nat.reduceSub, List.replicate_zero, x_rU, x_tMkO, iEnumT, x_tDc, x_tDGet, x_tDGet2, x_sDPut, x_tDSetd, x_tDNewK, x_iItems, x_iZip, x_tSAddK, x_tLockV, x_tTupRg, x_tRg2, tPar, tPar3, tBM0, x_rEqS, x_rNeI, tXf, List.getElem?_cons_zero])
abbrev s_l_error : Stmt := top 39
theorem sc_l_error : FnScope ["_law_call", "e", "_law_kinds", "_law_names", "_law_name"] ["_law_call"] (defScope s_l_error) := ⟨rfl, rfl, rfl, by decide +kernel, rfl, by decide +kernel, by decide +kernel⟩
/-- what _law_error makes of the lambda's reading -/
def TErr (C : Nat → Addr) : (XK → Hp → VK → Prop) → Hp → VK → Prop := fun tl H Q =>
  tl (fun cls d H' => ∃ (i : Nat) (st se : V), i < 13 ∧ ErrIs C i st se cls d H' ∧ ∀ p H'', Ex H' H'' → H'' p = some (.tup (errTell i st se)) → Q (.ref p) H'')
    H (fun _ H' => rTup [.str "none"] H' Q)
/-- what the suite is told: a holds the error -/
def errPre (C : Nat → Addr) (a : Addr) (cls : Value) (d : Option Addr) : TS := fun D σ H => (σ.length = 5 → σ[1]? = some (some (.ref a))) ∧ ∃ (i : Nat) (st se : V), i < 13 ∧ ErrIs C i st se cls d H ∧ ∀ p H'', Ex H H'' → H'' p = some (.tup (errTell i st se)) → D.rt (.ref p) H''
abbrev errN : List Str := ["_law_call", "e", "_law_kinds", "_law_names", "_law_name"]
abbrev errX (P : Program) (w : World) (K : PySem.W.Frag) (mg : Str → Option Value) (base : Heap) (A : Around) (st : List Env) (g : Addr) (cdg : Value) (s : Shared) (H : Hp) : Cx := cxOf C8.CX0 P w K mg base ["_law_call", "e", "_law_kinds", "_law_names", "_law_name"] "_law_error" (defScope s_l_error) g cdg A st s H C8.E0
theorem err_aux {P : Program} {w : World} {K : PySem.W.Frag} {mg : Str → Option Value} {base : Heap} {A : Around} {st : List Env} {g CF : Addr} {C : Nat → Addr} {cdg : Value} (R : Errs K mg CF C) (T : Bt mg) (f : Addr) (s : Shared) (H : Hp) (Q : VK) (tl : XK → Hp → VK → Prop)
    (act : ∀ (W : WX) (pn : List (Addr × Obj)) (xe : Value → Shared → Prop) (E : XK) (p1 p2 : Pos), Takes ((errX P w K mg base A st g cdg s H).tr pn xe) W → (∀ cls d σ' H', E cls d H' → W cls d σ' H') →
      PE ((errX P w K mg base A st g cdg s H).tr pn xe) (.Call (.Name "_law_call" p1) [] [] p2) (fun σZ HZ Q => σZ[0]? = some (some (.ref f)) ∧ HZ = H ∧ tl E HZ Q))
    (h : TErr C tl H Q) : ∃ t, PSs (errX P w K mg base A st g cdg s H).nox (defBody s_l_error) t ∧ t { nx := fun _ H' => Q .non H', rt := Q } (L2.start errN [.ref f]) H := by
  have hgl : Gl (errX P w K mg base A st g cdg s H).nox "FerryError" := rfl
  refine ⟨_, pss_cons (ps_try_as (X := (errX P w K mg base A st g cdg s H).nox) (i := 1) (c := .ref CF) (ts := errPre C)
      (tb := fun W D σ H1 => ∃ Ech : XK, (∀ cls d σ' H', Ech cls d H' → W cls d σ' H') ∧ σ[0]? = some (some (.ref f)) ∧ H1 = H ∧ tl Ech H1 (fun _ H' => D.nx σ H'))
      rfl rfl sc_l_error.nd rfl rfl ⟨hgl, by decide, .inl R.gF⟩ L2.takes0 (fun W pn xe tk _ => ?_) (fun a oe cls d pn hz hf => ?_)) (pss_one (ps_ret (pe_tup (pa_cons pe_str pa_nil)))), ?_⟩
  · refine ⟨fun pins s' σ H' D I h' => ?_⟩
    obtain ⟨Ech, hW, h1, h2, h3⟩ := h'
    exact (pss_one (ps_expr (act W pn xe Ech _ _ tk hW))).run pins s' σ H' D I ⟨h1, h2, h3⟩
  · apply pss_impI
    · exact (pss_cons (ps_set (i := 2) sc_l_error.nd rfl (Or.inl rfl) (pe_lst (pa_cons (pe_callB (call_isX (K := K) hz hf) (by rfl) T.b_isinstance (by decide +kernel) (pa_cons (pv 1) (pa_cons (pe_glob (v := .ref (C 0)) rfl (R.g 0 (by decide)) rfl) pa_nil))) (pa_cons (pe_callB (call_isX (K := K) hz hf) (by rfl) T.b_isinstance (by decide +kernel) (pa_cons (pv 1) (pa_cons (pe_glob (v := .ref (C 1)) rfl (R.g 1 (by decide)) rfl) pa_nil))) (pa_cons (pe_callB (call_isX (K := K) hz hf) (by rfl) T.b_isinstance (by decide +kernel) (pa_cons (pv 1) (pa_cons (pe_glob (v := .ref (C 2)) rfl (R.g 2 (by decide)) rfl) pa_nil))) pa_nil)))))
      (pss_cons (ps_expr (pe_bm PySem.F.plainAttrs_list PySem.F.slot_list_extend PySem.F.type_list_extend mt_extend (pv 2) (pa_cons (pe_lst (pa_cons (pe_callB (call_isX (K := K) hz hf) (by rfl) T.b_isinstance (by decide +kernel) (pa_cons (pv 1) (pa_cons (pe_glob (v := .ref (C 3)) rfl (R.g 3 (by decide)) rfl) pa_nil))) (pa_cons (pe_callB (call_isX (K := K) hz hf) (by rfl) T.b_isinstance (by decide +kernel) (pa_cons (pv 1) (pa_cons (pe_glob (v := .ref (C 4)) rfl (R.g 4 (by decide)) rfl) pa_nil))) (pa_cons (pe_callB (call_isX (K := K) hz hf) (by rfl) T.b_isinstance (by decide +kernel) (pa_cons (pv 1) (pa_cons (pe_glob (v := .ref (C 5)) rfl (R.g 5 (by decide)) rfl) pa_nil))) pa_nil)))) pa_nil)))
      (pss_cons (ps_expr (pe_bm PySem.F.plainAttrs_list PySem.F.slot_list_extend PySem.F.type_list_extend mt_extend (pv 2) (pa_cons (pe_lst (pa_cons (pe_callB (call_isX (K := K) hz hf) (by rfl) T.b_isinstance (by decide +kernel) (pa_cons (pv 1) (pa_cons (pe_glob (v := .ref (C 6)) rfl (R.g 6 (by decide)) rfl) pa_nil))) (pa_cons (pe_callB (call_isX (K := K) hz hf) (by rfl) T.b_isinstance (by decide +kernel) (pa_cons (pv 1) (pa_cons (pe_glob (v := .ref (C 7)) rfl (R.g 7 (by decide)) rfl) pa_nil))) (pa_cons (pe_callB (call_isX (K := K) hz hf) (by rfl) T.b_isinstance (by decide +kernel) (pa_cons (pv 1) (pa_cons (pe_glob (v := .ref (C 8)) rfl (R.g 8 (by decide)) rfl) pa_nil))) pa_nil)))) pa_nil)))
      (pss_cons (ps_expr (pe_bm PySem.F.plainAttrs_list PySem.F.slot_list_extend PySem.F.type_list_extend mt_extend (pv 2) (pa_cons (pe_lst (pa_cons (pe_callB (call_isX (K := K) hz hf) (by rfl) T.b_isinstance (by decide +kernel) (pa_cons (pv 1) (pa_cons (pe_glob (v := .ref (C 9)) rfl (R.g 9 (by decide)) rfl) pa_nil))) (pa_cons (pe_callB (call_isX (K := K) hz hf) (by rfl) T.b_isinstance (by decide +kernel) (pa_cons (pv 1) (pa_cons (pe_glob (v := .ref (C 10)) rfl (R.g 10 (by decide)) rfl) pa_nil))) pa_nil))) pa_nil)))
      (pss_cons (ps_expr (pe_bm PySem.F.plainAttrs_list PySem.F.slot_list_extend PySem.F.type_list_extend mt_extend (pv 2) (pa_cons (pe_lst (pa_cons (pe_callB (call_isX (K := K) hz hf) (by rfl) T.b_isinstance (by decide +kernel) (pa_cons (pv 1) (pa_cons (pe_glob (v := .ref (C 11)) rfl (R.g 11 (by decide)) rfl) pa_nil))) (pa_cons (pe_callB (call_isX (K := K) hz hf) (by rfl) T.b_isinstance (by decide +kernel) (pa_cons (pv 1) (pa_cons (pe_glob (v := .ref (C 12)) rfl (R.g 12 (by decide)) rfl) pa_nil))) pa_nil))) pa_nil)))
      (pss_cons (ps_if (PW.pt (pw_or (pt_cmpR op_ne (pe_bm PySem.F.plainAttrs_list PySem.F.slot_list_count PySem.F.type_list_count mt_countF (pv 2) (pa_cons pe_bl pa_nil)) pe_int (nomark _)) (pw_or1 (pt_not (pt_val (pe_callB (call_isX (K := K) hz hf) (by rfl) T.b_isinstance (by decide +kernel) (pa_cons (pv 1) (pa_cons (pe_bltn (v := .ty "ValueError") (by rfl) R.b_ValueError (by decide +kernel) rfl) pa_nil)))))))) (pss_one (ps_ret (pe_tup (pa_cons pe_str pa_nil)))) pss_nil)
      (pss_cons (ps_set (i := 3) sc_l_error.nd rfl (Or.inl rfl) (pe_lst (pa_cons pe_str (pa_cons pe_str (pa_cons pe_str (pa_cons pe_str (pa_cons pe_str (pa_cons pe_str (pa_cons pe_str (pa_cons pe_str (pa_cons pe_str (pa_cons pe_str pa_nil))))))))))))
      (pss_cons (ps_set (i := 4) sc_l_error.nd rfl (Or.inl rfl) (pe_ix (ix_U (K := K)) (pe_op (op_addU (K := K)) (pv 3) (pe_lst (pa_cons pe_str (pa_cons pe_str (pa_cons pe_str pa_nil))))) (pe_bm PySem.F.plainAttrs_list PySem.F.slot_list_index PySem.F.type_list_index mt_index (pv 2) (pa_cons pe_bl pa_nil)) (fun _ _ => rfl)))
      (pss_one (ps_ret (pe_ifExp (pt_cmpR op_eq (pv 4) pe_str (nomark _)) (pe_tup (pa_cons (pv 4) (pa_cons (pe_xf R.xf R.no_station hz hf (pv 1)) (pa_cons (pe_xf R.xf R.no_seat hz hf (pv 1)) pa_nil)))) (pe_tup (pa_cons (pv 4) pa_nil)))))))))))))
    · rintro D σ H1 hl ⟨h1, i, st, se, hi, he, q⟩
      obtain ⟨x0, x1, x2, x3, x4, rfl⟩ : ∃ x0 x1 x2 x3 x4, σ = [x0, x1, x2, x3, x4] := match σ, hl with
        | [x0, x1, x2, x3, x4], _ => ⟨x0, x1, x2, x3, x4, rfl⟩
      obtain rfl : x1 = some (.ref a) := by simpa using h1 rfl
      walk_at "run"
      refine x_isX R hi he (fun _ _ h => h) 0 (by decide) (x_isX R hi he (fun _ _ h => h) 1 (by decide) (x_isX R hi he (fun _ _ h => h) 2 (by decide) ?_))
      refine x_lst (by simp) fun p H2 np e2 hp => ?_
      walk_at "run"
      have E2 : Ex H1 H2 := e2
      refine ⟨x_tyL (SqL.of hp), x_isX R hi he E2 3 (by decide) (x_isX R hi he E2 4 (by decide) (x_isX R hi he E2 5 (by decide) ?_))⟩
      refine x_lst (by simp) fun p3 H3 n3 e3 h3 => x_extend (e3 _ _ hp) h3 (by simp) fun H4 e4 h4 => ?_
      have E4 : Ex H1 H4 := fun x o h => e4 _ _ (ne_of_none h np) (e3 _ _ (E2 _ _ h))
      refine ⟨x_tyL (SqL.of h4), x_isX R hi he E4 6 (by decide) (x_isX R hi he E4 7 (by decide) (x_isX R hi he E4 8 (by decide) ?_))⟩
      refine x_lst (by simp) fun p5 H5 n5 e5 h5 => x_extend (e5 _ _ h4) h5 (by simp) fun H6 e6 h6 => ?_
      have E6 : Ex H1 H6 := fun x o h => e6 _ _ (ne_of_none h np) (e5 _ _ (E4 _ _ h))
      refine ⟨x_tyL (SqL.of h6), x_isX R hi he E6 9 (by decide) (x_isX R hi he E6 10 (by decide) ?_)⟩
      refine x_lst (by simp) fun p7 H7 n7 e7 h7 => x_extend (e7 _ _ h6) h7 (by simp) fun H8 e8 h8 => ?_
      have E8 : Ex H1 H8 := fun x o h => e8 _ _ (ne_of_none h np) (e7 _ _ (E6 _ _ h))
      refine ⟨x_tyL (SqL.of h8), x_isX R hi he E8 11 (by decide) (x_isX R hi he E8 12 (by decide) ?_)⟩
      refine x_lst (by simp) fun p9 H9 n9 e9 h9 => x_extend (e9 _ _ h8) h9 (by simp) fun H10 e10 h10 => ?_
      have E10 : Ex H1 H10 := fun x o h => e10 _ _ (ne_of_none h np) (e9 _ _ (E8 _ _ h))
      have hk : H10 p = some (.lst (kinds i)) := h10
      have fl : (kinds i).all flatV = true := by
        rw [List.all_eq_true]
        intro z hz
        obtain ⟨m, _, rfl⟩ := List.mem_map.mp hz
        rfl
      clear hp h3 h4 h5 h6 h7 h8 h9 h10
      refine ⟨x_tyL (SqL.of hk), p, kinds i, _, rfl, rfl, SqL.of hk, rfl, fl, ?_⟩
      rw [kinds_count i hi]
      walk_at "run"
      rw [if_neg (by decide)]
      refine x_isV R hi he E10 ?_
      walk_at "run"
      rw [if_neg (by decide)]
      refine x_lst (by simp) fun l1 H11 n1 e11 h11 => x_lst (by simp) fun l2 H12 n2 e12 h12 => ?_
      refine x_cat (e12 _ _ h11) h12 (by simp) fun l3 H13 n3 e13 h13 => ?_
      have E13 : Ex H1 H13 := fun x o h => e13 _ _ (e12 _ _ (e11 _ _ (E10 _ _ h)))
      have hw : H13 l3 = some (.lst (errWords.map V.str)) := h13
      have hk13 : H13 p = some (.lst (kinds i)) := e13 _ _ (e12 _ _ (e11 _ _ hk))
      refine ⟨x_tyL (SqL.of hk13), p, kinds i, _, i, _, rfl, rfl, SqL.of hk13, rfl, fl, kinds_at i hi, rfl, fun m z' hm hz => ?_, ?_⟩
      · rw [kinds_not i hi m (by omega) hm] at hz
        cases hz; rfl
      refine x_ixL (SqL.of hw) (atI_nat (words_at i hi)) ?_
      walk_at "run"
      by_cases z : i = 0
      · subst z
        rw [if_pos (by decide)]
        obtain ⟨hc1, hd1⟩ := he
        rw [if_pos rfl] at hd1
        obtain ⟨dd, hd2, hx⟩ := hd1
        refine ⟨hc1, dd, _, st, hd2, E13 _ _ hx, rfl, hc1, dd, _, se, hd2, E13 _ _ hx, rfl, x_tup (by simp) fun t H14 nt e14 h14 => ?_⟩
        exact q t H14 (fun x o h => e14 _ _ (E13 _ _ h)) h14
      · rw [if_neg (by simpa using words_first i hi z)]
        refine x_tup (by simp) fun t H14 nt e14 h14 => ?_
        refine q t H14 (fun x o h => e14 _ _ (E13 _ _ h)) ?_
        unfold errTell
        rw [if_neg z]
        exact h14
  · walk_at "run"
    refine ⟨fun cls d H' => ∃ (i : Nat) (st se : V), i < 13 ∧ ErrIs C i st se cls d H' ∧ ∀ p H'', Ex H' H'' → H'' p = some (.tup (errTell i st se)) → Q (.ref p) H'', fun cls d σ' H' ⟨i, st, se, hi, he, q⟩ => ?_, ?_⟩
    · refine ⟨true, by rw [he.1]; exact R.exF i hi, fun _ a na => ⟨fun hl => ?_, i, st, se, hi, he, q⟩, fun z => nomatch z⟩
      rw [List.length_set] at hl
      rw [List.getElem?_set_self (by omega)]
    · exact h
theorem err_gives {X : Cx} {g CF : Addr} {C : Nat → Addr} {cdg : Value} {q : Str} (R : Errs X.K X.mg CF C) (T : Bt X.mg) :
    GivesTo X errN "_law_error" (defScope s_l_error) g cdg (defBody s_l_error) "_law_call" q (TErr C) := fun f c' s H Q tl act hc h => err_aux R T f s H Q tl (fun W pn xe E p1 p2 tk hW => ⟨fun pins s1 σ1 H1 Q1 I1 z => (act W pn xe E p1 p2 tk hW).run pins s1 σ1 H1 Q1 I1 ⟨z.1, z.2.1 ▸ hc, z.2.2⟩⟩) h
/-- _law_error(lambda: body) -/
theorem pe_err {KF : PySem.W.Frag} {mg : Str → Option Value} {X : Cx} {g CF c Pt : Addr} {gd : FuncData} {C : Nat → Addr} {T0 : List (Addr × Str)} {k : Nat} {params : Arguments} {body : Expr} {scope : Scope} {t : XK → TE} {p lpos pos : Pos}
    (D : Df KF mg "_law_error" s_l_error ["_law_call"] g gd) (R : Errs KF mg CF C) (T : Bt mg) (hg : Gl X "_law_error") (TB : TabB X.base mg c Pt) (hcode : X.env.code = .ref c) (hmT : (Pt, X.env.qual ++ "<lambda>") ∈ T0) (hu : ∀ p ∈ T0, p.1 = Pt → p.2 = X.env.qual ++ "<lambda>")
    (hr : Room (k + 2) X.A) (L : LamS X.env.scope scope) (hdef : defaultsOf params X.env = ([], []))
    (hbind : ∀ (q : Str) (cl : List (Str × Addr)) (pm cv ctv : Value), bindArgs (PySem.W.kla_fn "<lambda>" q params body scope cl pm cv ctv) ⟨[], []⟩ = pure [])
    (hbody : ∀ (A : Around) (outer : List Env) (s : Shared) (H : Hp) (E : XK) (f c' : Addr), Room k (A.deeper (lamEnv X scope s.heap.objs.size f c')) → PE (lamCx X A outer s H E scope f c') body (t E))
    (hK : X.K = KF := by rfl) (hm : X.mg = mg := by rfl) : PE X (.Call (.Name "_law_error" p) [.Lambda params body scope lpos] [] pos) (tLam T0 (TErr C) t) := by
  subst hK hm
  obtain ⟨oc, od, kV, doc, pm, an, cdv, ct, osl, rfl, lk, hcd⟩ := D.F.ex
  exact pe_lamcall (Ng := errN) (a := "_law_call") hg D.g D.F.kp lk hcd D.b sc_l_error rfl (.inl rfl) (err_gives R T) TB hcode hmT hu hr L hdef hbind hbody
/-- _law_error(x) in a comprehension's block, x a lambda that the def Y made and keeps -/
def tErrK {ι : Type} (C : Nat → Addr) (L : ι → LamI) (ta : TA) (σ0 : L2.St) : TE := fun σ H Q => ta σ H fun vs H1 => ∃ j f c' dv, vs = [.ref f] ∧ (L j).at_ H1 f c' dv ∧ TErr C ((L j).tl σ0) H1 Q
theorem pe_errK {ι : Type} {L : ι → LamI} {KF : PySem.W.Frag} {mg : Str → Option Value} {Y : Cx} {pins0 : List (Addr × Obj)} {σ0 : L2.St} {s0 : Shared} {H0 : Hp} {scope : Scope} {C0 : Addr} {cl0 : List (Str × Addr)} {fp : List Addr} {g CF : Addr} {gd : FuncData} {C : Nat → Addr} {k : Nat} {e : Expr} {ta : TA} {p pos : Pos}
    (D : Df KF mg "_law_error" s_l_error ["_law_call"] g gd) (R : Errs KF mg CF C) (T : Bt mg) (ok : ∀ j, (L j).Ok Y k) (hr : Room (k + 2) Y.A) (I0 : Inv Y pins0 σ0 H0 s0) (hfp : ∀ b ∈ fp, ∀ y c, Y.env.cells.lookup y = some c → c ≠ b)
    (hg : Gl (Y.blk s0 H0 scope (compEnvC scope cl0 C0 Y.env) fp) "_law_error") (ha : PA (Y.blk s0 H0 scope (compEnvC scope cl0 C0 Y.env) fp) [e] ta) (hK : Y.K = KF := by rfl) (hm : Y.mg = mg := by rfl)
    (he : starEach [e] (compEnvC scope cl0 C0 Y.env) = (false, eval e (compEnvC scope cl0 C0 Y.env)) :: starEach [] (compEnvC scope cl0 C0 Y.env) := by rfl) : PE (Y.blk s0 H0 scope (compEnvC scope cl0 C0 Y.env) fp) (.Call (.Name "_law_error" p) [e] [] pos) (tErrK C L ta σ0) := by
  subst hK hm
  obtain ⟨oc, od, kV, doc, pm, an, cdv, ct, osl, rfl, lk, hcd⟩ := D.F.ex
  refine ⟨fun pins s σ H Q I h => ?_⟩
  refine wpAny_Call_Name_kw (ld_glob I hg D.g ?_ (by decide))
  refine PySem.W.callWith_K (h₀ := Y.base) I.ok.mod.kin D.F.kp (thn (ha.run pos pins s σ H _ I h) fun us s1 q => ?_) he (by rfl)
  obtain ⟨vs, H1, I1, r, j, f, c', dv, rfl, hat, q⟩ := q
  refine ⟨I1.kIn, ?_⟩
  obtain ⟨u, rfl, ru⟩ : ∃ u, us = [u] ∧ L2.RelV (.ref f) u := by
    cases r with
    | cons r1 r2 => cases r2; exact ⟨_, rfl, r1⟩
  obtain rfl : u = Value.ref f := ru
  have O := ok j
  have cp := O.cp I0.ok
  have C0 := NdefX.cells_of I0 cp
  have C1 : NdefX.CellsAt (L j).cl (L j).fr ((L j).js.map (NdefX.slotAt σ0)) s1.heap H1 := cells_un C0 I1.base fun y c e z => hfp c z y c (cp.sub y c e) rfl
  have rc : codeAny (model Y.prog Y.w) Y.A (.call (.ref g) ⟨[.ref f], []⟩) (CR C8.CX0 Y.stack Y.prog Y.w H1 s1 Q C8.E0) s1 := by
    refine run_ofS (N := errN) (ps := ["_law_call"]) (us := [.ref f]) (vs := [.ref f]) lk hcd sc_l_error hr I1.env0 (D.b s1 [.ref f] I1.kIn rfl) (.cons rfl .nil) rfl fun hr' => ?_
    have fin : ∃ t, PSs (errX Y.prog Y.w Y.K Y.mg Y.base Y.A Y.stack g cdv s1 H1).nox (defBody s_l_error) t ∧ t { nx := fun _ H' => Q .non H', rt := Q } (L2.start errN [.ref f]) H1 := by
      refine err_aux R T f s1 H1 Q ((L j).tl σ0) (fun W pn xe E p1 p2 tk hW => ?_) q
      have z := pe_actK (CXg := C8.CX0) (Eg := C8.E0) (Ng := errN) (qg := "_law_error") (sg := defScope s_l_error) (g := g) (cdg := cdv) (i := 0) (a := "_law_call") (p1 := p1) (p2 := p2) (F := (L j).lf dv c') (ws := (L j).js.map (NdefX.slotAt σ0)) O.S hat.1 hat.2.1 (fun s2 ho => LamI.bind O.b hat ho) C1 O.len tk hW hr' (fun A outer s H hr2 => O.body A outer s H E f c' dv hr2) rfl (.inl rfl)
      exact ⟨fun pins s2 σ2 H2 Q2 I2 w2 => z.run pins s2 σ2 H2 Q2 I2 ⟨w2.1, w2.2.1, w2.2.1 ▸ w2.2.2⟩⟩
    obtain ⟨t', ht', hq'⟩ := fin
    exact ⟨t', ht'.nox, hq'⟩
  refine wpAny_call (codeAny_mono rc fun r s2 hq => ?_)
  cases r with
  | error e => exact (show False from hq).elim
  | ok fl =>
    cases fl with
    | ret u => exact I1.after hq
    | next => exact False.elim hq
    | brk => exact False.elim hq
    | cont => exact False.elim hq
end K
set_option Elab.async false
set_option linter.all false
set_option maxRecDepth 100000
set_option maxHeartbeats 1000000
set_option exponentiation.threshold 20000
namespace K
open PySem PySem.Spec PyProof.Rows L2 Evl FB
local macro_rules | `(tactic| walk_at "run") => `(tactic| try simp only [tSeq, tAsg, tVar, tC, gName, L2.start, List.map_cons, List.map_nil, List.cons_append, List.nil_append, List.length_cons, List.length_nil, List.replicate, List.getElem?_cons_zero, List.getElem?_cons_succ, Option.some.injEq, exists_eq_left', List.set_cons_zero, List.set_cons_succ, V.ref.injEq, tRet, x_tLst, x_tTup, tCons, tCB, tNil, tOp, x_addI, x_mulI, x_rI, x_rI0, x_ltI, x_leI, x_ltS, x_leS, x_eqI, x_neI, x_eqS, x_eqB, x_neB, x_isiI, x_isiS, x_int, x_max, x_min, cxOf, tIfS, tNext, tTest, V.bl.injEq, decide_eq_true_eq, gSub, tAnd, tOr, tNot, tB, tDrop, tBM, x_tFor, iRng1, iList, iTup, x_tLc, tYes, tCall, tIf, tAndV, tOrV, tNotV, tChain, List.append_nil, tUn, if_true, wipe, true_and, x_never, iU, x_itS, kV, Nat.reduceAdd, Nat.reduceSub, List.replicate_zero, x_rU, x_tMkO, iEnumT, x_tDc, x_tDGet, x_tDGet2, x_sDPut, x_tDSetd, x_tDNewK, x_iItems, x_iZip, x_tSAddK, x_tLockV, x_tTupRg, x_tRg2, tPar, tPar3, tBM0, tSl, tNoPart, tPart, x_tSetAdd, x_tDIn, x_iKeys, x_iZipX, tWhile, x_iZip3, iRevR, tRg1])
/-! check_state and check_count with their errors; let_arrive, first_difference -/
section
variable {P : Program} {w : World} {K : PySem.W.Frag} {mg : Str → Option Value} {base : Heap}
theorem pdI : PD PyData.int := ⟨fun a => .int a⟩
theorem fn_lift {CX : CXT} {k : Nat} {f : Addr} {fd : FuncData} {ps : List Str} {sp : Sp} (F : FnOk P w K mg base CX0 k f fd ps sp) : FnOk P w K mg base CX k f fd ps sp :=
  ⟨F.len, fun A outer s H args us vs Q E hr e0 hb r q => codeAny_mono (F.run A outer s H args us vs Q E hr e0 hb r q) fun res s' z => by
    cases res with
    | error e => exact (show False from z).elim
    | ok fl => cases fl <;> exact z⟩
theorem fn_or {CX : CXT} {k : Nat} {f : Addr} {fd : FuncData} {ps : List Str} {sp sp' : Sp} (F : FnOk P w K mg base CX k f fd ps sp) (G : FnOk P w K mg base CX k f fd ps sp') : FnOk P w K mg base CX k f fd ps (fun vs H Q E => sp vs H Q E ∨ sp' vs H Q E) :=
  ⟨fun vs H Q E q => q.elim (F.len vs H Q E) (G.len vs H Q E), fun A outer s H args us vs Q E hr e0 hb r q => q.elim (F.run A outer s H args us vs Q E hr e0 hb r) (G.run A outer s H args us vs Q E hr e0 hb r)⟩
abbrev s_check_count : Stmt := top 16
theorem sc_check_count : FnScope ["count", "least", "most"] ["count", "least", "most"] (defScope s_check_count) := ⟨rfl, rfl, rfl, by decide +kernel, rfl, by decide +kernel, by decide +kernel⟩
def spCount : Sp := fun vs H Q _ => ∃ c l m : Int, vs = [.int c, .int l, .int m] ∧ l ≤ c ∧ c ≤ m ∧ Q .non H
theorem ok_check_count0 {f : Addr} {fd : FuncData} (D : Df K mg "check_count" s_check_count ["count", "least", "most"] f fd) : FnOk P w K mg base CX0 1 f fd ["count", "least", "most"] spCount := by
  refine D.F.ok sc_check_count (fun vs H Q E h => ?_) (fun cdv A outer s H vs Q E hr h => ?_)
  · obtain ⟨v, u, N, rfl, _⟩ := h
    rfl
  · obtain ⟨c, l, m, rfl, h1, h2, q⟩ := h
    refine ⟨_, (pss_one (ps_if (pt_not (pt_chain (op_leU) (op_leU) (pv 1) (pv 0) (pv 2))) pss_never pss_nil)), ?_⟩
    walk_at "run"
    rw [if_pos h1, if_neg (by simp; omega)]
    exact q
/-- a number that is out of its range -/
def spCountX (C : Addr) : Sp := fun vs H _ E => ∃ c l m : Int, vs = [.int c, .int l, .int m] ∧ l.natAbs < 10 ^ 20 ∧ m.natAbs < 10 ^ 20 ∧ ¬ (l ≤ c ∧ c ≤ m) ∧ E (.ref C) none H
theorem len_int {i : Int} (h : i.natAbs < 10 ^ 20) : (Str.ofString (toString i)).length ≤ 21 := by
  have := PySem.int_text_length_le10 (a := i) (k := 20) (by decide) h
  rw [PySem.ofString_length]
  exact this
theorem ok_check_countX {f C : Addr} {fd : FuncData} (D : Df K mg "check_count" s_check_count ["count", "least", "most"] f fd) (Z : Rz K mg "InvalidCount" C) : FnOk P w K mg base (L2.CX P w) 1 f fd ["count", "least", "most"] (spCountX C) := by
  refine D.F.okX sc_check_count (fun vs H Q E h => ?_) (fun cdv A outer s H vs Q E hr h => ?_)
  · obtain ⟨c, l, m, rfl, _⟩ := h
    rfl
  · obtain ⟨c, l, m, rfl, hl, hm, hn, q⟩ := h
    refine ⟨_, (pss_one (ps_if (pt_not (pt_chain (op_leU) (op_leU) (pv 1) (pv 0) (pv 2))) (pss_one (ps_raise rfl (takes_of rfl rfl rfl rfl) (SkE.pmk_own1 PySem.F.excBase_ValueError Z.xP Z.g Z.kP (raises_own Z.bP Z.tP) rfl (pe_joined (.cons pe_str (.cons (pe_fmt (pv 1)) (.cons pe_str (.cons (pe_fmt (pv 2)) .nil)))))))) pss_nil)), ?_⟩
    have lap : ∀ a b : Str, (a ++ b).length = a.length + b.length := fun a b => by
      show (a.cps ++ b.cps).size = _
      rw [Array.size_append]; rfl
    have l20 : ∀ {i : Int}, i.natAbs < 10 ^ 20 → i.natAbs.log2 < 1920 := fun {i} h => by
      by_cases h0 : i.natAbs = 0
      · rw [h0]; decide
      · have : i.natAbs < 2 ^ 1920 := Nat.lt_of_lt_of_le h (by decide)
        exact (Nat.log2_lt h0).mpr this
    have ll := len_int hl
    have lm := len_int hm
    have c1 : (Str.ofString "a number is not from ").length = 21 := by decide +kernel
    have c2 : (Str.ofString " to ").length = 4 := by decide +kernel
    have c0 : Str.empty.length = 0 := rfl
    have told : tJs [tC (.str "a number is not from "), tFmt (tVar 1), tC (.str " to "), tFmt (tVar 2)] Str.empty [some (.int c), some (.int l), some (.int m)] H fun _ H1 => E (.ref C) none H1 := by
      refine ⟨_, rfl, by rw [lap, c0, c1, sizeLine_eq]; omega, _, rfl, .inr ⟨l, rfl, l20 hl, _, rfl, by rw [lap, lap, c0, c1, sizeLine_eq]; omega, _, rfl, by rw [lap, lap, lap, c0, c1, c2, sizeLine_eq]; omega, _, rfl, .inr ⟨m, rfl, l20 hm, _, rfl, by rw [lap, lap, lap, lap, c0, c1, c2, sizeLine_eq]; omega, q⟩⟩⟩
    walk_at "run"
    by_cases h1 : l ≤ c
    · rw [if_pos h1, if_pos (by simp; omega)]
      exact told
    · rw [if_neg h1, if_pos (by decide)]
      exact told
/-! a state that is none -/
def nonS : PyData := .tuple [.int 0, .tuple []]
def spBadS (K : PySem.W.Frag) (C : Addr) : Sp := fun vs H _ E => ∃ (v u : V) (N : Net), vs = [v, u] ∧ NetAt K H v N ∧ ValidN N ∧ Dp K H u nonS ∧ ∀ H', Ex H H' → E (.ref C) none H'
def spBadNS (K : PySem.W.Frag) (C : Addr) : Sp := fun vs H _ E => ∃ (v u : V) (N : Net) (k j : Int), vs = [v, u] ∧ NetAt K H v N ∧ SmN N ∧ firstBad N = some (k, j) ∧ ∀ d H', Ex H H' → H d = none → H' d = some (.xd [("seat", .int j), ("station", .int k)]) → E (.ref C) (some d) H'
theorem ok_check_stateN {f f1 C : Addr} {fd fd1 : FuncData} (D : Df K mg "check_state" s_check_state ["network", "state"] f fd) (D_check_network : Df K mg "check_network" s_check_network ["network"] f1 fd1)
    (G_check_network : FnOk P w K mg base (L2.CX P w) 4 f1 fd1 ["network"] (spCheck K C)) : FnOk P w K mg base (L2.CX P w) 5 f fd ["network", "state"] (spBadNS K C) := by
  refine D.F.okX sc_check_state (fun vs H Q E h => ?_) (fun cdv A outer s H vs Q E hr h => ?_)
  · obtain ⟨v, u, N, k, j, rfl, _⟩ := h
    rfl
  · obtain ⟨v, u, N, k, j, rfl, hN, hS, hb, q⟩ := h
    refine ⟨_, (pss_cons (ps_expr (pe_call (G_check_network) (hr.mono (by decide)) rfl D_check_network.g D_check_network.F.kp D_check_network.b .nil (passes_call (takes_of rfl rfl rfl rfl) fun _ _ _ _ h => h) (pa_cons (pv 0) pa_nil))) pss_never), ?_⟩
    walk_at "run"
    refine ⟨v, N, rfl, hN, hS, fun z => ?_, fun k' j' e => ?_⟩
    · rw [hb] at z; cases z
    · rw [hb] at e; cases e
      exact q
theorem ok_check_stateS {f f1 f2 f3 C : Addr} {fd fd1 fd2 fd3 : FuncData} (D : Df K mg "check_state" s_check_state ["network", "state"] f fd) (T : Bt mg) (Ck : Ct K mg) (D_check_network : Df K mg "check_network" s_check_network ["network"] f1 fd1) (D_is_word : Df K mg "is_word" s_is_word ["text"] f2 fd2)
    (D_is_place : Df K mg "is_place" s_is_place ["place", "station", "stations"] f3 fd3) (Z : Rz K mg "InvalidState" C) : FnOk P w K mg base (L2.CX P w) 5 f fd ["network", "state"] (spBadS K C) := by
  have G_check_network : FnOk P w K mg base CX0 4 f1 fd1 _ _ := ok_check_network0 D_check_network T Ck D_is_word D_is_place
  refine D.F.okX sc_check_state (fun vs H Q E h => ?_) (fun cdv A outer s H vs Q E hr h => ?_)
  · obtain ⟨v, u, N, rfl, _⟩ := h
    rfl
  · obtain ⟨v, u, N, rfl, hN, hV, hu2, q⟩ := h
    refine ⟨_, (pss_cons (ps_expr (pe_call (G_check_network) (hr.mono (by decide)) rfl D_check_network.g D_check_network.F.kp D_check_network.b .nil pass0 (pa_cons (pv 0) pa_nil)))
      (pss_cons (ps_asg (pv 1) (pg_tup rfl (pgs_cons (pg_name (i := 2) sc_check_state.nd rfl (Or.inl rfl)) (pgs_cons (pg_name (i := 3) sc_check_state.nd rfl (Or.inl rfl)) pgs_nil))))
      (pss_cons (ps_if (pt_cmpR (op_ltU) (pv 2) pe_int (nomark _)) (pss_one (ps_raise rfl (takes_of rfl rfl rfl rfl) (pmk_own PySem.F.excBase_ValueError Z.xP Z.g Z.kP (raises_own Z.bP Z.tP) rfl))) pss_nil) pss_never))), ?_⟩
    walk_at "run"
    refine ⟨v, N, rfl, hN, hV, fun H1 e1 => ?_⟩
    obtain ⟨a, xs, rfl, hS, hx⟩ := Dp.tup_inv hu2
    have hxl : xs.length = 2 := hx.len
    obtain ⟨x, y, rfl⟩ : ∃ x y, xs = [x, y] := match xs, hxl with
      | [x, y], _ => ⟨x, y, rfl⟩
    cases hx with
    | cons hx0 _ =>
      obtain rfl := hx0.int_inv
      refine x_two (ex_t e1 hS) ?_
      walk_at "run"
      rw [if_pos (by decide)]
      exact q H1 e1
/-- check_state: a state of a valid network; a network with a fault; no state -/
abbrev spStateX (K : PySem.W.Frag) (C0 C1 : Addr) : Sp := fun vs H Q E => spState K vs H Q E ∨ (spBadNS K C0 vs H Q E ∨ spBadS K C1 vs H Q E)
end
end K
set_option Elab.async false
set_option linter.all false
set_option maxRecDepth 100000
set_option maxHeartbeats 1000000
set_option exponentiation.threshold 20000
namespace K
open PySem PySem.Spec PyProof.Rows L2 Evl FB
local macro_rules | `(tactic| walk_at "run") => `(tactic| try simp only [tSeq, tAsg, tVar, tC, gName, L2.start, List.map_cons, List.map_nil, List.cons_append, List.nil_append, List.length_cons, List.length_nil, List.replicate, List.getElem?_cons_zero, List.getElem?_cons_succ, Option.some.injEq, exists_eq_left', List.set_cons_zero, List.set_cons_succ, V.ref.injEq, tRet, x_tLst, x_tTup, tCons, tCB, tNil, tOp, x_addI, x_mulI, x_rI, x_rI0, x_ltI, x_leI, x_ltS, x_leS, x_eqI, x_neI, x_eqS, x_eqB, x_neB, x_isiI, x_isiS, x_int, x_max, x_min, cxOf, tIfS, tNext, tTest, V.bl.injEq, decide_eq_true_eq, gSub, tAnd, tOr, tNot, tB, tDrop, tBM, x_tFor, iRng1, iList, iTup, x_tLc, tYes, tCall, tIf, tAndV, tOrV, tNotV, tChain, List.append_nil, tUn, if_true, wipe, true_and, x_never, iU, x_itS, kV, Nat.reduceAdd, Nat.reduceSub, List.replicate_zero, x_rU, x_tMkO, iEnumT, x_tDc, x_tDGet, x_tDGet2, x_sDPut, x_tDSetd, x_tDNewK, x_iItems, x_iZip, x_tSAddK, x_tLockV, x_tTupRg, x_tRg2, tPar, tPar3, tBM0, tSl, tNoPart, tPart, x_tSetAdd, x_tDIn, x_iKeys, x_iZipX, tWhile, x_iZip3, iRevR, tRg1])
/-! let_arrive; first_difference -/
/-- one arrival; the queues after some; who finishes at one -/
def arrW (N : Net) (qs : Qs) (p : Int) : Qs × Evs := joinW N (departW N 8) qs 0 p
def runW (N : Net) (qs : Qs) (p : Int) : Nat → Qs
  | 0 => qs
  | t + 1 => (arrW N (runW N qs p t) (p + (t : Int))).1
def finT (N : Net) (qs : Qs) (p : Int) (t : Nat) : List (Str × Int) := finOf (arrW N (runW N qs p t) (p + (t : Int))).2
/-- the first of c arrivals at which others finish -/
def fdW (N : Net) (qs : Qs) (p : Int) (N' : Net) (qs' : Qs) (p' : Int) (c : Nat) : Option Nat := (List.range c).find? fun t => decide (finT N qs p t ≠ finT N' qs' p' t)
theorem ValidN.jn {N : Net} (h : ValidN N) : JN N := by
  have at_ : ∀ k, k < N.length → N[k]? = some (N.getD k []) := fun k hk => by simp [List.getD_eq_getElem?_getD, hk]
  refine ⟨h.le, fun k hk => ?_, fun i hi j hj => ?_⟩
  · obtain ⟨a, b, _⟩ := h.st k _ (at_ k hk)
    exact ⟨a, b⟩
  · exact h.seat (at_ i hi) hj
theorem StOk.short {N : Net} {p : Int} {qs : Qs} (h : StOk N p qs) : Short N qs := by
  refine ⟨h.len, fun k hk => ?_⟩
  have h1 : qs[k]? = some (qs.getD k []) := by simp [List.getD_eq_getElem?_getD, h.len, hk]
  have h2 : N[k]? = some (N.getD k []) := by simp [List.getD_eq_getElem?_getD, hk]
  exact h.lt k _ _ h1 h2
theorem run_short {N : Net} {qs : Qs} {p : Int} (hV : ValidN N) (h8 : N.length ≤ 8) (S : Short N qs) : ∀ t, Short N (runW N qs p t)
  | 0 => S
  | t + 1 => (joinW_ok (fun k hk => (hV.jn.st k hk).1) (departW_ok (fun k hk => (hV.jn.st k hk).1) hV.jn.fw 8) (run_short hV h8 S t) hV.pos (by omega)).1
theorem short_flat {N : Net} {qs : Qs} (hV : ValidN N) (S : Short N qs) : qs.flatten.length ≤ 8 * N.length := by
  refine flat_len S.len (fun k q s hq hs => ?_) fun s hs => (hV.cnt.st s hs).2
  have hk : k < N.length := (List.getElem?_eq_some_iff.mp hs).1
  have := S.lt k hk
  rw [List.getD_eq_getElem?_getD, List.getD_eq_getElem?_getD, hq, hs] at this
  exact this
/-- the names of ports are plain -/
theorem ValidN.port {N : Net} (h : ValidN N) {k : Nat} {z : Str} (hz : (.inr z : Key) ∈ N.getD k []) : PyData.strOk z = true := by
  rw [List.getD_eq_getElem?_getD] at hz
  cases e : N[k]? with
  | none => rw [e] at hz; simp at hz
  | some s =>
    rw [e] at hz
    have := ((h.st k s e).2.2 _ hz).1
    have hw : wordB z = true := this
    unfold wordB at hw
    simp only [Bool.and_eq_true] at hw
    unfold PyData.strOk
    rw [Array.all_eq_true']
    intro c hc
    have := List.all_eq_true.mp hw.2 c (by simpa using hc)
    unfold okc at this
    simp at this
    simp; omega
theorem finT_port {N : Net} {qs : Qs} {p : Int} (hV : ValidN N) (t : Nat) : ∀ x ∈ finT N qs p t, PyData.strOk x.1 = true := fun x hx => by
  obtain ⟨k, hk⟩ := joinW_s (departW_s (α := Int) (N := N) 8) (runW N qs p t) 0 (p + (t : Int)) x hx
  exact hV.port hk
theorem fin_len {N : Net} {qs : Qs} {p : Int} (hV : ValidN N) (h8 : N.length ≤ 8) (S : Short N qs) (t : Nat) : (finT N qs p t).length ≤ 65 := by
  have S1 := run_short (p := p) hV h8 S t
  have h1 := (joinW_pm (departW_pm (α := Int) hV.jn.fw 8) (qs := runW N qs p t) (j := 0) (p := p + (t : Int)) (by rw [S1.len]; exact hV.pos) S1.len).2.length_eq
  rw [List.length_append, List.length_map, List.length_append, List.length_singleton] at h1
  have := short_flat hV S1
  show (finOf (arrW N (runW N qs p t) (p + (t : Int))).2).length ≤ 65
  unfold arrW
  omega
theorem eqv_fp : ∀ {a b : List (Str × Int)}, PyData.eqvAll (a.map fpD) (b.map fpD) = decide (a = b)
  | [], [] => by simp [PyData.eqvAll]
  | [], _ :: _ => by simp [PyData.eqvAll]
  | _ :: _, [] => by simp [PyData.eqvAll]
  | x :: a, y :: b => by
    have ih := eqv_fp (a := a) (b := b)
    obtain ⟨x1, x2⟩ := x
    obtain ⟨y1, y2⟩ := y
    rw [List.map_cons, List.map_cons, PyData.eqvAll, ih]
    unfold fpD
    simp only [PyData.eqv, PyData.eqvAll, Bool.and_true, List.cons.injEq, Prod.mk.injEq]
    by_cases h1 : x1 = y1
    · by_cases h2 : x2 = y2
      · simp [h1, h2]
      · simp [h1, h2]
    · simp [h1]
theorem fp_s {fs : List (Str × Int)} (h : ∀ x ∈ fs, PyData.strOk x.1 = true) : SeqAt.shaped (.list (fs.map fpD)) = true := by
  refine shaped_mk (show PyData.canLayAll0 _ = true from layAll fun d hd => ?_) ?_
  · obtain ⟨x, hx, rfl⟩ := List.mem_map.mp hd
    unfold fpD
    simp [PyData.canLay0, PyData.canLayAll0, h x hx]
  · have := depthAll_le (m := 2) (ds := fs.map fpD) fun d hd => by
      obtain ⟨x, hx, rfl⟩ := List.mem_map.mp hd
      unfold fpD
      simp [PyData.depth, PyData.depthAll]
    rw [PyData.depth]; omega
section
variable {P : Program} {w : World} {K : PySem.W.Frag} {mg : Str → Option Value} {base : Heap}
/-- two lists of who finished, compared -/
theorem x_neFin {H : Hp} {Q : VK} {a b : Addr} {fs gs : List (Str × Int)} (h1 : LsAt K H a (fs.map fpD)) (h2 : LsAt K H b (gs.map fpD)) (s1 : ∀ x ∈ fs, PyData.strOk x.1 = true) (s2 : ∀ x ∈ gs, PyData.strOk x.1 = true) (k : Q (.bl (decide (fs ≠ gs))) H) : rNeU K (.ref a) (.ref b) H Q := by
  obtain ⟨t1, a1, b1⟩ := h1.ex
  obtain ⟨t2, a2, b2⟩ := h2.ex
  refine x_neD (.lst (SqL.of a1) b1) (.lst (SqL.of a2) b2) (fp_s s1) (fp_s s2) ?_
  rw [show PyData.eqv (.list (fs.map fpD)) (.list (gs.map fpD)) = decide (fs = gs) from eqv_fp]
  by_cases e : fs = gs
  · simpa [e] using k
  · simpa [e] using k
abbrev s_let_arrive : Stmt := top 34
theorem sc_let_arrive : FnScope ["network", "queues", "passenger", "events"] ["network", "queues", "passenger"] (defScope s_let_arrive) := ⟨rfl, rfl, rfl, by decide +kernel, rfl, by decide +kernel, by decide +kernel⟩
def spLet (K : PySem.W.Frag) : Sp := fun vs H Q _ => ∃ (v : V) (N : Net) (Qa : Addr) (qs : Qs) (p : Int), vs = [v, .ref Qa, .int p] ∧ NetAt K H v N ∧ ValidN N ∧ N.length ≤ 8 ∧ QtAt K H Qa PyData.int qs ∧ Short N qs ∧
  ∀ H' l, (∀ x o, x ≠ Qa → H x = some o → H' x = some o) → TX H H' → H l = none → QtAt K H' Qa PyData.int (arrW N qs p).1 → LsAt K H' l ((finOf (arrW N qs p).2).map fpD) → Q (.ref l) H'
theorem ok_let_arrive {f f1 f2 f3 : Addr} {fd fd1 fd2 fd3 : FuncData} (D : Df K mg "let_arrive" s_let_arrive ["network", "queues", "passenger"] f fd) (T : Bt mg) (D_join_queue : Df K mg "join_queue" s_join_queue ["network", "queues", "station", "passenger", "events"] f1 fd1) (D_depart : Df K mg "depart" s_depart ["network", "queues", "station", "events"] f2 fd2)
    (D_list_finished : Df K mg "list_finished" s_list_finished ["events"] f3 fd3) : FnOk P w K mg base CX0 18 f fd ["network", "queues", "passenger"] (spLet K) := by
  have G_join_queue : FnOk P w K mg base CX0 17 f1 fd1 _ (spJoinP K PyData.int 8) := (ok_p_pair pdI D_join_queue T D_depart 8).2
  have G_list_finished : FnOk P w K mg base CX0 1 f3 fd3 _ (spListF K PyData.int) := ok_list_finished pdI D_list_finished T
  refine D.F.ok sc_let_arrive (fun vs H Q E h => ?_) (fun cdv A outer s H vs Q E hr h => ?_)
  · obtain ⟨v, N, Qa, qs, p, rfl, _⟩ := h
    rfl
  · obtain ⟨v, N, Qa, qs, p, rfl, hN, hV, h8, hQ, S, q⟩ := h
    refine ⟨_, (pss_cons (ps_set (i := 3) sc_let_arrive.nd rfl (Or.inl rfl) (pe_lst pa_nil))
      (pss_cons (ps_expr (pe_call (G_join_queue) (hr.mono (by decide)) rfl D_join_queue.g D_join_queue.F.kp D_join_queue.b .nil pass0 (pa_cons (pv 0) (pa_cons (pv 1) (pa_cons pe_int (pa_cons (pv 2) (pa_cons (pv 3) pa_nil)))))))
      (pss_one (ps_ret (pe_call (G_list_finished) (hr.mono (by decide)) rfl D_list_finished.g D_list_finished.F.kp D_list_finished.b .nil pass0 (pa_cons (pv 3) pa_nil)))))), ?_⟩
    walk_at "run"
    refine x_lst (by simp) fun Ea H1 nE e1 hE => ?_
    obtain ⟨ts, hQa, hts⟩ := hQ.ex
    have hne : Qa ≠ Ea := ne_of_none hQa nE
    have hfl := short_flat hV S
    have hway := wayW_le (n := N.length) (qs := qs) (k := 0)
    have hb2 : qs.flatten.length * (2 * N.length) ≤ 64 * 16 := Nat.mul_le_mul (by omega) (by omega)
    have hw2 := (joinW_way (departW_way (α := Int) hV.jn.fw 8) (qs := qs) (j := 0) (p := p) S.len hV.pos (by omega)).1
    refine ⟨v, .int p, N, Qa, Ea, qs, [], 0, p, rfl, Dp.ex e1 hN, hV.jn, .int p, hQ.ex2 e1, ⟨⟨[], hE, .nil⟩⟩, hne, S, hV.pos, by omega, by rw [List.length_nil]; omega, fun H2 ex2 hQ2 hE2 => ?_⟩
    rw [List.nil_append] at hE2
    walk_at "run"
    have t2 : TX H1 H2 := TX.two (e1 _ _ hQa) hE ex2
    refine ⟨Ea, _, rfl, hE2, joinW_e (departW_e 8) qs 0 p, by omega, fun H3 l e3 nl hL => ?_⟩
    refine q H3 l (fun x o hx h => e3 _ _ (ex2 _ _ (e1 _ _ h) hx (ne_of_none h nE))) ((TX.of e1).trans (t2.trans (TX.of e3))) ?_ (hQ2.ex2 e3) hL
    by_cases hlE : l = Ea
    · rw [hlE]; exact nE
    by_cases hlQ : l = Qa
    · obtain ⟨ts2, hq2, _⟩ := hQ2.ex
      rw [hlQ, hq2] at nl; cases nl
    cases hh : H l with
    | none => rfl
    | some o => have := ex2 _ _ (e1 _ _ hh) hlQ hlE; rw [this] at nl; cases nl
end
end K
set_option Elab.async false
set_option linter.all false
set_option maxRecDepth 100000
set_option maxHeartbeats 1000000
set_option exponentiation.threshold 20000
namespace K
open PySem PySem.Spec PyProof.Rows L2 Evl FB
local macro_rules | `(tactic| walk_at "run") => `(tactic| try simp only [tSeq, tAsg, tVar, tC, gName, L2.start, List.map_cons, List.map_nil, List.cons_append, List.nil_append, List.length_cons, List.length_nil, List.replicate, List.getElem?_cons_zero, List.getElem?_cons_succ, Option.some.injEq, exists_eq_left', List.set_cons_zero, List.set_cons_succ, V.ref.injEq, tRet, x_tLst, x_tTup, tCons, tCB, tNil, tOp, x_addI, x_mulI, x_rI, x_rI0, x_ltI, x_leI, x_ltS, x_leS, x_eqI, x_neI, x_eqS, x_eqB, x_neB, x_isiI, x_isiS, x_int, x_max, x_min, cxOf, tIfS, tNext, tTest, V.bl.injEq, decide_eq_true_eq, gSub, tAnd, tOr, tNot, tB, tDrop, tBM, x_tFor, iRng1, iList, iTup, x_tLc, tYes, tCall, tIf, tAndV, tOrV, tNotV, tChain, List.append_nil, tUn, if_true, wipe, true_and, x_never, iU, x_itS, kV, Nat.reduceAdd, Nat.reduceSub, List.replicate_zero, x_rU, x_tMkO, iEnumT, x_tDc, x_tDGet, x_tDGet2, x_sDPut, x_tDSetd, x_tDNewK, x_iItems, x_iZip, x_tSAddK, x_tLockV, x_tTupRg, x_tRg2, tPar, tPar3, tBM0, tSl, tNoPart, tPart, x_tSetAdd, x_tDIn, x_iKeys, x_iZipX, tWhile, x_iZip3, iRevR, tRg1])
/-! first_difference -/
section
variable {P : Program} {w : World} {K : PySem.W.Frag} {mg : Str → Option Value} {base : Heap}
abbrev s_first_difference : Stmt := top 33
theorem sc_first_difference : FnScope ["network", "state", "other_network", "other_state", "count", "queues", "other_queues", "arrival", "finished"] ["network", "state", "other_network", "other_state", "count"] (defScope s_first_difference) := ⟨rfl, rfl, rfl, by decide +kernel, rfl, by decide +kernel, by decide +kernel⟩
def fdV : Option Nat → V
  | none => .non
  | some t => .int ((t + 1 : Nat) : Int)
/-- a valid network of at most eight stations and a state of it -/
structure NS (K : PySem.W.Frag) (H : Hp) (v u : V) (N : Net) (p : Int) (qs : Qs) : Prop where
  net : NetAt K H v N
  val : ValidN N
  le : N.length ≤ 8
  st : Dp K H u (stateD p qs)
  ok : StOk N p qs
theorem NS.tx {H H' : Hp} {v u : V} {N : Net} {p : Int} {qs : Qs} (h : NS K H v u N p qs) (t : TX H H') : NS K H' v u N p qs := ⟨NetAt.tx t h.net, h.val, h.le, Dp.tx t h.st (stateD_t p qs), h.ok⟩
def spFD (K : PySem.W.Frag) : Sp := fun vs H Q _ => ∃ (v u v' u' : V) (N N' : Net) (p p' : Int) (qs qs' : Qs) (c : Nat), vs = [v, u, v', u', .int (c : Int)] ∧ NS K H v u N p qs ∧ NS K H v' u' N' p' qs' ∧ c ≤ 2000 ∧ ∀ H', Ex H H' → Q (fdV (fdW N qs p N' qs' p' c)) H'
/-- the package's constants -/
structure Dfd (K : PySem.W.Frag) (mg : Str → Option Value) : Prop where
  is_word : ∃ f fd, Df K mg "is_word" s_is_word ["text"] f fd
  is_place : ∃ f fd, Df K mg "is_place" s_is_place ["place", "station", "stations"] f fd
  check_network : ∃ f fd, Df K mg "check_network" s_check_network ["network"] f fd
  check_passengers : ∃ f fd, Df K mg "check_passengers" s_check_passengers ["next_passenger", "queues"] f fd
  g_MAX_COMPARED : ∃ t, mg "MAX_COMPARED" = some (.int 2000 t)
theorem ok_fd_good {f f1 f2 f3 f4 f5 f6 : Addr} {fd fd1 fd2 fd3 fd4 fd5 fd6 : FuncData} (D : Df K mg "first_difference" s_first_difference ["network", "state", "other_network", "other_state", "count"] f fd) (T : Bt mg) (Ck : Ct K mg) (DD : Dfd K mg)
    (D_check_state : Df K mg "check_state" s_check_state ["network", "state"] f1 fd1) (D_check_count : Df K mg "check_count" s_check_count ["count", "least", "most"] f2 fd2) (D_let_arrive : Df K mg "let_arrive" s_let_arrive ["network", "queues", "passenger"] f3 fd3)
    (D_join_queue : Df K mg "join_queue" s_join_queue ["network", "queues", "station", "passenger", "events"] f4 fd4) (D_depart : Df K mg "depart" s_depart ["network", "queues", "station", "events"] f5 fd5) (D_list_finished : Df K mg "list_finished" s_list_finished ["events"] f6 fd6) :
    FnOk P w K mg base CX0 19 f fd ["network", "state", "other_network", "other_state", "count"] (spFD K) := by
  obtain ⟨h1, hd1, D_is_word⟩ := DD.is_word
  obtain ⟨h2, hd2, D_is_place⟩ := DD.is_place
  obtain ⟨h3, hd3, D_check_network⟩ := DD.check_network
  obtain ⟨h4, hd4, D_check_passengers⟩ := DD.check_passengers
  have G_check_state : FnOk P w K mg base CX0 5 f1 fd1 _ _ := ok_check_state D_check_state T Ck D_check_network D_check_passengers D_is_word D_is_place
  have G_check_count : FnOk P w K mg base CX0 1 f2 fd2 _ _ := ok_check_count0 D_check_count
  have G_let_arrive : FnOk P w K mg base CX0 18 f3 fd3 _ _ := ok_let_arrive D_let_arrive T D_join_queue D_depart D_list_finished
  obtain ⟨tMC, g_MAX_COMPARED⟩ := DD.g_MAX_COMPARED
  refine D.F.ok sc_first_difference (fun vs H Q E h => ?_) (fun cdv A outer s H vs Q E hr h => ?_)
  · obtain ⟨v, u, v', u', N, N', p, p', qs, qs', c, rfl, _⟩ := h
    rfl
  · obtain ⟨v, u, v', u', N, N', p, p', qs, qs', c, rfl, S1, S2, hc, q⟩ := h
    have hu := hr.units
    refine ⟨_, (pss_cons (ps_expr (pe_call (G_check_state) (hr.mono (by decide)) rfl D_check_state.g D_check_state.F.kp D_check_state.b .nil pass0 (pa_cons (pv 0) (pa_cons (pv 1) pa_nil))))
      (pss_cons (ps_expr (pe_call (G_check_state) (hr.mono (by decide)) rfl D_check_state.g D_check_state.F.kp D_check_state.b .nil pass0 (pa_cons (pv 2) (pa_cons (pv 3) pa_nil))))
      (pss_cons (ps_expr (pe_call (G_check_count) (hr.mono (by decide)) rfl D_check_count.g D_check_count.F.kp D_check_count.b .nil pass0 (pa_cons (pv 4) (pa_cons pe_int (pa_cons (pe_glob (v := .int 2000) rfl g_MAX_COMPARED ⟨_, rfl⟩) pa_nil)))))
      (pss_cons (ps_set (i := 5) sc_first_difference.nd rfl (Or.inl rfl) (pe_callTy (call_listU (K := K)) (by rfl) T.b_list (by decide +kernel) (pa_cons (pe_ix (ix_U (K := K)) (pv 1) pe_int (fun _ _ => rfl)) pa_nil)))
      (pss_cons (ps_set (i := 6) sc_first_difference.nd rfl (Or.inl rfl) (pe_callTy (call_listU (K := K)) (by rfl) T.b_list (by decide +kernel) (pa_cons (pe_ix (ix_U (K := K)) (pv 3) pe_int (fun _ _ => rfl)) pa_nil)))
      (pss_cons (ps_for PassesOwn.never rfl (pi_range1 (by rfl) T.b_range (pa_cons (pv 4) pa_nil)) (pg_name (i := 7) sc_first_difference.nd rfl (Or.inl rfl)) (pss_cons (ps_set (i := 8) sc_first_difference.nd rfl (Or.inl rfl) (pe_call (G_let_arrive) (hr.mono (by decide)) rfl D_let_arrive.g D_let_arrive.F.kp D_let_arrive.b .nil pass0 (pa_cons (pv 0) (pa_cons (pv 5) (pa_cons (pe_op (op_addU (K := K)) (pe_ix (ix_U (K := K)) (pv 1) pe_int (fun _ _ => rfl)) (pv 7)) pa_nil)))))
      (pss_one (ps_if (pt_cmpR (op_neU (K := K) hu) (pv 8) (pe_call (G_let_arrive) (hr.mono (by decide)) rfl D_let_arrive.g D_let_arrive.F.kp D_let_arrive.b .nil pass0 (pa_cons (pv 2) (pa_cons (pv 6) (pa_cons (pe_op (op_addU (K := K)) (pe_ix (ix_U (K := K)) (pv 3) pe_int (fun _ _ => rfl)) (pv 7)) pa_nil)))) (nomark _)) (pss_one (ps_ret (pe_op (op_addU (K := K)) (pv 7) pe_int))) pss_nil))))
      (pss_one (ps_ret pe_non)))))))), ?_⟩
    walk_at "run"
    refine ⟨v, u, N, p, qs, rfl, S1.net, S1.val, S1.st, S1.ok, fun H1 e1 => ?_⟩
    refine ⟨v', u', N', p', qs', rfl, Dp.ex e1 S2.net, S2.val, Dp.ex e1 S2.st, S2.ok, fun H2 e2 => ?_⟩
    walk_at "run"
    refine ⟨(c : Int), 0, 2000, rfl, by omega, by omega, ?_⟩
    obtain ⟨a, y, rfl, hSa, hy⟩ := state_at S1.st
    obtain ⟨b, ts, rfl, hTs, hts⟩ := qs_at hy
    obtain ⟨a', y', rfl, hSa', hy'⟩ := state_at S2.st
    obtain ⟨b', ts', rfl, hTs', hts'⟩ := qs_at hy'
    have e02 := e1.trans e2
    walk_at "run"
    refine x_ixT (ex_t e02 hSa) (v := .ref b) rfl (x_listT (ex_t e02 hTs) fun Qa H3 nQa e3 hQa => ?_)
    walk_at "run"
    have e03 := e02.trans e3
    refine x_ixT (ex_t e03 hSa') (v := .ref b') rfl (x_listT (ex_t e03 hTs') fun Qb H4 nQb e4 hQb => ?_)
    have e04 := e03.trans e4
    have hne : Qa ≠ Qb := ne_of_none hQa nQb
    have hQa4 : QtAt K H4 Qa PyData.int qs := ⟨⟨ts, e4 _ _ hQa, DpAll.ex e04 hts⟩⟩
    have hQb4 : QtAt K H4 Qb PyData.int qs' := ⟨⟨ts', hQb, DpAll.ex e04 hts'⟩⟩
    have nQa0 : H Qa = none := fresh_back e02 nQa
    have nQb0 : H Qb = none := fresh_back e03 nQb
    walk_at "run"
    refine ⟨(c : Int), rfl, by omega, by omega, ?_⟩
    rw [Int.toNat_natCast]
    refine loop_it walk_range (fun i σ H' => ∃ u7 u8, σ = [some v, some (.ref a), some v', some (.ref a'), some (.int (c : Int)), some (.ref Qa), some (.ref Qb), u7, u8] ∧ Ex H H' ∧ QtAt K H' Qa PyData.int (runW N qs p i) ∧ QtAt K H' Qb PyData.int (runW N' qs' p' i) ∧ ∀ t, t < i → finT N qs p t = finT N' qs' p' t)
      ⟨_, _, rfl, e04, hQa4, hQb4, fun t h => by omega⟩ (fun _ _ _ _ _ => trivial) ?_ ?_
    · rintro i x σ H5 H5' hi ⟨u7, u8, rfl, e5, hA, hB, hsame⟩ ⟨eH, rfl⟩
      subst eH
      have ei : (0 : Int) + (i : Nat) = (i : Nat) := by omega
      simp only [ei]
      walk_at "run"
      refine x_ixT (ex_t e5 hSa) (v := .int p) rfl ?_
      walk_at "run"
      refine ⟨v, N, Qa, _, p + (i : Int), rfl, Dp.ex e5 S1.net, S1.val, S1.le, hA, run_short S1.val S1.le (StOk.short S1.ok) i, fun H6 l k6 t6 nl hA6 hL => ?_⟩
      have e6 : Ex H H6 := fun x o h => k6 _ _ (ne_of_none h nQa0) (e5 _ _ h)
      walk_at "run"
      refine x_ixT (ex_t e6 hSa') (v := .int p') rfl ?_
      walk_at "run"
      obtain ⟨tb, hBb, hBd⟩ := hB.ex
      have hB6 : QtAt K H6 Qb PyData.int (runW N' qs' p' i) := ⟨⟨tb, k6 _ _ hne.symm hBb, DpAll.tx t6 hBd (qs_t pdI)⟩⟩
      refine ⟨v', N', Qb, _, p' + (i : Int), rfl, Dp.ex e6 S2.net, S2.val, S2.le, hB6, run_short S2.val S2.le (StOk.short S2.ok) i, fun H7 l2 k7 t7 nl2 hB7 hL2 => ?_⟩
      have e7 : Ex H H7 := fun x o h => k7 _ _ (ne_of_none h nQb0) (e6 _ _ h)
      obtain ⟨ta, hAa, hAd⟩ := hA6.ex
      have hA7 : QtAt K H7 Qa PyData.int (runW N qs p (i + 1)) := ⟨⟨ta, k7 _ _ hne hAa, DpAll.tx t7 hAd (qs_t pdI)⟩⟩
      obtain ⟨tl, hl1, hl2⟩ := hL.ex
      have hlQ : l ≠ Qb := fun z => by
        obtain ⟨ts2, hq2, _⟩ := hB.ex
        rw [z, hq2] at nl; cases nl
      have hL7 : LsAt K H7 l ((finT N qs p i).map fpD) := ⟨⟨tl, k7 _ _ hlQ hl1, DpAll.tx t7 hl2 fun d hd => by
        obtain ⟨x, _, rfl⟩ := List.mem_map.mp hd
        exact fpD_t x⟩⟩
      refine x_neFin hL7 hL2 (finT_port S1.val i) (finT_port S2.val i) ⟨_, rfl, ?_⟩
      by_cases hd : finT N qs p i = finT N' qs' p' i
      · rw [if_neg (by rw [decide_eq_true_eq]; exact fun z => z hd)]
        exact ⟨_, _, rfl, e7, hA7, hB7, fun t ht => by
          by_cases e : t = i
          · rw [e]; exact hd
          · exact hsame t (by omega)⟩
      · rw [if_pos (by rw [decide_eq_true_eq]; exact hd)]
        have hf : fdW N qs p N' qs' p' c = some i := by
          unfold fdW
          rw [List.find?_range_eq_some]
          exact ⟨by simpa using hd, by simpa using hi, fun t ht => by simpa using hsame t ht⟩
        have := q H7 e7
        rw [hf] at this
        exact this
    · rintro σ H5 ⟨u7, u8, rfl, e5, hA, hB, hsame⟩
      walk_at "run"
      have hf : fdW N qs p N' qs' p' c = none := by
        unfold fdW
        rw [List.find?_range_eq_none]
        exact fun t ht => by simpa using hsame t ht
      have := q H5 e5
      rw [hf] at this
      exact this
/-- the errors, in their order -/
def spFDX (K : PySem.W.Frag) (C0 C1 C2 : Addr) : Sp := fun vs H _ E => ∃ (v u v' u' : V) (c : Int), vs = [v, u, v', u', .int c] ∧
  ((spBadNS K C0 [v, u] H (fun _ _ => True) E ∨ spBadS K C1 [v, u] H (fun _ _ => True) E) ∨ ∃ (N : Net) (p : Int) (qs : Qs), NS K H v u N p qs ∧
    ((spBadNS K C0 [v', u'] H (fun _ _ => True) E ∨ spBadS K C1 [v', u'] H (fun _ _ => True) E) ∨ ∃ (N' : Net) (p' : Int) (qs' : Qs), NS K H v' u' N' p' qs' ∧ ¬ (0 ≤ c ∧ c ≤ 2000) ∧ ∀ H', Ex H H' → E (.ref C2) none H'))
theorem ok_fd_bad {f f1 f2 C0 C1 C2 : Addr} {fd fd1 fd2 : FuncData} (D : Df K mg "first_difference" s_first_difference ["network", "state", "other_network", "other_state", "count"] f fd) (DD : Dfd K mg)
    (D_check_state : Df K mg "check_state" s_check_state ["network", "state"] f1 fd1) (D_check_count : Df K mg "check_count" s_check_count ["count", "least", "most"] f2 fd2)
    (G_check_state : FnOk P w K mg base (L2.CX P w) 5 f1 fd1 ["network", "state"] (spStateX K C0 C1)) (G_check_count : FnOk P w K mg base (L2.CX P w) 1 f2 fd2 ["count", "least", "most"] (spCountX C2)) :
    FnOk P w K mg base (L2.CX P w) 19 f fd ["network", "state", "other_network", "other_state", "count"] (spFDX K C0 C1 C2) := by
  obtain ⟨tMC, g_MAX_COMPARED⟩ := DD.g_MAX_COMPARED
  refine D.F.okX sc_first_difference (fun vs H Q E h => ?_) (fun cdv A outer s H vs Q E hr h => ?_)
  · obtain ⟨v, u, v', u', c, rfl, _⟩ := h
    rfl
  · obtain ⟨v, u, v', u', c, rfl, h⟩ := h
    refine ⟨_, (pss_cons (ps_expr (pe_call (G_check_state) (hr.mono (by decide)) rfl D_check_state.g D_check_state.F.kp D_check_state.b .nil (passes_call (takes_of rfl rfl rfl rfl) fun _ _ _ _ h => h) (pa_cons (pv 0) (pa_cons (pv 1) pa_nil))))
      (pss_cons (ps_expr (pe_call (G_check_state) (hr.mono (by decide)) rfl D_check_state.g D_check_state.F.kp D_check_state.b .nil (passes_call (takes_of rfl rfl rfl rfl) fun _ _ _ _ h => h) (pa_cons (pv 2) (pa_cons (pv 3) pa_nil))))
      (pss_cons (ps_expr (pe_call (G_check_count) (hr.mono (by decide)) rfl D_check_count.g D_check_count.F.kp D_check_count.b .nil (passes_call (takes_of rfl rfl rfl rfl) fun _ _ _ _ h => h) (pa_cons (pv 4) (pa_cons pe_int (pa_cons (pe_glob (v := .int 2000) rfl g_MAX_COMPARED ⟨_, rfl⟩) pa_nil))))) pss_never))), ?_⟩
    walk_at "run"
    rcases h with (h | h) | ⟨N, p, qs, S1, h⟩
    · obtain ⟨_, _, N, k, j, e, r⟩ := h
      cases e
      exact .inr (.inl ⟨v, u, N, k, j, rfl, r⟩)
    · obtain ⟨_, _, N, e, r⟩ := h
      cases e
      exact .inr (.inr ⟨v, u, N, rfl, r⟩)
    refine .inl ⟨v, u, N, p, qs, rfl, S1.net, S1.val, S1.st, S1.ok, fun H1 e1 => ?_⟩
    walk_at "run"
    rcases h with (h | h) | ⟨N', p', qs', S2, hcn, h⟩
    · obtain ⟨_, _, N', k, j, e, hN, hS, hb, r⟩ := h
      cases e
      exact .inr (.inl ⟨v', u', N', k, j, rfl, Dp.ex e1 hN, hS, hb, fun d H' e hd hx => r d H' (e1.trans e) (fresh_back e1 hd) hx⟩)
    · obtain ⟨_, _, N', e, hN, hV, hu, r⟩ := h
      cases e
      exact .inr (.inr ⟨v', u', N', rfl, Dp.ex e1 hN, hV, Dp.ex e1 hu, fun H' e => r H' (e1.trans e)⟩)
    refine .inl ⟨v', u', N', p', qs', rfl, Dp.ex e1 S2.net, S2.val, Dp.ex e1 S2.st, S2.ok, fun H2 e2 => ?_⟩
    walk_at "run"
    exact ⟨c, 0, 2000, rfl, by decide, by decide, hcn, h H2 (e1.trans e2)⟩
end
end K
set_option Elab.async false
set_option linter.all false
set_option maxRecDepth 100000
set_option maxHeartbeats 1000000
set_option exponentiation.threshold 20000
namespace K
open PySem PySem.Spec PyProof.Rows L2 Evl FB
local macro_rules | `(tactic| walk_at "run") => `(tactic| try simp only [tSeq, tAsg, tVar, tC, gName, L2.start, List.map_cons, List.map_nil, List.cons_append, List.nil_append, List.length_cons, List.length_nil, List.replicate, List.getElem?_cons_zero, List.getElem?_cons_succ, Option.some.injEq, exists_eq_left', List.set_cons_zero, List.set_cons_succ, V.ref.injEq, tRet, x_tLst, x_tTup, tCons, tCB, tNil, tOp, x_addI, x_mulI, x_rI, x_rI0, x_ltI, x_leI, x_ltS, x_leS, x_eqI, x_neI, x_eqS, x_eqB, x_neB, x_isiI, x_isiS, x_int, x_max, x_min, cxOf, tIfS, tNext, tTest, V.bl.injEq, decide_eq_true_eq, gSub, tAnd, tOr, tNot, tB, tDrop, tBM, x_tFor, iRng1, iList, iTup, x_tLc, tYes, tCall, tIf, tAndV, tOrV, tNotV, tChain, List.append_nil, tUn, if_true, wipe, true_and, x_never, iU, x_itS, kV, Nat.reduceAdd, Nat.reduceSub, List.replicate_zero, x_rU, x_tMkO, iEnumT, x_tDc, x_tDGet, x_tDGet2, x_sDPut, x_tDSetd, x_tDNewK, x_iItems, x_iZip, x_tSAddK, x_tLockV, x_tTupRg, x_tRg2, tPar, tPar3, tBM0, tSl, tNoPart, tPart, x_tSetAdd, x_tDIn, x_iKeys, x_iZipX, tWhile, x_iZip3, iRevR, tRg1])
/-! the law's own simulation -/
section
variable {P : Program} {w : World} {K : PySem.W.Frag} {mg : Str → Option Value} {base : Heap}
abbrev s_l_finished : Stmt := top 45
theorem sc_l_finished : FnScope ["_law_network_here", "_law_state_here", "_law_count", "_law_queues", "_law_found", "_law_k", "_law_done", "_law_queue"] ["_law_network_here", "_law_state_here", "_law_count"] (defScope s_l_finished) := ⟨rfl, rfl, rfl, by decide +kernel, rfl, by decide +kernel, by decide +kernel⟩
/-- at l a list of the lists of who finishes at each arrival -/
def LLat (K : PySem.W.Frag) (H : Hp) (l : Addr) (N : Net) (qs : Qs) (p : Int) (c : Nat) : Prop := ∃ as : List Addr, H l = some (.lst (as.map V.ref)) ∧ as.length = c ∧ ∀ (t : Nat) a, as[t]? = some a → LsAt K H a ((finT N qs p t).map fpD)
theorem LLat.ex {H H' : Hp} {l : Addr} {N : Net} {qs : Qs} {p : Int} {c : Nat} (h : LLat K H l N qs p c) (e : Ex H H') : LLat K H' l N qs p c := by
  obtain ⟨as, h1, h2, h3⟩ := h
  exact ⟨as, e _ _ h1, h2, fun t a ha => (h3 t a ha).ex2 e⟩
def spFinL (K : PySem.W.Frag) : Sp := fun vs H Q _ => ∃ (v u : V) (N : Net) (p : Int) (qs : Qs) (c : Nat), vs = [v, u, .int (c : Int)] ∧ NS K H v u N p qs ∧ c ≤ 1000 ∧ ∀ H' l, Ex H H' → LLat K H' l N qs p c → Q (.ref l) H'
theorem ok_l_finished {f f1 f2 : Addr} {fd fd1 fd2 : FuncData} (D : Df K mg "_law_finished" s_l_finished ["_law_network_here", "_law_state_here", "_law_count"] f fd) (T : Bt mg)
    (D_l_join : Df K mg "_law_join" s_l_join ["_law_network_here", "_law_queues", "_law_station", "_law_passenger", "_law_finished_here"] f1 fd1) (D_l_depart : Df K mg "_law_depart" s_l_depart ["_law_network_here", "_law_queues", "_law_station", "_law_finished_here"] f2 fd2) :
    FnOk P w K mg base CX0 18 f fd ["_law_network_here", "_law_state_here", "_law_count"] (spFinL K) := by
  have G_l_join : FnOk P w K mg base CX0 17 f1 fd1 _ _ := (ok_l_pair D_l_join T D_l_depart 8).2
  refine D.F.ok sc_l_finished (fun vs H Q E h => ?_) (fun cdv A outer s H vs Q E hr h => ?_)
  · obtain ⟨v, u, N, p, qs, c, rfl, _⟩ := h
    rfl
  · obtain ⟨v, u, N, p, qs, c, rfl, S, hc, q⟩ := h
    have hu := hr.units
    have h8 := S.le
    have hV := S.val
    have Sh := StOk.short S.ok
    have hql := Sh.len
    refine ⟨_, (pss_cons (ps_par (i := 3) (j := 4) (by rfl) sc_l_finished.nd rfl rfl (by decide) rfl rfl (pa_cons (pe_lc (own := [("_law_queue", 7)]) (g := gName 7) (tt := tYes) rfl sc_l_finished.nd (pi_U (K := K) (pe_ix (ix_U (K := K)) (pv 1) pe_int (fun _ _ => rfl))) (blkOk_by (own := [("_law_queue", 7)]) (N := ["_law_network_here", "_law_state_here", "_law_count", "_law_queues", "_law_found", "_law_k", "_law_done", "_law_queue"]) (sc := defScope s_l_finished) (by decide +kernel)) (fun _ _ _ _ _ => (pg_name (i := 7) sc_l_finished.nd rfl (Or.inl rfl))) (fun _ _ _ _ _ => pts_nil) (fun _ _ _ _ _ => (pe_callTy (call_listU (K := K)) (by rfl) T.b_list (by decide +kernel) (pa_cons (pv 7) pa_nil)))) (pa_cons (pe_lst pa_nil) pa_nil)) (by rfl))
      (pss_cons (ps_for PassesOwn.never rfl (pi_range1 (by rfl) T.b_range (pa_cons (pv 2) pa_nil)) (pg_name (i := 5) sc_l_finished.nd rfl (Or.inl rfl)) (pss_cons (ps_set (i := 6) sc_l_finished.nd rfl (Or.inl rfl) (pe_lst pa_nil))
      (pss_cons (ps_expr (pe_call (G_l_join) (hr.mono (by decide)) rfl D_l_join.g D_l_join.F.kp D_l_join.b .nil pass0 (pa_cons (pv 0) (pa_cons (pv 3) (pa_cons pe_int (pa_cons (pe_op (op_addU (K := K)) (pe_ix (ix_U (K := K)) (pv 1) pe_int (fun _ _ => rfl)) (pv 5)) (pa_cons (pv 6) pa_nil)))))))
      (pss_one (ps_expr (pe_bm PySem.F.plainAttrs_list PySem.F.slot_list_append PySem.F.type_list_append mt_append (pv 4) (pa_cons (pv 6) pa_nil)))))))
      (pss_one (ps_ret (pv 4))))), ?_⟩
    walk_at "run"
    obtain ⟨ua, y, rfl, hSa, hy⟩ := state_at S.st
    obtain ⟨ub, ts, rfl, hT, hts⟩ := qs_at hy
    have htl : ts.length = qs.length := by rw [hts.len, List.length_map]
    refine x_ixT hSa (v := .ref ub) rfl (x_itT hT ?_)
    refine lcl_it walk_tup (fun D i H' => ∃ as : List Addr, H' D = some (.lst (as.map V.ref)) ∧ as.length = i ∧ as.Nodup ∧ D ∉ as ∧ (∀ (m : Nat) a, as[m]? = some a → H a = none ∧ H' a = some (.lst ((qs.getD m []).map V.int))) ∧ Ex H H') (fun D H' hD e h => ⟨[], h, rfl, List.nodup_nil, by simp, by simp, e⟩) (fun D i H' _ ⟨_, _, _, _, _, _, e⟩ => ex_t e hT) ?_ ?_
    · rintro D i x H11 H11' hDn hi ⟨as, hA, hl, nd, nm, has, e11⟩ ⟨eH, hx⟩
      subst eH
      obtain ⟨d, hd, hz⟩ := hts.get' hx
      obtain ⟨qi, hq, rfl⟩ : ∃ qi, qs[i]? = some qi ∧ qD qi = d := by simpa using hd
      obtain ⟨c1, cs, rfl, hC, hcs⟩ := Dp.tup_inv hz
      obtain rfl := dp_ints hcs
      walk_at "run"
      refine x_listT (ex_t e11 hC) fun t H12 nt e12 ht => x_push (e12 _ _ hA) (by rw [List.length_map]; omega) fun H13 e13 h13 => ?_
      have hDt : D ≠ t := ne_of_none hA nt
      have hta : t ∉ as := fun z => by
        obtain ⟨m, hm⟩ := List.mem_iff_getElem?.mp z
        exact ne_of_none (has m t hm).2 nt rfl
      refine ⟨as ++ [t], by rw [h13, List.map_append]; rfl, by simp [hl], nd_snoc nd hta, by simp [nm, hDt], fun m a ha => ?_, fun x o hx => e13 _ _ (ne_of_none hx hDn) (e12 _ _ (e11 _ _ hx))⟩
      by_cases hm : m < as.length
      · rw [List.getElem?_append_left hm] at ha
        exact ⟨(has m a ha).1, e13 _ _ (fun z => nm (by rw [← z]; exact List.mem_of_getElem? ha)) (e12 _ _ (has m a ha).2)⟩
      · rw [List.getElem?_append_right (by omega)] at ha
        obtain ⟨z1, z2⟩ := List.getElem?_eq_some_iff.mp ha
        have hmi : m = i := by simp at z1; omega
        have hta2 : t = a := by simpa using z2
        subst hmi hta2
        refine ⟨fresh_back e11 nt, e13 _ _ hDt.symm ?_⟩
        rw [ht, List.getD_eq_getElem?_getD, hq]; rfl
    · rintro Qa H1 nQ ⟨as, hA, hl, nd, nm, has, e1⟩
      rw [htl] at hl
      have hQ1 : QsAt K H1 Qa as qs := ⟨hA, hl, nd, nm, fun m a h => (has m a h).2⟩
      have nas : ∀ a ∈ as, H a = none := fun a ha => by
        obtain ⟨m, hm⟩ := List.mem_iff_getElem?.mp ha
        exact (has m a hm).1
      refine x_lst (by simp) fun Ga H2 nG e2 hG => ⟨_, _, rfl, ?_⟩
      have hGQ : Ga ≠ Qa := (ne_of_none hA nG).symm
      have hGa : Ga ∉ as := fun z => by
        obtain ⟨m, hm⟩ := List.mem_iff_getElem?.mp z
        exact ne_of_none (has m Ga hm).2 nG rfl
      have nG0 : H Ga = none := fresh_back e1 nG
      walk_at "run"
      refine ⟨(c : Int), rfl, by omega, by omega, ?_⟩
      rw [Int.toNat_natCast]
      refine loop_it walk_range (fun i σ H' => ∃ u5 u6 u7, σ = [some v, some (.ref ua), some (.int (c : Int)), some (.ref Qa), some (.ref Ga), u5, u6, u7] ∧ Ex H H' ∧ QsAt K H' Qa as (runW N qs p i) ∧ ∃ bs : List Addr, H' Ga = some (.lst (bs.map V.ref)) ∧ bs.length = i ∧ (∀ b ∈ bs, b ≠ Ga ∧ b ≠ Qa ∧ b ∉ as ∧ H b = none) ∧ ∀ (t : Nat) a, bs[t]? = some a → LsAt K H' a ((finT N qs p t).map fpD))
        ⟨_, _, _, rfl, e1.trans e2, hQ1.ex e2, [], hG, rfl, by simp, by simp⟩ (fun _ _ _ _ _ => trivial) ?_ ?_
      · rintro i x σ H3 H3' hi ⟨u5, u6, u7, rfl, e3, hQ3, bs, hG3, hbl, hbs, hbf⟩ ⟨eH, rfl⟩
        subst eH
        have ei : (0 : Int) + (i : Nat) = (i : Nat) := by omega
        simp only [ei]
        walk_at "run"
        refine x_lst (by simp) fun Fa H4 nF e4 hF => ?_
        walk_at "run"
        have hFQ : Fa ≠ Qa := (ne_of_none hQ3.at_ nF).symm
        have hFG : Fa ≠ Ga := (ne_of_none hG3 nF).symm
        have hFa : Fa ∉ as := fun z => by
          obtain ⟨m, hm⟩ := List.mem_iff_getElem?.mp z
          exact ne_of_none (hQ3.q m Fa hm) nF rfl
        have hFb : Fa ∉ bs := fun z => by
          obtain ⟨m, hm⟩ := List.mem_iff_getElem?.mp z
          obtain ⟨tl, h1, _⟩ := (hbf m Fa hm).ex
          exact ne_of_none h1 nF rfl
        have nF0 : H Fa = none := fresh_back e3 nF
        refine x_ixT (ex_t (e3.trans e4) hSa) (v := .int p) rfl ?_
        walk_at "run"
        have Shi := run_short (p := p) hV h8 Sh i
        have hfl := short_flat hV Shi
        refine ⟨v, N, Qa, Fa, as, _, [], 0, p + (i : Int), rfl, Dp.ex (e3.trans e4) S.net, hV.jn, hQ3.ex e4, ⟨⟨[], hF, .nil⟩⟩, hFQ, hFa, Shi, hV.pos, by omega, by rw [List.length_nil]; omega, fun H5 ex3 hQ5 hF5 => ?_⟩
        rw [List.nil_append] at hF5
        have e5 : Ex H H5 := fun x o h => ex3 x o (e4 _ _ (e3 _ _ h)) (ne_of_none (e3 _ _ h) nF) (fun z => ne_of_none h (nas x z) rfl)
        have t45 : TX H4 H5 := ex3.tx (fs := []) (hQ3.ex e4) ⟨⟨[], hF, .nil⟩⟩
        have hG5 : H5 Ga = some (.lst (bs.map V.ref)) := ex3 _ _ (e4 _ _ hG3) hFG.symm hGa
        walk_at "run"
        refine ⟨x_tyL (SqL.of hG5), x_append hG5 (by rw [List.length_map]; omega) fun H6 e6 h6 => ?_⟩
        have t56 : TX H5 H6 := TX.but hG5 e6
        obtain ⟨tf, hf1, hf2⟩ := hF5.ex
        refine ⟨_, _, _, rfl, fun x o h => e6 _ _ (ne_of_none h nG0) (e5 _ _ h), hQ5.but e6 hGQ.symm hGa, bs ++ [Fa], by rw [h6, List.map_append]; rfl, by simp [hbl], fun b hb => ?_, fun t a ha => ?_⟩
        · rcases List.mem_append.mp hb with hb | hb
          · exact hbs b hb
          · rw [List.mem_singleton.mp hb]; exact ⟨hFG, hFQ, hFa, nF0⟩
        · by_cases ht : t < bs.length
          · rw [List.getElem?_append_left ht] at ha
            obtain ⟨tl, h1, h2⟩ := (hbf t a ha).ex
            have hab := List.mem_of_getElem? ha
            obtain ⟨b1, b2, b3, _⟩ := hbs a hab
            refine ⟨⟨tl, e6 _ _ b1 (ex3 _ _ (e4 _ _ h1) (fun z => hFb (z ▸ hab)) b3), DpAll.tx (t45.trans t56) (DpAll.ex e4 h2) fun d hd => ?_⟩⟩
            obtain ⟨x, _, rfl⟩ := List.mem_map.mp hd
            exact fpD_t x
          · rw [List.getElem?_append_right (by omega)] at ha
            obtain ⟨z1, z2⟩ := List.getElem?_eq_some_iff.mp ha
            have hti : t = i := by simp at z1; omega
            have hFa2 : Fa = a := by simpa using z2
            subst hti hFa2
            refine ⟨⟨tf, e6 _ _ hFG hf1, DpAll.tx t56 hf2 fun d hd => ?_⟩⟩
            obtain ⟨x, _, rfl⟩ := List.mem_map.mp hd
            exact fpD_t x
      · rintro σ H3 ⟨u5, u6, u7, rfl, e3, hQ3, bs, hG3, hbl, hbs, hbf⟩
        walk_at "run"
        exact q H3 Ga e3 ⟨bs, hG3, hbl, hbf⟩
end
end K
set_option Elab.async false
set_option linter.all false
set_option maxRecDepth 100000
set_option maxHeartbeats 1000000
set_option exponentiation.threshold 20000
namespace K
open PySem PySem.Spec PyProof.Rows L2 Evl FB
local macro_rules | `(tactic| walk_at "run") => `(tactic| try simp only [tSeq, tAsg, tVar, tC, gName, L2.start, List.map_cons, List.map_nil, List.cons_append, List.nil_append, List.length_cons, List.length_nil, List.replicate, List.getElem?_cons_zero, List.getElem?_cons_succ, Option.some.injEq, exists_eq_left', List.set_cons_zero, List.set_cons_succ, V.ref.injEq, tRet, x_tLst, x_tTup, tCons, tCB, tNil, tOp, x_addI, x_mulI, x_rI, x_rI0, x_ltI, x_leI, x_ltS, x_leS, x_eqI, x_neI, x_eqS, x_eqB, x_neB, x_isiI, x_isiS, x_int, x_max, x_min, cxOf, tIfS, tNext, tTest, V.bl.injEq, decide_eq_true_eq, gSub, tAnd, tOr, tNot, tB, tDrop, tBM, x_tFor, iRng1, iList, iTup, x_tLc, tYes, tCall, tIf, tAndV, tOrV, tNotV, tChain, List.append_nil, tUn, if_true, wipe, true_and, x_never, iU, x_itS, kV, Nat.reduceAdd, Nat.reduceSub, List.replicate_zero, x_rU, x_tMkO, iEnumT, x_tDc, x_tDGet, x_tDGet2, x_sDPut, x_tDSetd, x_tDNewK, x_iItems, x_iZip, x_tSAddK, x_tLockV, x_tTupRg, x_tRg2, tPar, tPar3, tBM0, tSl, tNoPart, tPart, x_tSetAdd, x_tDIn, x_iKeys, x_iZipX, tWhile, x_iZip3, iRevR, tRg1])
/-! a family of networks that differ late, reckoned by the kernel -/
theorem fb_seat {k n : Int} : ∀ {s : List Key} {j : Nat}, seatBad k n j s = none → ∀ p ∈ s, placeB k n p = true
  | [], _, _, p, hp => by simp at hp
  | q :: s, j, h, p, hp => by
    unfold seatBad at h
    split at h
    · rename_i hq
      rcases List.mem_cons.mp hp with e | e
      · rw [e]; exact hq
      · exact fb_seat h p e
    · cases h
theorem fb_net {n : Int} : ∀ {N : Net} {k : Nat}, netBad n k N = none → ∀ (i : Nat) s, N[i]? = some s → k + i ≠ 40 ∧ 1 ≤ s.length ∧ s.length ≤ 8 ∧ ∀ p ∈ s, placeB ((k + i : Nat) : Int) n p = true
  | [], k, _, i, s, e => by simp at e
  | t :: N, k, h, i, s, e => by
    unfold netBad at h
    cases hb : stBad n k t with
    | some j => rw [hb] at h; cases h
    | none =>
      rw [hb] at h
      cases i with
      | zero =>
        have e : t = s := by simpa using e
        subst e
        unfold stBad at hb
        split at hb
        · cases hb
        · rename_i hg
          have h1 : 1 ≤ t.length ∧ t.length ≤ 8 := Classical.not_not.mp fun z => hg (.inr z)
          refine ⟨fun z => hg (.inl z), h1.1, h1.2, ?_⟩
          have : seatBad k n 0 t = none := by
            cases q : seatBad k n 0 t with
            | none => rfl
            | some j => rw [q] at hb; cases hb
          exact fb_seat this
      | succ i =>
        have r := fb_net h i s (by simpa using e)
        rw [show k + 1 + i = k + (i + 1) by omega] at r
        exact r
/-- no fault: a valid network -/
theorem fb_ok {N : Net} (h : firstBad N = none) : ValidN N := by
  unfold firstBad at h
  split at h
  · cases h
  · rename_i h0
    have hb : ∀ (i : Nat) s, N[i]? = some s → _ := fun i s e => fb_net h i s e
    refine ⟨by omega, Classical.not_not.mp fun z => ?_, fun k s e => ?_⟩
    · have h40 : 40 < N.length := by omega
      exact (hb 40 N[40] (by simp [h40])).1 rfl
    · obtain ⟨_, h1, h2, h3⟩ := hb k s e
      refine ⟨h1, h2, fun p hp => ⟨by have := h3 p hp; rwa [Nat.zero_add] at this, fun z ez => ?_⟩⟩
      have := h3 p hp
      rw [ez] at this
      have : wordB z = true := this
      unfold wordB at this
      simp at this
      omega
theorem runW_next {N : Net} : ∀ (t : Nat) (qs : Qs) (p : Int), runW N qs p (t + 1) = runW N (arrW N qs p).1 (p + 1) t
  | 0, qs, p => by
    show (arrW N qs (p + ((0 : Nat) : Int))).1 = (arrW N qs p).1
    rw [show p + ((0 : Nat) : Int) = p by omega]
  | t + 1, qs, p => by
    show (arrW N (runW N qs p (t + 1)) (p + ((t + 1 : Nat) : Int))).1 = (arrW N (runW N (arrW N qs p).1 (p + 1) t) (p + 1 + (t : Int))).1
    rw [runW_next t qs p, show p + ((t + 1 : Nat) : Int) = p + 1 + (t : Int) by omega]
theorem finT_zero {N : Net} {qs : Qs} {p : Int} : finT N qs p 0 = finOf (arrW N qs p).2 := by
  unfold finT
  rw [show p + ((0 : Nat) : Int) = p by omega]; rfl
theorem finT_next {N : Net} {qs : Qs} {p : Int} (t : Nat) : finT N qs p (t + 1) = finT N (arrW N qs p).1 (p + 1) t := by
  unfold finT
  rw [runW_next, show p + ((t + 1 : Nat) : Int) = p + 1 + (t : Int) by omega]
def eqS (a b : Str) : Bool := a.cps.toList == b.cps.toList
theorem eqS_iff {a b : Str} : eqS a b = true ↔ a = b := by
  unfold eqS
  obtain ⟨a⟩ := a
  obtain ⟨b⟩ := b
  simp [Array.toList_inj]
def eqF : List (Str × Int) → List (Str × Int) → Bool
  | [], [] => true
  | a :: r, b :: s => eqS a.1 b.1 && (a.2 == b.2 && eqF r s)
  | _, _ => false
theorem eqF_iff : ∀ {a b : List (Str × Int)}, eqF a b = true ↔ a = b
  | [], [] => by simp [eqF]
  | [], _ :: _ => by simp [eqF]
  | _ :: _, [] => by simp [eqF]
  | (a1, a2) :: r, (b1, b2) :: s => by
    unfold eqF
    rw [Bool.and_eq_true, Bool.and_eq_true, eqS_iff, eqF_iff]
    simp [and_assoc]
def chk (N N' : Net) : Nat → Qs → Qs → Int → Bool
  | 0, qs, qs', p => !eqF (finOf (arrW N qs p).2) (finOf (arrW N' qs' p).2)
  | n + 1, qs, qs', p => eqF (finOf (arrW N qs p).2) (finOf (arrW N' qs' p).2) && chk N N' n (arrW N qs p).1 (arrW N' qs' p).1 (p + 1)
theorem chk_ok {N N' : Net} : ∀ (n : Nat) (qs qs' : Qs) (p : Int), chk N N' n qs qs' p = true → (∀ t, t < n → finT N qs p t = finT N' qs' p t) ∧ finT N qs p n ≠ finT N' qs' p n
  | 0, qs, qs', p, h => by
    refine ⟨fun t ht => by omega, fun z => ?_⟩
    rw [finT_zero, finT_zero] at z
    unfold chk at h
    rw [eqF_iff.mpr z] at h
    cases h
  | n + 1, qs, qs', p, h => by
    unfold chk at h
    rw [Bool.and_eq_true] at h
    obtain ⟨h1, h2⟩ := h
    obtain ⟨g1, g2⟩ := chk_ok n _ _ _ h2
    refine ⟨fun t ht => ?_, by rw [finT_next, finT_next]; exact g2⟩
    cases t with
    | zero => rw [finT_zero, finT_zero]; exact eqF_iff.mp h1
    | succ t => rw [finT_next, finT_next]; exact g1 t (by omega)
def rowF (ss : List Nat) (i : Nat) : List Key := .inl ((i + 1 : Nat) : Int) :: List.replicate (ss.getD i 0 - 1) (.inr "a")
def headF (ss : List Nat) (n : Nat) : Net := (List.range n).map (rowF ss)
def lastF (ss : List Nat) : Nat := ss.getD (ss.length - 1) 0
def netO (ss : List Nat) : Net := headF ss (ss.length - 1) ++ [List.replicate (lastF ss) (.inr "a")]
def netT (ss : List Nat) : Net := headF ss (ss.length - 1) ++ [List.replicate (lastF ss - 1) (.inr "a") ++ [.inr "b"]]
def dueF (ss : List Nat) : Nat → Int
  | 0 => 1
  | k + 1 => dueF ss k * ((ss.getD k 0 : Nat) : Int)
def q0 (ss : List Nat) : Qs := List.replicate ss.length []
def lateB (ss : List Nat) : Bool := decide (2 ≤ ss.length) && (decide (ss.length ≤ 5) && (ss.all (fun s => decide (2 ≤ s) && decide (s ≤ 8)) && ((firstBad (netO ss)).isNone && ((firstBad (netT ss)).isNone && (decide (1 ≤ dueF ss ss.length) && (decide (dueF ss ss.length ≤ 2000) && chk (netO ss) (netT ss) ((dueF ss ss.length).toNat - 1) (q0 ss) (q0 ss) 1))))))
def SS : List (List Nat) := [[8, 8, 8, 3], [5, 5, 8, 8], [6, 6, 7, 7], [4, 7, 8, 8], [5, 5, 5, 8, 2], [2, 3], [8, 8]]
theorem SS_ok : ∀ ss ∈ SS, lateB ss = true := by
  have h1 : lateB [8, 8, 8, 3] = true := by decide +kernel
  have h2 : lateB [5, 5, 8, 8] = true := by decide +kernel
  have h3 : lateB [6, 6, 7, 7] = true := by decide +kernel
  have h4 : lateB [4, 7, 8, 8] = true := by decide +kernel
  have h5 : lateB [5, 5, 5, 8, 2] = true := by decide +kernel
  have h6 : lateB [2, 3] = true := by decide +kernel
  have h7 : lateB [8, 8] = true := by decide +kernel
  intro ss hs
  simp only [SS, List.mem_cons, List.not_mem_nil, or_false] at hs
  rcases hs with rfl | rfl | rfl | rfl | rfl | rfl | rfl
  · exact h1
  · exact h2
  · exact h3
  · exact h4
  · exact h5
  · exact h6
  · exact h7
structure Late (ss : List Nat) : Prop where
  l2 : 2 ≤ ss.length
  l5 : ss.length ≤ 5
  sz : ∀ i, i < ss.length → 2 ≤ ss.getD i 0 ∧ ss.getD i 0 ≤ 8
  vO : ValidN (netO ss)
  vT : ValidN (netT ss)
  d1 : 1 ≤ dueF ss ss.length
  d2 : dueF ss ss.length ≤ 2000
  hit : ∀ c, (dueF ss ss.length).toNat ≤ c → fdW (netO ss) (q0 ss) 1 (netT ss) (q0 ss) 1 c = some ((dueF ss ss.length).toNat - 1)
  miss : fdW (netO ss) (q0 ss) 1 (netT ss) (q0 ss) 1 ((dueF ss ss.length).toNat - 1) = none
theorem fdW_self {N : Net} {qs : Qs} {p : Int} {c : Nat} : fdW N qs p N qs p c = none := by
  unfold fdW
  rw [List.find?_range_eq_none]
  exact fun t ht => by simp
theorem late_ok {ss : List Nat} (h : ss ∈ SS) : Late ss := by
  have hb := SS_ok ss h
  unfold lateB at hb
  simp only [Bool.and_eq_true, decide_eq_true_eq, Option.isNone_iff_eq_none] at hb
  obtain ⟨h1, h2, h3, h4, h5, h6, h7, h8⟩ := hb
  obtain ⟨g1, g2⟩ := chk_ok _ _ _ _ h8
  refine ⟨h1, h2, fun i hi => ?_, fb_ok h4, fb_ok h5, h6, h7, fun c hc => ?_, ?_⟩
  · have := List.all_eq_true.mp h3 ss[i] (List.getElem_mem hi)
    rw [List.getD_eq_getElem?_getD, List.getElem?_eq_getElem hi]
    simpa using this
  · unfold fdW
    rw [List.find?_range_eq_some]
    refine ⟨by simpa using g2, by simp; omega, fun t ht => ?_⟩
    simpa using g1 t ht
  · unfold fdW
    rw [List.find?_range_eq_none]
    exact fun t ht => by simpa using g1 t ht
theorem headF_succ {ss : List Nat} {n : Nat} : headF ss (n + 1) = headF ss n ++ [rowF ss n] := by
  unfold headF
  rw [List.range_succ, List.map_append]; rfl
theorem headF_len {ss : List Nat} {n : Nat} : (headF ss n).length = n := by
  unfold headF; simp
theorem headF_take {ss : List Nat} : ∀ {n m : Nat}, m ≤ n → (headF ss n).take m = headF ss m := fun h => by
  unfold headF
  rw [← List.map_take, List.take_range, Nat.min_eq_left h]
theorem q0_ok {ss : List Nat} {N : Net} (hl : N.length = ss.length) (h1 : ∀ s ∈ N, 1 ≤ s.length) : StOk N 1 (q0 ss) := by
  have fl : (q0 ss).flatten = [] := by
    unfold q0
    simp
  refine ⟨by decide, by unfold q0; simp [hl], fun k q s hq hs => ?_, by rw [fl]; exact List.nodup_nil, by rw [fl]; simp⟩
  have hq0 : q = [] := by
    have := List.mem_of_getElem? hq
    exact (List.mem_replicate.mp this).2
  subst hq0
  have := h1 s (List.mem_of_getElem? hs)
  show 0 < s.length
  omega
end K
set_option Elab.async false
set_option linter.all false
set_option maxRecDepth 100000
set_option maxHeartbeats 1000000
set_option exponentiation.threshold 20000
namespace K
open PySem PySem.Spec PyProof.Rows L2 Evl FB
local macro_rules | `(tactic| walk_at "run") => `(tactic| try simp only [tSeq, tAsg, tVar, tC, gName, L2.start, List.map_cons, List.map_nil, List.cons_append, List.nil_append, List.length_cons, List.length_nil, List.replicate, List.getElem?_cons_zero, List.getElem?_cons_succ, Option.some.injEq, exists_eq_left', List.set_cons_zero, List.set_cons_succ, V.ref.injEq, tRet, x_tLst, x_tTup, tCons, tCB, tNil, tOp, x_addI, x_mulI, x_rI, x_rI0, x_ltI, x_leI, x_ltS, x_leS, x_eqI, x_neI, x_eqS, x_eqB, x_neB, x_isiI, x_isiS, x_int, x_max, x_min, cxOf, tIfS, tNext, tTest, V.bl.injEq, decide_eq_true_eq, gSub, tAnd, tOr, tNot, tB, tDrop, tBM, x_tFor, iRng1, iList, iTup, x_tLc, tYes, tCall, tIf, tAndV, tOrV, tNotV, tChain, List.append_nil, tUn, if_true, wipe, true_and, x_never, iU, x_itS, kV, Nat.reduceAdd, Nat.reduceSub, List.replicate_zero, x_rU, x_tMkO, iEnumT, x_tDc, x_tDGet, x_tDGet2, x_sDPut, x_tDSetd, x_tDNewK, x_iItems, x_iZip, x_tSAddK, x_tLockV, x_tTupRg, x_tRg2, tPar, tPar3, tBM0, tSl, tNoPart, tPart, x_tSetAdd, x_tDIn, x_iKeys, x_iZipX, tWhile, x_iZip3, iRevR, tRg1])
/-! _law_late_right -/
section
variable {P : Program} {w : World} {K : PySem.W.Frag} {mg : Str → Option Value} {base : Heap}
theorem dpAll_rep17 {H : Hp} {x : V} {d : PyData} (h : Dp K H x d) : ∀ n, DpAll K H (List.replicate n x) (List.replicate n d)
  | 0 => .nil
  | n + 1 => by
    rw [List.replicate_succ, List.replicate_succ]
    exact .cons h (dpAll_rep17 h n)
def szV (ss : List Nat) : List V := ss.map fun s => V.int ((s : Nat) : Int)
abbrev s_l_late_right : Stmt := top 46
theorem sc_l_late_right : FnScope ["_law_h", "_law_sizes", "_law_due", "_law_network_here", "_law_k", "_law_head", "_law_one", "_law_two", "_law_state_here"] ["_law_h"] (defScope s_l_late_right) := ⟨rfl, rfl, rfl, by decide +kernel, rfl, by decide +kernel, by decide +kernel⟩
def spLate (K : PySem.W.Frag) : Sp := fun vs H Q _ => ∃ (a b : Addr), vs = [.ref a] ∧ Gen H a b ∧ ∀ H', Gen H' a b → Ex2 a b H H' → Q (.bl true) H'
theorem ok_l_late_right {f f1 f2 : Addr} {fd fd1 fd2 : FuncData} (D : Df K mg "_law_late_right" s_l_late_right ["_law_h"] f fd) (T : Bt mg) (D_l_next : Df K mg "_law_next" s_l_next ["_law_h", "_law_limit"] f1 fd1)
    (D_first_difference : Df K mg "first_difference" s_first_difference ["network", "state", "other_network", "other_state", "count"] f2 fd2) (G_first_difference : FnOk P w K mg base CX0 19 f2 fd2 ["network", "state", "other_network", "other_state", "count"] (spFD K)) :
    FnOk P w K mg base CX0 20 f fd ["_law_h"] (spLate K) := by
  have G_l_next : FnOk P w K mg base CX0 1 f1 fd1 _ _ := ok_l_next D_l_next T
  refine D.F.ok sc_l_late_right (fun vs H Q E h => ?_) (fun cdv A outer s H vs Q E hr h => ?_)
  · obtain ⟨a, b, rfl, _⟩ := h
    rfl
  · obtain ⟨a, b, rfl, g0, q⟩ := h
    have hu := hr.units
    refine ⟨_, (pss_cons (ps_set (i := 1) sc_l_late_right.nd rfl (Or.inl rfl) (pe_ix (ix_U (K := K)) (pe_lst (pa_cons (pe_tup (pa_cons pe_int (pa_cons pe_int (pa_cons pe_int (pa_cons pe_int pa_nil))))) (pa_cons (pe_tup (pa_cons pe_int (pa_cons pe_int (pa_cons pe_int (pa_cons pe_int pa_nil))))) (pa_cons (pe_tup (pa_cons pe_int (pa_cons pe_int (pa_cons pe_int (pa_cons pe_int pa_nil))))) (pa_cons (pe_tup (pa_cons pe_int (pa_cons pe_int (pa_cons pe_int (pa_cons pe_int pa_nil))))) (pa_cons (pe_tup (pa_cons pe_int (pa_cons pe_int (pa_cons pe_int (pa_cons pe_int (pa_cons pe_int pa_nil)))))) (pa_cons (pe_tup (pa_cons pe_int (pa_cons pe_int pa_nil))) (pa_cons (pe_tup (pa_cons pe_int (pa_cons pe_int pa_nil))) pa_nil)))))))) (pe_call (G_l_next) (hr.mono (by decide)) rfl D_l_next.g D_l_next.F.kp D_l_next.b .nil pass0 (pa_cons (pv 0) (pa_cons pe_int pa_nil))) (fun _ _ => rfl)))
      (pss_cons (ps_par (i := 2) (j := 3) (by rfl) sc_l_late_right.nd rfl rfl (by decide) rfl rfl (pa_cons pe_int (pa_cons (pe_lst pa_nil) pa_nil)) (by rfl))
      (pss_cons (ps_for PassesOwn.never rfl (pi_range1 (by rfl) T.b_range (pa_cons (pe_callB (call_lenU (K := K)) (by rfl) T.b_len (by decide +kernel) (pa_cons (pv 1) pa_nil)) pa_nil)) (pg_name (i := 4) sc_l_late_right.nd rfl (Or.inl rfl)) (pss_cons (ps_set (i := 2) sc_l_late_right.nd rfl (Or.inl rfl) (pe_op (op_mulU (K := K)) (pv 2) (pe_ix (ix_U (K := K)) (pv 1) (pv 4) (fun _ _ => rfl))))
      (pss_one (ps_expr (pe_bm PySem.F.plainAttrs_list PySem.F.slot_list_append PySem.F.type_list_append mt_append (pv 3) (pa_cons (pe_op (op_addU (K := K)) (pe_tup (pa_cons (pe_op (op_addU (K := K)) (pv 4) pe_int) pa_nil)) (pe_op (op_mulV (K := K)) (pe_tup (pa_cons pe_str pa_nil)) (pe_op op_sub (pe_ix (ix_U (K := K)) (pv 1) (pv 4) (fun _ _ => rfl)) pe_int))) pa_nil))))))
      (pss_cons (ps_set (i := 5) sc_l_late_right.nd rfl (Or.inl rfl) (pe_callTy (call_tupU (K := K)) (by rfl) T.b_tuple (by decide +kernel) (pa_cons (pe_slice (sl_U (K := K)) (pv 3) po_none (po_some (pe_un un_neg pe_int))) pa_nil)))
      (pss_cons (ps_set (i := 6) sc_l_late_right.nd rfl (Or.inl rfl) (pe_op (op_addU (K := K)) (pv 5) (pe_tup (pa_cons (pe_op (op_mulV (K := K)) (pe_tup (pa_cons pe_str pa_nil)) (pe_ix (ix_U (K := K)) (pv 1) (pe_un un_neg pe_int) (fun _ _ => rfl))) pa_nil))))
      (pss_cons (ps_set (i := 7) sc_l_late_right.nd rfl (Or.inl rfl) (pe_op (op_addU (K := K)) (pv 5) (pe_tup (pa_cons (pe_op (op_addU (K := K)) (pe_op (op_mulV (K := K)) (pe_tup (pa_cons pe_str pa_nil)) (pe_op op_sub (pe_ix (ix_U (K := K)) (pv 1) (pe_un un_neg pe_int) (fun _ _ => rfl)) pe_int)) (pe_tup (pa_cons pe_str pa_nil))) pa_nil))))
      (pss_cons (ps_set (i := 8) sc_l_late_right.nd rfl (Or.inl rfl) (pe_tup (pa_cons pe_int (pa_cons (pe_op (op_mulV (K := K)) (pe_tup (pa_cons (pe_tup pa_nil) pa_nil)) (pe_callB (call_lenU (K := K)) (by rfl) T.b_len (by decide +kernel) (pa_cons (pv 1) pa_nil))) pa_nil))))
      (pss_cons (ps_if (pt_cmpR (op_neU (K := K) hu) (pe_call (G_first_difference) (hr.mono (by decide)) rfl D_first_difference.g D_first_difference.F.kp D_first_difference.b .nil pass0 (pa_cons (pv 6) (pa_cons (pv 8) (pa_cons (pv 7) (pa_cons (pv 8) (pa_cons pe_int pa_nil)))))) (pv 2) (nomark _)) (pss_one (ps_ret pe_bl)) pss_nil)
      (pss_cons (ps_if (pt_cmpR op_notN (pe_call (G_first_difference) (hr.mono (by decide)) rfl D_first_difference.g D_first_difference.F.kp D_first_difference.b .nil pass0 (pa_cons (pv 6) (pa_cons (pv 8) (pa_cons (pv 7) (pa_cons (pv 8) (pa_cons (pe_op op_sub (pv 2) pe_int) pa_nil)))))) pe_non (nomark _)) (pss_one (ps_ret pe_bl)) pss_nil)
      (pss_one (ps_ret (pe_cmpR op_isN (pe_call (G_first_difference) (hr.mono (by decide)) rfl D_first_difference.g D_first_difference.F.kp D_first_difference.b .nil pass0 (pa_cons (pv 7) (pa_cons (pv 8) (pa_cons (pv 7) (pa_cons (pv 8) (pa_cons pe_int pa_nil)))))) pe_non (nomark _))))))))))))), ?_⟩
    walk_at "run"
    refine x_tup (by simp) fun p1 H1 n1 e1 h1 => x_tup (by simp) fun p2 H2 n2 e2 h2 => x_tup (by simp) fun p3 H3 n3 e3 h3 => x_tup (by simp) fun p4 H4 n4 e4 h4 => x_tup (by simp) fun p5 H5 n5 e5 h5 => x_tup (by simp) fun p6 H6 n6 e6 h6 => x_tup (by simp) fun p7 H7 n7 e7 h7 => ?_
    have e07 := e1.trans (e2.trans (e3.trans (e4.trans (e5.trans (e6.trans e7)))))
    refine x_lst (by simp) fun M H8 nM e8 hM => ?_
    have e08 := e07.trans e8
    refine x_next (g0.ex e08) (by decide) (by decide) fun r H9 r0 r1 g9 e9 => ?_
    have hM9 := e9 _ _ hM ((g0.ex e07).na nM) ((g0.ex e07).nb nM)
    have tx9 := (g0.ex e08).tx e9
    refine x_menu hM9 r0 (by simpa using r1) fun ov _ hov => ?_
    obtain ⟨p, ss, rfl, hss, hP⟩ : ∃ (p : Addr) (ss : List Nat), ov = .ref p ∧ ss ∈ SS ∧ SqT K H9 p (szV ss) := by
      simp only [List.mem_cons, List.not_mem_nil, or_false] at hov
      rcases hov with rfl | rfl | rfl | rfl | rfl | rfl | rfl
      · exact ⟨p1, [8, 8, 8, 3], rfl, by simp [SS], tx9.t (ex_t (e2.trans (e3.trans (e4.trans (e5.trans (e6.trans (e7.trans e8)))))) (SqT.of h1))⟩
      · exact ⟨p2, [5, 5, 8, 8], rfl, by simp [SS], tx9.t (ex_t (e3.trans (e4.trans (e5.trans (e6.trans (e7.trans e8))))) (SqT.of h2))⟩
      · exact ⟨p3, [6, 6, 7, 7], rfl, by simp [SS], tx9.t (ex_t (e4.trans (e5.trans (e6.trans (e7.trans e8)))) (SqT.of h3))⟩
      · exact ⟨p4, [4, 7, 8, 8], rfl, by simp [SS], tx9.t (ex_t (e5.trans (e6.trans (e7.trans e8))) (SqT.of h4))⟩
      · exact ⟨p5, [5, 5, 5, 8, 2], rfl, by simp [SS], tx9.t (ex_t (e6.trans (e7.trans e8)) (SqT.of h5))⟩
      · exact ⟨p6, [2, 3], rfl, by simp [SS], tx9.t (ex_t (e7.trans e8) (SqT.of h6))⟩
      · exact ⟨p7, [8, 8], rfl, by simp [SS], tx9.t (ex_t e8 (SqT.of h7))⟩
    have L := late_ok hss
    have ll2 := L.l2
    have ll5 := L.l5
    have hzl : (szV ss).length = ss.length := by unfold szV; simp
    have hat : ∀ i, i < ss.length → (szV ss)[i]? = some (.int ((ss.getD i 0 : Nat) : Int)) := fun i hi => by
      unfold szV
      rw [List.getElem?_map, List.getD_eq_getElem?_getD, List.getElem?_eq_getElem hi]; rfl
    have q9 : ∀ H', Gen H' a b → Ex H9 H' → Q (.bl true) H' := fun H' g e => q H' g (((Ex2.of e08).trans e9).ex e)
    clear hM9 hM h1 h2 h3 h4 h5 h6 h7 q
    walk_at "run"
    refine x_lst (by simp) fun Na H10 nN e10 hNa => ⟨_, _, rfl, ?_⟩
    walk_at "run"
    refine x_lenT (ex_t e10 hP) ?_
    rw [hzl]
    refine ⟨(ss.length : Nat), rfl, by omega, by omega, ?_⟩
    rw [Int.toNat_natCast]
    refine loop_it walk_range (fun i σ H' => ∃ u4, σ = [some (.ref a), some (.ref p), some (.int (dueF ss i)), some (.ref Na), u4, none, none, none, none] ∧ Ex H9 H' ∧ Gen H' a b ∧ LsAt K H' Na ((headF ss i).map stD))
      ⟨_, rfl, e10, g9.ex e10, ⟨⟨[], hNa, .nil⟩⟩⟩ (fun _ _ _ _ _ => trivial) ?_ ?_
    · rintro i x σ H11 H11' hi ⟨u4, rfl, e11, g11, hL⟩ ⟨eH, rfl⟩
      subst eH
      have ei : (0 : Int) + (i : Nat) = (i : Nat) := by omega
      simp only [ei]
      walk_at "run"
      have hP11 := ex_t e11 hP
      obtain ⟨s2, s8⟩ := L.sz i hi
      refine x_ixT hP11 (atI_nat (hat i hi)) ?_
      walk_at "run"
      obtain ⟨ls, hls, hlsd⟩ := hL.ex
      have hll : ls.length = i := by rw [hlsd.len, List.length_map, headF_len]
      refine ⟨.inr (by omega), x_tyL (SqL.of hls), ?_⟩
      refine x_tup (by simp) fun p1 H12 n1 e1 h1 => x_tup (by simp) fun p2 H13 n2 e2 h2 => ?_
      refine x_ixT (ex_t (e1.trans e2) hP11) (atI_nat (hat i hi)) ?_
      walk_at "run"
      rw [show ((ss.getD i 0 : Nat) : Int) - 1 = ((ss.getD i 0 - 1 : Nat) : Int) by omega]
      refine x_mulT h2 (by omega) (by omega) fun p3 H14 e3 h3 => ?_
      refine x_catT (ex_t (e2.trans e3) (SqT.of h1)) (SqT.of h3) (by rw [List.length_replicate, List.length_singleton]; omega) fun p4 H15 e4 h4 => ?_
      have e4 : Ex H14 H15 := e4
      have e1115 := e1.trans (e2.trans (e3.trans e4))
      refine x_append (e1115 _ _ hls) (by omega) fun H16 e16 h16 => ?_
      have t16 : TX H15 H16 := TX.but (e1115 _ _ hls) e16
      refine ⟨_, rfl, fun x o h => e16 _ _ (ne_of_none h nN) (e1115 _ _ (e11 _ _ h)), (g11.ex e1115).but (g9.na nN) (g9.nb nN) e16, ⟨⟨_, h16, ?_⟩⟩⟩
      rw [headF_succ, List.map_append]
      refine DpAll.append (DpAll.tx t16 (DpAll.ex e1115 hlsd) fun d hd => ?_) (.cons (Dp.tx t16 (StAt.of ?_) (stD_t _)) .nil)
      · obtain ⟨s, _, rfl⟩ := List.mem_map.mp hd
        exact stD_t s
      · have : (rowF ss i).map kV = [V.int ((i : Int) + 1)] ++ List.replicate (ss.getD i 0 - 1) (V.str "a") := by
          unfold rowF
          rw [List.map_cons, List.map_replicate]
          rfl
        rw [this]
        exact h4
    · rintro σ H11 ⟨u4, rfl, e11, g11, hL⟩
      walk_at "run"
      obtain ⟨ls, hls, hlsd⟩ := hL.ex
      have hll : ls.length = ss.length := by rw [hlsd.len, List.length_map, headF_len]
      refine ⟨_, rfl, .inl ⟨Na, ls, rfl, SqL.of hls, fun p10 n10 => ?_⟩⟩
      have e12 : Ex H11 (upd H11 p10 (.lst (cutV ls none (some (-1))))) := Ex.new n10
      have h12 : upd H11 p10 (.lst (cutV ls none (some (-1)))) p10 = some (.lst (cutV ls none (some (-1)))) := upd_same
      generalize upd H11 p10 (.lst (cutV ls none (some (-1)))) = H12 at *
      have hcut : cutV ls none (some (-1)) = ls.take (ss.length - 1) := by
        unfold cutV
        rw [HT.sIx_none]
        have : HT.sIx ls.length ls.length (some (-1)) = ss.length - 1 := by
          rw [hll]; unfold HT.sIx; simp; omega
        rw [this]; rfl
      rw [hcut] at h12
      refine x_tupL (SqL.of h12) fun p11 H13 n13 e13 h13 => ?_
      walk_at "run"
      have e1113 := e12.trans e13
      have hhd : DpAll K H13 (ls.take (ss.length - 1)) ((headF ss (ss.length - 1)).map stD) := by
        rw [← headF_take (n := ss.length) (by omega), List.map_take]
        exact (DpAll.ex e1113 hlsd).take _
      have hP13 := ex_t (e11.trans e1113) hP
      have hlast : atI (szV ss) (-1) = some (.int ((lastF ss : Nat) : Int)) := by
        have h1 := hat (ss.length - 1) (by omega)
        have h2 : szV ss = (szV ss).take (ss.length - 1) ++ [V.int ((lastF ss : Nat) : Int)] := by
          have h3 : (szV ss).take ((ss.length - 1) + 1) = szV ss := List.take_of_length_le (by omega)
          rw [List.take_add_one, h1] at h3
          exact h3.symm
        rw [h2]
        exact atI_last _ _
      obtain ⟨s2, s8⟩ := L.sz (ss.length - 1) (by omega)
      have s2 : 2 ≤ lastF ss := s2
      have s8 : lastF ss ≤ 8 := s8
      refine x_tup (by simp) fun p14 H14 n14 e14 h14 => x_ixT (ex_t e14 hP13) hlast (x_mulT h14 (by omega) (by omega) fun p15 H15 e15 h15 => x_tup (by simp) fun p16 H16 n16 e16 h16 => ?_)
      have e1316 := e14.trans (e15.trans e16)
      refine x_catT (ex_t e1316 (SqT.of h13)) (SqT.of h16) (by rw [List.length_take]; simp; omega) fun p17 H17 e17 h17 => ?_
      have e17 : Ex H16 H17 := e17
      have e1317 := e1316.trans e17
      walk_at "run"
      refine x_tup (by simp) fun p18 H18 n18 e18 h18 => x_ixT (ex_t (e1317.trans e18) hP13) hlast ?_
      walk_at "run"
      rw [show ((lastF ss : Nat) : Int) - 1 = ((lastF ss - 1 : Nat) : Int) by omega]
      refine x_mulT h18 (by omega) (by omega) fun p19 H19 e19 h19 => x_tup (by simp) fun p20 H20 n20 e20 h20 => ?_
      refine x_catT (ex_t e20 (SqT.of h19)) (SqT.of h20) (by rw [List.length_replicate]; simp; omega) fun p21 H21 e21 h21 => ?_
      have e21 : Ex H20 H21 := e21
      refine x_tup (by simp) fun p22 H22 n22 e22 h22 => ?_
      have e1722 := e18.trans (e19.trans (e20.trans (e21.trans e22)))
      refine x_catT (ex_t (e1317.trans e1722) (SqT.of h13)) (SqT.of h22) (by rw [List.length_take]; simp; omega) fun p23 H23 e23 h23 => ?_
      have e23 : Ex H22 H23 := e23
      walk_at "run"
      refine x_tup (by simp) fun p24 H24 n24 e24 h24 => x_tup (by simp) fun p25 H25 n25 e25 h25 => ?_
      have e1325 := e1317.trans (e1722.trans (e23.trans (e24.trans e25)))
      refine x_lenT (ex_t e1325 hP13) ?_
      rw [hzl]
      refine x_mulT h25 (by omega) (by omega) fun p26 H26 e26 h26 => x_tup (by simp) fun p27 H27 n27 e27 h27 => ?_
      walk_at "run"
      have e2627 := e26.trans e27
      have e1327 := e1325.trans e2627
      have hO : NetAt K H27 (.ref p17) (netO ss) := by
        have e1727 := e1722.trans (e23.trans (e24.trans (e25.trans e2627)))
        refine Dp.tup (ex_t e1727 h17) ?_
        unfold netO
        rw [List.map_append]
        refine DpAll.append (DpAll.ex e1327 hhd) (.cons (StAt.of ?_) .nil)
        rw [List.map_replicate]
        exact ex_t (e16.trans (e17.trans e1727)) (SqT.of h15)
      have hT2 : NetAt K H27 (.ref p23) (netT ss) := by
        have e2327 := e24.trans (e25.trans e2627)
        refine Dp.tup (ex_t e2327 h23) ?_
        unfold netT
        rw [List.map_append]
        refine DpAll.append (DpAll.ex e1327 hhd) (.cons (StAt.of ?_) .nil)
        rw [List.map_append, List.map_replicate]
        exact ex_t (e22.trans (e23.trans e2327)) h21
      have hSt : Dp K H27 (.ref p27) (stateD 1 (q0 ss)) := by
        refine .tup (SqT.of h27) (.cons (.int 1) (.cons (.tup (SqT.of (e27 _ _ h26)) ?_) .nil))
        unfold q0
        rw [List.map_replicate]
        exact dpAll_rep17 (.tup (SqT.of ((e25.trans e2627) _ _ h24)) .nil) _
      have lO : (netO ss).length = ss.length := by unfold netO; rw [List.length_append, headF_len]; simp; omega
      have lT : (netT ss).length = ss.length := by unfold netT; rw [List.length_append, headF_len]; simp; omega
      have NO : NS K H27 (.ref p17) (.ref p27) (netO ss) 1 (q0 ss) := ⟨hO, L.vO, by omega, hSt, q0_ok lO fun s hs => (L.vO.cnt.st s hs).1⟩
      have NT : NS K H27 (.ref p23) (.ref p27) (netT ss) 1 (q0 ss) := ⟨hT2, L.vT, by omega, hSt, q0_ok lT fun s hs => (L.vT.cnt.st s hs).1⟩
      have hd1 := L.d1
      have hd2 := L.d2
      have eF : Ex H9 H27 := e11.trans (e1113.trans e1327)
      refine ⟨_, _, _, _, _, _, _, _, _, _, 2000, rfl, NO, NT, by omega, fun H28 e28 => ?_⟩
      rw [L.hit 2000 (by omega), show fdV (some ((dueF ss ss.length).toNat - 1)) = .int (dueF ss ss.length) from congrArg V.int (by omega)]
      walk_at "run"
      rw [if_neg (by simp), show dueF ss ss.length - 1 = (((dueF ss ss.length).toNat - 1 : Nat) : Int) by omega]
      refine ⟨_, _, _, _, _, _, _, _, _, _, _, rfl, NO.tx (TX.of e28), NT.tx (TX.of e28), by omega, fun H29 e29 => ?_⟩
      rw [L.miss]
      show (if (!decide (V.non = V.non)) = true then _ else _)
      rw [if_neg (by simp)]
      refine ⟨_, _, _, _, _, _, _, _, _, _, 2000, rfl, NT.tx (TX.of (e28.trans e29)), NT.tx (TX.of (e28.trans e29)), by omega, fun H30 e30 => ?_⟩
      rw [fdW_self]
      show Q (.bl (decide (V.non = V.non))) H30
      rw [decide_eq_true rfl]
      have e1130 := e1113.trans (e1327.trans (e28.trans (e29.trans e30)))
      exact q9 H30 (g11.ex e1130) (e11.trans e1130)
end
end K
set_option Elab.async false
set_option linter.all false
set_option maxRecDepth 100000
set_option maxHeartbeats 1000000
set_option exponentiation.threshold 20000
namespace K
open PySem PySem.Spec PyProof.Rows L2 Evl FB
local macro_rules | `(tactic| walk_at "run") => `(tactic| try simp only [tSeq, tAsg, tVar, tC, gName, L2.start, List.map_cons, List.map_nil, List.cons_append, List.nil_append, List.length_cons, List.length_nil, List.replicate, List.getElem?_cons_zero, List.getElem?_cons_succ, Option.some.injEq, exists_eq_left', List.set_cons_zero, List.set_cons_succ, V.ref.injEq, tRet, x_tLst, x_tTup, tCons, tCB, tNil, tOp, x_addI, x_mulI, x_rI, x_rI0, x_ltI, x_leI, x_ltS, x_leS, x_eqI, x_neI, x_eqS, x_eqB, x_neB, x_isiI, x_isiS, x_int, x_max, x_min, cxOf, tIfS, tNext, tTest, V.bl.injEq, decide_eq_true_eq, gSub, tAnd, tOr, tNot, tB, tDrop, tBM, x_tFor, iRng1, iList, iTup, x_tLc, tYes, tCall, tIf, tAndV, tOrV, tNotV, tChain, List.append_nil, tUn, if_true, wipe, true_and, x_never, iU, x_itS, kV, Nat.reduceAdd, Nat.reduceSub, List.replicate_zero, x_rU, x_tMkO, iEnumT, x_tDc, x_tDGet, x_tDGet2, x_sDPut, x_tDSetd, x_tDNewK, x_iItems, x_iZip, x_tSAddK, x_tLockV, x_tTupRg, x_tRg2, tPar, tPar3, tBM0, tSl, tNoPart, tPart, x_tSetAdd, x_tDIn, x_iKeys, x_iZipX, tWhile, x_iZip3, iRevR, tRg1])
/-! the law's five lambdas -/
open LamX NdefX
def forB : Stmt → List Stmt
  | .For _ _ b _ _ => b
  | _ => []
def nthS (l : List Stmt) (i : Nat) : Stmt := l.getD i (.Pass ⟨0, 0, 0, 0⟩)
def asgV : Stmt → Expr
  | .Assign _ v _ => v
  | _ => .Name "" ⟨0, 0, 0, 0⟩
def lstE : Expr → List Expr
  | .List es _ => es
  | _ => []
def argE : Stmt → List Expr
  | .Expr (.Call _ as _ _) _ => as
  | _ => []
def lamP : Expr → Arguments
  | .Lambda p _ _ _ => p
  | _ => ⟨[], [], none, [], [], none, []⟩
def lamB : Expr → Expr
  | .Lambda _ b _ _ => b
  | e => e
def lamS : Expr → Scope
  | .Lambda _ _ s _ => s
  | _ => { kind := .function, names := [], isGenerator := false, isCoroutine := false }
abbrev s_law : Stmt := top 47
abbrev lawN : List Str := ["_law_script", "_law_h", "_law_k", "_law_j", "_law_seats", "_law_other", "_law_queues", "_law_then", "_law_count", "_law_one", "_law_two", "_law_apart", "_law_due", "_law_works", "_law_bad", "_law_network_here", "_law_none", "_law_state_here", "_law_turn", "_law_time", "_law_call"]
theorem sc_law : FnScope ["_law_script", "_law_h", "_law_k", "_law_j", "_law_seats", "_law_other", "_law_queues", "_law_then", "_law_count", "_law_one", "_law_two", "_law_apart", "_law_due", "_law_works", "_law_bad", "_law_network_here", "_law_none", "_law_state_here", "_law_turn", "_law_time", "_law_call"] ["_law_script"] (defScope s_law) := ⟨rfl, rfl, rfl, by decide +kernel, rfl, by decide +kernel, by decide +kernel⟩
def loopB : List Stmt := forB (nthS (defBody s_law) 2)
def lamX (i : Nat) : Expr := (match i with
  | 0 => (lstE (asgV (nthS loopB 14))).getD 0 (.Name "" ⟨0, 0, 0, 0⟩)
  | 1 => (lstE (asgV (nthS loopB 14))).getD 1 (.Name "" ⟨0, 0, 0, 0⟩)
  | 2 => (argE (nthS loopB 15)).getD 0 (.Name "" ⟨0, 0, 0, 0⟩)
  | 3 => (argE (nthS loopB 16)).getD 0 (.Name "" ⟨0, 0, 0, 0⟩)
  | _ => (argE (nthS loopB 17)).getD 0 (.Name "" ⟨0, 0, 0, 0⟩))
section
variable {P : Program} {w : World} {K : PySem.W.Frag} {mg : Str → Option Value} {base : Heap}
abbrev lawX (P : Program) (w : World) (K : PySem.W.Frag) (mg : Str → Option Value) (base : Heap) (f c : Addr) (A : Around) (outer : List Env) (s : Shared) (H : Hp) (E : XK) : Cx := (cxOf CX0 P w K mg base lawN "law" (defScope s_law) f (.ref c) A outer s H E).nox
def tNeg1 : TE := tUn (rU fun i => .int (-i)) (tC (.int 1))
def tLast (K : PySem.W.Frag) (j : Nat) : TE := tOp (rIx K) (tLst (tCons tNeg1 (tCons (tC (.int 2001)) tNil))) (tOp (rI (fun _ j => j ≠ 0) fun i j => .int (i.fmod j)) (tVar j) (tC (.int 2)))
def LKof (K : PySem.W.Frag) (C0 C1 C2 : Addr) (Y : Cx) : Nat → LamI
  | 0 => ⟨Y.env.qual ++ "<lambda>", lamP (lamX 0), lamB (lamX 0), lamS (lamX 0), cloFrom Y.env.cells (lamS (lamX 0)).names [], none, [], ["_law_bad", "_law_none"], [14, 16], fun E => tCall (spFDX K C0 C1 C2) [] E (tCons (tVar 0) (tCons (tVar 1) (tCons (tVar 0) (tCons (tVar 1) (tCons tNeg1 tNil)))))⟩
  | 1 => ⟨Y.env.qual ++ "<lambda>", lamP (lamX 1), lamB (lamX 1), lamS (lamX 1), cloFrom Y.env.cells (lamS (lamX 1)).names [], some 0, ["_law_a"], ["_law_bad", "_law_network_here", "_law_none"], [14, 15, 16], fun E => tCall (spFDX K C0 C1 C2) [] E (tCons (tVar 2) (tCons (tVar 3) (tCons (tVar 1) (tCons (tVar 3) (tCons tNeg1 tNil)))))⟩
  | 2 => ⟨Y.env.qual ++ "<lambda>", lamP (lamX 2), lamB (lamX 2), lamS (lamX 2), cloFrom Y.env.cells (lamS (lamX 2)).names [], none, [], ["_law_bad", "_law_network_here", "_law_none", "_law_state_here"], [14, 15, 16, 17], fun E => tCall (spFDX K C0 C1 C2) [] E (tCons (tVar 1) (tCons (tVar 3) (tCons (tVar 0) (tCons (tVar 2) (tCons tNeg1 tNil)))))⟩
  | 3 => ⟨Y.env.qual ++ "<lambda>", lamP (lamX 3), lamB (lamX 3), lamS (lamX 3), cloFrom Y.env.cells (lamS (lamX 3)).names [], none, [], ["_law_network_here", "_law_none", "_law_state_here"], [15, 16, 17], fun E => tCall (spFDX K C0 C1 C2) [] E (tCons (tVar 0) (tCons (tVar 2) (tCons (tVar 0) (tCons (tVar 1) (tCons tNeg1 tNil)))))⟩
  | _ + 4 => ⟨Y.env.qual ++ "<lambda>", lamP (lamX 4), lamB (lamX 4), lamS (lamX 4), cloFrom Y.env.cells (lamS (lamX 4)).names [], none, [], ["_law_network_here", "_law_state_here", "_law_turn"], [15, 17, 18], fun E => tCall (spFDX K C0 C1 C2) [] E (tCons (tVar 0) (tCons (tVar 1) (tCons (tVar 0) (tCons (tVar 1) (tCons (tLast K 2) tNil)))))⟩
theorem ok_K {f c f1 C0 C1 C2 : Addr} {fd1 : FuncData} {A : Around} {outer : List Env} {s : Shared} {H : Hp} {E : XK} (D_fd : Df K mg "first_difference" s_first_difference ["network", "state", "other_network", "other_state", "count"] f1 fd1)
    (G_fd : FnOk P w K mg base (L2.CX P w) 19 f1 fd1 ["network", "state", "other_network", "other_state", "count"] (spFDX K C0 C1 C2)) :
    ∀ j, (LKof K C0 C1 C2 (lawX P w K mg base f c A outer s H E) j).Ok (lawX P w K mg base f c A outer s H E) 19
  | 0 => ⟨nscope_by (show nscB ["_law_bad", "_law_none"] [] ["_law_bad", "_law_none"] (lamS (lamX 0)) = true by decide +kernel),
      fun ok => Caps.made ok (show ∀ y ∈ (lamS (lamX 0)).names, y.2 = .free → (defScope s_law).names.lookup y.1 = some .cell ∨ (defScope s_law).names.lookup y.1 = some .free from by decide +kernel) (show ∀ y ∈ (["_law_bad", "_law_none"] : List Str), (y, NameKind.free) ∈ (lamS (lamX 0)).names from by decide +kernel) rfl, rfl, ⟨rfl, fun _ _ _ _ => rfl⟩,
      fun A outer s H E f c' dv hr => by
        show PE _ (lamB (lamX 0)) (tCall (spFDX K C0 C1 C2) [] E (tCons (tVar 0) (tCons (tVar 1) (tCons (tVar 0) (tCons (tVar 1) (tCons tNeg1 tNil))))))
        exact (pe_call G_fd (hr.mono (by decide)) rfl D_fd.g D_fd.F.kp D_fd.b .nil (passes_call (takes_of rfl rfl rfl rfl) fun _ _ _ _ h => h) (pa_cons (pv 0) (pa_cons (pv 1) (pa_cons (pv 0) (pa_cons (pv 1) (pa_cons (pe_un un_neg pe_int) pa_nil))))))⟩
  | 1 => ⟨nscope_by (show nscB ["_law_a", "_law_bad", "_law_network_here", "_law_none"] ["_law_a"] ["_law_bad", "_law_network_here", "_law_none"] (lamS (lamX 1)) = true by decide +kernel),
      fun ok => Caps.made ok (show ∀ y ∈ (lamS (lamX 1)).names, y.2 = .free → (defScope s_law).names.lookup y.1 = some .cell ∨ (defScope s_law).names.lookup y.1 = some .free from by decide +kernel) (show ∀ y ∈ (["_law_bad", "_law_network_here", "_law_none"] : List Str), (y, NameKind.free) ∈ (lamS (lamX 1)).names from by decide +kernel) rfl, rfl, ⟨_, rfl, fun _ _ _ _ _ _ => ⟨_, rfl, rfl⟩⟩,
      fun A outer s H E f c' dv hr => by
        show PE _ (lamB (lamX 1)) (tCall (spFDX K C0 C1 C2) [] E (tCons (tVar 2) (tCons (tVar 3) (tCons (tVar 1) (tCons (tVar 3) (tCons tNeg1 tNil))))))
        exact (pe_call G_fd (hr.mono (by decide)) rfl D_fd.g D_fd.F.kp D_fd.b .nil (passes_call (takes_of rfl rfl rfl rfl) fun _ _ _ _ h => h) (pa_cons (pv 2) (pa_cons (pv 3) (pa_cons (pv 1) (pa_cons (pv 3) (pa_cons (pe_un un_neg pe_int) pa_nil))))))⟩
  | 2 => ⟨nscope_by (show nscB ["_law_bad", "_law_network_here", "_law_none", "_law_state_here"] [] ["_law_bad", "_law_network_here", "_law_none", "_law_state_here"] (lamS (lamX 2)) = true by decide +kernel),
      fun ok => Caps.made ok (show ∀ y ∈ (lamS (lamX 2)).names, y.2 = .free → (defScope s_law).names.lookup y.1 = some .cell ∨ (defScope s_law).names.lookup y.1 = some .free from by decide +kernel) (show ∀ y ∈ (["_law_bad", "_law_network_here", "_law_none", "_law_state_here"] : List Str), (y, NameKind.free) ∈ (lamS (lamX 2)).names from by decide +kernel) rfl, rfl, ⟨rfl, fun _ _ _ _ => rfl⟩,
      fun A outer s H E f c' dv hr => by
        show PE _ (lamB (lamX 2)) (tCall (spFDX K C0 C1 C2) [] E (tCons (tVar 1) (tCons (tVar 3) (tCons (tVar 0) (tCons (tVar 2) (tCons tNeg1 tNil))))))
        exact (pe_call G_fd (hr.mono (by decide)) rfl D_fd.g D_fd.F.kp D_fd.b .nil (passes_call (takes_of rfl rfl rfl rfl) fun _ _ _ _ h => h) (pa_cons (pv 1) (pa_cons (pv 3) (pa_cons (pv 0) (pa_cons (pv 2) (pa_cons (pe_un un_neg pe_int) pa_nil))))))⟩
  | 3 => ⟨nscope_by (show nscB ["_law_network_here", "_law_none", "_law_state_here"] [] ["_law_network_here", "_law_none", "_law_state_here"] (lamS (lamX 3)) = true by decide +kernel),
      fun ok => Caps.made ok (show ∀ y ∈ (lamS (lamX 3)).names, y.2 = .free → (defScope s_law).names.lookup y.1 = some .cell ∨ (defScope s_law).names.lookup y.1 = some .free from by decide +kernel) (show ∀ y ∈ (["_law_network_here", "_law_none", "_law_state_here"] : List Str), (y, NameKind.free) ∈ (lamS (lamX 3)).names from by decide +kernel) rfl, rfl, ⟨rfl, fun _ _ _ _ => rfl⟩,
      fun A outer s H E f c' dv hr => by
        show PE _ (lamB (lamX 3)) (tCall (spFDX K C0 C1 C2) [] E (tCons (tVar 0) (tCons (tVar 2) (tCons (tVar 0) (tCons (tVar 1) (tCons tNeg1 tNil))))))
        exact (pe_call G_fd (hr.mono (by decide)) rfl D_fd.g D_fd.F.kp D_fd.b .nil (passes_call (takes_of rfl rfl rfl rfl) fun _ _ _ _ h => h) (pa_cons (pv 0) (pa_cons (pv 2) (pa_cons (pv 0) (pa_cons (pv 1) (pa_cons (pe_un un_neg pe_int) pa_nil))))))⟩
  | _ + 4 => ⟨nscope_by (show nscB ["_law_network_here", "_law_state_here", "_law_turn"] [] ["_law_network_here", "_law_state_here", "_law_turn"] (lamS (lamX 4)) = true by decide +kernel),
      fun ok => Caps.made ok (show ∀ y ∈ (lamS (lamX 4)).names, y.2 = .free → (defScope s_law).names.lookup y.1 = some .cell ∨ (defScope s_law).names.lookup y.1 = some .free from by decide +kernel) (show ∀ y ∈ (["_law_network_here", "_law_state_here", "_law_turn"] : List Str), (y, NameKind.free) ∈ (lamS (lamX 4)).names from by decide +kernel) rfl, rfl, ⟨rfl, fun _ _ _ _ => rfl⟩,
      fun A outer s H E f c' dv hr => by
        show PE _ (lamB (lamX 4)) (tCall (spFDX K C0 C1 C2) [] E (tCons (tVar 0) (tCons (tVar 1) (tCons (tVar 0) (tCons (tVar 1) (tCons (tLast K 2) tNil))))))
        exact (pe_call G_fd (hr.mono (by decide)) rfl D_fd.g D_fd.F.kp D_fd.b .nil (passes_call (takes_of rfl rfl rfl rfl) fun _ _ _ _ h => h) (pa_cons (pv 0) (pa_cons (pv 1) (pa_cons (pv 0) (pa_cons (pv 1) (pa_cons (pe_ix (ix_U (K := K)) (pe_lst (pa_cons (pe_un un_neg pe_int) (pa_cons pe_int pa_nil))) (pe_op op_modN (pv 2) pe_int) (fun _ _ => rfl)) pa_nil))))))⟩
end
section
variable {P : Program} {w : World} {K : PySem.W.Frag} {mg : Str → Option Value} {base : Heap}
def badN : Net := [[.inr "A"]]
theorem badN_bad : firstBad badN = some (0, 0) := by decide +kernel
theorem badN_sm : SmN badN := by
  refine ⟨by decide, fun s hs => ?_⟩
  have hs : s = [.inr "A"] := List.mem_singleton.mp hs
  subst hs
  refine ⟨by decide, fun p hp z e => ?_⟩
  have hp : p = .inr "A" := List.mem_singleton.mp hp
  rw [e] at hp
  cases hp
  decide +kernel
def errD : Nat → PyData
  | 0 => .tuple [.str "network", .int 0, .int 0]
  | 1 => .tuple [.str "state"]
  | 2 => .tuple [.str "network", .int 0, .int 0]
  | 3 => .tuple [.str "state"]
  | _ + 4 => .tuple [.str "count"]
theorem err17 {C0 C1 C2 : Addr} {C : Nat → Addr} {Y : Cx} {σ0 : L2.St} {H3 : Hp} {Q3 : VK} {vb v vn u : V} {m : Int} {N : Net} {p : Int} {qs : Qs} (hC0 : C 0 = C0) (hC1 : C 1 = C1) (hC2 : C 2 = C2)
    (h14 : NdefX.slotAt σ0 14 = some vb) (h15 : NdefX.slotAt σ0 15 = some v) (h16 : NdefX.slotAt σ0 16 = some vn) (h17 : NdefX.slotAt σ0 17 = some u) (h18 : NdefX.slotAt σ0 18 = some (.int m))
    (hS : NS K H3 v u N p qs) (hb : NetAt K H3 vb badN) (hn : Dp K H3 vn nonS) : ∀ j, (∀ H' x, Ex H3 H' → Dp K H' x (errD j) → Q3 x H') → TErr C ((LKof K C0 C1 C2 Y j).tl σ0) H3 Q3 := by
  have bad : (∀ H' x, Ex H3 H' → Dp K H' x (errD 0) → Q3 x H') → ∀ d H', Ex H3 H' → H3 d = none → H' d = some (.xd [("seat", .int 0), ("station", .int 0)]) → ∃ (i : Nat) (st se : V), i < 13 ∧ ErrIs C i st se (.ref C0) (some d) H' ∧ ∀ p H'', Ex H' H'' → H'' p = some (.tup (errTell i st se)) → Q3 (.ref p) H'' := fun hk d H' e _ hd =>
    ⟨0, .int 0, .int 0, by decide, ⟨by rw [hC0], by rw [if_pos rfl]; exact ⟨d, rfl, hd⟩⟩, fun p H'' e2 hp => hk _ _ (e.trans e2) (.tup (SqT.of hp) (.cons (.str "network") (.cons (.int 0) (.cons (.int 0) .nil))))⟩
  have sta : (∀ H' x, Ex H3 H' → Dp K H' x (errD 1) → Q3 x H') → ∀ H', Ex H3 H' → ∃ (i : Nat) (st se : V), i < 13 ∧ ErrIs C i st se (.ref C1) none H' ∧ ∀ p H'', Ex H' H'' → H'' p = some (.tup (errTell i st se)) → Q3 (.ref p) H'' := fun hk H' e =>
    ⟨1, .non, .non, by decide, ⟨by rw [hC1], by rw [if_neg (by decide)]⟩, fun p H'' e2 hp => hk _ _ (e.trans e2) (.tup (SqT.of hp) (.cons (.str "state") .nil))⟩
  have cnt : (∀ H' x, Ex H3 H' → Dp K H' x (errD 4) → Q3 x H') → ∀ H', Ex H3 H' → ∃ (i : Nat) (st se : V), i < 13 ∧ ErrIs C i st se (.ref C2) none H' ∧ ∀ p H'', Ex H' H'' → H'' p = some (.tup (errTell i st se)) → Q3 (.ref p) H'' := fun hk H' e =>
    ⟨2, .non, .non, by decide, ⟨by rw [hC2], by rw [if_neg (by decide)]⟩, fun p H'' e2 hp => hk _ _ (e.trans e2) (.tup (SqT.of hp) (.cons (.str "count") .nil))⟩
  intro j hk
  match j, hk with
  | 0, hk =>
    show tCall (spFDX K C0 C1 C2) [] _ (tCons (tVar 0) (tCons (tVar 1) (tCons (tVar 0) (tCons (tVar 1) (tCons tNeg1 tNil))))) (NdefX.startF ["_law_bad", "_law_none"] [] [NdefX.slotAt σ0 14, NdefX.slotAt σ0 16]) H3 _
    rw [h14, h16]
    exact ⟨vb, rfl, vn, rfl, vb, rfl, vn, rfl, 1, rfl, vb, vn, vb, vn, -1, rfl, .inl (.inl ⟨vb, vn, badN, 0, 0, rfl, hb, badN_sm, badN_bad, bad hk⟩)⟩
  | 1, hk =>
    show tCall (spFDX K C0 C1 C2) [] _ (tCons (tVar 2) (tCons (tVar 3) (tCons (tVar 1) (tCons (tVar 3) (tCons tNeg1 tNil))))) (NdefX.startF ["_law_a", "_law_bad", "_law_network_here", "_law_none"] [.int 0] [NdefX.slotAt σ0 14, NdefX.slotAt σ0 15, NdefX.slotAt σ0 16]) H3 _
    rw [h14, h15, h16]
    exact ⟨v, rfl, vn, rfl, vb, rfl, vn, rfl, 1, rfl, v, vn, vb, vn, -1, rfl, .inl (.inr ⟨v, vn, N, rfl, hS.net, hS.val, hn, sta hk⟩)⟩
  | 2, hk =>
    show tCall (spFDX K C0 C1 C2) [] _ (tCons (tVar 1) (tCons (tVar 3) (tCons (tVar 0) (tCons (tVar 2) (tCons tNeg1 tNil))))) (NdefX.startF ["_law_bad", "_law_network_here", "_law_none", "_law_state_here"] [] [NdefX.slotAt σ0 14, NdefX.slotAt σ0 15, NdefX.slotAt σ0 16, NdefX.slotAt σ0 17]) H3 _
    rw [h14, h15, h16, h17]
    exact ⟨v, rfl, u, rfl, vb, rfl, vn, rfl, 1, rfl, v, u, vb, vn, -1, rfl, .inr ⟨N, p, qs, hS, .inl (.inl ⟨vb, vn, badN, 0, 0, rfl, hb, badN_sm, badN_bad, bad hk⟩)⟩⟩
  | 3, hk =>
    show tCall (spFDX K C0 C1 C2) [] _ (tCons (tVar 0) (tCons (tVar 2) (tCons (tVar 0) (tCons (tVar 1) (tCons tNeg1 tNil))))) (NdefX.startF ["_law_network_here", "_law_none", "_law_state_here"] [] [NdefX.slotAt σ0 15, NdefX.slotAt σ0 16, NdefX.slotAt σ0 17]) H3 _
    rw [h15, h16, h17]
    exact ⟨v, rfl, u, rfl, v, rfl, vn, rfl, 1, rfl, v, u, v, vn, -1, rfl, .inr ⟨N, p, qs, hS, .inl (.inr ⟨v, vn, N, rfl, hS.net, hS.val, hn, sta hk⟩)⟩⟩
  | j + 4, hk =>
    show tCall (spFDX K C0 C1 C2) [] _ (tCons (tVar 0) (tCons (tVar 1) (tCons (tVar 0) (tCons (tVar 1) (tCons (tLast K 2) tNil))))) (NdefX.startF ["_law_network_here", "_law_state_here", "_law_turn"] [] [NdefX.slotAt σ0 15, NdefX.slotAt σ0 17, NdefX.slotAt σ0 18]) H3 _
    rw [h15, h17, h18]
    refine ⟨v, rfl, u, rfl, v, rfl, u, rfl, 1, rfl, ?_⟩
    dsimp only [tCons, tC, tNil]
    refine ⟨small (by simp), fun M nM => ?_⟩
    have e4 : Ex H3 (upd H3 M (.lst [V.int (-1), V.int 2001])) := Ex.new nM
    have hM : upd H3 M (.lst [V.int (-1), V.int 2001]) M = some (.lst [V.int (-1), V.int 2001]) := upd_same
    generalize upd H3 M (.lst [V.int (-1), V.int 2001]) = H4 at *
    refine ⟨.int m, rfl, m, 2, rfl, rfl, (show (2 : Int) ≠ 0 by decide), ?_⟩
    have hm : m.fmod 2 = 0 ∨ m.fmod 2 = 1 := by
      rw [Int.fmod_eq_emod_of_nonneg _ (by decide)]; omega
    show rIx K (.ref M) (.int (m.fmod 2)) H4 _
    have run : ∀ c : Int, ¬ (0 ≤ c ∧ c ≤ 2000) → spFDX K C0 C1 C2 [v, u, v, u, .int c] H4 (fun _ H' => rTup [.str "none"] H' Q3) (fun cls d H' => ∃ (i : Nat) (st se : V), i < 13 ∧ ErrIs C i st se cls d H' ∧ ∀ p H'', Ex H' H'' → H'' p = some (.tup (errTell i st se)) → Q3 (.ref p) H'') := fun c hc =>
      ⟨v, u, v, u, c, rfl, .inr ⟨N, p, qs, hS.tx (TX.of e4), .inr ⟨N, p, qs, hS.tx (TX.of e4), hc, fun H' e => cnt hk H' (e4.trans e)⟩⟩⟩
    rcases hm with h | h
    · rw [h]
      exact x_ixL (SqL.of hM) (v := .int (-1)) rfl (run (-1) (by decide))
    · rw [h]
      exact x_ixL (SqL.of hM) (v := .int 2001) rfl (run 2001 (by decide))
end
section
theorem at_but {L : LamI} {H H' : Hp} {f c' p : Addr} {dv : Option Addr} {xs : List V} (h : L.at_ H f c' dv) (hp : H p = some (.lst xs)) (e : ∀ x o, x ≠ p → H x = some o → H' x = some o) : L.at_ H' f c' dv := by
  have ne : ∀ (x : Addr) (o : HO), H x = some o → o ≠ .lst xs → x ≠ p := fun x o hx hn z => hn (by rw [z, hp] at hx; exact (Option.some.inj hx).symm)
  obtain ⟨h1, h2, h3⟩ := h
  refine ⟨e _ _ (ne _ _ h1 fun z => by unfold LamO at z; cases z) h1, e _ _ (ne _ _ h2 fun z => by unfold CodeO at z; cases z) h2, ?_⟩
  cases hd : L.d with
  | none =>
    rw [hd] at h3
    exact h3
  | some d =>
    rw [hd] at h3
    obtain ⟨t, rfl, ht⟩ := h3
    exact ⟨t, rfl, e _ _ (ne _ _ ht fun z => by cases z) ht⟩
theorem tabs_but {T : List (Addr × Str)} {H H' : Hp} {p : Addr} {xs : List V} (hp : H p = some (.lst xs)) (t : Tabs T H) (e : ∀ x o, x ≠ p → H x = some o → H' x = some o) : Tabs T H' := tabs_ex2 hp hp t fun x o h n _ => e x o n h
end
end K
set_option Elab.async false
set_option linter.all false
set_option maxRecDepth 100000
set_option maxHeartbeats 1000000
set_option exponentiation.threshold 20000
namespace K
open PySem PySem.Spec PyProof.Rows L2 Evl FB
local macro_rules | `(tactic| walk_at "run") => `(tactic| try simp only [tSeq, tAsg, tVar, tC, gName, L2.start, List.map_cons, List.map_nil, List.cons_append, List.nil_append, List.length_cons, List.length_nil, List.replicate, List.getElem?_cons_zero, List.getElem?_cons_succ, Option.some.injEq, exists_eq_left', List.set_cons_zero, List.set_cons_succ, V.ref.injEq, tRet, x_tLst, x_tTup, tCons, tCB, tNil, tOp, x_addI, x_mulI, x_rI, x_rI0, x_ltI, x_leI, x_ltS, x_leS, x_eqI, x_neI, x_eqS, x_eqB, x_neB, x_isiI, x_isiS, x_int, x_max, x_min, cxOf, tIfS, tNext, tTest, V.bl.injEq, decide_eq_true_eq, gSub, tAnd, tOr, tNot, tB, tDrop, tBM, x_tFor, iRng1, iList, iTup, x_tLc, tYes, tCall, tIf, tAndV, tOrV, tNotV, tChain, List.append_nil, tUn, if_true, wipe, true_and, x_never, iU, x_itS, kV, Nat.reduceAdd, Nat.reduceSub, List.replicate_zero, x_rU, x_tMkO, iEnumT, x_tDc, x_tDGet, x_tDGet2, x_sDPut, x_tDSetd, x_tDNewK, x_iItems, x_iZip, x_tSAddK, x_tLockV, x_tTupRg, x_tRg2, tPar, tPar3, tBM0, tSl, tNoPart, tPart, x_tSetAdd, x_tDIn, x_iKeys, x_iZipX, tWhile, x_iZip3, iRevR, tRg1])
/-! the law -/
open LamX NdefX
section
variable {P : Program} {w : World} {K : PySem.W.Frag} {mg : Str → Option Value} {base : Heap}
def spLawT (K : PySem.W.Frag) (T0 : List (Addr × Str)) : Sp := fun vs H Q _ => ∃ (a : Addr) (ns : List Int), vs = [.ref a] ∧ SqL K H a (ns.map V.int) ∧ ns.length ≤ 63 ∧ Tabs T0 H ∧ ∀ H', Q (.bl true) H'
theorem seq_mid {t1 t2 : TS} {D : Ends} {σ : L2.St} {H : Hp} (G : L2.St → Hp → Prop) (h1 : ∀ R : L2.St → Hp → Prop, (∀ σ' H', G σ' H' → R σ' H') → t1 { D with nx := R } σ H) (h2 : ∀ σ' H', G σ' H' → t2 D σ' H') : tSeq t1 t2 D σ H := h1 _ h2
theorem Drawn.set {N : Net} {most : Int} {k j : Nat} {s : List Key} {z : Key} (D : Drawn N most) (hs : N[k]? = some s) (hj : j < s.length) (hz : PlOk k N.length z) : Drawn (N.set k (s.set j z)) most := by
  have hk : k < N.length := (List.getElem?_eq_some_iff.mp hs).1
  refine ⟨by rw [List.length_set]; exact D.pos, by rw [List.length_set]; exact D.le, fun m q hq => ?_⟩
  rw [List.length_set]
  by_cases e : k = m
  · subst e
    rw [List.getElem?_set_self hk] at hq
    obtain rfl : s.set j z = q := Option.some.inj hq
    obtain ⟨a, b, c⟩ := D.st k s hs
    rw [List.length_set]
    refine ⟨a, b, fun x hx => ?_⟩
    rcases List.mem_or_eq_of_mem_set hx with h | h
    · exact c x h
    · rw [h]; exact hz
  · rw [List.getElem?_set_ne e] at hq
    exact D.st m q hq
theorem StOk.set {N : Net} {p : Int} {qs : Qs} {k j : Nat} {s : List Key} {z : Key} (h : StOk N p qs) (hs : N[k]? = some s) : StOk (N.set k (s.set j z)) p qs := by
  have hk : k < N.length := (List.getElem?_eq_some_iff.mp hs).1
  refine ⟨h.pos, by rw [List.length_set]; exact h.len, fun m q r hq hr => ?_, h.nd, h.rng⟩
  by_cases e : k = m
  · subst e
    rw [List.getElem?_set_self hk] at hr
    obtain rfl : s.set j z = r := Option.some.inj hr
    rw [List.length_set]
    exact h.lt k q s hq hs
  · rw [List.getElem?_set_ne e] at hr
    exact h.lt m q r hq hr
theorem StOk.next {N : Net} {p : Int} {qs : Qs} (h : StOk N p qs) : StOk N (p + 1) qs :=
  ⟨by have := h.pos; omega, h.len, h.lt, h.nd, fun x hx => by have := h.rng x hx; omega⟩
theorem cut3 {α : Type} {l : List α} {k : Nat} {x : α} (h : l[k]? = some x) : l.take k ++ [x] ++ l.drop (k + 1) = l := by
  have hk := (List.getElem?_eq_some_iff.mp h).1
  have : l.take (k + 1) = l.take k ++ [x] := by rw [List.take_add_one, h]; rfl
  rw [← this, List.take_append_drop]
theorem set3 {α : Type} {l : List α} {k : Nat} {x : α} (h : k < l.length) : l.set k x = l.take k ++ [x] ++ l.drop (k + 1) := by
  rw [List.set_eq_take_append_cons_drop, if_pos h]; simp
theorem StOk.drop {N : Net} {p : Int} {qs : Qs} {k : Nat} {q : List Int} (h : StOk N p qs) (hq : qs[k]? = some q) : StOk N p (qs.set k (q.drop 1)) := by
  have hk : k < qs.length := (List.getElem?_eq_some_iff.mp hq).1
  have sub : (qs.set k (q.drop 1)).flatten.Sublist qs.flatten := by
    rw [set3 hk]
    conv => rhs; rw [← cut3 hq]
    simp only [List.flatten_append, List.flatten_singleton]
    exact ((List.Sublist.refl _).append (List.drop_sublist _ _)).append (List.Sublist.refl _)
  refine ⟨h.pos, by rw [List.length_set]; exact h.len, fun m r s hr hs => ?_, h.nd.sublist sub, fun x hx => h.rng x (sub.subset hx)⟩
  by_cases e : k = m
  · subst e
    rw [List.getElem?_set_self hk] at hr
    obtain rfl : q.drop 1 = r := Option.some.inj hr
    have := h.lt k q s hq hs
    rw [List.length_drop]; omega
  · rw [List.getElem?_set_ne e] at hr
    exact h.lt m r s hr hs
def apW (N : Net) (qs : Qs) (p : Int) (N' : Net) (qs' : Qs) (p' : Int) (c : Nat) : List Int := ((List.range c).filter fun t => decide (finT N qs p t ≠ finT N' qs' p' t)).map fun t => ((t + 1 : Nat) : Int)
def fdD : Option Nat → PyData
  | none => .none
  | some t => .int ((t + 1 : Nat) : Int)
theorem fdD_dp {H : Hp} : ∀ o : Option Nat, Dp K H (fdV o) (fdD o)
  | none => .non
  | some t => .int _
theorem fdD_s : ∀ o : Option Nat, SeqAt.shaped (fdD o) = true
  | none => rfl
  | some t => shaped_mk rfl (by unfold fdD; simp [PyData.depth])
theorem fdD_d : ∀ o : Option Nat, (fdD o).depth ≤ 4
  | none => by unfold fdD; simp [PyData.depth]
  | some t => by unfold fdD; simp [PyData.depth]
theorem fdD_m : ∀ o : Option Nat, SmD (fdD o)
  | none => .non
  | some t => .int _
theorem ints_dp17 {H : Hp} : ∀ q : List Int, DpAll K H (q.map V.int) (q.map PyData.int)
  | [] => .nil
  | i :: q => .cons (.int i) (ints_dp17 q)
theorem gen_extN {H H' : Hp} {a b : Addr} (g : Gen H a b) (e : ExtN H H') : Gen H' a b := by
  obtain ⟨m, c, ns, h1, h2, h3⟩ := g
  exact ⟨m, c, ns, e _ _ h1 (fun ps z => nomatch z), e _ _ h2 (fun ps z => nomatch z), h3⟩
/-- what stays while the lambdas are made and called -/
structure PC (K : PySem.W.Frag) (T0 : List (Addr × Str)) (h b na ua c40 c42 : Addr) (N : Net) (p : Int) (qs : Qs) (H : Hp) : Prop where
  ns : NS K H (.ref na) (.ref ua) N p qs
  bad : NetAt K H (.ref c40) badN
  non : Dp K H (.ref c42) nonS
  g : Gen H h b
  t : Tabs T0 H
theorem nonS_t : TupD nonS := .tup fun d hd => by
  simp only [List.mem_cons, List.not_mem_nil, or_false] at hd
  rcases hd with rfl | rfl
  · exact .int _
  · exact .tup fun d hd => by simp at hd
section
variable {T0 : List (Addr × Str)} {h b na ua c40 c42 : Addr} {N : Net} {p : Int} {qs : Qs} {H H' : Hp}
theorem PC.ext (c : PC K T0 h b na ua c40 c42 N p qs H) (e : ExtN H H') (t : Tabs T0 H') : PC K T0 h b na ua c40 c42 N p qs H' :=
  ⟨c.ns.tx (extN_tx e), NetAt.tx (extN_tx e) c.bad, Dp.tx (extN_tx e) c.non nonS_t, gen_extN c.g e, t⟩
theorem PC.ex (c : PC K T0 h b na ua c40 c42 N p qs H) (e : Ex H H') : PC K T0 h b na ua c40 c42 N p qs H' := c.ext (ExtN.of e) (c.t.ext e)
theorem pc_but {wp : Addr} {x : Addr} {r : List V} (c : PC K T0 h b na ua c40 c42 N p qs H) (hw : H wp = some (.lst (.ref x :: r))) (e : ∀ x o, x ≠ wp → H x = some o → H' x = some o) : PC K T0 h b na ua c40 c42 N p qs H' := by
  have t : TX H H' := TX.but hw e
  refine ⟨c.ns.tx t, NetAt.tx t c.bad, Dp.tx t c.non nonS_t, ?_, tabs_but hw c.t e⟩
  obtain ⟨m, cc, ns, h1, h2, h3⟩ := c.g
  refine ⟨m, cc, ns, e _ _ (fun z => ?_) h1, e _ _ (fun z => ?_) h2, h3⟩
  · rw [z, hw] at h1
    cases h1
  · rw [z, hw] at h2
    cases ns with
    | nil => cases h2
    | cons n r => cases h2
end
theorem errN_t : TupD (.tuple [.str "network", .int 0, .int 0]) := .tup fun d hd => by
  simp only [List.mem_cons, List.not_mem_nil, or_false] at hd
  rcases hd with rfl | rfl | rfl
  · exact .str _
  · exact .int _
  · exact .int _
theorem errS_t (z : Str) : TupD (.tuple [.str z]) := .tup fun d hd => by
  rw [List.mem_singleton.mp hd]
  exact .str _
theorem errD_t : ∀ j, TupD (errD j)
  | 0 => errN_t
  | 1 => errS_t _
  | 2 => errN_t
  | 3 => errS_t _
  | _ + 4 => errS_t _
theorem errL_s : SeqAt.shaped (.list ((List.range 5).map errD)) = true := by decide +kernel
theorem ok_law {T0 : List (Addr × Str)} {c Pt CF C0 C1 C2 : Addr} {C : Nat → Addr} {f g1 g2 g3 g4 g5 g6 g7 g8 g9 f1 : Addr} {fd gd1 gd2 gd3 gd4 gd5 gd6 gd7 gd8 gd9 fd1 : FuncData} (F : Fun K "law" "law" s_law f fd) (hc : fd.code = .ref c) (TB : TabB base mg c Pt) (T : Bt mg) (R : Errs K mg CF C) (hC0 : C 0 = C0) (hC1 : C 1 = C1) (hC2 : C 2 = C2)
    (hmT : (Pt, (("law" : Str) ++ (".<locals>." : Str)) ++ ("<lambda>" : Str)) ∈ T0) (huT : ∀ p ∈ T0, p.1 = Pt → p.2 = (("law" : Str) ++ (".<locals>." : Str)) ++ ("<lambda>" : Str))
    (D_l_mix : Df K mg "_law_mix" s_l_mix ["_law_script", "_law_seed"] g1 gd1) (D_l_next : Df K mg "_law_next" s_l_next ["_law_h", "_law_limit"] g2 gd2) (D_l_network : Df K mg "_law_network" s_l_network ["_law_h", "_law_most"] g3 gd3) (D_l_alike : Df K mg "_law_alike" s_l_alike ["_law_found", "_law_due"] g4 gd4)
    (D_l_error : Df K mg "_law_error" s_l_error ["_law_call"] g5 gd5) (D_l_state : Df K mg "_law_state" s_l_state ["_law_h", "_law_network_here", "_law_most"] g6 gd6) (D_l_place : Df K mg "_law_place" s_l_place ["_law_h", "_law_station", "_law_count"] g7 gd7) (D_l_finished : Df K mg "_law_finished" s_l_finished ["_law_network_here", "_law_state_here", "_law_count"] g8 gd8) (D_l_late_right : Df K mg "_law_late_right" s_l_late_right ["_law_h"] g9 gd9)
    (D_first_difference : Df K mg "first_difference" s_first_difference ["network", "state", "other_network", "other_state", "count"] f1 fd1)
    (G_l_network : FnOk P w K mg base CX0 3 g3 gd3 ["_law_h", "_law_most"] (spNetwork K)) (G_l_state : FnOk P w K mg base CX0 18 g6 gd6 ["_law_h", "_law_network_here", "_law_most"] (spStateL K)) (G_l_finished : FnOk P w K mg base CX0 18 g8 gd8 ["_law_network_here", "_law_state_here", "_law_count"] (spFinL K)) (G_l_late_right : FnOk P w K mg base CX0 20 g9 gd9 ["_law_h"] (spLate K))
    (G_first_difference : FnOk P w K mg base CX0 19 f1 fd1 ["network", "state", "other_network", "other_state", "count"] (spFD K)) (X_fd : FnOk P w K mg base (L2.CX P w) 19 f1 fd1 ["network", "state", "other_network", "other_state", "count"] (spFDX K C0 C1 C2)) :
    FnOk P w K mg base CX0 22 f fd ["_law_script"] (spLawT K T0) := by
  have G_l_mix : FnOk P w K mg base CX0 1 g1 gd1 _ _ := ok_l_mix D_l_mix T
  have G_l_next : FnOk P w K mg base CX0 1 g2 gd2 _ _ := ok_l_next D_l_next T
  have G_l_alike : FnOk P w K mg base CX0 5 g4 gd4 _ _ := ok_l_alike D_l_alike T 5
  have G_l_place : FnOk P w K mg base CX0 2 g7 gd7 _ _ := ok_l_place D_l_place T D_l_next
  refine okC F hc sc_law (fun vs H Q E h => ?_) (fun A outer s H vs Q E hr h => ?_)
  · obtain ⟨a, ns, rfl, _⟩ := h
    rfl
  · obtain ⟨a, ns, rfl, hS, hl, hT0, q⟩ := h
    have hu := hr.units
    have okK := ok_K (f := f) (c := c) (A := A) (outer := outer) (s := s) (H := H) (E := E) D_first_difference X_fd
    refine ⟨_, (pss_cons (ps_set (i := 1) sc_law.nd rfl (Or.inl rfl) (pe_call (G_l_mix) (hr.mono (by decide)) rfl D_l_mix.g D_l_mix.F.kp D_l_mix.b .nil pass0 (pa_cons (pv 0) (pa_cons pe_int pa_nil))))
      (pss_cons (ps_if (pt_not (pt_val (pe_call (G_l_late_right) (hr.mono (by decide)) rfl D_l_late_right.g D_l_late_right.F.kp D_l_late_right.b .nil pass0 (pa_cons (pv 1) pa_nil)))) (pss_one (ps_ret pe_bl)) pss_nil)
      (pss_cons (ps_for PassesOwn.never rfl (pi_range1 (by rfl) T.b_range (pa_cons pe_int pa_nil)) (pg_name (i := 18) sc_law.nd rfl (Or.inr rfl)) (pss_cons (ps_set (i := 15) sc_law.nd rfl (Or.inr rfl) (pe_call (G_l_network) (hr.mono (by decide)) rfl D_l_network.g D_l_network.F.kp D_l_network.b .nil pass0 (pa_cons (pv 1) (pa_cons pe_int pa_nil))))
      (pss_cons (ps_set (i := 17) sc_law.nd rfl (Or.inr rfl) (pe_call (G_l_state) (hr.mono (by decide)) rfl D_l_state.g D_l_state.F.kp D_l_state.b .nil pass0 (pa_cons (pv 1) (pa_cons (pv 15) (pa_cons pe_int pa_nil)))))
      (pss_cons (ps_set (i := 2) sc_law.nd rfl (Or.inl rfl) (pe_call (G_l_next) (hr.mono (by decide)) rfl D_l_next.g D_l_next.F.kp D_l_next.b .nil pass0 (pa_cons (pv 1) (pa_cons (pe_callB (call_lenU (K := K)) (by rfl) T.b_len (by decide +kernel) (pa_cons (pv 15) pa_nil)) pa_nil))))
      (pss_cons (ps_set (i := 3) sc_law.nd rfl (Or.inl rfl) (pe_call (G_l_next) (hr.mono (by decide)) rfl D_l_next.g D_l_next.F.kp D_l_next.b .nil pass0 (pa_cons (pv 1) (pa_cons (pe_callB (call_lenU (K := K)) (by rfl) T.b_len (by decide +kernel) (pa_cons (pe_ix (ix_U (K := K)) (pv 15) (pv 2) (fun _ _ => rfl)) pa_nil)) pa_nil))))
      (pss_cons (ps_set (i := 4) sc_law.nd rfl (Or.inl rfl) (pe_op (op_addU (K := K)) (pe_op (op_addU (K := K)) (pe_slice (sl_U (K := K)) (pe_ix (ix_U (K := K)) (pv 15) (pv 2) (fun _ _ => rfl)) po_none (po_some (pv 3))) (pe_tup (pa_cons (pe_call (G_l_place) (hr.mono (by decide)) rfl D_l_place.g D_l_place.F.kp D_l_place.b .nil pass0 (pa_cons (pv 1) (pa_cons (pv 2) (pa_cons (pe_callB (call_lenU (K := K)) (by rfl) T.b_len (by decide +kernel) (pa_cons (pv 15) pa_nil)) pa_nil)))) pa_nil))) (pe_slice (sl_U (K := K)) (pe_ix (ix_U (K := K)) (pv 15) (pv 2) (fun _ _ => rfl)) (po_some (pe_op (op_addU (K := K)) (pv 3) pe_int)) po_none)))
      (pss_cons (ps_set (i := 5) sc_law.nd rfl (Or.inl rfl) (pe_ix (ix_U (K := K)) (pe_lst (pa_cons (pv 15) (pa_cons (pe_op (op_addU (K := K)) (pe_op (op_addU (K := K)) (pe_slice (sl_U (K := K)) (pv 15) po_none (po_some (pv 2))) (pe_tup (pa_cons (pv 4) pa_nil))) (pe_slice (sl_U (K := K)) (pv 15) (po_some (pe_op (op_addU (K := K)) (pv 2) pe_int)) po_none)) pa_nil))) (pe_call (G_l_next) (hr.mono (by decide)) rfl D_l_next.g D_l_next.F.kp D_l_next.b .nil pass0 (pa_cons (pv 1) (pa_cons pe_int pa_nil))) (fun _ _ => rfl)))
      (pss_cons (ps_set (i := 6) sc_law.nd rfl (Or.inl rfl) (pe_op (op_addU (K := K)) (pe_op (op_addU (K := K)) (pe_slice (sl_U (K := K)) (pe_ix (ix_U (K := K)) (pv 17) pe_int (fun _ _ => rfl)) po_none (po_some (pv 2))) (pe_tup (pa_cons (pe_slice (sl_U (K := K)) (pe_ix (ix_U (K := K)) (pe_ix (ix_U (K := K)) (pv 17) pe_int (fun _ _ => rfl)) (pv 2) (fun _ _ => rfl)) (po_some pe_int) po_none) pa_nil))) (pe_slice (sl_U (K := K)) (pe_ix (ix_U (K := K)) (pv 17) pe_int (fun _ _ => rfl)) (po_some (pe_op (op_addU (K := K)) (pv 2) pe_int)) po_none)))
      (pss_cons (ps_set (i := 7) sc_law.nd rfl (Or.inl rfl) (pe_ix (ix_U (K := K)) (pe_lst (pa_cons (pv 17) (pa_cons (pe_tup (pa_cons (pe_ix (ix_U (K := K)) (pv 17) pe_int (fun _ _ => rfl)) (pa_cons (pv 6) pa_nil))) (pa_cons (pe_tup (pa_cons (pe_op (op_addU (K := K)) (pe_ix (ix_U (K := K)) (pv 17) pe_int (fun _ _ => rfl)) pe_int) (pa_cons (pe_ix (ix_U (K := K)) (pv 17) pe_int (fun _ _ => rfl)) pa_nil))) pa_nil)))) (pe_call (G_l_next) (hr.mono (by decide)) rfl D_l_next.g D_l_next.F.kp D_l_next.b .nil pass0 (pa_cons (pv 1) (pa_cons pe_int pa_nil))) (fun _ _ => rfl)))
      (pss_cons (ps_set (i := 8) sc_law.nd rfl (Or.inl rfl) (pe_call (G_l_next) (hr.mono (by decide)) rfl D_l_next.g D_l_next.F.kp D_l_next.b .nil pass0 (pa_cons (pv 1) (pa_cons pe_int pa_nil))))
      (pss_cons (ps_asg (pe_tup (pa_cons (pe_call (G_l_finished) (hr.mono (by decide)) rfl D_l_finished.g D_l_finished.F.kp D_l_finished.b .nil pass0 (pa_cons (pv 15) (pa_cons (pv 17) (pa_cons (pv 8) pa_nil)))) (pa_cons (pe_call (G_l_finished) (hr.mono (by decide)) rfl D_l_finished.g D_l_finished.F.kp D_l_finished.b .nil pass0 (pa_cons (pv 5) (pa_cons (pv 7) (pa_cons (pv 8) pa_nil)))) pa_nil))) (pg_tup rfl (pgs_cons (pg_name (i := 9) sc_law.nd rfl (Or.inr rfl)) (pgs_cons (pg_name (i := 10) sc_law.nd rfl (Or.inr rfl)) pgs_nil))))
      (pss_cons (ps_setLc (i := 11) (own := [("_law_time", 19)]) (g := gName 19) (tt := _) rfl sc_law.nd rfl rfl (sw_true rfl rfl rfl (by decide +kernel)) (pi_range1 (by rfl) T.b_range (pa_cons (pv 8) pa_nil)) (blkOk_by (own := [("_law_time", 19)]) (N := ["_law_script", "_law_h", "_law_k", "_law_j", "_law_seats", "_law_other", "_law_queues", "_law_then", "_law_count", "_law_one", "_law_two", "_law_apart", "_law_due", "_law_works", "_law_bad", "_law_network_here", "_law_none", "_law_state_here", "_law_turn", "_law_time", "_law_call"]) (sc := defScope s_law) (by decide +kernel)) (fun _ _ _ _ _ => (pg_name (i := 19) sc_law.nd rfl (Or.inl rfl))) (fun _ _ _ _ _ => (pts_one (pt_cmpR (op_neU (K := K) hu) (pe_ix (ix_U (K := K)) (pv 9) (pv 19) (fun _ _ => rfl)) (pe_ix (ix_U (K := K)) (pv 10) (pv 19) (fun _ _ => rfl)) (nomark _)))) (fun _ _ _ _ _ => (pe_op (op_addU (K := K)) (pv 19) pe_int)))
      (pss_cons (ps_set (i := 12) sc_law.nd rfl (Or.inl rfl) (pe_ifExp (pt_cmpR (op_neU (K := K) hu) (pv 11) (pe_lst pa_nil) (nomark _)) (pe_ix (ix_U (K := K)) (pv 11) pe_int (fun _ _ => rfl)) pe_non))
      (pss_cons (ps_if (pt_not (pt_val (pe_call (G_l_alike) (hr.mono (by decide)) rfl D_l_alike.g D_l_alike.F.kp D_l_alike.b .nil pass0 (pa_cons (pe_call (G_first_difference) (hr.mono (by decide)) rfl D_first_difference.g D_first_difference.F.kp D_first_difference.b .nil pass0 (pa_cons (pv 15) (pa_cons (pv 17) (pa_cons (pv 5) (pa_cons (pv 7) (pa_cons (pv 8) pa_nil)))))) (pa_cons (pv 12) pa_nil))))) (pss_one (ps_ret pe_bl)) pss_nil)
      (pss_cons (ps_asg (pe_tup (pa_cons (pe_tup (pa_cons (pe_tup (pa_cons pe_str pa_nil)) pa_nil)) (pa_cons (pe_tup (pa_cons pe_int (pa_cons (pe_tup pa_nil) pa_nil))) pa_nil))) (pg_tup rfl (pgs_cons (pg_name (i := 14) sc_law.nd rfl (Or.inr rfl)) (pgs_cons (pg_name (i := 16) sc_law.nd rfl (Or.inr rfl)) pgs_nil))))
      (pss_cons (ps_set (i := 13) sc_law.nd rfl (Or.inl rfl) (pe_lst (pa_cons (pe_lamK TB rfl hmT huT (lam_free (by rfl)) rfl) (pa_cons (pe_lamD (d := 0) TB rfl hmT huT (lam_free (by rfl)) rfl rfl) pa_nil))))
      (pss_cons (ps_expr (pe_bm PySem.F.plainAttrs_list PySem.F.slot_list_append PySem.F.type_list_append mt_append (pv 13) (pa_cons (pe_lamK TB rfl hmT huT (lam_free (by rfl)) rfl) pa_nil)))
      (pss_cons (ps_expr (pe_bm PySem.F.plainAttrs_list PySem.F.slot_list_append PySem.F.type_list_append mt_append (pv 13) (pa_cons (pe_lamK TB rfl hmT huT (lam_free (by rfl)) rfl) pa_nil)))
      (pss_cons (ps_expr (pe_bm PySem.F.plainAttrs_list PySem.F.slot_list_append PySem.F.type_list_append mt_append (pv 13) (pa_cons (pe_lamK TB rfl hmT huT (lam_free (by rfl)) rfl) pa_nil)))
      (pss_cons (ps_set (i := 12) sc_law.nd rfl (Or.inl rfl) (pe_lst (pa_cons (pe_tup (pa_cons pe_str (pa_cons pe_int (pa_cons pe_int pa_nil)))) (pa_cons (pe_tup (pa_cons pe_str pa_nil)) (pa_cons (pe_tup (pa_cons pe_str (pa_cons pe_int (pa_cons pe_int pa_nil)))) (pa_cons (pe_tup (pa_cons pe_str pa_nil)) (pa_cons (pe_tup (pa_cons pe_str pa_nil)) pa_nil)))))))
      (pss_one (ps_if (pt_cmpR (op_neU (K := K) hu) (pe_lcK (own := [("_law_call", 20)]) (g := gName 20) rfl sc_law.nd (pi_U (K := K) (pv 13)) (blkOk_by (own := [("_law_call", 20)]) (N := ["_law_script", "_law_h", "_law_k", "_law_j", "_law_seats", "_law_other", "_law_queues", "_law_then", "_law_count", "_law_one", "_law_two", "_law_apart", "_law_due", "_law_works", "_law_bad", "_law_network_here", "_law_none", "_law_state_here", "_law_turn", "_law_time", "_law_call"]) (sc := defScope s_law) (by decide +kernel)) (fun _ _ _ _ _ => (pg_name (i := 20) sc_law.nd rfl (Or.inl rfl))) (fun σ pins s0 H0 C9 cl0 fp I0 hfp => pe_errK (L := LKof K C0 C1 C2 (lawX P w K mg base f c A outer s H E)) D_l_error R T okK hr I0 hfp rfl (pa_cons (pv 20) pa_nil))) (pv 12) (nomark _)) (pss_one (ps_ret pe_bl)) pss_nil))))))))))))))))))))))
      (pss_one (ps_ret pe_bl))))), ?_⟩
    walk_at "run"
    refine ⟨a, ns, 17, rfl, hS, hl, fun h b H1 e1 _ _ g1 => ?_⟩
    have tb : ∀ {Ha Hb : Hp}, Gen Ha h b → Tabs T0 Ha → Ex2 h b Ha Hb → Tabs T0 Hb := fun g t e => by
      obtain ⟨m, c, ns, x, y, _⟩ := g
      exact tabs_ex2 x y t e
    walk_at "run"
    refine ⟨h, b, rfl, g1, fun H2 g2 e2 => ?_⟩
    have t2 := tb g1 (hT0.ext e1) e2
    walk_at "run"
    rw [if_neg (by decide)]
    refine ⟨3, rfl, by decide, by decide, loop_it walk_range (fun i σ H' => ∃ u2 u3 u4 u5 u6 u7 u8 u9 u10 u11 u12 u13 u14 u15 u16 u17 u18 u19 u20, σ = [some (.ref a), some (.ref h), u2, u3, u4, u5, u6, u7, u8, u9, u10, u11, u12, u13, u14, u15, u16, u17, u18, u19, u20] ∧ Gen H' h b ∧ Tabs T0 H') ⟨_, _, _, _, _, _, _, _, _, _, _, _, _, _, _, _, _, _, _, rfl, g2, t2⟩ (fun _ _ _ _ _ => trivial) ?_ ?_⟩
    · rintro i0 x σ H3 H3' hi ⟨u2, u3, u4, u5, u6, u7, u8, u9, u10, u11, u12, u13, u14, u15, u16, u17, u18, u19, u20, rfl, g3, t3⟩ ⟨eH, rfl⟩
      subst eH
      walk_at "run"
      refine ⟨h, b, 6, rfl, g3, by decide, by decide, fun v N H4 hD6 hN4 g4 e4 => ?_⟩
      have t4 := tb g3 t3 e4
      have hD8 : Drawn N 8 := ⟨hD6.pos, by have := hD6.le; omega, hD6.st⟩
      have hn1 := hD6.pos
      have hn6 := hD6.le
      walk_at "run"
      refine ⟨h, b, v, N, 25, rfl, g4, hN4, hD8, by decide, by decide, fun u p qs H5 hS hu5 g5 e5 => ?_⟩
      have t5 := tb g4 t4 e5
      have hN5 : NetAt K H5 v N := NetAt.tx (g4.tx e5) hN4
      obtain ⟨na, nts, rfl, hNs, hns⟩ := hN5.at
      obtain ⟨ua, uy, rfl, hUa, hUy⟩ := state_at hu5
      obtain ⟨ub, qts, rfl, hUb, hqs⟩ := qs_at hUy
      have hql : qts.length = qs.length := by rw [hqs.len, List.length_map]
      have hqn : qs.length = N.length := hS.len
      have hnl : nts.length = N.length := by rw [hns.len, List.length_map]
      walk_at "run"
      refine x_lenT hNs ?_
      rw [hnl]
      refine x_next g5 (by omega) (by omega) fun kk H6 k0 k1 g6 e6 => ?_
      obtain ⟨k, rfl⟩ : ∃ k : Nat, kk = (k : Int) := ⟨kk.toNat, by omega⟩
      have hkN : k < N.length := by omega
      obtain ⟨s1, hsN⟩ : ∃ s1, N[k]? = some s1 := ⟨N[k], by simp [hkN]⟩
      obtain ⟨hs1, hs8, _⟩ := hD6.st k s1 hsN
      obtain ⟨sv, hsv, hsd⟩ := hns.get (i := k) (d := stD s1) (by rw [List.getElem?_map, hsN]; rfl)
      obtain ⟨sb, rfl, hB⟩ := StAt.at hsd
      have tx6 := g5.tx e6
      walk_at "run"
      refine x_ixT (tx6.t hNs) (atI_nat hsv) (x_lenT (tx6.t hB) ?_)
      rw [List.length_map]
      refine x_next g6 (by omega) (by omega) fun jj H7 j0 j1 g7 e7 => ?_
      obtain ⟨j, rfl⟩ : ∃ j : Nat, jj = (j : Int) := ⟨jj.toNat, by omega⟩
      have hjs : j < s1.length := by omega
      have tx7 := tx6.trans (g6.tx e7)
      have t7 := tb g6 (tb g5 t5 e6) e7
      walk_at "run"
      refine x_ixT (tx7.t hNs) (atI_nat hsv) ⟨_, rfl, x_cutT (tx7.t hB) fun c8 H8 e8 h8 => ?_⟩
      rw [cut_take (by rw [List.length_map]; omega)] at h8
      refine x_lenT (ex_t e8 (tx7.t hNs)) ?_
      rw [hnl]
      refine ⟨h, b, k, N.length, rfl, g7.ex e8, by omega, by omega, by omega, fun z H9 hz g9 e9 => ?_⟩
      have tx9 := tx7.trans ((TX.of e8).trans ((g7.ex e8).tx e9))
      have t9 := tb (g7.ex e8) (t7.ext e8) e9
      have h9 := ((g7.ex e8).tx e9).t h8
      refine x_tup (xs := [_]) (by show 1 ≤ _; decide) fun c10 H10 n10 e10 h10 => ?_
      refine x_catT (ex_t e10 h9) (SqT.of h10) (by rw [List.length_take, List.length_map, List.length_singleton]; omega) fun c11 H11 e11 h11 => ?_
      have e11 : Ex H10 H11 := e11
      have tx11 := tx9.trans (TX.of (e10.trans e11))
      walk_at "run"
      refine x_ixT (tx11.t hNs) (atI_nat hsv) ⟨_, rfl, x_cutT (tx11.t hB) fun c12 H12 e12 h12 => ?_⟩
      rw [show ((j : Int) + 1) = ((j + 1 : Nat) : Int) by omega, cut_dropA] at h12
      refine x_catT (ex_t e12 h11) h12 (by rw [List.length_append, List.length_take, List.length_map, List.length_drop, List.length_map, List.length_singleton]; omega) fun c13 H13 e13 h13 => ?_
      have e13 : Ex H12 H13 := e13
      have tx13 := tx11.trans (TX.of (e12.trans e13))
      have hs13 : SqT K H13 c13 ((s1.set j z).map kV) := by
        have : (s1.set j z).map kV = (s1.map kV).take j ++ [kV z] ++ (s1.map kV).drop (j + 1) := by
          rw [set3 hjs, List.map_append, List.map_append, List.map_take, List.map_drop]; rfl
        rw [this]
        exact h13
      have g13 := (g9.ex (e10.trans e11)).ex (e12.trans e13)
      have t13 := t9.ext ((e10.trans e11).trans (e12.trans e13))
      clear h8 h9 h10 h11 h12 h13
      walk_at "run"
      have n13 : DpAll K H13 nts (N.map stD) := DpAll.tx tx13 hns (fun d hd => by
        obtain ⟨s, hs, rfl⟩ := List.mem_map.mp hd
        exact stD_t s)
      refine ⟨_, rfl, x_cutT (tx13.t hNs) fun c14 H14 e14 h14 => ?_⟩
      rw [cut_take (by omega)] at h14
      refine x_tup (xs := [_]) (by show 1 ≤ _; decide) fun c15 H15 n15 e15 h15 => ?_
      refine x_catT (ex_t e15 h14) (SqT.of h15) (by rw [List.length_take, List.length_singleton]; omega) fun c16 H16 e16 h16 => ?_
      have e16 : Ex H15 H16 := e16
      have e1316 := e14.trans (e15.trans e16)
      refine ⟨_, rfl, x_cutT (ex_t e1316 (tx13.t hNs)) fun c17 H17 e17 h17 => ?_⟩
      rw [show ((k : Int) + 1) = ((k + 1 : Nat) : Int) by omega, cut_dropA] at h17
      refine x_catT (ex_t e17 h16) h17 (by rw [List.length_append, List.length_take, List.length_drop, List.length_singleton]; omega) fun c18 H18 e18 h18 => ?_
      have e18 : Ex H17 H18 := e18
      have e1318 := e1316.trans (e17.trans e18)
      have hN18 : NetAt K H18 (.ref na) N := .tup (ex_t e1318 (tx13.t hNs)) (DpAll.ex e1318 n13)
      have hO18 : NetAt K H18 (.ref c18) (N.set k (s1.set j z)) := by
        have : (N.set k (s1.set j z)).map stD = (N.map stD).take k ++ [stD (s1.set j z)] ++ (N.map stD).drop (k + 1) := by
          rw [set3 hkN, List.map_append, List.map_append, List.map_take, List.map_drop]; rfl
        show Dp K H18 _ (.tuple _)
        rw [this]
        exact .tup h18 ((((DpAll.ex e1318 n13).take k).append (.cons (StAt.of (ex_t e1318 hs13)) .nil)).append ((DpAll.ex e1318 n13).drop (k + 1)))
      refine x_lst (by simp) fun M H19 n19 e19 hM => x_next ((g13.ex e1318).ex e19) (by decide) (by decide) fun r H20 r0 r1 g20 e20 => ?_
      have t20 := tb ((g13.ex e1318).ex e19) ((t13.ext e1318).ext e19) e20
      have hM20 := e20 _ _ hM ((g13.ex e1318).na n19) ((g13.ex e1318).nb n19)
      have x1820 := (TX.of e19).trans (((g13.ex e1318).ex e19).tx e20)
      have tx20 : TX H5 H20 := tx13.trans ((TX.of e1318).trans x1820)
      refine x_menu hM20 r0 (by simpa using r1) fun ov _ hov => ?_
      obtain ⟨N', hO, hD', hS'⟩ : ∃ N' : Net, NetAt K H20 ov N' ∧ Drawn N' 6 ∧ ∀ (p : Int) (qs : Qs), StOk N p qs → StOk N' p qs := by
        simp only [List.mem_cons, List.not_mem_nil, or_false] at hov
        rcases hov with rfl | rfl
        · exact ⟨N, NetAt.tx x1820 hN18, hD6, fun _ _ h => h⟩
        · exact ⟨_, NetAt.tx x1820 hO18, hD6.set hsN hjs hz, fun _ _ h => StOk.set h hsN⟩
      have hNA : NetAt K H20 (.ref na) N := NetAt.tx x1820 hN18
      have hUA : SqT K H20 ua [.int p, .ref ub] := tx20.t hUa
      have hUB : SqT K H20 ub qts := tx20.t hUb
      have hQS : DpAll K H20 qts (qs.map qD) := DpAll.tx tx20 hqs (fun d hd => by
        obtain ⟨q, _, rfl⟩ := List.mem_map.mp hd
        exact qD_t q)
      clear hM20 hM h14 h15 h16 h17 h18 hN18 hO18 n13 hs13 hB hsd hNs hns hUa hUb hqs hUy hu5 hN4 hN5 t3 t4 t5 t7 t9 t13 g3 g4 g5 g6 g7 g9 g13 tx6 tx7 tx9 tx11 tx13 x1820 tx20 hov
      walk_at "run"
      have hkq : k < qs.length := by omega
      obtain ⟨qk, hqk⟩ : ∃ qk, qs[k]? = some qk := ⟨qs[k], by simp [hkq]⟩
      obtain ⟨zv, hzv, hzd⟩ := hQS.get (i := k) (d := qD qk) (by rw [List.getElem?_map, hqk]; rfl)
      obtain ⟨qb, zs, rfl, hQB, hzs⟩ := Dp.tup_inv hzd
      obtain rfl := dp_ints hzs
      refine x_ixT hUA (v := .ref ub) rfl ⟨_, rfl, x_cutT hUB fun c21 H21 e21 h21 => ?_⟩
      rw [cut_take (by omega)] at h21
      refine x_ixT (ex_t e21 hUA) (v := .ref ub) rfl (x_ixT (ex_t e21 hUB) (atI_nat hzv) ⟨_, rfl, x_cutT (ex_t e21 hQB) fun c22 H22 e22 h22 => ?_⟩)
      rw [show (1 : Int) = ((1 : Nat) : Int) from rfl, cut_dropA] at h22
      refine x_tup (xs := [_]) (by show 1 ≤ _; decide) fun c23 H23 n23 e23 h23 => ?_
      refine x_catT (ex_t (e22.trans e23) h21) (SqT.of h23) (by rw [List.length_take, List.length_singleton]; omega) fun c24 H24 e24 h24 => ?_
      have e24 : Ex H23 H24 := e24
      have e2024 := e21.trans (e22.trans (e23.trans e24))
      refine x_ixT (ex_t e2024 hUA) (v := .ref ub) rfl ⟨_, rfl, x_cutT (ex_t e2024 hUB) fun c25 H25 e25 h25 => ?_⟩
      rw [show ((k : Int) + 1) = ((k + 1 : Nat) : Int) by omega, cut_dropA] at h25
      refine x_catT (ex_t e25 h24) h25 (by rw [List.length_append, List.length_take, List.length_drop, List.length_singleton]; omega) fun c26 H26 e26 h26 => ?_
      have e26 : Ex H25 H26 := e26
      have e2026 := e2024.trans (e25.trans e26)
      refine x_ixT (ex_t e2026 hUA) (v := .int p) rfl ?_
      refine x_tup (by simp) fun c27 H27 n27 e27 h27 => x_ixT (ex_t (e2026.trans e27) hUA) (v := .int p) rfl ?_
      walk_at "run"
      refine x_ixT (ex_t (e2026.trans e27) hUA) (v := .ref ub) rfl ?_
      refine x_tup (by simp) fun c28 H28 n28 e28 h28 => ?_
      have e2028 := e2026.trans (e27.trans e28)
      refine x_lst (by simp) fun M H29 n29 e29 hM => x_next ((g20.ex e2028).ex e29) (by decide) (by decide) fun r H30 r0 r1 g30 e30 => ?_
      have t30 := tb ((g20.ex e2028).ex e29) ((t20.ext e2028).ext e29) e30
      have hM30 := e30 _ _ hM ((g20.ex e2028).na n29) ((g20.ex e2028).nb n29)
      have x2830 := (TX.of e29).trans (((g20.ex e2028).ex e29).tx e30)
      have qsd : ∀ d ∈ qs.map qD, TupD d := fun d hd => by
        obtain ⟨q, _, rfl⟩ := List.mem_map.mp hd
        exact qD_t q
      have hS0 : Dp K H28 (.ref ua) (stateD p qs) := .tup (ex_t e2028 hUA) (.cons (.int p) (.cons (.tup (ex_t e2028 hUB) (DpAll.ex e2028 hQS)) .nil))
      have hS1 : Dp K H28 (.ref c27) (stateD p (qs.set k (qk.drop 1))) := by
        refine .tup (SqT.of (e28 _ _ h27)) (.cons (.int p) (.cons ?_ .nil))
        have : (qs.set k (qk.drop 1)).map qD = (qs.map qD).take k ++ [qD (qk.drop 1)] ++ (qs.map qD).drop (k + 1) := by
          rw [set3 hkq, List.map_append, List.map_append, List.map_take, List.map_drop]; rfl
        show Dp K H28 _ (.tuple _)
        rw [this]
        refine .tup (ex_t (e27.trans e28) h26) ((((DpAll.ex e2028 hQS).take k).append (.cons ?_ .nil)).append ((DpAll.ex e2028 hQS).drop (k + 1)))
        refine .tup (ex_t (e23.trans (e24.trans (e25.trans (e26.trans (e27.trans e28))))) h22) ?_
        rw [← List.map_drop]
        exact ints_dp17 _
      have hS2 : Dp K H28 (.ref c28) (stateD (p + 1) qs) := .tup (SqT.of h28) (.cons (.int (p + 1)) (.cons (.tup (ex_t e2028 hUB) (DpAll.ex e2028 hQS)) .nil))
      refine x_menu hM30 r0 (by simpa using r1) fun sv2 _ hsv2 => ?_
      obtain ⟨p', qs', hP', hok'⟩ : ∃ (p' : Int) (qs' : Qs), Dp K H30 sv2 (stateD p' qs') ∧ StOk N p' qs' := by
        simp only [List.mem_cons, List.not_mem_nil, or_false] at hsv2
        rcases hsv2 with rfl | rfl | rfl
        · exact ⟨p, qs, Dp.tx x2830 hS0 (stateD_t _ _), hS⟩
        · exact ⟨p, _, Dp.tx x2830 hS1 (stateD_t _ _), StOk.drop hS hqk⟩
        · exact ⟨p + 1, qs, Dp.tx x2830 hS2 (stateD_t _ _), StOk.next hS⟩
      have tx30 := (TX.of e2028).trans x2830
      have hA30 : NS K H30 (.ref na) (.ref ua) N p qs := ⟨NetAt.tx tx30 hNA, hD6.valid (by decide), by omega, Dp.tx x2830 hS0 (stateD_t _ _), hS⟩
      have hd6 := hD'.le
      have hB30 : NS K H30 ov sv2 N' p' qs' := ⟨NetAt.tx tx30 hO, hD'.valid (by decide), by omega, hP', hS' _ _ hok'⟩
      clear hS0 hS1 hS2 hP' hM30 hM h21 h22 h23 h24 h25 h26 h27 h28 hNA hO hUA hUB hQS hzd hzs hQB t20 g20 x2830 tx30 hsv2 e30 e2028 e2026 e2024 e29 e28 e27 e26 e25 e24 e23 e22 e21
      walk_at "run"
      refine x_next g30 (by decide) (by decide) fun cc H31 c0 c1 g31 e31 => ?_
      obtain ⟨cn, rfl⟩ : ∃ cn : Nat, cc = (cn : Int) := ⟨cc.toNat, by omega⟩
      have t31 := tb g30 t30 e31
      have hA := hA30.tx (g30.tx e31)
      have hB := hB30.tx (g30.tx e31)
      clear hA30 hB30 e31 t30 g30
      walk_at "run"
      refine ⟨_, _, N, p, qs, cn, rfl, hA, by omega, fun H32 l32 e32 hL32 => ?_⟩
      refine ⟨_, _, N', p', qs', cn, rfl, hB.tx (TX.of e32), by omega, fun H33 l33 e33 hL33 => ?_⟩
      refine x_tup (by simp) fun c34 H34 n34 e34 h34 => x_two (SqT.of h34) ?_
      have e3134 := e32.trans (e33.trans e34)
      obtain ⟨as1, hl1, hn1', hf1⟩ := hL32.ex (e33.trans e34)
      obtain ⟨as2, hl2, hn2', hf2⟩ := hL33.ex e34
      clear hL32 hL33 h34
      refine seq_mid (fun σ' H' => ∃ l35, σ' = [some (.ref a), some (.ref h), some (.int (k : Nat)), some (.int (j : Nat)), some (.ref c13), some ov, some (.ref c26), some sv2, some (.int (cn : Nat)), some (.ref l32), some (.ref l33), some (.ref l35), u12, u13, u14, some (.ref na), u16, some (.ref ua), some (.int (0 + (i0 : Nat))), u19, u20] ∧ Ex H34 H' ∧ H' l35 = some (.lst ((apW N qs p N' qs' p' cn).map V.int))) (fun RR hRR => ?_) ?_
      · walk_at "run"
        refine ⟨(cn : Int), rfl, by omega, by omega, ?_⟩
        rw [Int.toNat_natCast]
        refine lcl_it walk_range (fun D i H' => Ex H34 H' ∧ H' D = some (.lst ((apW N qs p N' qs' p' i).map V.int))) (fun D H' hD e h => ⟨e, h⟩) (fun D i H' _ _ => trivial) ?_ ?_
        · rintro D i x H35 H35' hD hi ⟨e35, hD35⟩ ⟨eH, rfl⟩
          subst eH
          have ei : (0 : Int) + (i : Nat) = (i : Nat) := by omega
          simp only [ei]
          walk_at "run"
          obtain ⟨x1, hx1⟩ : ∃ x, as1[i]? = some x := ⟨as1[i], by have : i < cn := hi; simp [hn1', this]⟩
          obtain ⟨x2, hx2⟩ : ∃ x, as2[i]? = some x := ⟨as2[i], by have : i < cn := hi; simp [hn2', this]⟩
          refine x_ixL (SqL.of (e35 _ _ hl1)) (atI_nat (by rw [List.getElem?_map, hx1]; rfl)) (x_ixL (SqL.of (e35 _ _ hl2)) (atI_nat (by rw [List.getElem?_map, hx2]; rfl)) ?_)
          refine x_neFin ((hf1 i x1 hx1).ex2 e35) ((hf2 i x2 hx2).ex2 e35) (finT_port hA.val i) (finT_port hB.val i) ⟨_, rfl, ?_⟩
          have hsucc : apW N qs p N' qs' p' (i + 1) = if finT N qs p i ≠ finT N' qs' p' i then apW N qs p N' qs' p' i ++ [(i : Int) + 1] else apW N qs p N' qs' p' i := by
            unfold apW
            rw [List.range_succ, List.filter_append, List.map_append]
            by_cases e : finT N qs p i = finT N' qs' p' i
            · simp [e]
            · simp [e]
          have hal : (apW N qs p N' qs' p' i).length ≤ i := by
            unfold apW
            rw [List.length_map]
            exact Nat.le_trans (List.length_filter_le _ _) (by rw [List.length_range]; omega)
          by_cases hne : finT N qs p i ≠ finT N' qs' p' i
          · rw [if_pos (by simpa using hne)]
            rw [if_pos hne] at hsucc
            refine x_push hD35 (by rw [List.length_map]; have : i < cn := hi; omega) fun H36 e36 h36 => ⟨fun o u h => e36 _ _ (ne_of_none h hD) (e35 _ _ h), ?_⟩
            rw [h36, hsucc, List.map_append]; rfl
          · rw [if_neg (by simpa using hne)]
            rw [if_neg hne] at hsucc
            exact ⟨e35, by rw [hsucc]; exact hD35⟩
        · rintro D H35 hD ⟨e35, hD35⟩
          walk_at "run"
          exact hRR _ _ ⟨D, rfl, e35, hD35⟩
      rintro σ' H35 ⟨l35, rfl, e35, hL35⟩
      refine seq_mid (fun σ' H' => σ' = [some (.ref a), some (.ref h), some (.int (k : Nat)), some (.int (j : Nat)), some (.ref c13), some ov, some (.ref c26), some sv2, some (.int (cn : Nat)), some (.ref l32), some (.ref l33), some (.ref l35), some (fdV (fdW N qs p N' qs' p' cn)), u13, u14, some (.ref na), u16, some (.ref ua), some (.int (0 + (i0 : Nat))), u19, u20] ∧ Ex H34 H') (fun RR hRR => ?_) ?_
      · walk_at "run"
        have hfd : (apW N qs p N' qs' p' cn).head? = (fdW N qs p N' qs' p' cn).map fun t => ((t + 1 : Nat) : Int) := by
          unfold apW fdW
          rw [List.head?_map, List.head?_filter]
        have hal : (apW N qs p N' qs' p' cn).length ≤ 1000 := by
          unfold apW
          rw [List.length_map]
          exact Nat.le_trans (List.length_filter_le _ _) (by rw [List.length_range]; omega)
        have sh : ∀ l : List Int, l.length ≤ 1000 → SeqAt.shaped (.list (l.map PyData.int)) = true := fun l hl => by
          refine shaped_mk (show PyData.canLayAll0 _ = true from layAll fun d hd => ?_) ?_
          · obtain ⟨i, _, rfl⟩ := List.mem_map.mp hd
            rfl
          · have := depthAll_le (m := 1) (ds := l.map PyData.int) fun d hd => by
              obtain ⟨i, _, rfl⟩ := List.mem_map.mp hd
              simp [PyData.depth]
            rw [PyData.depth]; omega
        refine x_lst (by simp) fun m36 H36 n36 e36 h36 => ?_
        refine x_neD (.lst (SqL.of (e36 _ _ hL35)) (ints_dp17 _)) (.lst (SqL.of h36) .nil) (sh _ hal) (sh [] (by simp)) ⟨_, rfl, ?_⟩
        cases hap : apW N qs p N' qs' p' cn with
        | nil =>
          rw [hap] at hfd
          have hn : fdW N qs p N' qs' p' cn = none := by
            cases hq : fdW N qs p N' qs' p' cn with
            | none => rfl
            | some t => rw [hq] at hfd; cases hfd
          rw [if_neg (by simp [PyData.eqv, PyData.eqvAll])]
          rw [hn] at hRR
          exact hRR _ _ ⟨rfl, e35.trans e36⟩
        | cons x r =>
          rw [hap] at hfd hL35
          obtain ⟨t, hq, hx⟩ : ∃ t, fdW N qs p N' qs' p' cn = some t ∧ ((t + 1 : Nat) : Int) = x := by
            cases hq : fdW N qs p N' qs' p' cn with
            | none => rw [hq] at hfd; cases hfd
            | some t => rw [hq] at hfd; exact ⟨t, rfl, (Option.some.inj hfd).symm⟩
          rw [if_pos (by simp [PyData.eqv, PyData.eqvAll])]
          refine x_ixL (SqL.of (e36 _ _ hL35)) (v := .int x) (atI_in (by decide) rfl) ?_
          rw [hq] at hRR
          subst hx
          exact hRR _ _ ⟨rfl, e35.trans e36⟩
      rintro σ' H36 ⟨rfl, e36⟩
      walk_at "run"
      have e3136 := e3134.trans e36
      have hA36 := hA.tx (TX.of e3136)
      have hB36 := hB.tx (TX.of e3136)
      refine ⟨_, _, _, _, _, _, _, _, _, _, cn, rfl, hA36, hB36, by omega, fun H37 e37 => ?_⟩
      refine ⟨_, _, fdD (fdW N qs p N' qs' p' cn), rfl, fdD_dp _, fdD_dp _, fdD_s _, fdD_d _, fdD_m _, fun H38 e38 => ⟨_, rfl, ?_⟩⟩
      rw [if_neg (by decide)]
      have e3138 := e3136.trans (e37.trans e38)
      have hA38 := hA.tx (TX.of e3138)
      have g38 := g31.ex e3138
      have t38 := t31.ext e3138
      clear hA hB hA36 hB36 hl1 hl2 hf1 hf2 hL35 e36 e37 e38 e35 e32 e33 e34 e3134 e3136 e3138 g31 t31 hn1' hn2'
      refine x_tup (by simp) fun c39 H39 n39 e39 h39 => x_tup (by simp) fun c40 H40 n40 e40 h40 => x_tup (by simp) fun c41 H41 n41 e41 h41 => x_tup (by simp) fun c42 H42 n42 e42 h42 => x_tup (by simp) fun c43 H43 n43 e43 h43 => x_two (SqT.of h43) ?_
      have e3943 := e39.trans (e40.trans (e41.trans (e42.trans e43)))
      have pc : PC K T0 h b na ua c40 c42 N p qs H43 := by
        refine ⟨hA38.tx (TX.of e3943), .tup (SqT.of ((e41.trans (e42.trans e43)) _ _ h40)) (.cons (StAt.of (SqT.of ((e40.trans (e41.trans (e42.trans e43))) _ _ h39))) .nil), .tup (SqT.of (e43 _ _ h42)) (.cons (.int 0) (.cons (.tup (SqT.of ((e42.trans e43) _ _ h41)) .nil) .nil)), g38.ex e3943, t38.ext e3943⟩
      clear hA38 g38 t38 h39 h40 h41 h42 h43 e3943 e39 e40 e41 e42 e43
      dsimp only [List.set_cons_zero, List.set_cons_succ]
      refine seq_mid (fun σ' H' => ∃ (wp f0 q0 f1 q1 d1 : Addr), σ' = [some (.ref a), some (.ref h), some (.int (k : Nat)), some (.int (j : Nat)), some (.ref c13), some ov, some (.ref c26), some sv2, some (.int (cn : Nat)), some (.ref l32), some (.ref l33), some (.ref l35), some (fdV (fdW N qs p N' qs' p' cn)), some (.ref wp), some (.ref c40), some (.ref na), some (.ref c42), some (.ref ua), some (.int (0 + (i0 : Nat))), u19, u20] ∧ PC K T0 h b na ua c40 c42 N p qs H' ∧ H' wp = some (.lst [.ref f0, .ref f1]) ∧ (LKof K C0 C1 C2 (lawX P w K mg base f c A outer s H E) 0).at_ H' f0 q0 none ∧ (LKof K C0 C1 C2 (lawX P w K mg base f c A outer s H E) 1).at_ H' f1 q1 (some d1)) (fun RR hRR => ?_) ?_
      · walk_at "run"
        refine ⟨pc.t, fun f0 q0 H11 e11 t11 _ A1 A2 => ⟨t11, fun f1 q1 d1 H12 e12 t12 _ B1 B2 B3 => ?_⟩⟩
        refine x_lst (by simp) fun wp H14 nw e14 hw => ?_
        have k0 : (LKof K C0 C1 C2 (lawX P w K mg base f c A outer s H E) 0).at_ H11 f0 q0 none := ⟨A1, A2, rfl⟩
        have k1 : (LKof K C0 C1 C2 (lawX P w K mg base f c A outer s H E) 1).at_ H12 f1 q1 (some d1) := ⟨B1, B2, d1, rfl, B3⟩
        exact hRR _ _ ⟨wp, f0, q0, f1, q1, d1, rfl, pc.ext ((e11.trans e12).trans (ExtN.of e14)) (t12.ext e14), hw, k0.ex (e12.trans (ExtN.of e14)), k1.ex (ExtN.of e14)⟩
      clear pc
      rintro σ' H44 ⟨wp, f0, q0, f1, q1, d1, rfl, pc, hw, k0, k1⟩
      refine seq_mid (fun σ' H' => ∃ (wp f0 q0 f1 q1 d1 f2 q2 : Addr), σ' = [some (.ref a), some (.ref h), some (.int (k : Nat)), some (.int (j : Nat)), some (.ref c13), some ov, some (.ref c26), some sv2, some (.int (cn : Nat)), some (.ref l32), some (.ref l33), some (.ref l35), some (fdV (fdW N qs p N' qs' p' cn)), some (.ref wp), some (.ref c40), some (.ref na), some (.ref c42), some (.ref ua), some (.int (0 + (i0 : Nat))), u19, u20] ∧ PC K T0 h b na ua c40 c42 N p qs H' ∧ H' wp = some (.lst [.ref f0, .ref f1, .ref f2]) ∧ (LKof K C0 C1 C2 (lawX P w K mg base f c A outer s H E) 0).at_ H' f0 q0 none ∧ (LKof K C0 C1 C2 (lawX P w K mg base f c A outer s H E) 1).at_ H' f1 q1 (some d1) ∧ (LKof K C0 C1 C2 (lawX P w K mg base f c A outer s H E) 2).at_ H' f2 q2 none) (fun RR hRR => ?_) ?_
      · walk_at "run"
        refine ⟨x_tyL (SqL.of hw), pc.t, fun f2 q2 H11 e11 t11 _ A1 A2 => ?_⟩
        have hw1 := e11 _ _ hw (fun ps z => by cases z)
        have kn : (LKof K C0 C1 C2 (lawX P w K mg base f c A outer s H E) 2).at_ H11 f2 q2 none := ⟨A1, A2, rfl⟩
        refine x_append hw1 (by simp) fun H12 e12 h12 => ?_
        exact hRR _ _ ⟨wp, f0, q0, f1, q1, d1, f2, q2, rfl, pc_but (pc.ext e11 t11) hw1 e12, h12, at_but (k0.ex e11) hw1 e12, at_but (k1.ex e11) hw1 e12, at_but kn hw1 e12⟩
      clear pc hw k0 k1
      rintro σ' H45 ⟨wp, f0, q0, f1, q1, d1, f2, q2, rfl, pc, hw, k0, k1, k2⟩
      refine seq_mid (fun σ' H' => ∃ (wp f0 q0 f1 q1 d1 f2 q2 f3 q3 : Addr), σ' = [some (.ref a), some (.ref h), some (.int (k : Nat)), some (.int (j : Nat)), some (.ref c13), some ov, some (.ref c26), some sv2, some (.int (cn : Nat)), some (.ref l32), some (.ref l33), some (.ref l35), some (fdV (fdW N qs p N' qs' p' cn)), some (.ref wp), some (.ref c40), some (.ref na), some (.ref c42), some (.ref ua), some (.int (0 + (i0 : Nat))), u19, u20] ∧ PC K T0 h b na ua c40 c42 N p qs H' ∧ H' wp = some (.lst [.ref f0, .ref f1, .ref f2, .ref f3]) ∧ (LKof K C0 C1 C2 (lawX P w K mg base f c A outer s H E) 0).at_ H' f0 q0 none ∧ (LKof K C0 C1 C2 (lawX P w K mg base f c A outer s H E) 1).at_ H' f1 q1 (some d1) ∧ (LKof K C0 C1 C2 (lawX P w K mg base f c A outer s H E) 2).at_ H' f2 q2 none ∧ (LKof K C0 C1 C2 (lawX P w K mg base f c A outer s H E) 3).at_ H' f3 q3 none) (fun RR hRR => ?_) ?_
      · walk_at "run"
        refine ⟨x_tyL (SqL.of hw), pc.t, fun f3 q3 H11 e11 t11 _ A1 A2 => ?_⟩
        have hw1 := e11 _ _ hw (fun ps z => by cases z)
        have kn : (LKof K C0 C1 C2 (lawX P w K mg base f c A outer s H E) 3).at_ H11 f3 q3 none := ⟨A1, A2, rfl⟩
        refine x_append hw1 (by simp) fun H12 e12 h12 => ?_
        exact hRR _ _ ⟨wp, f0, q0, f1, q1, d1, f2, q2, f3, q3, rfl, pc_but (pc.ext e11 t11) hw1 e12, h12, at_but (k0.ex e11) hw1 e12, at_but (k1.ex e11) hw1 e12, at_but (k2.ex e11) hw1 e12, at_but kn hw1 e12⟩
      clear pc hw k0 k1 k2
      rintro σ' H46 ⟨wp, f0, q0, f1, q1, d1, f2, q2, f3, q3, rfl, pc, hw, k0, k1, k2, k3⟩
      refine seq_mid (fun σ' H' => ∃ (wp f0 q0 f1 q1 d1 f2 q2 f3 q3 f4 q4 : Addr), σ' = [some (.ref a), some (.ref h), some (.int (k : Nat)), some (.int (j : Nat)), some (.ref c13), some ov, some (.ref c26), some sv2, some (.int (cn : Nat)), some (.ref l32), some (.ref l33), some (.ref l35), some (fdV (fdW N qs p N' qs' p' cn)), some (.ref wp), some (.ref c40), some (.ref na), some (.ref c42), some (.ref ua), some (.int (0 + (i0 : Nat))), u19, u20] ∧ PC K T0 h b na ua c40 c42 N p qs H' ∧ H' wp = some (.lst [.ref f0, .ref f1, .ref f2, .ref f3, .ref f4]) ∧ (LKof K C0 C1 C2 (lawX P w K mg base f c A outer s H E) 0).at_ H' f0 q0 none ∧ (LKof K C0 C1 C2 (lawX P w K mg base f c A outer s H E) 1).at_ H' f1 q1 (some d1) ∧ (LKof K C0 C1 C2 (lawX P w K mg base f c A outer s H E) 2).at_ H' f2 q2 none ∧ (LKof K C0 C1 C2 (lawX P w K mg base f c A outer s H E) 3).at_ H' f3 q3 none ∧ (LKof K C0 C1 C2 (lawX P w K mg base f c A outer s H E) 4).at_ H' f4 q4 none) (fun RR hRR => ?_) ?_
      · walk_at "run"
        refine ⟨x_tyL (SqL.of hw), pc.t, fun f4 q4 H11 e11 t11 _ A1 A2 => ?_⟩
        have hw1 := e11 _ _ hw (fun ps z => by cases z)
        have kn : (LKof K C0 C1 C2 (lawX P w K mg base f c A outer s H E) 4).at_ H11 f4 q4 none := ⟨A1, A2, rfl⟩
        refine x_append hw1 (by simp) fun H12 e12 h12 => ?_
        exact hRR _ _ ⟨wp, f0, q0, f1, q1, d1, f2, q2, f3, q3, f4, q4, rfl, pc_but (pc.ext e11 t11) hw1 e12, h12, at_but (k0.ex e11) hw1 e12, at_but (k1.ex e11) hw1 e12, at_but (k2.ex e11) hw1 e12, at_but (k3.ex e11) hw1 e12, at_but kn hw1 e12⟩
      clear pc hw k0 k1 k2 k3
      rintro σ' H47 ⟨wp, f0, q0, f1, q1, d1, f2, q2, f3, q3, f4, q4, rfl, pc, hw, k0, k1, k2, k3, k4⟩
      walk_at "run"
      refine x_tup (by simp) fun t1 H50 n50 e50 h50 => x_tup (by simp) fun t2 H51 n51 e51 h51 => x_tup (by simp) fun t3 H52 n52 e52 h52 => x_tup (by simp) fun t4 H53 n53 e53 h53 => x_tup (by simp) fun t5 H54 n54 e54 h54 => x_lst (by simp) fun Wd H55 n55 e55 hW => ?_
      have e4755 := e50.trans (e51.trans (e52.trans (e53.trans (e54.trans e55))))
      have hdue : Dp K H55 (.ref Wd) (.list ((List.range 5).map errD)) := by
        refine .lst (SqL.of hW) (.cons (.tup (SqT.of ((e51.trans (e52.trans (e53.trans (e54.trans e55)))) _ _ h50)) (.cons (.str "network") (.cons (.int 0) (.cons (.int 0) .nil)))) (.cons (.tup (SqT.of ((e52.trans (e53.trans (e54.trans e55))) _ _ h51)) (.cons (.str "state") .nil)) (.cons (.tup (SqT.of ((e53.trans (e54.trans e55)) _ _ h52)) (.cons (.str "network") (.cons (.int 0) (.cons (.int 0) .nil)))) (.cons (.tup (SqT.of ((e54.trans e55) _ _ h53)) (.cons (.str "state") .nil)) (.cons (.tup (SqT.of (e55 _ _ h54)) (.cons (.str "count") .nil)) .nil)))))
      replace pc := pc.ex e4755
      replace hw := e4755 _ _ hw
      replace k0 := k0.ex (ExtN.of e4755)
      replace k1 := k1.ex (ExtN.of e4755)
      replace k2 := k2.ex (ExtN.of e4755)
      replace k3 := k3.ex (ExtN.of e4755)
      replace k4 := k4.ex (ExtN.of e4755)
      clear h50 h51 h52 h53 h54 hW e50 e51 e52 e53 e54 e55
      show tLc _ _ _ _ _ _ _ _
      rw [x_tLc]
      walk_at "run"
      refine x_itL (SqL.of hw) (lcl_it walk_list (fun D i H' => Ex H55 H' ∧ LsAt K H' D ((List.range i).map errD)) (fun D H' hD e h => ⟨e, ⟨⟨[], h, .nil⟩⟩⟩) (fun D i H' _ ⟨e, _⟩ => SqL.of (e _ _ hw)) ?_ ?_)
      · rintro D i x H56 H56' hD hi ⟨e56, hL⟩ ⟨eH, hx⟩
        subst eH
        have push : ∀ H' y, Ex H56' H' → Dp K H' y (errD i) → Push D (fun H' => Ex H55 H' ∧ LsAt K H' D ((List.range (i + 1)).map errD)) y H' := fun H' y e hy => by
          obtain ⟨ls, hls, hlsd⟩ := (hL.ex2 e).ex
          have hll : ls.length ≤ 5 := by rw [hlsd.len, List.length_map, List.length_range]; have : i < 5 := hi; omega
          refine x_push hls (by omega) fun H57 e57 h57 => ⟨fun o u h => e57 _ _ (ne_of_none h hD) (e _ _ (e56 _ _ h)), ⟨⟨_, h57, ?_⟩⟩⟩
          have t57 : TX H' H57 := TX.but hls e57
          rw [List.range_succ, List.map_append]
          exact DpAll.append (DpAll.tx t57 hlsd fun d hd => by
            obtain ⟨j, _, rfl⟩ := List.mem_map.mp hd
            exact errD_t j) (.cons (Dp.tx t57 hy (errD_t i)) .nil)
        have pc6 := pc.ex e56
        have err : ∀ m, (∀ H' x, Ex H56' H' → Dp K H' x (errD m) → Push D (fun H' => Ex H55 H' ∧ LsAt K H' D ((List.range (i + 1)).map errD)) x H') → TErr C ((LKof K C0 C1 C2 (lawX P w K mg base f c A outer s H E) m).tl [some (.ref a), some (.ref h), some (.int (k : Nat)), some (.int (j : Nat)), some (.ref c13), some ov, some (.ref c26), some sv2, some (.int (cn : Nat)), some (.ref l32), some (.ref l33), some (.ref l35), some (.ref Wd), some (.ref wp), some (.ref c40), some (.ref na), some (.ref c42), some (.ref ua), some (.int (0 + (i0 : Nat))), u19, u20]) H56' (Push D (fun H' => Ex H55 H' ∧ LsAt K H' D ((List.range (i + 1)).map errD))) := fun m => err17 hC0 hC1 hC2 rfl rfl rfl rfl rfl pc6.ns pc6.bad pc6.non m
        walk_at "run"
        match i, hx, push, err with
        | 0, hx, push, err =>
          obtain rfl : V.ref f0 = x := Option.some.inj hx
          exact ⟨_, rfl, 0, f0, q0, none, rfl, k0.ex (ExtN.of e56), err 0 push⟩
        | 1, hx, push, err =>
          obtain rfl : V.ref f1 = x := Option.some.inj hx
          exact ⟨_, rfl, 1, f1, q1, some d1, rfl, k1.ex (ExtN.of e56), err 1 push⟩
        | 2, hx, push, err =>
          obtain rfl : V.ref f2 = x := Option.some.inj hx
          exact ⟨_, rfl, 2, f2, q2, none, rfl, k2.ex (ExtN.of e56), err 2 push⟩
        | 3, hx, push, err =>
          obtain rfl : V.ref f3 = x := Option.some.inj hx
          exact ⟨_, rfl, 3, f3, q3, none, rfl, k3.ex (ExtN.of e56), err 3 push⟩
        | 4, hx, push, err =>
          obtain rfl : V.ref f4 = x := Option.some.inj hx
          exact ⟨_, rfl, 4, f4, q4, none, rfl, k4.ex (ExtN.of e56), err 4 push⟩
      · rintro D H56 hD ⟨e56, hL⟩
        walk_at "run"
        obtain ⟨ls, hls, hlsd⟩ := hL.ex
        refine x_neD (.lst (SqL.of hls) hlsd) (Dp.ex e56 hdue) errL_s errL_s ?_
        rw [show List.map errD (List.range [V.ref f0, V.ref f1, V.ref f2, V.ref f3, V.ref f4].length) = (List.range 5).map errD from rfl, eqv_same errL_s]
        refine ⟨_, rfl, ?_⟩
        rw [if_neg (by decide)]
        have pc6 := pc.ex e56
        exact ⟨_, _, _, _, _, _, _, _, _, _, _, _, _, _, _, _, _, _, _, rfl, pc6.g, pc6.t⟩
    · rintro σ H3 ⟨u2, u3, u4, u5, u6, u7, u8, u9, u10, u11, u12, u13, u14, u15, u16, u17, u18, u19, u20, rfl, g3, t3⟩
      walk_at "run"
      exact q H3
end
end K
set_option Elab.async false
set_option linter.all false
set_option maxRecDepth 100000
set_option maxHeartbeats 4000000
namespace K
open PySem PySem.Spec PyProof.Rows L2 Evl FB LamX
def rzB (K : PySem.W.Frag) (C : Addr) : Bool := PySem.W.excIn K C [.type "ValueError", .type "Exception", .type "BaseException", .type "object"] "ValueError.__new__" && (PySem.W.keepIn K (.ref C) && (decide (PySem.W.subIn K (.ref C) (.type "BaseException") = some true) && decide (PySem.W.typeIn K (.ref C) = some (.type "type"))))
theorem rz_ok {K : PySem.W.Frag} {mg : Str → Option Value} {x : Str} {C : Addr} (g : mg x = some (.ref C)) (h : rzB K C = true) : Rz K mg x C := by
  unfold rzB at h
  simp only [Bool.and_eq_true, decide_eq_true_eq] at h
  exact ⟨h.1, g, h.2.1, h.2.2.1, h.2.2.2⟩
def ercB (K : PySem.W.Frag) (D : Addr) : Bool := (PySem.W.clsIn K D).isSome && (decide (PySem.W.findIn K (.ref D) "__getattribute__" = some (some (.builtin "BaseException.__getattribute__"))) && (decide (PySem.W.findIn K (.ref D) "__getattr__" = some none) && (decide (PySem.W.subIn K (.ref D) (.type "BaseException") = some true) && (decide (PySem.W.findIn K (.ref D) "__class__" = some (some (.builtin "object.__class__"))) && (decide (PySem.W.specialIn K (.builtin "object.__class__") "__get__" = some (some (.builtin "getset_descriptor.__get__"))) && (decide (PySem.W.takesIn K (.builtin "object.__class__") = some true) && decide (PySem.W.mroIn K D (.type "object") = some true)))))))
theorem erc_ok {K : PySem.W.Frag} {D : Addr} (h : ercB K D = true) : ErC K D := by
  unfold ercB at h
  simp only [Bool.and_eq_true, decide_eq_true_eq] at h
  obtain ⟨a, b, c, d, e, f, g, i⟩ := h
  exact ⟨a, b, c, d, e, f, g, i⟩
def errB (K : PySem.W.Frag) (CF : Addr) (Cs : List Addr) : Bool :=
  (List.range 13).all (fun i => ercB K (Cs.getD i 0) && (decide (PySem.W.kitOne K (.ref (Cs.getD i 0)) (.type "ValueError") = some true) && decide (PySem.W.exmOne K (.ref (Cs.getD i 0)) (.ref CF) = some true))) &&
  ((List.range 13).all (fun i => (List.range 13).all fun j => decide (PySem.W.kitOne K (.ref (Cs.getD i 0)) (.ref (Cs.getD j 0)) = some (decide (i = j)))) &&
  (xfB K (Cs.getD 0 0) && (decide (PySem.W.findIn K (.ref (Cs.getD 0 0)) "station" = some none) && (decide (PySem.W.findIn K (.ref (Cs.getD 0 0)) "seat" = some none) && (PySem.W.keepIn K (.ref (Cs.getD 0 0)) && (decide (PySem.W.subIn K (.ref (Cs.getD 0 0)) (.type "BaseException") = some true) && decide (PySem.W.typeIn K (.ref (Cs.getD 0 0)) = some (.type "type"))))))))
structure ErrF (K : PySem.W.Frag) (CF : Addr) (C : Nat → Addr) : Prop where
  c : ∀ i, i < 13 → ErC K (C i)
  isv : ∀ i, i < 13 → PySem.W.kitOne K (.ref (C i)) (.type "ValueError") = some true
  exF : ∀ i, i < 13 → PySem.W.exmOne K (.ref (C i)) (.ref CF) = some true
  isi : ∀ i j, i < 13 → j < 13 → PySem.W.kitOne K (.ref (C i)) (.ref (C j)) = some (decide (i = j))
  xf : XfC K (C 0)
  n1 : PySem.W.findIn K (.ref (C 0)) "station" = some none
  n2 : PySem.W.findIn K (.ref (C 0)) "seat" = some none
  k0 : PySem.W.keepIn K (.ref (C 0)) = true
  s0 : PySem.W.subIn K (.ref (C 0)) (.type "BaseException") = some true
  t0 : PySem.W.typeIn K (.ref (C 0)) = some (.type "type")
theorem err_ok {K : PySem.W.Frag} {CF : Addr} {Cs : List Addr} (h : errB K CF Cs = true) : ErrF K CF (fun i => Cs.getD i 0) := by
  unfold errB at h
  simp only [Bool.and_eq_true, decide_eq_true_eq, List.all_eq_true, List.mem_range] at h
  obtain ⟨a, b, c, d, e, f, g, i⟩ := h
  exact ⟨fun j hj => erc_ok (a j hj).1, fun j hj => (a j hj).2.1, fun j hj => (a j hj).2.2, fun j k hj hk => b j hj k hk, xfB_ok c, d, e, f, g, i⟩
theorem all_mk {l : PySem.W.OpenLaw} {w : World} {K : PySem.W.Frag} {h : Heap} {mg : Str → Option Value} {fa : Addr} (X : K.In h) (G : h.Ns mainGlobals mg) (hfa : mg "law" = some (.ref fa))
    {f0 : Addr} {od0 an0 : Option Addr} {sl0 : Array (Option Value)} {oc0 kV0 dc0 pm0 ct0 : Value} {cd0 : Value}
    (a0 : PySem.W.nsIn K mainGlobals "check_count" = some (some (.ref f0)))
    (l0 : K.lookup f0 = some ⟨oc0, od0, .func (PySem.W.fnOf "check_count" "check_count" (defArgs s_check_count) (defBody s_check_count) (defScope s_check_count) .none kV0 dc0 pm0 an0 cd0 ct0), sl0⟩)
    (c0 : PySem.W.codeIn K cd0 "check_count" = true)
    (k0 : PySem.W.keepIn K (.ref f0) = true)
    {f1 : Addr} {od1 an1 : Option Addr} {sl1 : Array (Option Value)} {oc1 kV1 dc1 pm1 ct1 : Value} {cd1 : Value}
    (a1 : PySem.W.nsIn K mainGlobals "is_letters" = some (some (.ref f1)))
    (l1 : K.lookup f1 = some ⟨oc1, od1, .func (PySem.W.fnOf "is_letters" "is_letters" (defArgs s_is_letters) (defBody s_is_letters) (defScope s_is_letters) .none kV1 dc1 pm1 an1 cd1 ct1), sl1⟩)
    (c1 : PySem.W.codeIn K cd1 "is_letters" = true)
    (k1 : PySem.W.keepIn K (.ref f1) = true)
    {f2 : Addr} {od2 an2 : Option Addr} {sl2 : Array (Option Value)} {oc2 kV2 dc2 pm2 ct2 : Value} {cd2 : Value}
    (a2 : PySem.W.nsIn K mainGlobals "is_word" = some (some (.ref f2)))
    (l2 : K.lookup f2 = some ⟨oc2, od2, .func (PySem.W.fnOf "is_word" "is_word" (defArgs s_is_word) (defBody s_is_word) (defScope s_is_word) .none kV2 dc2 pm2 an2 cd2 ct2), sl2⟩)
    (c2 : PySem.W.codeIn K cd2 "is_word" = true)
    (k2 : PySem.W.keepIn K (.ref f2) = true)
    {f3 : Addr} {od3 an3 : Option Addr} {sl3 : Array (Option Value)} {oc3 kV3 dc3 pm3 ct3 : Value} {cd3 : Value}
    (a3 : PySem.W.nsIn K mainGlobals "is_place" = some (some (.ref f3)))
    (l3 : K.lookup f3 = some ⟨oc3, od3, .func (PySem.W.fnOf "is_place" "is_place" (defArgs s_is_place) (defBody s_is_place) (defScope s_is_place) .none kV3 dc3 pm3 an3 cd3 ct3), sl3⟩)
    (c3 : PySem.W.codeIn K cd3 "is_place" = true)
    (k3 : PySem.W.keepIn K (.ref f3) = true)
    {f4 : Addr} {od4 an4 : Option Addr} {sl4 : Array (Option Value)} {oc4 kV4 dc4 pm4 ct4 : Value} {cd4 : Value}
    (a4 : PySem.W.nsIn K mainGlobals "check_network" = some (some (.ref f4)))
    (l4 : K.lookup f4 = some ⟨oc4, od4, .func (PySem.W.fnOf "check_network" "check_network" (defArgs s_check_network) (defBody s_check_network) (defScope s_check_network) .none kV4 dc4 pm4 an4 cd4 ct4), sl4⟩)
    (c4 : PySem.W.codeIn K cd4 "check_network" = true)
    (k4 : PySem.W.keepIn K (.ref f4) = true)
    {f5 : Addr} {od5 an5 : Option Addr} {sl5 : Array (Option Value)} {oc5 kV5 dc5 pm5 ct5 : Value} {cd5 : Value}
    (a5 : PySem.W.nsIn K mainGlobals "check_state" = some (some (.ref f5)))
    (l5 : K.lookup f5 = some ⟨oc5, od5, .func (PySem.W.fnOf "check_state" "check_state" (defArgs s_check_state) (defBody s_check_state) (defScope s_check_state) .none kV5 dc5 pm5 an5 cd5 ct5), sl5⟩)
    (c5 : PySem.W.codeIn K cd5 "check_state" = true)
    (k5 : PySem.W.keepIn K (.ref f5) = true)
    {f6 : Addr} {od6 an6 : Option Addr} {sl6 : Array (Option Value)} {oc6 kV6 dc6 pm6 ct6 : Value} {cd6 : Value}
    (a6 : PySem.W.nsIn K mainGlobals "check_passengers" = some (some (.ref f6)))
    (l6 : K.lookup f6 = some ⟨oc6, od6, .func (PySem.W.fnOf "check_passengers" "check_passengers" (defArgs s_check_passengers) (defBody s_check_passengers) (defScope s_check_passengers) .none kV6 dc6 pm6 an6 cd6 ct6), sl6⟩)
    (c6 : PySem.W.codeIn K cd6 "check_passengers" = true)
    (k6 : PySem.W.keepIn K (.ref f6) = true)
    {f7 : Addr} {od7 an7 : Option Addr} {sl7 : Array (Option Value)} {oc7 kV7 dc7 pm7 ct7 : Value} {cd7 : Value}
    (a7 : PySem.W.nsIn K mainGlobals "list_finished" = some (some (.ref f7)))
    (l7 : K.lookup f7 = some ⟨oc7, od7, .func (PySem.W.fnOf "list_finished" "list_finished" (defArgs s_list_finished) (defBody s_list_finished) (defScope s_list_finished) .none kV7 dc7 pm7 an7 cd7 ct7), sl7⟩)
    (c7 : PySem.W.codeIn K cd7 "list_finished" = true)
    (k7 : PySem.W.keepIn K (.ref f7) = true)
    {f8 : Addr} {od8 an8 : Option Addr} {sl8 : Array (Option Value)} {oc8 kV8 dc8 pm8 ct8 : Value} {cd8 : Value}
    (a8 : PySem.W.nsIn K mainGlobals "join_queue" = some (some (.ref f8)))
    (l8 : K.lookup f8 = some ⟨oc8, od8, .func (PySem.W.fnOf "join_queue" "join_queue" (defArgs s_join_queue) (defBody s_join_queue) (defScope s_join_queue) .none kV8 dc8 pm8 an8 cd8 ct8), sl8⟩)
    (c8 : PySem.W.codeIn K cd8 "join_queue" = true)
    (k8 : PySem.W.keepIn K (.ref f8) = true)
    {f9 : Addr} {od9 an9 : Option Addr} {sl9 : Array (Option Value)} {oc9 kV9 dc9 pm9 ct9 : Value} {cd9 : Value}
    (a9 : PySem.W.nsIn K mainGlobals "depart" = some (some (.ref f9)))
    (l9 : K.lookup f9 = some ⟨oc9, od9, .func (PySem.W.fnOf "depart" "depart" (defArgs s_depart) (defBody s_depart) (defScope s_depart) .none kV9 dc9 pm9 an9 cd9 ct9), sl9⟩)
    (c9 : PySem.W.codeIn K cd9 "depart" = true)
    (k9 : PySem.W.keepIn K (.ref f9) = true)
    {f10 : Addr} {od10 an10 : Option Addr} {sl10 : Array (Option Value)} {oc10 kV10 dc10 pm10 ct10 : Value} {cd10 : Value}
    (a10 : PySem.W.nsIn K mainGlobals "first_difference" = some (some (.ref f10)))
    (l10 : K.lookup f10 = some ⟨oc10, od10, .func (PySem.W.fnOf "first_difference" "first_difference" (defArgs s_first_difference) (defBody s_first_difference) (defScope s_first_difference) .none kV10 dc10 pm10 an10 cd10 ct10), sl10⟩)
    (c10 : PySem.W.codeIn K cd10 "first_difference" = true)
    (k10 : PySem.W.keepIn K (.ref f10) = true)
    {f11 : Addr} {od11 an11 : Option Addr} {sl11 : Array (Option Value)} {oc11 kV11 dc11 pm11 ct11 : Value} {cd11 : Value}
    (a11 : PySem.W.nsIn K mainGlobals "let_arrive" = some (some (.ref f11)))
    (l11 : K.lookup f11 = some ⟨oc11, od11, .func (PySem.W.fnOf "let_arrive" "let_arrive" (defArgs s_let_arrive) (defBody s_let_arrive) (defScope s_let_arrive) .none kV11 dc11 pm11 an11 cd11 ct11), sl11⟩)
    (c11 : PySem.W.codeIn K cd11 "let_arrive" = true)
    (k11 : PySem.W.keepIn K (.ref f11) = true)
    {f12 : Addr} {od12 an12 : Option Addr} {sl12 : Array (Option Value)} {oc12 kV12 dc12 pm12 ct12 : Value} {cd12 : Value}
    (a12 : PySem.W.nsIn K mainGlobals "_law_mix" = some (some (.ref f12)))
    (l12 : K.lookup f12 = some ⟨oc12, od12, .func (PySem.W.fnOf "_law_mix" "_law_mix" (defArgs s_l_mix) (defBody s_l_mix) (defScope s_l_mix) .none kV12 dc12 pm12 an12 cd12 ct12), sl12⟩)
    (c12 : PySem.W.codeIn K cd12 "_law_mix" = true)
    (k12 : PySem.W.keepIn K (.ref f12) = true)
    {f13 : Addr} {od13 an13 : Option Addr} {sl13 : Array (Option Value)} {oc13 kV13 dc13 pm13 ct13 : Value} {cd13 : Value}
    (a13 : PySem.W.nsIn K mainGlobals "_law_next" = some (some (.ref f13)))
    (l13 : K.lookup f13 = some ⟨oc13, od13, .func (PySem.W.fnOf "_law_next" "_law_next" (defArgs s_l_next) (defBody s_l_next) (defScope s_l_next) .none kV13 dc13 pm13 an13 cd13 ct13), sl13⟩)
    (c13 : PySem.W.codeIn K cd13 "_law_next" = true)
    (k13 : PySem.W.keepIn K (.ref f13) = true)
    {f14 : Addr} {od14 an14 : Option Addr} {sl14 : Array (Option Value)} {oc14 kV14 dc14 pm14 ct14 : Value} {cd14 : Value}
    (a14 : PySem.W.nsIn K mainGlobals "_law_alike" = some (some (.ref f14)))
    (l14 : K.lookup f14 = some ⟨oc14, od14, .func (PySem.W.fnOf "_law_alike" "_law_alike" (defArgs s_l_alike) (defBody s_l_alike) (defScope s_l_alike) .none kV14 dc14 pm14 an14 cd14 ct14), sl14⟩)
    (c14 : PySem.W.codeIn K cd14 "_law_alike" = true)
    (k14 : PySem.W.keepIn K (.ref f14) = true)
    {f15 : Addr} {od15 an15 : Option Addr} {sl15 : Array (Option Value)} {oc15 kV15 dc15 pm15 ct15 : Value} {cd15 : Value}
    (a15 : PySem.W.nsIn K mainGlobals "_law_error" = some (some (.ref f15)))
    (l15 : K.lookup f15 = some ⟨oc15, od15, .func (PySem.W.fnOf "_law_error" "_law_error" (defArgs s_l_error) (defBody s_l_error) (defScope s_l_error) .none kV15 dc15 pm15 an15 cd15 ct15), sl15⟩)
    (c15 : PySem.W.codeIn K cd15 "_law_error" = true)
    (k15 : PySem.W.keepIn K (.ref f15) = true)
    {f16 : Addr} {od16 an16 : Option Addr} {sl16 : Array (Option Value)} {oc16 kV16 dc16 pm16 ct16 : Value} {cd16 : Value}
    (a16 : PySem.W.nsIn K mainGlobals "_law_place" = some (some (.ref f16)))
    (l16 : K.lookup f16 = some ⟨oc16, od16, .func (PySem.W.fnOf "_law_place" "_law_place" (defArgs s_l_place) (defBody s_l_place) (defScope s_l_place) .none kV16 dc16 pm16 an16 cd16 ct16), sl16⟩)
    (c16 : PySem.W.codeIn K cd16 "_law_place" = true)
    (k16 : PySem.W.keepIn K (.ref f16) = true)
    {f17 : Addr} {od17 an17 : Option Addr} {sl17 : Array (Option Value)} {oc17 kV17 dc17 pm17 ct17 : Value} {cd17 : Value}
    (a17 : PySem.W.nsIn K mainGlobals "_law_network" = some (some (.ref f17)))
    (l17 : K.lookup f17 = some ⟨oc17, od17, .func (PySem.W.fnOf "_law_network" "_law_network" (defArgs s_l_network) (defBody s_l_network) (defScope s_l_network) .none kV17 dc17 pm17 an17 cd17 ct17), sl17⟩)
    (c17 : PySem.W.codeIn K cd17 "_law_network" = true)
    (k17 : PySem.W.keepIn K (.ref f17) = true)
    {f18 : Addr} {od18 an18 : Option Addr} {sl18 : Array (Option Value)} {oc18 kV18 dc18 pm18 ct18 : Value} {cd18 : Value}
    (a18 : PySem.W.nsIn K mainGlobals "_law_join" = some (some (.ref f18)))
    (l18 : K.lookup f18 = some ⟨oc18, od18, .func (PySem.W.fnOf "_law_join" "_law_join" (defArgs s_l_join) (defBody s_l_join) (defScope s_l_join) .none kV18 dc18 pm18 an18 cd18 ct18), sl18⟩)
    (c18 : PySem.W.codeIn K cd18 "_law_join" = true)
    (k18 : PySem.W.keepIn K (.ref f18) = true)
    {f19 : Addr} {od19 an19 : Option Addr} {sl19 : Array (Option Value)} {oc19 kV19 dc19 pm19 ct19 : Value} {cd19 : Value}
    (a19 : PySem.W.nsIn K mainGlobals "_law_depart" = some (some (.ref f19)))
    (l19 : K.lookup f19 = some ⟨oc19, od19, .func (PySem.W.fnOf "_law_depart" "_law_depart" (defArgs s_l_depart) (defBody s_l_depart) (defScope s_l_depart) .none kV19 dc19 pm19 an19 cd19 ct19), sl19⟩)
    (c19 : PySem.W.codeIn K cd19 "_law_depart" = true)
    (k19 : PySem.W.keepIn K (.ref f19) = true)
    {f20 : Addr} {od20 an20 : Option Addr} {sl20 : Array (Option Value)} {oc20 kV20 dc20 pm20 ct20 : Value} {cd20 : Value}
    (a20 : PySem.W.nsIn K mainGlobals "_law_state" = some (some (.ref f20)))
    (l20 : K.lookup f20 = some ⟨oc20, od20, .func (PySem.W.fnOf "_law_state" "_law_state" (defArgs s_l_state) (defBody s_l_state) (defScope s_l_state) .none kV20 dc20 pm20 an20 cd20 ct20), sl20⟩)
    (c20 : PySem.W.codeIn K cd20 "_law_state" = true)
    (k20 : PySem.W.keepIn K (.ref f20) = true)
    {f21 : Addr} {od21 an21 : Option Addr} {sl21 : Array (Option Value)} {oc21 kV21 dc21 pm21 ct21 : Value} {cd21 : Value}
    (a21 : PySem.W.nsIn K mainGlobals "_law_finished" = some (some (.ref f21)))
    (l21 : K.lookup f21 = some ⟨oc21, od21, .func (PySem.W.fnOf "_law_finished" "_law_finished" (defArgs s_l_finished) (defBody s_l_finished) (defScope s_l_finished) .none kV21 dc21 pm21 an21 cd21 ct21), sl21⟩)
    (c21 : PySem.W.codeIn K cd21 "_law_finished" = true)
    (k21 : PySem.W.keepIn K (.ref f21) = true)
    {f22 : Addr} {od22 an22 : Option Addr} {sl22 : Array (Option Value)} {oc22 kV22 dc22 pm22 ct22 : Value} {cd22 : Value}
    (a22 : PySem.W.nsIn K mainGlobals "_law_late_right" = some (some (.ref f22)))
    (l22 : K.lookup f22 = some ⟨oc22, od22, .func (PySem.W.fnOf "_law_late_right" "_law_late_right" (defArgs s_l_late_right) (defBody s_l_late_right) (defScope s_l_late_right) .none kV22 dc22 pm22 an22 cd22 ct22), sl22⟩)
    (c22 : PySem.W.codeIn K cd22 "_law_late_right" = true)
    (k22 : PySem.W.keepIn K (.ref f22) = true)
    {f23 : Addr} {od23 an23 : Option Addr} {sl23 : Array (Option Value)} {oc23 kV23 dc23 pm23 ct23 : Value} {q23 P23 : Addr}
    (a23 : PySem.W.nsIn K mainGlobals "law" = some (some (.ref f23)))
    (l23 : K.lookup f23 = some ⟨oc23, od23, .func (PySem.W.fnOf "law" "law" (defArgs s_law) (defBody s_law) (defScope s_law) .none kV23 dc23 pm23 an23 (.ref q23) ct23), sl23⟩)
    (c23 : PySem.W.codeIn K (.ref q23) "law" = true)
    (k23 : PySem.W.keepIn K (.ref f23) = true)
    (t23 : PySem.W.tabIn K "law" = some (q23, P23))
    (u23 : K.lookup P23 = none)
    {t_0 : Nat}
    (m0 : PySem.W.nsIn K mainGlobals "MAX_STATIONS" = some (some (.int 40 t_0)))
    {t_1 : Nat}
    (m1 : PySem.W.nsIn K mainGlobals "MAX_SEATS" = some (some (.int 8 t_1)))
    {t_2 : Nat}
    (m2 : PySem.W.nsIn K mainGlobals "MAX_LETTERS" = some (some (.int 8 t_2)))
    {t_3 : Nat}
    (m3 : PySem.W.nsIn K mainGlobals "MAX_COMPARED" = some (some (.int 2000 t_3)))
    (z0 : PySem.W.nsIn K mainGlobals "range" = some none)
    (z1 : PySem.W.nsIn K mainGlobals "tuple" = some none)
    (z2 : PySem.W.nsIn K mainGlobals "min" = some none)
    (z3 : PySem.W.nsIn K mainGlobals "isinstance" = some none)
    (z4 : PySem.W.nsIn K mainGlobals "str" = some none)
    (z5 : PySem.W.nsIn K mainGlobals "dict" = some none)
    (z6 : PySem.W.nsIn K mainGlobals "bool" = some none)
    (z7 : PySem.W.nsIn K mainGlobals "sorted" = some none)
    (z8 : PySem.W.nsIn K mainGlobals "set" = some none)
    (z9 : PySem.W.nsIn K mainGlobals "enumerate" = some none)
    (z10 : PySem.W.nsIn K mainGlobals "all" = some none)
    (z11 : PySem.W.nsIn K mainGlobals "len" = some none)
    (z12 : PySem.W.nsIn K mainGlobals "list" = some none)
    (z13 : PySem.W.nsIn K mainGlobals "int" = some none)
    (z14 : PySem.W.nsIn K mainGlobals "max" = some none)
    (z15 : PySem.W.nsIn K mainGlobals "sum" = some none)
    (z16 : PySem.W.nsIn K mainGlobals "zip" = some none)
    (z17 : PySem.W.nsIn K mainGlobals "abs" = some none)
    (z18 : PySem.W.nsIn K mainGlobals "reversed" = some none)
    (z19 : PySem.W.nsIn K mainGlobals "any" = some none)
    {CF : Addr} {fI : Addr} {C0 C1 C2 C3 C4 C5 C6 C7 C8 C9 C10 C11 C12 : Addr}
    (eF : PySem.W.nsIn K mainGlobals "FerryError" = some (some (.ref CF)))
    (e0 : PySem.W.nsIn K mainGlobals "InvalidNetwork" = some (some (.ref C0)))
    (e1 : PySem.W.nsIn K mainGlobals "InvalidState" = some (some (.ref C1)))
    (e2 : PySem.W.nsIn K mainGlobals "InvalidCount" = some (some (.ref C2)))
    (e3 : PySem.W.nsIn K mainGlobals "UnknownStation" = some (some (.ref C3)))
    (e4 : PySem.W.nsIn K mainGlobals "UnknownSeat" = some (some (.ref C4)))
    (e5 : PySem.W.nsIn K mainGlobals "UnknownPort" = some (some (.ref C5)))
    (e6 : PySem.W.nsIn K mainGlobals "UnknownPassenger" = some (some (.ref C6)))
    (e7 : PySem.W.nsIn K mainGlobals "EmptyBoat" = some (some (.ref C7)))
    (e8 : PySem.W.nsIn K mainGlobals "InvalidRates" = some (some (.ref C8)))
    (e9 : PySem.W.nsIn K mainGlobals "InvalidLengths" = some (some (.ref C9)))
    (e10 : PySem.W.nsIn K mainGlobals "InvalidPassengers" = some (some (.ref C10)))
    (e11 : PySem.W.nsIn K mainGlobals "TooManyCandidates" = some (some (.ref C11)))
    (e12 : PySem.W.nsIn K mainGlobals "Contradiction" = some (some (.ref C12)))
    (eV : PySem.W.nsIn K mainGlobals "ValueError" = some none)
    (eB : errB K CF [C0, C1, C2, C3, C4, C5, C6, C7, C8, C9, C10, C11, C12] = true)
    (r2 : rzB K C2 = true)
    (r1 : rzB K C1 = true)
    {nm qn : Str} {NN : Addr} {bs bm : List Value} {sn : List Str} {sub : List Value} {ab : Bool} {col : Option Bool} {dd : Option Addr} {k0' k1' k2' k3' k5' : Option Value}
    (lC : K.lookup C0 = some (excClassObj nm qn C0 NN bs bm true sn sub ab col dd k0' k1' k2' k3' k5' "ValueError.__new__"))
    (rC : PySem.HandSPX.refsVE bm = true)
    (iC : PySem.W.findIn K (.ref C0) "__init__" = some (some (.ref fI)))
    (tC : PySem.W.typeIn K (.ref fI) = some (.type "function"))
    (sC : PySem.W.findIn K (.ref C0) "__setattr__" = some (some (.builtin "object.__setattr__")))
    {odI anI : Option Addr} {slI : Array (Option Value)} {ocI kVI dcI pmI cdI ctI : Value}
    (lI : K.lookup fI = some ⟨ocI, odI, .func (PySem.W.fnOf "__init__" "InvalidNetwork.__init__" (defArgs s_init) (defBody s_init) (defScope s_init) .none kVI dcI pmI anI cdI ctI), slI⟩)
    (cI : PySem.W.codeIn K cdI "InvalidNetwork.__init__" = true)
    (kI : PySem.W.keepIn K (.ref fI) = true)
    (pd : (true) = true)
    : ∃ (fd : FuncData) (cs : List (Str × Addr × Addr)) (sp : Sp), (∀ p ∈ cs, p.1 ∈ (["law"] : List Str) ∧ PySem.W.tabIn K p.1 = some p.2 ∧ K.lookup p.2.2 = none) ∧ (∀ (s : Shared) (u : Value), BindsTo s fd ⟨[u], []⟩ [("_law_script", u)]) ∧
        (∀ (H : Hp) (a : Addr) (ns : List Int), ns.length ≤ 63 → (∀ p ∈ cs, H p.2.2 = some (.tbl #[])) → SqL K H a (ns.map V.int) → sp [.ref a] H (fun v _ => v = .bl true) fun _ _ _ => False) ∧
        ∀ base : Heap, K.In base → base.Ns mainGlobals mg → (∀ p ∈ cs, TabB base mg p.2.1 p.2.2) → FnOk l.prog w K mg base L2.CX0 22 fa fd ["_law_script"] sp := by
  have e := hfa.symm.trans (PySem.W.mg_of X G a23)
  cases e
  have F0 := fun_mk (st := s_check_count) l0 c0 k0
  have D_check_count : Df K mg "check_count" s_check_count ["count", "least", "most"] f0 _ := ⟨F0, PySem.W.mg_of X G a0, F0.binds (ps := ["count", "least", "most"]) fun _ _ _ _ _ _ us hl => match us, hl with | [_, _, _], _ => rfl⟩
  have F1 := fun_mk (st := s_is_letters) l1 c1 k1
  have D_is_letters : Df K mg "is_letters" s_is_letters ["text"] f1 _ := ⟨F1, PySem.W.mg_of X G a1, F1.binds (ps := ["text"]) fun _ _ _ _ _ _ us hl => match us, hl with | [_], _ => rfl⟩
  have F2 := fun_mk (st := s_is_word) l2 c2 k2
  have D_is_word : Df K mg "is_word" s_is_word ["text"] f2 _ := ⟨F2, PySem.W.mg_of X G a2, F2.binds (ps := ["text"]) fun _ _ _ _ _ _ us hl => match us, hl with | [_], _ => rfl⟩
  have F3 := fun_mk (st := s_is_place) l3 c3 k3
  have D_is_place : Df K mg "is_place" s_is_place ["place", "station", "stations"] f3 _ := ⟨F3, PySem.W.mg_of X G a3, F3.binds (ps := ["place", "station", "stations"]) fun _ _ _ _ _ _ us hl => match us, hl with | [_, _, _], _ => rfl⟩
  have F4 := fun_mk (st := s_check_network) l4 c4 k4
  have D_check_network : Df K mg "check_network" s_check_network ["network"] f4 _ := ⟨F4, PySem.W.mg_of X G a4, F4.binds (ps := ["network"]) fun _ _ _ _ _ _ us hl => match us, hl with | [_], _ => rfl⟩
  have F5 := fun_mk (st := s_check_state) l5 c5 k5
  have D_check_state : Df K mg "check_state" s_check_state ["network", "state"] f5 _ := ⟨F5, PySem.W.mg_of X G a5, F5.binds (ps := ["network", "state"]) fun _ _ _ _ _ _ us hl => match us, hl with | [_, _], _ => rfl⟩
  have F6 := fun_mk (st := s_check_passengers) l6 c6 k6
  have D_check_passengers : Df K mg "check_passengers" s_check_passengers ["next_passenger", "queues"] f6 _ := ⟨F6, PySem.W.mg_of X G a6, F6.binds (ps := ["next_passenger", "queues"]) fun _ _ _ _ _ _ us hl => match us, hl with | [_, _], _ => rfl⟩
  have F7 := fun_mk (st := s_list_finished) l7 c7 k7
  have D_list_finished : Df K mg "list_finished" s_list_finished ["events"] f7 _ := ⟨F7, PySem.W.mg_of X G a7, F7.binds (ps := ["events"]) fun _ _ _ _ _ _ us hl => match us, hl with | [_], _ => rfl⟩
  have F8 := fun_mk (st := s_join_queue) l8 c8 k8
  have D_join_queue : Df K mg "join_queue" s_join_queue ["network", "queues", "station", "passenger", "events"] f8 _ := ⟨F8, PySem.W.mg_of X G a8, F8.binds (ps := ["network", "queues", "station", "passenger", "events"]) fun _ _ _ _ _ _ us hl => match us, hl with | [_, _, _, _, _], _ => rfl⟩
  have F9 := fun_mk (st := s_depart) l9 c9 k9
  have D_depart : Df K mg "depart" s_depart ["network", "queues", "station", "events"] f9 _ := ⟨F9, PySem.W.mg_of X G a9, F9.binds (ps := ["network", "queues", "station", "events"]) fun _ _ _ _ _ _ us hl => match us, hl with | [_, _, _, _], _ => rfl⟩
  have F10 := fun_mk (st := s_first_difference) l10 c10 k10
  have D_first_difference : Df K mg "first_difference" s_first_difference ["network", "state", "other_network", "other_state", "count"] f10 _ := ⟨F10, PySem.W.mg_of X G a10, F10.binds (ps := ["network", "state", "other_network", "other_state", "count"]) fun _ _ _ _ _ _ us hl => match us, hl with | [_, _, _, _, _], _ => rfl⟩
  have F11 := fun_mk (st := s_let_arrive) l11 c11 k11
  have D_let_arrive : Df K mg "let_arrive" s_let_arrive ["network", "queues", "passenger"] f11 _ := ⟨F11, PySem.W.mg_of X G a11, F11.binds (ps := ["network", "queues", "passenger"]) fun _ _ _ _ _ _ us hl => match us, hl with | [_, _, _], _ => rfl⟩
  have F12 := fun_mk (st := s_l_mix) l12 c12 k12
  have D_l_mix : Df K mg "_law_mix" s_l_mix ["_law_script", "_law_seed"] f12 _ := ⟨F12, PySem.W.mg_of X G a12, F12.binds (ps := ["_law_script", "_law_seed"]) fun _ _ _ _ _ _ us hl => match us, hl with | [_, _], _ => rfl⟩
  have F13 := fun_mk (st := s_l_next) l13 c13 k13
  have D_l_next : Df K mg "_law_next" s_l_next ["_law_h", "_law_limit"] f13 _ := ⟨F13, PySem.W.mg_of X G a13, F13.binds (ps := ["_law_h", "_law_limit"]) fun _ _ _ _ _ _ us hl => match us, hl with | [_, _], _ => rfl⟩
  have F14 := fun_mk (st := s_l_alike) l14 c14 k14
  have D_l_alike : Df K mg "_law_alike" s_l_alike ["_law_found", "_law_due"] f14 _ := ⟨F14, PySem.W.mg_of X G a14, F14.binds (ps := ["_law_found", "_law_due"]) fun _ _ _ _ _ _ us hl => match us, hl with | [_, _], _ => rfl⟩
  have F15 := fun_mk (st := s_l_error) l15 c15 k15
  have D_l_error : Df K mg "_law_error" s_l_error ["_law_call"] f15 _ := ⟨F15, PySem.W.mg_of X G a15, F15.binds (ps := ["_law_call"]) fun _ _ _ _ _ _ us hl => match us, hl with | [_], _ => rfl⟩
  have F16 := fun_mk (st := s_l_place) l16 c16 k16
  have D_l_place : Df K mg "_law_place" s_l_place ["_law_h", "_law_station", "_law_count"] f16 _ := ⟨F16, PySem.W.mg_of X G a16, F16.binds (ps := ["_law_h", "_law_station", "_law_count"]) fun _ _ _ _ _ _ us hl => match us, hl with | [_, _, _], _ => rfl⟩
  have F17 := fun_mk (st := s_l_network) l17 c17 k17
  have D_l_network : Df K mg "_law_network" s_l_network ["_law_h", "_law_most"] f17 _ := ⟨F17, PySem.W.mg_of X G a17, F17.binds (ps := ["_law_h", "_law_most"]) fun _ _ _ _ _ _ us hl => match us, hl with | [_, _], _ => rfl⟩
  have F18 := fun_mk (st := s_l_join) l18 c18 k18
  have D_l_join : Df K mg "_law_join" s_l_join ["_law_network_here", "_law_queues", "_law_station", "_law_passenger", "_law_finished_here"] f18 _ := ⟨F18, PySem.W.mg_of X G a18, F18.binds (ps := ["_law_network_here", "_law_queues", "_law_station", "_law_passenger", "_law_finished_here"]) fun _ _ _ _ _ _ us hl => match us, hl with | [_, _, _, _, _], _ => rfl⟩
  have F19 := fun_mk (st := s_l_depart) l19 c19 k19
  have D_l_depart : Df K mg "_law_depart" s_l_depart ["_law_network_here", "_law_queues", "_law_station", "_law_finished_here"] f19 _ := ⟨F19, PySem.W.mg_of X G a19, F19.binds (ps := ["_law_network_here", "_law_queues", "_law_station", "_law_finished_here"]) fun _ _ _ _ _ _ us hl => match us, hl with | [_, _, _, _], _ => rfl⟩
  have F20 := fun_mk (st := s_l_state) l20 c20 k20
  have D_l_state : Df K mg "_law_state" s_l_state ["_law_h", "_law_network_here", "_law_most"] f20 _ := ⟨F20, PySem.W.mg_of X G a20, F20.binds (ps := ["_law_h", "_law_network_here", "_law_most"]) fun _ _ _ _ _ _ us hl => match us, hl with | [_, _, _], _ => rfl⟩
  have F21 := fun_mk (st := s_l_finished) l21 c21 k21
  have D_l_finished : Df K mg "_law_finished" s_l_finished ["_law_network_here", "_law_state_here", "_law_count"] f21 _ := ⟨F21, PySem.W.mg_of X G a21, F21.binds (ps := ["_law_network_here", "_law_state_here", "_law_count"]) fun _ _ _ _ _ _ us hl => match us, hl with | [_, _, _], _ => rfl⟩
  have F22 := fun_mk (st := s_l_late_right) l22 c22 k22
  have D_l_late_right : Df K mg "_law_late_right" s_l_late_right ["_law_h"] f22 _ := ⟨F22, PySem.W.mg_of X G a22, F22.binds (ps := ["_law_h"]) fun _ _ _ _ _ _ us hl => match us, hl with | [_], _ => rfl⟩
  have F23 := fun_mk (st := s_law) l23 c23 k23
  have g_MAX_STATIONS : ∃ t, mg "MAX_STATIONS" = some (.int 40 t) := ⟨_, PySem.W.mg_of X G m0⟩
  have g_MAX_SEATS : ∃ t, mg "MAX_SEATS" = some (.int 8 t) := ⟨_, PySem.W.mg_of X G m1⟩
  have g_MAX_LETTERS : ∃ t, mg "MAX_LETTERS" = some (.int 8 t) := ⟨_, PySem.W.mg_of X G m2⟩
  have g_MAX_COMPARED : ∃ t, mg "MAX_COMPARED" = some (.int 2000 t) := ⟨_, PySem.W.mg_of X G m3⟩
  have T : Bt mg := ⟨PySem.W.mg_none_of X G z0, PySem.W.mg_none_of X G z1, PySem.W.mg_none_of X G z2, PySem.W.mg_none_of X G z3, PySem.W.mg_none_of X G z4, PySem.W.mg_none_of X G z5, PySem.W.mg_none_of X G z6, PySem.W.mg_none_of X G z7, PySem.W.mg_none_of X G z8, PySem.W.mg_none_of X G z9, PySem.W.mg_none_of X G z10, PySem.W.mg_none_of X G z11, PySem.W.mg_none_of X G z12, PySem.W.mg_none_of X G z13, PySem.W.mg_none_of X G z14, PySem.W.mg_none_of X G z15, PySem.W.mg_none_of X G z16, PySem.W.mg_none_of X G z17, PySem.W.mg_none_of X G z18, PySem.W.mg_none_of X G z19⟩
  have EF := err_ok eB
  generalize hCs : (fun i => ([C0, C1, C2, C3, C4, C5, C6, C7, C8, C9, C10, C11, C12] : List Addr).getD i 0) = C at EF
  have h0 : C 0 = C0 := by rw [← hCs]; rfl
  have h1 : C 1 = C1 := by rw [← hCs]; rfl
  have h2 : C 2 = C2 := by rw [← hCs]; rfl
  have h3 : C 3 = C3 := by rw [← hCs]; rfl
  have h4 : C 4 = C4 := by rw [← hCs]; rfl
  have h5 : C 5 = C5 := by rw [← hCs]; rfl
  have h6 : C 6 = C6 := by rw [← hCs]; rfl
  have h7 : C 7 = C7 := by rw [← hCs]; rfl
  have h8 : C 8 = C8 := by rw [← hCs]; rfl
  have h9 : C 9 = C9 := by rw [← hCs]; rfl
  have h10 : C 10 = C10 := by rw [← hCs]; rfl
  have h11 : C 11 = C11 := by rw [← hCs]; rfl
  have h12 : C 12 = C12 := by rw [← hCs]; rfl
  have R : Errs K mg CF C := ⟨PySem.W.mg_of X G eF, fun i hi => match i, hi with
    | 0, _ => by rw [h0]; exact PySem.W.mg_of X G e0
    | 1, _ => by rw [h1]; exact PySem.W.mg_of X G e1
    | 2, _ => by rw [h2]; exact PySem.W.mg_of X G e2
    | 3, _ => by rw [h3]; exact PySem.W.mg_of X G e3
    | 4, _ => by rw [h4]; exact PySem.W.mg_of X G e4
    | 5, _ => by rw [h5]; exact PySem.W.mg_of X G e5
    | 6, _ => by rw [h6]; exact PySem.W.mg_of X G e6
    | 7, _ => by rw [h7]; exact PySem.W.mg_of X G e7
    | 8, _ => by rw [h8]; exact PySem.W.mg_of X G e8
    | 9, _ => by rw [h9]; exact PySem.W.mg_of X G e9
    | 10, _ => by rw [h10]; exact PySem.W.mg_of X G e10
    | 11, _ => by rw [h11]; exact PySem.W.mg_of X G e11
    | 12, _ => by rw [h12]; exact PySem.W.mg_of X G e12
    , PySem.W.mg_none_of X G eV, EF.c, EF.isi, EF.isv, EF.exF, EF.xf, EF.n1, EF.n2⟩
  have Z_InvalidCount : Rz K mg "InvalidCount" (C 2) := by rw [h2]; exact rz_ok (PySem.W.mg_of X G e2) r2
  have Z_InvalidState : Rz K mg "InvalidState" (C 1) := by rw [h1]; exact rz_ok (PySem.W.mg_of X G e1) r1
  have F_I := fun_mk (st := s_init) lI cI kI
  have D_init_b := F_I.binds (ps := ["self", "station", "seat"]) fun _ _ _ _ _ _ us hl => match us, hl with | [_, _, _], _ => rfl
  have N_E : Er K mg "InvalidNetwork" (C 0) fI := by
    have s0 := EF.s0
    have t0 := EF.t0
    have k0 := EF.k0
    rw [h0] at s0 t0 k0 ⊢
    exact ⟨⟨⟨_, _, _, _, _, _, _, _, _, _, _, _, _, _, _, lC, rC⟩, sC, s0, t0, k0⟩, PySem.W.mg_of X G e0, iC, tC⟩
  have pd := pd
  refine ⟨PySem.W.fnOf "law" "law" (defArgs s_law) (defBody s_law) (defScope s_law) .none kV23 dc23 pm23 an23 (.ref q23) ct23, [("law", q23, P23)], spLawT K [(P23, (("law" : Str) ++ (".<locals>." : Str)) ++ ("<lambda>" : Str))], ?_, fun s v => .of_eq rfl, ?_, fun base _ _ hTB => ?_⟩
  · intro p hp
    simp only [List.mem_cons, List.not_mem_nil, or_false] at hp
    rcases hp with rfl
    · exact ⟨.head _, t23, u23⟩
  · intro H a ns hl hT hS
    refine ⟨a, ns, rfl, hS, hl, fun p hp => ?_, fun _ => rfl⟩
    simp only [List.mem_cons, List.not_mem_nil, or_false] at hp
    rcases hp with rfl
    · exact TabS.nil (hT ("law", q23, P23) (.head _))
  · have F_law := F23
    have TB_law : TabB base mg q23 P23 := hTB ("law", q23, P23) (.head _)
    have hmT_law : (P23, (("law" : Str) ++ (".<locals>." : Str)) ++ ("<lambda>" : Str)) ∈ ([(P23, (("law" : Str) ++ (".<locals>." : Str)) ++ ("<lambda>" : Str))] : List (Addr × Str)) := .head _
    have huT_law : ∀ p ∈ ([(P23, (("law" : Str) ++ (".<locals>." : Str)) ++ ("<lambda>" : Str))] : List (Addr × Str)), p.1 = P23 → p.2 = (("law" : Str) ++ (".<locals>." : Str)) ++ ("<lambda>" : Str) := by
      intro p hp e
      cases hp with
      | head => exact rfl
      | tail _ hp => cases hp
    have Ck : Ct K mg := ⟨g_MAX_LETTERS, g_MAX_SEATS, g_MAX_STATIONS, ⟨_, _, D_is_letters⟩⟩
    have DD : Dfd K mg := ⟨⟨_, _, D_is_word⟩, ⟨_, _, D_is_place⟩, ⟨_, _, D_check_network⟩, ⟨_, _, D_check_passengers⟩, g_MAX_COMPARED⟩
    have G_check : FnOk l.prog w K mg base (L2.CX l.prog w) 4 _ _ ["network"] (spCheck K (C 0)) := ok_check_network D_check_network T Ck D_is_word D_is_place N_E F_I D_init_b EF.n1 EF.n2
    have X_state : FnOk l.prog w K mg base (L2.CX l.prog w) 5 _ _ ["network", "state"] (spStateX K (C 0) (C 1)) := fn_or (fn_lift (ok_check_state D_check_state T Ck D_check_network D_check_passengers D_is_word D_is_place)) (fn_or (ok_check_stateN D_check_state D_check_network G_check) (ok_check_stateS D_check_state T Ck D_check_network D_is_word D_is_place Z_InvalidState))
    have X_count : FnOk l.prog w K mg base (L2.CX l.prog w) 1 _ _ ["count", "least", "most"] (spCountX (C 2)) := ok_check_countX D_check_count Z_InvalidCount
    have G_fd : FnOk l.prog w K mg base CX0 19 _ _ ["network", "state", "other_network", "other_state", "count"] (spFD K) := ok_fd_good D_first_difference T Ck DD D_check_state D_check_count D_let_arrive D_join_queue D_depart D_list_finished
    have X_fd : FnOk l.prog w K mg base (L2.CX l.prog w) 19 _ _ ["network", "state", "other_network", "other_state", "count"] (spFDX K (C 0) (C 1) (C 2)) := ok_fd_bad D_first_difference DD D_check_state D_check_count X_state X_count
    exact ok_law F_law rfl TB_law T R rfl rfl rfl hmT_law huT_law D_l_mix D_l_next D_l_network D_l_alike D_l_error D_l_state D_l_place D_l_finished D_l_late_right D_first_difference (ok_l_network D_l_network T D_l_next D_l_place) (ok_l_state D_l_state T D_l_next D_l_join D_l_depart) (ok_l_finished D_l_finished T D_l_join D_l_depart) (ok_l_late_right D_l_late_right T D_l_next D_first_difference G_fd) G_fd X_fd
end K
open PySem PySem.W PyProof.Rows
set_option maxRecDepth 100000 in
set_option maxHeartbeats 0 in
theorem PySem.Challenge.cw_fullboats_k17_differences_found_holds : PySem.Challenge.rw_fullboats_k17_differences_found.Holds := by
  w_on; o_law; k_head; (case hw => w_witness2)
  k_fill
  refine FB.walk_ofTab (l := PySem.Challenge.rw_fullboats_k17_differences_found) (n := 63) (k := 22) (x := "_law_script") ["law"] rfl (by decide) rfl ⟨rfl, by decide, by decide⟩ (fun w h Y => Y.1) ?RR ?FF
  case RR =>
    intro y hy
    exact Option.isSome_iff_exists.mp (List.all_eq_true.mp (show ((["law"] : List Str).all fun y => ((recsOf _).find? fun e => e.name == y).isSome) = true from by decide +kernel) y hy)
  case FF =>
    intro w mg fa h KX G hmg
    refine' K.all_mk KX G hmg ?a0 ?l0 ?c0 ?k0 ?a1 ?l1 ?c1 ?k1 ?a2 ?l2 ?c2 ?k2 ?a3 ?l3 ?c3 ?k3 ?a4 ?l4 ?c4 ?k4 ?a5 ?l5 ?c5 ?k5 ?a6 ?l6 ?c6 ?k6 ?a7 ?l7 ?c7 ?k7 ?a8 ?l8 ?c8 ?k8 ?a9 ?l9 ?c9 ?k9 ?a10 ?l10 ?c10 ?k10 ?a11 ?l11 ?c11 ?k11 ?a12 ?l12 ?c12 ?k12 ?a13 ?l13 ?c13 ?k13 ?a14 ?l14 ?c14 ?k14 ?a15 ?l15 ?c15 ?k15 ?a16 ?l16 ?c16 ?k16 ?a17 ?l17 ?c17 ?k17 ?a18 ?l18 ?c18 ?k18 ?a19 ?l19 ?c19 ?k19 ?a20 ?l20 ?c20 ?k20 ?a21 ?l21 ?c21 ?k21 ?a22 ?l22 ?c22 ?k22 ?a23 ?l23 ?c23 ?k23 ?t23 ?u23 ?m0 ?m1 ?m2 ?m3 ?z0 ?z1 ?z2 ?z3 ?z4 ?z5 ?z6 ?z7 ?z8 ?z9 ?z10 ?z11 ?z12 ?z13 ?z14 ?z15 ?z16 ?z17 ?z18 ?z19 ?eF ?e0 ?e1 ?e2 ?e3 ?e4 ?e5 ?e6 ?e7 ?e8 ?e9 ?e10 ?e11 ?e12 ?eV ?eB ?r2 ?r1 ?lC ?rC ?iC ?tC ?sC ?lI ?cI ?kI ?pd
    (case a0 => k_is)
    (case l0 => k_is)
    (case c0 => k_is)
    (case k0 => k_is)
    (case a1 => k_is)
    (case l1 => k_is)
    (case c1 => k_is)
    (case k1 => k_is)
    (case a2 => k_is)
    (case l2 => k_is)
    (case c2 => k_is)
    (case k2 => k_is)
    (case a3 => k_is)
    (case l3 => k_is)
    (case c3 => k_is)
    (case k3 => k_is)
    (case a4 => k_is)
    (case l4 => k_is)
    (case c4 => k_is)
    (case k4 => k_is)
    (case a5 => k_is)
    (case l5 => k_is)
    (case c5 => k_is)
    (case k5 => k_is)
    (case a6 => k_is)
    (case l6 => k_is)
    (case c6 => k_is)
    (case k6 => k_is)
    (case a7 => k_is)
    (case l7 => k_is)
    (case c7 => k_is)
    (case k7 => k_is)
    (case a8 => k_is)
    (case l8 => k_is)
    (case c8 => k_is)
    (case k8 => k_is)
    (case a9 => k_is)
    (case l9 => k_is)
    (case c9 => k_is)
    (case k9 => k_is)
    (case a10 => k_is)
    (case l10 => k_is)
    (case c10 => k_is)
    (case k10 => k_is)
    (case a11 => k_is)
    (case l11 => k_is)
    (case c11 => k_is)
    (case k11 => k_is)
    (case a12 => k_is)
    (case l12 => k_is)
    (case c12 => k_is)
    (case k12 => k_is)
    (case a13 => k_is)
    (case l13 => k_is)
    (case c13 => k_is)
    (case k13 => k_is)
    (case a14 => k_is)
    (case l14 => k_is)
    (case c14 => k_is)
    (case k14 => k_is)
    (case a15 => k_is)
    (case l15 => k_is)
    (case c15 => k_is)
    (case k15 => k_is)
    (case a16 => k_is)
    (case l16 => k_is)
    (case c16 => k_is)
    (case k16 => k_is)
    (case a17 => k_is)
    (case l17 => k_is)
    (case c17 => k_is)
    (case k17 => k_is)
    (case a18 => k_is)
    (case l18 => k_is)
    (case c18 => k_is)
    (case k18 => k_is)
    (case a19 => k_is)
    (case l19 => k_is)
    (case c19 => k_is)
    (case k19 => k_is)
    (case a20 => k_is)
    (case l20 => k_is)
    (case c20 => k_is)
    (case k20 => k_is)
    (case a21 => k_is)
    (case l21 => k_is)
    (case c21 => k_is)
    (case k21 => k_is)
    (case a22 => k_is)
    (case l22 => k_is)
    (case c22 => k_is)
    (case k22 => k_is)
    (case a23 => k_is)
    (case l23 => k_is)
    (case c23 => k_is)
    (case k23 => k_is)
    (case t23 => first | k_is | rfl | decide +kernel)
    (case u23 => first | k_is | rfl | decide +kernel)
    (case m0 => k_is)
    (case m1 => k_is)
    (case m2 => k_is)
    (case m3 => k_is)
    (case z0 => k_is)
    (case z1 => k_is)
    (case z2 => k_is)
    (case z3 => k_is)
    (case z4 => k_is)
    (case z5 => k_is)
    (case z6 => k_is)
    (case z7 => k_is)
    (case z8 => k_is)
    (case z9 => k_is)
    (case z10 => k_is)
    (case z11 => k_is)
    (case z12 => k_is)
    (case z13 => k_is)
    (case z14 => k_is)
    (case z15 => k_is)
    (case z16 => k_is)
    (case z17 => k_is)
    (case z18 => k_is)
    (case z19 => k_is)
    (case eF => k_is)
    (case e0 => k_is)
    (case e1 => k_is)
    (case e2 => k_is)
    (case e3 => k_is)
    (case e4 => k_is)
    (case e5 => k_is)
    (case e6 => k_is)
    (case e7 => k_is)
    (case e8 => k_is)
    (case e9 => k_is)
    (case e10 => k_is)
    (case e11 => k_is)
    (case e12 => k_is)
    (case eV => k_is)
    (case eB => first | kernel_rfl | k_is | rfl)
    (case r2 => first | kernel_rfl | k_is | rfl)
    (case r1 => first | kernel_rfl | k_is | rfl)
    (case lC => k_is)
    (case rC => decide +kernel)
    (case iC => k_is)
    (case tC => k_is)
    (case sC => k_is)
    (case lI => k_is)
    (case cI => k_is)
    (case kI => k_is)
    (case pd => decide +kernel)
