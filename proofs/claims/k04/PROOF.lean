import PyProof.Rows.All
import Wide.All
import OpenK.AllK
import Wide.FinOn
import HandS.ForMost
import HandS.ForExc
import HandS.Evl
import HandS.IsInst
import HandS.TupAny
import HandS.TupMul
import HandS.SetKeys
import HandS.Walk
import KE.GoesEnum
import HandS.ExcInit
import HandS.DictComp
import HandS.Zip
import HandS.Conv
import HandS.Style
import HandS.WordsDict
import HandS.Set
import HandS.Strs
import KE.KExcIs
import HandS.Lambda
import HandS.Exc
import HandS.ExcField
import HandS.ExcOwn
import HandS.SetFor
import HandS.Gcd
import HandS.Wide
import HandS.DeepEq
import KE.KSetDisp
import KE.KMathGC
import PyProof.Rows.SortShellAny
import KE.KDictList
import HandS.TupSets
import HandS.Deep
import HandS.RevRange
import HandS.Small
import PySem.Challenge.RW_fullboats_k04_whole_boats_and_passengers
set_option Elab.async false
set_option linter.all false
set_option maxRecDepth 100000
set_option maxHeartbeats 4000000
/-! One rule an operator sign: which of the readings it is, the values tell. -/
namespace FB
open PySem PySem.Spec PyProof.Rows L2 Evl
section
variable {X : Cx}
theorem orOp {f : Value → Value → Sem Value} {r r' : R2} (h : OpR X f r) (h' : OpR X f r') : OpR X f (fun x y H Q => r x y H Q ∨ r' x y H Q) := fun pins s σ H x y v u Q I rx ry q =>
  q.elim (h pins s σ H x y v u Q I rx ry) (h' pins s σ H x y v u Q I rx ry)
theorem orCall {f : Value} {r r' : List V → Hp → VK → Prop} (h : CallR X f r) (h' : CallR X f r') : CallR X f (fun x H Q => r x H Q ∨ r' x H Q) := fun pins s σ H xs us Q I r q =>
  q.elim (h pins s σ H xs us Q I r) (h' pins s σ H xs us Q I r)
/-- a + b of ints, texts, lists, tuples -/
def rAddS2 : R2 := fun x y H Q => ∃ i j, x = .str i ∧ y = .str j ∧ i.length + j.length ≤ sizeLine ∧ Q (.str (i ++ j)) H
def rAddU (K : PySem.W.Frag) : R2 := fun x y H Q => (rI0 (fun i j => .int (i + j)) x y H Q ∨ rCat x y H Q) ∨ rCatA K x y H Q
theorem op_addU {K : PySem.W.Frag} (hK : X.K = K := by rfl) : OpR X (binaryOp .Add) (rAddU K) := by subst hK; exact orOp (orOp op_add op_cat) op_catA
def rMulU (K : PySem.W.Frag) : R2 := fun x y H Q => (rI CMul (fun i j => .int (i * j)) x y H Q ∨ rRep x y H Q) ∨ rRepT K x y H Q
theorem op_mulU {K : PySem.W.Frag} (hK : X.K = K := by rfl) : OpR X (binaryOp .Mult) (rMulU K) := by subst hK; exact orOp (orOp op_mul op_rep) op_repT
def rLtU : R2 := fun x y H Q => rI0 (fun i j => .bl (decide (i < j))) x y H Q ∨ (∃ i j, x = .str i ∧ y = .str j ∧ Q (.bl (decide (i.cps.toList < j.cps.toList))) H)
theorem op_ltU : OpR X (compareOp .Lt) rLtU := orOp op_lt op_lt_str
def rLeU : R2 := fun x y H Q => rI0 (fun i j => .bl (decide (i ≤ j))) x y H Q ∨ (∃ i j, x = .str i ∧ y = .str j ∧ Q (.bl (!decide (j.cps.toList < i.cps.toList))) H)
theorem op_leU : OpR X (compareOp .LtE) rLeU := orOp op_le op_le_str
abbrev rGtU : R2 := rI0 (fun i j => .bl (decide (j < i)))
theorem op_gtU : OpR X (compareOp .Gt) rGtU := op_gt
abbrev rGeU : R2 := rI0 (fun i j => .bl (decide (j ≤ i)))
theorem op_geU : OpR X (compareOp .GtE) rGeU := op_ge
def rEqU (K : PySem.W.Frag) : R2 := fun x y H Q => rEq x y H Q ∨ rEqD K x y H Q
theorem op_eqU {K : PySem.W.Frag} (hu : X.A.units + 64 < cLine) (hK : X.K = K := by rfl) : OpR X (compareOp .Eq) (rEqU K) := by subst hK; exact orOp op_eq (op_eqD hu)
def rNeU (K : PySem.W.Frag) : R2 := fun x y H Q => rNe x y H Q ∨ rNeD K x y H Q
theorem op_neU {K : PySem.W.Frag} (hu : X.A.units + 64 < cLine) (hK : X.K = K := by rfl) : OpR X (compareOp .NotEq) (rNeU K) := by subst hK; exact orOp op_ne (op_neD hu)
def rInU (K : PySem.W.Frag) (P : Program) (w : World) (neg : Bool) : R2 := fun x y H Q => rIn K neg x y H Q ∨ rSInK P w neg x y H Q
theorem op_inU {K : PySem.W.Frag} {P : Program} {w : World} (hK : X.K = K := by rfl) (hP : X.prog = P := by rfl) (hw : X.w = w := by rfl) : OpR X (compareOp .In) (rInU K P w false) := by subst hK hP hw; exact orOp op_in_seq or_sinK
theorem op_notInU {K : PySem.W.Frag} {P : Program} {w : World} (hK : X.K = K := by rfl) (hP : X.prog = P := by rfl) (hw : X.w = w := by rfl) : OpR X (compareOp .NotIn) (rInU K P w true) := by subst hK hP hw; exact orOp op_notIn_seq or_snotinK
theorem ix_U {K : PySem.W.Frag} (hK : X.K = K := by rfl) : IxR X (rIx K) := by subst hK; exact ix_seq
def rSlU (K : PySem.W.Frag) : V → Option Int → Option Int → Hp → VK → Prop := fun x lo hi H Q => rSlL K x lo hi H Q ∨ rSlA K x lo hi H Q
theorem sl_U {K : PySem.W.Frag} (hK : X.K = K := by rfl) : SlR X (rSlU K) := by subst hK; exact SlR.or sl_list sl_tupA
def rLenU (K : PySem.W.Frag) : List V → Hp → VK → Prop := fun xs H Q => ∃ x n, xs = [x] ∧ LenV K x H n ∧ Q (.int (n : Nat)) H
theorem call_lenU {K : PySem.W.Frag} (hK : X.K = K := by rfl) : CallR X (.builtin "len") (rLenU K) := by subst hK; exact call_len
def rIsiU (K : PySem.W.Frag) : List V → Hp → VK → Prop := fun xs H Q => rIsi K xs H Q ∨ rIsiT K xs H Q
theorem call_isiU {K : PySem.W.Frag} (hK : X.K = K := by rfl) : CallR X (.builtin "isinstance") (rIsiU K) := by subst hK; exact orCall call_isi call_isiT
def rIntU : List V → Hp → VK → Prop := fun xs H Q => (∃ i, xs = [.int i] ∧ Q (.int i) H) ∨ ∃ k, xs = [.bl k] ∧ Q (.int (if k then 1 else 0)) H
theorem call_intU : CallR X (.type "int") rIntU := call_int1
def rMaxU : List V → Hp → VK → Prop := fun xs H Q => ∃ i j, xs = [.int i, .int j] ∧ Q (.int (if j > i then j else i)) H
theorem call_maxU (hc : X.calm = true) : CallR X (.builtin "max") rMaxU := call_max2 hc
def rMinU : List V → Hp → VK → Prop := fun xs H Q => ∃ i j, xs = [.int i, .int j] ∧ Q (.int (if j < i then j else i)) H
theorem call_minU (hc : X.calm = true) : CallR X (.builtin "min") rMinU := call_min2 hc
def rListU (K : PySem.W.Frag) : List V → Hp → VK → Prop := fun xs H Q => ∃ p ys, xs = [.ref p] ∧ (SqL K H p ys ∨ SqT K H p ys) ∧ ∀ l, H l = none → Q (.ref l) (upd H l (.lst ys))
theorem call_listU {K : PySem.W.Frag} (hK : X.K = K := by rfl) : CallR X (.type "list") (rListU K) := by subst hK; exact call_list_of
def rTupU (K : PySem.W.Frag) : List V → Hp → VK → Prop := fun xs H Q => ∃ p ys, xs = [.ref p] ∧ ((SqL K H p ys ∧ ∀ l, H l = none → Q (.ref l) (upd H l (.tup ys))) ∨ (SqT K H p ys ∧ Q (.ref p) H))
theorem call_tupU {K : PySem.W.Frag} (hK : X.K = K := by rfl) : CallR X (.type "tuple") (rTupU K) := by subst hK; exact call_tuple_of
end
/-! ### evaluation -/
section
variable {K : PySem.W.Frag} {H H1 H2 : Hp} {Q : VK} {x y v : V} {a b p q l : Addr} {xs ys : List V} {i j : Int} {z z2 : Str} {P : Program} {w : World}
theorem x_addI : rAddU K (.int i) (.int j) H Q ↔ Q (.int (i + j)) H := by
  constructor
  · rintro ((⟨_, _, h1, h2, h⟩ | ⟨_, _, _, _, h1, _⟩) | ⟨_, _, _, _, h1, _⟩)
    · cases h1; cases h2; exact h
    · cases h1
    · cases h1
  · exact fun h => .inl (.inl ⟨i, j, rfl, rfl, h⟩)
theorem x_mulI : rMulU K (.int i) (.int j) H Q ↔ CMul i j ∧ Q (.int (i * j)) H := by
  constructor
  · rintro ((⟨_, _, h1, h2, h3, h⟩ | ⟨_, _, _, h1, _⟩) | ⟨_, _, _, h1, _⟩)
    · cases h1; cases h2; exact ⟨h3, h⟩
    · cases h1
    · cases h1
  · exact fun h => .inl (.inl ⟨i, j, rfl, rfl, h.1, h.2⟩)
theorem x_rI {C : Int → Int → Prop} {g : Int → Int → V} : rI C g (.int i) (.int j) H Q ↔ C i j ∧ Q (g i j) H := by
  constructor
  · rintro ⟨_, _, h1, h2, h3, h⟩
    cases h1; cases h2; exact ⟨h3, h⟩
  · exact fun h => ⟨i, j, rfl, rfl, h.1, h.2⟩
theorem x_rI0 {g : Int → Int → V} : rI0 g (.int i) (.int j) H Q ↔ Q (g i j) H := by
  constructor
  · rintro ⟨_, _, h1, h2, h⟩
    cases h1; cases h2; exact h
  · exact fun h => ⟨i, j, rfl, rfl, h⟩
theorem x_ltI : rLtU (.int i) (.int j) H Q ↔ Q (.bl (decide (i < j))) H := by
  constructor
  · rintro (⟨_, _, h1, h2, h⟩ | ⟨_, _, h1, _⟩)
    · cases h1; cases h2; exact h
    · cases h1
  · exact fun h => .inl ⟨i, j, rfl, rfl, h⟩
theorem x_leI : rLeU (.int i) (.int j) H Q ↔ Q (.bl (decide (i ≤ j))) H := by
  constructor
  · rintro (⟨_, _, h1, h2, h⟩ | ⟨_, _, h1, _⟩)
    · cases h1; cases h2; exact h
    · cases h1
  · exact fun h => .inl ⟨i, j, rfl, rfl, h⟩
theorem x_ltS : rLtU (.str z) (.str z2) H Q ↔ Q (.bl (decide (z.cps.toList < z2.cps.toList))) H := by
  constructor
  · rintro (⟨_, _, h1, _⟩ | ⟨_, _, h1, h2, h⟩)
    · cases h1
    · cases h1; cases h2; exact h
  · exact fun h => .inr ⟨z, z2, rfl, rfl, h⟩
theorem x_leS : rLeU (.str z) (.str z2) H Q ↔ Q (.bl (!decide (z2.cps.toList < z.cps.toList))) H := by
  constructor
  · rintro (⟨_, _, h1, _⟩ | ⟨_, _, h1, h2, h⟩)
    · cases h1
    · cases h1; cases h2; exact h
  · exact fun h => .inr ⟨z, z2, rfl, rfl, h⟩
theorem dp_int {d : PyData} (h : Dp K H (.int i) d) : d = .int i := by cases h; rfl
theorem dp_str {d : PyData} (h : Dp K H (.str z) d) : d = .str z := by cases h; rfl
theorem dp_bl {c : Bool} {d : PyData} (h : Dp K H (.bl c) d) : d = .bool c := by cases h; rfl
theorem dp_non {d : PyData} (h : Dp K H .non d) : d = .none := by cases h; rfl
theorem eqv_int : PyData.eqv (.int i) (.int j) = decide (V.int i = V.int j) := by
  unfold PyData.eqv
  rw [dec_int]
theorem eqv_str : PyData.eqv (.str z) (.str z2) = decide (V.str z = V.str z2) := by
  unfold PyData.eqv
  rw [dec_str]
theorem eqv_bl {c d : Bool} : PyData.eqv (.bool c) (.bool d) = decide (V.bl c = V.bl d) := by
  unfold PyData.eqv
  rw [dec_bl]
theorem x_eqI : rEqU K (.int i) (.int j) H Q ↔ Q (.bl (decide (i = j))) H := by
  have e0 : decide (V.int i = V.int j) = decide (i = j) := by simp
  constructor
  · rintro (⟨_, h⟩ | ⟨d, e, h1, h2, _, _, h⟩)
    · rw [e0] at h; exact h
    · rw [dp_int h1, dp_int h2, eqv_int, e0] at h; exact h
  · exact fun h => .inl ⟨rfl, by rw [e0]; exact h⟩
theorem x_neI : rNeU K (.int i) (.int j) H Q ↔ Q (.bl (!decide (i = j))) H := by
  have e0 : decide (V.int i = V.int j) = decide (i = j) := by simp
  constructor
  · rintro (⟨_, h⟩ | ⟨d, e, h1, h2, _, _, h⟩)
    · rw [e0] at h; exact h
    · rw [dp_int h1, dp_int h2, eqv_int, e0] at h; exact h
  · exact fun h => .inl ⟨rfl, by rw [e0]; exact h⟩
theorem x_eqS : rEqU K (.str z) (.str z2) H Q ↔ Q (.bl (decide (z = z2))) H := by
  have e0 : decide (V.str z = V.str z2) = decide (z = z2) := by simp
  constructor
  · rintro (⟨_, h⟩ | ⟨d, e, h1, h2, _, _, h⟩)
    · rw [e0] at h; exact h
    · rw [dp_str h1, dp_str h2, eqv_str, e0] at h; exact h
  · exact fun h => .inl ⟨rfl, by rw [e0]; exact h⟩
theorem x_eqB {c d : Bool} : rEqU K (.bl c) (.bl d) H Q ↔ Q (.bl (decide (c = d))) H := by
  have e0 : decide (V.bl c = V.bl d) = decide (c = d) := by simp
  constructor
  · rintro (⟨_, h⟩ | ⟨d, e, h1, h2, _, _, h⟩)
    · rw [e0] at h; exact h
    · rw [dp_bl h1, dp_bl h2, eqv_bl, e0] at h; exact h
  · exact fun h => .inl ⟨rfl, by rw [e0]; exact h⟩
theorem x_neB {c d : Bool} : rNeU K (.bl c) (.bl d) H Q ↔ Q (.bl (!decide (c = d))) H := by
  have e0 : decide (V.bl c = V.bl d) = decide (c = d) := by simp
  constructor
  · rintro (⟨_, h⟩ | ⟨d, e, h1, h2, _, _, h⟩)
    · rw [e0] at h; exact h
    · rw [dp_bl h1, dp_bl h2, eqv_bl, e0] at h; exact h
  · exact fun h => .inl ⟨rfl, by rw [e0]; exact h⟩
def rLst (xs : List V) (H : Hp) (Q : VK) : Prop := xs.length ≤ sizeLine ∧ ∀ p, H p = none → Q (.ref p) (upd H p (.lst xs))
def rTup (xs : List V) (H : Hp) (Q : VK) : Prop := xs.length ≤ sizeLine ∧ ∀ p, H p = none → Q (.ref p) (upd H p (.tup xs))
theorem x_tLst {t : TA} {σ : L2.St} : tLst t σ H Q = t σ H fun xs H1 => rLst xs H1 Q := rfl
theorem x_tTup {t : TA} {σ : L2.St} : tTup t σ H Q = t σ H fun xs H1 => rTup xs H1 Q := rfl
theorem x_new {o : HO} (k : ∀ p H', H p = none → Ex H H' → H' p = some o → Q (.ref p) H') : ∀ p, H p = none → Q (.ref p) (upd H p o) := fun p hp => k p _ hp (Ex.new hp) upd_same
theorem small {n : Nat} (h : n ≤ 1000000) : n ≤ sizeLine := by rw [sizeLine_eq]; omega
theorem x_lst (hl : xs.length ≤ 1000000) (k : ∀ p H', H p = none → Ex H H' → H' p = some (.lst xs) → Q (.ref p) H') : rLst xs H Q := ⟨small hl, x_new k⟩
theorem x_tup (hl : xs.length ≤ 1000000) (k : ∀ p H', H p = none → Ex H H' → H' p = some (.tup xs) → Q (.ref p) H') : rTup xs H Q := ⟨small hl, x_new k⟩
/-! subscripts -/
theorem x_ixL (h : SqL K H p xs) (e : atI xs i = some v) (k : Q v H) : rIx K (.ref p) (.int i) H Q := .inl ⟨p, xs, i, v, rfl, rfl, h, e, k⟩
theorem x_ixT (h : SqT K H p xs) (e : atI xs i = some v) (k : Q v H) : rIx K (.ref p) (.int i) H Q := .inr (.inl ⟨p, xs, i, v, rfl, rfl, h, e, k⟩)
theorem x_cat (h1 : H p = some (.lst xs)) (h2 : H q = some (.lst ys)) (hl : xs.length + ys.length ≤ 1000000) (k : ∀ l H', H l = none → Ex H H' → H' l = some (.lst (xs ++ ys)) → Q (.ref l) H') : rAddU K (.ref p) (.ref q) H Q :=
  .inl (.inr ⟨p, q, xs, ys, rfl, rfl, h1, h2, small hl, x_new k⟩)
theorem x_catT (h1 : SqT K H p xs) (h2 : SqT K H q ys) (hl : xs.length + ys.length ≤ 1000000) (k : ∀ l H', (∀ x o, H x = some o → H' x = some o) → SqT K H' l (xs ++ ys) → Q (.ref l) H') : rAddU K (.ref p) (.ref q) H Q := by
  refine .inr ⟨p, q, xs, ys, rfl, rfl, h1, h2, small hl, fun e => ?_, fun e e2 => ?_, fun e e2 l hl => ?_⟩
  · subst e; exact k q H (fun _ _ h => h) h2
  · subst e2; exact k p H (fun _ _ h => h) (by rw [List.append_nil]; exact h1)
  · exact k l _ (fun x o h => by rw [upd_ne (ne_of_none h hl)]; exact h) (SqT.of upd_same)
theorem x_lenL (h : SqL K H p xs) (k : Q (.int (xs.length : Nat)) H) : rLenU K [V.ref p] H Q := ⟨_, xs.length, rfl, .inl ⟨xs, h, rfl⟩, k⟩
theorem x_lenT (h : SqT K H p xs) (k : Q (.int (xs.length : Nat)) H) : rLenU K [V.ref p] H Q := ⟨_, xs.length, rfl, .inr ⟨xs, h, rfl⟩, k⟩
theorem x_lenS (h : z.length ≤ sizeLine) (k : Q (.int (z.length : Nat)) H) : rLenU K [V.str z] H Q := ⟨_, z.length, rfl, ⟨h, rfl⟩, k⟩
theorem x_int : rIntU [.int i] H Q ↔ Q (.int i) H := by
  constructor
  · rintro (⟨_, h1, h⟩ | ⟨_, h1, _⟩)
    · cases h1; exact h
    · cases h1
  · exact fun h => .inl ⟨_, rfl, h⟩
theorem x_max : rMaxU [.int i, .int j] H Q ↔ Q (.int (if j > i then j else i)) H := by
  constructor
  · rintro ⟨_, _, h1, h⟩
    cases h1; exact h
  · exact fun h => ⟨_, _, rfl, h⟩
theorem x_min : rMinU [.int i, .int j] H Q ↔ Q (.int (if j < i then j else i)) H := by
  constructor
  · rintro ⟨_, _, h1, h⟩
    cases h1; exact h
  · exact fun h => ⟨_, _, rfl, h⟩
theorem x_listL (h : SqL K H p xs) (k : ∀ l H', H l = none → Ex H H' → H' l = some (.lst xs) → Q (.ref l) H') : rListU K [.ref p] H Q := ⟨p, xs, rfl, .inl h, x_new k⟩
theorem x_listT (h : SqT K H p xs) (k : ∀ l H', H l = none → Ex H H' → H' l = some (.lst xs) → Q (.ref l) H') : rListU K [.ref p] H Q := ⟨p, xs, rfl, .inr h, x_new k⟩
theorem x_tupL (h : SqL K H p xs) (k : ∀ l H', H l = none → Ex H H' → H' l = some (.tup xs) → Q (.ref l) H') : rTupU K [.ref p] H Q := ⟨p, xs, rfl, .inl ⟨h, x_new k⟩⟩
theorem x_tupT (h : SqT K H p xs) (k : Q (.ref p) H) : rTupU K [.ref p] H Q := ⟨p, xs, rfl, .inr ⟨h, k⟩⟩
theorem x_setL {n : Nat} {k : Hp → Prop} (h : H p = some (.lst xs)) (hj : ixN xs.length i = some n) (q : ∀ H', (∀ x o, x ≠ p → H x = some o → H' x = some o) → H' p = some (.lst (xs.set n v)) → k H') : rSetL (.ref p) (.int i) v H k :=
  ⟨p, xs, i, n, rfl, rfl, h, hj, q _ (fun x o hx e => by rw [upd_ne hx]; exact e) upd_same⟩
theorem ixN_in {n : Nat} {i : Int} (h0 : 0 ≤ i) (h1 : i < n) : ixN n i = some i.toNat := by unfold ixN; rw [if_pos h0, if_pos h1]
theorem atI_in {xs : List V} {i : Int} {v : V} (h0 : 0 ≤ i) (h : xs[i.toNat]? = some v) : atI xs i = some v := by
  have h1 : i.toNat < xs.length := (List.getElem?_eq_some_iff.mp h).1
  unfold atI
  rw [ixN_in h0 (by omega)]
  exact h
theorem x_isiI : rIsiU K [.int i, .ty "str"] H Q ↔ Q (.bl false) H := by
  constructor
  · rintro (⟨x, c, t, u, b, h1, h2, h3, h4, h⟩ | ⟨x, tp, cs, t, us, b, h1, h2⟩)
    · cases h1
      cases h2
      cases h3 with
      | base h3 =>
        cases h3
        have e : PySem.W.kitOne K (.type "int") (.type "str") = some false := by rfl
        rw [e] at h4; cases h4; exact h
    · cases h1
  · exact fun h => .inl ⟨_, _, .type "int", .type "str", false, rfl, .ty _, .base (.int i), rfl, h⟩
theorem x_isiS : rIsiU K [.str z, .ty "str"] H Q ↔ Q (.bl true) H := by
  constructor
  · rintro (⟨x, c, t, u, b, h1, h2, h3, h4, h⟩ | ⟨x, tp, cs, t, us, b, h1, h2⟩)
    · cases h1
      cases h2
      cases h3 with
      | base h3 =>
        cases h3
        have e : PySem.W.kitOne K (.type "str") (.type "str") = some true := by rfl
        rw [e] at h4; cases h4; exact h
    · cases h1
  · exact fun h => .inl ⟨_, _, .type "str", .type "str", true, rfl, .ty _, .base (.str z), rfl, h⟩
end
end FB
set_option Elab.async false
set_option linter.all false
set_option maxRecDepth 100000
set_option maxHeartbeats 4000000
/-! Data that never changes: ints, texts, tuples of such. -/
namespace L2
open PySem PySem.Spec PyProof.Rows Evl FB
def isConst : HO → Prop
  | .tup _ => True
  | .frz _ _ => True
  | _ => False
/-- what never changes stands -/
def TX (H H' : Hp) : Prop := ∀ x o, H x = some o → isConst o → H' x = some o
/-- all but what stands at a and b -/
def Ex2 (a b : Addr) (H H' : Hp) : Prop := ∀ x o, H x = some o → x ≠ a → x ≠ b → H' x = some o
section
variable {K : PySem.W.Frag} {H H1 H' : Hp} {a b p x : Addr} {xs ys : List V} {v : V}
theorem TX.refl (H : Hp) : TX H H := fun _ _ h _ => h
theorem TX.trans (e : TX H H1) (f : TX H1 H') : TX H H' := fun x o h c => f x o (e x o h c) c
theorem TX.of (e : Ex H H') : TX H H' := fun x o h _ => e x o h
theorem TX.new {o : HO} (h : H p = none) : TX H (upd H p o) := TX.of (Ex.new h)
theorem TX.but (h : H p = some (.lst xs)) (e : ∀ x o, x ≠ p → H x = some o → H' x = some o) : TX H H' := fun x o hx c => e x o (fun z => by subst z; rw [h] at hx; cases hx; exact c) hx
theorem TX.upd {o : HO} (h : H p = some (.lst xs)) : TX H (upd H p o) := TX.but h fun x u hx e => by rw [upd_ne hx]; exact e
theorem TX.two (h : H a = some (.lst xs)) (h2 : H b = some (.lst ys)) (e : Ex2 a b H H') : TX H H' := fun x o hx c =>
  e x o hx (fun z => by subst z; rw [h] at hx; cases hx; exact c) (fun z => by subst z; rw [h2] at hx; cases hx; exact c)
theorem TX.rd {u : HO} (e : TX H H') (c : isConst u) (h : Rd H a u) : Rd H' a u := by
  rcases h with h | ⟨o, h⟩
  · exact .inl (e a _ h c)
  · exact .inr ⟨o, e a _ h trivial⟩
theorem TX.t (e : TX H H') (h : SqT K H a xs) : SqT K H' a xs := by
  rcases h with h | h
  · exact .inl (e.rd trivial h)
  · exact .inr h
theorem Ex2.refl (H : Hp) : Ex2 a b H H := fun _ _ h _ _ => h
theorem Ex2.of (e : Ex H H') : Ex2 a b H H' := fun x o h _ _ => e x o h
theorem Ex2.trans (e : Ex2 a b H H1) (f : Ex2 a b H1 H') : Ex2 a b H H' := fun x o h ha hb => f x o (e x o h ha hb) ha hb
theorem Ex2.ex (e : Ex2 a b H H1) (f : Ex H1 H') : Ex2 a b H H' := fun x o h ha hb => f x o (e x o h ha hb)
/-- ints, texts, tuples of such -/
inductive TupD : PyData → Prop
  | non : TupD .none
  | bl (b : Bool) : TupD (.bool b)
  | int (i : Int) : TupD (.int i)
  | str (x : Str) : TupD (.str x)
  | tup {ds : List PyData} : (∀ d ∈ ds, TupD d) → TupD (.tuple ds)
theorem TupD.all {ds : List PyData} (h : TupD (.tuple ds)) : ∀ d ∈ ds, TupD d := by
  cases h with
  | tup h => exact h
mutual
theorem Dp.tx (e : TX H H') : ∀ {v : V} {d : PyData}, Dp K H v d → TupD d → Dp K H' v d
  | _, _, .non, _ => .non
  | _, _, .bl b, _ => .bl b
  | _, _, .int i, _ => .int i
  | _, _, .str x, _ => .str x
  | _, _, .lst _ _, t => nomatch t
  | _, _, .tup h hs, .tup hd => .tup (e.t h) (DpAll.tx e hs hd)
theorem DpAll.tx (e : TX H H') : ∀ {vs : List V} {ds : List PyData}, DpAll K H vs ds → (∀ d ∈ ds, TupD d) → DpAll K H' vs ds
  | _, _, .nil, _ => .nil
  | _, _, .cons h hs, t => .cons (Dp.tx e h (t _ (List.mem_cons_self ..))) (DpAll.tx e hs fun d hd => t d (List.mem_cons_of_mem _ hd))
end
mutual
theorem Dp.ex (e : Ex H H') : ∀ {v : V} {d : PyData}, Dp K H v d → Dp K H' v d
  | _, _, .non => .non
  | _, _, .bl b => .bl b
  | _, _, .int i => .int i
  | _, _, .str x => .str x
  | _, _, .lst h hs => .lst (ex_l e h) (DpAll.ex e hs)
  | _, _, .tup h hs => .tup (ex_t e h) (DpAll.ex e hs)
theorem DpAll.ex (e : Ex H H') : ∀ {vs : List V} {ds : List PyData}, DpAll K H vs ds → DpAll K H' vs ds
  | _, _, .nil => .nil
  | _, _, .cons h hs => .cons (Dp.ex e h) (DpAll.ex e hs)
end
theorem Dp.tup_inv {ds : List PyData} (h : Dp K H v (.tuple ds)) : ∃ a xs, v = .ref a ∧ SqT K H a xs ∧ DpAll K H xs ds := by
  cases h with
  | tup h hs => exact ⟨_, _, rfl, h, hs⟩
theorem Dp.int_inv {i : Int} (h : Dp K H v (.int i)) : v = .int i := by cases h; rfl
theorem Dp.str_inv {i : Str} (h : Dp K H v (.str i)) : v = .str i := by cases h; rfl
theorem DpAll.len : ∀ {vs : List V} {ds : List PyData}, DpAll K H vs ds → vs.length = ds.length
  | _, _, .nil => rfl
  | _, _, .cons _ hs => congrArg (· + 1) hs.len
theorem DpAll.get : ∀ {vs : List V} {ds : List PyData} {i : Nat} {d : PyData}, DpAll K H vs ds → ds[i]? = some d → ∃ v, vs[i]? = some v ∧ Dp K H v d
  | _, _, _, _, .nil, e => by simp at e
  | _, _, 0, _, .cons h _, e => by simp at e; subst e; exact ⟨_, rfl, h⟩
  | _, _, i + 1, _, .cons _ hs, e => by
    obtain ⟨v, h1, h2⟩ := DpAll.get (i := i) hs (by simpa using e)
    exact ⟨v, by simpa using h1, h2⟩
theorem DpAll.get' : ∀ {vs : List V} {ds : List PyData} {i : Nat} {v : V}, DpAll K H vs ds → vs[i]? = some v → ∃ d, ds[i]? = some d ∧ Dp K H v d
  | _, _, _, _, .nil, e => by simp at e
  | _, _, 0, _, .cons h _, e => by simp at e; subst e; exact ⟨_, rfl, h⟩
  | _, _, i + 1, _, .cons _ hs, e => by
    obtain ⟨v, h1, h2⟩ := DpAll.get' (i := i) hs (by simpa using e)
    exact ⟨v, by simpa using h1, h2⟩
theorem DpAll.append : ∀ {vs ws : List V} {ds es : List PyData}, DpAll K H vs ds → DpAll K H ws es → DpAll K H (vs ++ ws) (ds ++ es)
  | _, _, _, _, .nil, h => h
  | _, _, _, _, .cons h hs, k => .cons h (hs.append k)
theorem DpAll.take : ∀ {vs : List V} {ds : List PyData} (n : Nat), DpAll K H vs ds → DpAll K H (vs.take n) (ds.take n)
  | _, _, 0, _ => .nil
  | _, _, _ + 1, .nil => .nil
  | _, _, n + 1, .cons h hs => .cons h (hs.take n)
theorem DpAll.drop : ∀ {vs : List V} {ds : List PyData} (n : Nat), DpAll K H vs ds → DpAll K H (vs.drop n) (ds.drop n)
  | _, _, 0, h => h
  | _, _, _ + 1, .nil => .nil
  | _, _, n + 1, .cons _ hs => hs.drop n
end
/-! ### a place, a station, a network -/
abbrev Net := List (List Key)
def keyD : Key → PyData
  | .inl i => .int i
  | .inr x => .str x
def stD (s : List Key) : PyData := .tuple (s.map keyD)
def netD (N : Net) : PyData := .tuple (N.map stD)
section
variable {K : PySem.W.Frag} {H H' : Hp} {v : V}
theorem keyD_t : ∀ k : Key, TupD (keyD k)
  | .inl i => .int i
  | .inr x => .str x
theorem stD_t (s : List Key) : TupD (stD s) := .tup fun d hd => by
  obtain ⟨k, _, rfl⟩ := List.mem_map.mp hd
  exact keyD_t k
theorem netD_t (N : Net) : TupD (netD N) := .tup fun d hd => by
  obtain ⟨k, _, rfl⟩ := List.mem_map.mp hd
  exact stD_t k
theorem key_dp : ∀ k : Key, Dp K H (kV k) (keyD k)
  | .inl i => .int i
  | .inr x => .str x
theorem keys_dp : ∀ s : List Key, DpAll K H (s.map kV) (s.map keyD)
  | [] => .nil
  | k :: s => .cons (key_dp k) (keys_dp s)
theorem dp_key {k : Key} (h : Dp K H v (keyD k)) : v = kV k := by
  cases k with
  | inl i => exact h.int_inv
  | inr x => exact h.str_inv
theorem dp_keys : ∀ {s : List Key} {vs : List V}, DpAll K H vs (s.map keyD) → vs = s.map kV
  | [], _, .nil => rfl
  | k :: s, _, .cons h hs => by rw [dp_key h, dp_keys hs]; rfl
/-- a station of the network stands at v -/
abbrev StAt (K : PySem.W.Frag) (H : Hp) (v : V) (s : List Key) : Prop := Dp K H v (stD s)
abbrev NetAt (K : PySem.W.Frag) (H : Hp) (v : V) (N : Net) : Prop := Dp K H v (netD N)
theorem StAt.at {s : List Key} (h : StAt K H v s) : ∃ a, v = .ref a ∧ SqT K H a (s.map kV) := by
  obtain ⟨a, xs, e, h1, h2⟩ := Dp.tup_inv h
  rw [dp_keys h2] at h1
  exact ⟨a, e, h1⟩
theorem StAt.of {a : Addr} {s : List Key} (h : SqT K H a (s.map kV)) : StAt K H (.ref a) s := .tup h (keys_dp s)
theorem NetAt.at {N : Net} (h : NetAt K H v N) : ∃ a ts, v = .ref a ∧ SqT K H a ts ∧ DpAll K H ts (N.map stD) := Dp.tup_inv h
theorem NetAt.tx {N : Net} (e : TX H H') (h : NetAt K H v N) : NetAt K H' v N := Dp.tx e h (netD_t N)
theorem StAt.tx {s : List Key} (e : TX H H') (h : StAt K H v s) : StAt K H' v s := Dp.tx e h (stD_t s)
end
end L2
set_option Elab.async false
set_option linter.all false
set_option maxRecDepth 100000
set_option maxHeartbeats 4000000
/-! Loops and comprehensions, folded. -/
namespace FB
open PySem PySem.Spec PyProof.Rows L2 Evl
/-- a loop's reading -/
def Loop (J : It) (g : TG) (tb : TS) (D : Ends) (σ : L2.St) (H1 : Hp) : Prop := ∃ W : Nat → Nat → L2.St → Hp → Prop, (∃ m, W 0 m σ H1) ∧ ∀ i m σ H, W i m σ H →
  (J.stop i H ∧ D.nx σ H) ∨ (J.go i H ∧ ∃ N : L2.St → Hp → Prop, (∀ σ' H', N σ' H' → ∃ m', m' < m ∧ W (i + 1) m' σ' H') ∧ ∀ x H', J.yld i H x H' → g x σ H' fun σ2 H2 => tb { D with nx := N, ct := N, bk := D.nx } σ2 H2)
theorem x_tFor {wi : TI} {g : TG} {tb : TS} {D : Ends} {σ : L2.St} {H : Hp} : tFor wi g tb D σ H = wi σ H fun J H1 => Loop J g tb D σ H1 := rfl
theorem loop_it {J : It} {n : Nat} {G : Hp → Prop} {Y : Nat → Hp → V → Hp → Prop} {g : TG} {tb : TS} {D : Ends} {σ : L2.St} {H : Hp} (w : Walk J n G Y) (Pv : Nat → L2.St → Hp → Prop) (h0 : Pv 0 σ H) (hG : ∀ i σ H, i ≤ n → Pv i σ H → G H)
    (hs : ∀ i x σ H H', i < n → Pv i σ H → Y i H x H' → g x σ H' fun σ2 H2 => tb { D with nx := Pv (i + 1), ct := Pv (i + 1), bk := D.nx } σ2 H2) (hd : ∀ σ H, Pv n σ H → D.nx σ H) : Loop J g tb D σ H := for_it w Pv h0 hG hs hd
/-- a comprehension's reading -/
def LcL (J : It) (g : TG) (tt : TT) (te : TE) (vs : List Nat) (σ : L2.St) (H1 : Hp) (Q : VK) : Prop := ∀ D, H1 D = none → ∃ W : Nat → Nat → Hp → Prop, (∃ m, W 0 m (upd H1 D (.lst []))) ∧ ∀ i m H, W i m H →
  (J.stop i H ∧ Q (.ref D) H) ∨ (J.go i H ∧ ∃ Nx : Hp → Prop, (∀ H', Nx H' → ∃ m', m' < m ∧ W (i + 1) m' H') ∧ ∀ x H', J.yld i H x H' → g x (wipe σ vs) H' fun σ2 H2 => wipe σ2 vs = wipe σ vs ∧ tt σ2 H2 fun b H3 =>
    if b = true then te σ2 H3 fun y H4 => ∃ acc, H4 D = some (.lst acc) ∧ acc.length < sizeLine ∧ Nx (upd H4 D (.lst (acc ++ [y]))) else Nx H3)
theorem x_tLc {wi : TI} {g : TG} {tt : TT} {te : TE} {vs : List Nat} {σ : L2.St} {H : Hp} {Q : VK} : tLc wi g tt te vs σ H Q = wi σ H fun J H1 => LcL J g tt te vs σ H1 Q := rfl
/-- the item goes to the list at D -/
def Push (D : Addr) (N : Hp → Prop) : VK := fun y H4 => ∃ acc, H4 D = some (.lst acc) ∧ acc.length < sizeLine ∧ N (upd H4 D (.lst (acc ++ [y])))
theorem x_push {D : Addr} {N : Hp → Prop} {y : V} {H : Hp} {acc : List V} (h : H D = some (.lst acc)) (hl : acc.length < 1000000) (k : ∀ H5, (∀ x o, x ≠ D → H x = some o → H5 x = some o) → H5 D = some (.lst (acc ++ [y])) → N H5) : Push D N y H :=
  ⟨acc, h, by rw [sizeLine_eq]; omega, k _ (fun x o hx e => by rw [upd_ne hx]; exact e) upd_same⟩
theorem lcl_it {J : It} {n : Nat} {G : Hp → Prop} {Y : Nat → Hp → V → Hp → Prop} {g : TG} {tt : TT} {te : TE} {vs : List Nat} {σ : L2.St} {H1 : Hp} {Q : VK} (w : Walk J n G Y) (Pv : Addr → Nat → Hp → Prop)
    (h0 : ∀ D H', H1 D = none → Ex H1 H' → H' D = some (.lst []) → Pv D 0 H') (hG : ∀ D i H, i ≤ n → Pv D i H → G H)
    (hs : ∀ D i x H H', H1 D = none → i < n → Pv D i H → Y i H x H' → g x (wipe σ vs) H' fun σ2 H2 => wipe σ2 vs = wipe σ vs ∧ tt σ2 H2 fun b H3 => if b = true then te σ2 H3 (Push D (Pv D (i + 1))) else Pv D (i + 1) H3)
    (hd : ∀ D H, H1 D = none → Pv D n H → Q (.ref D) H) : LcL J g tt te vs σ H1 Q := fun D hD =>
  lc_it w (Pv D) (h0 D _ hD (Ex.new hD) upd_same) (hG D) (fun i x H H' hi p y => hs D i x H H' hD hi p y) (fun H p => hd D H hD p)
section
variable {H : Hp} {p : Addr} {xs : List V} {v : V} {Q : VK}
theorem x_menu {K : PySem.W.Frag} {r : Int} (h : H p = some (.lst xs)) (r0 : 0 ≤ r) (r1 : r < xs.length) (k : ∀ v, xs[r.toNat]? = some v → v ∈ xs → Q v H) : rIx K (.ref p) (.int r) H Q := by
  have hr : r.toNat < xs.length := by omega
  exact x_ixL (SqL.of h) (atI_in r0 (by simp [hr])) (k xs[r.toNat] (by simp [hr]) (List.getElem_mem hr))
theorem x_tyL {K : PySem.W.Frag} (h : SqL K H p xs) : tyV K "list" (.ref p) H := .inl ⟨rfl, xs, h⟩
theorem x_append (h : H p = some (.lst xs)) (hl : xs.length < 1000000) (k : ∀ H', (∀ x o, x ≠ p → H x = some o → H' x = some o) → H' p = some (.lst (xs ++ [v])) → Q .non H') : rAppend (.ref p) [v] H Q :=
  ⟨p, xs, v, rfl, rfl, h, by rw [sizeLine_eq]; omega, k _ (fun x o hx e => by rw [upd_ne hx]; exact e) upd_same⟩
theorem x_never {D : Ends} {σ : L2.St} {H : Hp} : tNever D σ H = False := rfl
/-- a list or a tuple that is read -/
def SqA (K : PySem.W.Frag) (H : Hp) (p : Addr) (xs : List V) : Prop := SqL K H p xs ∨ SqT K H p xs
theorem SqA.ex {K : PySem.W.Frag} {H' : Hp} (h : SqA K H p xs) (e : Ex H H') : SqA K H' p xs := h.elim (fun h => .inl (ex_l e h)) (fun h => .inr (ex_t e h))
theorem x_ixA {K : PySem.W.Frag} {i : Int} (h : SqA K H p xs) (e : atI xs i = some v) (k : Q v H) : rIx K (.ref p) (.int i) H Q := h.elim (fun h => x_ixL h e k) (fun h => x_ixT h e k)
theorem x_lenA {K : PySem.W.Frag} (h : SqA K H p xs) (k : Q (.int (xs.length : Nat)) H) : rLenU K [.ref p] H Q := h.elim (fun h => x_lenL h k) (fun h => x_lenT h k)
theorem x_eqD {K : PySem.W.Frag} {x y : V} {d e : PyData} (h1 : Dp K H x d) (h2 : Dp K H y e) (s1 : SeqAt.shaped d = true) (s2 : SeqAt.shaped e = true) (k : Q (.bl (PyData.eqv d e)) H) : rEqU K x y H Q := .inr ⟨d, e, h1, h2, s1, s2, k⟩
theorem x_neD {K : PySem.W.Frag} {x y : V} {d e : PyData} (h1 : Dp K H x d) (h2 : Dp K H y e) (s1 : SeqAt.shaped d = true) (s2 : SeqAt.shaped e = true) (k : Q (.bl (!PyData.eqv d e)) H) : rNeU K x y H Q := .inr ⟨d, e, h1, h2, s1, s2, k⟩
def tyN : PyData → String
  | .none => "NoneType"
  | .bool _ => "bool"
  | .int _ => "int"
  | .str _ => "str"
  | .list _ => "list"
  | .tuple _ => "tuple"
  | .dict _ => "dict"
theorem dp_ty {K : PySem.W.Frag} {d : PyData} (h : Dp K H v d) : TyX K H v (.type (tyN d)) := by
  cases h with
  | non => exact .base .non
  | bl b => exact .base (.bl b)
  | int i => exact .base (.int i)
  | str x => exact .base (.str x)
  | lst h _ =>
    rcases h with (h | ⟨o, h⟩) | ⟨o, its, n, h1, h2, _⟩
    · exact .base (.lst h)
    · exact .base (.frz h)
    · exact .kList h1 h2
  | tup h _ =>
    rcases h with (h | ⟨o, h⟩) | ⟨o, its, n, h1, h2, _⟩
    · exact .base (.tup h)
    · exact .fTuple h
    · exact .kTuple h1 h2
theorem x_isD {K : PySem.W.Frag} {d : PyData} {T : String} {b : Bool} (h : Dp K H v d) (e : PySem.W.kitOne K (.type (tyN d)) (.type T) = some b) (k : Q (.bl b) H) : rIsiU K [v, .ty T] H Q := .inl ⟨_, _, _, _, b, rfl, .ty _, dp_ty h, e, k⟩
theorem x_isD2 {K : PySem.W.Frag} {d : PyData} {A B : String} {b : Bool} {tp : Addr} (h : Dp K H v d) (ht : H tp = some (.tup [.ty A, .ty B])) (e : PySem.W.kitAny K (.type (tyN d)) [.type A, .type B] = some b) (k : Q (.bl b) H) : rIsiU K [v, .ref tp] H Q :=
  .inr ⟨v, tp, [.ty A, .ty B], _, [.type A, .type B], b, rfl, ht, .cons (.ty _) (.cons (.ty _) .nil), dp_ty h, e, k⟩
theorem x_range1 {n : Int} {R : It → Hp → Prop} (h : -1000000000000000000 ≤ n ∧ n ≤ 1000000000000000000) (k : R (Itr 0 n.toNat) H) : ∃ j : Int, [V.int n] = [.int j] ∧ -(2 ^ 62) ≤ j ∧ j < 2 ^ 62 ∧ R (Itr 0 j.toNat) H := ⟨n, rfl, by omega, by omega, k⟩
end
/-- a list, a tuple, a text that is walked -/
def rIter (K : PySem.W.Frag) (x : V) (H : Hp) (R : It → Hp → Prop) : Prop := (∃ a xs, x = .ref a ∧ SqL K H a xs ∧ R (Itl K a) H) ∨ (∃ a xs, x = .ref a ∧ SqT K H a xs ∧ R (Itt K a) H) ∨ (∃ z, x = .str z ∧ R (Its z) H)
def iU (K : PySem.W.Frag) (te : TE) : TI := fun σ H R => te σ H fun x H1 => rIter K x H1 R
theorem pi_U {X : Cx} {tg e : Expr} {te : TE} {K : PySem.W.Frag} (he : PE X e te) (hK : X.K = K := by rfl) : PI X tg e (iU K te) := by
  subst hK
  refine ⟨fun pins s σ H R I h => ?_⟩
  refine thn (he.run pins s σ H _ I h) fun v s1 ⟨x, H1, I1, r1, q1⟩ => ?_
  rcases q1 with ⟨a, xs, e, hq, q⟩ | ⟨a, xs, e, hq, q⟩ | ⟨z, e, q⟩
  · subst e
    cases r1
    obtain ⟨its, rv, p, hz⟩ := I1.list hq
    refine wpAny_pyIter_list p.isList ?_
    refine ⟨s1.heap.objs.size, [s1.heap.objs.size], _, _, H1, rfl, I1.kept (t' := s1.toks) fun b o e => Heap.get?_push_of_some _ e, turn_list a _, ⟨_, Heap.get?_push_size _ rfl, rfl, rfl⟩, fun b hb => ?_, q⟩
    have e : b = s1.heap.objs.size := by simpa using hb
    subst e
    exact I1.fpOk (Nat.le_refl _) (I1.hok.fresh (Nat.le_refl _))
  · subst e
    cases r1
    obtain ⟨its, rv, p, hz⟩ := I1.tuple hq
    refine wpAny_pyIter_tuple (show s1.heap.IsTuple a its.toArray from p) ?_
    refine ⟨s1.heap.objs.size, [s1.heap.objs.size], _, _, H1, rfl, I1.kept (t' := s1.toks) fun b o e => Heap.get?_push_of_some _ e, turn_tuple a _, ⟨_, Heap.get?_push_size _ rfl, rfl, rfl⟩, fun b hb => ?_, q⟩
    have e : b = s1.heap.objs.size := by simpa using hb
    subst e
    exact I1.fpOk (Nat.le_refl _) (I1.hok.fresh (Nat.le_refl _))
  · subst e
    obtain ⟨t, rfl⟩ := r1
    cases ha : z.cps.all (· < 128)
    · exact wpAny_pyIter_wide ha (pi_one (tk := s1.toks) I1 _ (turn_str _ z t "str_iterator" (.inr rfl)) ⟨_, Heap.get?_push_size _ rfl, rfl, rfl⟩ q)
    · exact wpAny_pyIter_ascii ha (pi_one (tk := s1.toks) I1 _ (turn_str _ z t "str_ascii_iterator" (.inl rfl)) ⟨_, Heap.get?_push_size _ rfl, rfl, rfl⟩ q)
theorem x_itL {K : PySem.W.Frag} {H : Hp} {a : Addr} {xs : List V} {R : It → Hp → Prop} (h : SqL K H a xs) (k : R (Itl K a) H) : rIter K (.ref a) H R := .inl ⟨a, xs, rfl, h, k⟩
theorem x_itT {K : PySem.W.Frag} {H : Hp} {a : Addr} {xs : List V} {R : It → Hp → Prop} (h : SqT K H a xs) (k : R (Itt K a) H) : rIter K (.ref a) H R := .inr (.inl ⟨a, xs, rfl, h, k⟩)
theorem x_itS {K : PySem.W.Frag} {H : Hp} {z : Str} {R : It → Hp → Prop} : rIter K (.str z) H R ↔ R (Its z) H := by
  constructor
  · rintro (⟨_, _, e, _⟩ | ⟨_, _, e, _⟩ | ⟨_, e, h⟩)
    · cases e
    · cases e
    · cases e; exact h
  · exact fun h => .inr (.inr ⟨z, rfl, h⟩)
theorem call_allU {X : Cx} (hc : X.calm = true) {K : PySem.W.Frag} (hK : X.K = K := by rfl) : CallR X (.builtin "all") (rAll K) := by subst hK; exact cr_all hc
theorem call_anyU {X : Cx} (hc : X.calm = true) {K : PySem.W.Frag} (hK : X.K = K := by rfl) : CallR X (.builtin "any") (rAny K) := by subst hK; exact cr_any hc
end FB
set_option Elab.async false
set_option linter.all false
set_option maxRecDepth 100000
set_option maxHeartbeats 4000000
namespace K
open PySem PySem.Spec PyProof.Rows L2 Evl FB
def top (i : Nat) : Stmt := PySem.Challenge.pw_fullboats_k04_whole_boats_and_passengers.main.body.getD i (.Pass ⟨0, 0, 0, 0⟩)
/-- a def of the text as it stands behind the top -/
structure Df (K : PySem.W.Frag) (mg : Str → Option Value) (x : Str) (st : Stmt) (ps : List Str) (f : Addr) (fd : FuncData) : Prop where
  F : Fun K x x st f fd
  g : mg x = some (.ref f)
  b : Binds K fd ps []
structure Bt (mg : Str → Option Value) : Prop where
  b_range : mg "range" = none
  b_tuple : mg "tuple" = none
  b_min : mg "min" = none
  b_isinstance : mg "isinstance" = none
  b_str : mg "str" = none
  b_dict : mg "dict" = none
  b_bool : mg "bool" = none
  b_sorted : mg "sorted" = none
  b_set : mg "set" = none
  b_enumerate : mg "enumerate" = none
  b_all : mg "all" = none
  b_len : mg "len" = none
  b_list : mg "list" = none
  b_int : mg "int" = none
  b_max : mg "max" = none
  b_sum : mg "sum" = none
  b_zip : mg "zip" = none
  b_abs : mg "abs" = none
  b_reversed : mg "reversed" = none
  b_any : mg "any" = none
local macro_rules | `(tactic| walk_at "run") => `(tactic| try simp only [tSeq, tAsg, tVar, tC, gName, L2.start, List.map_cons, List.map_nil, List.cons_append, List.nil_append, List.length_cons, List.length_nil, List.replicate, List.getElem?_cons_zero, List.getElem?_cons_succ, Option.some.injEq, exists_eq_left', List.set_cons_zero, List.set_cons_succ, V.ref.injEq, tRet, x_tLst, x_tTup, tCons, tCB, tNil, tOp, x_addI, x_mulI, x_rI, x_rI0, x_ltI, x_leI, x_ltS, x_leS, x_eqI, x_neI, x_eqS, x_eqB, x_neB, x_isiI, x_isiS, x_int, x_max, x_min, cxOf, tIfS, tNext, tTest, V.bl.injEq, decide_eq_true_eq, gSub, tAnd, tOr, tNot, tB, tDrop, tBM, x_tFor, iRng1, iList, iTup, x_tLc, tYes, tCall, tIf, tAndV, tOrV, tNotV, tChain, List.append_nil, tUn, if_true, wipe, true_and, x_never, iU, x_itS])
abbrev s_l_mix : Stmt := top 37
theorem sc_l_mix : FnScope ["_law_script", "_law_seed", "_law_mixed", "_law_cell"] ["_law_script", "_law_seed"] (defScope s_l_mix) := ⟨rfl, rfl, rfl, by decide +kernel, rfl, by decide +kernel, by decide +kernel⟩
/-- the law's source of draws: its list at a, its cells at b -/
def Gen (H : Hp) (a b : Addr) : Prop := ∃ (m c : Int) (ns : List Int), H a = some (.lst [.int m, .ref b, .int c]) ∧ H b = some (.lst (ns.map V.int)) ∧ ns.length ≤ 63
section
variable {P : Program} {w : World} {K : PySem.W.Frag} {mg : Str → Option Value} {base : Heap}
def spMix (K : PySem.W.Frag) : Sp := fun vs H Q _ => ∃ (a : Addr) (ns : List Int) (z : Int), vs = [.ref a, .int z] ∧ SqL K H a (ns.map V.int) ∧ ns.length ≤ 63 ∧ ∀ (p b : Addr) (H' : Hp), Ex H H' → H p = none → H b = none → Gen H' p b → Q (.ref p) H'
theorem ok_l_mix {f : Addr} {fd : FuncData} (D : Df K mg "_law_mix" s_l_mix ["_law_script", "_law_seed"] f fd) (T : Bt mg) : FnOk P w K mg base CX0 1 f fd ["_law_script", "_law_seed"] (spMix K) := by
  refine D.F.ok sc_l_mix (fun vs H Q E h => ?_) (fun cdv A outer s H vs Q E hr h => ?_)
  · obtain ⟨a, ns, z, rfl, _⟩ := h
    rfl
  · obtain ⟨a, ns, z, rfl, hS, hl, k⟩ := h
    refine ⟨_, (pss_cons (ps_set (i := 2) sc_l_mix.nd rfl (Or.inl rfl) (pv 1))
      (pss_cons (ps_for PassesOwn.never rfl (pi_U (K := K) (pv 0)) (pg_name (i := 3) sc_l_mix.nd rfl (Or.inl rfl)) (pss_one (ps_set (i := 2) sc_l_mix.nd rfl (Or.inl rfl) (pe_op op_modN (pe_op (op_addU (K := K)) (pe_op (op_addU (K := K)) (pe_op (op_mulU (K := K)) (pv 2) pe_int) (pe_op op_modN (pv 3) pe_int)) pe_int) pe_int))))
      (pss_one (ps_ret (pe_lst (pa_cons (pv 2) (pa_cons (pe_callTy (call_listU (K := K)) (by rfl) T.b_list (by decide +kernel) (pa_cons (pv 0) pa_nil)) (pa_cons pe_int pa_nil)))))))), ?_⟩
    walk_at "run"
    refine x_itL hS (loop_it (walk_list (xs := ns.map V.int)) (fun i σ H' => ∃ (m : Int) (u : Option V), σ = [some (.ref a), some (.int z), some (.int m), u] ∧ H' = H) ⟨z, _, rfl, rfl⟩ (fun i σ H' _ ⟨_, _, _, e⟩ => e ▸ hS) ?_ ?_)
    · rintro i y σ H' _ _ ⟨m, u, rfl, rfl⟩ ⟨rfl, hi⟩
      obtain ⟨n, _, rfl⟩ : ∃ n, ns[i]? = some n ∧ V.int n = y := by simpa using hi
      walk_at "run"
      refine ⟨.inr (by decide), by decide, by decide, _, _, rfl, trivial⟩
    · rintro σ H' ⟨m, u, rfl, rfl⟩
      walk_at "run"
      refine x_listL hS fun l H1 nl e1 h1 => ?_
      walk_at "run"
      refine x_lst (by simp) fun p H2 np e2 h2 => ?_
      exact k p l _ (e1.trans e2) (fresh_back e1 np) nl ⟨m, 0, ns, h2, e2 _ _ h1, hl⟩

theorem ints_ne {ns : List Int} {m c : Int} {b : Addr} : ns.map V.int ≠ [.int m, .ref b, .int c] := by
  intro h
  match ns, h with
  | [], h => cases h
  | [_], h => cases h
  | _ :: _ :: _, h =>
    simp at h
theorem Gen.ne {H : Hp} {a b : Addr} (g : Gen H a b) : a ≠ b := by
  obtain ⟨m, c, ns, h1, h2, _⟩ := g
  exact ne_of h1 h2 (fun z => ints_ne (HO.lst.inj z).symm)
abbrev s_l_next : Stmt := top 38
theorem sc_l_next : FnScope ["_law_h", "_law_limit", "_law_cell"] ["_law_h", "_law_limit"] (defScope s_l_next) := ⟨rfl, rfl, rfl, by decide +kernel, rfl, by decide +kernel, by decide +kernel⟩
def spNext : Sp := fun vs H Q _ => ∃ (a b : Addr) (n : Int), vs = [.ref a, .int n] ∧ Gen H a b ∧ 0 < n ∧ n < 1073741824 ∧ ∀ (r : Int) (H' : Hp), 0 ≤ r → r < n → Gen H' a b → Ex2 a b H H' → Q (.int r) H'
theorem ok_l_next {f : Addr} {fd : FuncData} (D : Df K mg "_law_next" s_l_next ["_law_h", "_law_limit"] f fd) (T : Bt mg) : FnOk P w K mg base CX0 1 f fd ["_law_h", "_law_limit"] spNext := by
  refine D.F.ok sc_l_next (fun vs H Q E h => ?_) (fun cdv A outer s H vs Q E hr h => ?_)
  · obtain ⟨a, b, n, rfl, _⟩ := h
    rfl
  · obtain ⟨a, b, n, rfl, ⟨m, c, ns, hA, hB, hl⟩, h0, h1, k⟩ := h
    refine ⟨_, (pss_cons (ps_set (i := 2) sc_l_next.nd rfl (Or.inl rfl) (pe_ix (ix_U (K := K)) (pe_op (op_addU (K := K)) (pe_ix (ix_U (K := K)) (pv 0) pe_int (fun _ _ => rfl)) (pe_lst (pa_cons pe_int pa_nil))) (pe_op op_modN (pe_callTy call_intU (by rfl) T.b_int (by decide +kernel) (pa_cons (pe_ix (ix_U (K := K)) (pv 0) pe_int (fun _ _ => rfl)) pa_nil)) (pe_callB (call_maxU rfl) (by rfl) T.b_max (by decide +kernel) (pa_cons pe_int (pa_cons (pe_callB (call_lenU (K := K)) (by rfl) T.b_len (by decide +kernel) (pa_cons (pe_ix (ix_U (K := K)) (pv 0) pe_int (fun _ _ => rfl)) pa_nil)) pa_nil)))) (fun _ _ => rfl)))
      (pss_cons (ps_if (pt_cmpR (op_geU) (pv 2) (pe_op op_pow pe_int pe_int) (nomark _)) (pss_cons (ps_asg (pe_op op_fdivN (pv 2) (pv 1)) (pg_sub (pe_ix (ix_U (K := K)) (pv 0) pe_int (fun _ _ => rfl)) (pe_op op_modN (pe_callTy call_intU (by rfl) T.b_int (by decide +kernel) (pa_cons (pe_ix (ix_U (K := K)) (pv 0) pe_int (fun _ _ => rfl)) pa_nil)) (pe_callB (call_lenU (K := K)) (by rfl) T.b_len (by decide +kernel) (pa_cons (pe_ix (ix_U (K := K)) (pv 0) pe_int (fun _ _ => rfl)) pa_nil))) set_list))
      (pss_one (ps_ret (pe_op op_modN (pe_callTy call_intU (by rfl) T.b_int (by decide +kernel) (pa_cons (pv 2) pa_nil)) (pv 1))))) pss_nil)
      (pss_cons (ps_asg (pe_op op_modN (pe_op (op_addU (K := K)) (pe_op (op_addU (K := K)) (pe_op (op_mulU (K := K)) (pe_ix (ix_U (K := K)) (pv 0) pe_int (fun _ _ => rfl)) pe_int) (pe_op (op_mulU (K := K)) (pv 2) pe_int)) pe_int) pe_int) (pg_sub (pv 0) pe_int set_list))
      (pss_cons (ps_asg (pe_op (op_addU (K := K)) (pe_ix (ix_U (K := K)) (pv 0) pe_int (fun _ _ => rfl)) pe_int) (pg_sub (pv 0) pe_int set_list))
      (pss_one (ps_ret (pe_op op_modN (pe_op op_fdivN (pe_ix (ix_U (K := K)) (pv 0) pe_int (fun _ _ => rfl)) pe_int) (pv 1)))))))), ?_⟩
    walk_at "run"
    refine x_ixL (SqL.of hA) rfl ?_
    refine x_lst (by simp) fun p H1 np e1 hp => ?_
    refine x_cat (e1 _ _ hB) hp (by simp; omega) fun l H2 nl e2 hL => ?_
    have hA2 := e2 _ _ (e1 _ _ hA)
    have hB2 := e2 _ _ (e1 _ _ hB)
    refine x_ixL (SqL.of hA2) rfl ?_
    walk_at "run"
    refine x_ixL (SqL.of hA2) rfl ?_
    refine x_lenL (SqL.of hB2) ?_
    walk_at "run"
    have hn : (List.map V.int ns).length = ns.length := List.length_map ..
    rw [hn]
    refine ⟨by split <;> omega, ?_⟩
    generalize hd : (if (ns.length : Int) > 1 then (ns.length : Int) else 1) = d
    have d0 : 0 < d := by rw [← hd]; split <;> omega
    have d1 : d ≤ ns.length ∨ (ns = [] ∧ d = 1) := by
      rw [← hd]
      split
      · exact .inl (Int.le_refl _)
      · by_cases z : ns = []
        · exact .inr ⟨z, rfl⟩
        · have := List.length_pos_iff.mpr z
          exact .inl (by omega)
    have k0 : 0 ≤ c.fmod d := Int.fmod_nonneg_of_pos _ d0
    have k1 : c.fmod d < d := Int.fmod_lt_of_pos _ d0
    obtain ⟨cell, hc, hc0⟩ : ∃ cell : Int, (List.map V.int ns ++ [V.int 0])[(c.fmod d).toNat]? = some (V.int cell) ∧ (cell ≠ 0 → ns ≠ []) := by
      rcases d1 with h | ⟨h, h'⟩
      · have hk : (c.fmod d).toNat < ns.length := by omega
        refine ⟨ns[(c.fmod d).toNat], ?_, fun _ z => by subst z; simp at hk⟩
        rw [List.getElem?_append_left (by simpa using hk)]
        simp [hk]
      · subst h
        subst h'
        have z : c.fmod 1 = 0 := by omega
        rw [z]
        exact ⟨0, rfl, fun z => (z rfl).elim⟩
    refine x_ixL (SqL.of hL) (atI_in k0 hc) ?_
    walk_at "run"
    refine ⟨⟨by decide, by decide, by decide⟩, ?_⟩
    split
    · rename_i hge
      have hge : (10 : Int) ^ Int.toNat 18 ≤ cell := hge
      have hne : ns ≠ [] := hc0 (by intro z; rw [z] at hge; exact absurd hge (by decide))
      have hp' := List.length_pos_iff.mpr hne
      refine ⟨⟨by omega, by omega⟩, ?_⟩
      refine x_ixL (SqL.of hA2) rfl ?_
      refine x_ixL (SqL.of hA2) rfl ?_
      walk_at "run"
      refine x_ixL (SqL.of hA2) rfl ?_
      refine x_lenL (SqL.of hB2) ?_
      walk_at "run"
      rw [hn]
      have q0 : 0 ≤ c.fmod ns.length := Int.fmod_nonneg_of_pos _ (by omega)
      have q1 : c.fmod ns.length < ns.length := Int.fmod_lt_of_pos _ (by omega)
      refine ⟨by omega, ?_⟩
      refine x_setL hB2 (ixN_in q0 (by simpa using q1)) fun H3 e3 hB3 => ?_
      walk_at "run"
      refine ⟨by omega, ?_⟩
      have nab : a ≠ b := Gen.ne ⟨m, c, ns, hA2, hB2, hl⟩
      refine k _ H3 (Int.fmod_nonneg_of_pos _ h0) (Int.fmod_lt_of_pos _ h0) ⟨m, c, ns.set (c.fmod ns.length).toNat (cell.fdiv n), e3 _ _ nab hA2, by rw [hB3, List.map_set], by simpa using hl⟩ fun x o h _ hb => e3 _ _ hb (e2 _ _ (e1 _ _ h))
    · refine x_ixL (SqL.of hA2) rfl ?_
      walk_at "run"
      refine ⟨.inr (by decide), .inr (by decide), by decide, ?_⟩
      refine x_setL hA2 rfl fun H3 e3 hA3 => ?_
      refine x_ixL (SqL.of hA3) rfl ?_
      walk_at "run"
      refine x_setL hA3 rfl fun H4 e4 hA4 => ?_
      refine x_ixL (SqL.of hA4) rfl ?_
      walk_at "run"
      refine ⟨⟨by decide, by decide⟩, by omega, ?_⟩
      have nab : b ≠ a := (Gen.ne ⟨m, c, ns, hA2, hB2, hl⟩).symm
      refine k _ H4 (Int.fmod_nonneg_of_pos _ h0) (Int.fmod_lt_of_pos _ h0) ⟨_, _, ns, hA4, e4 _ _ nab (e3 _ _ nab hB2), hl⟩ fun x o h ha _ => e4 _ _ ha (e3 _ _ ha (e2 _ _ (e1 _ _ h)))
end
end K
set_option Elab.async false
set_option linter.all false
set_option maxRecDepth 100000
set_option maxHeartbeats 4000000
namespace K
open PySem PySem.Spec PyProof.Rows L2 Evl FB
local macro_rules | `(tactic| walk_at "run") => `(tactic| try simp only [tSeq, tAsg, tVar, tC, gName, L2.start, List.map_cons, List.map_nil, List.cons_append, List.nil_append, List.length_cons, List.length_nil, List.replicate, List.getElem?_cons_zero, List.getElem?_cons_succ, Option.some.injEq, exists_eq_left', List.set_cons_zero, List.set_cons_succ, V.ref.injEq, tRet, x_tLst, x_tTup, tCons, tCB, tNil, tOp, x_addI, x_mulI, x_rI, x_rI0, x_ltI, x_leI, x_ltS, x_leS, x_eqI, x_neI, x_eqS, x_eqB, x_neB, x_isiI, x_isiS, x_int, x_max, x_min, cxOf, tIfS, tNext, tTest, V.bl.injEq, decide_eq_true_eq, gSub, tAnd, tOr, tNot, tB, tDrop, tBM, x_tFor, iRng1, iList, iTup, x_tLc, tYes, tCall, tIf, tAndV, tOrV, tNotV, tChain, List.append_nil, tUn, if_true, wipe, true_and, x_never, iU, x_itS])
theorem Gen.ex {H H' : Hp} {a b : Addr} (g : Gen H a b) (e : Ex H H') : Gen H' a b := by
  obtain ⟨m, c, ns, h1, h2, h3⟩ := g
  exact ⟨m, c, ns, e _ _ h1, e _ _ h2, h3⟩
theorem Gen.na {H : Hp} {a b p : Addr} (g : Gen H a b) (h : H p = none) : p ≠ a := by
  obtain ⟨m, c, ns, h1, h2, h3⟩ := g
  exact (ne_of_none h1 h).symm
theorem Gen.nb {H : Hp} {a b p : Addr} (g : Gen H a b) (h : H p = none) : p ≠ b := by
  obtain ⟨m, c, ns, h1, h2, h3⟩ := g
  exact (ne_of_none h2 h).symm
theorem Gen.tx {H H' : Hp} {a b : Addr} (g : Gen H a b) (e : Ex2 a b H H') : TX H H' := by
  obtain ⟨m, c, ns, h1, h2, h3⟩ := g
  exact TX.two h1 h2 e
theorem Gen.but {H H' : Hp} {a b p : Addr} (g : Gen H a b) (ha : p ≠ a) (hb : p ≠ b) (e : ∀ x o, x ≠ p → H x = some o → H' x = some o) : Gen H' a b := by
  obtain ⟨m, c, ns, h1, h2, h3⟩ := g
  exact ⟨m, c, ns, e _ _ ha.symm h1, e _ _ hb.symm h2, h3⟩
theorem x_next {H : Hp} {a b : Addr} {n : Int} {Q : VK} {E : XK} (g : Gen H a b) (h0 : 0 < n) (h1 : n < 1073741824) (k : ∀ r H', 0 ≤ r → r < n → Gen H' a b → Ex2 a b H H' → Q (.int r) H') : spNext [.ref a, .int n] H Q E :=
  ⟨a, b, n, rfl, g, h0, h1, k⟩
def W4 : List Str := ["a", "b", "west", "abcdefgh"]
/-- a place that is drawn for a seat of the station st of n -/
def PlOk (st n : Int) : Key → Prop
  | .inl j => st < j ∧ j < n
  | .inr z => z ∈ W4
abbrev s_l_place : Stmt := top 40
theorem sc_l_place : FnScope ["_law_h", "_law_station", "_law_count", "_law_far"] ["_law_h", "_law_station", "_law_count"] (defScope s_l_place) := ⟨rfl, rfl, rfl, by decide +kernel, rfl, by decide +kernel, by decide +kernel⟩
/-- a network that is drawn -/
structure Drawn (N : Net) (most : Int) : Prop where
  pos : 1 ≤ N.length
  le : (N.length : Int) ≤ most
  st : ∀ (k : Nat) s, N[k]? = some s → 1 ≤ s.length ∧ s.length ≤ 8 ∧ ∀ p ∈ s, PlOk k N.length p
section
variable {P : Program} {w : World} {K : PySem.W.Frag} {mg : Str → Option Value} {base : Heap}
def spPlace : Sp := fun vs H Q _ => ∃ (a b : Addr) (st n : Int), vs = [.ref a, .int st, .int n] ∧ Gen H a b ∧ 0 ≤ st ∧ st < n ∧ n ≤ 1000000 ∧ ∀ (k : Key) (H' : Hp), PlOk st n k → Gen H' a b → Ex2 a b H H' → Q (kV k) H'
theorem ok_l_place {f f1 : Addr} {fd fd1 : FuncData} (D : Df K mg "_law_place" s_l_place ["_law_h", "_law_station", "_law_count"] f fd) (T : Bt mg) (D_l_next : Df K mg "_law_next" s_l_next ["_law_h", "_law_limit"] f1 fd1) :
    FnOk P w K mg base CX0 2 f fd ["_law_h", "_law_station", "_law_count"] spPlace := by
  have G_l_next : FnOk P w K mg base CX0 1 f1 fd1 _ _ := ok_l_next D_l_next T
  refine D.F.ok sc_l_place (fun vs H Q E h => ?_) (fun cdv A outer s H vs Q E hr h => ?_)
  · obtain ⟨a, b, st, n, rfl, _⟩ := h
    rfl
  · obtain ⟨a, b, st, n, rfl, g, h0, h1, h2, k⟩ := h
    refine ⟨_, (pss_cons (ps_if (PW.pt (pw_and (pt_cmpR (op_ltU) (pe_op (op_addU (K := K)) (pv 1) pe_int) (pv 2) (nomark _)) (pw_and1 (pt_cmpR (op_gtU) (pe_call (G_l_next) (hr.mono (by decide)) rfl D_l_next.g D_l_next.F.kp D_l_next.b .nil pass0 (pa_cons (pv 0) (pa_cons pe_int pa_nil))) pe_int (nomark _))))) (pss_cons (ps_set (i := 3) sc_l_place.nd rfl (Or.inl rfl) (pe_ix (ix_U (K := K)) (pe_lst (pa_cons pe_int (pa_cons pe_int (pa_cons (pv 2) pa_nil)))) (pe_call (G_l_next) (hr.mono (by decide)) rfl D_l_next.g D_l_next.F.kp D_l_next.b .nil pass0 (pa_cons (pv 0) (pa_cons pe_int pa_nil))) (fun _ _ => rfl)))
      (pss_one (ps_ret (pe_op (op_addU (K := K)) (pe_op (op_addU (K := K)) (pv 1) pe_int) (pe_call (G_l_next) (hr.mono (by decide)) rfl D_l_next.g D_l_next.F.kp D_l_next.b .nil pass0 (pa_cons (pv 0) (pa_cons (pe_callB (call_maxU rfl) (by rfl) T.b_max (by decide +kernel) (pa_cons pe_int (pa_cons (pe_callB (call_minU rfl) (by rfl) T.b_min (by decide +kernel) (pa_cons (pv 3) (pa_cons (pe_op op_sub (pe_op op_sub (pv 2) (pv 1)) pe_int) pa_nil))) pa_nil))) pa_nil))))))) pss_nil)
      (pss_one (ps_ret (pe_ix (ix_U (K := K)) (pe_lst (pa_cons pe_str (pa_cons pe_str (pa_cons pe_str (pa_cons pe_str pa_nil))))) (pe_call (G_l_next) (hr.mono (by decide)) rfl D_l_next.g D_l_next.F.kp D_l_next.b .nil pass0 (pa_cons (pv 0) (pa_cons pe_int pa_nil))) (fun _ _ => rfl))))), ?_⟩
    walk_at "run"
    have tail : ∀ H1, Gen H1 a b → Ex2 a b H H1 → rLst [V.str "a", V.str "b", V.str "west", V.str "abcdefgh"] H1 fun x H1 => spNext [V.ref a, V.int 4] H1 (fun y H2 => rIx K x y H2 Q) E0 := by
      intro H1 g1 e1
      refine x_lst (by simp) fun p H2 np e2 hp => ?_
      refine x_next (g1.ex e2) (by decide) (by decide) fun r H3 r0 r1 g3 e3 => ?_
      have hp3 := e3 _ _ hp (g1.na np) (g1.nb np)
      have e := (e1.ex e2).trans e3
      obtain rfl | rfl | rfl | rfl : r = 0 ∨ r = 1 ∨ r = 2 ∨ r = 3 := by omega
      · exact x_ixL (SqL.of hp3) rfl (k (.inr "a") _ (.head _) g3 e)
      · exact x_ixL (SqL.of hp3) rfl (k (.inr "b") _ (.tail _ (.head _)) g3 e)
      · exact x_ixL (SqL.of hp3) rfl (k (.inr "west") _ (.tail _ (.tail _ (.head _))) g3 e)
      · exact x_ixL (SqL.of hp3) rfl (k (.inr "abcdefgh") _ (.tail _ (.tail _ (.tail _ (.head _)))) g3 e)
    split
    · refine x_next g (by decide) (by decide) fun r H1 r0 r1 g1 e1 => ?_
      walk_at "run"
      split
      · refine x_lst (by simp) fun p H2 np e2 hp => ?_
        refine x_next (g1.ex e2) (by decide) (by decide) fun r H3 r0 r1 g3 e3 => ?_
        have hp3 := e3 _ _ hp (g1.na np) (g1.nb np)
        have e := (e1.ex e2).trans e3
        have fin : ∀ far : Int, 1 ≤ far → far ≤ 1000000 → rMinU [V.int far, V.int (n - st - 1)] H3 fun x H1 => rMaxU [V.int 1, x] H1 fun x H1 => spNext [V.ref a, x] H1 (fun y H2 => rAddU K (V.int (st + 1)) y H2 Q) E0 := by
          intro far f0 f1
          walk_at "run"
          refine x_next g3 (by split <;> (split at * <;> omega)) (by split <;> (split at * <;> omega)) fun r H4 r0 r1 g4 e4 => ?_
          walk_at "run"
          exact k (.inl (st + 1 + r)) _ ⟨by omega, by revert r1; split <;> (split at * <;> omega)⟩ g4 (e.trans e4)
        obtain rfl | rfl | rfl : r = 0 ∨ r = 1 ∨ r = 2 := by omega
        · exact x_ixL (SqL.of hp3) rfl (fin _ (by omega) (by omega))
        · exact x_ixL (SqL.of hp3) rfl (fin _ (by omega) (by omega))
        · exact x_ixL (SqL.of hp3) rfl (fin _ (by omega) (by omega))
      · exact tail _ g1 e1
    · rw [if_neg Bool.false_ne_true]
      exact tail _ g (Ex2.refl _)
abbrev s_l_network : Stmt := top 41
theorem sc_l_network : FnScope ["_law_h", "_law_most", "_law_count", "_law_network_here", "_law_station", "_law_seats", "_law_seat"] ["_law_h", "_law_most"] (defScope s_l_network) := ⟨rfl, rfl, rfl, by decide +kernel, rfl, by decide +kernel, by decide +kernel⟩
def spNetwork (K : PySem.W.Frag) : Sp := fun vs H Q _ => ∃ (a b : Addr) (most : Int), vs = [.ref a, .int most] ∧ Gen H a b ∧ 1 ≤ most ∧ most ≤ 1000 ∧ ∀ (v : V) (N : Net) (H' : Hp), Drawn N most → NetAt K H' v N → Gen H' a b → Ex2 a b H H' → Q v H'
theorem ok_l_network {f f1 f2 : Addr} {fd fd1 fd2 : FuncData} (D : Df K mg "_law_network" s_l_network ["_law_h", "_law_most"] f fd) (T : Bt mg) (D_l_next : Df K mg "_law_next" s_l_next ["_law_h", "_law_limit"] f1 fd1)
    (D_l_place : Df K mg "_law_place" s_l_place ["_law_h", "_law_station", "_law_count"] f2 fd2) :
    FnOk P w K mg base CX0 3 f fd ["_law_h", "_law_most"] (spNetwork K) := by
  have G_l_next : FnOk P w K mg base CX0 1 f1 fd1 _ _ := ok_l_next D_l_next T
  have G_l_place : FnOk P w K mg base CX0 2 f2 fd2 _ _ := ok_l_place D_l_place T D_l_next
  refine D.F.ok sc_l_network (fun vs H Q E h => ?_) (fun cdv A outer s H vs Q E hr h => ?_)
  · obtain ⟨a, b, n, rfl, _⟩ := h
    rfl
  · obtain ⟨a, b, most, rfl, g, h0, h1, k⟩ := h
    refine ⟨_, (pss_cons (ps_set (i := 2) sc_l_network.nd rfl (Or.inr rfl) (pe_op (op_addU (K := K)) pe_int (pe_call (G_l_next) (hr.mono (by decide)) rfl D_l_next.g D_l_next.F.kp D_l_next.b .nil pass0 (pa_cons (pv 0) (pa_cons (pv 1) pa_nil)))))
      (pss_cons (ps_set (i := 3) sc_l_network.nd rfl (Or.inl rfl) (pe_lst pa_nil))
      (pss_cons (ps_for PassesOwn.never rfl (pi_range1 (by rfl) T.b_range (pa_cons (pv 2) pa_nil)) (pg_name (i := 4) sc_l_network.nd rfl (Or.inr rfl)) (pss_cons (ps_set (i := 5) sc_l_network.nd rfl (Or.inl rfl) (pe_op (op_addU (K := K)) pe_int (pe_call (G_l_next) (hr.mono (by decide)) rfl D_l_next.g D_l_next.F.kp D_l_next.b .nil pass0 (pa_cons (pv 0) (pa_cons (pe_ix (ix_U (K := K)) (pe_lst (pa_cons pe_int (pa_cons pe_int (pa_cons pe_int pa_nil)))) (pe_call (G_l_next) (hr.mono (by decide)) rfl D_l_next.g D_l_next.F.kp D_l_next.b .nil pass0 (pa_cons (pv 0) (pa_cons pe_int pa_nil))) (fun _ _ => rfl)) pa_nil)))))
      (pss_one (ps_expr (pe_bm PySem.F.plainAttrs_list PySem.F.slot_list_append PySem.F.type_list_append mt_append (pv 3) (pa_cons (pe_callTy (call_tupU (K := K)) (by rfl) T.b_tuple (by decide +kernel) (pa_cons (pe_lc (own := [("_law_seat", 6)]) (g := gName 6) (tt := tYes) rfl sc_l_network.nd (pi_range1 (by rfl) T.b_range (pa_cons (pv 5) pa_nil)) (blkOk_by (own := [("_law_seat", 6)]) (N := ["_law_h", "_law_most", "_law_count", "_law_network_here", "_law_station", "_law_seats", "_law_seat"]) (sc := defScope s_l_network) (by decide +kernel)) (fun _ _ _ _ _ => (pg_name (i := 6) sc_l_network.nd rfl (Or.inl rfl))) (fun _ _ _ _ _ => pts_nil) (fun _ _ _ _ _ => (pe_call (G_l_place) (hr.mono (by decide)) rfl D_l_place.g D_l_place.F.kp D_l_place.b .nil pass0 (pa_cons (pv 0) (pa_cons (pv 4) (pa_cons (pv 2) pa_nil)))))) pa_nil)) pa_nil))))))
      (pss_one (ps_ret (pe_callTy (call_tupU (K := K)) (by rfl) T.b_tuple (by decide +kernel) (pa_cons (pv 3) pa_nil))))))), ?_⟩
    walk_at "run"
    refine x_next g (by omega) (by omega) fun r H1 r0 r1 g1 e1 => ?_
    walk_at "run"
    refine x_lst (by simp) fun L H2 nL e2 hL => ?_
    obtain ⟨n, hn⟩ : ∃ n : Nat, 1 + r = (n : Int) := ⟨(1 + r).toNat, by omega⟩
    rw [hn]
    refine ⟨n, rfl, by omega, by omega, ?_⟩
    have hn1 : 1 ≤ n := by omega
    have nLa := (g1.na nL)
    have nLb := (g1.nb nL)
    have e02 : Ex2 a b H H2 := e1.ex e2
    refine loop_it walk_range (fun i σ H' => ∃ (u5 u6 u4 : Option V) (ts : List V) (M : Net), σ = [some (.ref a), some (.int most), some (.int n), some (.ref L), u4, u5, u6] ∧ H' L = some (.lst ts) ∧ DpAll K H' ts (M.map stD) ∧ M.length = i ∧ Gen H' a b ∧ (∀ x o, H x = some o → x ≠ a → x ≠ b → H' x = some o) ∧
      ∀ (k : Nat) s, M[k]? = some s → 1 ≤ s.length ∧ s.length ≤ 8 ∧ ∀ p ∈ s, PlOk k n p) ⟨_, _, _, [], [], rfl, hL, .nil, rfl, g1.ex e2, e02, fun k s h => by simp at h⟩ (fun _ _ _ _ _ => trivial) ?_ ?_
    · rintro i x σ H3 H3' hi ⟨u5, u6, u4, ts, M, rfl, hL3, hts, hM, g3, e3, hok⟩ ⟨eH, rfl⟩
      subst eH
      have hi : i < n := by simpa using hi
      walk_at "run"
      refine x_lst (by simp) fun p H4 np e4 hp => ?_
      refine x_next (g3.ex e4) (by decide) (by decide) fun r H5 r0 r1 g5 e5 => ?_
      have hp5 := e5 _ _ hp (g3.na np) (g3.nb np)
      have hL5 := e5 _ _ (e4 _ _ hL3) nLa nLb
      have e35 := (Ex2.of e4).trans e5
      have t35 := (TX.of e4).trans ((g3.ex e4).tx e5)
      refine x_menu hp5 r0 (by simpa using r1) fun v _ hv => ?_
      obtain ⟨q, rfl, q0, q1⟩ : ∃ q : Int, v = .int q ∧ 2 ≤ q ∧ q ≤ 8 := by
        simp at hv
        rcases hv with rfl | rfl | rfl <;> exact ⟨_, rfl, by omega, by omega⟩
      refine x_next g5 (by omega) (by omega) fun r H6 r0 r1 g6 e6 => ?_
      obtain ⟨m, hm⟩ : ∃ m : Nat, 1 + r = (m : Int) := ⟨(1 + r).toNat, by omega⟩
      have hL6 := e6 _ _ hL5 nLa nLb
      walk_at "run"
      rw [hm]
      refine ⟨x_tyL (SqL.of hL6), m, rfl, by omega, by omega, ?_⟩
      refine lcl_it walk_range (fun D j H' => ∃ acc : List Key, H' D = some (.lst (acc.map kV)) ∧ acc.length = j ∧ (∀ p ∈ acc, PlOk i n p) ∧ Gen H' a b ∧ ∀ x o, H6 x = some o → x ≠ a → x ≠ b → H' x = some o)
        (fun D H' hD e h => ⟨[], h, rfl, (by simp), g6.ex e, fun x o hx _ _ => e _ _ hx⟩) (fun _ _ _ _ _ => trivial) ?_ ?_
      · rintro D j x H7 H7' hD hj ⟨acc, hacc, hl, hok, g7, e7⟩ ⟨eH, rfl⟩
        subst eH
        have hj : j < m := by simpa using hj
        walk_at "run"
        refine ⟨a, b, _, _, rfl, g7, by omega, by omega, by omega, fun k H8 hk g8 e8 => ?_⟩
        refine x_push (e8 _ _ hacc (g6.na hD) (g6.nb hD)) (by simp; omega) fun H9 e9 h9 => ⟨acc ++ [k], by rw [h9]; simp, by simp [hl], ?_, g8.but (g6.na hD) (g6.nb hD) e9, fun x o hx ha hb => e9 _ _ (ne_of_none hx hD) (e8 _ _ (e7 _ _ hx ha hb) ha hb)⟩
        intro p hp
        rcases List.mem_append.mp hp with h | h
        · exact hok p h
        · obtain rfl : p = k := by simpa using h
          have e : (0 : Int) + i = i := by omega
          rw [e] at hk
          exact hk
      · rintro D H7 hD ⟨acc, hacc, hl, hok', g7, e7⟩
        have hl : acc.length = m := by simpa using hl
        refine x_tupL (SqL.of hacc) fun t H8 nt e8 ht => ?_
        have hL8 := e8 _ _ (e7 _ _ hL6 nLa nLb)
        refine x_append hL8 (by rw [hts.len]; simp; omega) fun H9 e9 h9 => ?_
        have t9 : TX H3' H9 := (((t35.trans (g5.tx e6)).trans (g6.tx e7)).trans (TX.of e8)).trans (TX.but hL8 e9)
        have hL7 := e7 _ _ hL6 nLa nLb
        have nLt : L ≠ t := ne_of_none hL7 nt
        refine ⟨some (.int m), u6, some (.int (0 + (i : Int))), ts ++ [.ref t], M ++ [acc], rfl, h9, ?_, by simp [hM], (g7.ex e8).but nLa nLb e9, fun x o hx ha hb => ?_, ?_⟩
        · rw [List.map_append]
          exact DpAll.append (DpAll.tx t9 hts fun d hd => (netD_t M).all d hd) (.cons (StAt.of (SqT.of (e9 _ _ nLt.symm ht))) .nil)
        · exact e9 _ _ (fun z => by subst z; exact absurd (e1 _ _ hx ha hb) (by rw [nL]; simp)) (e8 _ _ (e7 _ _ (e6 _ _ (e5 _ _ (e4 _ _ (e3 _ _ hx ha hb)) ha hb) ha hb) ha hb))
        · intro k s hs
          by_cases hk : k < M.length
          · rw [List.getElem?_append_left hk] at hs
            exact hok k s hs
          · rw [List.getElem?_append_right (by omega)] at hs
            have hz : k - M.length = 0 := by
              have := (List.getElem?_eq_some_iff.mp hs).1
              simp at this
              omega
            rw [hz] at hs
            obtain rfl : acc = s := by simpa using hs
            exact ⟨by omega, by omega, fun p hp => by
              have e : k = i := by omega
              rw [e]; exact hok' p hp⟩
    · rintro σ H3 ⟨u5, u6, u4, ts, M, rfl, hL3, hts, hM, g3, e3, hok⟩
      walk_at "run"
      refine x_tupL (SqL.of hL3) fun p H4 np e4 hp => ?_
      have hM : M.length = n := by simpa using hM
      refine k _ M _ ⟨by omega, by omega, fun k s h => by rw [hM]; exact hok k s h⟩ (.tup (SqT.of hp) (DpAll.ex e4 hts)) (g3.ex e4) (Ex2.ex e3 e4)
end
end K
set_option Elab.async false
set_option linter.all false
set_option maxRecDepth 100000
set_option maxHeartbeats 4000000
namespace K
open PySem PySem.Spec PyProof.Rows L2 Evl FB
local macro_rules | `(tactic| walk_at "run") => `(tactic| try simp only [tSeq, tAsg, tVar, tC, gName, L2.start, List.map_cons, List.map_nil, List.cons_append, List.nil_append, List.length_cons, List.length_nil, List.replicate, List.getElem?_cons_zero, List.getElem?_cons_succ, Option.some.injEq, exists_eq_left', List.set_cons_zero, List.set_cons_succ, V.ref.injEq, tRet, x_tLst, x_tTup, tCons, tCB, tNil, tOp, x_addI, x_mulI, x_rI, x_rI0, x_ltI, x_leI, x_ltS, x_leS, x_eqI, x_neI, x_eqS, x_eqB, x_neB, x_isiI, x_isiS, x_int, x_max, x_min, cxOf, tIfS, tNext, tTest, V.bl.injEq, decide_eq_true_eq, gSub, tAnd, tOr, tNot, tB, tDrop, tBM, x_tFor, iRng1, iList, iTup, x_tLc, tYes, tCall, tIf, tAndV, tOrV, tNotV, tChain, List.append_nil, tUn, if_true, wipe, true_and, x_never, iU, x_itS])
section
variable {P : Program} {w : World} {K : PySem.W.Frag} {mg : Str → Option Value} {base : Heap}
theorem FnOk.never {CX : CXT} {k : Nat} {f : Addr} {fd : FuncData} {ps : List Str} : FnOk P w K mg base CX k f fd ps (fun _ _ _ _ => False) := ⟨fun _ _ _ _ h => h.elim, fun _ _ _ _ _ _ _ _ _ _ _ _ _ h => h.elim⟩
abbrev s_l_alike : Stmt := top 39
theorem sc_l_alike : FnScope ["_law_found", "_law_due", "_law_k"] ["_law_found", "_law_due"] (defScope s_l_alike) := ⟨rfl, rfl, rfl, by decide +kernel, rfl, by decide +kernel, by decide +kernel⟩
theorem mem_depth : ∀ {ds : List PyData} {e : PyData}, e ∈ ds → e.depth ≤ PyData.depthAll ds
  | x :: r, e, h => by
    rw [PyData.depthAll]
    rcases List.mem_cons.mp h with rfl | h
    · omega
    · have := mem_depth h
      omega
theorem mem_lay : ∀ {ds : List PyData} {e : PyData}, PyData.canLayAll0 ds = true → e ∈ ds → e.canLay0 = true
  | x :: r, e, hc, h => by
    rw [PyData.canLayAll0, Bool.and_eq_true] at hc
    rcases List.mem_cons.mp h with rfl | h
    · exact hc.1
    · exact mem_lay hc.2 h
theorem shaped_mk {d : PyData} (h : d.canLay0 = true) (h2 : d.depth ≤ 64) : SeqAt.shaped d = true := by
  unfold SeqAt.shaped
  rw [h]
  simpa using h2
theorem shaped_get {d : PyData} (h : SeqAt.shaped d = true) : d.canLay0 = true ∧ d.depth ≤ 64 := by
  unfold SeqAt.shaped at h
  simpa using h
theorem shaped_l {ds : List PyData} {e : PyData} (h : SeqAt.shaped (.list ds) = true) (he : e ∈ ds) : SeqAt.shaped e = true ∧ e.depth + 1 ≤ (PyData.list ds).depth := by
  obtain ⟨h1, h2⟩ := shaped_get h
  rw [PyData.canLay0] at h1
  rw [PyData.depth] at h2 ⊢
  have := mem_depth he
  exact ⟨shaped_mk (mem_lay h1 he) (by omega), by omega⟩
theorem shaped_t {ds : List PyData} {e : PyData} (h : SeqAt.shaped (.tuple ds) = true) (he : e ∈ ds) : SeqAt.shaped e = true ∧ e.depth + 1 ≤ (PyData.tuple ds).depth := by
  obtain ⟨h1, h2⟩ := shaped_get h
  rw [PyData.canLay0] at h1
  rw [PyData.depth] at h2 ⊢
  have := mem_depth he
  exact ⟨shaped_mk (mem_lay h1 he) (by omega), by omega⟩
theorem eqv_same {d : PyData} (h : SeqAt.shaped d = true) : PyData.eqv d d = true := SeqAt.eqv_refl d (shaped_get h).1
/-- no list or tuple in it is very long -/
inductive SmD : PyData → Prop
  | non : SmD .none
  | bl (b : Bool) : SmD (.bool b)
  | int (i : Int) : SmD (.int i)
  | str (x : Str) : SmD (.str x)
  | lst {ds : List PyData} : ds.length ≤ 1000000 → (∀ d ∈ ds, SmD d) → SmD (.list ds)
  | tup {ds : List PyData} : ds.length ≤ 1000000 → (∀ d ∈ ds, SmD d) → SmD (.tuple ds)
/-- the same data on both sides, not deeper than n -/
def spAlike (K : PySem.W.Frag) : Nat → Sp
  | 0 => fun _ _ _ _ => False
  | n + 1 => fun vs H Q _ => ∃ (x y : V) (d : PyData), vs = [x, y] ∧ Dp K H x d ∧ Dp K H y d ∧ SeqAt.shaped d = true ∧ d.depth ≤ n ∧ SmD d ∧ ∀ H', Ex H H' → Q (.bl true) H'
theorem ok_l_alike {f : Addr} {fd : FuncData} (D : Df K mg "_law_alike" s_l_alike ["_law_found", "_law_due"] f fd) (T : Bt mg) : ∀ n, FnOk P w K mg base CX0 n f fd ["_law_found", "_law_due"] (spAlike K n)
  | 0 => FnOk.never
  | n + 1 => by
    have D_l_alike := D
    have G_l_alike : FnOk P w K mg base CX0 n f fd _ _ := ok_l_alike D T n
    refine D.F.ok sc_l_alike (fun vs H Q E h => ?_) (fun cdv A outer s H vs Q E hr h => ?_)
    · obtain ⟨a, b, n, rfl, _⟩ := h
      rfl
    · obtain ⟨x, y, d, rfl, hx, hy, sh, hd, sm, k⟩ := h
      have hu := hr.units
      refine ⟨_, (pss_cons (ps_if (pt_val (pe_callB (call_isiU (K := K)) (by rfl) T.b_isinstance (by decide +kernel) (pa_cons (pv 1) (pa_cons (pe_bltn (v := .ty "dict") (by rfl) T.b_dict (by decide +kernel) rfl) pa_nil)))) pss_never pss_nil)
      (pss_cons (ps_if (pt_val (pe_callB (call_isiU (K := K)) (by rfl) T.b_isinstance (by decide +kernel) (pa_cons (pv 1) (pa_cons (pe_tup (pa_cons (pe_bltn (v := .ty "tuple") (by rfl) T.b_tuple (by decide +kernel) rfl) (pa_cons (pe_bltn (v := .ty "list") (by rfl) T.b_list (by decide +kernel) rfl) pa_nil))) pa_nil)))) (pss_cons (ps_if (PW.pt (pw_or (pt_not (pt_val (pe_callB (call_isiU (K := K)) (by rfl) T.b_isinstance (by decide +kernel) (pa_cons (pv 0) (pa_cons (pe_tup (pa_cons (pe_bltn (v := .ty "tuple") (by rfl) T.b_tuple (by decide +kernel) rfl) (pa_cons (pe_bltn (v := .ty "list") (by rfl) T.b_list (by decide +kernel) rfl) pa_nil))) pa_nil))))) (pw_or1 (pt_cmpR (op_neU (K := K) hu) (pe_callB (call_isiU (K := K)) (by rfl) T.b_isinstance (by decide +kernel) (pa_cons (pv 0) (pa_cons (pe_bltn (v := .ty "list") (by rfl) T.b_list (by decide +kernel) rfl) pa_nil))) (pe_callB (call_isiU (K := K)) (by rfl) T.b_isinstance (by decide +kernel) (pa_cons (pv 1) (pa_cons (pe_bltn (v := .ty "list") (by rfl) T.b_list (by decide +kernel) rfl) pa_nil))) (nomark _))))) (pss_one (ps_ret pe_bl)) pss_nil)
      (pss_cons (ps_if (pt_cmpR (op_neU (K := K) hu) (pe_callB (call_lenU (K := K)) (by rfl) T.b_len (by decide +kernel) (pa_cons (pv 0) pa_nil)) (pe_callB (call_lenU (K := K)) (by rfl) T.b_len (by decide +kernel) (pa_cons (pv 1) pa_nil)) (nomark _)) (pss_one (ps_ret pe_bl)) pss_nil)
      (pss_one (ps_ret (pe_cmpR (op_eqU (K := K) hu) (pe_lc (own := [("_law_k", 2)]) (g := gName 2) (tt := _) rfl sc_l_alike.nd (pi_range1 (by rfl) T.b_range (pa_cons (pe_callB (call_lenU (K := K)) (by rfl) T.b_len (by decide +kernel) (pa_cons (pv 1) pa_nil)) pa_nil)) (blkOk_by (own := [("_law_k", 2)]) (N := ["_law_found", "_law_due", "_law_k"]) (sc := defScope s_l_alike) (by decide +kernel)) (fun _ _ _ _ _ => (pg_name (i := 2) sc_l_alike.nd rfl (Or.inl rfl))) (fun _ _ _ _ _ => (pts_one (pt_not (pt_val (pe_call (G_l_alike) hr rfl D_l_alike.g D_l_alike.F.kp D_l_alike.b .nil pass0 (pa_cons (pe_ix (ix_U (K := K)) (pv 0) (pv 2) (fun _ _ => rfl)) (pa_cons (pe_ix (ix_U (K := K)) (pv 1) (pv 2) (fun _ _ => rfl)) pa_nil))))))) (fun _ _ _ _ _ => (pv 2))) (pe_lst pa_nil) (nomark _)))))) pss_nil)
      (pss_cons (ps_if (PW.pt (pw_or (pt_cmpR op_isN (pv 1) pe_non (nomark _)) (pw_or1 (pt_val (pe_callB (call_isiU (K := K)) (by rfl) T.b_isinstance (by decide +kernel) (pa_cons (pv 1) (pa_cons (pe_bltn (v := .ty "str") (by rfl) T.b_str (by decide +kernel) rfl) pa_nil))))))) (pss_one (ps_ret (pe_and (pe_cmpR (op_eqU (K := K) hu) (pv 0) (pv 1) (nomark _)) (pe_one (pe_cmpR (op_eqU (K := K) hu) (pe_callB (call_isiU (K := K)) (by rfl) T.b_isinstance (by decide +kernel) (pa_cons (pv 0) (pa_cons (pe_bltn (v := .ty "str") (by rfl) T.b_str (by decide +kernel) rfl) pa_nil))) (pe_callB (call_isiU (K := K)) (by rfl) T.b_isinstance (by decide +kernel) (pa_cons (pv 1) (pa_cons (pe_bltn (v := .ty "str") (by rfl) T.b_str (by decide +kernel) rfl) pa_nil))) (nomark _)))))) pss_nil)
      (pss_one (ps_ret (pe_and (pe_callB (call_isiU (K := K)) (by rfl) T.b_isinstance (by decide +kernel) (pa_cons (pv 0) (pa_cons (pe_bltn (v := .ty "int") (by rfl) T.b_int (by decide +kernel) rfl) pa_nil))) (pe_and (pe_cmpR (op_eqU (K := K) hu) (pe_callB (call_isiU (K := K)) (by rfl) T.b_isinstance (by decide +kernel) (pa_cons (pv 0) (pa_cons (pe_bltn (v := .ty "bool") (by rfl) T.b_bool (by decide +kernel) rfl) pa_nil))) (pe_callB (call_isiU (K := K)) (by rfl) T.b_isinstance (by decide +kernel) (pa_cons (pv 1) (pa_cons (pe_bltn (v := .ty "bool") (by rfl) T.b_bool (by decide +kernel) rfl) pa_nil))) (nomark _)) (pe_one (pe_cmpR (op_eqU (K := K) hu) (pv 0) (pv 1) (nomark _)))))))))), ?_⟩
      walk_at "run"
      -- a tuple or a list: the items
      have seq : ∀ (ds : List PyData) (a b : Addr) (xs ys : List V) (H1 : Hp), Ex H H1 → x = .ref a → y = .ref b → SqA K H1 a xs → SqA K H1 b ys → DpAll K H1 xs ds → DpAll K H1 ys ds → ds.length ≤ 1000000 → (∀ e ∈ ds, SeqAt.shaped e = true ∧ e.depth + 1 ≤ n ∧ SmD e) →
          rLenU K [x] H1 fun x_8 H1 => rLenU K [y] H1 fun y_2 H2 => rNeU K x_8 y_2 H2 fun x_9 H' => ∃ k, x_9 = V.bl k ∧ if k = true then Q (V.bl false) H' else rLenU K [y] H' fun x_10 H1 => ∃ j, [x_10] = [V.int j] ∧ -2 ^ 62 ≤ j ∧ j < 2 ^ 62 ∧
            LcL (Itr 0 j.toNat) (gName 2) (tNot (tB (tCall (spAlike K n) [] E0 (tCons (tOp (rIx K) (tVar 0) (tVar 2)) (tCons (tOp (rIx K) (tVar 1) (tVar 2)) tNil))))) (tVar 2) [2] [some x, some y, none] H1 fun x H1 => rLst [] H1 fun y H2 => rEqU K x y H2 Q := by
        intro ds a b xs ys H1 e1 hxa hyb ha hb dx dy hlen hds
        subst hxa hyb
        have lx := dx.len
        have ly := dy.len
        refine x_lenA ha (x_lenA hb ?_)
        rw [lx, ly]
        walk_at "run"
        rw [if_neg (by simp)]
        refine x_lenA hb ⟨_, rfl, by omega, by omega, ?_⟩
        refine lcl_it walk_range (fun D i H' => H' D = some (.lst []) ∧ Ex H1 H') (fun D H' _ e h => ⟨h, e⟩) (fun _ _ _ _ _ => trivial) ?_ ?_
        · rintro D i v H2 H2' hD hi ⟨hD2, e2⟩ ⟨eH, rfl⟩
          subst eH
          have hi : i < ys.length := by simpa using hi
          obtain ⟨v1, hv1⟩ : ∃ v, xs[i]? = some v := ⟨xs[i], by simp⟩
          obtain ⟨v2, hv2⟩ : ∃ v, ys[i]? = some v := ⟨ys[i], by simp⟩
          obtain ⟨e, he, hd1⟩ := dx.get' hv1
          obtain ⟨e', he', hd2⟩ := dy.get' hv2
          obtain rfl : e = e' := by rw [he] at he'; exact Option.some.inj he'
          have hm := hds e (List.mem_of_getElem? he)
          have hz : (0 : Int) + i = (i : Int) := by omega
          walk_at "run"
          rw [hz]
          refine x_ixA (ha.ex e2) (atI_nat hv1) (x_ixA (hb.ex e2) (atI_nat hv2) ?_)
          obtain ⟨m, rfl⟩ : ∃ m, n = m + 1 := ⟨n - 1, by omega⟩
          refine ⟨_, _, e, rfl, Dp.ex e2 hd1, Dp.ex e2 hd2, hm.1, by omega, hm.2.2, fun H4 e4 => ⟨true, rfl, ?_⟩⟩
          rw [if_neg (by simp)]
          exact ⟨e4 _ _ hD2, e2.trans e4⟩
        · rintro D H2 hD ⟨hD2, e2⟩
          refine x_lst (by simp) fun p H3 np e3 hp => ?_
          refine x_eqD (.lst (SqL.of (e3 _ _ hD2)) .nil) (.lst (SqL.of hp) .nil) rfl rfl ?_
          exact k H3 (e1.trans (e2.trans e3))
      -- a scalar
      have e0 := eqv_same sh
      have eqd : ∀ (H1 : Hp) (Q1 : VK), Ex H H1 → Q1 (.bl true) H1 → rEqU K x y H1 Q1 := fun H1 Q1 e q => x_eqD (Dp.ex e hx) (Dp.ex e hy) sh sh (by rw [e0]; exact q)
      cases d with
      | dict _ => cases hx
      | list ds =>
        obtain ⟨a, xs, rfl, hxs, dx⟩ : ∃ a xs, x = .ref a ∧ SqL K H a xs ∧ DpAll K H xs ds := by
          cases hx with
          | lst h1 h2 => exact ⟨_, _, rfl, h1, h2⟩
        obtain ⟨b, ys, rfl, hys, dy⟩ : ∃ b ys, y = .ref b ∧ SqL K H b ys ∧ DpAll K H ys ds := by
          cases hy with
          | lst h1 h2 => exact ⟨_, _, rfl, h1, h2⟩
        obtain ⟨hlen, hsm⟩ : ds.length ≤ 1000000 ∧ ∀ d ∈ ds, SmD d := by
          cases sm with
          | lst h1 h2 => exact ⟨h1, h2⟩
        refine x_isD hy rfl ?_
        refine ⟨false, rfl, ?_⟩
        rw [if_neg Bool.false_ne_true]
        refine x_tup (by simp) fun p H1 np e1 hp => ?_
        refine x_isD2 (Dp.ex e1 hy) hp rfl ?_
        refine ⟨true, rfl, ?_⟩
        rw [if_pos rfl]
        refine x_tup (by simp) fun p2 H2 np2 e2 hp2 => ?_
        have e02 := e1.trans e2
        refine x_isD2 (Dp.ex e02 hx) hp2 rfl ?_
        refine ⟨true, rfl, ?_⟩
        rw [if_neg (by simp)]
        refine x_isD (Dp.ex e02 hx) rfl (x_isD (Dp.ex e02 hy) rfl ?_)
        walk_at "run"
        rw [if_neg (by simp)]
        refine seq ds a b xs ys H2 e02 rfl rfl (.inl (ex_l e02 hxs)) (.inl (ex_l e02 hys)) (DpAll.ex e02 dx) (DpAll.ex e02 dy) hlen fun e he => ?_
        have := shaped_l sh he
        exact ⟨this.1, by omega, hsm e he⟩
      | tuple ds =>
        obtain ⟨a, xs, rfl, hxs, dx⟩ := Dp.tup_inv hx
        obtain ⟨b, ys, rfl, hys, dy⟩ := Dp.tup_inv hy
        obtain ⟨hlen, hsm⟩ : ds.length ≤ 1000000 ∧ ∀ d ∈ ds, SmD d := by
          cases sm with
          | tup h1 h2 => exact ⟨h1, h2⟩
        refine x_isD hy rfl ?_
        refine ⟨false, rfl, ?_⟩
        rw [if_neg Bool.false_ne_true]
        refine x_tup (by simp) fun p H1 np e1 hp => ?_
        refine x_isD2 (Dp.ex e1 hy) hp rfl ?_
        refine ⟨true, rfl, ?_⟩
        rw [if_pos rfl]
        refine x_tup (by simp) fun p2 H2 np2 e2 hp2 => ?_
        have e02 := e1.trans e2
        refine x_isD2 (Dp.ex e02 hx) hp2 rfl ?_
        refine ⟨true, rfl, ?_⟩
        rw [if_neg (by simp)]
        refine x_isD (Dp.ex e02 hx) rfl (x_isD (Dp.ex e02 hy) rfl ?_)
        walk_at "run"
        rw [if_neg (by simp)]
        refine seq ds a b xs ys H2 e02 rfl rfl (.inr (ex_t e02 hxs)) (.inr (ex_t e02 hys)) (DpAll.ex e02 dx) (DpAll.ex e02 dy) hlen fun e he => ?_
        have := shaped_t sh he
        exact ⟨this.1, by omega, hsm e he⟩
      | none =>
        obtain rfl : y = .non := by cases hy; rfl
        refine x_isD hy rfl ⟨false, rfl, ?_⟩
        rw [if_neg Bool.false_ne_true]
        refine x_tup (by simp) fun p H1 np e1 hp => ?_
        refine x_isD2 (Dp.ex e1 hy) hp rfl ⟨false, rfl, ?_⟩
        rw [if_neg Bool.false_ne_true, if_pos rfl]
        refine eqd H1 _ e1 ⟨true, rfl, ?_⟩
        rw [if_pos rfl]
        refine x_isD (Dp.ex e1 hx) rfl (x_isD (Dp.ex e1 hy) rfl ?_)
        walk_at "run"
        exact k H1 e1
      | str z =>
        obtain rfl : y = .str z := by cases hy; rfl
        refine x_isD hy rfl ⟨false, rfl, ?_⟩
        rw [if_neg Bool.false_ne_true]
        refine x_tup (by simp) fun p H1 np e1 hp => ?_
        refine x_isD2 (Dp.ex e1 hy) hp rfl ⟨false, rfl, ?_⟩
        rw [if_neg Bool.false_ne_true, if_neg (by simp)]
        refine x_isD (Dp.ex e1 hy) rfl ⟨true, rfl, ?_⟩
        rw [if_pos rfl]
        refine eqd H1 _ e1 ⟨true, rfl, ?_⟩
        rw [if_pos rfl]
        refine x_isD (Dp.ex e1 hx) rfl (x_isD (Dp.ex e1 hy) rfl ?_)
        walk_at "run"
        exact k H1 e1
      | int z =>
        obtain rfl : y = .int z := by cases hy; rfl
        refine x_isD hy rfl ⟨false, rfl, ?_⟩
        rw [if_neg Bool.false_ne_true]
        refine x_tup (by simp) fun p H1 np e1 hp => ?_
        refine x_isD2 (Dp.ex e1 hy) hp rfl ⟨false, rfl, ?_⟩
        rw [if_neg Bool.false_ne_true, if_neg (by simp)]
        refine x_isD (Dp.ex e1 hy) rfl ⟨false, rfl, ?_⟩
        rw [if_neg Bool.false_ne_true]
        refine x_isD (Dp.ex e1 hx) rfl ⟨true, rfl, ?_⟩
        rw [if_pos rfl]
        refine x_isD (Dp.ex e1 hx) rfl (x_isD (Dp.ex e1 hy) rfl ?_)
        walk_at "run"
        exact eqd H1 _ e1 (k H1 e1)
      | bool z =>
        obtain rfl : y = .bl z := by cases hy; rfl
        refine x_isD hy rfl ⟨false, rfl, ?_⟩
        rw [if_neg Bool.false_ne_true]
        refine x_tup (by simp) fun p H1 np e1 hp => ?_
        refine x_isD2 (Dp.ex e1 hy) hp rfl ⟨false, rfl, ?_⟩
        rw [if_neg Bool.false_ne_true, if_neg (by simp)]
        refine x_isD (Dp.ex e1 hy) rfl ⟨false, rfl, ?_⟩
        rw [if_neg Bool.false_ne_true]
        refine x_isD (Dp.ex e1 hx) rfl ⟨true, rfl, ?_⟩
        rw [if_pos rfl]
        refine x_isD (Dp.ex e1 hx) rfl (x_isD (Dp.ex e1 hy) rfl ?_)
        walk_at "run"
        exact eqd H1 _ e1 (k H1 e1)
end
end K
set_option Elab.async false
set_option linter.all false
set_option maxRecDepth 100000
set_option maxHeartbeats 4000000
namespace K
open PySem PySem.Spec PyProof.Rows L2 Evl FB
local macro_rules | `(tactic| walk_at "run") => `(tactic| try simp only [tSeq, tAsg, tVar, tC, gName, L2.start, List.map_cons, List.map_nil, List.cons_append, List.nil_append, List.length_cons, List.length_nil, List.replicate, List.getElem?_cons_zero, List.getElem?_cons_succ, Option.some.injEq, exists_eq_left', List.set_cons_zero, List.set_cons_succ, V.ref.injEq, tRet, x_tLst, x_tTup, tCons, tCB, tNil, tOp, x_addI, x_mulI, x_rI, x_rI0, x_ltI, x_leI, x_ltS, x_leS, x_eqI, x_neI, x_eqS, x_eqB, x_neB, x_isiI, x_isiS, x_int, x_max, x_min, cxOf, tIfS, tNext, tTest, V.bl.injEq, decide_eq_true_eq, gSub, tAnd, tOr, tNot, tB, tDrop, tBM, x_tFor, iRng1, iList, iTup, x_tLc, tYes, tCall, tIf, tAndV, tOrV, tNotV, tChain, List.append_nil, tUn, if_true, wipe, true_and, x_never, iU, x_itS, kV])
/-- the program's constants -/
abbrev s_is_letters : Stmt := top 14
structure Ct (K : PySem.W.Frag) (mg : Str → Option Value) : Prop where
  g_MAX_LETTERS : ∃ t, mg "MAX_LETTERS" = some (.int 8 t)
  g_MAX_SEATS : ∃ t, mg "MAX_SEATS" = some (.int 8 t)
  g_MAX_STATIONS : ∃ t, mg "MAX_STATIONS" = some (.int 40 t)
  is_letters : ∃ f fd, Df K mg "is_letters" s_is_letters ["text"] f fd
def okc (c : Nat) : Bool := decide (97 ≤ c) && decide (c ≤ 122)
theorem one_lt (c d : Nat) : decide (([c] : List Nat) < [d]) = decide (c < d) := by
  have e : (([c] : List Nat) < [d]) ↔ c < d := by
    simp [List.cons_lt_cons_iff]
  simp [e]
/-- one to eight letters -/
def wordB (z : Str) : Bool := decide (1 ≤ z.length) && decide (z.length ≤ 8) && z.cps.toList.all okc
/-- a seat of the station st of n may lead to it -/
def placeB (st n : Int) : Key → Bool
  | .inl j => decide (st < j) && decide (j < n)
  | .inr z => wordB z
section
variable {P : Program} {w : World} {K : PySem.W.Frag} {mg : Str → Option Value} {base : Heap}
theorem sc_is_letters : FnScope ["text", "letter"] ["text"] (defScope s_is_letters) := ⟨rfl, rfl, rfl, by decide +kernel, rfl, by decide +kernel, by decide +kernel⟩
/-- letters a to z, at least one -/
def lettersB (z : Str) : Bool := decide (1 ≤ z.length) && z.cps.toList.all okc
def spLetters : Sp := fun vs H Q _ => ∃ z : Str, vs = [.str z] ∧ z.length ≤ 100000 ∧ ∀ H', Ex H H' → Q (.bl (lettersB z)) H'
theorem ok_is_letters {f : Addr} {fd : FuncData} (D : Df K mg "is_letters" s_is_letters ["text"] f fd) (T : Bt mg) : FnOk P w K mg base CX0 1 f fd ["text"] spLetters := by
  refine D.F.ok sc_is_letters (fun vs H Q E h => ?_) (fun cdv A outer s H vs Q E hr h => ?_)
  · obtain ⟨z, rfl, _⟩ := h
    rfl
  · obtain ⟨z, rfl, hl, k⟩ := h
    refine ⟨_, (pss_one (ps_ret (pe_and (pe_cmpR (op_gtU) (pe_callB (call_lenU (K := K)) (by rfl) T.b_len (by decide +kernel) (pa_cons (pv 0) pa_nil)) pe_int (nomark _)) (pe_one (pe_callB (call_allU (K := K) rfl) (by rfl) T.b_all (by decide +kernel) (pa_cons (pe_lc (own := [("letter", 1)]) (g := gName 1) (tt := tYes) rfl sc_is_letters.nd (pi_U (K := K) (pv 0)) (blkOk_by (own := [("letter", 1)]) (N := ["text", "letter"]) (sc := defScope s_is_letters) (by decide +kernel)) (fun _ _ _ _ _ => (pg_name (i := 1) sc_is_letters.nd rfl (Or.inl rfl))) (fun _ _ _ _ _ => pts_nil) (fun _ _ _ _ _ => (pe_chain (op_leU) (op_leU) pe_str (pv 1) pe_str))) pa_nil)))))), ?_⟩
    walk_at "run"
    refine x_lenS (by rw [sizeLine_eq]; omega) ?_
    walk_at "run"
    by_cases h1 : (0 : Int) < (z.length : Nat)
    · rw [if_pos h1]
      walk_at "run"
      have hz : z.cps.size = z.cps.toList.length := by simp
      have hzl : z.cps.size = z.length := rfl
      refine lcl_it walk_str (fun D i H' => H' D = some (.lst (((z.cps.toList.take i).map okc).map V.bl)) ∧ Ex H H') (fun D H' _ e h => ⟨h, e⟩) (fun _ _ _ _ _ => trivial) ?_ ?_
      · rintro D i v H2 H2' hD hi ⟨hD2, e2⟩ ⟨eH, c, hc, rfl⟩
        subst eH
        have hc' : z.cps.toList[i]? = some c := by simpa using hc
        walk_at "run"
        have ea : (Str.ofString "a").cps.toList = [97] := by decide +kernel
        have ez : (Str.ofString "z").cps.toList = [122] := by decide +kernel
        rw [ea]
        show if (!decide (([c] : List Nat) < [97])) = true then _ else _
        rw [one_lt]
        have push : ∀ b, b = okc c → Push D (fun H' => H' D = some (.lst (((z.cps.toList.take (i + 1)).map okc).map V.bl)) ∧ Ex H H') (.bl b) H2' := fun b hb => by
          refine x_push hD2 (by simp; omega) fun H5 e5 h5 => ⟨?_, fun x o hx => e5 _ _ (ne_of_none hx hD) (e2 _ _ hx)⟩
          rw [h5, List.take_add_one, hc', hb]
          simp
        by_cases g1 : c < 97
        · rw [if_neg (by simp [g1])]
          refine push _ ?_
          unfold okc
          simp; omega
        · rw [if_pos (by simp [g1])]
          rw [ez]
          show Push D _ (V.bl (!decide (([122] : List Nat) < [c]))) H2'
          rw [one_lt]
          refine push _ ?_
          unfold okc
          by_cases g2 : 122 < c
          · have : ¬ c ≤ 122 := by omega
            simp [g2, this]
          · have h1 : 97 ≤ c := by omega
            have h2 : c ≤ 122 := by omega
            simp [g2, h1, h2]
      · rintro D H2 hD ⟨hD2, e2⟩
        refine ⟨D, _, rfl, SqL.of hD2, ?_⟩
        have e : (((z.cps.toList.take z.cps.size).map okc).all id) = lettersB z := by
          rw [hz, List.take_length]
          unfold lettersB
          have a1 : decide (1 ≤ z.length) = true := by simp; omega
          rw [a1, List.all_map]
          rfl
        rw [e]
        exact k H2 e2
    · rw [if_neg h1]
      have q := k H (Ex.refl H)
      have e : lettersB z = false := by unfold lettersB; have : ¬ 1 ≤ z.length := by omega
                                        simp [this]
      rw [e] at q
      exact q
abbrev s_is_word : Stmt := top 15
theorem sc_is_word : FnScope ["text"] ["text"] (defScope s_is_word) := ⟨rfl, rfl, rfl, by decide +kernel, rfl, by decide +kernel, by decide +kernel⟩
def spWord : Sp := fun vs H Q _ => ∃ z : Str, vs = [.str z] ∧ z.length ≤ 1000 ∧ ∀ H', Ex H H' → Q (.bl (wordB z)) H'
theorem ok_is_word {f : Addr} {fd : FuncData} (D : Df K mg "is_word" s_is_word ["text"] f fd) (T : Bt mg) (C : Ct K mg) : FnOk P w K mg base CX0 2 f fd ["text"] spWord := by
  obtain ⟨f1, fd1, D_is_letters⟩ := C.is_letters
  have G_is_letters : FnOk P w K mg base CX0 1 f1 fd1 _ _ := ok_is_letters D_is_letters T
  refine D.F.ok sc_is_word (fun vs H Q E h => ?_) (fun cdv A outer s H vs Q E hr h => ?_)
  · obtain ⟨z, rfl, _⟩ := h
    rfl
  · obtain ⟨z, rfl, hl, k⟩ := h
    obtain ⟨tl, g_MAX_LETTERS⟩ := C.g_MAX_LETTERS
    refine ⟨_, (pss_one (ps_ret (pe_and (pe_cmpR (op_leU) (pe_callB (call_lenU (K := K)) (by rfl) T.b_len (by decide +kernel) (pa_cons (pv 0) pa_nil)) (pe_glob (v := .int 8) rfl g_MAX_LETTERS ⟨_, rfl⟩) (nomark _)) (pe_one (pe_call (G_is_letters) (hr.mono (by decide)) rfl D_is_letters.g D_is_letters.F.kp D_is_letters.b .nil pass0 (pa_cons (pv 0) pa_nil)))))), ?_⟩
    walk_at "run"
    refine x_lenS (by rw [sizeLine_eq]; omega) ?_
    walk_at "run"
    by_cases h8 : ((z.length : Nat) : Int) ≤ 8
    · rw [if_pos h8]
      refine ⟨z, rfl, by omega, fun H1 e1 => ?_⟩
      have e : lettersB z = wordB z := by
        unfold lettersB wordB
        have a2 : decide (z.length ≤ 8) = true := by simp; omega
        rw [a2, Bool.and_true]
      rw [e]
      exact k H1 e1
    · rw [if_neg h8]
      have q := k H (Ex.refl H)
      have e : wordB z = false := by unfold wordB; have : ¬ z.length ≤ 8 := by omega
                                     simp [this]
      rw [e] at q
      exact q
abbrev s_is_place : Stmt := top 16
theorem sc_is_place : FnScope ["place", "station", "stations"] ["place", "station", "stations"] (defScope s_is_place) := ⟨rfl, rfl, rfl, by decide +kernel, rfl, by decide +kernel, by decide +kernel⟩
def spPlaceQ : Sp := fun vs H Q _ => ∃ (k : Key) (st n : Int), vs = [kV k, .int st, .int n] ∧ (∀ z, k = .inr z → z.length ≤ 1000) ∧ ∀ H', Ex H H' → Q (.bl (placeB st n k)) H'
theorem ok_is_place {f f1 : Addr} {fd fd1 : FuncData} (D : Df K mg "is_place" s_is_place ["place", "station", "stations"] f fd) (T : Bt mg) (C : Ct K mg) (D_is_word : Df K mg "is_word" s_is_word ["text"] f1 fd1) :
    FnOk P w K mg base CX0 3 f fd ["place", "station", "stations"] spPlaceQ := by
  have G_is_word : FnOk P w K mg base CX0 2 f1 fd1 _ _ := ok_is_word D_is_word T C
  refine D.F.ok sc_is_place (fun vs H Q E h => ?_) (fun cdv A outer s H vs Q E hr h => ?_)
  · obtain ⟨k, st, n, rfl, _⟩ := h
    rfl
  · obtain ⟨key, st, n, rfl, hl, k⟩ := h
    refine ⟨_, (pss_cons (ps_if (pt_val (pe_callB (call_isiU (K := K)) (by rfl) T.b_isinstance (by decide +kernel) (pa_cons (pv 0) (pa_cons (pe_bltn (v := .ty "str") (by rfl) T.b_str (by decide +kernel) rfl) pa_nil)))) (pss_one (ps_ret (pe_call (G_is_word) (hr.mono (by decide)) rfl D_is_word.g D_is_word.F.kp D_is_word.b .nil pass0 (pa_cons (pv 0) pa_nil)))) pss_nil)
      (pss_one (ps_ret (pe_chain (op_ltU) (op_ltU) (pv 1) (pv 0) (pv 2))))), ?_⟩
    cases key with
    | inl j =>
      walk_at "run"
      rw [if_neg Bool.false_ne_true]
      by_cases h : st < j
      · rw [if_pos h]
        have e : placeB st n (.inl j) = decide (j < n) := by unfold placeB; simp [h]
        rw [← e]
        exact k H (Ex.refl H)
      · rw [if_neg h]
        have e : placeB st n (.inl j) = false := by unfold placeB; simp [h]
        rw [← e]
        exact k H (Ex.refl H)
    | inr z =>
      walk_at "run"
      exact ⟨z, rfl, hl z rfl, k⟩
end
end K
set_option Elab.async false
set_option linter.all false
set_option maxRecDepth 100000
set_option maxHeartbeats 4000000
/-! enumerate of a tuple. -/
namespace FB
open PySem PySem.Spec PyProof.Rows L2 Evl
/-- one argument: the count begins at 0 -/
theorem meets_enum1 {v : Value} {o : Obj} {W : Heap → Prop} (B : Begins v o W) :
    Meets (Builtin.«enumerate.__new__» ⟨[.type "enumerate", v], []⟩) (fun _ R s => W s.heap ∧
      R (.ok (.ret (.ref (s.heap.push o).objs.size))) { s with heap := (s.heap.push o).push { cls := .type "enumerate", data := .fields #[.none, .bool false, .ref s.heap.objs.size, rawInt 0, .none, .none] } }) := by
  refine .of_wp ?_
  intro prog w A R s hs
  rcases s with ⟨hp, g, d, tk, os⟩
  rcases hs with ⟨h1, h2⟩
  have sub0 := sub_enumerate
  have go : ∀ {A' : Around} {E Q : Value → Shared → Prop}, Q (.ref hp.objs.size) ⟨hp.push o, g, d, tk, os⟩ → wpAny (model prog w) A' (pyIter v) Q E ⟨hp, g, d, tk, os⟩ := by
    intro A' E Q q
    exact B.iter prog w A' E _ Q h1 q
  wp_walk using go
  apply wpAny_stack_any
  intro st
  apply wpAny_pure
  split
  case h_1 c _ _ _ _ _ =>
    by_cases hc : (c == Value.type "enumerate") = true
    all_goals (simp only [hc]; wp_walk using go)
    all_goals exact ⟨_, rfl, h2⟩
  all_goals (wp_walk using go)
  all_goals exact ⟨_, rfl, h2⟩
section
variable {prog : Program} {w : World} {A : Around} {E : Value → Shared → Prop} {s : Shared}
theorem enum_one {v : Value} {o : Obj} {W : Heap → Prop} {Q : Value → Shared → Prop} (B : Begins v o W) (h1 : W s.heap)
    (h : ∀ h', IsEnum h' (s.heap.objs.size + 1) s.heap.objs.size 0 .none → h'.get? s.heap.objs.size = some o → (∀ b u, s.heap.get? b = some u → h'.get? b = some u) → Q (.ref (s.heap.objs.size + 1)) { s with heap := h' }) :
    wpAny (model prog w) A (call (.type "enumerate") [v]) Q E s := by
  have sz : (s.heap.push o).objs.size = s.heap.objs.size + 1 := Heap.size_push ..
  have at1 := Heap.get?_push_size (s.heap.push o) (o := { cls := .type "enumerate", data := .fields #[.none, .bool false, .ref s.heap.objs.size, rawInt 0, .none, .none] }) rfl
  rw [sz] at at1
  have en : IsEnum _ (s.heap.objs.size + 1) s.heap.objs.size 0 .none := at1
  apply callType_new F.called_enumerate (by decide) (F.typeCall_enumerate_1 _) (F.newCall_enumerate_1 _) (fun x => F.args_object_init_2 x _) F.entry_enumerate_new (meets_enum1 B)
  refine ⟨h1, ?_⟩
  rw [sz]
  exact ⟨⟨_, en, rfl⟩, h _ en (Heap.get?_push_of_some _ (Heap.get?_push_size _ B.free)) (fun b u x => Heap.get?_push_of_some _ (Heap.get?_push_of_some _ x))⟩
end
/-- the tuple at a, each item in a new pair with its place -/
def IteT (K : PySem.W.Frag) (a : Addr) : It where
  go := fun i H => ∃ (xs : List V) (x : V), SqT K H a xs ∧ xs[i]? = some x
  yld := fun i H v H' => ∃ T x, v = .ref T ∧ H T = none ∧ H' = upd H T (.tup [.int (i : Nat), x]) ∧ ∀ xs, SqT K H a xs → xs[i]? = some x
  stop := fun i H => ∃ xs : List V, SqT K H a xs ∧ xs.length = i
theorem walk_enumT {K : PySem.W.Frag} {a : Addr} {xs : List V} : Walk (IteT K a) xs.length (fun H => SqT K H a xs) (YPair (fun i => some (.int (i : Nat))) (fun i => xs[i]?)) where
  goes := fun i H hi q => ⟨xs, xs[i], q, by simp [hi]⟩
  stops := fun H q => ⟨xs, q, rfl⟩
  yields := fun i H v H' _ q ⟨T, x, h1, h2, h3, h4⟩ => ⟨T, .int (i : Nat), x, h1, h2, h3, rfl, h4 xs q⟩
/-- the iterator's two objects -/
def EnT (a e it : Addr) (i : Nat) (h : Heap) : Prop := (∃ old, IsEnum h e it ((i : Nat) : Int) old) ∧ h.IsTupleIter it a i ∧ e ≠ it
theorem turn_enumT {P : Program} {w : World} {K : PySem.W.Frag} {elts : List Expr} {kk : Nat} {tpos : Pos} (a e it : Addr) : Turn P w K (.Tuple elts kk tpos) (IteT K a) [e, it] e (EnT a e it) := by
  constructor
  case mem => exact List.mem_cons_self ..
  case obj =>
    rintro i h ⟨⟨old, he⟩, ⟨o, ho, _, hd⟩, _⟩ b hb
    simp only [List.mem_cons, List.not_mem_nil, or_false] at hb
    rcases hb with rfl | rfl
    · exact ⟨_, he, fun v q => nomatch q⟩
    · exact ⟨o, ho, fun v q => by rw [hd] at q; cases q⟩
  case keep =>
    rintro i h h' ⟨⟨old, he⟩, hi, ne⟩ k
    exact ⟨⟨old, k e (by simp) _ he⟩, hi.at (fun o q => k it (by simp) o q), ne⟩
  case self =>
    rintro A i s Q E ⟨⟨old, he⟩, _⟩ h
    exact wpAny_pyIter_enum he h
  case item =>
    rintro X rfl rfl rfl hc i pins s σ H E I hf ⟨⟨old, he⟩, hit, ne⟩ ⟨xs, x, hq, hx⟩
    obtain ⟨its, rv, p, hz⟩ := I.tuple hq
    have p' : s.heap.IsTuple a its.toArray := p
    obtain ⟨u, hu, ru⟩ := rv.get hx
    have hlt : i < its.length := (List.getElem?_eq_some_iff.mp hu).1
    have nai : a ≠ it := by
      rintro rfl
      obtain ⟨o1, e1, c1, _⟩ := p'
      obtain ⟨o2, e2, c2, _⟩ := hit
      rw [e1] at e2
      cases e2
      rw [c1] at c2
      exact absurd c2 (by decide)
    have nea : e ≠ a := by
      rintro rfl
      obtain ⟨o1, e1, c1, _⟩ := p'
      have e2 : s.heap.get? e = some _ := he
      rw [e1] at e2
      cases e2
      have c : Value.type "enumerate" = Value.type "tuple" := c1
      exact absurd c (by decide)
    have hh : X.A.in1.handled = none := I.ok.hd hc
    have le : e < s.heap.objs.size := Heap.lt_size he
    have li : it < s.heap.objs.size := by
      obtain ⟨_, q, _⟩ := hit
      exact Heap.lt_size q
    have ez : ((i + 1 : Nat) : Int) = (i : Int) + 1 := by omega
    refine wpAny_pyNext_enum_itemC (Draws.tuple hh it a nai its.toArray) he ⟨hit, p'⟩ (by simpa using hlt) ne (by simp [ne, nea]) ?_
    intro y h' tk hy ho hst hT _ hk
    obtain rfl : y = u := by
      have : its[i]? = some y := by simpa using hy
      rw [hu] at this
      exact (Option.some.inj this).symm
    refine ⟨_, rfl, wpAny_letOwnedTupleGo_enum (s := { s with heap := h', toks := tk + 1 }) ho ?_⟩
    intro h2 he2 sb
    have hT2 : h2.get? s.heap.objs.size = some { cls := .type "tuple", data := .seq #[.int i tk, y] } := (sb.2 _ (Nat.ne_of_gt le)).trans hT
    have mk : ObjOk X.prog X.w (upd H s.heap.objs.size (.tup [.int (i : Nat), x])) h2 s.heap.objs.size (.tup [.int (i : Nat), x]) :=
      ⟨small (n := 2) (by omega), [.int i tk, y], .cons ⟨tk, rfl⟩ (.cons ru .nil), ⟨_, hT2, rfl, _, rfl⟩⟩
    have J : Inv X pins σ (upd H s.heap.objs.size (.tup [.int (i : Nat), x])) { s with heap := h2, toks := tk + 1 } := by
      refine I.turnedNew (ch := [e, it]) (fun b ob hb q => ?_) hf (Nat.le_refl _) mk
      simp only [List.mem_cons, List.not_mem_nil, or_false, not_or] at hb
      exact (sb.2 b hb.1).trans (hk b ob hb.1 hb.2 q)
    refine ⟨.ref s.heap.objs.size, _, J, rfl, ⟨_, x, rfl, I.hok.fresh (Nat.le_refl _), rfl, fun ys hy => by rw [I.tuple_inj hy hq]; exact hx⟩, ⟨⟨y, ?_⟩, hst.1.at (fun o q => (sb.2 it ne.symm).trans q), ne⟩, fun b hb => ?_⟩
    · rw [ez]
      exact he2
    · have lb : b < s.heap.objs.size := by
        simp only [List.mem_cons, List.not_mem_nil, or_false] at hb
        rcases hb with rfl | rfl
        · exact le
        · exact li
      rw [upd_ne (Nat.ne_of_lt lb)]
      exact (hf b hb).1
  case done =>
    rintro X rfl rfl rfl hc i pins s σ H E I hf ⟨⟨old, he⟩, hit, ne⟩ ⟨xs, hq, hx⟩
    obtain ⟨its, rv, p, hz⟩ := I.tuple hq
    have p' : s.heap.IsTuple a its.toArray := p
    have hlen := rv.length
    have hh : X.A.in1.handled = none := I.ok.hd hc
    have nai : a ≠ it := by
      rintro rfl
      obtain ⟨o1, e1, c1, _⟩ := p'
      obtain ⟨o2, e2, c2, _⟩ := hit
      rw [e1] at e2
      cases e2
      rw [c1] at c2
      exact absurd c2 (by decide)
    have hi : its.toArray.size = i := by rw [List.size_toArray, ← hlen, hx]
    obtain ⟨f0, f1, f2, f3, f4, f5⟩ := hf it (by simp)
    refine wpAny_pyNext_enum_endD (Draws.tuple hh it a nai its.toArray) he (by rw [hi]; exact ⟨hit, p'⟩) ?_
    intro h' eb
    exact ⟨rfl, I.turned (t' := s.toks) (fun b o hb q => eb b o hb q) f0 f1 f3 f4 f5⟩
def iEnumT (K : PySem.W.Frag) (ta : TA) : TI := fun σ H R => ta σ H fun vs H1 => ∃ a xs, vs = [.ref a] ∧ SqT K H1 a xs ∧ R (IteT K a) H1
theorem pi_enumT {X : Cx} {e : Expr} {ta : TA} {p pos tpos : Pos} {elts : List Expr} {kk : Nat} {K : PySem.W.Frag} (hg : Gl X "enumerate") (hm : X.mg "enumerate" = none) (ha : PA X [e] ta) (hK : X.K = K := by rfl) (hs : starEach [e] X.env = [(false, eval e X.env)] := by rfl) :
    PI X (.Tuple elts kk tpos) (.Call (.Name "enumerate" p) [e] [] pos) (iEnumT K ta) := by
  subst hK
  constructor
  intro pins s σ H R I h
  apply Call_ (ld_blt I hg hm boot_enumerate (PyProof.Rows.callWith_type1 (thn (ha.run pos pins s σ H _ I h) ?_) hs rfl))
  rintro us s1 ⟨vs, H1, I1, r1, a, xs, rfl, hq, q⟩
  cases r1 with
  | cons r rr =>
    cases rr
    cases r
    obtain ⟨its, rv, p', hz⟩ := I1.tuple hq
    refine enum_one (begins_tuple a its.toArray) p' fun h' he hit hk => wpAny_pyIter_enum he ?_
    have I2 : Inv X pins σ H1 { s1 with heap := h' } := I1.kept (t' := s1.toks) hk
    refine ⟨s1.heap.objs.size + 1, [s1.heap.objs.size + 1, s1.heap.objs.size], _, _, H1, rfl, I2, turn_enumT a (s1.heap.objs.size + 1) s1.heap.objs.size, ⟨⟨.none, he⟩, ⟨_, hit, rfl, rfl⟩, Nat.succ_ne_self _⟩, fun b hb => ?_, q⟩
    have le : s1.heap.objs.size ≤ b := by
      simp only [List.mem_cons, List.not_mem_nil, or_false] at hb
      rcases hb with rfl | rfl
      · exact Nat.le_succ _
      · exact Nat.le_refl _
    exact I1.fpOk le (I1.hok.fresh le)
section
variable {K : PySem.W.Frag} {H : Hp} {σ : L2.St}
theorem x_rU {g : Int → V} {i : Int} {Q : VK} : rU g (.int i) H Q ↔ Q (g i) H := by
  constructor
  · rintro ⟨_, h1, h⟩
    cases h1; exact h
  · exact fun h => ⟨i, rfl, h⟩
theorem x_two {n i j : Nat} {T : Addr} {x y : V} {Q : L2.St → Hp → Prop} (h : SqT K H T [x, y]) (k : Q ((σ.set i (some x)).set j (some y)) H) (hn : n = 2 := by rfl) : gTup K n (gCons (gName i) (gCons (gName j) gNil)) (.ref T) σ H Q := by
  subst hn
  exact ⟨T, _, rfl, h, rfl, x, [y], rfl, y, [], rfl, rfl, k⟩
end
/-- C(..), its __init__ keeping sp -/
def rMk (C : Addr) (sp : Sp) (dvs vs : List V) (H1 : Hp) (Q : XK) : Prop := vs.length ≤ 1000 ∧ ∀ a, H1 a = none → sp (.ref a :: (vs ++ dvs)) (upd H1 a (exo a C none))
  (fun v H2 => v = .non ∧ ∃ (d : Addr) (fs : List (Str × V)), H2 a = some (exo a C (some d)) ∧ H2 d = some (exd d fs) ∧ H1 d = none ∧ Q (.ref C) (some d) (upd (del H2 a) d (.xd fs))) (fun _ _ _ => False)
theorem x_tMkO {C : Addr} {sp : Sp} {dvs : List V} {ta : TA} {σ : L2.St} {H : Hp} {Q : XK} : tMkO C sp dvs ta σ H Q = ta σ H fun vs H1 => rMk C sp dvs vs H1 Q := rfl
end FB
set_option Elab.async false
set_option linter.all false
set_option maxRecDepth 100000
set_option maxHeartbeats 4000000
/-! Dicts: made by a comprehension, walked, asked, filled; sets; zip of tuples. -/
namespace FB
open PySem PySem.Spec PyProof.Rows L2 Evl
section
variable {X : Cx}
/-- the value is locked from here on -/
def tLockV (t : TE) : TE := fun σ H Q => t σ H fun x H1 => ∃ d u, x = .ref d ∧ H1 d = some u ∧ Mut (some u) ∧ ∀ od, Q x (upd H1 d (.frz od u))
theorem pe_lockV {e : Expr} {t : TE} (h : PE X e t) : PE X e (tLockV t) := by
  refine ⟨fun pins s σ H Q I hw => ?_⟩
  refine thn (h.run pins s σ _ _ I hw) fun v s1 ⟨x, H1, I1, r, d, u, e, hd, mu, q⟩ => ?_
  obtain ⟨od, I2⟩ := I1.lock hd mu
  exact ⟨x, _, I2, r, q od⟩
/-- name = {..} on one line, the name a local -/
theorem ps_setDc {i : Nat} {y : Str} {py : Pos} {kx vx tg iter : Expr} {ifs : List Expr} {scope : Scope} {own : List (Str × Nat)} {pos spos : Pos} {wi : TI} {g : TG} {tt : TT} {tk tv : TE} (hc : X.calm = true) (hN : X.N.Nodup) (hy : X.N[i]? = some y) (hyl : X.env.scope.names.lookup y = some .local)
    (hsw : swapsWith (.DictComp kx vx [⟨tg, iter, ifs, 0⟩] scope pos) (some (.Name y py)) spos.line X.env = pure true) (hi : PI X tg iter wi) (ok : BlkOk X.N X.env.scope scope own)
    (hg : ∀ (s : Shared) (H : Hp) (C : Addr) (cl : List (Str × Addr)) (fp : List Addr), PG (X.blk s H scope (compEnvC scope cl C X.env) fp) tg g) (ht : ∀ (s : Shared) (H : Hp) (C : Addr) (cl : List (Str × Addr)) (fp : List Addr), PTs (X.blk s H scope (compEnvC scope cl C X.env) fp) ifs tt)
    (hk : ∀ (s : Shared) (H : Hp) (C : Addr) (cl : List (Str × Addr)) (fp : List Addr), PE (X.blk s H scope (compEnvC scope cl C X.env) fp) kx tk)
    (he : ∀ (s : Shared) (H : Hp) (C : Addr) (cl : List (Str × Addr)) (fp : List Addr), PE (X.blk s H scope (compEnvC scope cl C X.env) fp) vx tv) (hs : ∀ x, foldedSetIterable iter X.env x = pure x := by intro _; rfl) :
    PS X (.Assign [.Name y py] (.DictComp kx vx [⟨tg, iter, ifs, 0⟩] scope pos) spos) (tAsg (tDc wi g tt tk tv (own.map (·.2))) (gName i)) := by
  refine ⟨fun pins s σ H D I h => ?_⟩
  rw [exec_Assign_Name_used _ _ _ _ hsw]
  refine wpAny_bind (wpAny_standAt (wpAny_bind ?_))
  show wpAny _ X.A (do let _ ← comprehension (.DictComp kx vx [⟨tg, iter, ifs, 0⟩] scope pos) scope X.env (firstIterPos [⟨tg, iter, ifs, 0⟩] pos) newDict false (eval iter X.env) (some (assign (.Name y py) X.env))) _ _ s
  have h : tDc wi g tt tk tv (own.map (·.2)) σ H (fun x H1 => gName i x σ H1 D.nx) := h
  refine wpAny_bind (thn (dc_core (Qf := fun _ s' => SP X pins D .next s') hc hN I hi ok hg ht hk he hs h fun L C s' m H' I' q hn f => ?_) fun _ s' hq => wpAny_pure (wpAny_pure hq))
  show wpAny _ _ (assign (.Name y py) X.env (.ref L)) _ _ _
  refine wpAny_assign_Name (store_ok2 (v := V.ref L) I' hN hy (.inl hyl) rfl (fun s2 I2 ⟨a, sb, ha⟩ => ?_) (.inr hyl))
  obtain ⟨f0, f1, f2, f3, f4, f5⟩ := f
  have haC : C ≠ a := by
    rcases ha with z | z
    · rw [z]; exact f1
    · exact fun e => f4 y a z e.symm
  refine ⟨m, hn.sameBut sb haC, fun h3 sb3 => ?_⟩
  exact ⟨_, H', I2.turned (t' := s2.toks) (fun b o hb e => (sb3.2 b hb).trans e) f0 f1 f3 f4 f5, q⟩
theorem sw_trueD {kx vx : Expr} {gs : List Comprehension} {scope : Scope} {pos py : Pos} {y : Str} {l : Nat} {env : Env} (hk : env.scope.kind = .function) (hy : env.scope.names.lookup y = some .local) (hl : (py.line == pos.line) = true)
    (ha : (scope.names.any fun (n, k) => n == y && (k == .local || k == .cell)) = false) : swapsWith (.DictComp kx vx gs scope pos) (some (.Name y py)) l env = pure true := by
  have ky : env.kindOf y = some .local := hy
  have hb : env.blockKind = .function := by unfold Env.blockKind; rw [hk]; rfl
  unfold swapsWith
  simp only [hb, ky, ha, Expr.pos, hl]
  rfl
end
/-- a dict comprehension's reading -/
def DcL (J : It) (g : TG) (tt : TT) (tk tv : TE) (vs : List Nat) (σ : L2.St) (H1 : Hp) (Q : VK) : Prop := ∀ D, H1 D = none → ∃ W : Nat → Nat → Hp → Prop, (∃ m, W 0 m (upd H1 D (.dK []))) ∧ ∀ i m H, W i m H →
  (J.stop i H ∧ Q (.ref D) H) ∨ (J.go i H ∧ ∃ Nx : Hp → Prop, (∀ H', Nx H' → ∃ m', m' < m ∧ W (i + 1) m' H') ∧ ∀ x H', J.yld i H x H' → g x (wipe σ vs) H' fun σ2 H2 => wipe σ2 vs = wipe σ vs ∧ tt σ2 H2 fun b H3 =>
    if b = true then tk σ2 H3 fun y H4 => tv σ2 H4 fun z H5 => ∃ kvs k, y = kV k ∧ H5 D = some (.dK kvs) ∧ kvs.length < sizeLine ∧ Nx (upd H5 D (.dK (putK kvs k z))) else Nx H3)
theorem x_tDc {wi : TI} {g : TG} {tt : TT} {tk tv : TE} {vs : List Nat} {σ : L2.St} {H : Hp} {Q : VK} : tDc wi g tt tk tv vs σ H Q = wi σ H fun J H1 => DcL J g tt tk tv vs σ H1 Q := rfl
/-- the item goes to the dict at D -/
def PutD (D : Addr) (N : Hp → Prop) (y : V) : VK := fun z H5 => ∃ kvs k, y = kV k ∧ H5 D = some (.dK kvs) ∧ kvs.length < sizeLine ∧ N (upd H5 D (.dK (putK kvs k z)))
theorem x_putD {D : Addr} {N : Hp → Prop} {k : Key} {z : V} {H : Hp} {kvs : List (Key × V)} (h : H D = some (.dK kvs)) (hl : kvs.length < 1000000) (q : ∀ H5, (∀ x o, x ≠ D → H x = some o → H5 x = some o) → H5 D = some (.dK (putK kvs k z)) → N H5) : PutD D N (kV k) z H :=
  ⟨kvs, k, rfl, h, by rw [sizeLine_eq]; omega, q _ (fun x o hx e => by rw [upd_ne hx]; exact e) upd_same⟩
theorem dcl_it {J : It} {n : Nat} {G : Hp → Prop} {Y : Nat → Hp → V → Hp → Prop} {g : TG} {tt : TT} {tk tv : TE} {vs : List Nat} {σ : L2.St} {H1 : Hp} {Q : VK} (w : Walk J n G Y) (Pv : Addr → Nat → Hp → Prop)
    (h0 : ∀ D H', H1 D = none → Ex H1 H' → H' D = some (.dK []) → Pv D 0 H') (hG : ∀ D i H, i ≤ n → Pv D i H → G H)
    (hs : ∀ D i x H H', H1 D = none → i < n → Pv D i H → Y i H x H' → g x (wipe σ vs) H' fun σ2 H2 => wipe σ2 vs = wipe σ vs ∧ tt σ2 H2 fun b H3 => if b = true then tk σ2 H3 fun y H4 => tv σ2 H4 (PutD D (Pv D (i + 1)) y) else Pv D (i + 1) H3)
    (hd : ∀ D H, H1 D = none → Pv D n H → Q (.ref D) H) : DcL J g tt tk tv vs σ H1 Q := fun D hD => by
  refine ⟨fun i m H => m = n - i ∧ i ≤ n ∧ Pv D i H, ⟨n, by simp, Nat.zero_le _, h0 D _ hD (Ex.new hD) upd_same⟩, ?_⟩
  rintro i m H ⟨rfl, hi, p⟩
  have q := hG D i H hi p
  by_cases hlt : i < n
  · exact .inr ⟨w.goes i H hlt q, Pv D (i + 1), fun H' p' => ⟨n - (i + 1), by omega, rfl, hlt, p'⟩, fun x H' y => hs D i x H H' hD hlt p (w.yields i H x H' hlt q y)⟩
  · have e : i = n := by omega
    subst e
    exact .inl ⟨w.stops H q, hd D H hD p⟩
section
variable {K : PySem.W.Frag} {H H' : Hp} {a b d p : Addr} {kvs : List (Key × V)} {k : Key} {v : V} {Q : VK} {xs ys : List V}
theorem x_lock {t : TE} {σ : L2.St} {u : HO} (h : H d = some u) (mu : Mut (some u)) (q : ∀ od H1, (∀ x o, x ≠ d → H x = some o → H1 x = some o) → (∀ x, x ≠ d → H1 x = none → H x = none) → H1 d = some (.frz od u) → t σ H1 fun v H' => H' d = some (.frz od u) ∧ Q v (upd H' d u)) : tLockE t σ H Q :=
  ⟨d, u, h, mu, fun od => q od _ (fun x o hx e => by rw [upd_ne hx]; exact e) (fun x hx e => by rw [upd_ne hx] at e; exact e) upd_same⟩
def rLockV (x : V) (H : Hp) (Q : VK) : Prop := ∃ d u, x = .ref d ∧ H d = some u ∧ Mut (some u) ∧ ∀ od, Q x (upd H d (.frz od u))
theorem x_tLockV {t : TE} {σ : L2.St} : tLockV t σ H Q = t σ H fun x H1 => rLockV x H1 Q := rfl
theorem x_lockV {u : HO} (h : H d = some u) (mu : Mut (some u)) (q : ∀ od H1, (∀ x o, x ≠ d → H x = some o → H1 x = some o) → (∀ x, x ≠ d → H1 x = none → H x = none) → H1 d = some (.frz od u) → Q (.ref d) H1) : rLockV (.ref d) H Q :=
  ⟨d, u, rfl, h, mu, fun od => q od _ (fun x o hx e => by rw [upd_ne hx]; exact e) (fun x hx e => by rw [upd_ne hx] at e; exact e) upd_same⟩
/-- d[k] -/
def rDGet (x y : V) (H : Hp) (Q : VK) : Prop := ∃ a v, x = .ref a ∧ DGet H a y (some v) ∧ Q v H
theorem x_tDGet {td ty : TE} {σ : L2.St} : tDGet td ty σ H Q = td σ H fun x H1 => ty σ H1 fun y H2 => rDGet x y H2 Q := rfl
theorem x_dget (h : H a = some (.dK kvs)) (e : valV kvs k = some v) (q : Q v H) : rDGet (.ref a) (kV k) H Q := ⟨a, v, rfl, by rw [← e]; exact DGet.k h, q⟩
/-- d.get(k, z) -/
def rDGet2 (a : Addr) (y z : V) (H : Hp) (Q : VK) : Prop := ∃ o, DGet H a y o ∧ Q (o.getD z) H
theorem x_tDGet2 {td ty tx : TE} {σ : L2.St} : tDGet2 td ty tx σ H Q = td σ H fun x H1 => ∃ a, x = .ref a ∧ IsD H1 a ∧ ty σ H1 fun y H2 => tx σ H2 fun z H3 => rDGet2 a y z H3 Q := rfl
theorem isD_k (h : H a = some (.dK kvs)) : IsD H a := .inl ⟨kvs, .inl h⟩
theorem x_dget2 {z : V} (h : H a = some (.dK kvs)) (q : Q ((valV kvs k).getD z) H) : rDGet2 a (kV k) z H Q := ⟨_, DGet.k h, q⟩
/-- d[k] = v -/
def rDPut (x y v : V) (H : Hp) (N : Hp → Prop) : Prop := ∃ a H4, x = .ref a ∧ DPut H a y v H4 ∧ N H4
theorem x_sDPut {td ty tv : TE} {σ : L2.St} {D : Ends} : sDPut td ty tv D σ H = tv σ H fun v H1 => td σ H1 fun x H2 => ty σ H2 fun y H3 => rDPut x y v H3 (D.nx σ) := rfl
theorem x_dput {N : Hp → Prop} (h : H a = some (.dK kvs)) (hl : kvs.length < 1000000) (q : ∀ H1, (∀ x o, x ≠ a → H x = some o → H1 x = some o) → (∀ x, x ≠ a → H1 x = none → H x = none) → H1 a = some (.dK (putK kvs k v)) → N H1) : rDPut (.ref a) (kV k) v H N :=
  ⟨a, _, rfl, DPut.k h (by rw [sizeLine_eq]; omega), q _ (fun x o hx e => by rw [upd_ne hx]; exact e) (fun x hx e => by rw [upd_ne hx] at e; exact e) upd_same⟩
/-- d.setdefault(k, z) -/
def rDSetd (a : Addr) (y z : V) (H : Hp) (Q : VK) : Prop := ∃ (kvs : List (Key × V)) (k : Key), H a = some (.dK kvs) ∧ y = kV k ∧ kvs.length < sizeLine ∧ (∀ v, valV kvs k = some v → Q v H) ∧ (valV kvs k = none → Q z (upd H a (.dK (putK kvs k z))))
theorem x_tDSetd {td ty tx : TE} {σ : L2.St} : tDSetd td ty tx σ H Q = td σ H fun x H1 => ∃ a, x = .ref a ∧ IsD H1 a ∧ ty σ H1 fun y H2 => tx σ H2 fun z H3 => rDSetd a y z H3 Q := rfl
theorem x_dsetd {z : V} (h : H a = some (.dK kvs)) (hl : kvs.length < 1000000) (q : ∀ v, valV kvs k = some v → Q v H)
    (q2 : valV kvs k = none → ∀ H1, (∀ x o, x ≠ a → H x = some o → H1 x = some o) → (∀ x, x ≠ a → H1 x = none → H x = none) → H1 a = some (.dK (putK kvs k z)) → Q z H1) : rDSetd a (kV k) z H Q :=
  ⟨kvs, k, h, rfl, by rw [sizeLine_eq]; omega, q, fun e => q2 e _ (fun x o hx e => by rw [upd_ne hx]; exact e) (fun x hx e => by rw [upd_ne hx] at e; exact e) upd_same⟩
/-- {} -/
def rDNew (H : Hp) (Q : VK) : Prop := ∀ p, H p = none → Q (.ref p) (upd H p (.dK []))
theorem x_tDNewK {σ : L2.St} : tDNewK σ H Q = rDNew H Q := rfl
theorem x_dnew (q : ∀ p H', H p = none → Ex H H' → H' p = some (.dK []) → Q (.ref p) H') : rDNew H Q := x_new q
/-- items of a locked dict -/
def rItems (x : V) (H : Hp) (R : It → Hp → Prop) : Prop := ∃ d o kvs, x = .ref d ∧ H d = some (.frz o (.dK kvs)) ∧ R (Iti d o kvs) H
theorem x_iItems {td : TE} {σ : L2.St} {R : It → Hp → Prop} : iItems td σ H R = td σ H fun x H1 => rItems x H1 R := rfl
theorem x_items {o : Obj} {R : It → Hp → Prop} (h : H d = some (.frz o (.dK kvs))) (q : R (Iti d o kvs) H) : rItems (.ref d) H R := ⟨d, o, kvs, rfl, h, q⟩
/-- tuple(range(i, j)) -/
def rTupRg (i j : Int) (H : Hp) (Q : VK) : Prop := RgOk i j ∧ ∀ q, H q = none → Q (.ref q) (upd H q (.tup (rgV i j)))
theorem x_tTupRg {te : L2.St → Hp → (Int → Int → Hp → Prop) → Prop} {σ : L2.St} : tTupRg te σ H Q = te σ H fun i j H1 => rTupRg i j H1 Q := rfl
theorem x_tRg2 {ta tb : TE} {σ : L2.St} {R : Int → Int → Hp → Prop} : tRg2 ta tb σ H R = ta σ H fun x H1 => tb σ H1 fun y H2 => ∃ i j, x = .int i ∧ y = .int j ∧ R i j H2 := rfl
theorem x_tupRg {i j : Int} (h : RgOk i j) (q : ∀ t H', H t = none → Ex H H' → H' t = some (.tup (rgV i j)) → Q (.ref t) H') : rTupRg i j H Q := ⟨h, x_new q⟩
theorem x_sum {ns : List Int} (h : SqL K H a (ns.map V.int)) (q : Q (.int ns.sum) H) : rSum K [.ref a] H Q := ⟨a, ns, rfl, h, q⟩
theorem walk_zipT (hn : xs.length = ys.length) : Walk (RZ.ItzT K a b) xs.length (fun H => SqT K H a xs ∧ SqT K H b ys) (YPair (fun i => xs[i]?) (fun i => ys[i]?)) := by
  refine ⟨fun i _ hi q => ?_, fun _ q => ⟨xs, ys, q.1, q.2, by omega⟩, fun i H v H' _ q y => ?_⟩
  · have h2 : i < ys.length := by omega
    exact ⟨xs, ys, xs[i], ys[i], q.1, q.2, by simp [hi], by simp [h2]⟩
  · obtain ⟨T, x, z, h1, h2, h3, h4, h5⟩ := y
    exact ⟨T, x, z, h1, h2, h3, h4 xs q.1, h5 ys q.2⟩
def rZip (K : PySem.W.Frag) (vs : List V) (H : Hp) (R : It → Hp → Prop) : Prop := ∃ a b xs ys, vs = [.ref a, .ref b] ∧ ((SqL K H a xs ∧ SqL K H b ys ∧ R (Itz K a b) H) ∨ (SqT K H a xs ∧ SqT K H b ys ∧ R (RZ.ItzT K a b) H))
theorem x_iZip {ta : TA} {σ : L2.St} {R : It → Hp → Prop} : RZ.iZipA K ta σ H R = ta σ H fun vs H1 => rZip K vs H1 R := rfl
theorem x_zipT {R : It → Hp → Prop} (h1 : SqT K H a xs) (h2 : SqT K H b ys) (q : R (RZ.ItzT K a b) H) : rZip K [.ref a, .ref b] H R := ⟨a, b, xs, ys, rfl, .inr ⟨h1, h2, q⟩⟩
end
end FB
set_option Elab.async false
set_option linter.all false
set_option maxRecDepth 100000
set_option maxHeartbeats 4000000
/-! The seats of a network's first stations, and who feeds a place. -/
namespace FB
open PySem PySem.Spec PyProof.Rows L2 Evl
/-- a seat: its station, and where it leads -/
abbrev Seats := List (Nat × Key)
def stSeats (k : Nat) (s : List Key) : Seats := s.map fun p => (k, p)
/-- the seats of the first k stations -/
def seatsOf (N : Net) : Nat → Seats
  | 0 => []
  | k + 1 => seatsOf N k ++ stSeats k (N.getD k [])
/-- what f gives for the seats that lead to q -/
def toQ (f : Nat → Int) (q : Key) : Seats → Int
  | [] => 0
  | (i, p) :: r => (if p = q then f i else 0) + toQ f q r
theorem toQ_append {f : Nat → Int} {q : Key} : ∀ {a b : Seats}, toQ f q (a ++ b) = toQ f q a + toQ f q b
  | [], b => by simp [toQ]
  | (i, p) :: r, b => by
    show (if p = q then f i else 0) + toQ f q (r ++ b) = (if p = q then f i else 0) + toQ f q r + toQ f q b
    rw [toQ_append]; omega
theorem toQ_nil {f : Nat → Int} {q : Key} : ∀ {a : Seats}, (∀ s ∈ a, s.2 ≠ q) → toQ f q a = 0
  | [], _ => rfl
  | (i, p) :: r, h => by
    show (if p = q then f i else 0) + toQ f q r = 0
    rw [if_neg (h (i, p) (List.mem_cons_self ..)), toQ_nil fun s hs => h s (List.mem_cons_of_mem _ hs)]
    rfl
theorem toQ_congr {f g : Nat → Int} {q : Key} : ∀ {a : Seats}, (∀ s ∈ a, s.2 = q → f s.1 = g s.1) → toQ f q a = toQ g q a
  | [], _ => rfl
  | (i, p) :: r, h => by
    show (if p = q then f i else 0) + toQ f q r = (if p = q then g i else 0) + toQ g q r
    rw [toQ_congr fun s hs => h s (List.mem_cons_of_mem _ hs)]
    by_cases e : p = q
    · rw [if_pos e, if_pos e, h (i, p) (List.mem_cons_self ..) e]
    · rw [if_neg e, if_neg e]
theorem toQ_nn {f : Nat → Int} {q : Key} : ∀ {a : Seats}, (∀ s ∈ a, 0 ≤ f s.1) → 0 ≤ toQ f q a
  | [], _ => by simp [toQ]
  | (i, p) :: r, h => by
    show 0 ≤ (if p = q then f i else 0) + toQ f q r
    have h1 : 0 ≤ f i := h (i, p) (List.mem_cons_self ..)
    have h2 := toQ_nn (q := q) fun s hs => h s (List.mem_cons_of_mem _ hs)
    split <;> omega
theorem mem_seatsOf {N : Net} {i : Nat} {q : Key} : ∀ {k : Nat}, (i, q) ∈ seatsOf N k ↔ i < k ∧ q ∈ N.getD i []
  | 0 => by simp [seatsOf]
  | k + 1 => by
    show (i, q) ∈ seatsOf N k ++ stSeats k (N.getD k []) ↔ _
    rw [List.mem_append, mem_seatsOf]
    have e : (i, q) ∈ stSeats k (N.getD k []) ↔ i = k ∧ q ∈ N.getD k [] := by
      unfold stSeats
      rw [List.mem_map]
      constructor
      · rintro ⟨p, hp, e⟩
        cases e
        exact ⟨rfl, hp⟩
      · rintro ⟨rfl, h⟩
        exact ⟨q, h, rfl⟩
    rw [e]
    constructor
    · rintro (⟨h1, h2⟩ | ⟨rfl, h2⟩)
      · exact ⟨by omega, h2⟩
      · exact ⟨by omega, h2⟩
    · rintro ⟨h1, h2⟩
      by_cases z : i = k
      · subst z; exact .inr ⟨rfl, h2⟩
      · exact .inl ⟨by omega, h2⟩
theorem seatsOf_len {N : Net} (h : ∀ s ∈ N, s.length ≤ 8) : ∀ k, (seatsOf N k).length ≤ 8 * k
  | 0 => by simp [seatsOf]
  | k + 1 => by
    show (seatsOf N k ++ stSeats k (N.getD k [])).length ≤ _
    rw [List.length_append]
    have h1 := seatsOf_len h k
    have h2 : (stSeats k (N.getD k [])).length ≤ 8 := by
      unfold stSeats
      rw [List.length_map, List.getD_eq_getElem?_getD]
      cases e : N[k]? with
      | none => simp
      | some s => exact h s (List.mem_of_getElem? e)
    omega
/-! ### a place's feeders -/
abbrev Cnt := List (Nat × Int)
def cntV (G : Cnt) : List (Key × V) := G.map fun g => (.inl (g.1 : Int), .int g.2)
def cntQ (f : Nat → Int) : Cnt → Int
  | [] => 0
  | (i, c) :: r => c * f i + cntQ f r
def getC (i : Nat) : Cnt → Int
  | [] => 0
  | (j, c) :: r => if j = i then c else getC i r
def bump (i : Nat) : Cnt → Cnt
  | [] => [(i, 1)]
  | (j, c) :: r => if j = i then (j, c + 1) :: r else (j, c) :: bump i r
theorem cntQ_bump {f : Nat → Int} {i : Nat} : ∀ {G : Cnt}, cntQ f (bump i G) = cntQ f G + f i
  | [] => by simp [bump, cntQ]
  | (j, c) :: r => by
    unfold bump
    by_cases e : j = i
    · rw [if_pos e]
      show (c + 1) * f j + cntQ f r = c * f j + cntQ f r + f i
      rw [e, Int.add_mul]; omega
    · rw [if_neg e]
      show c * f j + cntQ f (bump i r) = c * f j + cntQ f r + f i
      rw [cntQ_bump]; omega
theorem val_cntV {i : Nat} : ∀ {G : Cnt}, (valV (cntV G) (.inl (i : Int))).getD (.int 0) = .int (getC i G)
  | [] => rfl
  | (j, c) :: r => by
    show (valV ((.inl (j : Int), .int c) :: cntV r) (.inl (i : Int))).getD (.int 0) = .int (if j = i then c else getC i r)
    by_cases e : j = i
    · subst e
      rw [if_pos rfl, valV_pos rfl]; rfl
    · rw [if_neg e, valV_neg (by show ¬ (Sum.inl (j : Int) : Key) = Sum.inl (i : Int); intro z; exact e (by have := Sum.inl.inj z; omega)), val_cntV]
theorem any_cntV {i : Nat} : ∀ {G : Cnt}, ((cntV G).any fun kv => decide (kv.1 = (.inl (i : Int) : Key))) = true ↔ i ∈ G.map (·.1)
  | [] => by simp [cntV]
  | (j, c) :: r => by
    show (decide ((Sum.inl (j : Int) : Key) = Sum.inl (i : Int)) || (cntV r).any fun kv => decide (kv.1 = (.inl (i : Int) : Key))) = true ↔ i ∈ j :: r.map (·.1)
    rw [Bool.or_eq_true, any_cntV, List.mem_cons, decide_eq_true_eq]
    constructor
    · rintro (h | h)
      · exact .inl (by have := Sum.inl.inj h; omega)
      · exact .inr h
    · rintro (h | h)
      · exact .inl (by rw [h])
      · exact .inr h
theorem getC_not {i : Nat} : ∀ {G : Cnt}, ¬ i ∈ G.map (·.1) → getC i G = 0
  | [], _ => rfl
  | (j, c) :: r, h => by
    rw [List.map_cons, List.mem_cons, not_or] at h
    show (if j = i then c else getC i r) = 0
    rw [if_neg (fun z => h.1 z.symm), getC_not h.2]
theorem bump_not {i : Nat} : ∀ {G : Cnt}, ¬ i ∈ G.map (·.1) → bump i G = G ++ [(i, 1)]
  | [], _ => rfl
  | (j, c) :: r, h => by
    rw [List.map_cons, List.mem_cons, not_or] at h
    show (if j = i then _ else _) = _
    rw [if_neg (fun z => h.1 z.symm), bump_not h.2]; rfl
theorem map_not {i : Nat} {y : V} : ∀ {G : Cnt}, ¬ i ∈ G.map (·.1) → (cntV G).map (fun kv => if kv.1 = (.inl (i : Int) : Key) then (kv.1, y) else kv) = cntV G
  | [], _ => rfl
  | (j, c) :: r, h => by
    rw [List.map_cons, List.mem_cons, not_or] at h
    show (if (Sum.inl (j : Int) : Key) = Sum.inl (i : Int) then _ else _) :: (cntV r).map _ = _ :: cntV r
    rw [if_neg (fun z => h.1 (by have := Sum.inl.inj z; omega)), map_not h.2]
theorem put_cntV {i : Nat} : ∀ {G : Cnt}, (G.map (·.1)).Nodup → putK (cntV G) (.inl (i : Int)) (.int (getC i G + 1)) = cntV (bump i G)
  | G, nd => by
    unfold putK
    by_cases h : i ∈ G.map (·.1)
    · rw [if_pos (any_cntV.mpr h)]
      induction G with
      | nil => simp at h
      | cons g r ih =>
        obtain ⟨j, c⟩ := g
        rw [List.map_cons, List.nodup_cons] at nd
        by_cases e : j = i
        · subst e
          show (if (Sum.inl (j : Int) : Key) = Sum.inl (j : Int) then ((Sum.inl (j : Int) : Key), V.int (getC j ((j, c) :: r) + 1)) else _) :: (cntV r).map _ = cntV (if j = j then _ else _)
          rw [if_pos rfl, if_pos rfl, map_not nd.1]
          show (_, V.int ((if j = j then c else getC j r) + 1)) :: _ = _
          rw [if_pos rfl]; rfl
        · rw [List.map_cons, List.mem_cons] at h
          have hr : i ∈ r.map (·.1) := h.resolve_left fun z => e z.symm
          show (if (Sum.inl (j : Int) : Key) = Sum.inl (i : Int) then _ else ((Sum.inl (j : Int) : Key), V.int c)) :: (cntV r).map (fun kv => if kv.1 = (.inl (i : Int) : Key) then (kv.1, V.int ((if j = i then c else getC i r) + 1)) else kv) = cntV (if j = i then _ else _)
          rw [if_neg (fun z => e (by have := Sum.inl.inj z; omega)), if_neg e, if_neg e, ih nd.2 hr]; rfl
    · rw [if_neg (fun z => h (any_cntV.mp z)), bump_not h, getC_not h]
      simp [cntV]
theorem bump_keys {i j : Nat} : ∀ {G : Cnt}, j ∈ (bump i G).map (·.1) ↔ j = i ∨ j ∈ G.map (·.1)
  | [] => by simp [bump]
  | (l, c) :: r => by
    unfold bump
    by_cases e : l = i
    · subst e
      rw [if_pos rfl]
      simp
    · rw [if_neg e, List.map_cons, List.mem_cons, bump_keys, List.map_cons, List.mem_cons]
      constructor
      · rintro (h | h | h)
        · exact .inr (.inl h)
        · exact .inl h
        · exact .inr (.inr h)
      · rintro (h | h | h)
        · exact .inr (.inl h)
        · exact .inl h
        · exact .inr (.inr h)
theorem bump_nd {i : Nat} : ∀ {G : Cnt}, (G.map (·.1)).Nodup → ((bump i G).map (·.1)).Nodup
  | [], _ => by simp [bump]
  | (l, c) :: r, nd => by
    rw [List.map_cons, List.nodup_cons] at nd
    unfold bump
    by_cases e : l = i
    · rw [if_pos e, List.map_cons, List.nodup_cons]
      exact nd
    · rw [if_neg e, List.map_cons, List.nodup_cons]
      refine ⟨fun z => ?_, bump_nd nd.2⟩
      rcases bump_keys.mp z with h | h
      · exact e h
      · exact nd.1 h
theorem bump_le {i : Nat} {b : Int} : ∀ {G : Cnt}, (∀ g ∈ G, 0 < g.2 ∧ g.2 ≤ b) → 0 ≤ b → ∀ g ∈ bump i G, 0 < g.2 ∧ g.2 ≤ b + 1
  | [], _, h0, g, hg => by
    have e : g = (i, 1) := by simpa [bump] using hg
    rw [e]; exact ⟨by show (0 : Int) < 1; decide, by show (1 : Int) ≤ b + 1; omega⟩
  | (l, c) :: r, h, h0, g, hg => by
    have hr : ∀ g ∈ r, 0 < g.2 ∧ g.2 ≤ b := fun g hg => h g (List.mem_cons_of_mem _ hg)
    have hc := h (l, c) (List.mem_cons_self ..)
    unfold bump at hg
    by_cases e : l = i
    · rw [if_pos e] at hg
      rcases List.mem_cons.mp hg with rfl | hg
      · exact ⟨by show 0 < c + 1; have := hc.1; omega, by show c + 1 ≤ b + 1; have := hc.2; omega⟩
      · have := hr g hg; exact ⟨this.1, by omega⟩
    · rw [if_neg e] at hg
      rcases List.mem_cons.mp hg with rfl | hg
      · exact ⟨hc.1, by have := hc.2; omega⟩
      · exact bump_le hr h0 g hg
theorem bump_len {i : Nat} : ∀ {G : Cnt}, (bump i G).length ≤ G.length + 1
  | [] => by simp [bump]
  | (l, c) :: r => by
    unfold bump
    by_cases e : l = i
    · rw [if_pos e]; simp
    · rw [if_neg e]
      have := @bump_len i r
      simp; omega
/-! ### dicts as functions -/
theorem putK_keys {kvs : List (Key × V)} {k : Key} {v : V} (nd : (kvs.map (·.1)).Nodup) : ((putK kvs k v).map (·.1)).Nodup := by
  unfold putK
  by_cases h : (kvs.any fun kv => decide (kv.1 = k)) = true
  · rw [if_pos h, List.map_map]
    have e : kvs.map ((·.1) ∘ fun kv => if kv.1 = k then (kv.1, v) else kv) = kvs.map (·.1) := List.map_congr_left fun a _ => by
      show (if a.1 = k then (a.1, v) else a).1 = a.1
      split <;> rfl
    rw [e]; exact nd
  · rw [if_neg h, List.map_append]
    refine nd_snoc nd fun z => h ?_
    obtain ⟨p, hp, e⟩ := List.mem_map.mp z
    exact List.any_eq_true.mpr ⟨p, hp, decide_eq_true e⟩
theorem val_of_mem : ∀ {kvs : List (Key × V)} {k : Key} {v : V}, (kvs.map (·.1)).Nodup → (k, v) ∈ kvs → valV kvs k = some v
  | p :: r, k, v, nd, h => by
    rw [List.map_cons, List.nodup_cons] at nd
    rcases List.mem_cons.mp h with e | h
    · rw [← e, valV_pos rfl]
    · rw [valV_neg (fun z => nd.1 (by rw [z]; exact List.mem_map.mpr ⟨_, h, rfl⟩)), val_of_mem nd.2 h]
theorem sq_but {K : PySem.W.Frag} {H H1 : Hp} {b d : Addr} {xs : List V} {kvs : List (Key × V)} (h : SqL K H b xs) (hd : H d = some (.dK kvs)) (e : ∀ x o, x ≠ d → H x = some o → H1 x = some o) : SqL K H1 b xs := by
  rcases h with (h | ⟨o, h⟩) | h
  · exact .inl (.inl (e _ _ (ne_of h hd (fun z => by cases z)) h))
  · exact .inl (.inr ⟨o, e _ _ (ne_of h hd (fun z => by cases z)) h⟩)
  · exact .inr h
theorem mem_of_val : ∀ {kvs : List (Key × V)} {k : Key} {v : V}, valV kvs k = some v → (k, v) ∈ kvs
  | [], k, v, h => by cases h
  | p :: r, k, v, h => by
    by_cases e : p.1 = k
    · rw [valV_pos e] at h
      rw [← Option.some.inj h, ← e]; exact List.mem_cons_self ..
    · rw [valV_neg e] at h
      exact List.mem_cons_of_mem _ (mem_of_val h)
/-- the dict at D with the feeders of all places, n stations given and the seats of L counted; H0: ahead of it all -/
structure Feed (H0 H : Hp) (D : Addr) (n : Nat) (L : Seats) (A : Key → Option Addr) (G : Key → Cnt) (kvs : List (Key × V)) : Prop where
  nd : (kvs.map (·.1)).Nodup
  val : ∀ q, valV kvs q = (A q).map V.ref
  inj : ∀ q q' a, A q = some a → A q' = some a → q = q'
  ne : ∀ q a, A q = some a → a ≠ D
  inn : ∀ q a, A q = some a → H a = some (.dK (cntV (G q)))
  new : ∀ q a, A q = some a → H0 a = none
  newD : H0 D = none
  keys : ∀ q, (A q).isSome = true ↔ (∃ i : Nat, i < n ∧ q = .inl (i : Int)) ∨ ∃ i, (i, q) ∈ L
  sum : ∀ q f, cntQ f (G q) = toQ f q L
  mem : ∀ q g, g ∈ G q → (g.1, q) ∈ L
  le : ∀ q, ∀ g ∈ G q, 0 < g.2 ∧ g.2 ≤ (L.length : Int)
  ndG : ∀ q, ((G q).map (·.1)).Nodup
  len : kvs.length ≤ n + L.length
  lenG : ∀ q, (G q).length ≤ L.length
  ex : Ex H0 H
section
variable {H0 H H2 : Hp} {D z : Addr} {n i : Nat} {L : Seats} {A : Key → Option Addr} {G : Key → Cnt} {kvs : List (Key × V)} {p : Key}
theorem Feed.empty (F : Feed H0 H D n L A G kvs) (h : A p = none) : G p = [] := by
  cases e : G p with
  | nil => rfl
  | cons g r =>
    have := (F.keys p).mpr (.inr ⟨g.1, F.mem p g (by rw [e]; exact List.mem_cons_self ..)⟩)
    rw [h] at this; cases this
/-- the heap may grow and change elsewhere -/
theorem Feed.but (F : Feed H0 H D n L A G kvs) (e : ∀ x o, H0 x = some o → H2 x = some o) (k : ∀ q a, A q = some a → H2 a = H a) : Feed H0 H2 D n L A G kvs :=
  { F with inn := fun q a h => by rw [k q a h]; exact F.inn q a h, ex := e }
theorem Feed.ex2 (F : Feed H0 H D n L A G kvs) (e : Ex H H2) : Feed H0 H2 D n L A G kvs :=
  { F with inn := fun q a h => e _ _ (F.inn q a h), ex := F.ex.trans e }
/-- one station more in the dict, nobody leads there yet -/
theorem Feed.key (F : Feed H0 H D i [] A G kvs) (hz : H0 z = none) (hzD : z ≠ D) (hzA : ∀ q a, A q = some a → a ≠ z) (h2 : ∀ x o, x ≠ D → H x = some o → H2 x = some o) (h3 : H2 z = some (.dK [])) :
    Feed H0 H2 D (i + 1) [] (fun q => if q = .inl (i : Int) then some z else A q) G (putK kvs (.inl (i : Int)) (.ref z)) where
  nd := putK_keys F.nd
  val := fun q => by
    rw [valV_put, F.val]
    by_cases e : q = .inl (i : Int)
    · rw [if_pos e, if_pos e]; rfl
    · rw [if_neg e, if_neg e]
  inj := fun q q' a h h' => by
    by_cases e : q = .inl (i : Int)
    · rw [if_pos e] at h
      by_cases e' : q' = .inl (i : Int)
      · rw [e, e']
      · rw [if_neg e'] at h'
        exact absurd (Option.some.inj h).symm (hzA _ _ h')
    · rw [if_neg e] at h
      by_cases e' : q' = .inl (i : Int)
      · rw [if_pos e'] at h'
        exact absurd (Option.some.inj h').symm (hzA _ _ h)
      · rw [if_neg e'] at h'
        exact F.inj q q' a h h'
  ne := fun q a h => by
    by_cases e : q = .inl (i : Int)
    · rw [if_pos e] at h; rw [← Option.some.inj h]; exact hzD
    · rw [if_neg e] at h; exact F.ne q a h
  inn := fun q a h => by
    by_cases e : q = .inl (i : Int)
    · rw [if_pos e] at h; rw [← Option.some.inj h, h3]
      have : G q = [] := by
        cases e2 : G q with
        | nil => rfl
        | cons g r =>
          have := F.mem q g (by rw [e2]; exact List.mem_cons_self ..)
          simp at this
      rw [this]; rfl
    · rw [if_neg e] at h; exact h2 _ _ (F.ne q a h) (F.inn q a h)
  new := fun q a h => by
    by_cases e : q = .inl (i : Int)
    · rw [if_pos e] at h; rw [← Option.some.inj h]; exact hz
    · rw [if_neg e] at h; exact F.new q a h
  newD := F.newD
  keys := fun q => by
    by_cases e : q = .inl (i : Int)
    · rw [if_pos e]
      exact ⟨fun _ => .inl ⟨i, by omega, e⟩, fun _ => rfl⟩
    · rw [if_neg e, F.keys q]
      constructor
      · rintro (⟨j, hj, h⟩ | h)
        · exact .inl ⟨j, by omega, h⟩
        · exact .inr h
      · rintro (⟨j, hj, h⟩ | h)
        · by_cases z : j = i
          · rw [z] at h; exact absurd h e
          · exact .inl ⟨j, by omega, h⟩
        · exact .inr h
  sum := F.sum
  mem := F.mem
  le := F.le
  ndG := F.ndG
  len := by
    have := length_putK kvs (.inl (i : Int)) (.ref z)
    have := F.len
    simp at *
    omega
  lenG := F.lenG
  ex := fun x o h => h2 x o (ne_of_none h F.newD) (F.ex x o h)
theorem Feed.start (h : H0 D = none) (e : Ex H0 H) : Feed H0 H D 0 [] (fun _ => none) (fun _ => []) [] where
  nd := List.nodup_nil
  val := fun q => rfl
  inj := fun _ _ _ h => nomatch h
  ne := fun _ _ h => nomatch h
  inn := fun _ _ h => nomatch h
  new := fun _ _ h => nomatch h
  newD := h
  keys := fun q => by simp
  sum := fun q f => rfl
  mem := fun _ _ h => by simp at h
  le := fun _ _ h => by simp at h
  ndG := fun _ => List.nodup_nil
  len := by simp
  lenG := fun _ => by simp
  ex := e
/-- a seat more: z is its place's dict, old or new -/
theorem Feed.seat (F : Feed H0 H D n L A G kvs) (hz : A p = some z ∨ (A p = none ∧ H0 z = none ∧ z ≠ D ∧ ∀ q a, A q = some a → a ≠ z)) (h2 : ∀ x o, x ≠ D → x ≠ z → H x = some o → H2 x = some o) (h3 : H2 z = some (.dK (cntV (bump i (G p))))) :
    Feed H0 H2 D n (L ++ [(i, p)]) (fun q => if q = p then some z else A q) (fun q => if q = p then bump i (G p) else G q) (if A p = none then putK kvs p (.ref z) else kvs) := by
  have hzD : z ≠ D := by
    rcases hz with h | h
    · exact F.ne _ _ h
    · exact h.2.2.1
  have hz0 : H0 z = none := by
    rcases hz with h | h
    · exact F.new _ _ h
    · exact h.2.1
  have hzA : ∀ q a, q ≠ p → A q = some a → a ≠ z := fun q a hq h => by
    rcases hz with h' | h'
    · intro e; subst e; exact hq (F.inj _ _ _ h h')
    · exact h'.2.2.2 q a h
  have pos : 0 ≤ (L.length : Int) := by omega
  refine { nd := ?_, val := fun q => ?_, inj := fun q q' a h h' => ?_, ne := fun q a h => ?_, inn := fun q a h => ?_, new := fun q a h => ?_, newD := F.newD, keys := fun q => ?_, sum := fun q f => ?_, mem := fun q g hg => ?_, le := fun q g hg => ?_, ndG := fun q => ?_, len := ?_, lenG := fun q => ?_, ex := fun x o h => h2 x o (ne_of_none h F.newD) (ne_of_none h hz0) (F.ex x o h) }
  · split
    · exact putK_keys F.nd
    · exact F.nd
  · by_cases e : q = p
    · subst e
      rw [if_pos rfl]
      rcases hz with h | h
      · rw [if_neg (by rw [h]; simp), F.val, h]
      · rw [if_pos h.1, valV_put, if_pos rfl]; rfl
    · rw [if_neg e]
      split
      · rw [valV_put, if_neg e]; exact F.val q
      · exact F.val q
  · by_cases e : q = p
    · by_cases e' : q' = p
      · rw [e, e']
      · rw [if_pos e] at h
        rw [if_neg e'] at h'
        exact absurd (Option.some.inj h).symm (hzA _ _ e' h')
    · rw [if_neg e] at h
      by_cases e' : q' = p
      · rw [if_pos e'] at h'
        exact absurd (Option.some.inj h').symm (hzA _ _ e h)
      · rw [if_neg e'] at h'
        exact F.inj q q' a h h'
  · by_cases e : q = p
    · rw [if_pos e] at h; rw [← Option.some.inj h]; exact hzD
    · rw [if_neg e] at h; exact F.ne q a h
  · by_cases e : q = p
    · rw [if_pos e] at h; rw [← Option.some.inj h, if_pos e]; exact h3
    · rw [if_neg e] at h
      rw [if_neg e]
      exact h2 _ _ (F.ne q a h) (hzA q a e h) (F.inn q a h)
  · by_cases e : q = p
    · rw [if_pos e] at h; rw [← Option.some.inj h]; exact hz0
    · rw [if_neg e] at h; exact F.new q a h
  · by_cases e : q = p
    · rw [if_pos e]
      refine ⟨fun _ => .inr ⟨i, ?_⟩, fun _ => rfl⟩
      rw [e]; simp
    · rw [if_neg e, F.keys q]
      constructor
      · rintro (h | ⟨j, h⟩)
        · exact .inl h
        · exact .inr ⟨j, List.mem_append_left _ h⟩
      · rintro (h | ⟨j, h⟩)
        · exact .inl h
        · rcases List.mem_append.mp h with h | h
          · exact .inr ⟨j, h⟩
          · have : (j, q) = (i, p) := by simpa using h
            exact absurd (Prod.mk.inj this).2 e
  · rw [toQ_append]
    show cntQ f (if q = p then bump i (G p) else G q) = toQ f q L + ((if p = q then f i else 0) + 0)
    by_cases e : q = p
    · subst e
      rw [if_pos rfl, if_pos rfl, cntQ_bump, F.sum]; omega
    · rw [if_neg e, if_neg (fun z => e z.symm), F.sum]; omega
  · by_cases e : q = p
    · rw [if_pos e] at hg
      have hk : g.1 ∈ (bump i (G p)).map (·.1) := List.mem_map.mpr ⟨g, hg, rfl⟩
      rcases bump_keys.mp hk with h | h
      · rw [h, e]; simp
      · obtain ⟨g', hg', e'⟩ := List.mem_map.mp h
        have := F.mem p g' hg'
        rw [e', ← e] at this
        exact List.mem_append_left _ this
    · rw [if_neg e] at hg
      exact List.mem_append_left _ (F.mem q g hg)
  · have hl : ((L ++ [(i, p)]).length : Int) = L.length + 1 := by simp
    rw [hl]
    by_cases e : q = p
    · rw [if_pos e] at hg
      exact bump_le (F.le p) pos g hg
    · rw [if_neg e] at hg
      have := F.le q g hg
      exact ⟨this.1, by omega⟩
  · by_cases e : q = p
    · rw [if_pos e]; exact bump_nd (F.ndG p)
    · rw [if_neg e]; exact F.ndG q
  · rw [List.length_append]
    have := F.len
    split
    · have := length_putK kvs p (.ref z)
      simp; omega
    · simp; omega
  · rw [List.length_append]
    have h1 := F.lenG q
    have h2 := F.lenG p
    have h3 := @bump_len i (G p)
    by_cases e : q = p
    · rw [if_pos e]; simp; omega
    · rw [if_neg e]; simp; omega
end
/-! ### states -/
def qD (q : List Int) : PyData := .tuple (q.map PyData.int)
def qsD (qs : List (List Int)) : PyData := .tuple (qs.map qD)
def stateD (p : Int) (qs : List (List Int)) : PyData := .tuple [.int p, qsD qs]
theorem qD_t (q : List Int) : TupD (qD q) := .tup fun d hd => by
  obtain ⟨k, _, rfl⟩ := List.mem_map.mp hd
  exact .int k
theorem qsD_t (qs : List (List Int)) : TupD (qsD qs) := .tup fun d hd => by
  obtain ⟨k, _, rfl⟩ := List.mem_map.mp hd
  exact qD_t k
theorem stateD_t (p : Int) (qs : List (List Int)) : TupD (stateD p qs) := .tup fun d hd => by
  simp only [List.mem_cons, List.not_mem_nil, or_false] at hd
  rcases hd with rfl | rfl
  · exact .int p
  · exact qsD_t qs
theorem ints_dp {K : PySem.W.Frag} {H : Hp} : ∀ q : List Int, DpAll K H (q.map V.int) (q.map PyData.int)
  | [] => .nil
  | i :: q => .cons (.int i) (ints_dp q)
theorem dp_ints {K : PySem.W.Frag} {H : Hp} : ∀ {q : List Int} {vs : List V}, DpAll K H vs (q.map PyData.int) → vs = q.map V.int
  | [], _, .nil => rfl
  | i :: q, _, .cons h hs => by rw [h.int_inv, dp_ints hs]; rfl
theorem q_at {K : PySem.W.Frag} {H : Hp} {v : V} {q : List Int} (h : Dp K H v (qD q)) : ∃ a, v = .ref a ∧ SqT K H a (q.map V.int) := by
  obtain ⟨a, xs, e, h1, h2⟩ := Dp.tup_inv h
  rw [dp_ints h2] at h1
  exact ⟨a, e, h1⟩
theorem qs_at {K : PySem.W.Frag} {H : Hp} {v : V} {qs : List (List Int)} (h : Dp K H v (qsD qs)) : ∃ a ts, v = .ref a ∧ SqT K H a ts ∧ DpAll K H ts (qs.map qD) := Dp.tup_inv h
theorem state_at {K : PySem.W.Frag} {H : Hp} {v : V} {p : Int} {qs : List (List Int)} (h : Dp K H v (stateD p qs)) : ∃ a u, v = .ref a ∧ SqT K H a [.int p, u] ∧ Dp K H u (qsD qs) := by
  obtain ⟨a, xs, e, h1, h2⟩ := Dp.tup_inv h
  cases h2 with
  | cons h hs =>
    cases hs with
    | cons h' hs =>
      cases hs
      rw [h.int_inv] at h1
      exact ⟨a, _, e, h1, h'⟩
/-- the queues of a network's stations -/
structure StOk (N : Net) (p : Int) (qs : List (List Int)) : Prop where
  pos : 1 ≤ p
  len : qs.length = N.length
  lt : ∀ (k : Nat) q s, qs[k]? = some q → N[k]? = some s → q.length < s.length
  nd : qs.flatten.Nodup
  rng : ∀ x ∈ qs.flatten, 1 ≤ x ∧ x < p
/-! ### sets -/
section
variable {K : PySem.W.Frag} {P : Program} {w : World} {H : Hp} {Q : VK} {p : Addr} {S : Key → Bool} {n : Nat} {k : Key}
theorem x_tSAddK {to : TE} {t : TA} {σ : L2.St} : tSAddK P w to t σ H Q = to σ H fun x H1 => (∃ a S n, x = V.ref a ∧ H1 a = some (SetK P w a S n)) ∧ t σ H1 fun xs H2 => rSAddK P w x xs H2 Q := rfl
theorem x_set0 (q : ∀ p H', H p = none → Ex H H' → H' p = some (SetK P w p (fun _ => false) 0) → Q (.ref p) H') : rSet0K P w [] H Q := ⟨rfl, fun p hp => q p _ hp (Ex.new hp) upd_same⟩
theorem x_inS (h : H p = some (SetK P w p S n)) (q : Q (.bl (S k)) H) : rInU K P w false (kV k) (.ref p) H Q := .inr ⟨k, p, S, n, rfl, rfl, h, q⟩
theorem x_sadd (h : H p = some (SetK P w p S n)) (hn : n ≤ 1000) (q : ∀ H' m, (∀ x o, x ≠ p → H x = some o → H' x = some o) → m ≤ n + 1 → H' p = some (SetK P w p (fun j => S j || decide (j = k)) m) → Q .non H') : rSAddK P w (.ref p) [kV k] H Q :=
  ⟨p, k, S, n, rfl, rfl, h, by have : (1002 : Nat) ≤ scanBound := by decide +kernel
                               omega, q _ _ (fun x o hx e => by rw [upd_ne hx]; exact e) (by split <;> omega) upd_same⟩
end
end FB
set_option Elab.async false
set_option linter.all false
set_option maxRecDepth 100000
set_option maxHeartbeats 4000000
namespace K
open PySem PySem.Spec PyProof.Rows L2 Evl FB
local macro_rules | `(tactic| walk_at "run") => `(tactic| try simp only [tSeq, tAsg, tVar, tC, gName, L2.start, List.map_cons, List.map_nil, List.cons_append, List.nil_append, List.length_cons, List.length_nil, List.replicate, List.getElem?_cons_zero, List.getElem?_cons_succ, Option.some.injEq, exists_eq_left', List.set_cons_zero, List.set_cons_succ, V.ref.injEq, tRet, x_tLst, x_tTup, tCons, tCB, tNil, tOp, x_addI, x_mulI, x_rI, x_rI0, x_ltI, x_leI, x_ltS, x_leS, x_eqI, x_neI, x_eqS, x_eqB, x_neB, x_isiI, x_isiS, x_int, x_max, x_min, cxOf, tIfS, tNext, tTest, V.bl.injEq, decide_eq_true_eq, gSub, tAnd, tOr, tNot, tB, tDrop, tBM, x_tFor, iRng1, iList, iTup, x_tLc, tYes, tCall, tIf, tAndV, tOrV, tNotV, tChain, List.append_nil, tUn, if_true, wipe, true_and, x_never, iU, x_itS, kV, Nat.reduceAdd, Nat.reduceSub, List.replicate_zero, x_rU, x_tMkO, iEnumT])
/-- a network without fault -/
structure ValidN (N : Net) : Prop where
  pos : 1 ≤ N.length
  le : N.length ≤ 40
  st : ∀ (k : Nat) s, N[k]? = some s → 1 ≤ s.length ∧ s.length ≤ 8 ∧ ∀ p ∈ s, placeB k N.length p = true ∧ ∀ z, p = .inr z → z.length ≤ 1000
theorem wordB_W4 {z : Str} (h : z ∈ W4) : wordB z = true ∧ z.length ≤ 8 := by
  unfold W4 at h
  simp only [List.mem_cons, List.not_mem_nil, or_false] at h
  rcases h with rfl | rfl | rfl | rfl <;> exact ⟨by decide +kernel, by decide +kernel⟩
theorem Drawn.valid {N : Net} {most : Int} (D : Drawn N most) (h : most ≤ 40) : ValidN N where
  pos := D.pos
  le := by have := D.le; omega
  st := fun k s hk => by
    obtain ⟨h1, h2, h3⟩ := D.st k s hk
    refine ⟨h1, h2, fun p hp => ?_⟩
    have := h3 p hp
    cases p with
    | inl j =>
      obtain ⟨a, b⟩ := this
      exact ⟨by unfold placeB; simp; omega, fun z e => by cases e⟩
    | inr z =>
      have := wordB_W4 this
      exact ⟨this.1, fun y e => by cases e; omega⟩
theorem ValidN.seat {N : Net} (h : ValidN N) {i : Nat} {s : List Key} (hs : N[i]? = some s) {j : Int} (hp : (.inl j : Key) ∈ s) : (i : Int) < j ∧ j < N.length := by
  have := ((h.st i s hs).2.2 _ hp).1
  unfold placeB at this
  simpa using this
section
variable {P : Program} {w : World} {K : PySem.W.Frag} {mg : Str → Option Value} {base : Heap}
def spCheckOk (K : PySem.W.Frag) : Sp := fun vs H Q _ => ∃ (v : V) (N : Net), vs = [v] ∧ NetAt K H v N ∧ ValidN N ∧ ∀ H', Ex H H' → Q .non H'
abbrev s_check_network : Stmt := top 17
theorem sc_check_network : FnScope ["network", "station", "seats", "seat", "place"] ["network"] (defScope s_check_network) := ⟨rfl, rfl, rfl, by decide +kernel, rfl, by decide +kernel, by decide +kernel⟩
theorem ok_check_network0 {f f1 f2 : Addr} {fd fd1 fd2 : FuncData} (D : Df K mg "check_network" s_check_network ["network"] f fd) (T : Bt mg) (Ck : Ct K mg) (D_is_word : Df K mg "is_word" s_is_word ["text"] f1 fd1)
    (D_is_place : Df K mg "is_place" s_is_place ["place", "station", "stations"] f2 fd2) :
    FnOk P w K mg base CX0 4 f fd ["network"] (spCheckOk K) := by
  have G_is_place : FnOk P w K mg base CX0 3 f2 fd2 _ _ := ok_is_place D_is_place T Ck D_is_word
  refine D.F.ok sc_check_network (fun vs H Q E h => ?_) (fun cdv A outer s H vs Q E hr h => ?_)
  · obtain ⟨v, N, rfl, _⟩ := h
    rfl
  · obtain ⟨v, N, rfl, hN, hV, k1⟩ := h
    have hu := hr.units
    obtain ⟨tML, g_MAX_STATIONS⟩ := Ck.g_MAX_STATIONS
    obtain ⟨tMS, g_MAX_SEATS⟩ := Ck.g_MAX_SEATS
    refine ⟨_, (pss_cons (ps_if (pt_cmpR (op_eqU (K := K) hu) (pe_callB (call_lenU (K := K)) (by rfl) T.b_len (by decide +kernel) (pa_cons (pv 0) pa_nil)) pe_int (nomark _)) pss_never pss_nil)
      (pss_one (ps_for PassesOwn.never rfl (pi_enumT (by rfl) T.b_enumerate (pa_cons (pv 0) pa_nil)) (pg_tup rfl (pgs_cons (pg_name (i := 1) sc_check_network.nd rfl (Or.inl rfl)) (pgs_cons (pg_name (i := 2) sc_check_network.nd rfl (Or.inl rfl)) pgs_nil))) (pss_cons (ps_if (PW.pt (pw_or (pt_cmpR (op_eqU (K := K) hu) (pv 1) (pe_glob (v := .int 40) rfl g_MAX_STATIONS ⟨_, rfl⟩) (nomark _)) (pw_or1 (pt_not (pt_chain (op_leU) (op_leU) pe_int (pe_callB (call_lenU (K := K)) (by rfl) T.b_len (by decide +kernel) (pa_cons (pv 2) pa_nil)) (pe_glob (v := .int 8) rfl g_MAX_SEATS ⟨_, rfl⟩)))))) pss_never pss_nil)
      (pss_one (ps_for PassesOwn.never rfl (pi_enumT (by rfl) T.b_enumerate (pa_cons (pv 2) pa_nil)) (pg_tup rfl (pgs_cons (pg_name (i := 3) sc_check_network.nd rfl (Or.inl rfl)) (pgs_cons (pg_name (i := 4) sc_check_network.nd rfl (Or.inl rfl)) pgs_nil))) (pss_one (ps_if (pt_not (pt_val (pe_call (G_is_place) (hr.mono (by decide)) rfl D_is_place.g D_is_place.F.kp D_is_place.b .nil pass0 (pa_cons (pv 4) (pa_cons (pv 1) (pa_cons (pe_callB (call_lenU (K := K)) (by rfl) T.b_len (by decide +kernel) (pa_cons (pv 0) pa_nil)) pa_nil)))))) pss_never pss_nil)))))))), ?_⟩
    walk_at "run"
    obtain ⟨a, ts, rfl, hT, hts⟩ := hN.at
    have hl : ts.length = N.length := by rw [hts.len, List.length_map]
    have hp := hV.pos
    have h40 := hV.le
    refine x_lenT hT ?_
    rw [hl]
    walk_at "run"
    rw [if_neg (by omega)]
    refine ⟨_, _, rfl, hT, loop_it walk_enumT (fun i σ H' => ∃ u1 u2 u3 u4, σ = [some (.ref a), u1, u2, u3, u4] ∧ Ex H H') ⟨_, _, _, _, rfl, Ex.refl H⟩
      (fun i σ H' _ ⟨_, _, _, _, _, e⟩ => ex_t e hT) ?_ ?_⟩
    · rintro i v σ H1 H2 hi ⟨u1, u2, u3, u4, rfl, e1⟩ ⟨T0, x, y, rfl, hT0, rfl, hx, hy⟩
      obtain rfl : V.int (i : Nat) = x := Option.some.inj hx
      have e2 : Ex H (upd H1 T0 (.tup [.int (i : Nat), y])) := e1.trans (Ex.new hT0)
      refine x_two (SqT.of upd_same) ?_
      generalize upd H1 T0 (.tup [.int (i : Nat), y]) = H2 at e2
      obtain ⟨sD, hs, hy2⟩ := hts.get' hy
      obtain ⟨s, hsN, rfl⟩ : ∃ s, N[i]? = some s ∧ stD s = sD := by simpa using hs
      obtain ⟨b, rfl, hB⟩ := StAt.at hy2
      obtain ⟨s1, s2, s3⟩ := hV.st i s hsN
      walk_at "run"
      rw [if_neg (by omega)]
      refine x_lenT (ex_t e2 hB) ?_
      rw [List.length_map]
      walk_at "run"
      rw [if_pos (by omega), if_neg (by simp; omega)]
      refine ⟨_, _, rfl, ex_t e2 hB, loop_it walk_enumT (fun j σ H' => ∃ u3 u4, σ = [some (.ref a), some (.int i), some (.ref b), u3, u4] ∧ Ex H H') ⟨_, _, rfl, e2⟩
        (fun j σ H' _ ⟨_, _, _, e⟩ => ex_t e hB) ?_ ?_⟩
      · rintro j v σ H3 H4 hj ⟨u3, u4, rfl, e3⟩ ⟨T1, x, y, rfl, hT1, rfl, hx, hy⟩
        obtain rfl : V.int (j : Nat) = x := Option.some.inj hx
        have e4 : Ex H (upd H3 T1 (.tup [.int (j : Nat), y])) := e3.trans (Ex.new hT1)
        refine x_two (SqT.of upd_same) ?_
        generalize upd H3 T1 (.tup [.int (j : Nat), y]) = H4 at e4
        obtain ⟨p, hp, rfl⟩ : ∃ p, s[j]? = some p ∧ kV p = y := by simpa using hy
        have hpm := s3 p (List.mem_of_getElem? hp)
        walk_at "run"
        refine x_lenT (ex_t e4 hT) ?_
        rw [hl]
        refine ⟨p, i, N.length, rfl, hpm.2, fun H5 e5 => ⟨_, rfl, ?_⟩⟩
        rw [if_neg (by rw [hpm.1]; decide)]
        exact ⟨_, _, rfl, e4.trans e5⟩
      · rintro σ H3 ⟨u3, u4, rfl, e3⟩
        exact ⟨_, _, _, _, rfl, e3⟩
    · rintro σ H1 ⟨u1, u2, u3, u4, rfl, e1⟩
      exact k1 H1 e1
end
/-- what is enough of a network for the counting -/
structure CntN (N : Net) : Prop where
  le : N.length ≤ 40
  st : ∀ s ∈ N, 1 ≤ s.length ∧ s.length ≤ 8
  fw : ∀ (i : Nat) s, N[i]? = some s → ∀ j : Int, (.inl j : Key) ∈ s → (i : Int) < j ∧ j < N.length
theorem ValidN.cnt {N : Net} (h : ValidN N) : CntN N :=
  ⟨h.le, fun s hs => by
    obtain ⟨k, hk⟩ := List.mem_iff_getElem?.mp hs
    obtain ⟨a, b, _⟩ := h.st k s hk
    exact ⟨a, b⟩, fun i s hs j hj => h.seat hs hj⟩
theorem seats_len {N : Net} (h : CntN N) {k : Nat} (hk : k ≤ N.length) : (seatsOf N k).length ≤ 320 := by
  have := seatsOf_len (N := N) (fun s hs => (h.st s hs).2) k
  have := h.le
  omega
end K
set_option Elab.async false
set_option linter.all false
set_option maxRecDepth 100000
set_option maxHeartbeats 4000000
namespace K
open PySem PySem.Spec PyProof.Rows L2 Evl FB
local macro_rules | `(tactic| walk_at "run") => `(tactic| try simp only [tSeq, tAsg, tVar, tC, gName, L2.start, List.map_cons, List.map_nil, List.cons_append, List.nil_append, List.length_cons, List.length_nil, List.replicate, List.getElem?_cons_zero, List.getElem?_cons_succ, Option.some.injEq, exists_eq_left', List.set_cons_zero, List.set_cons_succ, V.ref.injEq, tRet, x_tLst, x_tTup, tCons, tCB, tNil, tOp, x_addI, x_mulI, x_rI, x_rI0, x_ltI, x_leI, x_ltS, x_leS, x_eqI, x_neI, x_eqS, x_eqB, x_neB, x_isiI, x_isiS, x_int, x_max, x_min, cxOf, tIfS, tNext, tTest, V.bl.injEq, decide_eq_true_eq, gSub, tAnd, tOr, tNot, tB, tDrop, tBM, x_tFor, iRng1, iList, iTup, x_tLc, tYes, tCall, tIf, tAndV, tOrV, tNotV, tChain, List.append_nil, tUn, if_true, wipe, true_and, x_never, iU, x_itS, kV, Nat.reduceAdd, Nat.reduceSub, List.replicate_zero, x_rU, x_tMkO, iEnumT, x_tDc, x_tDGet, x_tDGet2, x_sDPut, x_tDSetd, x_tDNewK, x_iItems, x_iZip])
section
variable {P : Program} {w : World} {K : PySem.W.Frag} {mg : Str → Option Value} {base : Heap}
abbrev s_find_feeders : Stmt := top 27
theorem sc_find_feeders : FnScope ["network", "station", "feeders", "seats", "place", "sources"] ["network"] (defScope s_find_feeders) := ⟨rfl, rfl, rfl, by decide +kernel, rfl, by decide +kernel, by decide +kernel⟩
def spFeed (K : PySem.W.Frag) : Sp := fun vs H Q _ => ∃ (v : V) (N : Net), vs = [v] ∧ NetAt K H v N ∧ CntN N ∧ ∀ H' D A G kvs, Feed H H' D N.length (seatsOf N N.length) A G kvs → H' D = some (.dK kvs) → Q (.ref D) H'
theorem ok_find_feeders {f : Addr} {fd : FuncData} (D : Df K mg "find_feeders" s_find_feeders ["network"] f fd) (T : Bt mg) : FnOk P w K mg base CX0 1 f fd ["network"] (spFeed K) := by
  refine D.F.ok sc_find_feeders (fun vs H Q E h => ?_) (fun cdv A outer s H vs Q E hr h => ?_)
  · obtain ⟨v, N, rfl, _⟩ := h
    rfl
  · obtain ⟨v, N, rfl, hN, hC, q⟩ := h
    have hu1 := hu_of hr
    refine ⟨_, (pss_cons (ps_setDc (i := 2) (own := [("station", 1)]) (g := gName 1) (tt := tYes) rfl sc_find_feeders.nd rfl rfl (sw_trueD rfl rfl rfl (by decide +kernel)) (pi_range1 (by rfl) T.b_range (pa_cons (pe_callB (call_lenU (K := K)) (by rfl) T.b_len (by decide +kernel) (pa_cons (pv 0) pa_nil)) pa_nil)) (blkOk_by (own := [("station", 1)]) (N := ["network", "station", "feeders", "seats", "place", "sources"]) (sc := defScope s_find_feeders) (by decide +kernel)) (fun _ _ _ _ _ => (pg_name (i := 1) sc_find_feeders.nd rfl (Or.inl rfl))) (fun _ _ _ _ _ => pts_nil) (fun _ _ _ _ _ => (pv 1)) (fun _ _ _ _ _ => pe_dnewK))
      (pss_cons (ps_for PassesOwn.never rfl (pi_enumT (by rfl) T.b_enumerate (pa_cons (pv 0) pa_nil)) (pg_tup rfl (pgs_cons (pg_name (i := 1) sc_find_feeders.nd rfl (Or.inl rfl)) (pgs_cons (pg_name (i := 3) sc_find_feeders.nd rfl (Or.inl rfl)) pgs_nil))) (pss_one (ps_for PassesOwn.never rfl (pi_U (K := K) (pv 3)) (pg_name (i := 4) sc_find_feeders.nd rfl (Or.inl rfl)) (pss_cons (ps_set (i := 5) sc_find_feeders.nd rfl (Or.inl rfl) (pe_dsetd (pv 2) (pv 4) pe_dnewK ⟨rfl, rfl, rfl, rfl⟩))
      (pss_one (ps_dput hu1 (pv 5) (pv 1) (pe_op (op_addU (K := K)) (pe_dget2 hu1 (pv 5) (pv 1) pe_int ⟨rfl, rfl, rfl, rfl⟩) pe_int) rfl))))))
      (pss_one (ps_ret (pv 2))))), ?_⟩
    walk_at "run"
    obtain ⟨a, ts, rfl, hT, hts⟩ := hN.at
    have hl : ts.length = N.length := by rw [hts.len, List.length_map]
    have h40 := hC.le
    refine x_lenT hT ?_
    rw [hl]
    refine ⟨_, rfl, by omega, by omega, ?_⟩
    refine dcl_it walk_range (fun D i H' => ∃ A G kvs, Feed H H' D i [] A G kvs ∧ H' D = some (.dK kvs)) (fun D H' hD e h => ⟨_, _, _, Feed.start hD e, h⟩) (fun _ _ _ _ _ => trivial) ?_ ?_
    · rintro D i x H1 H1' hD hi ⟨A, G, kvs, F, hd⟩ ⟨eH, rfl⟩
      subst eH
      walk_at "run"
      have hi : i < N.length := by simpa using hi
      have hz : (0 : Int) + i = (i : Int) := by omega
      rw [hz]
      refine x_dnew fun z H2 nz e2 h2 => ?_
      have hl2 := F.len
      refine x_putD (k := .inl (i : Int)) (e2 _ _ hd) (by simp at hl2; omega) fun H3 e3 h3 => ⟨_, _, _, F.key (fresh_back F.ex nz) (ne_of_none hd nz).symm (fun q a h => ne_of_none (F.inn q a h) nz) (fun x o hx h => e3 _ _ hx (e2 _ _ h)) (e3 _ _ (ne_of_none hd nz).symm h2), h3⟩
    · rintro D H1 hD ⟨A, G, kvs, F, hd⟩
      walk_at "run"
      have hn : (((N.length : Nat) : Int)).toNat = N.length := by omega
      rw [hn] at F
      refine ⟨_, _, rfl, ex_t F.ex hT, loop_it walk_enumT (fun i σ H' => ∃ u1 u3 u4 u5 A G kvs, σ = [some (.ref a), u1, some (.ref D), u3, u4, u5] ∧ Feed H H' D N.length (seatsOf N i) A G kvs ∧ H' D = some (.dK kvs)) ⟨_, _, _, _, _, _, _, rfl, F, hd⟩
        (fun i σ H' _ ⟨_, _, _, _, _, _, _, _, F, _⟩ => ex_t F.ex hT) ?_ ?_⟩
      · rintro i v σ H2 H3 hi ⟨u1, u3, u4, u5, A, G, kvs, rfl, F, hd⟩ ⟨T0, x, y, rfl, hT0, rfl, hx, hy⟩
        obtain rfl : V.int (i : Nat) = x := Option.some.inj hx
        have e2 : Ex H2 (upd H2 T0 (.tup [.int (i : Nat), y])) := Ex.new hT0
        refine x_two (SqT.of upd_same) ?_
        generalize upd H2 T0 (.tup [.int (i : Nat), y]) = H3 at e2
        have F := F.ex2 e2
        have hd := e2 _ _ hd
        obtain ⟨sD, hs, hy2⟩ := hts.get' hy
        obtain ⟨s, hsN, rfl⟩ : ∃ s, N[i]? = some s ∧ stD s = sD := by simpa using hs
        obtain ⟨b, rfl, hB⟩ := StAt.at hy2
        have hiN : i < N.length := (List.getElem?_eq_some_iff.mp hsN).1
        have hs8 := (hC.st s (List.mem_of_getElem? hsN)).2
        have hLi := seats_len hC (k := i) (by omega)
        walk_at "run"
        refine x_itT (ex_t F.ex hB) (loop_it walk_tup (fun j σ H' => ∃ u4 u5 A G kvs, σ = [some (.ref a), some (.int i), some (.ref D), some (.ref b), u4, u5] ∧ Feed H H' D N.length (seatsOf N i ++ stSeats i (s.take j)) A G kvs ∧ H' D = some (.dK kvs)) ⟨_, _, _, _, _, rfl, by simpa [stSeats] using F, hd⟩
          (fun j σ H' _ ⟨_, _, _, _, _, _, F, _⟩ => ex_t F.ex hB) ?_ ?_)
        · rintro j x σ H4 H4' hj ⟨u4, u5, A, G, kvs, rfl, F, hd⟩ ⟨eH, hx⟩
          subst eH
          obtain ⟨p, hp, rfl⟩ : ∃ p, s[j]? = some p ∧ kV p = x := by simpa using hx
          have hL : (seatsOf N i ++ stSeats i (s.take j)).length ≤ 328 := by
            rw [List.length_append]
            have : (stSeats i (s.take j)).length ≤ 8 := by unfold stSeats; simp; omega
            omega
          have hkl := F.len
          have hLe : seatsOf N i ++ stSeats i (s.take (j + 1)) = (seatsOf N i ++ stSeats i (s.take j)) ++ [(i, p)] := by
            unfold stSeats
            rw [List.take_add_one, hp, List.map_append, List.append_assoc]
            rfl
          rw [hLe]
          generalize seatsOf N i ++ stSeats i (s.take j) = L at F hL hkl
          walk_at "run"
          refine ⟨isD_k hd, x_dnew fun z H5 nz e5 h5 => ?_⟩
          have nz0 := fresh_back F.ex nz
          have nzA : ∀ q a, A q = some a → a ≠ z := fun q a h => ne_of_none (F.inn q a h) nz
          have F := F.ex2 e5
          have hd5 := e5 _ _ hd
          -- the place's dict is at z2; it is asked, and put
          have fin : ∀ (z2 : Addr) (H6 : Hp) (kvs2 : List (Key × V)), (A p = some z2 ∨ (A p = none ∧ H z2 = none ∧ z2 ≠ D ∧ ∀ q a, A q = some a → a ≠ z2)) → (∀ x o, x ≠ D → H5 x = some o → H6 x = some o) → H6 D = some (.dK kvs2) → kvs2 = (if A p = none then putK kvs p (.ref z2) else kvs) → H6 z2 = some (.dK (cntV (G p))) →
              IsD H6 z2 ∧ rDGet2 z2 (V.int (i : Nat)) (V.int 0) H6 fun x H1 => rAddU K x (V.int 1) H1 fun v H1 => rDPut (V.ref z2) (V.int (i : Nat)) v H1
                ((fun σ H' => ∃ u4 u5 A G kvs, σ = [some (V.ref a), some (V.int (i : Nat)), some (V.ref D), some (V.ref b), u4, u5] ∧ Feed H H' D N.length (L ++ [(i, p)]) A G kvs ∧ H' D = some (.dK kvs)) [some (V.ref a), some (V.int (i : Nat)), some (V.ref D), some (V.ref b), some (kV p), some (V.ref z2)]) := by
            intro z2 H6 kvs2 hz e6 hd6 hk6 h6
            refine ⟨isD_k h6, x_dget2 (k := .inl (i : Int)) h6 ?_⟩
            rw [val_cntV]
            walk_at "run"
            have hg := F.lenG p
            refine x_dput (k := .inl (i : Int)) h6 (by unfold cntV; simp; omega) fun H7 e7 _ h7 => ?_
            rw [put_cntV (F.ndG p)] at h7
            have hzD : z2 ≠ D := by
              rcases hz with h | h
              · exact F.ne _ _ h
              · exact h.2.2.1
            refine ⟨_, _, _, _, _, rfl, F.seat hz (fun x o h1 h2 h => e7 _ _ h2 (e6 _ _ h1 h)) h7, ?_⟩
            rw [← hk6]
            exact e7 _ _ hzD.symm hd6
          refine x_dsetd hd5 (by omega) (fun v hv => ?_) (fun hv H6 e6 _ h6 => ?_)
          · rw [F.val] at hv
            obtain ⟨z2, hz2, rfl⟩ : ∃ z2, A p = some z2 ∧ V.ref z2 = v := by simpa using hv
            walk_at "run"
            exact fin z2 H5 kvs (.inl hz2) (fun _ _ _ h => h) hd5 (by rw [if_neg (by rw [hz2]; simp)]) (F.inn _ _ hz2)
          · rw [F.val] at hv
            have hA : A p = none := by simpa using hv
            have zD : z ≠ D := (ne_of_none hd nz).symm
            walk_at "run"
            exact fin z H6 _ (.inr ⟨hA, nz0, zD, nzA⟩) e6 h6 (by rw [if_pos hA]) (by rw [F.empty hA]; exact e6 _ _ zD h5)
        · rintro σ H4 ⟨u4, u5, A, G, kvs, rfl, F, hd⟩
          refine ⟨_, _, _, _, A, G, kvs, rfl, ?_, hd⟩
          have e : seatsOf N (i + 1) = seatsOf N i ++ stSeats i s := by
            show seatsOf N i ++ stSeats i (N.getD i []) = _
            rw [List.getD_eq_getElem?_getD, hsN]; rfl
          rw [e]
          have e2 : s.take ((s.map kV).length) = s := by rw [List.length_map, List.take_length]
          rw [e2] at F
          exact F
      · rintro σ H4 ⟨u1, u3, u4, u5, A, G, kvs, rfl, F, hd⟩
        walk_at "run"
        rw [hl] at F
        exact q _ _ _ _ _ F hd
end
end K
set_option Elab.async false
set_option linter.all false
set_option maxRecDepth 100000
set_option maxHeartbeats 4000000
namespace K
open PySem PySem.Spec PyProof.Rows L2 Evl FB
local macro_rules | `(tactic| walk_at "run") => `(tactic| try simp only [tSeq, tAsg, tVar, tC, gName, L2.start, List.map_cons, List.map_nil, List.cons_append, List.nil_append, List.length_cons, List.length_nil, List.replicate, List.getElem?_cons_zero, List.getElem?_cons_succ, Option.some.injEq, exists_eq_left', List.set_cons_zero, List.set_cons_succ, V.ref.injEq, tRet, x_tLst, x_tTup, tCons, tCB, tNil, tOp, x_addI, x_mulI, x_rI, x_rI0, x_ltI, x_leI, x_ltS, x_leS, x_eqI, x_neI, x_eqS, x_eqB, x_neB, x_isiI, x_isiS, x_int, x_max, x_min, cxOf, tIfS, tNext, tTest, V.bl.injEq, decide_eq_true_eq, gSub, tAnd, tOr, tNot, tB, tDrop, tBM, x_tFor, iRng1, iList, iTup, x_tLc, tYes, tCall, tIf, tAndV, tOrV, tNotV, tChain, List.append_nil, tUn, if_true, wipe, true_and, x_never, iU, x_itS, kV, Nat.reduceAdd, Nat.reduceSub, List.replicate_zero, x_rU, x_tMkO, iEnumT, x_tDc, x_tDGet, x_tDGet2, x_sDPut, x_tDSetd, x_tDNewK, x_iItems, x_iZip])
/-- what boats bs carry to a place with the feeders G -/
def brought (bs : List Int) (G : Cnt) : Int := cntQ (fun i => bs.getD i 0) G
theorem sum_brought {bs : List Int} : ∀ {G : Cnt}, (G.map fun g => g.2 * bs.getD g.1 0).sum = brought bs G
  | [] => rfl
  | (i, c) :: r => by
    rw [List.map_cons, List.sum_cons, sum_brought]; rfl
theorem ex_unlock {H H1 H2 : Hp} {d : Addr} {u : HO} (h : H d = some u) (e : ∀ x o, x ≠ d → H x = some o → H1 x = some o) (f : Ex H1 H2) : Ex H (upd H2 d u) := fun x o hx => by
  by_cases z : x = d
  · subst z
    rw [upd_same, ← h, hx]
  · rw [upd_ne z]; exact f _ _ (e _ _ z hx)
/-- how many join the station k, by the boats bs so far -/
def joins (N : Net) (c : Int) (bs : List Int) (k : Nat) : Int := if k = 0 then c else toQ (fun i => bs.getD i 0) (.inl (k : Int)) (seatsOf N N.length)
/-- the boats of the first k stations -/
def bts (N : Net) (ls : List Int) (c : Int) : Nat → List Int
  | 0 => []
  | k + 1 => bts N ls c k ++ [(ls.getD k 0 + joins N c (bts N ls c k) k).fdiv ((N.getD k []).length : Nat)]
theorem bts_len {N : Net} {ls : List Int} {c : Int} : ∀ {k}, (bts N ls c k).length = k
  | 0 => rfl
  | k + 1 => by
    show (bts N ls c k ++ [_]).length = k + 1
    rw [List.length_append, bts_len]; rfl
section
variable {P : Program} {w : World} {K : PySem.W.Frag} {mg : Str → Option Value} {base : Heap}
abbrev s_count_brought : Stmt := top 28
theorem sc_count_brought : FnScope ["sources", "boats", "station", "seats"] ["sources", "boats"] (defScope s_count_brought) := ⟨rfl, rfl, rfl, by decide +kernel, rfl, by decide +kernel, by decide +kernel⟩
def spBrought (K : PySem.W.Frag) : Sp := fun vs H Q _ => ∃ (d b : Addr) (G : Cnt) (bs : List Int), vs = [.ref d, .ref b] ∧ H d = some (.dK (cntV G)) ∧ SqL K H b (bs.map V.int) ∧ G.length ≤ 1000 ∧ (∀ g ∈ G, g.1 < bs.length ∧ 0 < g.2 ∧ g.2 ≤ 1000) ∧ ∀ H', Ex H H' → Q (.int (brought bs G)) H'
theorem ok_count_brought {f : Addr} {fd : FuncData} (D : Df K mg "count_brought" s_count_brought ["sources", "boats"] f fd) (T : Bt mg) : FnOk P w K mg base CX0 1 f fd ["sources", "boats"] (spBrought K) := by
  refine D.F.ok sc_count_brought (fun vs H Q E h => ?_) (fun cdv A outer s H vs Q E hr h => ?_)
  · obtain ⟨v, b, G, N, rfl, _⟩ := h
    rfl
  · obtain ⟨d, b, G, bs, rfl, hd, hb, hl, hG, q⟩ := h
    have hu1 := hu_of hr
    refine ⟨_, (pss_one (ps_ret (pe_callB (cr_sum rfl) (by rfl) T.b_sum (by decide +kernel) (pa_cons (pe_lock (pe_lc (own := [("station", 2), ("seats", 3)]) (g := gTup K 2 (gCons (gName 2) (gCons (gName 3) gNil))) (tt := tYes) rfl sc_count_brought.nd (pi_items (pv 0)) (blkOk_by (own := [("station", 2), ("seats", 3)]) (N := ["sources", "boats", "station", "seats"]) (sc := defScope s_count_brought) (by decide +kernel)) (fun _ _ _ _ _ => (pg_tup rfl (pgs_cons (pg_name (i := 2) sc_count_brought.nd rfl (Or.inl rfl)) (pgs_cons (pg_name (i := 3) sc_count_brought.nd rfl (Or.inl rfl)) pgs_nil)))) (fun _ _ _ _ _ => pts_nil) (fun _ _ _ _ _ => (pe_op (op_mulU (K := K)) (pv 3) (pe_ix (ix_U (K := K)) (pv 1) (pv 2) (fun _ _ => rfl)))))) pa_nil)))), ?_⟩
    walk_at "run"
    refine x_lock hd trivial fun od H1 e1 n1 h1 => ?_
    walk_at "run"
    refine x_items h1 (lcl_it walk_items (fun D i H' => Ex H1 H' ∧ H' D = some (.lst (((G.take i).map fun g => g.2 * bs.getD g.1 0).map V.int))) (fun D H' hD e h => ⟨e, h⟩) (fun D i H' _ h => h.1 _ _ h1) ?_ ?_)
    · rintro D i x H2 H3 hD hi ⟨e2, h2⟩ ⟨T0, x, y, rfl, hT0, rfl, hx, hy⟩
      have e3 : Ex H2 (upd H2 T0 (.tup [x, y])) := Ex.new hT0
      refine x_two (SqT.of upd_same) ?_
      generalize upd H2 T0 (.tup [x, y]) = H3 at e3
      obtain ⟨g, hg, rfl, rfl⟩ : ∃ g, G[i]? = some g ∧ V.int (g.1 : Nat) = x ∧ V.int g.2 = y := by
        cases e : G[i]? with
        | none => simp [cntV, e] at hx
        | some g =>
          simp [cntV, e] at hx hy
          exact ⟨g, rfl, hx, hy⟩
      obtain ⟨g1, g2, g3⟩ := hG g (List.mem_of_getElem? hg)
      walk_at "run"
      refine x_ixL (ex_l (e2.trans e3) (sq_but hb hd e1)) (atI_nat (v := .int (bs.getD g.1 0)) (by simp [List.getD_eq_getElem?_getD, g1])) ?_
      walk_at "run"
      refine ⟨.inl ⟨by omega, by omega⟩, ?_⟩
      refine x_push (e3 _ _ h2) (by simp; omega) fun H5 e5 h5 => ⟨fun x o hx => e5 _ _ (ne_of_none hx hD) (e3 _ _ (e2 _ _ hx)), ?_⟩
      rw [h5, List.take_add_one, hg]
      simp
    · rintro D H2 hD ⟨e2, h2⟩
      have hle : (cntV G).length = G.length := by unfold cntV; simp
      rw [hle, List.take_length] at h2
      have hDd : D ≠ d := fun z => by subst z; rw [h1] at hD; cases hD
      refine ⟨e2 _ _ h1, x_sum (ns := G.map fun g => g.2 * bs.getD g.1 0) (SqL.of (by rw [upd_ne hDd]; exact h2)) ?_⟩
      rw [sum_brought]
      exact q _ (ex_unlock hd e1 e2)
abbrev s_count_departures : Stmt := top 29
theorem sc_count_departures : FnScope ["network", "feeders", "lengths", "arrivals", "boats", "station", "seats", "joined"] ["network", "feeders", "lengths", "arrivals"] (defScope s_count_departures) := ⟨rfl, rfl, rfl, by decide +kernel, rfl, by decide +kernel, by decide +kernel⟩
def spDep (K : PySem.W.Frag) : Sp := fun vs H Q _ => ∃ (v : V) (N : Net) (D l : Addr) (H0 : Hp) (A : Key → Option Addr) (G : Key → Cnt) (kvs : List (Key × V)) (ls : List Int) (c : Int), vs = [v, .ref D, .ref l, .int c] ∧ NetAt K H v N ∧ CntN N ∧ Feed H0 H D N.length (seatsOf N N.length) A G kvs ∧ H D = some (.dK kvs) ∧
  SqL K H l (ls.map V.int) ∧ ls.length = N.length ∧ ∀ H' p, Ex H H' → H p = none → H' p = some (.lst ((bts N ls c N.length).map V.int)) → Q (.ref p) H'
theorem ok_count_departures {f f1 : Addr} {fd fd1 : FuncData} (D : Df K mg "count_departures" s_count_departures ["network", "feeders", "lengths", "arrivals"] f fd) (T : Bt mg) (D_count_brought : Df K mg "count_brought" s_count_brought ["sources", "boats"] f1 fd1) : FnOk P w K mg base CX0 2 f fd ["network", "feeders", "lengths", "arrivals"] (spDep K) := by
  have G_count_brought : FnOk P w K mg base CX0 1 f1 fd1 _ _ := ok_count_brought D_count_brought T
  refine D.F.ok sc_count_departures (fun vs H Q E h => ?_) (fun cdv A outer s H vs Q E hr h => ?_)
  · obtain ⟨v, N, D, l, H0, A, G, kvs, ls, c, rfl, _⟩ := h
    rfl
  · obtain ⟨v, N, D, l, H0, A, G, kvs, ls, c, rfl, hN, hC, F, hD, hls, hll, q⟩ := h
    have hu := hr.units
    have hu1 := hu_of hr
    refine ⟨_, (pss_cons (ps_set (i := 4) sc_count_departures.nd rfl (Or.inl rfl) (pe_lst pa_nil))
      (pss_cons (ps_for PassesOwn.never rfl (pi_enumT (by rfl) T.b_enumerate (pa_cons (pv 0) pa_nil)) (pg_tup rfl (pgs_cons (pg_name (i := 5) sc_count_departures.nd rfl (Or.inl rfl)) (pgs_cons (pg_name (i := 6) sc_count_departures.nd rfl (Or.inl rfl)) pgs_nil))) (pss_cons (ps_set (i := 7) sc_count_departures.nd rfl (Or.inl rfl) (pe_ifExp (pt_cmpR (op_eqU (K := K) hu) (pv 5) pe_int (nomark _)) (pv 3) (pe_call (G_count_brought) (hr.mono (by decide)) rfl D_count_brought.g D_count_brought.F.kp D_count_brought.b .nil pass0 (pa_cons (pe_dget hu1 (pv 1) (pv 5) (fun _ _ => rfl)) (pa_cons (pv 4) pa_nil)))))
      (pss_one (ps_expr (pe_bm PySem.F.plainAttrs_list PySem.F.slot_list_append PySem.F.type_list_append mt_append (pv 4) (pa_cons (pe_op op_fdivN (pe_op (op_addU (K := K)) (pe_ix (ix_U (K := K)) (pv 2) (pv 5) (fun _ _ => rfl)) (pv 7)) (pe_callB (call_lenU (K := K)) (by rfl) T.b_len (by decide +kernel) (pa_cons (pv 6) pa_nil))) pa_nil))))))
      (pss_one (ps_ret (pv 4))))), ?_⟩
    walk_at "run"
    obtain ⟨a, ts, rfl, hT, hts⟩ := hN.at
    have hl : ts.length = N.length := by rw [hts.len, List.length_map]
    have h40 := hC.le
    refine x_lst (by simp) fun B H1 nB e1 hB => ?_
    refine ⟨_, _, rfl, ex_t e1 hT, loop_it walk_enumT (fun i σ H' => ∃ u5 u6 u7, σ = [some (.ref a), some (.ref D), some (.ref l), some (.int c), some (.ref B), u5, u6, u7] ∧ Ex H H' ∧ H' B = some (.lst ((bts N ls c i).map V.int))) ⟨_, _, _, rfl, e1, hB⟩
      (fun i σ H' _ ⟨_, _, _, _, e, _⟩ => ex_t e hT) ?_ ?_⟩
    · rintro i v σ H2 H3 hi ⟨u5, u6, u7, rfl, e2, hB2⟩ ⟨T0, x, y, rfl, hT0, rfl, hx, hy⟩
      obtain rfl : V.int (i : Nat) = x := Option.some.inj hx
      have e3 : Ex H2 (upd H2 T0 (.tup [.int (i : Nat), y])) := Ex.new hT0
      refine x_two (SqT.of upd_same) ?_
      generalize upd H2 T0 (.tup [.int (i : Nat), y]) = H3 at e3
      have hB3 := e3 _ _ hB2
      have e03 := e2.trans e3
      obtain ⟨sD, hs, hy2⟩ := hts.get' hy
      obtain ⟨s, hsN, rfl⟩ : ∃ s, N[i]? = some s ∧ stD s = sD := by simpa using hs
      obtain ⟨b, rfl, hb⟩ := StAt.at hy2
      have hiN : i < N.length := (List.getElem?_eq_some_iff.mp hsN).1
      obtain ⟨hs1, hs8⟩ := hC.st s (List.mem_of_getElem? hsN)
      -- behind the name joined
      have fin : ∀ (j : Int) (H4 : Hp), j = joins N c (bts N ls c i) i → Ex H3 H4 → rIx K (V.ref l) (V.int (i : Nat)) H4 fun x H1 => rAddU K x (V.int j) H1 fun x H1 => rLenU K [V.ref b] H1 fun y H2 => rI CDivN (fun i j => V.int (i.fdiv j)) x y H2 fun v H1 =>
          rAppend (V.ref B) [v] H1 fun x H' => (fun σ H' => ∃ u5 u6 u7, σ = [some (V.ref a), some (V.ref D), some (V.ref l), some (V.int c), some (V.ref B), u5, u6, u7] ∧ Ex H H' ∧ H' B = some (.lst ((bts N ls c (i + 1)).map V.int))) [some (V.ref a), some (V.ref D), some (V.ref l), some (V.int c), some (V.ref B), some (V.int (i : Nat)), some (V.ref b), some (V.int j)] H' := by
        rintro j H4 rfl e4
        refine x_ixL (ex_l (e03.trans e4) hls) (atI_nat (v := .int (ls.getD i 0)) (by simp [List.getD_eq_getElem?_getD, hll, hiN])) ?_
        walk_at "run"
        refine x_lenT (ex_t (e03.trans e4) hb) ?_
        rw [List.length_map]
        walk_at "run"
        refine ⟨⟨by omega, by omega⟩, x_append (e4 _ _ hB3) (by rw [List.length_map, bts_len]; omega) fun H5 e5 h5 => ?_⟩
        refine ⟨_, _, _, rfl, fun x o hx => e5 _ _ (ne_of_none hx nB) (e4 _ _ (e03 _ _ hx)), ?_⟩
        rw [h5]
        show _ = some (HO.lst (List.map V.int (bts N ls c i ++ [_])))
        have hg : N.getD i [] = s := by rw [List.getD_eq_getElem?_getD, hsN]; rfl
        rw [List.map_append, hg]
        rfl
      walk_at "run"
      by_cases h0 : i = 0
      · rw [if_pos (by omega)]
        exact ⟨x_tyL (SqL.of hB3), fin c H3 (by unfold joins; rw [if_pos h0]) (Ex.refl _)⟩
      · rw [if_neg (by omega)]
        obtain ⟨dq, hdq⟩ : ∃ dq, A (.inl (i : Int)) = some dq := by
          have := (F.keys (.inl (i : Int))).mpr (.inl ⟨i, hiN, rfl⟩)
          exact Option.isSome_iff_exists.mp this
        refine x_dget (k := .inl (i : Int)) (e03 _ _ hD) (by rw [F.val, hdq]; rfl) ?_
        have hlen := seats_len hC (k := N.length) (Nat.le_refl _)
        have hlg := F.lenG (.inl (i : Int))
        refine ⟨dq, B, _, _, rfl, e03 _ _ (F.inn _ _ hdq), SqL.of hB3, by omega, fun g hg => ⟨?_, (F.le _ g hg).1, by have := (F.le _ g hg).2; omega⟩, fun H4 e4 => ⟨x_tyL (SqL.of (e4 _ _ hB3)), fin _ H4 ?_ e4⟩⟩
        · rw [bts_len]
          have hm := F.mem _ g hg
          obtain ⟨h1, h2⟩ := mem_seatsOf.mp hm
          have hgN : N[g.1]? = some (N.getD g.1 []) := by simp [List.getD_eq_getElem?_getD, h1]
          have := hC.fw g.1 _ hgN _ h2
          omega
        · unfold joins brought
          rw [if_neg h0, F.sum]
    · rintro σ H2 ⟨u5, u6, u7, rfl, e2, hB2⟩
      walk_at "run"
      rw [hl] at hB2
      exact q H2 B e2 nB hB2
end
end K
set_option Elab.async false
set_option linter.all false
set_option maxRecDepth 100000
set_option maxHeartbeats 4000000
namespace K
open PySem PySem.Spec PyProof.Rows L2 Evl FB
local macro_rules | `(tactic| walk_at "run") => `(tactic| try simp only [tSeq, tAsg, tVar, tC, gName, L2.start, List.map_cons, List.map_nil, List.cons_append, List.nil_append, List.length_cons, List.length_nil, List.replicate, List.getElem?_cons_zero, List.getElem?_cons_succ, Option.some.injEq, exists_eq_left', List.set_cons_zero, List.set_cons_succ, V.ref.injEq, tRet, x_tLst, x_tTup, tCons, tCB, tNil, tOp, x_addI, x_mulI, x_rI, x_rI0, x_ltI, x_leI, x_ltS, x_leS, x_eqI, x_neI, x_eqS, x_eqB, x_neB, x_isiI, x_isiS, x_int, x_max, x_min, cxOf, tIfS, tNext, tTest, V.bl.injEq, decide_eq_true_eq, gSub, tAnd, tOr, tNot, tB, tDrop, tBM, x_tFor, iRng1, iList, iTup, x_tLc, tYes, tCall, tIf, tAndV, tOrV, tNotV, tChain, List.append_nil, tUn, if_true, wipe, true_and, x_never, iU, x_itS, kV, Nat.reduceAdd, Nat.reduceSub, List.replicate_zero, x_rU, x_tMkO, iEnumT, x_tDc, x_tDGet, x_tDGet2, x_sDPut, x_tDSetd, x_tDNewK, x_iItems, x_iZip, x_tSAddK])
section
variable {P : Program} {w : World} {K : PySem.W.Frag} {mg : Str → Option Value} {base : Heap}
abbrev s_check_passengers : Stmt := top 22
theorem sc_check_passengers : FnScope ["next_passenger", "queues", "waiting", "queue", "passenger"] ["next_passenger", "queues"] (defScope s_check_passengers) := ⟨rfl, rfl, rfl, by decide +kernel, rfl, by decide +kernel, by decide +kernel⟩
def spPass (K : PySem.W.Frag) : Sp := fun vs H Q _ => ∃ (v : V) (p : Int) (qs : List (List Int)), vs = [.int p, v] ∧ Dp K H v (qsD qs) ∧ qs.flatten.Nodup ∧ (∀ x ∈ qs.flatten, 1 ≤ x ∧ x < p) ∧ qs.flatten.length ≤ 1000 ∧ ∀ H', Ex H H' → Q .non H'
theorem ok_check_passengers {f : Addr} {fd : FuncData} (D : Df K mg "check_passengers" s_check_passengers ["next_passenger", "queues"] f fd) (T : Bt mg) : FnOk P w K mg base CX0 1 f fd ["next_passenger", "queues"] (spPass K) := by
  refine D.F.ok sc_check_passengers (fun vs H Q E h => ?_) (fun cdv A outer s H vs Q E hr h => ?_)
  · obtain ⟨v, p, qs, rfl, _⟩ := h
    rfl
  · obtain ⟨v, p, qs, rfl, hv, nd, rg, hl, q⟩ := h
    have hu := hr.units
    refine ⟨_, (pss_cons (ps_set (i := 2) sc_check_passengers.nd rfl (Or.inl rfl) (pe_callTy0 cr_set0K (by rfl) T.b_set (by decide +kernel)))
      (pss_one (ps_for PassesOwn.never rfl (pi_U (K := K) (pv 1)) (pg_name (i := 3) sc_check_passengers.nd rfl (Or.inl rfl)) (pss_one (ps_for PassesOwn.never rfl (pi_U (K := K) (pv 3)) (pg_name (i := 4) sc_check_passengers.nd rfl (Or.inl rfl)) (pss_cons (ps_if (pt_not (pt_chain (op_leU) (op_ltU) pe_int (pv 4) (pv 0))) pss_never pss_nil)
      (pss_cons (ps_if (pt_cmpR ((op_inU (K := K) (P := P) (w := w))) (pv 4) (pv 2) (by rfl)) pss_never pss_nil)
      (pss_one (ps_expr (pe_saddK (pv 2) (pa_cons (pv 4) pa_nil))))))))))), ?_⟩
    walk_at "run"
    obtain ⟨a, ts, rfl, hT, hts⟩ := qs_at hv
    have hlt : ts.length = qs.length := by rw [hts.len, List.length_map]
    refine x_set0 fun S H1 nS e1 hS => ?_
    refine x_itT (ex_t e1 hT) (loop_it walk_tup (fun i σ H' => ∃ u3 u4 W n, σ = [some (.int p), some (.ref a), some (.ref S), u3, u4] ∧ Ex H H' ∧ H' S = some (SetK P w S W n) ∧ n ≤ (qs.take i).flatten.length ∧ ∀ x : Int, W (.inl x) = true ↔ x ∈ (qs.take i).flatten) ⟨_, _, _, _, rfl, e1, hS, by simp, by simp⟩
      (fun i σ H' _ ⟨_, _, _, _, _, e, _⟩ => ex_t e hT) ?_ ?_)
    · rintro i x σ H2 H2' hi ⟨u3, u4, W, n, rfl, e2, hS2, hn, hW⟩ ⟨eH, hx⟩
      subst eH
      obtain ⟨d, hd, hd2⟩ := hts.get' hx
      obtain ⟨qi, hq, rfl⟩ : ∃ q, qs[i]? = some q ∧ qD q = d := by simpa using hd
      obtain ⟨b, rfl, hb⟩ := q_at hd2
      have htk : (qs.take (i + 1)).flatten = (qs.take i).flatten ++ qi := by
        rw [List.take_add_one, hq, List.flatten_append]; simp
      have hpre : ((qs.take i).flatten ++ qi) <+: qs.flatten := by
        rw [← htk]
        have : qs.flatten = (qs.take (i + 1)).flatten ++ (qs.drop (i + 1)).flatten := by rw [← List.flatten_append, List.take_append_drop]
        rw [this]; exact List.prefix_append _ _
      have hlen := hpre.length_le
      rw [List.length_append] at hlen
      have nd2 : ((qs.take i).flatten ++ qi).Nodup := nd.sublist hpre.sublist
      walk_at "run"
      refine x_itT (ex_t e2 hb) (loop_it walk_tup (fun j σ H' => ∃ u4 W n, σ = [some (.int p), some (.ref a), some (.ref S), some (.ref b), u4] ∧ Ex H H' ∧ H' S = some (SetK P w S W n) ∧ n ≤ ((qs.take i).flatten ++ qi.take j).length ∧ ∀ x : Int, W (.inl x) = true ↔ x ∈ (qs.take i).flatten ++ qi.take j) ⟨_, _, _, rfl, e2, hS2, by simpa using hn, by simpa using hW⟩
        (fun i σ H' _ ⟨_, _, _, _, e, _⟩ => ex_t e hb) ?_ ?_)
      · rintro j y σ H3 H3' hj ⟨u4, W, n, rfl, e3, hS3, hn, hW⟩ ⟨eH, hy⟩
        subst eH
        obtain ⟨z, hz, rfl⟩ : ∃ z, qi[j]? = some z ∧ V.int z = y := by simpa using hy
        have hj2 : j < qi.length := (List.getElem?_eq_some_iff.mp hz).1
        have hzm : z ∈ qs.flatten := hpre.subset (List.mem_append_right _ (List.mem_of_getElem? hz))
        obtain ⟨z1, z2⟩ := rg z hzm
        have htj : qi.take (j + 1) = qi.take j ++ [z] := by rw [List.take_add_one, hz]; rfl
        have hnot : ¬ z ∈ (qs.take i).flatten ++ qi.take j := by
          have hp2 : ((qs.take i).flatten ++ qi.take j ++ [z]) <+: ((qs.take i).flatten ++ qi) := by
            rw [List.append_assoc, ← htj]
            exact List.prefix_append_right_inj _ |>.mpr (List.take_prefix _ _)
          have nd3 := nd2.sublist hp2.sublist
          rw [List.nodup_append] at nd3
          intro hm
          exact nd3.2.2 z hm z (by simp) rfl
        have hWz : W (.inl z) = false := by
          cases e : W (.inl z) with
          | false => rfl
          | true => exact absurd ((hW z).mp e) hnot
        walk_at "run"
        rw [if_pos (by omega)]
        rw [if_neg (by simp; omega)]
        refine x_inS (k := .inl z) hS3 ?_
        rw [hWz]
        refine ⟨_, rfl, ?_⟩
        rw [if_neg Bool.false_ne_true]
        have hln : ((qs.take i).flatten ++ qi.take j).length ≤ 1000 := by
          rw [List.length_append, List.length_take]; omega
        refine ⟨⟨_, _, _, rfl, hS3⟩, x_sadd (k := .inl z) hS3 (by omega) fun H4 m e4 hm h4 => ?_⟩
        refine ⟨_, _, _, rfl, fun x o hx => e4 _ _ (ne_of_none hx nS) (e3 _ _ hx), h4, ?_, fun x => ?_⟩
        · rw [htj, ← List.append_assoc, List.length_append]
          simp only [List.length_cons, List.length_nil]
          omega
        · rw [htj, ← List.append_assoc, List.mem_append, ← hW x]
          simp
      · rintro σ H3 ⟨u4, W, n, rfl, e3, hS3, hn, hW⟩
        have hlq : qi.take ((qi.map V.int).length) = qi := by rw [List.length_map, List.take_length]
        rw [hlq, ← htk] at hn hW
        exact ⟨_, _, _, _, rfl, e3, hS3, hn, hW⟩
    · rintro σ H2 ⟨u3, u4, W, n, rfl, e2, _⟩
      exact q H2 e2
end
end K
set_option Elab.async false
set_option linter.all false
set_option maxRecDepth 100000
set_option maxHeartbeats 4000000
namespace K
open PySem PySem.Spec PyProof.Rows L2 Evl FB
local macro_rules | `(tactic| walk_at "run") => `(tactic| try simp only [tSeq, tAsg, tVar, tC, gName, L2.start, List.map_cons, List.map_nil, List.cons_append, List.nil_append, List.length_cons, List.length_nil, List.replicate, List.getElem?_cons_zero, List.getElem?_cons_succ, Option.some.injEq, exists_eq_left', List.set_cons_zero, List.set_cons_succ, V.ref.injEq, tRet, x_tLst, x_tTup, tCons, tCB, tNil, tOp, x_addI, x_mulI, x_rI, x_rI0, x_ltI, x_leI, x_ltS, x_leS, x_eqI, x_neI, x_eqS, x_eqB, x_neB, x_isiI, x_isiS, x_int, x_max, x_min, cxOf, tIfS, tNext, tTest, V.bl.injEq, decide_eq_true_eq, gSub, tAnd, tOr, tNot, tB, tDrop, tBM, x_tFor, iRng1, iList, iTup, x_tLc, tYes, tCall, tIf, tAndV, tOrV, tNotV, tChain, List.append_nil, tUn, if_true, wipe, true_and, x_never, iU, x_itS, kV, Nat.reduceAdd, Nat.reduceSub, List.replicate_zero, x_rU, x_tMkO, iEnumT, x_tDc, x_tDGet, x_tDGet2, x_sDPut, x_tDSetd, x_tDNewK, x_iItems, x_iZip, x_tSAddK])
theorem flat_len : ∀ {qs : List (List Int)} {N : Net}, qs.length = N.length → (∀ (k : Nat) q s, qs[k]? = some q → N[k]? = some s → q.length < s.length) → (∀ s ∈ N, s.length ≤ 8) → qs.flatten.length ≤ 8 * N.length
  | [], _, _, _, _ => by simp
  | q :: qs, [], h, _, _ => by simp at h
  | q :: qs, s :: N, h, hlt, h8 => by
    have h1 := hlt 0 q s rfl rfl
    have h2 := h8 s (List.mem_cons_self ..)
    have h3 := flat_len (qs := qs) (N := N) (by simpa using h) (fun k q' s' a b => hlt (k + 1) q' s' (by simpa using a) (by simpa using b)) (fun s hs => h8 s (List.mem_cons_of_mem _ hs))
    rw [List.flatten_cons, List.length_append, List.length_cons]
    omega
section
variable {P : Program} {w : World} {K : PySem.W.Frag} {mg : Str → Option Value} {base : Heap}
abbrev s_check_state : Stmt := top 21
theorem sc_check_state : FnScope ["network", "state", "next_passenger", "queues", "seats", "queue"] ["network", "state"] (defScope s_check_state) := ⟨rfl, rfl, rfl, by decide +kernel, rfl, by decide +kernel, by decide +kernel⟩
def spState (K : PySem.W.Frag) : Sp := fun vs H Q _ => ∃ (v u : V) (N : Net) (p : Int) (qs : List (List Int)), vs = [v, u] ∧ NetAt K H v N ∧ ValidN N ∧ Dp K H u (stateD p qs) ∧ StOk N p qs ∧ ∀ H', Ex H H' → Q .non H'
theorem ok_check_state {f f1 f2 f3 f4 : Addr} {fd fd1 fd2 fd3 fd4 : FuncData} (D : Df K mg "check_state" s_check_state ["network", "state"] f fd) (T : Bt mg) (Ck : Ct K mg)
    (D_check_network : Df K mg "check_network" s_check_network ["network"] f1 fd1) (D_check_passengers : Df K mg "check_passengers" s_check_passengers ["next_passenger", "queues"] f2 fd2) (D_is_word : Df K mg "is_word" s_is_word ["text"] f3 fd3)
    (D_is_place : Df K mg "is_place" s_is_place ["place", "station", "stations"] f4 fd4) : FnOk P w K mg base CX0 5 f fd ["network", "state"] (spState K) := by
  have G_check_network : FnOk P w K mg base CX0 4 f1 fd1 _ _ := ok_check_network0 D_check_network T Ck D_is_word D_is_place
  have G_check_passengers : FnOk P w K mg base CX0 1 f2 fd2 _ _ := ok_check_passengers D_check_passengers T
  refine D.F.ok sc_check_state (fun vs H Q E h => ?_) (fun cdv A outer s H vs Q E hr h => ?_)
  · obtain ⟨v, u, N, p, qs, rfl, _⟩ := h
    rfl
  · obtain ⟨v, u, N, p, qs, rfl, hN, hV, hu2, hO, q⟩ := h
    have hu := hr.units
    refine ⟨_, (pss_cons (ps_expr (pe_call (G_check_network) (hr.mono (by decide)) rfl D_check_network.g D_check_network.F.kp D_check_network.b .nil pass0 (pa_cons (pv 0) pa_nil)))
      (pss_cons (ps_asg (pv 1) (pg_tup rfl (pgs_cons (pg_name (i := 2) sc_check_state.nd rfl (Or.inl rfl)) (pgs_cons (pg_name (i := 3) sc_check_state.nd rfl (Or.inl rfl)) pgs_nil))))
      (pss_cons (ps_if (pt_cmpR (op_ltU) (pv 2) pe_int (nomark _)) pss_never pss_nil)
      (pss_cons (ps_if (pt_cmpR (op_neU (K := K) hu) (pe_callB (call_lenU (K := K)) (by rfl) T.b_len (by decide +kernel) (pa_cons (pv 3) pa_nil)) (pe_callB (call_lenU (K := K)) (by rfl) T.b_len (by decide +kernel) (pa_cons (pv 0) pa_nil)) (nomark _)) pss_never pss_nil)
      (pss_cons (ps_for PassesOwn.never rfl (RZ.pi_zipA (by rfl) T.b_zip (pa_cons (pv 0) (pa_cons (pv 3) pa_nil))) (pg_tup rfl (pgs_cons (pg_name (i := 4) sc_check_state.nd rfl (Or.inl rfl)) (pgs_cons (pg_name (i := 5) sc_check_state.nd rfl (Or.inl rfl)) pgs_nil))) (pss_one (ps_if (pt_cmpR (op_geU) (pe_callB (call_lenU (K := K)) (by rfl) T.b_len (by decide +kernel) (pa_cons (pv 5) pa_nil)) (pe_callB (call_lenU (K := K)) (by rfl) T.b_len (by decide +kernel) (pa_cons (pv 4) pa_nil)) (nomark _)) pss_never pss_nil)))
      (pss_one (ps_expr (pe_call (G_check_passengers) (hr.mono (by decide)) rfl D_check_passengers.g D_check_passengers.F.kp D_check_passengers.b .nil pass0 (pa_cons (pv 2) (pa_cons (pv 3) pa_nil)))))))))), ?_⟩
    walk_at "run"
    refine ⟨v, N, rfl, hN, hV, fun H1 e1 => ?_⟩
    obtain ⟨a, y, rfl, hS, hy⟩ := state_at hu2
    refine x_two (ex_t e1 hS) ?_
    obtain ⟨b, ts, rfl, hT, hts⟩ := qs_at hy
    obtain ⟨c, us, rfl, hU, hus⟩ := hN.at
    have hlt : ts.length = qs.length := by rw [hts.len, List.length_map]
    have hlu : us.length = N.length := by rw [hus.len, List.length_map]
    have hp := hO.pos
    have hql := hO.len
    walk_at "run"
    rw [if_neg (by omega)]
    refine x_lenT (ex_t e1 hT) (x_lenT (ex_t e1 hU) ?_)
    rw [hlt, hlu]
    walk_at "run"
    rw [if_neg (by simp; omega)]
    refine x_zipT (ex_t e1 hU) (ex_t e1 hT) ?_
    refine loop_it (walk_zipT (by omega)) (fun i σ H' => ∃ u4 u5, σ = [some (.ref c), some (.ref a), some (.int p), some (.ref b), u4, u5] ∧ Ex H H') ⟨_, _, rfl, e1⟩ (fun i σ H' _ ⟨_, _, _, e⟩ => ⟨ex_t e hU, ex_t e hT⟩) ?_ ?_
    · rintro i v σ H2 H3 hi ⟨u4, u5, rfl, e2⟩ ⟨T0, x, y, rfl, hT0, rfl, hx, hy⟩
      have e3 : Ex H (upd H2 T0 (.tup [x, y])) := e2.trans (Ex.new hT0)
      refine x_two (SqT.of upd_same) ?_
      generalize upd H2 T0 (.tup [x, y]) = H3 at e3
      obtain ⟨sD, hs, hx2⟩ := hus.get' hx
      obtain ⟨s, hsN, rfl⟩ : ∃ s, N[i]? = some s ∧ stD s = sD := by simpa using hs
      obtain ⟨b1, rfl, hb1⟩ := StAt.at hx2
      obtain ⟨qD', hq, hy2⟩ := hts.get' hy
      obtain ⟨qi, hqi, rfl⟩ : ∃ s, qs[i]? = some s ∧ qD s = qD' := by simpa using hq
      obtain ⟨b2, rfl, hb2⟩ := q_at hy2
      have := hO.lt i qi s hqi hsN
      walk_at "run"
      refine x_lenT (ex_t e3 hb2) (x_lenT (ex_t e3 hb1) ?_)
      rw [List.length_map, List.length_map]
      walk_at "run"
      rw [if_neg (by omega)]
      exact ⟨_, _, rfl, e3⟩
    · rintro σ H2 ⟨u4, u5, rfl, e2⟩
      walk_at "run"
      have hfl := flat_len hql hO.lt (fun s hs => (hV.cnt.st s hs).2)
      have h40 := hV.le
      exact ⟨_, p, qs, rfl, Dp.ex e2 hy, hO.nd, hO.rng, by omega, fun H3 e3 => q H3 (e2.trans e3)⟩
end
end K
set_option Elab.async false
set_option linter.all false
set_option maxRecDepth 100000
set_option maxHeartbeats 4000000
namespace K
open PySem PySem.Spec PyProof.Rows L2 Evl FB
local macro_rules | `(tactic| walk_at "run") => `(tactic| try simp only [tSeq, tAsg, tVar, tC, gName, L2.start, List.map_cons, List.map_nil, List.cons_append, List.nil_append, List.length_cons, List.length_nil, List.replicate, List.getElem?_cons_zero, List.getElem?_cons_succ, Option.some.injEq, exists_eq_left', List.set_cons_zero, List.set_cons_succ, V.ref.injEq, tRet, x_tLst, x_tTup, tCons, tCB, tNil, tOp, x_addI, x_mulI, x_rI, x_rI0, x_ltI, x_leI, x_ltS, x_leS, x_eqI, x_neI, x_eqS, x_eqB, x_neB, x_isiI, x_isiS, x_int, x_max, x_min, cxOf, tIfS, tNext, tTest, V.bl.injEq, decide_eq_true_eq, gSub, tAnd, tOr, tNot, tB, tDrop, tBM, x_tFor, iRng1, iList, iTup, x_tLc, tYes, tCall, tIf, tAndV, tOrV, tNotV, tChain, List.append_nil, tUn, if_true, wipe, true_and, x_never, iU, x_itS, kV, Nat.reduceAdd, Nat.reduceSub, List.replicate_zero, x_rU, x_tMkO, iEnumT, x_tDc, x_tDGet, x_tDGet2, x_sDPut, x_tDSetd, x_tDNewK, x_iItems, x_iZip, x_tSAddK])
section
variable {P : Program} {w : World} {K : PySem.W.Frag} {mg : Str → Option Value} {base : Heap}
abbrev s_check_count : Stmt := top 8
theorem sc_check_count : FnScope ["count", "least", "most"] ["count", "least", "most"] (defScope s_check_count) := ⟨rfl, rfl, rfl, by decide +kernel, rfl, by decide +kernel, by decide +kernel⟩
def spCount : Sp := fun vs H Q _ => ∃ c l m : Int, vs = [.int c, .int l, .int m] ∧ l ≤ c ∧ c ≤ m ∧ Q .non H
theorem ok_check_count {f : Addr} {fd : FuncData} (D : Df K mg "check_count" s_check_count ["count", "least", "most"] f fd) : FnOk P w K mg base CX0 1 f fd ["count", "least", "most"] spCount := by
  refine D.F.ok sc_check_count (fun vs H Q E h => ?_) (fun cdv A outer s H vs Q E hr h => ?_)
  · obtain ⟨v, u, N, rfl, _⟩ := h
    rfl
  · obtain ⟨c, l, m, rfl, h1, h2, q⟩ := h
    refine ⟨_, (pss_one (ps_if (pt_not (pt_chain (op_leU) (op_leU) (pv 1) (pv 0) (pv 2))) pss_never pss_nil)), ?_⟩
    walk_at "run"
    rw [if_pos h1, if_neg (by simp; omega)]
    exact q
abbrev s_queue_lengths : Stmt := top 23
theorem sc_queue_lengths : FnScope ["state", "queue"] ["state"] (defScope s_queue_lengths) := ⟨rfl, rfl, rfl, by decide +kernel, rfl, by decide +kernel, by decide +kernel⟩
def lens (qs : List (List Int)) : List Int := qs.map fun q => ((q.length : Nat) : Int)
def spLens (K : PySem.W.Frag) : Sp := fun vs H Q _ => ∃ (v : V) (p : Int) (qs : List (List Int)), vs = [v] ∧ Dp K H v (stateD p qs) ∧ qs.length ≤ 1000 ∧ (∀ q ∈ qs, q.length ≤ 1000) ∧ ∀ H' l, Ex H H' → H l = none → H' l = some (.lst ((lens qs).map V.int)) → Q (.ref l) H'
theorem ok_queue_lengths {f : Addr} {fd : FuncData} (D : Df K mg "queue_lengths" s_queue_lengths ["state"] f fd) (T : Bt mg) : FnOk P w K mg base CX0 1 f fd ["state"] (spLens K) := by
  refine D.F.ok sc_queue_lengths (fun vs H Q E h => ?_) (fun cdv A outer s H vs Q E hr h => ?_)
  · obtain ⟨v, p, qs, rfl, _⟩ := h
    rfl
  · obtain ⟨v, p, qs, rfl, hv, hl, hl2, q⟩ := h
    refine ⟨_, (pss_one (ps_ret (pe_lc (own := [("queue", 1)]) (g := gName 1) (tt := tYes) rfl sc_queue_lengths.nd (pi_U (K := K) (pe_ix (ix_U (K := K)) (pv 0) pe_int (fun _ _ => rfl))) (blkOk_by (own := [("queue", 1)]) (N := ["state", "queue"]) (sc := defScope s_queue_lengths) (by decide +kernel)) (fun _ _ _ _ _ => (pg_name (i := 1) sc_queue_lengths.nd rfl (Or.inl rfl))) (fun _ _ _ _ _ => pts_nil) (fun _ _ _ _ _ => (pe_callB (call_lenU (K := K)) (by rfl) T.b_len (by decide +kernel) (pa_cons (pv 1) pa_nil)))))), ?_⟩
    walk_at "run"
    obtain ⟨a, y, rfl, hS, hy⟩ := state_at hv
    refine x_ixT hS rfl ?_
    obtain ⟨b, ts, rfl, hT, hts⟩ := qs_at hy
    have hlt : ts.length = qs.length := by rw [hts.len, List.length_map]
    refine x_itT hT (lcl_it walk_tup (fun D i H' => Ex H H' ∧ H' D = some (.lst ((lens (qs.take i)).map V.int))) (fun D H' hD e h => ⟨e, by simpa [lens] using h⟩) (fun D i H' _ h => ex_t h.1 hT) ?_ ?_)
    · rintro D i x H2 H2' hD hi ⟨e2, h2⟩ ⟨eH, hx⟩
      subst eH
      obtain ⟨d, hd, hd2⟩ := hts.get' hx
      obtain ⟨qi, hq, rfl⟩ : ∃ q, qs[i]? = some q ∧ qD q = d := by simpa using hd
      obtain ⟨b2, rfl, hb⟩ := q_at hd2
      walk_at "run"
      refine x_lenT (ex_t e2 hb) ?_
      rw [List.length_map]
      refine x_push h2 (by unfold lens; simp; omega) fun H5 e5 h5 => ⟨fun x o hx => e5 _ _ (ne_of_none hx hD) (e2 _ _ hx), ?_⟩
      rw [h5, List.take_add_one, hq]
      simp [lens]
    · rintro D H2 hD ⟨e2, h2⟩
      rw [hlt, List.take_length] at h2
      exact q H2 D e2 hD h2
end
end K
set_option Elab.async false
set_option linter.all false
set_option maxRecDepth 100000
set_option maxHeartbeats 4000000
namespace K
open PySem PySem.Spec PyProof.Rows L2 Evl FB
local macro_rules | `(tactic| walk_at "run") => `(tactic| try simp only [tSeq, tAsg, tVar, tC, gName, L2.start, List.map_cons, List.map_nil, List.cons_append, List.nil_append, List.length_cons, List.length_nil, List.replicate, List.getElem?_cons_zero, List.getElem?_cons_succ, Option.some.injEq, exists_eq_left', List.set_cons_zero, List.set_cons_succ, V.ref.injEq, tRet, x_tLst, x_tTup, tCons, tCB, tNil, tOp, x_addI, x_mulI, x_rI, x_rI0, x_ltI, x_leI, x_ltS, x_leS, x_eqI, x_neI, x_eqS, x_eqB, x_neB, x_isiI, x_isiS, x_int, x_max, x_min, cxOf, tIfS, tNext, tTest, V.bl.injEq, decide_eq_true_eq, gSub, tAnd, tOr, tNot, tB, tDrop, tBM, x_tFor, iRng1, iList, iTup, x_tLc, tYes, tCall, tIf, tAndV, tOrV, tNotV, tChain, List.append_nil, tUn, if_true, wipe, true_and, x_never, iU, x_itS, kV, Nat.reduceAdd, Nat.reduceSub, List.replicate_zero, x_rU, x_tMkO, iEnumT, x_tDc, x_tDGet, x_tDGet2, x_sDPut, x_tDSetd, x_tDNewK, x_iItems, x_iZip, x_tSAddK, x_tLockV])
/-- the program's constants of the counting -/
structure Cm (mg : Str → Option Value) : Prop where
  g_MAX_COUNT : ∃ t, mg "MAX_COUNT" = some (.int 1000000000000000000 t)
/-- what reaches a place by the boats bs -/
def reach (N : Net) (bs : List Int) (q : Key) : Int := toQ (fun i => bs.getD i 0) q (seatsOf N N.length)
/-- the dict kvs holds for each port that somebody reaches how many do -/
structure Fin (T : Str → Int) (kvs : List (Key × V)) : Prop where
  nd : (kvs.map (·.1)).Nodup
  str : ∀ p ∈ kvs, ∃ z, p.1 = .inr z
  val : ∀ z, valV kvs (.inr z) = if 0 < T z then some (.int (T z)) else none
/-- .. for the ports among ks -/
structure FinK (T : Str → Int) (ks : List Key) (kvs : List (Key × V)) : Prop where
  nd : (kvs.map (·.1)).Nodup
  str : ∀ p ∈ kvs, ∃ z, p.1 = .inr z
  yes : ∀ z : Str, (Sum.inr z : Key) ∈ ks → 0 < T z → valV kvs (.inr z) = some (V.int (T z))
  no : ∀ z : Str, ¬ ((Sum.inr z : Key) ∈ ks ∧ 0 < T z) → valV kvs (.inr z) = none
theorem FinK.nil {T : Str → Int} : FinK T [] [] := ⟨List.nodup_nil, fun _ h => (by simp at h), fun _ h => (by simp at h), fun _ _ => rfl⟩
theorem FinK.other {T : Str → Int} {ks : List Key} {kvs : List (Key × V)} {k : Key} (F : FinK T ks kvs) (h : ∀ z, k = .inr z → ¬ 0 < T z) : FinK T (ks ++ [k]) kvs where
  nd := F.nd
  str := F.str
  yes := fun z h1 h2 => by
    rcases List.mem_append.mp h1 with h1 | h1
    · exact F.yes z h1 h2
    · exact absurd h2 (h z (List.mem_singleton.mp h1).symm)
  no := fun z h1 => F.no z fun h2 => h1 ⟨List.mem_append_left _ h2.1, h2.2⟩
theorem FinK.put {T : Str → Int} {ks : List Key} {kvs : List (Key × V)} {y : Str} (F : FinK T ks kvs) (h : 0 < T y) : FinK T (ks ++ [.inr y]) (putK kvs (.inr y) (.int (T y))) where
  nd := putK_keys F.nd
  str := fun p hp => by
    unfold putK at hp
    split at hp
    · obtain ⟨p', hp', rfl⟩ := List.mem_map.mp hp
      split
      · exact F.str p' hp'
      · exact F.str p' hp'
    · rcases List.mem_append.mp hp with hp | hp
      · exact F.str p hp
      · rw [List.mem_singleton.mp hp]; exact ⟨y, rfl⟩
  yes := fun z h1 h2 => by
    rw [valV_put]
    by_cases e : (Sum.inr z : Key) = .inr y
    · rw [if_pos e]
      cases e
      rfl
    · rw [if_neg e]
      rcases List.mem_append.mp h1 with h1 | h1
      · exact F.yes z h1 h2
      · exact absurd (List.mem_singleton.mp h1) e
  no := fun z h1 => by
    rw [valV_put]
    by_cases e : (Sum.inr z : Key) = .inr y
    · cases e
      exact absurd ⟨List.mem_append_right _ (List.mem_singleton.mpr rfl), h⟩ h1
    · rw [if_neg e]
      exact F.no z fun h2 => h1 ⟨List.mem_append_left _ h2.1, h2.2⟩
section
variable {P : Program} {w : World} {K : PySem.W.Frag} {mg : Str → Option Value} {base : Heap}
end
end K
set_option Elab.async false
set_option linter.all false
set_option maxRecDepth 100000
set_option maxHeartbeats 4000000
/-! Sorted texts; flat data. -/
namespace FB
open PySem PySem.Spec PyProof.Rows L2 Evl
theorem str_ext {a b : Str} (h : a.cps.toList = b.cps.toList) : a = b := by
  cases a with
  | mk x =>
    cases b with
    | mk y =>
      have : x = y := by
        have h : x.toList = y.toList := h
        rw [← Array.toArray_toList (xs := x), ← Array.toArray_toList (xs := y), h]
      rw [this]
theorem rising_pw : ∀ {r : List Str} {p : Str}, risingS p r = true → (p :: r).Pairwise fun a b => a.cps.toList ≤ b.cps.toList
  | [], p, _ => by simp
  | x :: r, p, h => by
    have h : (!ltCps x.cps.toList p.cps.toList && risingS x r) = true := h
    rw [Bool.and_eq_true] at h
    have ih := rising_pw h.2
    have hx : p.cps.toList ≤ x.cps.toList := by
      have := h.1
      rw [PyProof.Rows.ltCps_eq] at this
      simpa using this
    rw [List.pairwise_cons]
    refine ⟨fun y hy => ?_, ih⟩
    rcases List.mem_cons.mp hy with rfl | hy
    · exact hx
    · exact List.le_trans hx ((List.pairwise_cons.mp ih).1 y hy)
theorem sorted_same {a b : List Str} (hp : a.Perm b) (ha : sortedS a = true) (hb : sortedS b = true) : a = b := by
  have pw : ∀ {l : List Str}, sortedS l = true → l.Pairwise fun a b => a.cps.toList ≤ b.cps.toList := fun {l} h => by
    cases l with
    | nil => exact List.Pairwise.nil
    | cons x r => exact rising_pw h
  exact List.Perm.eq_of_pairwise (fun x y _ _ h1 h2 => str_ext (List.le_antisymm h1 h2)) (pw ha) (pw hb) hp
theorem depthAll_le {m : Nat} : ∀ {ds : List PyData}, (∀ d ∈ ds, d.depth ≤ m) → PyData.depthAll ds ≤ m
  | [], _ => by simp [PyData.depthAll]
  | d :: r, h => by
    have h1 := h d (List.mem_cons_self ..)
    have h2 := depthAll_le fun d hd => h d (List.mem_cons_of_mem _ hd)
    simp [PyData.depthAll]
    omega
theorem layAll : ∀ {ds : List PyData}, (∀ d ∈ ds, d.canLay0 = true) → PyData.canLayAll0 ds = true
  | [], _ => by simp [PyData.canLayAll0]
  | d :: r, h => by
    simp [PyData.canLayAll0, h d (List.mem_cons_self ..), layAll fun d hd => h d (List.mem_cons_of_mem _ hd)]
theorem strs_dp {K : PySem.W.Frag} {H : Hp} : ∀ q : List Str, DpAll K H (q.map V.str) (q.map PyData.str)
  | [] => .nil
  | i :: q => .cons (.str i) (strs_dp q)
/-- sorted(d), the keys texts -/
def rSortD (vs : List V) (H : Hp) (Q : VK) : Prop := ∃ (a : Addr) (kvs : List (Key × V)) (ks : List Str), vs = [.ref a] ∧ Rd H a (.dK kvs) ∧ kvs.map (·.1) = ks.map Sum.inr ∧ ks.length < 64 ∧ ∀ ys p, ys.Perm ks → sortedS ys = true → H p = none → Q (.ref p) (upd H p (.lst (ys.map V.str)))
theorem call_sortD {X : Cx} (hc : X.calm = true) : CallR X (.builtin "sorted") rSortD := call_sortedD hc
section
variable {K : PySem.W.Frag} {H : Hp} {a b : Addr} {ka kb : List (Key × V)} {Q : VK}
theorem x_sortD {ks : List Str} (h : H a = some (.dK ka)) (hk : ka.map (·.1) = ks.map Sum.inr) (hl : ks.length < 64) (q : ∀ ys p H', ys.Perm ks → sortedS ys = true → H p = none → Ex H H' → H' p = some (.lst (ys.map V.str)) → Q (.ref p) H') : rSortD [.ref a] H Q :=
  ⟨a, ka, ks, rfl, .inl h, hk, hl, fun ys p h1 h2 h3 => q ys p _ h1 h2 h3 (Ex.new h3) upd_same⟩
theorem x_isDict (h : H a = some (.dK ka)) (q : Q (.bl true) H) : rIsiU K [.ref a, .ty "dict"] H Q := .inl ⟨_, _, .type "dict", .type "dict", true, rfl, .ty _, .base (.dK h), rfl, q⟩
theorem x_eqDA (h1 : H a = some (.dK ka)) (h2 : H b = some (.dK kb)) (hl : ka.length = kb.length) (hp : ∀ p ∈ ka, valV kb p.1 = some p.2 ∧ flatB p.2 = true) (q : Q (.bl true) H) : rEqDA (.ref a) (.ref b) H Q := ⟨a, b, ka, kb, rfl, rfl, h1, h2, hl, hp, q⟩
end
end FB
set_option Elab.async false
set_option linter.all false
set_option maxRecDepth 100000
set_option maxHeartbeats 4000000
/-! Arrivals: who joins a queue, whose boat departs. -/
namespace FB
open PySem PySem.Spec PyProof.Rows L2 Evl
/-- queues of what waits -/
abbrev QsA (α : Type) := List (List α)
abbrev Qs := QsA Int
/-- what happens: a boat with its passengers (.inl), one who finishes (.inr) -/
abbrev EvsA (α : Type) := List (Key × List α)
abbrev Evs := EvsA Int
abbrev Dep (α : Type) := QsA α → Nat → QsA α × EvsA α
section
variable {α : Type} [Inhabited α]
def joinW (N : Net) (dep : Dep α) (qs : QsA α) (j : Nat) (p : α) : QsA α × EvsA α :=
  if (qs.getD j [] ++ [p]).length = (N.getD j []).length then dep (qs.set j (qs.getD j [] ++ [p])) j else (qs.set j (qs.getD j [] ++ [p]), [])
def moveW (N : Net) (dep : Dep α) : List (Key × α) → QsA α → QsA α × EvsA α
  | [], qs => (qs, [])
  | (.inr z, p) :: r, qs => ((moveW N dep r qs).1, (.inr z, [p]) :: (moveW N dep r qs).2)
  | (.inl j, p) :: r, qs => ((moveW N dep r (joinW N dep qs j.toNat p).1).1, (joinW N dep qs j.toNat p).2 ++ (moveW N dep r (joinW N dep qs j.toNat p).1).2)
/-- f: how many stations are left at most -/
def departW (N : Net) : Nat → Dep α
  | 0 => fun qs _ => (qs, [])
  | f + 1 => fun qs st => ((moveW N (departW N f) ((N.getD st []).zip (qs.getD st [])) (qs.set st [])).1, (.inl (st : Int), qs.getD st []) :: (moveW N (departW N f) ((N.getD st []).zip (qs.getD st [])) (qs.set st [])).2)
/-- who finishes -/
def finOf : EvsA α → List (Str × α)
  | [] => []
  | (.inl _, _) :: r => finOf r
  | (.inr z, ps) :: r => (z, ps.headD default) :: finOf r
theorem finOf_append : ∀ {a b : EvsA α}, finOf (a ++ b) = finOf a ++ finOf b
  | [], _ => rfl
  | (.inl _, _) :: r, b => finOf_append (a := r)
  | (.inr z, ps) :: r, b => congrArg ((z, ps.headD default) :: ·) (finOf_append (a := r))
theorem moveW_append {N : Net} {dep : Dep α} : ∀ {a b : List (Key × α)} {qs : QsA α}, moveW N dep (a ++ b) qs = ((moveW N dep b (moveW N dep a qs).1).1, (moveW N dep a qs).2 ++ (moveW N dep b (moveW N dep a qs).1).2)
  | [], b, qs => rfl
  | (.inr z, p) :: r, b, qs => by
    show ((moveW N dep (r ++ b) qs).1, (.inr z, [p]) :: (moveW N dep (r ++ b) qs).2) = _
    rw [moveW_append]; rfl
  | (.inl j, p) :: r, b, qs => by
    show ((moveW N dep (r ++ b) (joinW N dep qs j.toNat p).1).1, (joinW N dep qs j.toNat p).2 ++ (moveW N dep (r ++ b) (joinW N dep qs j.toNat p).1).2) = _
    rw [moveW_append]
    show (_, (joinW N dep qs j.toNat p).2 ++ (_ ++ _)) = (_, ((joinW N dep qs j.toNat p).2 ++ _) ++ _)
    rw [List.append_assoc]; rfl
/-- one move more -/
theorem moveW_snoc {N : Net} {dep : Dep α} {a : List (Key × α)} {k : Key} {p : α} {qs : QsA α} : moveW N dep (a ++ [(k, p)]) qs = ((moveW N dep [(k, p)] (moveW N dep a qs).1).1, (moveW N dep a qs).2 ++ (moveW N dep [(k, p)] (moveW N dep a qs).1).2) := moveW_append
theorem move_one_r {N : Net} {dep : Dep α} {z : Str} {p : α} {qs : QsA α} : moveW N dep [(.inr z, p)] qs = (qs, [(.inr z, [p])]) := rfl
theorem move_one_l {N : Net} {dep : Dep α} {j : Int} {p : α} {qs : QsA α} : moveW N dep [(.inl j, p)] qs = joinW N dep qs j.toNat p := by
  show (_, (joinW N dep qs j.toNat p).2 ++ []) = _
  rw [List.append_nil]; rfl
/-- each queue is shorter than its boat -/
structure Short (N : Net) (qs : QsA α) : Prop where
  len : qs.length = N.length
  lt : ∀ k, k < N.length → (qs.getD k []).length < (N.getD k []).length
/-- seats lead to later stations that there are -/
def Fw (N : Net) : Prop := ∀ i, i < N.length → ∀ j : Int, (.inl j : Key) ∈ N.getD i [] → (i : Int) < j ∧ j < N.length
theorem getD_set' {l : QsA α} {i j : Nat} {x : List α} (h : i < l.length) : (l.set i x).getD j [] = if j = i then x else l.getD j [] := by
  rw [List.getD_eq_getElem?_getD, List.getElem?_set]
  by_cases e : i = j
  · subst e
    rw [if_pos rfl, if_pos rfl, if_pos h]; rfl
  · rw [if_neg e, if_neg (fun z => e z.symm), ← List.getD_eq_getElem?_getD]
/-- a departure from st on is sound: what it asks, what it leaves -/
def DepOk (N : Net) (f : Nat) (dep : Dep α) : Prop := ∀ qs st, N.length ≤ st + f → st < N.length → qs.length = N.length → (∀ k, k < N.length → k ≠ st → (qs.getD k []).length < (N.getD k []).length) → (qs.getD st []).length ≤ (N.getD st []).length → 1 ≤ (N.getD st []).length →
  Short N (dep qs st).1 ∧ ∀ k, k < st → (dep qs st).1.getD k [] = qs.getD k []
theorem joinW_ok {N : Net} {f : Nat} {dep : Dep α} (h1 : ∀ k, k < N.length → 1 ≤ (N.getD k []).length) (hd : DepOk N f dep) {qs : QsA α} {j : Nat} {p : α} (S : Short N qs) (hj : j < N.length) (hf : N.length ≤ j + f) : Short N (joinW N dep qs j p).1 ∧ ∀ k, k < j → (joinW N dep qs j p).1.getD k [] = qs.getD k [] := by
  have hjl : j < qs.length := by rw [S.len]; exact hj
  have lt := S.lt j hj
  unfold joinW
  split
  · rename_i e
    have q := hd (qs.set j (qs.getD j [] ++ [p])) j hf hj (by rw [List.length_set]; exact S.len) (fun k hk hne => by rw [getD_set' hjl, if_neg hne]; exact S.lt k hk) (by rw [getD_set' hjl, if_pos rfl]; omega) (h1 j hj)
    exact ⟨q.1, fun k hk => by rw [q.2 k hk, getD_set' hjl, if_neg (by omega)]⟩
  · rename_i e
    refine ⟨⟨by rw [List.length_set]; exact S.len, fun k hk => ?_⟩, fun k hk => by rw [getD_set' hjl, if_neg (by omega)]⟩
    rw [getD_set' hjl]
    split
    · rename_i e2
      subst e2
      have e3 : (qs.getD k [] ++ [p]).length = (qs.getD k []).length + 1 := by simp
      omega
    · exact S.lt k hk
theorem moveW_ok {N : Net} {f : Nat} {dep : Dep α} (h1 : ∀ k, k < N.length → 1 ≤ (N.getD k []).length) (hd : DepOk N f dep) {st : Nat} (hf : N.length ≤ st + 1 + f) : ∀ {ms : List (Key × α)} {qs : QsA α}, (∀ m ∈ ms, ∀ j : Int, m.1 = .inl j → (st : Int) < j ∧ j < N.length) → Short N qs →
    Short N (moveW N dep ms qs).1 ∧ ∀ k, k ≤ st → (moveW N dep ms qs).1.getD k [] = qs.getD k []
  | [], qs, _, S => ⟨S, fun _ _ => rfl⟩
  | (.inr z, p) :: r, qs, hm, S => moveW_ok h1 hd hf (ms := r) (fun m h => hm m (List.mem_cons_of_mem _ h)) S
  | (.inl j, p) :: r, qs, hm, S => by
    obtain ⟨a, b⟩ := hm _ (List.mem_cons_self ..) j rfl
    obtain ⟨S1, K1⟩ := joinW_ok h1 hd (p := p) S (j := j.toNat) (by omega) (by omega)
    obtain ⟨S2, K2⟩ := moveW_ok h1 hd hf (ms := r) (fun m h => hm m (List.mem_cons_of_mem _ h)) S1
    exact ⟨S2, fun k hk => by
      show (moveW N dep r (joinW N dep qs j.toNat p).1).1.getD k [] = _
      rw [K2 k hk, K1 k (by omega)]⟩
theorem departW_ok {N : Net} (h1 : ∀ k, k < N.length → 1 ≤ (N.getD k []).length) (fw : Fw N) : ∀ f, DepOk N f (departW (α := α) N f)
  | 0 => fun qs st h1 h2 => by omega
  | f + 1 => fun qs st hf hst hl hs hs2 h1s => by
    have hql : st < qs.length := by rw [hl]; exact hst
    have S0 : Short N (qs.set st []) := ⟨by rw [List.length_set]; exact hl, fun k hk => by
      rw [getD_set' hql]
      split
      · rename_i e; subst e; exact h1s
      · rename_i e; exact hs k hk e⟩
    obtain ⟨S1, K1⟩ := moveW_ok h1 (departW_ok h1 fw f) (st := st) (by omega) (ms := (N.getD st []).zip (qs.getD st [])) (fun m hm j e => fw st hst j (by rw [← e]; exact (List.of_mem_zip hm).1)) S0
    exact ⟨S1, fun k hk => by
      show (moveW N (departW N f) _ _).1.getD k [] = _
      rw [K1 k (by omega), getD_set' hql, if_neg (by omega)]⟩
/-! ### nobody is lost -/
theorem flat_set {x y : List α} : ∀ {qs : QsA α} {j : Nat}, qs[j]? = some x → ∃ a b, qs.flatten = a ++ x ++ b ∧ (qs.set j y).flatten = a ++ y ++ b
  | [], j, h => by simp at h
  | q :: qs, 0, h => by
    have e : q = x := by simpa using h
    subst e
    exact ⟨[], qs.flatten, by simp, by simp⟩
  | q :: qs, j + 1, h => by
    obtain ⟨a, b, h1, h2⟩ := flat_set (qs := qs) (j := j) (x := x) (y := y) (by simpa using h)
    exact ⟨q ++ a, b, by simp [h1], by simp [h2]⟩
theorem getD_some {qs : QsA α} {j : Nat} (h : j < qs.length) : qs[j]? = some (qs.getD j []) := by simp [List.getD_eq_getElem?_getD, h]
/-- who waits or has finished afterwards has waited before -/
def DepPm (N : Net) (dep : Dep α) : Prop := ∀ qs st, st < qs.length → qs.length = N.length → (qs.getD st []).length ≤ (N.getD st []).length → (dep qs st).1.length = qs.length ∧ ((dep qs st).1.flatten ++ (finOf (dep qs st).2).map (·.2)).Perm qs.flatten
theorem set_perm {qs : QsA α} {j : Nat} {p : α} (h : j < qs.length) : ((qs.set j (qs.getD j [] ++ [p])).flatten).Perm (qs.flatten ++ [p]) := by
  obtain ⟨a, b, h1, h2⟩ := flat_set (y := qs.getD j [] ++ [p]) (getD_some h)
  rw [h1, h2]
  simp only [List.append_assoc]
  refine List.Perm.append_left _ (List.Perm.append_left _ ?_)
  exact List.perm_append_comm
theorem joinW_pm {N : Net} {dep : Dep α} (hd : DepPm N dep) {qs : QsA α} {j : Nat} {p : α} (h : j < qs.length) (hl : qs.length = N.length) : (joinW N dep qs j p).1.length = qs.length ∧ ((joinW N dep qs j p).1.flatten ++ (finOf (joinW N dep qs j p).2).map (·.2)).Perm (qs.flatten ++ [p]) := by
  unfold joinW
  split
  · rename_i e
    obtain ⟨a, b⟩ := hd (qs.set j (qs.getD j [] ++ [p])) j (by rw [List.length_set]; exact h) (by rw [List.length_set]; exact hl) (by rw [getD_set' h, if_pos rfl]; omega)
    exact ⟨by rw [a, List.length_set], b.trans (set_perm h)⟩
  · exact ⟨by rw [List.length_set], by simpa [finOf] using set_perm (p := p) h⟩
theorem moveW_pm {N : Net} {dep : Dep α} (hd : DepPm N dep) : ∀ {ms : List (Key × α)} {qs : QsA α}, (∀ m ∈ ms, ∀ j : Int, m.1 = .inl j → j.toNat < qs.length) → qs.length = N.length → (moveW N dep ms qs).1.length = qs.length ∧ ((moveW N dep ms qs).1.flatten ++ (finOf (moveW N dep ms qs).2).map (·.2)).Perm (qs.flatten ++ ms.map (·.2))
  | [], qs, _, _ => ⟨rfl, by simp [moveW, finOf]⟩
  | (.inr z, p) :: r, qs, hm, hl => by
    obtain ⟨a, b⟩ := moveW_pm hd (ms := r) (qs := qs) (fun m h => hm m (List.mem_cons_of_mem _ h)) hl
    refine ⟨a, ?_⟩
    show ((moveW N dep r qs).1.flatten ++ p :: (finOf (moveW N dep r qs).2).map (·.2)).Perm (qs.flatten ++ p :: r.map (·.2))
    exact (List.perm_middle.trans (b.cons p)).trans List.perm_middle.symm
  | (.inl j, p) :: r, qs, hm, hl => by
    obtain ⟨a1, b1⟩ := joinW_pm (N := N) hd (p := p) (hm _ (List.mem_cons_self ..) j rfl) hl
    obtain ⟨a2, b2⟩ := moveW_pm hd (ms := r) (qs := (joinW N dep qs j.toNat p).1) (fun m h j' e => by rw [a1]; exact hm m (List.mem_cons_of_mem _ h) j' e) (a1.trans hl)
    refine ⟨a2.trans a1, ?_⟩
    show ((moveW N dep r (joinW N dep qs j.toNat p).1).1.flatten ++ (finOf ((joinW N dep qs j.toNat p).2 ++ (moveW N dep r (joinW N dep qs j.toNat p).1).2)).map (·.2)).Perm (qs.flatten ++ p :: r.map (·.2))
    rw [finOf_append, List.map_append]
    generalize (moveW N dep r (joinW N dep qs j.toNat p).1).1.flatten = X at b2
    generalize (finOf (moveW N dep r (joinW N dep qs j.toNat p).1).2).map (·.2) = Y at b2
    generalize (joinW N dep qs j.toNat p).1.flatten = Z at b1 b2
    generalize (finOf (joinW N dep qs j.toNat p).2).map (·.2) = U at b1
    have e1 : (X ++ (U ++ Y)).Perm (U ++ (X ++ Y)) := by
      rw [← List.append_assoc, ← List.append_assoc]
      exact List.Perm.append_right _ List.perm_append_comm
    have e2 : (U ++ (X ++ Y)).Perm (U ++ (Z ++ r.map (·.2))) := List.Perm.append_left _ b2
    have e3 : (U ++ (Z ++ r.map (·.2))).Perm ((Z ++ U) ++ r.map (·.2)) := by
      rw [← List.append_assoc]
      exact List.Perm.append_right _ List.perm_append_comm
    have e4 : ((Z ++ U) ++ r.map (·.2)).Perm ((qs.flatten ++ [p]) ++ r.map (·.2)) := List.Perm.append_right _ b1
    have e5 : (qs.flatten ++ [p]) ++ r.map (·.2) = qs.flatten ++ p :: r.map (·.2) := by simp
    rw [← e5]
    exact ((e1.trans e2).trans e3).trans e4
theorem zip_snd : ∀ {a : List Key} {b : List α}, b.length ≤ a.length → (a.zip b).map (·.2) = b
  | _, [], _ => by simp
  | [], _ :: _, h => by simp at h
  | x :: a, y :: b, h => by
    rw [List.zip_cons_cons, List.map_cons, zip_snd (by simpa using h)]
theorem departW_pm {N : Net} (fw : Fw N) : ∀ f, DepPm N (departW (α := α) N f)
  | 0 => fun qs st _ _ _ => ⟨rfl, by simp [departW, finOf]⟩
  | f + 1 => fun qs st hst hl hs => by
    obtain ⟨a, b⟩ := moveW_pm (departW_pm fw f) (ms := (N.getD st []).zip (qs.getD st [])) (qs := qs.set st []) (fun m hm j e => by
      have := fw st (by omega) j (by rw [← e]; exact (List.of_mem_zip hm).1)
      rw [List.length_set]; omega) (by rw [List.length_set]; exact hl)
    refine ⟨by show (moveW N (departW N f) _ _).1.length = _; rw [a, List.length_set], ?_⟩
    show ((moveW (α := α) N (departW N f) ((N.getD st []).zip (qs.getD st [])) (qs.set st [])).1.flatten ++ (finOf (α := α) (moveW N (departW N f) ((N.getD st []).zip (qs.getD st [])) (qs.set st [])).2).map (fun x : Str × α => x.2)).Perm _
    refine b.trans ?_
    rw [zip_snd hs]
    obtain ⟨u, v, h1, h2⟩ := flat_set (y := []) (getD_some hst)
    rw [h1, h2]
    simp only [List.append_nil, List.append_assoc]
    exact List.Perm.append_left _ List.perm_append_comm
end
/-! ### the queues as lists in a list -/
structure QsAt (K : PySem.W.Frag) (H : Hp) (Qa : Addr) (as : List Addr) (qs : Qs) : Prop where
  at_ : H Qa = some (.lst (as.map V.ref))
  len : as.length = qs.length
  nd : as.Nodup
  ne : Qa ∉ as
  q : ∀ (i : Nat) a, as[i]? = some a → H a = some (.lst ((qs.getD i []).map V.int))
def fpD (p : Str × Int) : PyData := .tuple [.str p.1, .int p.2]
theorem fpD_t (p : Str × Int) : TupD (fpD p) := .tup fun d hd => by
  simp only [List.mem_cons, List.not_mem_nil, or_false] at hd
  rcases hd with rfl | rfl
  · exact .str _
  · exact .int _
structure FinAt (K : PySem.W.Frag) (H : Hp) (Fa : Addr) (fs : List (Str × Int)) : Prop where
  ex : ∃ ts, H Fa = some (.lst ts) ∧ DpAll K H ts (fs.map fpD)
section
variable {K : PySem.W.Frag} {H H2 : Hp} {Qa Fa a : Addr} {as : List Addr} {qs : Qs} {fs : List (Str × Int)} {j : Nat} {y : List Int}
theorem QsAt.ex (W : QsAt K H Qa as qs) (e : Ex H H2) : QsAt K H2 Qa as qs := ⟨e _ _ W.at_, W.len, W.nd, W.ne, fun i a h => e _ _ (W.q i a h)⟩
theorem QsAt.but (W : QsAt K H Qa as qs) (e : ∀ x o, x ≠ a → H x = some o → H2 x = some o) (h1 : Qa ≠ a) (h2 : a ∉ as) : QsAt K H2 Qa as qs :=
  ⟨e _ _ h1 W.at_, W.len, W.nd, W.ne, fun i b h => e _ _ (fun z => h2 (by rw [← z]; exact List.mem_of_getElem? h)) (W.q i b h)⟩
theorem QsAt.set (W : QsAt K H Qa as qs) (ha : as[j]? = some a) (e : ∀ x o, x ≠ a → H x = some o → H2 x = some o) (h2 : H2 a = some (.lst (y.map V.int))) : QsAt K H2 Qa as (qs.set j y) := by
  have hj : j < qs.length := by rw [← W.len]; exact (List.getElem?_eq_some_iff.mp ha).1
  refine ⟨e _ _ (fun z => W.ne (by rw [z]; exact List.mem_of_getElem? ha)) W.at_, by rw [List.length_set]; exact W.len, W.nd, W.ne, fun i b h => ?_⟩
  rw [getD_set' hj]
  by_cases z : i = j
  · subst z
    rw [ha] at h
    cases h
    rw [if_pos rfl, h2]
  · rw [if_neg z]
    refine e _ _ (fun z2 => z ?_) (W.q i b h)
    subst z2
    have hi := (List.getElem?_eq_some_iff.mp h).1
    exact (List.getElem?_inj hi W.nd).mp (by rw [h, ha])
theorem FinAt.tx (W : FinAt K H Fa fs) (t : TX H H2) (h : ∀ o, H Fa = some o → H2 Fa = some o) : FinAt K H2 Fa fs := by
  obtain ⟨ts, h1, h2⟩ := W.ex
  exact ⟨⟨ts, h _ h1, DpAll.tx t h2 fun d hd => by
    obtain ⟨p, _, rfl⟩ := List.mem_map.mp hd
    exact fpD_t p⟩⟩
theorem FinAt.e (W : FinAt K H Fa fs) (e : Ex H H2) : FinAt K H2 Fa fs := W.tx (TX.of e) fun o h => e _ _ h
theorem QsAt.get (W : QsAt K H Qa as qs) (hj : j < qs.length) : ∃ a, as[j]? = some a ∧ H a = some (.lst ((qs.getD j []).map V.int)) ∧ a ∈ as := by
  have hj2 : j < as.length := by rw [W.len]; exact hj
  exact ⟨as[j], List.getElem?_eq_getElem hj2, W.q j _ (List.getElem?_eq_getElem hj2), List.getElem_mem hj2⟩
/-- all but the queues and the list of who finished stand -/
def Ex3 (as : List Addr) (Fa : Addr) (H H' : Hp) : Prop := ∀ x o, H x = some o → x ≠ Fa → x ∉ as → H' x = some o
theorem Ex3.tx (e : Ex3 as Fa H H2) (W : QsAt K H Qa as qs) (F : FinAt K H Fa fs) : TX H H2 := fun x o h c => by
  obtain ⟨ts, h1, _⟩ := F.ex
  refine e x o h (fun z => by subst z; rw [h1] at h; cases h; exact c) fun z => ?_
  obtain ⟨i, hi⟩ := List.mem_iff_getElem?.mp z
  rw [W.q i x hi] at h
  cases h
  exact c
end
theorem pm_len {a b c : Qs × Evs} {q : Qs} {x : List Int} (h : (a.1.flatten ++ (finOf a.2).map (·.2)).Perm x) : a.1.flatten.length + (finOf a.2).length = x.length := by
  have := h.length_eq
  rw [List.length_append, List.length_map] at this
  exact this
theorem shInts (ns : List Int) : SeqAt.shaped (.list (ns.map PyData.int)) = true := by
  have h1 : PyData.canLayAll0 (ns.map PyData.int) = true := layAll fun d hd => by
    obtain ⟨i, _, rfl⟩ := List.mem_map.mp hd; rfl
  have h2 : PyData.depthAll (ns.map PyData.int) ≤ 1 := depthAll_le fun d hd => by
    obtain ⟨i, _, rfl⟩ := List.mem_map.mp hd; simp [PyData.depth]
  have h3 : (PyData.list (ns.map PyData.int)).depth ≤ 64 := by rw [PyData.depth]; omega
  unfold SeqAt.shaped
  rw [show (PyData.list (ns.map PyData.int)).canLay0 = true by rw [PyData.canLay0]; exact h1]
  simpa using h3
theorem eqv_empty (ns : List Int) : PyData.eqv (.list (ns.map PyData.int)) (.list []) = decide (ns = []) := by
  cases ns with
  | nil => simp [PyData.eqv, PyData.eqvAll]
  | cons a r => simp [PyData.eqv, PyData.eqvAll]
section
variable {K : PySem.W.Frag} {H H2 : Hp} {Qa Fa a h b : Addr} {as : List Addr} {qs : Qs} {fs : List (Str × Int)} {Q : VK} {q : List Int}
theorem QsAt.ex2 (W : QsAt K H Qa as qs) (e : Ex2 h b H H2) (h1 : Qa ≠ h ∧ Qa ≠ b) (h2 : ∀ a ∈ as, a ≠ h ∧ a ≠ b) : QsAt K H2 Qa as qs :=
  ⟨e _ _ W.at_ h1.1 h1.2, W.len, W.nd, W.ne, fun i a ha => have z := h2 a (List.mem_of_getElem? ha); e _ _ (W.q i a ha) z.1 z.2⟩
/-- x != [], a list of ints -/
theorem x_neEmpty (h1 : H a = some (.lst (q.map V.int))) (k : ∀ H', Ex H H' → Q (.bl (!decide (q = []))) H') : rLst [] H (fun y H1 => rNeU K (.ref a) y H1 Q) :=
  x_lst (by simp) fun p H1 np e hp => x_neD (.lst (SqL.of (e _ _ h1)) (ints_dp q)) (.lst (SqL.of hp) .nil) (shInts q) rfl (by rw [eqv_empty]; exact k H1 e)
end
end FB
set_option Elab.async false
set_option linter.all false
set_option maxRecDepth 100000
set_option maxHeartbeats 4000000
namespace K
open PySem PySem.Spec PyProof.Rows L2 Evl FB
local macro_rules | `(tactic| walk_at "run") => `(tactic| try simp only [tSeq, tAsg, tVar, tC, gName, L2.start, List.map_cons, List.map_nil, List.cons_append, List.nil_append, List.length_cons, List.length_nil, List.replicate, List.getElem?_cons_zero, List.getElem?_cons_succ, Option.some.injEq, exists_eq_left', List.set_cons_zero, List.set_cons_succ, V.ref.injEq, tRet, x_tLst, x_tTup, tCons, tCB, tNil, tOp, x_addI, x_mulI, x_rI, x_rI0, x_ltI, x_leI, x_ltS, x_leS, x_eqI, x_neI, x_eqS, x_eqB, x_neB, x_isiI, x_isiS, x_int, x_max, x_min, cxOf, tIfS, tNext, tTest, V.bl.injEq, decide_eq_true_eq, gSub, tAnd, tOr, tNot, tB, tDrop, tBM, x_tFor, iRng1, iList, iTup, x_tLc, tYes, tCall, tIf, tAndV, tOrV, tNotV, tChain, List.append_nil, tUn, if_true, wipe, true_and, x_never, iU, x_itS, kV, Nat.reduceAdd, Nat.reduceSub, List.replicate_zero, x_rU, x_tMkO, iEnumT, x_tDc, x_tDGet, x_tDGet2, x_sDPut, x_tDSetd, x_tDNewK, x_iItems, x_iZip, x_tSAddK, x_tLockV, x_tTupRg, x_tRg2, tPar, tPar3, tBM0])
/-- a network on which boats depart: stations of one to eight seats, seats lead on -/
structure JN (N : Net) : Prop where
  le : N.length ≤ 40
  st : ∀ k, k < N.length → 1 ≤ (N.getD k []).length ∧ (N.getD k []).length ≤ 8
  fw : Fw N
section
variable {P : Program} {w : World} {K : PySem.W.Frag} {mg : Str → Option Value} {base : Heap}
theorem FnOk.absurd {CX : CXT} {k : Nat} {f : Addr} {fd : FuncData} {ps : List Str} {sp : Sp} (h : ∀ vs H Q E, sp vs H Q E → False) : FnOk P w K mg base CX k f fd ps sp :=
  ⟨fun _ _ _ _ x => (h _ _ _ _ x).elim, fun _ _ _ _ _ _ _ _ _ _ _ _ _ x => (h _ _ _ _ x).elim⟩
abbrev s_l_join : Stmt := top 42
theorem sc_l_join : FnScope ["_law_network_here", "_law_queues", "_law_station", "_law_passenger", "_law_finished"] ["_law_network_here", "_law_queues", "_law_station", "_law_passenger", "_law_finished"] (defScope s_l_join) := ⟨rfl, rfl, rfl, by decide +kernel, rfl, by decide +kernel, by decide +kernel⟩
abbrev s_l_depart : Stmt := top 43
theorem sc_l_depart : FnScope ["_law_network_here", "_law_queues", "_law_station", "_law_finished", "_law_passengers", "_law_seat", "_law_place_here"] ["_law_network_here", "_law_queues", "_law_station", "_law_finished"] (defScope s_l_depart) := ⟨rfl, rfl, rfl, by decide +kernel, rfl, by decide +kernel, by decide +kernel⟩
def spJoinL (K : PySem.W.Frag) (f : Nat) : Sp := fun vs H Q _ => ∃ (v : V) (N : Net) (Qa Fa : Addr) (as : List Addr) (qs : Qs) (fs : List (Str × Int)) (j : Nat) (p : Int), vs = [v, .ref Qa, .int (j : Int), .int p, .ref Fa] ∧ NetAt K H v N ∧ JN N ∧ QsAt K H Qa as qs ∧ FinAt K H Fa fs ∧ Fa ≠ Qa ∧ Fa ∉ as ∧
  Short N qs ∧ j < N.length ∧ N.length ≤ j + f ∧ fs.length + qs.flatten.length + 1 ≤ 100000 ∧
  ∀ H', Ex3 as Fa H H' → QsAt K H' Qa as (joinW N (departW N f) qs j p).1 → FinAt K H' Fa (fs ++ finOf (joinW N (departW N f) qs j p).2) → Q .non H'
def spDepartL (K : PySem.W.Frag) (f : Nat) : Sp := fun vs H Q _ => ∃ (v : V) (N : Net) (Qa Fa : Addr) (as : List Addr) (qs : Qs) (fs : List (Str × Int)) (st : Nat), vs = [v, .ref Qa, .int (st : Int), .ref Fa] ∧ NetAt K H v N ∧ JN N ∧ QsAt K H Qa as qs ∧ FinAt K H Fa fs ∧ Fa ≠ Qa ∧ Fa ∉ as ∧
  qs.length = N.length ∧ (∀ k, k < N.length → k ≠ st → (qs.getD k []).length < (N.getD k []).length) ∧ (qs.getD st []).length ≤ (N.getD st []).length ∧ st < N.length ∧ N.length ≤ st + f ∧ fs.length + qs.flatten.length ≤ 100000 ∧
  ∀ H', Ex3 as Fa H H' → QsAt K H' Qa as (departW N f qs st).1 → FinAt K H' Fa (fs ++ finOf (departW N f qs st).2) → Q .non H'
theorem ok_l_join {f g : Addr} {fd gd : FuncData} {l n : Nat} (D : Df K mg "_law_join" s_l_join ["_law_network_here", "_law_queues", "_law_station", "_law_passenger", "_law_finished"] f fd) (T : Bt mg) (D_l_depart : Df K mg "_law_depart" s_l_depart ["_law_network_here", "_law_queues", "_law_station", "_law_finished"] g gd)
    (G_l_depart : FnOk P w K mg base CX0 l g gd ["_law_network_here", "_law_queues", "_law_station", "_law_finished"] (spDepartL K n)) : FnOk P w K mg base CX0 (l + 1) f fd ["_law_network_here", "_law_queues", "_law_station", "_law_passenger", "_law_finished"] (spJoinL K n) := by
  refine D.F.ok sc_l_join (fun vs H Q E h => ?_) (fun cdv A outer s H vs Q E hr h => ?_)
  · obtain ⟨v, N, Qa, Fa, as, qs, fs, j, p, rfl, _⟩ := h
    rfl
  · obtain ⟨v, N, Qa, Fa, as, qs, fs, j, p, rfl, hN, hJ, hQ, hF, n1, n2, S, hj, hf, hb, q⟩ := h
    have hu := hr.units
    refine ⟨_, (pss_cons (ps_expr (pe_bm PySem.F.plainAttrs_list PySem.F.slot_list_append PySem.F.type_list_append mt_append (pe_ix (ix_U (K := K)) (pv 1) (pv 2) (fun _ _ => rfl)) (pa_cons (pv 3) pa_nil)))
      (pss_one (ps_if (pt_cmpR (op_eqU (K := K) hu) (pe_callB (call_lenU (K := K)) (by rfl) T.b_len (by decide +kernel) (pa_cons (pe_ix (ix_U (K := K)) (pv 1) (pv 2) (fun _ _ => rfl)) pa_nil)) (pe_callB (call_lenU (K := K)) (by rfl) T.b_len (by decide +kernel) (pa_cons (pe_ix (ix_U (K := K)) (pv 0) (pv 2) (fun _ _ => rfl)) pa_nil)) (nomark _)) (pss_one (ps_expr (pe_call (G_l_depart) hr rfl D_l_depart.g D_l_depart.F.kp D_l_depart.b .nil pass0 (pa_cons (pv 0) (pa_cons (pv 1) (pa_cons (pv 2) (pa_cons (pv 4) pa_nil))))))) pss_nil))), ?_⟩
    walk_at "run"
    have hjq : j < qs.length := by rw [S.len]; exact hj
    obtain ⟨a, ha, hHa, ham⟩ := hQ.get hjq
    obtain ⟨vn, us, rfl, hU, hus⟩ := hN.at
    obtain ⟨h1s, h8s⟩ := hJ.st j hj
    have hlt := S.lt j hj
    have haj : (as.map V.ref)[j]? = some (.ref a) := by simp [ha]
    refine x_ixL (SqL.of hQ.at_) (atI_nat haj) ?_
    refine ⟨x_tyL (SqL.of hHa), x_append hHa (by rw [List.length_map]; omega) fun H1 e1 h1 => ?_⟩
    have hQ1 : QsAt K H1 Qa as (qs.set j (qs.getD j [] ++ [p])) := hQ.set ha e1 (by rw [h1, List.map_append]; rfl)
    have t1 : TX H H1 := TX.but hHa e1
    have hFa : a ≠ Fa := fun z => n2 (by rw [← z]; exact ham)
    have hF1 : FinAt K H1 Fa fs := hF.tx t1 fun o h => e1 _ _ hFa.symm h
    have ex1 : Ex3 as Fa H H1 := fun x o h h1 h2 => e1 x o (fun z => h2 (by rw [z]; exact ham)) h
    refine x_ixL (SqL.of hQ1.at_) (atI_nat haj) (x_lenL (SqL.of h1) ?_)
    obtain ⟨sv, hsv, hsd⟩ := hus.get (show (N.map stD)[j]? = some (stD (N.getD j [])) by simp [List.getD_eq_getElem?_getD, hj])
    obtain ⟨b, rfl, hbs⟩ := StAt.at hsd
    refine x_ixT (t1.t hU) (atI_nat hsv) (x_lenT (t1.t hbs) ?_)
    rw [List.length_map, List.length_append, List.length_map, show [V.int p].length = 1 from rfl]
    walk_at "run"
    have hlen : (qs.getD j [] ++ [p]).length = (qs.getD j []).length + 1 := by simp
    by_cases e : (qs.getD j [] ++ [p]).length = (N.getD j []).length
    · rw [if_pos (by omega)]
      have hjw : joinW N (departW N n) qs j p = departW N n (qs.set j (qs.getD j [] ++ [p])) j := by unfold joinW; rw [if_pos e]
      rw [hjw] at q
      have hfl := (set_perm (p := p) hjq).length_eq
      rw [List.length_append, show [p].length = 1 from rfl] at hfl
      refine ⟨_, N, Qa, Fa, as, _, fs, j, rfl, hN.tx t1, hJ, hQ1, hF1, n1, n2, by rw [List.length_set]; exact S.len, fun k hk hne => by rw [getD_set' hjq, if_neg hne]; exact S.lt k hk, by rw [getD_set' hjq, if_pos rfl]; omega, hj, hf, by omega, fun H2 ex2 hQ2 hF2 => ?_⟩
      exact q H2 (fun x o h h1 h2 => ex2 x o (ex1 x o h h1 h2) h1 h2) hQ2 hF2
    · rw [if_neg (by omega)]
      have hjw : joinW N (departW N n) qs j p = (qs.set j (qs.getD j [] ++ [p]), []) := by unfold joinW; rw [if_neg e]
      rw [hjw] at q
      exact q H1 ex1 hQ1 (by simpa [finOf] using hF1)
theorem ok_l_depart {f g : Addr} {fd gd : FuncData} {l n : Nat} (D : Df K mg "_law_depart" s_l_depart ["_law_network_here", "_law_queues", "_law_station", "_law_finished"] f fd) (T : Bt mg) (D_l_join : Df K mg "_law_join" s_l_join ["_law_network_here", "_law_queues", "_law_station", "_law_passenger", "_law_finished"] g gd)
    (G_l_join : FnOk P w K mg base CX0 l g gd ["_law_network_here", "_law_queues", "_law_station", "_law_passenger", "_law_finished"] (spJoinL K n)) : FnOk P w K mg base CX0 (l + 1) f fd ["_law_network_here", "_law_queues", "_law_station", "_law_finished"] (spDepartL K (n + 1)) := by
  refine D.F.ok sc_l_depart (fun vs H Q E h => ?_) (fun cdv A outer s H vs Q E hr h => ?_)
  · obtain ⟨v, N, Qa, Fa, as, qs, fs, st, rfl, _⟩ := h
    rfl
  · obtain ⟨v, N, Qa, Fa, as, qs, fs, st, rfl, hN, hJ, hQ, hF, n1, n2, hl, hsh, hle, hst, hf, hb, q⟩ := h
    refine ⟨_, (pss_cons (ps_set (i := 4) sc_l_depart.nd rfl (Or.inl rfl) (pe_callTy (call_listU (K := K)) (by rfl) T.b_list (by decide +kernel) (pa_cons (pe_ix (ix_U (K := K)) (pv 1) (pv 2) (fun _ _ => rfl)) pa_nil)))
      (pss_cons (ps_expr (pe_bm0 PySem.F.plainAttrs_list PySem.F.slot_list_clear PySem.F.type_list_clear mt_clear (pe_ix (ix_U (K := K)) (pv 1) (pv 2) (fun _ _ => rfl))))
      (pss_one (ps_for PassesOwn.never rfl (pi_range1 (by rfl) T.b_range (pa_cons (pe_callB (call_lenU (K := K)) (by rfl) T.b_len (by decide +kernel) (pa_cons (pv 4) pa_nil)) pa_nil)) (pg_name (i := 5) sc_l_depart.nd rfl (Or.inl rfl)) (pss_cons (ps_set (i := 6) sc_l_depart.nd rfl (Or.inl rfl) (pe_ix (ix_U (K := K)) (pe_ix (ix_U (K := K)) (pv 0) (pv 2) (fun _ _ => rfl)) (pv 5) (fun _ _ => rfl)))
      (pss_one (ps_if (pt_val (pe_callB (call_isiU (K := K)) (by rfl) T.b_isinstance (by decide +kernel) (pa_cons (pv 6) (pa_cons (pe_bltn (v := .ty "str") (by rfl) T.b_str (by decide +kernel) rfl) pa_nil)))) (pss_one (ps_expr (pe_bm PySem.F.plainAttrs_list PySem.F.slot_list_append PySem.F.type_list_append mt_append (pv 3) (pa_cons (pe_tup (pa_cons (pv 6) (pa_cons (pe_ix (ix_U (K := K)) (pv 4) (pv 5) (fun _ _ => rfl)) pa_nil))) pa_nil)))) (pss_one (ps_expr (pe_call (G_l_join) hr rfl D_l_join.g D_l_join.F.kp D_l_join.b .nil pass0 (pa_cons (pv 0) (pa_cons (pv 1) (pa_cons (pv 6) (pa_cons (pe_ix (ix_U (K := K)) (pv 4) (pv 5) (fun _ _ => rfl)) (pa_cons (pv 3) pa_nil))))))))))))))), ?_⟩
    walk_at "run"
    have hsq : st < qs.length := by omega
    obtain ⟨a, ha, hHa, ham⟩ := hQ.get hsq
    obtain ⟨vn, us, rfl, hU, hus⟩ := hN.at
    obtain ⟨h1s, h8s⟩ := hJ.st st hst
    have haj : (as.map V.ref)[st]? = some (.ref a) := by simp [ha]
    have hFa : a ≠ Fa := fun z => n2 (by rw [← z]; exact ham)
    refine x_ixL (SqL.of hQ.at_) (atI_nat haj) (x_listL (SqL.of hHa) fun pl H1 npl e1 h1 => ?_)
    walk_at "run"
    refine x_ixL (SqL.of (e1 _ _ hQ.at_)) (atI_nat haj) ⟨x_tyL (SqL.of (e1 _ _ hHa)), a, _, rfl, rfl, e1 _ _ hHa, ?_⟩
    generalize hH2 : upd H1 a (.lst []) = H2
    have e2 : ∀ x o, x ≠ a → H1 x = some o → H2 x = some o := fun x o hx h => by rw [← hH2, upd_ne hx]; exact h
    have h2 : H2 a = some (.lst []) := by rw [← hH2, upd_same]
    have hpa : pl ≠ a := (ne_of_none hHa npl).symm
    have t2 : TX H H2 := (TX.of e1).trans (TX.but (e1 _ _ hHa) e2)
    have hQ2 : QsAt K H2 Qa as (qs.set st []) := (hQ.ex e1).set ha e2 h2
    have hF2 : FinAt K H2 Fa fs := (hF.e e1).tx (TX.but (e1 _ _ hHa) e2) fun o h => e2 _ _ hFa.symm h
    have hpl2 := e2 _ _ hpa h1
    have hplF : pl ≠ Fa := fun z => by
      obtain ⟨ts, h, _⟩ := hF.ex
      rw [z] at npl
      rw [npl] at h; cases h
    have hpls : pl ∉ as := fun z => by
      obtain ⟨i, hi⟩ := List.mem_iff_getElem?.mp z
      have := hQ.q i pl hi
      rw [npl] at this; cases this
    have ex2 : Ex3 as Fa H H2 := fun x o h h1 h2 => e2 x o (fun z => h2 (by rw [z]; exact ham)) (e1 _ _ h)
    refine x_lenL (SqL.of hpl2) ⟨_, rfl, by rw [List.length_map]; omega, by rw [List.length_map]; omega, ?_⟩
    have hnn : ((((qs.getD st []).map V.int).length : Nat) : Int).toNat = (qs.getD st []).length := by rw [List.length_map]; omega
    rw [hnn]
    have h1k : ∀ k, k < N.length → 1 ≤ (N.getD k []).length := fun k hk => (hJ.st k hk).1
    have S0 : Short N (qs.set st []) := ⟨by rw [List.length_set]; exact hl, fun k hk => by
      rw [getD_set' hsq]
      split
      · rename_i e; subst e; exact h1s
      · rename_i e; exact hsh k hk e⟩
    have hdep := departW_ok (α := Int) h1k hJ.fw n
    have hpm := departW_pm (α := Int) hJ.fw n
    have hzl : ((N.getD st []).zip (qs.getD st [])).length = (qs.getD st []).length := by rw [List.length_zip]; omega
    have hmem : ∀ i, ∀ m ∈ ((N.getD st []).zip (qs.getD st [])).take i, ∀ j : Int, m.1 = .inl j → (st : Int) < j ∧ j < N.length := fun i m hm j e =>
      hJ.fw st hst j (by rw [← e]; exact (List.of_mem_zip (List.mem_of_mem_take hm)).1)
    have hfl0 : (qs.set st []).flatten.length + (qs.getD st []).length = qs.flatten.length := by
      obtain ⟨u, w, h1, h2⟩ := flat_set (y := []) (getD_some hsq)
      rw [h1, h2]
      simp only [List.append_nil, List.length_append]
      omega
    refine loop_it walk_range (fun i σ H' => ∃ u5 u6, σ = [some (.ref vn), some (.ref Qa), some (.int (st : Int)), some (.ref Fa), some (.ref pl), u5, u6] ∧ Ex3 as Fa H H' ∧ TX H H' ∧ H' pl = some (.lst ((qs.getD st []).map V.int)) ∧
      QsAt K H' Qa as (moveW N (departW N n) (((N.getD st []).zip (qs.getD st [])).take i) (qs.set st [])).1 ∧ FinAt K H' Fa (fs ++ finOf (moveW N (departW N n) (((N.getD st []).zip (qs.getD st [])).take i) (qs.set st [])).2)) ⟨_, _, rfl, ex2, t2, hpl2, hQ2, by simpa [moveW, finOf] using hF2⟩ (fun _ _ _ _ _ => trivial) ?_ ?_
    · rintro i x σ H3 H3' hi ⟨u5, u6, rfl, ex3, t3, hpl3, hQ3, hF3⟩ ⟨eH, rfl⟩
      subst eH
      have hz : (0 : Int) + i = (i : Int) := by omega
      obtain ⟨S3, K3⟩ := moveW_ok h1k hdep (st := st) (by omega) (ms := ((N.getD st []).zip (qs.getD st [])).take i) (hmem i) S0
      obtain ⟨L3, P3⟩ := moveW_pm hpm (ms := ((N.getD st []).zip (qs.getD st [])).take i) (qs := qs.set st []) (fun m hm j e => by
        have := hmem i m hm j e
        rw [List.length_set]; omega) (by rw [List.length_set]; exact hl)
      have hlen3 := P3.length_eq
      rw [List.length_append, List.length_append, List.length_map, List.length_map, List.length_take, hzl] at hlen3
      obtain ⟨k, hk⟩ : ∃ k, (N.getD st [])[i]? = some k := ⟨(N.getD st [])[i]'(by omega), List.getElem?_eq_getElem (by omega)⟩
      obtain ⟨p, hp⟩ : ∃ p, (qs.getD st [])[i]? = some p := ⟨(qs.getD st [])[i]'(by omega), List.getElem?_eq_getElem (by omega)⟩
      have hzi : ((N.getD st []).zip (qs.getD st []))[i]? = some (k, p) := by
        rw [List.getElem?_zip_eq_some]
        exact ⟨hk, hp⟩
      have htk : ((N.getD st []).zip (qs.getD st [])).take (i + 1) = ((N.getD st []).zip (qs.getD st [])).take i ++ [(k, p)] := by rw [List.take_add_one, hzi]; rfl
      rw [htk, moveW_snoc]
      generalize hR : moveW N (departW N n) (((N.getD st []).zip (qs.getD st [])).take i) (qs.set st []) = R at hQ3 hF3 S3 K3 L3 hlen3
      walk_at "run"
      rw [hz]
      have hpi : ((qs.getD st []).map V.int)[i]? = some (.int p) := by simp only [List.getElem?_map, hp]; rfl
      obtain ⟨sv, hsv, hsd⟩ := hus.get (show (N.map stD)[st]? = some (stD (N.getD st [])) by simp [List.getD_eq_getElem?_getD, hst])
      obtain ⟨b, rfl, hbs⟩ := StAt.at hsd
      have hki : ((N.getD st []).map kV)[i]? = some (kV k) := by simp only [List.getElem?_map, hk]; rfl
      refine x_ixT (t3.t hU) (atI_nat hsv) (x_ixT (t3.t hbs) (atI_nat hki) ?_)
      cases k with
      | inl j =>
        have hj := hJ.fw st hst j (List.mem_of_getElem? hk)
        obtain ⟨j', rfl⟩ : ∃ j' : Nat, j = (j' : Int) := ⟨j.toNat, by omega⟩
        walk_at "run"
        rw [if_neg Bool.false_ne_true]
        refine x_ixL (SqL.of hpl3) (atI_nat hpi) ?_
        have hjo := move_one_l (N := N) (dep := departW N n) (j := (j' : Int)) (p := p) (qs := R.1)
        rw [Int.toNat_natCast] at hjo
        rw [hjo]
        refine ⟨_, N, Qa, Fa, as, R.1, _, j', p, rfl, hN.tx t3, hJ, hQ3, hF3, n1, n2, S3, by omega, by omega, ?_, fun H4 ex4 hQ4 hF4 => ?_⟩
        · rw [List.length_append]; omega
        · refine ⟨_, _, rfl, fun x o h h1 h2 => ex4 x o (ex3 x o h h1 h2) h1 h2, t3.trans (ex4.tx hQ3 hF3), ex4 _ _ hpl3 hplF hpls, hQ4, ?_⟩
          rw [finOf_append, ← List.append_assoc]
          exact hF4
      | inr z =>
        walk_at "run"
        obtain ⟨ts, hF4, hts⟩ := hF3.ex
        refine ⟨x_tyL (SqL.of hF4), x_ixL (SqL.of hpl3) (atI_nat hpi) ?_⟩
        refine x_tup (by simp) fun tp H4 ntp e4 h4 => ?_
        have htl := hts.len
        rw [List.length_map, List.length_append] at htl
        refine x_append (e4 _ _ hF4) (by rw [htl]; omega) fun H5 e5 h5 => ?_
        have hFt : Fa ≠ tp := ne_of_none hF4 ntp
        have t5 : TX H3' H5 := (TX.of e4).trans (TX.but (e4 _ _ hF4) e5)
        rw [move_one_r]
        refine ⟨_, _, rfl, fun x o h h1 h2 => e5 _ _ h1 (e4 _ _ (ex3 x o h h1 h2)), t3.trans t5, e5 _ _ hplF (e4 _ _ hpl3), (hQ3.ex e4).but e5 n1.symm n2, ⟨_, h5, ?_⟩⟩
        rw [finOf_append, ← List.append_assoc, List.map_append]
        refine DpAll.append (DpAll.tx t5 hts fun d hd => ?_) (.cons (.tup (SqT.of (e5 _ _ hFt.symm h4)) (.cons (.str z) (.cons (.int p) .nil))) .nil)
        obtain ⟨y, _, rfl⟩ := List.mem_map.mp hd
        exact fpD_t y
    · rintro σ H3 ⟨u5, u6, rfl, ex3, t3, hpl3, hQ3, hF3⟩
      have ht : ((N.getD st []).zip (qs.getD st [])).take (qs.getD st []).length = (N.getD st []).zip (qs.getD st []) := List.take_of_length_le (by omega)
      rw [ht] at hQ3 hF3
      exact q H3 ex3 hQ3 hF3
end
end K
set_option Elab.async false
set_option linter.all false
set_option maxRecDepth 100000
set_option maxHeartbeats 4000000
/-! Queues as tuples in a list, and the list of what happens. -/
namespace FB
open PySem PySem.Spec PyProof.Rows L2 Evl
section
variable {K : PySem.W.Frag} {H H' H2 : Hp} {a b Qa Ea x : Addr} {xs ys : List V}
theorem walk_zipM : Walk (RZ.ItzT K a b) (min xs.length ys.length) (fun H => SqT K H a xs ∧ SqT K H b ys) (YPair (fun i => xs[i]?) (fun i => ys[i]?)) := by
  refine ⟨fun i _ hi q => ?_, fun _ q => ⟨xs, ys, q.1, q.2, by omega⟩, fun i H v H' _ q y => ?_⟩
  · have h1 : i < xs.length := by omega
    have h2 : i < ys.length := by omega
    exact ⟨xs, ys, xs[i], ys[i], q.1, q.2, by simp [h1], by simp [h2]⟩
  · obtain ⟨T, x, z, h1, h2, h3, h4, h5⟩ := y
    exact ⟨T, x, z, h1, h2, h3, h4 xs q.1, h5 ys q.2⟩
theorem DpAll.set : ∀ {vs : List V} {ds : List PyData} {i : Nat} {v : V} {d : PyData}, DpAll K H vs ds → Dp K H v d → DpAll K H (vs.set i v) (ds.set i d)
  | _, _, _, _, _, .nil, _ => .nil
  | _, _, 0, _, _, .cons _ hs, h => .cons h hs
  | _, _, _ + 1, _, _, .cons h0 hs, h => .cons h0 (DpAll.set hs h)
section
variable {α : Type} [Inhabited α]
/-- what each passenger is, as data -/
structure PD (pd : α → PyData) : Prop where
  t : ∀ a, TupD (pd a)
def qA (pd : α → PyData) (q : List α) : PyData := .tuple (q.map pd)
def evA (pd : α → PyData) (e : Key × List α) : PyData := .tuple [keyD e.1, qA pd e.2]
variable {pd : α → PyData} {qs : QsA α} {es : EvsA α}
theorem qA_t (h : PD pd) (q : List α) : TupD (qA pd q) := .tup fun d hd => by
  obtain ⟨k, _, rfl⟩ := List.mem_map.mp hd
  exact h.t k
theorem evA_t (h : PD pd) (e : Key × List α) : TupD (evA pd e) := .tup fun d hd => by
  simp only [List.mem_cons, List.not_mem_nil, or_false] at hd
  rcases hd with rfl | rfl
  · exact keyD_t _
  · exact qA_t h _
/-- data in a list -/
structure LsAt (K : PySem.W.Frag) (H : Hp) (a : Addr) (ds : List PyData) : Prop where
  ex : ∃ ts, H a = some (.lst ts) ∧ DpAll K H ts ds
theorem LsAt.tx {ds : List PyData} (W : LsAt K H a ds) (td : ∀ d ∈ ds, TupD d) (t : TX H H2) (h : ∀ o, H a = some o → H2 a = some o) : LsAt K H2 a ds := by
  obtain ⟨ts, h1, h2⟩ := W.ex
  exact ⟨⟨ts, h _ h1, DpAll.tx t h2 td⟩⟩
theorem LsAt.ex2 {ds : List PyData} (W : LsAt K H a ds) (e : Ex H H2) : LsAt K H2 a ds := by
  obtain ⟨ts, h1, h2⟩ := W.ex
  exact ⟨⟨ts, e _ _ h1, DpAll.ex e h2⟩⟩
abbrev QtAt (K : PySem.W.Frag) (H : Hp) (Qa : Addr) (pd : α → PyData) (qs : QsA α) : Prop := LsAt K H Qa (qs.map (qA pd))
abbrev EvAt (K : PySem.W.Frag) (H : Hp) (Ea : Addr) (pd : α → PyData) (es : EvsA α) : Prop := LsAt K H Ea (es.map (evA pd))
theorem qs_t (h : PD pd) : ∀ d ∈ qs.map (qA pd), TupD d := fun d hd => by
  obtain ⟨q, _, rfl⟩ := List.mem_map.mp hd
  exact qA_t h q
theorem es_t (h : PD pd) : ∀ d ∈ es.map (evA pd), TupD d := fun d hd => by
  obtain ⟨q, _, rfl⟩ := List.mem_map.mp hd
  exact evA_t h q
theorem QtAt.get (W : QtAt K H Qa pd qs) {j : Nat} (hj : j < qs.length) : ∃ ts b vs, H Qa = some (.lst ts) ∧ DpAll K H ts (qs.map (qA pd)) ∧ ts[j]? = some (.ref b) ∧ SqT K H b vs ∧ DpAll K H vs ((qs.getD j []).map pd) := by
  obtain ⟨ts, h1, h2⟩ := W.ex
  obtain ⟨v, hv, hd⟩ := h2.get (show (qs.map (qA pd))[j]? = some (qA pd (qs.getD j [])) by simp [List.getD_eq_getElem?_getD, hj])
  obtain ⟨b, vs, rfl, h3, h4⟩ := Dp.tup_inv hd
  exact ⟨ts, b, vs, h1, h2, hv, h3, h4⟩
/-! ### how much happens -/
/-- everybody's way still to go, twice -/
def wayW (n : Nat) : Nat → QsA α → Nat
  | _, [] => 0
  | k, q :: r => q.length * (2 * (n - k)) + wayW n (k + 1) r
theorem wayW_set {n : Nat} : ∀ {qs : QsA α} {k j : Nat} {q : List α}, j < qs.length → wayW n k (qs.set j q) + (qs.getD j []).length * (2 * (n - (k + j))) = wayW n k qs + q.length * (2 * (n - (k + j)))
  | [], _, _, _, h => by simp at h
  | q0 :: r, k, 0, q, _ => by
    show q.length * (2 * (n - k)) + wayW n (k + 1) r + q0.length * (2 * (n - (k + 0))) = q0.length * (2 * (n - k)) + wayW n (k + 1) r + q.length * (2 * (n - (k + 0)))
    simp only [Nat.add_zero]; omega
  | q0 :: r, k, j + 1, q, h => by
    have ih := wayW_set (n := n) (qs := r) (k := k + 1) (j := j) (q := q) (by simpa using h)
    show q0.length * (2 * (n - k)) + wayW n (k + 1) (r.set j q) + (r.getD j []).length * (2 * (n - (k + (j + 1)))) = q0.length * (2 * (n - k)) + wayW n (k + 1) r + q.length * (2 * (n - (k + (j + 1))))
    have e : k + (j + 1) = k + 1 + j := by omega
    rw [e]; omega
theorem wayW_le {n : Nat} : ∀ {qs : QsA α} {k : Nat}, wayW n k qs ≤ qs.flatten.length * (2 * n)
  | [], _ => by simp [wayW]
  | q :: r, k => by
    show q.length * (2 * (n - k)) + wayW n (k + 1) r ≤ _
    have h1 := wayW_le (n := n) (qs := r) (k := k + 1)
    have h2 : q.length * (2 * (n - k)) ≤ q.length * (2 * n) := Nat.mul_le_mul_left _ (by omega)
    rw [List.flatten_cons, List.length_append, Nat.add_mul]
    omega
/-- what a departure costs at most -/
def DepW (N : Net) (f : Nat) (dep : Dep α) : Prop := ∀ qs st, qs.length = N.length → st < N.length → N.length ≤ st + f → 1 ≤ (qs.getD st []).length → wayW N.length 0 (dep qs st).1 + (dep qs st).2.length ≤ wayW N.length 0 qs ∧ (dep qs st).1.length = qs.length
theorem joinW_way {N : Net} {f : Nat} {dep : Dep α} (hd : DepW N f dep) {qs : QsA α} {j : Nat} {p : α} (hl : qs.length = N.length) (hj : j < N.length) (hf : N.length ≤ j + f) : wayW N.length 0 (joinW N dep qs j p).1 + (joinW N dep qs j p).2.length ≤ wayW N.length 0 qs + 2 * (N.length - j) ∧ (joinW N dep qs j p).1.length = qs.length := by
  have h0 := wayW_set (n := N.length) (qs := qs) (k := 0) (j := j) (q := qs.getD j [] ++ [p]) (by omega)
  rw [List.length_append, show [p].length = 1 from rfl, Nat.add_mul, Nat.zero_add, Nat.one_mul] at h0
  unfold joinW
  split
  · obtain ⟨a, b⟩ := hd (qs.set j (qs.getD j [] ++ [p])) j (by rw [List.length_set]; exact hl) hj hf (by rw [getD_set' (by omega), if_pos rfl]; simp)
    refine ⟨?_, by rw [b, List.length_set]⟩
    omega
  · refine ⟨?_, by rw [List.length_set]⟩
    show wayW N.length 0 (qs.set j (qs.getD j [] ++ [p])) + 0 ≤ _
    omega
theorem moveW_way {N : Net} {f : Nat} {dep : Dep α} (hd : DepW N f dep) {st : Nat} (hf : N.length ≤ st + 1 + f) (hst : st < N.length) : ∀ {ms : List (Key × α)} {qs : QsA α}, (∀ m ∈ ms, ∀ j : Int, m.1 = .inl j → (st : Int) < j ∧ j < N.length) → qs.length = N.length →
    wayW N.length 0 (moveW N dep ms qs).1 + (moveW N dep ms qs).2.length + ms.length ≤ wayW N.length 0 qs + ms.length * (2 * (N.length - st)) ∧ (moveW N dep ms qs).1.length = qs.length
  | [], qs, _, _ => by simp [moveW]
  | (.inr z, p) :: r, qs, hm, hl => by
    obtain ⟨a, b⟩ := moveW_way hd hf hst (ms := r) (qs := qs) (fun m h => hm m (List.mem_cons_of_mem _ h)) hl
    refine ⟨?_, b⟩
    show wayW N.length 0 (moveW N dep r qs).1 + ((moveW N dep r qs).2.length + 1) + (r.length + 1) ≤ wayW N.length 0 qs + (r.length + 1) * (2 * (N.length - st))
    rw [Nat.add_mul, Nat.one_mul]
    omega
  | (.inl j, p) :: r, qs, hm, hl => by
    obtain ⟨j1, j2⟩ := hm _ (List.mem_cons_self ..) j rfl
    obtain ⟨a1, b1⟩ := joinW_way (N := N) hd (p := p) (j := j.toNat) hl (by omega) (by omega)
    obtain ⟨a2, b2⟩ := moveW_way hd hf hst (ms := r) (qs := (joinW N dep qs j.toNat p).1) (fun m h => hm m (List.mem_cons_of_mem _ h)) (b1.trans hl)
    refine ⟨?_, b2.trans b1⟩
    show wayW N.length 0 (moveW N dep r (joinW N dep qs j.toNat p).1).1 + ((joinW N dep qs j.toNat p).2 ++ (moveW N dep r (joinW N dep qs j.toNat p).1).2).length + (r.length + 1) ≤ wayW N.length 0 qs + (r.length + 1) * (2 * (N.length - st))
    rw [List.length_append, Nat.add_mul, Nat.one_mul]
    omega
theorem departW_way {N : Net} (fw : Fw N) : ∀ f, DepW N f (departW (α := α) N f)
  | 0 => fun qs st hl hst hf _ => absurd hf (by omega)
  | f + 1 => fun qs st hl hst hf h1 => by
    obtain ⟨a, b⟩ := moveW_way (departW_way fw f) (st := st) (by omega) hst (ms := (N.getD st []).zip (qs.getD st [])) (qs := qs.set st []) (fun m hm j e => by
      exact fw st hst j (by rw [← e]; exact (List.of_mem_zip hm).1)) (by rw [List.length_set]; exact hl)
    refine ⟨?_, b.trans (List.length_set ..)⟩
    have h0 := wayW_set (n := N.length) (qs := qs) (k := 0) (j := st) (q := []) (by omega)
    rw [Nat.zero_add, List.length_nil, Nat.zero_mul] at h0
    have hz : ((N.getD st []).zip (qs.getD st [])).length ≤ (qs.getD st []).length := by rw [List.length_zip]; omega
    generalize hm : ((N.getD st []).zip (qs.getD st [])).length = m at a hz
    show wayW N.length 0 (moveW (α := α) N (departW N f) ((N.getD st []).zip (qs.getD st [])) (qs.set st [])).1 + ((moveW (α := α) N (departW N f) ((N.getD st []).zip (qs.getD st [])) (qs.set st [])).2.length + 1) ≤ _
    have hp : m * (2 * (N.length - st)) - m + 1 ≤ (qs.getD st []).length * (2 * (N.length - st)) := by
      generalize hX : 2 * (N.length - st) = X
      have hX2 : 2 ≤ X := by omega
      generalize (qs.getD st []).length = L at hz h1
      have hle : m * X ≤ L * X := Nat.mul_le_mul_right _ hz
      by_cases e : m = 0
      · subst e
        have : 1 * X ≤ L * X := Nat.mul_le_mul_right _ h1
        omega
      · have : m ≤ m * X := Nat.le_mul_of_pos_right _ (by omega)
        omega
    have hm2 : m ≤ m * (2 * (N.length - st)) := Nat.le_mul_of_pos_right _ (by omega)
    omega
/-- whoever finishes is told -/
def EvOk (es : EvsA α) : Prop := ∀ e ∈ es, ∀ z, e.1 = .inr z → e.2 ≠ []
def DepE (dep : Dep α) : Prop := ∀ qs st, EvOk (dep qs st).2
theorem EvOk.nil : EvOk ([] : EvsA α) := fun _ h => by cases h
theorem EvOk.cons {e : Key × List α} {es : EvsA α} (h1 : ∀ z, e.1 = .inr z → e.2 ≠ []) (h2 : EvOk es) : EvOk (e :: es) := fun x h => by
  rcases List.mem_cons.mp h with rfl | h
  · exact h1
  · exact h2 x h
theorem EvOk.append {a b : EvsA α} (h1 : EvOk a) (h2 : EvOk b) : EvOk (a ++ b) := fun x h => (List.mem_append.mp h).elim (h1 x) (h2 x)
theorem joinW_e {N : Net} {dep : Dep α} (h : DepE dep) (qs : QsA α) (j : Nat) (p : α) : EvOk (joinW N dep qs j p).2 := by
  unfold joinW
  split
  · exact h _ _
  · exact EvOk.nil
theorem moveW_e {N : Net} {dep : Dep α} (h : DepE dep) : ∀ (ms : List (Key × α)) (qs : QsA α), EvOk (moveW N dep ms qs).2
  | [], _ => EvOk.nil
  | (.inr z, p) :: r, qs => EvOk.cons (fun _ _ => by simp) (moveW_e h r qs)
  | (.inl j, p) :: r, qs => EvOk.append (joinW_e h qs j.toNat p) (moveW_e h r _)
theorem departW_e {N : Net} : ∀ f, DepE (departW (α := α) N f)
  | 0 => fun _ _ => EvOk.nil
  | f + 1 => fun qs st => EvOk.cons (fun z e => nomatch e) (moveW_e (departW_e f) ((N.getD st []).zip (qs.getD st [])) (qs.set st []))
/-- who finishes does so at a port of the network -/
def FinS (N : Net) (es : EvsA α) : Prop := ∀ x ∈ finOf es, ∃ k, (.inr x.1 : Key) ∈ N.getD k []
theorem FinS.append {N : Net} {a b : EvsA α} (h1 : FinS N a) (h2 : FinS N b) : FinS N (a ++ b) := fun x h => by
  rw [finOf_append] at h
  exact (List.mem_append.mp h).elim (h1 x) (h2 x)
theorem FinS.nil {N : Net} : FinS N ([] : EvsA α) := fun _ h => by cases h
def DepS (N : Net) (dep : Dep α) : Prop := ∀ qs st, FinS N (dep qs st).2
theorem joinW_s {N : Net} {dep : Dep α} (h : DepS N dep) (qs : QsA α) (j : Nat) (p : α) : FinS N (joinW N dep qs j p).2 := by
  unfold joinW
  split
  · exact h _ _
  · exact FinS.nil
theorem moveW_s {N : Net} {dep : Dep α} (h : DepS N dep) : ∀ (ms : List (Key × α)) (qs : QsA α), (∀ m ∈ ms, ∃ k, m.1 ∈ N.getD k []) → FinS N (moveW N dep ms qs).2
  | [], _, _ => FinS.nil
  | (.inr z, p) :: r, qs, hm => fun x hx => by
    rcases List.mem_cons.mp hx with rfl | hx
    · exact hm _ (List.mem_cons_self ..)
    · exact moveW_s h r qs (fun m h => hm m (List.mem_cons_of_mem _ h)) x hx
  | (.inl j, p) :: r, qs, hm => FinS.append (joinW_s h qs j.toNat p) (moveW_s h r _ fun m h => hm m (List.mem_cons_of_mem _ h))
theorem departW_s {N : Net} : ∀ f, DepS N (departW (α := α) N f)
  | 0 => fun _ _ => FinS.nil
  | f + 1 => fun qs st => fun x hx => moveW_s (departW_s f) ((N.getD st []).zip (qs.getD st [])) (qs.set st []) (fun m hm => ⟨st, (List.of_mem_zip hm).1⟩) x hx
end
end
end FB
set_option Elab.async false
set_option linter.all false
set_option maxRecDepth 100000
set_option maxHeartbeats 1000000
namespace FB
open PySem PySem.Spec PyProof.Rows L2 Evl
/-! what moves at an arrival, counted: boats, who joins, who stays -/
section
variable {α : Type} [Inhabited α]
theorem toQ_add {f g : Nat → Int} {q : Key} : ∀ {a : Seats}, toQ (fun i => f i + g i) q a = toQ f q a + toQ g q a
  | [] => rfl
  | (i, p) :: r => by
    show (if p = q then f i + g i else 0) + toQ (fun i => f i + g i) q r = (if p = q then f i else 0) + toQ f q r + ((if p = q then g i else 0) + toQ g q r)
    rw [toQ_add]
    split <;> omega
theorem toQ_sub {f g : Nat → Int} {q : Key} : ∀ {a : Seats}, toQ (fun i => f i - g i) q a = toQ f q a - toQ g q a
  | [] => rfl
  | (i, p) :: r => by
    show (if p = q then f i - g i else 0) + toQ (fun i => f i - g i) q r = (if p = q then f i else 0) + toQ f q r - ((if p = q then g i else 0) + toQ g q r)
    rw [toQ_sub]
    split <;> omega
theorem toQ_zero {q : Key} : ∀ {a : Seats}, toQ (fun _ => 0) q a = 0
  | [] => rfl
  | (i, p) :: r => by
    show (if p = q then (0 : Int) else 0) + toQ (fun _ => 0) q r = 0
    rw [toQ_zero]
    split <;> omega
theorem toQ_mono {f g : Nat → Int} {q : Key} : ∀ {a : Seats}, (∀ s ∈ a, s.2 = q → f s.1 ≤ g s.1) → toQ f q a ≤ toQ g q a
  | [], _ => Int.le_refl _
  | (i, p) :: r, h => by
    show (if p = q then f i else 0) + toQ f q r ≤ (if p = q then g i else 0) + toQ g q r
    have h2 := toQ_mono (a := r) fun s hs => h s (List.mem_cons_of_mem _ hs)
    by_cases e : p = q
    · have h1 : f i ≤ g i := h (i, p) (List.mem_cons_self ..) e
      rw [if_pos e, if_pos e]; omega
    · rw [if_neg e, if_neg e]; omega
/-- how many of these keys are q -/
def cntK (q : Key) : List Key → Int
  | [] => 0
  | p :: r => (if p = q then 1 else 0) + cntK q r
theorem cntK_nn {q : Key} : ∀ {l : List Key}, 0 ≤ cntK q l
  | [] => Int.le_refl _
  | p :: r => by
    have := cntK_nn (q := q) (l := r)
    show 0 ≤ (if p = q then (1 : Int) else 0) + cntK q r
    split <;> omega
theorem cntK_not {q : Key} : ∀ {l : List Key}, ¬ q ∈ l → cntK q l = 0
  | [], _ => rfl
  | p :: r, h => by
    show (if p = q then (1 : Int) else 0) + cntK q r = 0
    rw [if_neg (fun e : p = q => h (by rw [e]; exact List.mem_cons_self ..)), cntK_not fun z => h (List.mem_cons_of_mem _ z)]; rfl
theorem toQ_st {st k : Nat} {q : Key} : ∀ {s : List Key}, toQ (fun i => if i = st then 1 else 0) q (stSeats k s) = if k = st then cntK q s else 0
  | [] => by
    show (0 : Int) = _
    split <;> rfl
  | p :: r => by
    show (if p = q then (if k = st then (1 : Int) else 0) else 0) + toQ (fun i => if i = st then 1 else 0) q (stSeats k r) = if k = st then (if p = q then 1 else 0) + cntK q r else 0
    rw [toQ_st]
    split <;> split <;> omega
theorem toQ_one {N : Net} {st : Nat} {q : Key} : ∀ {n : Nat}, toQ (fun i => if i = st then 1 else 0) q (seatsOf N n) = if st < n then cntK q (N.getD st []) else 0
  | 0 => rfl
  | n + 1 => by
    show toQ _ q (seatsOf N n ++ stSeats n (N.getD n [])) = _
    rw [toQ_append, toQ_one, toQ_st]
    by_cases e : n = st
    · subst e
      rw [if_neg (by omega), if_pos rfl, if_pos (by omega)]; omega
    · rw [if_neg e]
      by_cases h : st < n
      · rw [if_pos h, if_pos (by omega)]; omega
      · rw [if_neg h, if_neg (by omega)]; rfl
/-- the boats of a station -/
def dn : EvsA α → Nat → Int
  | [], _ => 0
  | e :: r, k => (if e.1 = .inl (k : Int) then 1 else 0) + dn r k
/-- the passengers of a place -/
def pn : EvsA α → Key → Int
  | [], _ => 0
  | e :: r, q => (if e.1 = q then (e.2.length : Int) else 0) + pn r q
theorem dn_append : ∀ {a b : EvsA α} {k : Nat}, dn (a ++ b) k = dn a k + dn b k
  | [], b, k => by show dn b k = 0 + dn b k; omega
  | e :: r, b, k => by
    show (if e.1 = .inl (k : Int) then (1 : Int) else 0) + dn (r ++ b) k = (if e.1 = .inl (k : Int) then 1 else 0) + dn r k + dn b k
    rw [dn_append]; omega
theorem pn_append : ∀ {a b : EvsA α} {q : Key}, pn (a ++ b) q = pn a q + pn b q
  | [], b, q => by show pn b q = 0 + pn b q; omega
  | e :: r, b, q => by
    show (if e.1 = q then (e.2.length : Int) else 0) + pn (r ++ b) q = (if e.1 = q then (e.2.length : Int) else 0) + pn r q + pn b q
    rw [pn_append]; omega
theorem dn_nn {k : Nat} : ∀ {a : EvsA α}, 0 ≤ dn a k
  | [] => Int.le_refl _
  | e :: r => by
    have := dn_nn (k := k) (a := r)
    show 0 ≤ (if e.1 = .inl (k : Int) then (1 : Int) else 0) + dn r k
    split <;> omega
/-- what goes in and what comes out: c joins from outside -/
structure Flow (N : Net) (qs : QsA α) (c : Key → Int) (r : QsA α × EvsA α) : Prop where
  len : r.1.length = qs.length
  q : ∀ k, k < N.length → ((r.1.getD k []).length : Int) + ((N.getD k []).length : Int) * dn r.2 k = ((qs.getD k []).length : Int) + c (.inl (k : Int)) + toQ (dn r.2) (.inl (k : Int)) (seatsOf N N.length)
  p : ∀ z, pn r.2 (.inr z) = c (.inr z) + toQ (dn r.2) (.inr z) (seatsOf N N.length)
  s : ∀ k : Nat, k < N.length → pn r.2 (.inl (k : Int)) = ((N.getD k []).length : Int) * dn r.2 k
theorem Flow.none {N : Net} {qs : QsA α} : Flow N qs (fun _ => 0) (qs, []) := by
  have z : ∀ q, toQ (dn ([] : EvsA α)) q (seatsOf N N.length) = 0 := fun q => toQ_zero
  refine ⟨rfl, fun k hk => ?_, fun y => ?_, fun k hk => ?_⟩
  · rw [z]
    show ((qs.getD k []).length : Int) + ((N.getD k []).length : Int) * 0 = _
    rw [Int.mul_zero]; omega
  · rw [z]; rfl
  · show (0 : Int) = ((N.getD k []).length : Int) * 0
    rw [Int.mul_zero]
/-- one after the other -/
theorem Flow.then {N : Net} {qs : QsA α} {c d : Key → Int} {r s : QsA α × EvsA α} (h1 : Flow N qs c r) (h2 : Flow N r.1 d s) : Flow N qs (fun q => c q + d q) (s.1, r.2 ++ s.2) := by
  have z : ∀ q, toQ (dn (r.2 ++ s.2)) q (seatsOf N N.length) = toQ (dn r.2) q (seatsOf N N.length) + toQ (dn s.2) q (seatsOf N N.length) := fun q => by
    rw [← toQ_add]
    exact toQ_congr fun _ _ _ => dn_append
  refine ⟨h2.len.trans h1.len, fun k hk => ?_, fun y => ?_, fun k hk => ?_⟩
  · have a := h1.q k hk
    have b := h2.q k hk
    rw [z, dn_append, Int.mul_add]
    show ((s.1.getD k []).length : Int) + _ = _
    try dsimp only
    omega
  · have a := h1.p y
    have b := h2.p y
    rw [z, pn_append]
    try dsimp only
    omega
  · have a := h1.s k hk
    have b := h2.s k hk
    rw [dn_append, pn_append, Int.mul_add]
    omega
theorem Flow.c {N : Net} {qs : QsA α} {c d : Key → Int} {r : QsA α × EvsA α} (h : Flow N qs c r) (e : ∀ q, c q = d q) : Flow N qs d r := by
  have : c = d := funext e
  exact this ▸ h
def DepFlow (N : Net) (f : Nat) (dep : Dep α) : Prop := ∀ qs st, N.length ≤ st + f → st < N.length → qs.length = N.length → (qs.getD st []).length = (N.getD st []).length → Flow N qs (fun _ => 0) (dep qs st)
def at1 (j : Nat) (q : Key) : Int := if q = .inl (j : Int) then 1 else 0
theorem joinW_flow {N : Net} {f : Nat} {dep : Dep α} (hd : DepFlow N f dep) {qs : QsA α} {j : Nat} {p : α} (hl : qs.length = N.length) (hj : j < N.length) (hf : N.length ≤ j + f) : Flow N qs (at1 j) (joinW N dep qs j p) := by
  have hjl : j < qs.length := by rw [hl]; exact hj
  have put : ∀ {c : Key → Int} {r : QsA α × EvsA α}, Flow N (qs.set j (qs.getD j [] ++ [p])) (fun _ => 0) r → Flow N qs (at1 j) r := fun {c r} F => by
    refine ⟨by rw [F.len, List.length_set], fun k hk => ?_, fun z => ?_, F.s⟩
    · have a := F.q k hk
      rw [getD_set' hjl] at a
      unfold at1
      by_cases e : k = j
      · subst e
        rw [if_pos rfl, List.length_append, List.length_singleton] at a
        rw [if_pos rfl]; omega
      · rw [if_neg e] at a
        rw [if_neg (by simp; omega)]; omega
    · have a := F.p z
      unfold at1
      rw [if_neg (by simp)]; omega
  unfold joinW
  split
  · rename_i e
    exact put (c := fun _ => 0) (hd _ j hf hj (by rw [List.length_set]; exact hl) (by rw [getD_set' hjl, if_pos rfl]; exact e))
  · exact put (c := fun _ => 0) Flow.none
theorem moveW_flow {N : Net} {f : Nat} {dep : Dep α} (hd : DepFlow N f dep) {st : Nat} (hf : N.length ≤ st + 1 + f) : ∀ {ms : List (Key × α)} {qs : QsA α}, (∀ m ∈ ms, ∀ j : Int, m.1 = .inl j → (st : Int) < j ∧ j < N.length) → qs.length = N.length → Flow N qs (fun q => cntK q (ms.map (·.1))) (moveW N dep ms qs)
  | [], qs, _, hl => Flow.none
  | (.inr z, p) :: r, qs, hm, hl => by
    have F := moveW_flow hd hf (ms := r) (fun m h => hm m (List.mem_cons_of_mem _ h)) hl
    have one : Flow N qs (fun q => if (.inr z : Key) = q then 1 else 0) (qs, [((.inr z : Key), [p])]) := by
      have d0 : ∀ k : Nat, dn [((.inr z : Key), [p])] k = 0 := fun k => by
        show (if (.inr z : Key) = .inl (k : Int) then (1 : Int) else 0) + 0 = 0
        rw [if_neg (by simp)]; rfl
      have z0 : ∀ q, toQ (dn [((.inr z : Key), [p])]) q (seatsOf N N.length) = 0 := fun q => (toQ_congr fun s _ _ => d0 s.1).trans toQ_zero
      refine ⟨rfl, fun k hk => ?_, fun y => ?_, fun k hk => ?_⟩
      · rw [z0]
        dsimp only
        rw [d0, if_neg (by simp), Int.mul_zero]; omega
      · rw [z0]
        show (if (.inr z : Key) = .inr y then (([p].length : Nat) : Int) else 0) + 0 = _
        try dsimp only
        by_cases e : (.inr z : Key) = .inr y
        · rw [if_pos e, if_pos e]; rfl
        · rw [if_neg e, if_neg e]
      · rw [d0, Int.mul_zero]
        show (if (.inr z : Key) = .inl (k : Int) then (([p].length : Nat) : Int) else 0) + 0 = 0
        rw [if_neg (by simp)]; rfl
    exact one.then F
  | (.inl j, p) :: r, qs, hm, hl => by
    obtain ⟨a, b⟩ := hm _ (List.mem_cons_self ..) j rfl
    have F1 := joinW_flow hd (p := p) hl (j := j.toNat) (by omega) (by omega)
    have F2 := moveW_flow hd hf (ms := r) (fun m h => hm m (List.mem_cons_of_mem _ h)) (F1.len.trans hl)
    refine (F1.then F2).c fun q => ?_
    show at1 j.toNat q + _ = (if (.inl j : Key) = q then 1 else 0) + _
    have : at1 j.toNat q = if (.inl j : Key) = q then 1 else 0 := by
      unfold at1
      rw [show ((j.toNat : Nat) : Int) = j by omega]
      by_cases e : q = .inl j
      · rw [if_pos e, if_pos e.symm]
      · rw [if_neg e, if_neg fun z => e z.symm]
    rw [this]
theorem departW_flow {N : Net} (fw : Fw N) : ∀ f, DepFlow N f (departW (α := α) N f)
  | 0 => fun qs st h1 h2 => by omega
  | f + 1 => fun qs st hf hst hl hs => by
    have hql : st < qs.length := by rw [hl]; exact hst
    have F := moveW_flow (departW_flow fw f) (st := st) (by omega) (ms := (N.getD st []).zip (qs.getD st [])) (qs := qs.set st []) (fun m hm j e => fw st hst j (by rw [← e]; exact (List.of_mem_zip hm).1)) (by rw [List.length_set]; exact hl)
    have hz : ((N.getD st []).zip (qs.getD st [])).map (·.1) = N.getD st [] := List.map_fst_zip (by omega)
    rw [hz] at F
    have dn' : ∀ (es : EvsA α) (k : Nat), dn (((.inl (st : Int) : Key), qs.getD st []) :: es) k = (if k = st then 1 else 0) + dn es k := fun es k => by
      show (if (.inl (st : Int) : Key) = .inl (k : Int) then (1 : Int) else 0) + dn es k = _
      by_cases e : k = st
      · subst e; rw [if_pos rfl, if_pos rfl]
      · rw [if_neg e, if_neg (by simp; omega)]
    have z : ∀ (es : EvsA α) (q : Key), toQ (dn (((.inl (st : Int) : Key), qs.getD st []) :: es)) q (seatsOf N N.length) = cntK q (N.getD st []) + toQ (dn es) q (seatsOf N N.length) := fun es q => by
      have h1 : toQ (dn (((.inl (st : Int) : Key), qs.getD st []) :: es)) q (seatsOf N N.length) = toQ (fun i => (if i = st then 1 else 0) + dn es i) q (seatsOf N N.length) := toQ_congr fun s _ _ => dn' es s.1
      rw [h1, toQ_add, toQ_one, if_pos hst]
    refine ⟨by show (moveW N (departW N f) _ _).1.length = _; rw [F.len, List.length_set], fun k hk => ?_, fun y => ?_, fun k hk => ?_⟩
    · have a := F.q k hk
      rw [getD_set' hql] at a
      show ((((moveW N (departW N f) _ _).1).getD k []).length : Int) + ((N.getD k []).length : Int) * dn (((.inl (st : Int) : Key), qs.getD st []) :: (moveW N (departW N f) _ _).2) k = _ + 0 + toQ (dn (((.inl (st : Int) : Key), qs.getD st []) :: (moveW N (departW N f) _ _).2)) _ _
      rw [z, dn', Int.mul_add]
      by_cases e : k = st
      · subst e
        rw [if_pos rfl] at a
        rw [if_pos rfl, Int.mul_one]
        have : (([] : List α).length : Int) = 0 := rfl
        omega
      · rw [if_neg e] at a
        rw [if_neg e, Int.mul_zero]
        omega
    · have a := F.p y
      show pn (((.inl (st : Int) : Key), qs.getD st []) :: (moveW N (departW N f) _ _).2) (.inr y) = 0 + toQ (dn (((.inl (st : Int) : Key), qs.getD st []) :: (moveW N (departW N f) _ _).2)) _ _
      rw [z]
      show (if (.inl (st : Int) : Key) = .inr y then ((qs.getD st []).length : Int) else 0) + pn _ (.inr y) = _
      rw [if_neg (by simp)]
      omega
    · have a := F.s k hk
      show pn (((.inl (st : Int) : Key), qs.getD st []) :: (moveW N (departW N f) _ _).2) (.inl (k : Int)) = _ * dn (((.inl (st : Int) : Key), qs.getD st []) :: (moveW N (departW N f) _ _).2) k
      rw [dn', Int.mul_add]
      show (if (.inl (st : Int) : Key) = .inl (k : Int) then ((qs.getD st []).length : Int) else 0) + pn _ (.inl (k : Int)) = _
      by_cases e : k = st
      · subst e
        rw [if_pos rfl, if_pos rfl, Int.mul_one]; omega
      · rw [if_neg (by simp; omega), if_neg e, Int.mul_zero]; omega
end
end FB
set_option Elab.async false
set_option linter.all false
set_option maxRecDepth 100000
set_option maxHeartbeats 1000000
namespace FB
open PySem PySem.Spec PyProof.Rows L2 Evl
/-! who comes to a place at an arrival: those who waited there, then those from earlier stations -/
section
variable {α : Type} [Inhabited α]
/-- all passengers of a place, in order -/
def evP : EvsA α → Key → List α
  | [], _ => []
  | e :: r, q => (if e.1 = q then e.2 else []) ++ evP r q
theorem evP_append : ∀ {a b : EvsA α} {q : Key}, evP (a ++ b) q = evP a q ++ evP b q
  | [], b, q => rfl
  | e :: r, b, q => by
    show (if e.1 = q then e.2 else []) ++ evP (r ++ b) q = (if e.1 = q then e.2 else []) ++ evP r q ++ evP b q
    rw [evP_append, List.append_assoc]
theorem evP_len : ∀ {a : EvsA α} {q : Key}, ((evP a q).length : Int) = pn a q
  | [], q => rfl
  | e :: r, q => by
    show (((if e.1 = q then e.2 else []) ++ evP r q).length : Int) = (if e.1 = q then (e.2.length : Int) else 0) + pn r q
    rw [← evP_len (a := r), List.length_append]
    split <;> simp
/-- S k x: x may wait at k -/
structure Ln (N : Net) (S S' : Nat → α → Prop) (R : α → Prop) (qs : QsA α) (r : QsA α × EvsA α) : Prop where
  len : r.1.length = qs.length
  st : ∀ k, k < N.length → ∃ js, evP r.2 (.inl (k : Int)) ++ r.1.getD k [] = qs.getD k [] ++ js ∧ ∀ x ∈ js, S' k x
  ok : ∀ k, k < N.length → ∀ x ∈ r.1.getD k [], S k x
  pt : ∀ z, ∀ x ∈ evP r.2 (.inr z), R x
  ev : ∀ e ∈ r.2, ∀ k : Nat, e.1 = .inl (k : Int) → ∀ x ∈ e.2, S k x
structure LnR (S S' : Nat → α → Prop) (R : α → Prop) : Prop where
  mono : ∀ k j x, S k x → k < j → S' j x
  weak : ∀ j x, S' j x → S j x
  any : ∀ k x, S k x → R x
variable {N : Net} {S S' : Nat → α → Prop} {R : α → Prop}
theorem Ln.none {qs : QsA α} (h : ∀ k, k < N.length → ∀ x ∈ qs.getD k [], S k x) : Ln N S S' R qs (qs, []) :=
  ⟨rfl, fun k hk => ⟨[], by simp [evP], by simp⟩, h, fun z x hx => by simp [evP] at hx, fun e he => by simp at he⟩
theorem Ln.then {qs : QsA α} {r s : QsA α × EvsA α} (h1 : Ln N S S' R qs r) (h2 : Ln N S S' R r.1 s) : Ln N S S' R qs (s.1, r.2 ++ s.2) := by
  refine ⟨h2.len.trans h1.len, fun k hk => ?_, h2.ok, fun z x hx => ?_, fun e he => ?_⟩
  · obtain ⟨a, ha, ha'⟩ := h1.st k hk
    obtain ⟨b, hb, hb'⟩ := h2.st k hk
    refine ⟨a ++ b, ?_, fun x hx => (List.mem_append.mp hx).elim (ha' x) (hb' x)⟩
    show evP (r.2 ++ s.2) _ ++ s.1.getD k [] = _
    rw [evP_append, List.append_assoc, hb, ← List.append_assoc, ha, List.append_assoc]
  · dsimp only at hx
    rw [evP_append] at hx
    exact (List.mem_append.mp hx).elim (h1.pt z x) (h2.pt z x)
  · exact (List.mem_append.mp he).elim (h1.ev e) (h2.ev e)
def DepLn (N : Net) (S S' : Nat → α → Prop) (R : α → Prop) (f : Nat) (dep : Dep α) : Prop := ∀ qs st, N.length ≤ st + f → st < N.length → qs.length = N.length → (qs.getD st []).length = (N.getD st []).length → (∀ k, k < N.length → ∀ x ∈ qs.getD k [], S k x) → Ln N S S' R qs (dep qs st)
theorem joinW_ln {f : Nat} {dep : Dep α} (hd : DepLn N S S' R f dep) {qs : QsA α} {j : Nat} {p : α} (hl : qs.length = N.length) (hj : j < N.length) (hf : N.length ≤ j + f) (h : ∀ k, k < N.length → ∀ x ∈ qs.getD k [], S k x) (hp : S' j p) (hp2 : S j p) : Ln N S S' R qs (joinW N dep qs j p) := by
  have hjl : j < qs.length := by rw [hl]; exact hj
  have h' : ∀ k, k < N.length → ∀ x ∈ (qs.set j (qs.getD j [] ++ [p])).getD k [], S k x := fun k hk x hx => by
    rw [getD_set' hjl] at hx
    split at hx
    · rename_i e
      subst e
      rcases List.mem_append.mp hx with hx | hx
      · exact h k hk x hx
      · rw [List.mem_singleton.mp hx]; exact hp2
    · exact h k hk x hx
  have put : ∀ {r : QsA α × EvsA α}, Ln N S S' R (qs.set j (qs.getD j [] ++ [p])) r → Ln N S S' R qs r := fun {r} F => by
    refine ⟨by rw [F.len, List.length_set], fun k hk => ?_, F.ok, F.pt, F.ev⟩
    obtain ⟨js, e, hs⟩ := F.st k hk
    rw [getD_set' hjl] at e
    by_cases z : k = j
    · subst z
      rw [if_pos rfl] at e
      exact ⟨p :: js, by rw [e]; simp, fun x hx => (List.mem_cons.mp hx).elim (fun z => z ▸ hp) (hs x)⟩
    · rw [if_neg z] at e
      exact ⟨js, e, hs⟩
  unfold joinW
  split
  · rename_i e
    exact put (hd _ j hf hj (by rw [List.length_set]; exact hl) (by rw [getD_set' hjl, if_pos rfl]; exact e) h')
  · exact put (Ln.none h')
theorem moveW_ln (L : LnR S S' R) {f : Nat} {dep : Dep α} (hd : DepLn N S S' R f dep) {st : Nat} (hf : N.length ≤ st + 1 + f) : ∀ {ms : List (Key × α)} {qs : QsA α}, (∀ m ∈ ms, ∀ j : Int, m.1 = .inl j → (st : Int) < j ∧ j < N.length) → (∀ m ∈ ms, S st m.2) → qs.length = N.length → (∀ k, k < N.length → ∀ x ∈ qs.getD k [], S k x) → Ln N S S' R qs (moveW N dep ms qs)
  | [], qs, _, _, hl, h => Ln.none h
  | (.inr z, p) :: r, qs, hm, hs, hl, h => by
    have F := moveW_ln L hd hf (ms := r) (fun m h => hm m (List.mem_cons_of_mem _ h)) (fun m h => hs m (List.mem_cons_of_mem _ h)) hl h
    have one : Ln N S S' R qs (qs, [((.inr z : Key), [p])]) := by
      refine ⟨rfl, fun k hk => ⟨[], ?_, by simp⟩, h, fun y x hx => ?_, fun e he k hk => ?_⟩
      · show ((if (.inr z : Key) = .inl (k : Int) then [p] else []) ++ []) ++ qs.getD k [] = _
        rw [if_neg (by simp)]; simp
      · have hx : x ∈ (if (.inr z : Key) = .inr y then [p] else []) ++ [] := hx
        split at hx
        · simp at hx
          rw [hx]
          exact L.any st p (hs _ (List.mem_cons_self ..))
        · simp at hx
      · rw [List.mem_singleton.mp he] at hk
        cases hk
    exact one.then F
  | (.inl j, p) :: r, qs, hm, hs, hl, h => by
    obtain ⟨a, b⟩ := hm _ (List.mem_cons_self ..) j rfl
    have sp : S' j.toNat p := L.mono st _ p (hs _ (List.mem_cons_self ..)) (by omega)
    have F1 := joinW_ln hd (p := p) hl (j := j.toNat) (by omega) (by omega) h sp (L.weak _ _ sp)
    have F2 := moveW_ln L hd hf (ms := r) (fun m h => hm m (List.mem_cons_of_mem _ h)) (fun m h => hs m (List.mem_cons_of_mem _ h)) (F1.len.trans hl) F1.ok
    exact F1.then F2
theorem departW_ln (L : LnR S S' R) (fw : Fw N) : ∀ f, DepLn N S S' R f (departW (α := α) N f)
  | 0 => fun qs st h1 h2 => by omega
  | f + 1 => fun qs st hf hst hl hs h => by
    have hql : st < qs.length := by rw [hl]; exact hst
    have F := moveW_ln L (departW_ln L fw f) (st := st) (by omega) (ms := (N.getD st []).zip (qs.getD st [])) (qs := qs.set st []) (fun m hm j e => fw st hst j (by rw [← e]; exact (List.of_mem_zip hm).1)) (fun m hm => h st hst _ (List.of_mem_zip hm).2) (by rw [List.length_set]; exact hl) (fun k hk x hx => by
      rw [getD_set' hql] at hx
      split at hx
      · simp at hx
      · exact h k hk x hx)
    refine ⟨by show (moveW N (departW N f) _ _).1.length = _; rw [F.len, List.length_set], fun k hk => ?_, F.ok, fun z x hx => ?_, fun e he k hk x hx => ?_⟩
    · obtain ⟨js, e, hj⟩ := F.st k hk
      rw [getD_set' hql] at e
      refine ⟨js, ?_, hj⟩
      show ((if (.inl (st : Int) : Key) = .inl (k : Int) then qs.getD st [] else []) ++ evP (moveW N (departW N f) ((N.getD st []).zip (qs.getD st [])) (qs.set st [])).2 _) ++ (moveW N (departW N f) ((N.getD st []).zip (qs.getD st [])) (qs.set st [])).1.getD k [] = _
      by_cases z : k = st
      · subst z
        rw [if_pos rfl] at e
        rw [if_pos rfl, List.append_assoc]
        rw [e, List.nil_append]
      · rw [if_neg z] at e
        rw [if_neg (by simp; omega), List.nil_append]
        exact e
    · have hx : x ∈ (if (.inl (st : Int) : Key) = .inr z then qs.getD st [] else []) ++ evP _ _ := hx
      rw [if_neg (by simp)] at hx
      exact F.pt z x (by simpa using hx)
    · rcases List.mem_cons.mp he with he | he
      · rw [he] at hk hx
        have : st = k := by have := Sum.inl.inj hk; omega
        subst this
        exact h st hst x hx
      · exact F.ev e he k hk x hx
end
end FB
set_option Elab.async false
set_option linter.all false
set_option maxRecDepth 100000
set_option maxHeartbeats 1000000
set_option exponentiation.threshold 20000
namespace K
open PySem PySem.Spec PyProof.Rows L2 Evl FB
local macro_rules | `(tactic| walk_at "run") => `(tactic| try simp only [tSeq, tAsg, tVar, tC, gName, L2.start, List.map_cons, List.map_nil, List.cons_append, List.nil_append, List.length_cons, List.length_nil, List.replicate, List.getElem?_cons_zero, List.getElem?_cons_succ, Option.some.injEq, exists_eq_left', List.set_cons_zero, List.set_cons_succ, V.ref.injEq, tRet, x_tLst, x_tTup, tCons, tCB, tNil, tOp, x_addI, x_mulI, x_rI, x_rI0, x_ltI, x_leI, x_ltS, x_leS, x_eqI, x_neI, x_eqS, x_eqB, x_neB, x_isiI, x_isiS, x_int, x_max, x_min, cxOf, tIfS, tNext, tTest, V.bl.injEq, decide_eq_true_eq, gSub, tAnd, tOr, tNot, tB, tDrop, tBM, x_tFor, iRng1, iList, iTup, x_tLc, tYes, tCall, tIf, tAndV, tOrV, tNotV, tChain, List.append_nil, tUn, if_true, wipe, true_and, x_never, iU, x_itS, kV, Nat.reduceAdd, Nat.reduceSub, List.replicate_zero, x_rU, x_tMkO, iEnumT, x_tDc, x_tDGet, x_tDGet2, x_sDPut, x_tDSetd, x_tDNewK, x_iItems, x_iZip, x_tSAddK, x_tLockV, x_tTupRg, x_tRg2, tPar, tPar3, tBM0, tSl, tNoPart, tPart, x_tSetAdd, x_tDIn, x_iKeys, x_iZipX, tWhile, x_iZip3, iRevR, tRg1])
/-! boats and passengers by a time; one arrival more -/
/-- the boats of a station by a time -/
def bt (N : Net) (ls : List Int) (t : Int) (k : Nat) : Int := (bts N ls t N.length).getD k 0
/-- how many came to a place by a time -/
def jq (N : Net) (ls : List Int) (t : Int) (q : Key) : Int := if q = .inl 0 then t else toQ (bt N ls t) q (seatsOf N N.length)
section
variable {N : Net} {ls : List Int}
theorem bts_pre {t : Int} {k : Nat} : ∀ {n : Nat}, k < n → (bts N ls t n).getD k 0 = (bts N ls t (k + 1)).getD k 0
  | 0, h => by omega
  | n + 1, h => by
    by_cases e : k = n
    · rw [e]
    · rw [← bts_pre (n := n) (by omega)]
      show (bts N ls t n ++ [_]).getD k 0 = _
      rw [List.getD_eq_getElem?_getD, List.getElem?_append_left (by rw [bts_len]; omega), ← List.getD_eq_getElem?_getD]
theorem joins_eq (fw : Fw N) {t : Int} {k : Nat} (hk : k < N.length) : joins N t (bts N ls t k) k = jq N ls t (.inl (k : Int)) := by
  unfold joins jq
  by_cases e : k = 0
  · subst e; rw [if_pos (by rfl), if_pos (by rfl)]
  · rw [if_neg e, if_neg (by simp; omega)]
    refine toQ_congr fun s hs hq => ?_
    obtain ⟨i, q⟩ := s
    have hq : q = .inl (k : Int) := hq
    subst hq
    obtain ⟨h1, h2⟩ := mem_seatsOf.mp hs
    have := fw i h1 _ h2
    show (bts N ls t k).getD i 0 = (bts N ls t N.length).getD i 0
    rw [bts_pre (n := k) (by omega), bts_pre (n := N.length) (by omega)]
theorem bt_eq (fw : Fw N) {t : Int} {k : Nat} (hk : k < N.length) : bt N ls t k = (ls.getD k 0 + jq N ls t (.inl (k : Int))).fdiv ((N.getD k []).length : Nat) := by
  unfold bt
  rw [bts_pre hk]
  show (bts N ls t k ++ [_]).getD k 0 = _
  rw [List.getD_eq_getElem?_getD, List.getElem?_append_right (by rw [bts_len]; omega), bts_len, Nat.sub_self]
  show (ls.getD k 0 + joins N t (bts N ls t k) k).fdiv _ = _
  rw [joins_eq fw hk]
/-- a seat that leads to a station is ahead of it -/
theorem seat_lt (fw : Fw N) {i k : Nat} (h : (i, (.inl (k : Int) : Key)) ∈ seatsOf N N.length) : i < k := by
  obtain ⟨h1, h2⟩ := mem_seatsOf.mp h
  have := fw i h1 _ h2
  omega
theorem jq_rec (fw : Fw N) {P : Nat → Prop} (h : ∀ k, k < N.length → (∀ i, i < k → P i) → P k) : ∀ k, k < N.length → P k := by
  intro k
  induction k using Nat.strongRecOn with
  | ind k ih => exact fun hk => h k hk fun i hi => ih i hi (by omega)
theorem bt_mono (fw : Fw N) (h1 : ∀ k, k < N.length → 1 ≤ (N.getD k []).length) {t u : Int} (htu : t ≤ u) : ∀ k, k < N.length → bt N ls t k ≤ bt N ls u k := by
  refine jq_rec fw fun k hk ih => ?_
  have h := h1 k hk
  have hj : jq N ls t (.inl (k : Int)) ≤ jq N ls u (.inl (k : Int)) := by
    unfold jq
    by_cases e : k = 0
    · subst e; rw [if_pos (by rfl), if_pos (by rfl)]; exact htu
    · rw [if_neg (by simp; omega), if_neg (by simp; omega)]
      refine toQ_mono fun s hs hq => ih _ ?_
      obtain ⟨i, q⟩ := s
      have hq : q = .inl (k : Int) := hq
      subst hq
      exact seat_lt fw hs
  rw [bt_eq fw hk, bt_eq fw hk, Int.fdiv_eq_ediv_of_nonneg _ (by omega), Int.fdiv_eq_ediv_of_nonneg _ (by omega)]
  exact Int.ediv_le_ediv (by omega) (by omega)
theorem jq_mono (fw : Fw N) (h1 : ∀ k, k < N.length → 1 ≤ (N.getD k []).length) {t u : Int} (htu : t ≤ u) (q : Key) : jq N ls t q ≤ jq N ls u q := by
  unfold jq
  split
  · exact htu
  · refine toQ_mono fun s hs hq => bt_mono fw h1 htu _ ?_
    obtain ⟨i, q⟩ := s
    exact (mem_seatsOf.mp hs).1
/-- the lengths at the beginning -/
structure Lens (N : Net) (ls : List Int) : Prop where
  len : ls.length = N.length
  nn : ∀ k, k < N.length → 0 ≤ ls.getD k 0
  lt : ∀ k, k < N.length → ls.getD k 0 < ((N.getD k []).length : Int)
theorem Lens.pos (L : Lens N ls) : ∀ k, k < N.length → 1 ≤ (N.getD k []).length := fun k hk => by
  have := L.nn k hk
  have := L.lt k hk
  omega
theorem bt_zero (fw : Fw N) (L : Lens N ls) : ∀ k, k < N.length → bt N ls 0 k = 0 := by
  refine jq_rec fw fun k hk ih => ?_
  have hj : jq N ls 0 (.inl (k : Int)) = 0 := by
    unfold jq
    split
    · rfl
    · rw [toQ_congr (g := fun _ => 0) fun s hs hq => ih _ ?_]
      · exact toQ_zero
      · obtain ⟨i, q⟩ := s
        have hq : q = .inl (k : Int) := hq
        subst hq
        exact seat_lt fw hs
  have := L.nn k hk
  have := L.lt k hk
  rw [bt_eq fw hk, hj, Int.fdiv_eq_ediv_of_nonneg _ (by omega), Int.add_zero]
  exact Int.ediv_eq_zero_of_lt (by omega) (by omega)
theorem jq_zero (fw : Fw N) (L : Lens N ls) (q : Key) : jq N ls 0 q = 0 := by
  unfold jq
  split
  · rfl
  · rw [toQ_congr (g := fun _ => 0) fun s hs _ => bt_zero fw L _ ?_]
    · exact toQ_zero
    · obtain ⟨i, q⟩ := s
      exact (mem_seatsOf.mp hs).1
/-- how many wait at a station at a time -/
def wt (N : Net) (ls : List Int) (t : Int) (k : Nat) : Int := ls.getD k 0 + jq N ls t (.inl (k : Int)) - bt N ls t k * ((N.getD k []).length : Int)
theorem wt_lt (fw : Fw N) (L : Lens N ls) {t : Int} {k : Nat} (hk : k < N.length) : 0 ≤ wt N ls t k ∧ wt N ls t k < ((N.getD k []).length : Int) := by
  have h1 := L.pos k hk
  unfold wt
  rw [bt_eq fw hk, Int.fdiv_eq_ediv_of_nonneg _ (by omega)]
  have a := Int.emod_nonneg (ls.getD k 0 + jq N ls t (.inl (k : Int))) (b := ((N.getD k []).length : Int)) (by omega)
  have b := Int.emod_lt_of_pos (ls.getD k 0 + jq N ls t (.inl (k : Int))) (b := ((N.getD k []).length : Int)) (by omega)
  have c := Int.emod_add_ediv_mul (ls.getD k 0 + jq N ls t (.inl (k : Int))) ((N.getD k []).length : Int)
  omega
variable {α : Type} [Inhabited α]
/-- one arrival more: the boats, who comes, who waits -/
theorem step_all (fw : Fw N) (L : Lens N ls) {t : Int} {qs : QsA α} {r : QsA α × EvsA α} (hq : ∀ k, k < N.length → ((qs.getD k []).length : Int) = wt N ls t k) (F : Flow N qs (at1 0) r) (S : Short N r.1) : ∀ k, k < N.length → dn r.2 k = bt N ls (t + 1) k - bt N ls t k := by
  refine jq_rec fw fun k hk ih => ?_
  have a := F.q k hk
  have hj : at1 0 (.inl (k : Int)) + toQ (dn r.2) (.inl (k : Int)) (seatsOf N N.length) = jq N ls (t + 1) (.inl (k : Int)) - jq N ls t (.inl (k : Int)) := by
    have e1 : toQ (dn r.2) (.inl (k : Int)) (seatsOf N N.length) = toQ (bt N ls (t + 1)) (.inl (k : Int)) (seatsOf N N.length) - toQ (bt N ls t) (.inl (k : Int)) (seatsOf N N.length) := by
      rw [← toQ_sub]
      refine toQ_congr fun s hs hq => ih _ ?_
      obtain ⟨i, q⟩ := s
      have hq : q = .inl (k : Int) := hq
      subst hq
      exact seat_lt fw hs
    by_cases e : k = 0
    · subst e
      have z : toQ (dn r.2) (.inl ((0 : Nat) : Int)) (seatsOf N N.length) = 0 := toQ_nil fun s hs hq => by
        obtain ⟨i, q⟩ := s
        have hq : q = .inl ((0 : Nat) : Int) := hq
        subst hq
        have := seat_lt fw hs
        omega
      rw [z]
      unfold jq at1
      rw [if_pos (by rfl), if_pos (by rfl), if_pos (by rfl)]; omega
    · rw [e1]
      unfold jq at1
      rw [if_neg (by simp; omega), if_neg (by simp; omega), if_neg (by simp; omega)]; omega
  have hs := S.lt k hk
  have h1 := L.pos k hk
  have h2 := hq k hk
  unfold wt at h2
  have hb : bt N ls (t + 1) k = dn r.2 k + bt N ls t k := by
    rw [bt_eq (t := t + 1) fw hk, Int.fdiv_eq_ediv_of_nonneg _ (by omega)]
    have e : ls.getD k 0 + jq N ls (t + 1) (.inl (k : Int)) = ((r.1.getD k []).length : Int) + ((N.getD k []).length : Int) * (dn r.2 k + bt N ls t k) := by
      rw [Int.mul_add, Int.mul_comm _ (bt N ls t k)]
      omega
    rw [e, Int.add_mul_ediv_left _ _ (by omega), Int.ediv_eq_zero_of_lt (by omega) (by omega)]
    omega
  omega
theorem step_wt (fw : Fw N) (L : Lens N ls) {t : Int} {qs : QsA α} {r : QsA α × EvsA α} (hq : ∀ k, k < N.length → ((qs.getD k []).length : Int) = wt N ls t k) (F : Flow N qs (at1 0) r) (S : Short N r.1) (q : Key) (hn : (∃ k : Nat, k < N.length ∧ q = .inl (k : Int)) ∨ ∃ z, q = .inr z) :
    at1 0 q + toQ (dn r.2) q (seatsOf N N.length) = jq N ls (t + 1) q - jq N ls t q := by
  have e1 : toQ (dn r.2) q (seatsOf N N.length) = toQ (bt N ls (t + 1)) q (seatsOf N N.length) - toQ (bt N ls t) q (seatsOf N N.length) := by
    rw [← toQ_sub]
    refine toQ_congr fun s hs _ => step_all fw L hq F S _ ?_
    obtain ⟨i, q⟩ := s
    exact (mem_seatsOf.mp hs).1
  by_cases e : q = .inl 0
  · subst e
    have z : toQ (dn r.2) (.inl 0) (seatsOf N N.length) = 0 := toQ_nil fun s hs hq => by
      obtain ⟨i, q⟩ := s
      have hq : q = .inl ((0 : Nat) : Int) := hq
      subst hq
      have := seat_lt fw hs
      omega
    rw [z]
    unfold jq at1
    rw [if_pos (by rfl), if_pos (by rfl), if_pos (by rfl)]; omega
  · rw [e1]
    unfold jq at1
    rw [if_neg e, if_neg e, if_neg (by simpa using e)]; omega
end
end K
set_option Elab.async false
set_option linter.all false
set_option maxRecDepth 100000
set_option maxHeartbeats 4000000
/-! Sets of ints and texts that can be sorted. -/
namespace FB
open PySem PySem.Spec PyProof.Rows L2 Evl
/-- an element's key -/
def elKey (e : Int × Value) : Key := match e.2 with
  | .int k _ => .inl k
  | .str z _ => .inr z
  | _ => .inl 0
/-- the set at a by its keys; its table can be walked -/
structure Tbl (P : Program) (w : World) (es : Array (Int × Value)) (t : SetTable) (S : Key → Bool) : Prop where
  el : ElemsOf (mixKind P w) es.toList
  mem : ∀ k, S k = true ↔ ∃ e ∈ es.toList, (mixKind P w).is k e.2 = true
  nd : (es.toList.map elKey).Nodup
  few : es.size < scanBound
  fits : t.fits es.size = true
  ris : Ris t.place.toList
  led : w.params.followText "set-order" = true ∨ t.led = true
def SetM0 (P : Program) (w : World) (h : Heap) (a : Addr) (S : Key → Bool) (n : Nat) : Prop := ∃ o es ep t, h.get? a = some o ∧ o.ExactSet ∧ o.data = .set es ep t ∧ es.size = n ∧ Tbl P w es t S
def SetM (P : Program) (w : World) (a : Addr) (S : Key → Bool) (n : Nat) : HO := .ext fun h => SetM0 P w h a S n
section
variable {P : Program} {w : World} {h h' : Heap} {a : Addr} {S : Key → Bool} {n : Nat}
theorem is_elKey {e : Int × Value} {k : Key} (q : (mixKind P w).is k e.2 = true) : elKey e = k := by
  rcases keyIs_shape (show keyIs k e.2 = true from q) with ⟨i, t, ek, ev⟩ | ⟨z, t, ek, ev⟩
  · unfold elKey; rw [ev, ek]
  · unfold elKey; rw [ev, ek]
theorem SetM0.setOf (R : SetM0 P w h a S n) : h.SetOf (mixKind P w) a S n := by
  obtain ⟨o, es, ep, t, r1, r2, r3, r4, T⟩ := R
  exact ⟨o, es, ep, t, r1, r2, r3, T.el, T.mem, T.few, T.fits, r4⟩
theorem Tbl.key {es : Array (Int × Value)} {t : SetTable} (T : Tbl P w es t S) (k : Key) : S k = true ↔ k ∈ es.toList.map elKey := by
  rw [T.mem k, List.mem_map]
  constructor
  · rintro ⟨e, he, q⟩
    exact ⟨e, he, is_elKey q⟩
  · rintro ⟨e, he, q⟩
    obtain ⟨⟨k', hk', _⟩, _⟩ := T.el e he
    have := is_elKey hk'
    rw [q] at this
    exact ⟨e, he, by rw [this]; exact hk'⟩
theorem setM_obj {H : Hp} (R : SetM0 P w h a S n) : ObjOk P w H h a (SetM P w a S n) := by
  have ⟨o, _, _, _, ho, _⟩ := R
  exact ⟨R, ⟨o, ho⟩, fun _ _ ⟨o, es, ep, t, r1, r⟩ st => ⟨o, es, ep, t, st o r1, r⟩⟩
/-- a perm of the elements in another table is the same set -/
theorem Tbl.perm {es es2 : Array (Int × Value)} {t t2 : SetTable} (T : Tbl P w es t S) (pm : es2.toList.Perm es.toList) (hf : t2.fits es2.size = true) (hr : Ris t2.place.toList) (hl : w.params.followText "set-order" = true ∨ t2.led = true) : Tbl P w es2 t2 S :=
  have sz : es2.size = es.size := by rw [← Array.length_toList, pm.length_eq, Array.length_toList]
  ⟨T.el.perm pm, fun k => (T.mem k).trans ⟨fun ⟨e, he, q⟩ => ⟨e, pm.mem_iff.mpr he, q⟩, fun ⟨e, he, q⟩ => ⟨e, pm.mem_iff.mp he, q⟩⟩, (pm.map elKey).nodup_iff.mpr T.nd, by rw [sz]; exact T.few, hf, hr, hl⟩
end
section
variable {P : Program} {w : World} {A : Around} {E : Value → Shared → Prop} {s : Shared} {a : Addr} {S : Key → Bool} {n : Nat}
/-- the new table is stored, and laid anew where it is too full -/
theorem tbl_store {g : Bool → Sem Unit} (hg : ∀ (b : Bool) (s1 : Shared) (Q' : Unit → Shared → Prop), Q' () s1 → wpAny (model P w) A (g b) Q' E s1) {o : Obj} {es es1 : Array (Int × Value)} {ep : Nat} {t t1 : SetTable} {S1 : Key → Bool}
    (ho : s.heap.get? a = some o) (hx : o.ExactSet) (hd : o.data = .set es ep t) (T1 : Tbl P w es1 t1 S1) {dummy : Bool} {R : Option Bool → Shared → Prop} (hR : ∀ h', Heap.SameBut a s.heap h' → SetM0 P w h' a S1 es1.size → R (some true) { s with heap := h' }) :
    wpAny (model P w) A (do
        storeSet a es1 t1
        if (!dummy && t1.tooFull) = true then do
            g (relayAll t1 es1 (SetTable.grown es1.size)).2.2
            storeSet a (relayAll t1 es1 (SetTable.grown es1.size)).1 (relayAll t1 es1 (SetTable.grown es1.size)).2.1
            pure (some true)
          else pure (some true)) R E s := by
  have at1 := store_at (es' := es1) (t' := t1) ho hd
  have sb := Heap.SameBut.update s.heap a (Obj.putSet es1 t1)
  refine wpAny_bind (wpAny_storeSet_of ho hd ?_ (fits_of_scanBound T1.few))
  split
  · have p2 := relayAll_perm t1 es1 (SetTable.grown es1.size)
    have T2 := T1.perm p2 (relayAll_fits t1 es1 (SetTable.grown es1.size)) (relayAll_ris t1 es1 (SetTable.grown es1.size)) (T1.led.imp id fun z => by rw [relayAll_led]; exact z)
    have sz2 : (relayAll t1 es1 (SetTable.grown es1.size)).1.size = es1.size := by rw [← Array.length_toList, p2.length_eq, Array.length_toList]
    refine wpAny_bind (hg _ _ _ (wpAny_bind (wpAny_storeSet_of at1 rfl ?_ (fits_of_scanBound T2.few))))
    exact wpAny_pure (hR _ (sb.trans (Heap.SameBut.update _ a _)) ⟨_, _, _, _, store_at at1 rfl, hx, rfl, sz2, T2⟩)
  · exact wpAny_pure (hR _ sb ⟨_, es1, _, t1, at1, hx, rfl, rfl, T1⟩)
theorem setM_hashed {k : Key} {x : Value} {Q : Bool → Shared → Prop} (hk : (mixKind P w).is k x = true) (hsc : x.scannable = true) (R : SetM0 P w s.heap a S n) (room : n + 1 < scanBound)
    (hQ : ∀ h', Heap.SameBut a s.heap h' → SetM0 P w h' a (fun j => S j || decide (j = k)) (if S k = true then n else n + 1) → Q (!S k) { s with heap := h' }) :
    wpAny (model P w) A (setAddHashed a x ((mixKind P w).hash k)) Q E s := by
  obtain ⟨o, es, ep, t, ho, hx, hd, hn, T⟩ := R
  unfold setAddHashed setAddHashedIn
  refine wpAny_holding (wpAny_bind (wpAny_setState_of ho hd T.fits ?_))
  dsimp only
  rw [byScan_of hsc T.few T.el]
  simp only [↓reduceIte]
  unfold setAddByScan
  refine wpAny_bind (wpAny_bind (wpAny_rule (wpAny_bind (wpAny_setScan_of hk ho hd T.fits T.el ?_))))
  cases found : List.findIdx? (fun e => (mixKind P w).is k e.2) es.toList with
  | some j =>
    dsimp only
    obtain ⟨hj, pj, _⟩ := List.findIdx?_eq_some_iff_getElem.mp found
    have old : S k = true := (T.mem k).mpr ⟨es.toList[j], List.getElem_mem hj, pj⟩
    have same : (fun i => S i || decide (i = k)) = S := funext fun i => by
      by_cases z : i = k
      · rw [z, old]; rfl
      · rw [decide_eq_false z, Bool.or_false]
    have q := hQ s.heap (Heap.SameBut.refl a s.heap) (by rw [same, if_pos old]; exact ⟨o, es, ep, t, ho, hx, hd, hn, T⟩)
    rw [old] at q
    exact wpAny_pure (wpAny_pure q)
  | none =>
    dsimp only
    have new : ¬ k ∈ es.toList.map elKey := fun z => by
      obtain ⟨e, he, q⟩ := (T.mem k).mp ((T.key k).mpr z)
      have c := List.findIdx?_eq_none_iff.mp found e he
      rw [q] at c
      cases c
    have no : S k = false := by
      cases q : S k with
      | false => rfl
      | true => exact absurd ((T.key k).mp q) new
    have told : ∀ (b : Bool) {s1 : Shared} {Q' : Unit → Shared → Prop}, Q' () s1 → wpAny (model P w) A (match b with | true => rule "set.scan.the-table-gave-way" | false => pure ()) Q' E s1 :=
      fun b s1 Q' q => by cases b <;> first | exact wpAny_pure q | exact wpAny_rule q
    have pm := layNew_perm t es ((mixKind P w).hash k) x
    rw [Array.toList_push] at pm
    have pc := pm.trans (List.perm_append_singleton _ _)
    have hf := layNew_fits t es ((mixKind P w).hash k) x
    have hr := layNew_ris t es ((mixKind P w).hash k) x T.ris
    have hl := layNew_led t es ((mixKind P w).hash k) x
    generalize layNew t es ((mixKind P w).hash k) x = Z at pm pc hf hr hl ⊢
    obtain ⟨es1, t1, dummy, gave⟩ := Z
    dsimp only at pm pc hf hr hl ⊢
    have sz : es1.size = n + 1 := by rw [← Array.length_toList, pc.length_eq, List.length_cons, Array.length_toList, hn]
    have pk : (es1.toList.map elKey).Perm (k :: es.toList.map elKey) := by
      have := pc.map elKey
      rw [List.map_cons, is_elKey (e := ((mixKind P w).hash k, x)) hk] at this
      exact this
    have T1 : Tbl P w es1 t1 (fun j => S j || decide (j = k)) := ⟨(T.el.push hk hsc).perm pm, mem_push_iff hk T.mem pm, pk.nodup_iff.mpr (List.nodup_cons.mpr ⟨new, T.nd⟩), by rw [sz]; exact room, hf, hr, T.led.imp id fun z => by rw [hl]; exact z⟩
    have fin : ∀ h', Heap.SameBut a s.heap h' → SetM0 P w h' a (fun j => S j || decide (j = k)) es1.size → Q true { s with heap := h' } := fun h' sb r => by
      have q := hQ h' sb
      rw [no] at q
      rw [sz] at r
      exact q r
    have off : Tbl P w es1 { t1 with plain := false } (fun j => S j || decide (j = k)) := { T1 with fits := SetTable.fits_plain_off hf }
    refine wpAny_bind (told _ ?_)
    split
    · refine wpAny_bind ?_
      rw [hashByValue_scannable 8 hsc]
      refine wpAny_pure ?_
      refine tbl_store (fun b s1 Q' q => by cases b <;> first | exact wpAny_pure q | exact wpAny_rule q) ho hx hd (t1 := _) (S1 := fun j => S j || decide (j = k)) ?_ fun h' sb r => ?_
      · split
        · exact T1
        · exact off
      · dsimp only
        exact wpAny_pure (fin h' sb r)
    · refine wpAny_bind (wpAny_pure ?_)
      simp only [↓reduceIte]
      refine tbl_store (fun b s1 Q' q => by cases b <;> first | exact wpAny_pure q | exact wpAny_rule q) ho hx hd T1 fun h' sb r => ?_
      dsimp only
      exact wpAny_pure (fin h' sb r)
end
end FB
set_option Elab.async false
set_option linter.all false
set_option maxRecDepth 100000
set_option maxHeartbeats 4000000
/-! What a caught error says of itself. -/
namespace FB
open PySem PySem.Spec PyProof.Rows L2 Evl
/-! ### list.count of flat items -/
def rCntF (K : PySem.W.Frag) : V → List V → Hp → VK → Prop := fun x xs H Q => ∃ (a : Addr) (ys : List V) (y : V), x = .ref a ∧ xs = [y] ∧ SqL K H a ys ∧ flatV y = true ∧ ys.all flatV = true ∧ Q (.int (ys.countP (fun z => eqV z y) : Nat)) H
theorem count_flat {y : V} : ∀ {ys : List V} {us : List Value}, Vals ys us → ys.all flatV = true → us.countP (eqU y) = ys.countP (fun z => eqV z y)
  | _, _, .nil, _ => rfl
  | z :: ys, u :: us, .cons r rr, f => by
    rw [List.all_cons, Bool.and_eq_true] at f
    rw [List.countP_cons, List.countP_cons, count_flat rr f.2, eqU_of r f.1]
theorem mt_countF {X : Cx} : MtR X "list.count" (rCntF X.K) := by
  intro pins s σ H x xs v us Q I rx rxs h
  obtain ⟨a, ys, y, rfl, rfl, hs, fy, fys, q⟩ := h
  cases rx
  obtain ⟨uy, rfl, ry⟩ := rxs.one
  obtain ⟨its, rv, ⟨⟨cls, dd, data, sl⟩, n, ho, hc, hdn, hd⟩, hlen⟩ := I.list hs
  cases hc
  cases hd
  refine call_meets PySem.F.slot_list_count ⟨_, ho, rfl⟩ PySem.F.entry_list_count (PySem.F.args_list_count_2 _ _)
    (SeqAt.list_countAt a its.toArray n dd sl uy (eqU y)) ⟨ho, fun u hu => mem_eqAt ry fy rv fys u (List.mem_toArray.mp hu), ?_⟩
  rw [show its.toArray.toList.countP (eqU y) = ys.countP (fun z => eqV z y) from count_flat rv fys]
  exact ⟨.int (ys.countP (fun z => eqV z y) : Nat), H, I.tok _, ⟨_, rfl⟩, q⟩
/-! ### isinstance of the caught error -/
/-- what an own error class says of itself -/
structure ErC (K : PySem.W.Frag) (D : Addr) : Prop where
  cl : (PySem.W.clsIn K D).isSome = true
  ga : PySem.W.findIn K (.ref D) "__getattribute__" = some (some (.builtin "BaseException.__getattribute__"))
  gt : PySem.W.findIn K (.ref D) "__getattr__" = some none
  sb : PySem.W.subIn K (.ref D) (.type "BaseException") = some true
  ca : PySem.W.findIn K (.ref D) "__class__" = some (some (.builtin "object.__class__"))
  sp : PySem.W.specialIn K (.builtin "object.__class__") "__get__" = some (some (.builtin "getset_descriptor.__get__"))
  tk : PySem.W.takesIn K (.builtin "object.__class__") = some true
  mr : PySem.W.mroIn K D (.type "object") = some true
/-- the error's own dict, if it has one, stands -/
def HasD (H : Hp) (d : Option Addr) : Prop := d = none ∨ ∃ dd fs, d = some dd ∧ H dd = some (.xd fs)
def rIsX (K : PySem.W.Frag) (cls : Value) (d : Option Addr) (a : Addr) : List V → Hp → VK → Prop := fun xs H Q => ∃ (c : V) (cv : Value) (b : Bool) (D : Addr), xs = [.ref a, c] ∧ (∀ u, RelV c u → u = cv) ∧ cls = .ref D ∧ ErC K D ∧ HasD H d ∧ PySem.W.kitOne K (.ref D) cv = some b ∧ Q (.bl b) H
theorem call_isX {X : Cx} {a : Addr} {oe : Obj} {cls : Value} {d : Option Addr} {pn : List (Addr × Obj)} (hz : Zc cls d oe) (hf : ∃ vs, oe.data = .fields vs) {K : PySem.W.Frag} (hK : X.K = K := by rfl) : CallR (X.suite a ((a, oe) :: pn)) (.builtin "isinstance") (rIsX K cls d a) := by
  subst hK
  intro pins s σ H xs us Q I r h
  obtain ⟨c, cv, b, D, rfl, hcv, rfl, C, hD, e, q⟩ := h
  cases r with
  | cons rx rr =>
    cases rr with
    | cons rt rr =>
      cases rr
      cases rx
      obtain rfl := hcv _ rt
      obtain ⟨ha, _⟩ := I.pin (a, oe) (List.mem_append_left _ List.mem_cons_self)
      obtain ⟨vs, hv⟩ := hf
      have nc : PySem.W.notCls oe := by unfold PySem.W.notCls; rw [hv] <;> rfl
      have J : ∃ od, PySem.W.InstAt s.heap a oe D od := by
        rcases hD with rfl | ⟨dd, fs, rfl, hx⟩
        · exact ⟨none, ha, hz.1, nc, by rw [hz.2]; trivial⟩
        · obtain ⟨mA, hns, _⟩ : ObjOk X.prog X.w H s.heap dd (.xd fs) := I.hok dd _ hx
          obtain ⟨od, ho, _⟩ := lookIn_ns hns
          exact ⟨some od, ha, hz.1, nc, by rw [hz.2]; exact ho⟩
      obtain ⟨od, J⟩ := J
      exact PySem.W.kia_one (PySem.W.kitx_exc C.cl C.ga C.gt C.sb C.ca C.sp C.tk C.mr) I.kIn J e (fun z => nomatch z) fun tk => ⟨.bl b, H, I.tok _, rfl, q⟩
/-- a stronger wish does as well; the slots are as many as the names -/
theorem pss_impI {X : Cx} {b : List Stmt} {t t' : TS} (h : PSs X b t) (k : ∀ D σ H, σ.length = X.N.length → t' D σ H → t D σ H) : PSs X b t' :=
  ⟨fun pins s σ H D I q => h.run pins s σ H D I (k D σ H I.len q)⟩
/-! ### == and != of ints and texts alone -/
section
variable {H : Hp} {Q : VK} {i j : Int} {z z2 : Str}
theorem x_rEqS : rEq (.str z) (.str z2) H Q ↔ Q (.bl (decide (z = z2))) H := by
  have e0 : decide (V.str z = V.str z2) = decide (z = z2) := by simp
  constructor
  · rintro ⟨_, h⟩; rw [e0] at h; exact h
  · exact fun h => ⟨rfl, by rw [e0]; exact h⟩
theorem x_rNeI : rNe (.int i) (.int j) H Q ↔ Q (.bl (!decide (i = j))) H := by
  have e0 : decide (V.int i = V.int j) = decide (i = j) := by simp
  constructor
  · rintro ⟨_, h⟩; rw [e0] at h; exact h
  · exact fun h => ⟨rfl, by rw [e0]; exact h⟩
end
theorem x_extend {H : Hp} {Q : VK} {l b : Addr} {xs zs : List V} (h1 : H l = some (.lst xs)) (h2 : H b = some (.lst zs)) (hl : xs.length + zs.length ≤ 1000000) (k : ∀ H', (∀ x o, x ≠ l → H x = some o → H' x = some o) → H' l = some (.lst (xs ++ zs)) → Q .non H') : rExtend (.ref l) [.ref b] H Q :=
  ⟨l, b, xs, zs, rfl, rfl, h1, h2, small hl, k _ (fun x o hx h => by rw [upd_ne hx]; exact h) upd_same⟩
/-! ### a tuple's slices -/
theorem x_cutT {K : PySem.W.Frag} {H : Hp} {Q : VK} {a : Addr} {xs : List V} {lo hi : Option Int} (h : SqT K H a xs) (k : ∀ t H', Ex H H' → SqT K H' t (cutV xs lo hi) → Q (.ref t) H') : rSlU K (.ref a) lo hi H Q :=
  .inr ⟨a, xs, rfl, h, fun ⟨e1, e2⟩ => k a H (fun _ _ h => h) (by
    have : cutV xs lo hi = xs := by
      unfold cutV
      rw [e1, e2]
      simp
    rw [this]; exact h), fun _ p hp => k p _ (Ex.new hp) (SqT.of upd_same)⟩
theorem cut_take {xs : List V} {j : Nat} (h : j ≤ xs.length) : cutV xs none (some (j : Int)) = xs.take j := by
  unfold cutV
  rw [HT.sIx_none, HT.sIx_nat, Nat.min_eq_left h]; rfl
theorem cut_drop {xs : List V} {j : Nat} (h : j ≤ xs.length) : cutV xs (some (j : Int)) none = xs.drop j := by
  unfold cutV
  rw [HT.sIx_none, HT.sIx_nat, Nat.min_eq_left h]
  exact List.take_of_length_le (by rw [List.length_drop]; omega)
/-! ### the errors -/
def kinds (i : Nat) : List V := (List.range 13).map fun j => .bl (decide (i = j))
theorem kinds_count : ∀ i, i < 13 → (kinds i).countP (fun z => eqV z (.bl true)) = 1 := by decide
theorem kinds_at : ∀ i, i < 13 → (kinds i)[i]? = some (.bl true) := by decide
theorem kinds_not : ∀ i, i < 13 → ∀ m, m < 13 → m < i → (kinds i)[m]? = some (.bl false) := by decide
/-- the words for the errors, in the order of their classes -/
def errWords : List Str := ["network", "state", "count", "station", "seat", "port", "passenger", "empty", "rates", "lengths", "passengers", "many", "contradiction"]
def errNames : List Str := ["InvalidNetwork", "InvalidState", "InvalidCount", "UnknownStation", "UnknownSeat", "UnknownPort", "UnknownPassenger", "EmptyBoat", "InvalidRates", "InvalidLengths", "InvalidPassengers", "TooManyCandidates", "Contradiction"]
theorem words_at : ∀ i, i < 13 → (errWords.map V.str)[i]? = some (.str (errWords.getD i "")) := by decide
theorem words_first : ∀ i, i < 13 → i ≠ 0 → errWords.getD i "" ≠ "network" := by decide
/-- the error classes: C i is the i-th, CF is above all -/
structure Errs (K : PySem.W.Frag) (mg : Str → Option Value) (CF : Addr) (C : Nat → Addr) : Prop where
  gF : mg "FerryError" = some (.ref CF)
  g : ∀ i, i < 13 → mg (errNames.getD i "") = some (.ref (C i))
  b_ValueError : mg "ValueError" = none
  c : ∀ i, i < 13 → ErC K (C i)
  isi : ∀ i j, i < 13 → j < 13 → PySem.W.kitOne K (.ref (C i)) (.ref (C j)) = some (decide (i = j))
  isv : ∀ i, i < 13 → PySem.W.kitOne K (.ref (C i)) (.type "ValueError") = some true
  exF : ∀ i, i < 13 → PySem.W.exmOne K (.ref (C i)) (.ref CF) = some true
  xf : XfC K (C 0)
  no_station : PySem.W.findIn K (.ref (C 0)) "station" = some none
  no_seat : PySem.W.findIn K (.ref (C 0)) "seat" = some none
/-- the i-th error, with fields if it is the first -/
def ErrIs (C : Nat → Addr) (i : Nat) (st se : V) (cls : Value) (d : Option Addr) (H : Hp) : Prop := cls = .ref (C i) ∧ (if i = 0 then ∃ dd, d = some dd ∧ H dd = some (.xd [("seat", se), ("station", st)]) else d = none)
theorem ErrIs.has {C : Nat → Addr} {i : Nat} {st se : V} {cls : Value} {d : Option Addr} {H : Hp} (h : ErrIs C i st se cls d H) : HasD H d := by
  obtain ⟨_, h⟩ := h
  split at h
  · obtain ⟨dd, rfl, hx⟩ := h; exact .inr ⟨dd, _, rfl, hx⟩
  · exact .inl h
/-- what is told of it -/
def errTell (i : Nat) (st se : V) : List V := if i = 0 then [.str "network", st, se] else [.str (errWords.getD i "")]
theorem x_isX {K : PySem.W.Frag} {mg : Str → Option Value} {CF : Addr} {C : Nat → Addr} {cls : Value} {d : Option Addr} {a : Addr} {i : Nat} {st se : V} {H0 H : Hp} {Q : VK} (R : Errs K mg CF C) (hi : i < 13) (e : ErrIs C i st se cls d H0) (f : Ex H0 H) (j : Nat) (hj : j < 13) (q : Q (.bl (decide (i = j))) H) : rIsX K cls d a [.ref a, .ref (C j)] H Q := by
  refine ⟨_, _, _, C i, rfl, fun u r => r, e.1, R.c i hi, ?_, R.isi i j hi hj, q⟩
  rcases e.has with h | ⟨dd, fs, h, hx⟩
  · exact .inl h
  · exact .inr ⟨dd, fs, h, f _ _ hx⟩
theorem x_isV {K : PySem.W.Frag} {mg : Str → Option Value} {CF : Addr} {C : Nat → Addr} {cls : Value} {d : Option Addr} {a : Addr} {i : Nat} {st se : V} {H0 H : Hp} {Q : VK} (R : Errs K mg CF C) (hi : i < 13) (e : ErrIs C i st se cls d H0) (f : Ex H0 H) (q : Q (.bl true) H) : rIsX K cls d a [.ref a, .ty "ValueError"] H Q := by
  refine ⟨_, _, _, C i, rfl, fun u r => r, e.1, R.c i hi, ?_, R.isv i hi, q⟩
  rcases e.has with h | ⟨dd, fs, h, hx⟩
  · exact .inl h
  · exact .inr ⟨dd, fs, h, f _ _ hx⟩
end FB
set_option Elab.async false
set_option linter.all false
set_option maxRecDepth 100000
set_option maxHeartbeats 1000000
/-! Tables of code objects through a law; a def whose code object is known. -/
namespace FB
open PySem PySem.Spec PyProof.Rows L2 Evl LamX
/-- all but the source of draws and the tables stands -/
def ExN (a b : Addr) (H H' : Hp) : Prop := ∀ x o, H x = some o → x ≠ a → x ≠ b → (∀ ps, o ≠ .tbl ps) → H' x = some o
section
variable {H H1 H2 : Hp} {a b : Addr} {T : List (Addr × Str)}
theorem ExN.of2 (e : Ex2 a b H H1) : ExN a b H H1 := fun x o h h1 h2 _ => e x o h h1 h2
theorem ExN.trans (e : ExN a b H H1) (f : ExN a b H1 H2) : ExN a b H H2 := fun x o h h1 h2 n => f x o (e x o h h1 h2 n) h1 h2 n
theorem ExN.ofN (e : ExtN H H1) : ExN a b H H1 := fun x o h _ _ n => e x o h n
theorem ExN.ex (e : ExN a b H H1) (f : Ex H1 H2) : ExN a b H H2 := fun x o h h1 h2 n => f x o (e x o h h1 h2 n)
theorem eqv_tell {a b : Str} : PyData.eqv (.tuple [.str a]) (.tuple [.str b]) = decide (a = b) := by
  simp only [PyData.eqv, PyData.eqvAll, Bool.and_true]
  by_cases h : a = b
  · simp [h]
  · simp [h]
theorem sh_tell {y : Str} (h : PyData.strOk y = true) : SeqAt.shaped (.tuple [.str y]) = true := by
  unfold SeqAt.shaped
  simp [PyData.canLay0, PyData.canLayAll0, PyData.depth, PyData.depthAll, h]
theorem shIntsT (ns : List Int) : SeqAt.shaped (.tuple (ns.map PyData.int)) = true := by
  have h1 : PyData.canLayAll0 (ns.map PyData.int) = true := layAll fun d hd => by
    obtain ⟨i, _, rfl⟩ := List.mem_map.mp hd; rfl
  have h2 : PyData.depthAll (ns.map PyData.int) ≤ 1 := depthAll_le fun d hd => by
    obtain ⟨i, _, rfl⟩ := List.mem_map.mp hd; simp [PyData.depth]
  have h3 : (PyData.tuple (ns.map PyData.int)).depth ≤ 64 := by rw [PyData.depth]; omega
  unfold SeqAt.shaped
  rw [show (PyData.tuple (ns.map PyData.int)).canLay0 = true by rw [PyData.canLay0]; exact h1]
  simpa using h3
theorem eqv_emptyT (ns : List Int) : PyData.eqv (.tuple (ns.map PyData.int)) (.tuple []) = decide (ns = []) := by
  cases ns with
  | nil => simp [PyData.eqv, PyData.eqvAll]
  | cons a r => simp [PyData.eqv, PyData.eqvAll]
/-- x == (), a tuple of ints -/
theorem x_eqEmptyT {K : PySem.W.Frag} {Q : VK} {x : V} {ns : List Int} (h : Dp K H x (.tuple (ns.map PyData.int))) (k : ∀ H', Ex H H' → Q (.bl (decide (ns = []))) H') : rTup [] H fun z H2 => rEqU K x z H2 Q :=
  x_tup (by simp) fun t H1 n e h1 => x_eqD (Dp.ex e h) (.tup (SqT.of h1) .nil) (shIntsT ns) rfl (by rw [eqv_emptyT]; exact k H1 e)
/-- what was told is compared -/
theorem x_tell {K : PySem.W.Frag} {Q : VK} {p : Addr} {x y : Str} (h : H p = some (.tup [.str x])) (hx : PyData.strOk x = true) (hy : PyData.strOk y = true) (k : ∀ H', Ex H H' → Q (.bl (decide (x = y))) H') : rTup [.str y] H fun z H2 => rEqU K (.ref p) z H2 Q :=
  x_tup (by simp) fun t H1 n e h1 => x_eqD (d := .tuple [.str x]) (e := .tuple [.str y]) (.tup (SqT.of (e _ _ h)) (.cons (.str x) .nil)) (.tup (SqT.of h1) (.cons (.str y) .nil)) (sh_tell hx) (sh_tell hy) (by rw [eqv_tell]; exact k H1 e)
/-- tables are neither lists -/
theorem tabs_ex2 {xs ys : List V} (ha : H a = some (.lst xs)) (hb : H b = some (.lst ys)) (t : Tabs T H) (e : Ex2 a b H H1) : Tabs T H1 := fun p hp => by
  obtain ⟨ps, h1, h2, h3⟩ := t p hp
  have ne : ∀ (x : Addr) (o : HO) (zs : List V) (y : Addr), H y = some (.lst zs) → H x = some o → o ≠ .lst zs → x ≠ y := fun x o zs y hy hx hn z => hn (by rw [z, hy] at hx; exact (Option.some.inj hx).symm)
  have cne : ∀ (c : Addr) (q : Str) (zs : List V), CodeO c q ≠ .lst zs := fun c q zs z => by unfold CodeO at z; cases z
  refine ⟨ps, e _ _ h1 (ne _ _ _ _ ha h1 (by simp)) (ne _ _ _ _ hb h1 (by simp)), h2, fun pos cv hc => ?_⟩
  obtain ⟨c, e1, e2⟩ := h3 pos cv hc
  exact ⟨c, e1, e _ _ e2 (ne _ _ _ _ ha e2 (cne _ _ _)) (ne _ _ _ _ hb e2 (cne _ _ _))⟩
theorem extN_t {K : PySem.W.Frag} {xs : List V} (e : ExtN H H1) (h : SqT K H a xs) : SqT K H1 a xs := by
  rcases h with (h | ⟨o, h⟩) | h
  · exact .inl (.inl (e _ _ h (by simp)))
  · exact .inl (.inr ⟨o, e _ _ h (by simp)⟩)
  · exact .inr h
theorem extN_tx (e : ExtN H H1) : TX H H1 := fun x o h c => e x o h (fun ps z => by rw [z] at c; exact c)
end
section
variable {P : Program} {w : World} {K : PySem.W.Frag} {mg : Str → Option Value} {base : Heap}
/-- a def of the code object c -/
theorem okC {c : Addr} {x qual : Str} {st : Stmt} {f : Addr} {fd : FuncData} {N ps : List Str} {k : Nat} {sp : Sp} (F : Fun K x qual st f fd) (hc : fd.code = .ref c) (S : FnScope N ps (defScope st)) (len : ∀ vs H Q E, sp vs H Q E → vs.length = ps.length)
    (hbody : ∀ (A : Around) (outer : List Env) (s : Shared) (H : Hp) (vs : List V) (Q : VK) (E : XK), Room k (A.deeper (envOfC qual (defScope st) s.heap.objs.size f (.ref c))) → sp vs H Q E →
      ∃ t, PSs (cxOf CX0 P w K mg base N qual (defScope st) f (.ref c) A outer s H E).nox (defBody st) t ∧ t { nx := fun _ H' => Q .non H', rt := Q } (L2.start N vs) H) : FnOk P w K mg base CX0 (k + 1) f fd ps sp := by
  obtain ⟨oc, od, kV, doc, pm, an, cdv, ct, osl, rfl, lk, hcd⟩ := F.ex
  obtain rfl : cdv = .ref c := hc
  exact fn_of lk hcd S len fun A outer s H vs Q E hr hsp => by
    obtain ⟨t, h, q⟩ := hbody A outer s H vs Q E hr hsp
    exact ⟨t, h.nox, q⟩
end
end FB
set_option Elab.async false
set_option linter.all false
set_option maxRecDepth 100000
set_option maxHeartbeats 4000000
set_option exponentiation.threshold 3000
/-! Sets of ints and texts: made, filled, asked, sorted; {x}; gcd, lcm. -/
namespace FB
open PySem PySem.Spec PyProof.Rows L2 Evl
section
variable {P : Program} {w : World} {A : Around} {E : Value → Shared → Prop} {s : Shared} {a : Addr} {S : Key → Bool} {n : Nat}
theorem setM_fresh {h : Heap} : SetM0 P w (h.push { cls := .type "set", dict := none, data := .set #[] 0 (.fresh 0 0 (!w.params.followText "set-order")) }) h.objs.size (fun _ => false) 0 :=
  ⟨_, #[], 0, _, Heap.get?_push_size _ rfl, ⟨rfl, rfl, rfl⟩, rfl, rfl, ⟨fun e he => by simp at he, fun k => by simp, by simp, by decide, by rfl, List.Pairwise.nil, by
    show _ ∨ (!w.params.followText "set-order") = true
    cases w.params.followText "set-order" <;> simp⟩⟩
theorem setM_at {h h' : Heap} (R : SetM0 P w h a S n) (k : ∀ o, h.get? a = some o → h'.get? a = some o) : SetM0 P w h' a S n := by
  obtain ⟨o, es, ep, t, ho, r⟩ := R
  exact ⟨o, es, ep, t, k o ho, r⟩
theorem setM_add {k : Key} {x : Value} {Q : Value → Shared → Prop} (hk : (mixKind P w).is k x = true) (hsc : x.scannable = true) (R : SetM0 P w s.heap a S n) (room : n + 1 < scanBound)
    (q : ∀ h', Heap.SameBut a s.heap h' → SetM0 P w h' a (fun j => S j || decide (j = k)) (if S k = true then n else n + 1) → Q .none { s with heap := h', toks := s.toks + 1 }) :
    wpAny (model P w) A (call (.builtin "set.add") [.ref a, x]) Q E s := by
  refine wpAny_call_entry PySem.F.slot_set_add R.setOf.typeIs PySem.F.entry_set_add ?_ (PySem.F.args_set_add_2 _ _)
  unfold Builtin.«set.add» Builtin.Frozenset.oneOther; simp only [List.isEmpty_nil, bind_assoc]
  unfold Builtin.Frozenset.addrOf setAdd; refine wpAny_bind (wpAny_pure ?_)
  try dsimp only
  refine wpAny_bind (wpAny_pure ?_)
  try dsimp only
  refine wpAny_bind (wpAny_holding (wpAny_bind ((mixKind P w).pyHash hk (setM_hashed (s := { s with toks := s.toks + 1 }) hk hsc R room fun g sb r => ?_))))
  show wpAny (model P w) _ (ret Value.none) _ _ _
  exact wpAny_pure ⟨_, rfl, q g sb r⟩
/-- the members, sorted: ints -/
theorem setM_sortedI {Q : Value → Shared → Prop} (R : SetM0 P w s.heap a S n) (hh : A.handled = none) (hI : ∀ k, S k = true → ∃ i : Int, k = .inl i)
    (q : ∀ s' p (out : Array Value) (c : Nat) (ns : List Int), (∀ b o, s.heap.get? b = some o → s'.heap.get? b = some o) → s'.gens = s.gens → s'.os = s.os → s.heap.objs.size ≤ p →
      s'.heap.get? p = some (seqObj "list" out c) → IntsAre out.toList ns → ns.Pairwise (· < ·) → (∀ i : Int, i ∈ ns ↔ S (.inl i) = true) → ns.length = n → Q (.ref p) s') :
    wpAny (model P w) A (call (.builtin "sorted") [.ref a]) Q E s := by
  obtain ⟨o, es, ep, t, ho, hx, hd, hn, T⟩ := R
  have hlen : es.toList.length = n := by rw [Array.length_toList]; exact hn
  have few := T.few
  refine Calls.call_function_entry kind_sorted plain_sorted entry_sorted (args_sorted1 _) (show wpAny (model P w) _ (Builtin.«sorted» _) _ _ _ from ?_)
  unfold Builtin.«sorted»; refine wpAny_bind (m := checkCount "sorted" 1 1 _) (wpAny_pure (wpAny_bind (collect_set (A := A.in1) hh ⟨o, ho, hx.1, hd⟩ T.fits T.few T.ris T.led fun s1 vs k1 hz g1 o1 pm => ?_)))
  have vl : vs.length = n := by rw [pm.length_eq, List.length_map]; exact hlen
  have el : ∀ e ∈ es.toList, ∃ (i : Int) (tk : Tok), e.2 = .int i tk ∧ elKey e = .inl i := fun e he => by
    obtain ⟨⟨k, hk, _⟩, _⟩ := T.el e he
    obtain ⟨i, rfl⟩ := hI k ((T.mem k).mpr ⟨e, he, hk⟩)
    rcases keyIs_shape (show keyIs (.inl i) e.2 = true from hk) with ⟨j, tk, ek, ev⟩ | ⟨z, tk, ek, ev⟩
    · cases ek; exact ⟨i, tk, ev, is_elKey hk⟩
    · cases ek
  have hin : IntsAre vs (vs.map Builtin.Re.reRawOf) := ints_of vs fun v hv => by
    obtain ⟨e, he, rfl⟩ := List.mem_map.mp (pm.mem_iff.mp hv)
    obtain ⟨i, tk, ev, _⟩ := el e he
    exact ⟨i, tk, ev⟩
  have pk : (vs.map Builtin.Re.reRawOf).Perm (es.toList.map fun e => Builtin.Re.reRawOf e.2) := by
    have := pm.map Builtin.Re.reRawOf
    rwa [List.map_map] at this
  refine wpAny_bind (wpAny_newList ?_ (by rw [vl, ← hlen, sizeLine_eq, Array.length_toList]; unfold scanBound at few; omega))
  have oL : (s1.heap.push (seqObj "list" vs.toArray 0)).get? s1.heap.objs.size = some (seqObj "list" vs.toArray 0) := Heap.get?_push_size _ rfl
  refine wpAny_bind (wpAny_holding (wpAny_call_entry PyProof.Rows.slot_list_sort ⟨_, oL, rfl⟩ PyProof.Rows.entry_list_sort (list_sort_treeAny oL hin (by rw [vl, ← hlen, sizeLine_eq, Array.length_toList]; unfold scanBound at few; omega) fun out ns b1 b2 b3 => ⟨_, rfl, ?_⟩) (args_list_sort _)))
  obtain ⟨c, hc⟩ := sortedHeap_at (vs := vs) (out := out) oL
  have pn : ns.Perm (es.toList.map fun e => Builtin.Re.reRawOf e.2) := b2.trans pk
  have raw : ∀ e ∈ es.toList, elKey e = .inl (Builtin.Re.reRawOf e.2) := fun e he => by
    obtain ⟨i, tk, ev, ek⟩ := el e he
    rw [ek, ev]; rfl
  have mk : es.toList.map elKey = (es.toList.map fun e => Builtin.Re.reRawOf e.2).map Sum.inl := by
    rw [List.map_map]; exact List.map_congr_left fun e he => raw e he
  have nd : (es.toList.map fun e => Builtin.Re.reRawOf e.2).Nodup := by
    have := T.nd
    rw [mk] at this
    exact (List.pairwise_map.mp this).imp fun h e => h (by rw [e])
  refine wpAny_pure ⟨_, rfl, q _ s1.heap.objs.size out c ns (fun b u e => ?_) g1 o1 hz hc b1 (lt_of_le_nodup ns b3 (pn.nodup_iff.mpr nd)) (fun i => ?_) (by rw [pn.length_eq, List.length_map]; exact hlen)⟩
  · have e1 := k1 b u e
    have lb := Heap.lt_size e1
    show (sortedHeap (s1.heap.push (seqObj "list" vs.toArray 0)) s1.heap.objs.size vs out).get? b = some u
    rw [sortedHeap_old (Nat.ne_of_lt lb) (by rw [size_push']; exact Nat.lt_succ_of_lt lb)]; exact Heap.get?_push_of_some _ e1
  · rw [pn.mem_iff, T.key, mk]
    simp
theorem strs_of : ∀ (l : List Value), (∀ v ∈ l, ∃ k tk, v = Value.str k tk) → ∃ ss : List Str, StrsAre l ss ∧ ∀ z, z ∈ ss ↔ ∃ tk, Value.str z tk ∈ l
  | [], _ => ⟨[], .nil, fun z => by simp⟩
  | v :: l, h => by
    obtain ⟨k, tk, rfl⟩ := h v (List.mem_cons_self ..)
    obtain ⟨ss, h1, h2⟩ := strs_of l fun u hu => h u (List.mem_cons_of_mem _ hu)
    refine ⟨k :: ss, .cons k tk h1, fun z => ?_⟩
    rw [List.mem_cons, h2]
    constructor
    · rintro (rfl | ⟨t, ht⟩)
      · exact ⟨tk, List.mem_cons_self ..⟩
      · exact ⟨t, List.mem_cons_of_mem _ ht⟩
    · rintro ⟨t, ht⟩
      rcases List.mem_cons.mp ht with e | e
      · cases e; exact .inl rfl
      · exact .inr ⟨t, e⟩

/-- the members, sorted: texts -/
theorem setM_sortedS {Q : Value → Shared → Prop} (R : SetM0 P w s.heap a S n) (hh : A.handled = none) (hI : ∀ k, S k = true → ∃ z : Str, k = .inr z)
    (q : ∀ s' p (out : Array Value) (c : Nat) (zs : List Str), (∀ b o, s.heap.get? b = some o → s'.heap.get? b = some o) → s'.gens = s.gens → s'.os = s.os → s.heap.objs.size ≤ p →
      s'.heap.get? p = some (seqObj "list" out c) → StrsAre out.toList zs → sortedS zs = true → zs.Nodup → (∀ z : Str, z ∈ zs ↔ S (.inr z) = true) → zs.length = n → Q (.ref p) s') :
    wpAny (model P w) A (call (.builtin "sorted") [.ref a]) Q E s := by
  obtain ⟨o, es, ep, t, ho, hx, hd, hn, T⟩ := R
  have hlen : es.toList.length = n := by rw [Array.length_toList]; exact hn
  have few := T.few
  refine Calls.call_function_entry kind_sorted plain_sorted entry_sorted (args_sorted1 _) (show wpAny (model P w) _ (Builtin.«sorted» _) _ _ _ from ?_)
  unfold Builtin.«sorted»; refine wpAny_bind (m := checkCount "sorted" 1 1 _) (wpAny_pure (wpAny_bind (collect_set (A := A.in1) hh ⟨o, ho, hx.1, hd⟩ T.fits T.few T.ris T.led fun s1 vs k1 hz g1 o1 pm => ?_)))
  have vl : vs.length = n := by rw [pm.length_eq, List.length_map]; exact hlen
  have el : ∀ e ∈ es.toList, ∃ (z : Str) (tk : Tok), e.2 = .str z tk ∧ elKey e = .inr z := fun e he => by
    obtain ⟨⟨k, hk, _⟩, _⟩ := T.el e he
    obtain ⟨z, rfl⟩ := hI k ((T.mem k).mpr ⟨e, he, hk⟩)
    rcases keyIs_shape (show keyIs (.inr z) e.2 = true from hk) with ⟨j, tk, ek, ev⟩ | ⟨y, tk, ek, ev⟩
    · cases ek
    · cases ek; exact ⟨z, tk, ev, is_elKey hk⟩
  obtain ⟨ss, hS, hm⟩ := strs_of vs fun v hv => by
    obtain ⟨e, he, rfl⟩ := List.mem_map.mp (pm.mem_iff.mp hv)
    obtain ⟨z, tk, ev, _⟩ := el e he
    exact ⟨z, tk, ev⟩
  refine wpAny_bind (wpAny_newList ?_ (by rw [vl, ← hlen, sizeLine_eq, Array.length_toList]; unfold scanBound at few; omega))
  have oL : (s1.heap.push (seqObj "list" vs.toArray 0)).get? s1.heap.objs.size = some (seqObj "list" vs.toArray 0) := Heap.get?_push_size _ rfl
  refine wpAny_bind (wpAny_holding (wpAny_call_entry PyProof.Rows.slot_list_sort ⟨_, oL, rfl⟩ PyProof.Rows.entry_list_sort (list_sort_treeKAny strKind_oneLt oL hS.keysOf (fun v₁ v₂ rest e => keyKind_strs (by rw [← e]; exact hS)) (by rw [vl, ← hlen, sizeLine_eq, Array.length_toList]; unfold scanBound at few; omega) fun st' b1 b2 => ⟨_, rfl, ?_⟩) (args_list_sort _)))
  obtain ⟨zs, c1, c2, c3⟩ := sorted_out_str hS b1 b2
  obtain ⟨c, hc⟩ := sortedHeap_at (vs := vs) (out := (arrOf st').map (·.2)) oL
  have strV : ∀ {l : List Value} {ss : List Str}, StrsAre l ss → l.map (fun v => match v with | .str z _ => z | _ => ⟨#[]⟩) = ss := fun {l ss} h => by
    induction h with
    | nil => rfl
    | cons y t r ih => rw [List.map_cons, ih]
  have ps : ss.Perm (es.toList.map fun e => match e.2 with | .str z _ => z | _ => ⟨#[]⟩) := by
    have := pm.map (fun v => match v with | .str z _ => z | _ => (⟨#[]⟩ : Str))
    rw [strV hS, List.map_map] at this
    exact this
  have mk : es.toList.map elKey = (es.toList.map fun e => match e.2 with | .str z _ => z | _ => (⟨#[]⟩ : Str)).map Sum.inr := by
    rw [List.map_map]
    exact List.map_congr_left fun e he => by
      obtain ⟨z, tk, ev, ek⟩ := el e he
      rw [ek]
      show _ = Sum.inr (match e.2 with | .str z _ => z | _ => (⟨#[]⟩ : Str))
      rw [ev]
  have nd : (es.toList.map fun e => match e.2 with | .str z _ => z | _ => (⟨#[]⟩ : Str)).Nodup := by
    have := T.nd
    rw [mk] at this
    exact (List.pairwise_map.mp this).imp fun h e => h (by rw [e])
  have pz := c2.trans ps
  refine wpAny_pure ⟨_, rfl, q _ s1.heap.objs.size _ c zs (fun b u e => ?_) g1 o1 hz hc c1 c3 (pz.nodup_iff.mpr nd) (fun z => ?_) (by rw [pz.length_eq, List.length_map]; exact hlen)⟩
  · have e1 := k1 b u e
    have lb := Heap.lt_size e1
    show (sortedHeap (s1.heap.push (seqObj "list" vs.toArray 0)) s1.heap.objs.size vs _).get? b = some u
    rw [sortedHeap_old (Nat.ne_of_lt lb) (by rw [size_push']; exact Nat.lt_succ_of_lt lb)]; exact Heap.get?_push_of_some _ e1
  · rw [pz.mem_iff, T.key, mk]
    simp
end
/-! ### the rules -/
section
variable {X : Cx} {pins : List (Addr × Obj)} {σ : L2.St} {H : Hp} {s : Shared} {a : Addr} {S : Key → Bool} {n : Nat}
theorem setM_get {P : Program} {w : World} (hP : X.prog = P) (hw : X.w = w) (I : Inv X pins σ H s) (ha : H a = some (SetM P w a S n)) : SetM0 X.prog X.w s.heap a S n := by
  subst hP hw
  exact (I.hok a _ ha).1
theorem setM_ne {P : Program} {w : World} {o : HO} (h : o ≠ SetM P w a S n := by intro z; cases z) : o ≠ SetM P w a S n := h
/-- set() -/
def rSetNew (P : Program) (w : World) : List V → Hp → VK → Prop := fun xs H Q => xs = [] ∧ ∀ p, H p = none → Q (.ref p) (upd H p (SetM P w p (fun _ => false) 0))
theorem call_setM {P : Program} {w : World} (hP : X.prog = P := by rfl) (hw : X.w = w := by rfl) : CallR X (.type "set") (rSetNew P w) := by
  subst hP hw
  intro pins s σ H xs us Q I r ⟨ex, q⟩
  subst ex
  cases r
  exact setR_new fun _ => ⟨.ref _, upd H s.heap.objs.size (SetM X.prog X.w s.heap.objs.size (fun _ => false) 0), I.laid (t' := s.toks) (fun b u e => Heap.get?_push_of_some _ e) (Nat.le_refl _) (setM_obj setM_fresh), rfl, q _ (I.hok.fresh (Nat.le_refl _))⟩
/-- m.add(k) -/
def rSetAdd (P : Program) (w : World) : V → List V → Hp → VK → Prop := fun x xs H Q => ∃ (a : Addr) (k : Key) (S : Key → Bool) (n : Nat), x = V.ref a ∧ xs = [kV k] ∧ H a = some (SetM P w a S n) ∧ n + 1 < scanBound ∧
  Q .non (upd H a (SetM P w a (fun j => S j || decide (j = k)) (if S k = true then n else n + 1)))
theorem inv_add {k : Key} {h' : Heap} (I : Inv X pins σ H s) (ha : H a = some (SetM X.prog X.w a S n)) (sb : Heap.SameBut a s.heap h') (r : SetM0 X.prog X.w h' a (fun j => S j || decide (j = k)) (if S k = true then n else n + 1)) :
    Inv X pins σ (upd H a (SetM X.prog X.w a (fun j => S j || decide (j = k)) (if S k = true then n else n + 1))) { s with heap := h', toks := s.toks + 1 } :=
  I.write (e := a) (t' := s.toks + 1) (by rw [ha]; exact True.intro) (.inl rfl) (fun b u hb hu => (sb.2 b hb).trans hu) (let ⟨o, _, _, _, e, _⟩ := r; ⟨o, e⟩) (setM_obj r)
theorem mt_setAdd : MtR X "set.add" (rSetAdd X.prog X.w) := fun pins s σ H x xs v us Q I rx rxs ⟨a, k, S, n, ex, exs, ha, room, q⟩ => by
  subst ex exs
  cases rx
  cases rxs with
  | cons ry rt =>
    cases rt
    exact setM_add (kV_is ry) (key_scan ry) (setM_get rfl rfl I ha) room fun g sb r => ⟨.non, _, inv_add I ha sb r, rfl, q⟩
def tSetAdd (P : Program) (w : World) (to : TE) (t : TA) : TE := fun σ H Q => to σ H fun x H1 => (∃ a S n, x = V.ref a ∧ H1 a = some (SetM P w a S n)) ∧ t σ H1 fun xs H2 => rSetAdd P w x xs H2 Q
variable {o e : Expr} {es : List Expr} {to : TE} {t : TA} {ap cp : Pos}
theorem pe_setAdd {P : Program} {w : World} (ho : PE X o to) (ha : PA X (e :: es) t) (hP : X.prog = P := by rfl) (hw : X.w = w := by rfl) (h1 : attributeBase o "add" X.env (eval o X.env) = eval o X.env := by rfl)
    (h2 : ((backTo cp (starEach (e :: es) X.env)).all (fun x => !x.1) && (backToKw cp (keywordEach [] X.env)).all (fun x => x.1.isSome) && decide ((e :: es).length + ([] : List Keyword).length + (if ([] : List Keyword).isEmpty then 0 else 1) < 30)) = true := by rfl)
    (h3 : (ap.endLine == cp.line) = true := by rfl) (h4 : starEach (e :: es) X.env = (false, eval e X.env) :: starEach es X.env := by rfl) (h5 : (backTo cp (starEach es X.env)).any (·.1) = false := by rfl) : PE X (.Call (.Attribute o "add" ap) (e :: es) [] cp) (tSetAdd P w to t) := by
  subst hP hw
  refine ⟨fun pins s σ H Q I h => wpAny_Call_method_late h1 h2 h3 rfl (thn (ho.run pins s σ H _ I h) fun v s1 ⟨x, H1, I1, r1, ty, q1⟩ => ?_)⟩
  obtain ⟨a, S, n, rfl, hka⟩ := ty
  have R := (setM_get rfl rfl I1 hka).setOf
  cases r1
  refine ⟨"set", "set.add", PySem.F.plainAttrs_set, PySem.F.slot_set_add, PySem.F.type_set_add, R.typeIs, R.noDict, ?_⟩
  have run := ha.run cp pins s1 σ H1 _ I1 q1
  rw [h4] at run ⊢
  exact Calls.callWith_builtin (show (false || (backTo cp (starEach es X.env)).any (·.1)) = false by rw [h5]; rfl) (Calls.evalArgs_plain (thn run fun us s2 ⟨vs, H2, I2, r2, q2⟩ => mt_setAdd pins s2 σ H2 (.ref a) vs (.ref a) us Q I2 rfl r2 q2))
/-- k in m, k not in m -/
def rSetIn (P : Program) (w : World) (neg : Bool) : V → V → Hp → VK → Prop := fun x y H Q => ∃ (k : Key) (a : Addr) (S : Key → Bool) (n : Nat), x = kV k ∧ y = V.ref a ∧ H a = some (SetM P w a S n) ∧ Q (.bl (if neg then !S k else S k)) H
theorem op_inM {P : Program} {w : World} (hP : X.prog = P := by rfl) (hw : X.w = w := by rfl) : OpR X (compareOp .In) (rSetIn P w false) := by
  subst hP hw
  intro pins s σ H x y v u Q I rx ry ⟨k, a, S, n, ex, ey, ha, q⟩
  subst ex ey
  cases ry
  exact wpAny_inSet_of (kV_is rx) (key_scan rx) (setM_get rfl rfl I ha).setOf ⟨.bl (S k), H, I.tok _, rfl, q⟩
/-- sorted(m): ints; texts -/
def rSortM (P : Program) (w : World) : List V → Hp → VK → Prop := fun vs H Q => ∃ (a : Addr) (S : Key → Bool) (n : Nat), vs = [V.ref a] ∧ H a = some (SetM P w a S n) ∧ n ≤ 1000 ∧
  (((∀ k, S k = true → ∃ i : Int, k = .inl i) ∧ ∀ (ns : List Int) (p : Addr), ns.Pairwise (· < ·) → (∀ i : Int, i ∈ ns ↔ S (.inl i) = true) → ns.length = n → H p = none → Q (.ref p) (upd H p (.lst (ns.map V.int)))) ∨
   ((∀ k, S k = true → ∃ z : Str, k = .inr z) ∧ ∀ (zs : List Str) (p : Addr), sortedS zs = true → zs.Nodup → (∀ z : Str, z ∈ zs ↔ S (.inr z) = true) → zs.length = n → H p = none → Q (.ref p) (upd H p (.lst (zs.map V.str)))))
theorem call_sortM {P : Program} {w : World} (hc : X.calm = true) (hP : X.prog = P := by rfl) (hw : X.w = w := by rfl) : CallR X (.builtin "sorted") (rSortM P w) := by
  subst hP hw
  intro pins s σ H vs us Q I r ⟨a, S, n, ex, ha, hn, hq⟩
  subst ex
  rw [Vals.ref1 r]
  have lay : ∀ (s' : Shared) (p : Nat) (out : Array Value) (c : Nat) (ys : List V), (∀ b o, s.heap.get? b = some o → s'.heap.get? b = some o) → s'.gens = s.gens → s'.os = s.os → s.heap.objs.size ≤ p →
      s'.heap.get? p = some (seqObj "list" out c) → ys.length ≤ 1000 → Vals ys out.toList → (H p = none → Q (.ref p) (upd H p (.lst ys))) → EP X pins σ Q (.ref p) s' := by
    intro s' p out c ys k g o hp hg hl hv q
    have hl2 : ys.length ≤ sizeLine := by rw [sizeLine_eq]; omega
    have hn : H p = none := I.hok.fresh hp
    have J : Inv X pins σ (upd H p (.lst ys)) { s with heap := s'.heap, gens := s'.gens, drawn := s'.drawn, toks := s'.toks } := I.call (ch := []) (Un.laid k hp hn) (I.hok.laid k hp ⟨hl2, out.toList, c, hv, hg⟩) (by rw [g]; exact I.bare) (fun _ z => nomatch z)
    have e : s' = { s with heap := s'.heap, gens := s'.gens, drawn := s'.drawn, toks := s'.toks } := by
      cases s'; cases s; cases o; rfl
    rw [e]
    exact ⟨.ref p, _, J, rfl, q hn⟩
  rcases hq with ⟨hI, q⟩ | ⟨hI, q⟩
  · exact setM_sortedI (setM_get rfl rfl I ha) (I.ok.hd hc) hI fun s' p out c ns k g o hp hg hi hs hm hl => lay s' p out c (ns.map V.int) k g o hp hg (by rw [List.length_map]; omega) (vals_of_ints hi) fun hn => q ns p hs hm hl hn
  · exact setM_sortedS (setM_get rfl rfl I ha) (I.ok.hd hc) hI fun s' p out c zs k g o hp hg hi hs nd hm hl => lay s' p out c (zs.map V.str) k g o hp hg (by rw [List.length_map]; omega) (vals_of_strs hi) fun hn => q zs p hs nd hm hl hn
/-- {x} -/
def tSet1 (P : Program) (w : World) (t : TE) : TE := fun σ H Q => ∀ p, H p = none → t σ (upd H p (SetM P w p (fun _ => false) 0)) fun x H1 => ∃ k : Key, x = kV k ∧ H1 p = some (SetM P w p (fun _ => false) 0) ∧ Q (.ref p) (upd H1 p (SetM P w p (fun j => decide (j = k)) 1))
theorem newSet_at {P : Program} {w : World} {A : Around} {E : Value → Shared → Prop} {Q : Value → Shared → Prop} (q : Q (.ref s.heap.objs.size) { s with heap := s.heap.push { cls := .type "set", dict := none, data := .set #[] 0 (.fresh 0 0 (!w.params.followText "set-order")) } }) :
    wpAny (model P w) A (newSet (.type "set")) Q E s := by
  unfold newSet
  unfold setsByText
  refine wpAny_bind (wpAny_bind (wpAny_askSetting (wpAny_pure ?_)))
  dsimp only
  exact wpAny_newObj_type q
theorem pe_set1 {P : Program} {w : World} {te : TE} {ps : Pos} (h : PE X e te) (hcd : PySem.W.kdsCode X.K X.env.code = true) (hP : X.prog = P := by rfl) (hw : X.w = w := by rfl) (hs : PySem.W.kdsPlain e = true := by rfl) : PE X (.Set [e] 0 ps) (tSet1 P w te) := by
  subst hP hw
  refine ⟨fun pins s σ H Q I hq => ?_⟩
  rw [arm_eval_Set]
  refine wpAny_bind (wpAny_standAt (wpAny_bind (PySem.W.kds_main I.kIn hcd fun b => ?_)))
  rw [PySem.W.kds_star [e] (by rw [List.all_cons, hs]; rfl), arm_evalEach_cons]
  show wpAny (model X.prog X.w) X.A (setDisplay (displayRoad 0 [e]) b [(false, eval e X.env >>= fun v => standAt ps >>= fun _ => pure v)]) _ _ s
  unfold setDisplay
  have road : displayRoad 0 [e] = .oneByOne := by unfold displayRoad; simp
  rw [road]
  rw [if_neg (show ¬ ((DisplayRoad.oneByOne == DisplayRoad.constants) = true) from by decide)]
  refine wpAny_bind (newSet_at ?_)
  dsimp only
  simp only [List.length_cons, List.length_nil, List.findIdx?_cons, List.findIdx?_nil, Option.getD_none, List.take_succ_cons, List.take_zero, List.map_cons, List.map_nil, List.drop_succ_cons, List.drop_zero, List.drop_nil, List.take_nil]
  rw [show (if 0 + 1 > 30 then 0 else ((if false = true then some 0 else Option.map (fun i => i + 1) none) : Option Nat).getD (0 + 1)) = 1 from rfl, List.take_succ_cons, List.take_zero, List.drop_succ_cons, List.drop_zero, List.map_cons, List.map_nil, List.forIn_nil]
  have fresh : H s.heap.objs.size = none := I.hok.fresh (Nat.le_refl _)
  have I0 : Inv X pins σ (upd H s.heap.objs.size (SetM X.prog X.w s.heap.objs.size (fun _ => false) 0)) { s with heap := s.heap.push { cls := .type "set", dict := none, data := .set #[] 0 (.fresh 0 0 (!X.w.params.followText "set-order")) } } :=
    I.laid (t' := s.toks) (fun b u e => Heap.get?_push_of_some _ e) (Nat.le_refl _) (setM_obj setM_fresh)
  refine wpAny_bind (wpAny_holding (wpAny_bind (PySem.W.kds_all ps [e] _ _ (thn (h.run pins _ σ _ _ I0 (hq _ fresh)) fun v s1 ⟨x, H1, I1, r1, k, ex, hm, q⟩ => ?_))))
  subst ex
  refine wpAny_bind (wpAny_holding ?_)
  rw [List.forIn_cons]
  have R := setM_get rfl rfl I1 hm
  refine wpAny_bind (wpAny_bind (wpAny_bind ?_))
  unfold setAdd; refine wpAny_holding (wpAny_bind ((mixKind X.prog X.w).pyHash (kV_is r1) (setM_hashed (s := { s1 with toks := s1.toks + 1 }) (kV_is r1) (key_scan r1) R (by decide) fun g sb r => ?_)))
  have J := inv_add I1 hm sb r
  have eS : (fun j => (fun _ : Key => false) j || decide (j = k)) = fun j => decide (j = k) := by funext j; simp
  rw [show (if (fun _ : Key => false) k = true then 0 else 0 + 1) = 1 from rfl, eS] at J
  refine wpAny_pure ?_
  dsimp only
  rw [List.forIn_nil]
  refine wpAny_pure ?_
  rw [if_neg (show ¬ ((DisplayRoad.oneByOne == DisplayRoad.unsure) = true) from by decide)]
  exact wpAny_pure (wpAny_bind (wpAny_pure (wpAny_pure (wpAny_pure ⟨.ref _, _, J, rfl, q⟩))))
/-! ### readings -/
section
variable {P : Program} {w : World} {H : Hp} {Q : VK} {a : Addr} {S : Key → Bool} {n : Nat} {k : Key}
theorem x_setNew (q : ∀ p H', H p = none → Ex H H' → H' p = some (SetM P w p (fun _ => false) 0) → Q (.ref p) H') : rSetNew P w [] H Q := ⟨rfl, fun p hp => q p _ hp (Ex.new hp) upd_same⟩
def rSetAddI (P : Program) (w : World) (x : V) (H : Hp) : Prop := ∃ a S n, x = V.ref a ∧ H a = some (SetM P w a S n)
theorem x_tSetAdd {to : TE} {t : TA} {σ : L2.St} : tSetAdd P w to t σ H Q = to σ H fun x H1 => rSetAddI P w x H1 ∧ t σ H1 fun xs H2 => rSetAdd P w x xs H2 Q := rfl
theorem x_setIs (h : H a = some (SetM P w a S n)) : rSetAddI P w (.ref a) H := ⟨a, S, n, rfl, h⟩
theorem x_setAdd (h : H a = some (SetM P w a S n)) (hn : n < 1000) (q : ∀ H', (∀ x o, x ≠ a → H x = some o → H' x = some o) → (∀ x, x ≠ a → H' x = none → H x = none) → H' a = some (SetM P w a (fun j => S j || decide (j = k)) (if S k = true then n else n + 1)) → Q .non H') :
    rSetAdd P w (.ref a) [kV k] H Q :=
  ⟨a, k, S, n, rfl, rfl, h, by unfold scanBound; omega, q _ (fun x o hx e => by rw [upd_ne hx]; exact e) (fun x hx e => by rw [upd_ne hx] at e; exact e) upd_same⟩
theorem x_setIn {neg : Bool} (h : H a = some (SetM P w a S n)) (q : Q (.bl (if neg then !S k else S k)) H) : rSetIn P w neg (kV k) (.ref a) H Q := ⟨k, a, S, n, rfl, rfl, h, q⟩
theorem x_sortMI (h : H a = some (SetM P w a S n)) (hn : n ≤ 1000) (hI : ∀ k, S k = true → ∃ i : Int, k = .inl i)
    (q : ∀ (ns : List Int) (p : Addr) (H' : Hp), ns.Pairwise (· < ·) → (∀ i : Int, i ∈ ns ↔ S (.inl i) = true) → ns.length = n → H p = none → Ex H H' → H' p = some (.lst (ns.map V.int)) → Q (.ref p) H') : rSortM P w [.ref a] H Q :=
  ⟨a, S, n, rfl, h, hn, .inl ⟨hI, fun ns p h1 h2 h3 h4 => q ns p _ h1 h2 h3 h4 (Ex.new h4) upd_same⟩⟩
theorem x_sortMS (h : H a = some (SetM P w a S n)) (hn : n ≤ 1000) (hI : ∀ k, S k = true → ∃ z : Str, k = .inr z)
    (q : ∀ (zs : List Str) (p : Addr) (H' : Hp), sortedS zs = true → zs.Nodup → (∀ z : Str, z ∈ zs ↔ S (.inr z) = true) → zs.length = n → H p = none → Ex H H' → H' p = some (.lst (zs.map V.str)) → Q (.ref p) H') : rSortM P w [.ref a] H Q :=
  ⟨a, S, n, rfl, h, hn, .inr ⟨hI, fun zs p h1 h2 h3 h4 h5 => q zs p _ h1 h2 h3 h4 h5 (Ex.new h5) upd_same⟩⟩
/-- {x}, x: it gets its item -/
def rSet1 (P : Program) (w : World) (p : Addr) (x : V) (H1 : Hp) (Q : VK) : Prop := ∃ k : Key, x = kV k ∧ H1 p = some (SetM P w p (fun _ => false) 0) ∧ Q (.ref p) (upd H1 p (SetM P w p (fun j => decide (j = k)) 1))
theorem x_tSet1I {i : Int} {σ : L2.St} (q : ∀ p H', H p = none → Ex H H' → H' p = some (SetM P w p (fun j => decide (j = (.inl i : Key))) 1) → Q (.ref p) H') : tSet1 P w (tC (.int i)) σ H Q := fun p hp =>
  ⟨.inl i, rfl, upd_same, by rw [upd_upd]; exact q p _ hp (Ex.new hp) upd_same⟩
end
end
/-! ### gcd and lcm, numbers of any size that stay small enough -/
section
variable {X : Cx}
def rGcdU (vs : List V) (H : Hp) (Q : VK) : Prop := ∃ a b : Int, vs = [.int a, .int b] ∧ Q (.int ((Nat.gcd a.natAbs b.natAbs : Nat) : Int)) H
theorem call_gcdU : CallR X (.builtin "math.gcd") rGcdU := cr_gcd
def rLcmU (vs : List V) (H : Hp) (Q : VK) : Prop := ∃ a b : Nat, vs = [.int a, .int b] ∧ a < 2 ^ 1000 ∧ b < 2 ^ 1000 ∧ Q (.int ((Nat.lcm a b : Nat) : Int)) H
theorem call_lcmU : CallR X (.builtin "math.lcm") rLcmU := by
  intro pins s σ H vs us Q I r ⟨a, b, ex, ha, hb, q⟩
  subst ex
  obtain ⟨t, u, rfl⟩ := Vals.int2 r
  have l1 : (max 1 (a : Int).natAbs).log2 ≤ 999 := PySem.W.mg_log (by show max 1 (a : Int).natAbs < 2 ^ 1000; rw [Int.natAbs_natCast]; exact Nat.max_lt.mpr ⟨by decide, ha⟩)
  have l2 : (max (a : Int).natAbs (b : Int).natAbs).log2 ≤ 999 := PySem.W.mg_log (by show max (a : Int).natAbs (b : Int).natAbs < 2 ^ 1000; rw [Int.natAbs_natCast, Int.natAbs_natCast]; exact Nat.max_lt.mpr ⟨ha, hb⟩)
  have e1 : (Nat.lcm 1 (a : Int).natAbs).lcm (b : Int).natAbs = Nat.lcm a b := by rw [PySem.W.mc_lcm_one, Int.natAbs_natCast, Int.natAbs_natCast]
  have hs : ((((Nat.lcm 1 (a : Int).natAbs).lcm (b : Int).natAbs : Nat) : Int)).natAbs.log2 < bitsLine := by
    rw [e1, Int.natAbs_natCast]
    have : Nat.lcm a b < 2 ^ 2000 := Nat.lt_of_le_of_lt (PySem.W.mc_lcm_le a b) (by
      rw [show (2 : Nat) ^ 2000 = 2 ^ 1000 * 2 ^ 1000 by rw [← Nat.pow_add]]
      exact Nat.mul_lt_mul'' ha hb)
    have h3 : (Nat.lcm a b).log2 ≤ 1999 := PySem.W.mg_log this
    have : bitsLine = 134217728 := by decide
    omega
  have m := PySem.W.mg_run_lcm (a : Int) t (b : Int) u (by omega) (by omega) hs
  rw [e1] at m
  exact PySem.call_function_meets PySem.W.MGF.kind_lcm PySem.W.MGF.plain_lcm PySem.W.MGF.entry_lcm (PySem.W.MGF.args_lcm _ _) m.meets ⟨.int _, H, I.tok _, ⟨_, rfl⟩, q⟩
end
end FB
set_option Elab.async false
set_option linter.all false
set_option maxRecDepth 100000
set_option maxHeartbeats 4000000
/-! zip of a tuple and a list: each side by a flag (a tuple: true). -/
namespace FB
open PySem PySem.Spec PyProof.Rows L2 Evl
def ItAt (tp : Bool) (h : Heap) (i l : Addr) (k : Nat) : Prop := match tp with | true => h.IsTupleIter i l k | false => h.IsListIter i l k
def CoAt (tp : Bool) (h : Heap) (l : Addr) (us : Array Value) : Prop := match tp with | true => h.IsTuple l us | false => h.IsList l us
section
variable {tp : Bool} {h h' : Heap} {i l c : Addr} {k : Nat} {us : Array Value}
theorem ItAt.but (t : ItAt tp h i l k) (e : Heap.ExtBut c h h') (n : i ≠ c) : ItAt tp h' i l k := by
  cases tp
  · exact Heap.IsListIter.extBut t e n
  · exact Heap.IsTupleIter.extBut t e n
theorem CoAt.but (t : CoAt tp h l us) (e : Heap.ExtBut c h h') (n : l ≠ c) : CoAt tp h' l us := by
  cases tp
  · exact Heap.IsList.extBut t e n
  · exact Heap.IsTuple.extBut t e n
theorem ItAt.kept (t : ItAt tp h i l k) (e : ∀ o, h.get? i = some o → h'.get? i = some o) : ItAt tp h' i l k := by
  cases tp
  · exact Heap.IsListIter.at t e
  · exact Heap.IsTupleIter.at t e
theorem ItAt.ob (t : ItAt tp h i l k) : ∃ o, h.get? i = some o ∧ ∀ v, o.data ≠ .cell v := by
  cases tp
  · obtain ⟨o, e, _, d⟩ := t
    exact ⟨o, e, fun v z => by rw [d] at z; cases z⟩
  · obtain ⟨o, e, _, d⟩ := t
    exact ⟨o, e, fun v z => by rw [d] at z; cases z⟩
theorem CoAt.ob (t : CoAt tp h l us) : ∃ o, h.get? l = some o := by
  cases tp
  · obtain ⟨o, e, _⟩ := t
    exact ⟨o, e⟩
  · obtain ⟨o, e, _⟩ := t
    exact ⟨o, e⟩
end
section
variable {P : Program} {w : World} {A : Around} {E : Value → Shared → Prop} {s : Shared} {tp tq : Bool} {i l : Addr} {k : Nat} {us : Array Value} {u : Value}
theorem nx_item {Q : Value → Shared → Prop} (t : ItAt tp s.heap i l k) (co : CoAt tp s.heap l us) (hu : us[k]? = some u) (q : ∀ h', ItAt tp h' i l (k + 1) → Heap.SameBut i s.heap h' → Q u { s with heap := h' }) :
    wpAny (model P w) A (Builtin.SmallTypes.nextOf (.ref i)) Q E s := by
  cases tp
  · exact wpAny_nextOf_list_item t co hu q
  · exact RZ.nextOf_tuple_item t co hu q
theorem nx_end {Q : Value → Shared → Prop} (hd : A.handled = none) (t : ItAt tp s.heap i l k) (co : CoAt tp s.heap l us) (hu : us[k]? = none)
    (q : ∀ h' e, Heap.ExtBut i s.heap h' → (∃ o, h'.get? e = some o ∧ o.cls = .type "StopIteration") → E (.ref e) { s with heap := h' }) : wpAny (model P w) A (Builtin.SmallTypes.nextOf (.ref i)) Q E s := by
  cases tp
  · exact wpAny_nextOf_list_end hd t co hu q
  · exact RZ.nextOf_tuple_end hd t co hu q
variable {z a1 a2 j l2 : Addr} {k2 : Nat} {ws : Array Value} {v x y : Value}
/-- what stands around a zip object: its two iterators and the tuple that it hands out -/
structure Zp (tp tq : Bool) (h : Heap) (z a1 a2 i j l l2 : Addr) (k k2 : Nat) (us ws : Array Value) (x y f : Value) : Prop where
  ap : ZipApart z a1 a2 i j l l2
  zip : IsZip h z a1 a2 f
  its : IsPair h a1 (.ref i) (.ref j)
  out : IsPair h a2 x y
  one : ItAt tp h i l k
  two : ItAt tq h j l2 k2
  co : CoAt tp h l us
  co2 : CoAt tq h l2 ws

section
variable {f : Value} {h : Heap}
theorem Zp.lz (Z : Zp tp tq h z a1 a2 i j l l2 k k2 us ws x y f) : z < h.objs.size := Heap.lt_size Z.zip
end
theorem zx_free (kz : IsZip s.heap z a1 a2 .none) {Q : Bool → Shared → Prop} (q : Q true s) : wpAny (model P w) A (Builtin.SmallTypes.ownedTupleIsFree (.ref z)) Q E s := by
  unfold Builtin.SmallTypes.ownedTupleIsFree; exact wpAny_bind (wpAny_field (x := .none) kz rfl rfl (wpAny_pure q))
theorem zx_hand {g : Heap} {n : Nat} (kz : IsZip g z a1 a2 .ellipsis) (hs : s.heap = g.push { cls := .type "tuple", data := .seq #[u, v] }) (hn : g.objs.size = n) {Q : Unit → Shared → Prop}
    (q : ∀ g8, IsZip g8 z a1 a2 (rawInt n) → (∀ c o, c ≠ z → g.get? c = some o → g8.get? c = some o) → IsPair g8 n u v → g8.objs.size = n + 1 → Q () { s with heap := g8 }) :
    wpAny (model P w) A (Builtin.SmallTypes.ownedTupleHandOut (.ref z) (.ref n)) Q E s := by
  subst hn
  unfold Builtin.SmallTypes.ownedTupleHandOut; refine wpAny_bind (wpAny_setField_rec (by rw [hs]; exact Heap.get?_push_of_some _ kz) (by simp) fun g7 kz7 e7 => ?_)
  refine wpAny_setField_rec (show IsZip g7 z a1 a2 (rawInt g.objs.size) from kz7) (by simp) fun g8 kz8 e8 => ?_
  have lift : ∀ c o, c ≠ z → g.get? c = some o → g8.get? c = some o := fun c o n e => e8.extBut _ _ n (e7.extBut _ _ n (by rw [hs]; exact Heap.get?_push_of_some _ e))
  have nz : g.objs.size ≠ z := Nat.ne_of_gt (Heap.lt_size kz)
  exact q g8 kz8 lift (e8.extBut _ _ nz (e7.extBut _ _ nz (by rw [hs]; exact Heap.get?_push_size _ rfl))) (by rw [e8.1, e7.1, hs, Heap.size_push])
/-- both sides have an item -/
theorem zx_item (Z : Zp tp tq s.heap z a1 a2 i j l l2 k k2 us ws x y .none) (hu : us[k]? = some u) (hv : ws[k2]? = some v) {Q : Value → Shared → Prop}
    (q : ∀ h', Zp tp tq h' z a1 a2 i j l l2 (k + 1) (k2 + 1) us ws u v (rawInt s.heap.objs.size) → IsPair h' s.heap.objs.size u v → h'.objs.size = s.heap.objs.size + 1 →
      (∀ c o, c ≠ z → c ≠ a2 → c ≠ i → c ≠ j → s.heap.get? c = some o → h'.get? c = some o) → Q (.ref s.heap.objs.size) { s with heap := h' }) :
    wpAny (model P w) A (Builtin.«zip.__next__» ⟨[.ref z], []⟩) (fun fin s' => ∃ r, fin = .done (.ret r) ∧ Q r s') E s := by
  have ap := Z.ap
  show wpAny (model P w) A (field (.ref z) 2 >>= _) _ E s
  refine wpAny_bind (wpAny_field (x := .bool false) Z.zip rfl rfl ?_)
  show wpAny (model P w) A (field (.ref z) 3 >>= _) _ E s
  refine wpAny_bind (wpAny_field (x := .ref a1) Z.zip rfl rfl (wpAny_bind (wpAny_seqItems Z.its rfl ?_)))
  show wpAny (model P w) A (Builtin.SmallTypes.ownedTupleIsFree (.ref z) >>= _) _ E s
  refine wpAny_bind (zx_free Z.zip ?_)
  simp only [if_true]
  refine wpAny_bind (wpAny_rule (wpAny_bind (wpAny_field (x := .ref a2) Z.zip rfl rfl (wpAny_bind (wpAny_setField_rec Z.zip (by simp) fun g1 kz1 e1 => ?_)))))
  have kz1 : IsZip g1 z a1 a2 .ellipsis := kz1
  refine wpAny_bind ?_
  simp only [List.zipIdx_cons, List.zipIdx_nil, List.forIn_cons, List.forIn_nil]
  -- the first side
  refine wpAny_bind (wpAny_bind (wpAny_onRaise (show wpAny (model P w) A (Builtin.SmallTypes.nextOf (.ref i) >>= _) _ _ _ from wpAny_bind (nx_item (Z.one.but e1.extBut ap.i1z) (Z.co.but e1.extBut ap.l1z) hu fun g2 t2 e2 => wpAny_pure ?_))))
  have ko2 : IsPair g2 a2 x y := e2.extBut _ _ ap.TOi1 (e1.extBut _ _ ap.TOz Z.out)
  refine wpAny_bind (wpAny_seqItems ko2 rfl (wpAny_bind (wpAny_updateSeq_pair ko2 fun g3 ko3 e3 => ?_)))
  have ko3 : IsPair g3 a2 u y := ko3
  refine wpAny_bind (wpAny_letGo (wpAny_pure ?_))
  -- the second side
  have two3 : ItAt tq g3 j l2 k2 := ((Z.two.but e1.extBut ap.i2z).but e2.extBut ap.i12.symm).but e3.extBut ap.TOi2.symm
  have cw3 : CoAt tq g3 l2 ws := ((Z.co2.but e1.extBut ap.l2z).but e2.extBut ap.l2i1).but e3.extBut ap.l2TO
  refine wpAny_bind (wpAny_bind (wpAny_onRaise (show wpAny (model P w) A (Builtin.SmallTypes.nextOf (.ref j) >>= _) _ _ _ from wpAny_bind (nx_item two3 cw3 hv fun g4 t4 e4 => wpAny_pure ?_))))
  have ko4 : IsPair g4 a2 u y := e4.extBut _ _ ap.TOi2 ko3
  refine wpAny_bind (wpAny_seqItems ko4 rfl (wpAny_bind (wpAny_updateSeq_pair ko4 fun g5 ko5 e5 => ?_)))
  have ko5 : IsPair g5 a2 u v := ko5
  refine wpAny_bind (wpAny_letGo (wpAny_pure (wpAny_pure (wpAny_bind (wpAny_seqItems ko5 rfl (wpAny_bind (wpAny_newTuple ?_)))))))
  have size5 : g5.objs.size = s.heap.objs.size := by rw [e5.1, e4.1, e3.1, e2.1, e1.1]
  have kz5 : IsZip g5 z a1 a2 .ellipsis := e5.extBut _ _ ap.TOz.symm (e4.extBut _ _ ap.i2z.symm (e3.extBut _ _ ap.TOz.symm (e2.extBut _ _ ap.i1z.symm kz1)))
  have far : ∀ c o, c ≠ z → c ≠ a2 → c ≠ i → c ≠ j → s.heap.get? c = some o → g5.get? c = some o := fun c o n1 n2 n3 n4 e =>
    e5.extBut _ _ n2 (e4.extBut _ _ n4 (e3.extBut _ _ n2 (e2.extBut _ _ n3 (e1.extBut _ _ n1 e))))
  have one5 : ItAt tp g5 i l (k + 1) := ((t2.but e3.extBut ap.TOi1.symm).but e4.extBut ap.i12).but e5.extBut ap.TOi1.symm
  have two5 : ItAt tq g5 j l2 (k2 + 1) := t4.but e5.extBut ap.TOi2.symm
  have co5 : CoAt tp g5 l us := ((((Z.co.but e1.extBut ap.l1z).but e2.extBut ap.l1i1).but e3.extBut ap.l1TO).but e4.extBut ap.l1i2).but e5.extBut ap.l1TO
  have cw5 : CoAt tq g5 l2 ws := (cw3.but e4.extBut ap.l2i2).but e5.extBut ap.l2TO
  show wpAny (model P w) A (Builtin.SmallTypes.ownedTupleHandOut (.ref z) (.ref g5.objs.size) >>= _) _ _ _
  refine wpAny_bind (zx_hand kz5 rfl rfl fun g8 kz8 lift new8 size8 => ?_)
  have kept : ∀ {c o}, c ≠ z → g5.get? c = some o → g8.get? c = some o := fun n e => lift _ _ n e
  have coK : ∀ {b : Bool} {l : Addr} {us : Array Value}, l ≠ z → CoAt b g5 l us → CoAt b g8 l us := fun {b l us} n t => by
    cases b
    · exact Heap.IsList.at t fun o e => lift _ _ n e
    · exact Heap.IsTuple.at t fun o e => lift _ _ n e
  have Z8 : Zp tp tq g8 z a1 a2 i j l l2 (k + 1) (k2 + 1) us ws u v (rawInt s.heap.objs.size) :=
    ⟨ap, by rw [← size5]; exact kz8, kept ap.TIz (far _ _ ap.TIz ap.TITO ap.TIi1 ap.TIi2 Z.its), kept ap.TOz ko5, one5.kept fun o e => lift _ _ ap.i1z e, two5.kept fun o e => lift _ _ ap.i2z e, coK ap.l1z co5, coK ap.l2z cw5⟩
  have fin := q g8 Z8 (by rw [← size5]; exact new8) (by rw [size8, size5]) fun c o n1 n2 n3 n4 e => lift c o n1 (far c o n1 n2 n3 n4 e)
  rw [← size5] at fin
  exact wpAny_pure ⟨_, rfl, fin⟩
/-- one side has ended -/
theorem zx_end (hd : A.handled = none) (Z : Zp tp tq s.heap z a1 a2 i j l l2 k k2 us ws x y .none) (hn : us[k]? = none ∨ ws[k2]? = none) {Q : Fin → Shared → Prop}
    (q : ∀ h' e, (∀ c o, c ≠ z → c ≠ a2 → c ≠ i → c ≠ j → s.heap.get? c = some o → h'.get? c = some o) → (∃ o, h'.get? e = some o ∧ o.cls = .type "StopIteration") → E (.ref e) { s with heap := h' }) :
    wpAny (model P w) A (Builtin.«zip.__next__» ⟨[.ref z], []⟩) Q E s := by
  have ap := Z.ap
  show wpAny (model P w) A (field (.ref z) 2 >>= _) _ E s
  refine wpAny_bind (wpAny_field (x := .bool false) Z.zip rfl rfl ?_)
  show wpAny (model P w) A (field (.ref z) 3 >>= _) _ E s
  refine wpAny_bind (wpAny_field (x := .ref a1) Z.zip rfl rfl (wpAny_bind (wpAny_seqItems Z.its rfl ?_)))
  show wpAny (model P w) A (Builtin.SmallTypes.ownedTupleIsFree (.ref z) >>= _) _ E s
  refine wpAny_bind (zx_free Z.zip ?_)
  simp only [if_true]
  refine wpAny_bind (wpAny_rule (wpAny_bind (wpAny_field (x := .ref a2) Z.zip rfl rfl (wpAny_bind (wpAny_setField_rec Z.zip (by simp) fun g1 kz1 e1 => ?_)))))
  have kz1 : IsZip g1 z a1 a2 .ellipsis := kz1
  refine wpAny_bind ?_
  simp only [List.zipIdx_cons, List.zipIdx_nil, List.forIn_cons, List.forIn_nil]
  cases hk : us[k]? with
  | none =>
    refine wpAny_bind (wpAny_bind (wpAny_onRaise (show wpAny (model P w) A (Builtin.SmallTypes.nextOf (.ref i) >>= _) _ _ _ from wpAny_bind (nx_end hd (Z.one.but e1.extBut ap.i1z) (Z.co.but e1.extBut ap.l1z) hk fun g2 e e2 ⟨oe, hoe, hce⟩ => ?_))))
    have kz2 : IsZip g2 z a1 a2 .ellipsis := e2 _ _ ap.i1z.symm kz1
    have ne : e ≠ z := fun c => by subst c; rw [kz2] at hoe; cases hoe; simp at hce
    exact wpAny_setField_rec kz2 (by simp) fun g3 _ e3 => q g3 e (fun c o n1 _ n3 _ t => e3.extBut _ _ n1 (e2 _ _ n3 (e1.extBut _ _ n1 t))) ⟨oe, e3.extBut _ _ ne hoe, hce⟩
  | some u =>
    have hk2 : ws[k2]? = none := hn.resolve_left fun c => by rw [hk] at c; cases c
    refine wpAny_bind (wpAny_bind (wpAny_onRaise (show wpAny (model P w) A (Builtin.SmallTypes.nextOf (.ref i) >>= _) _ _ _ from wpAny_bind (nx_item (Z.one.but e1.extBut ap.i1z) (Z.co.but e1.extBut ap.l1z) hk fun g2 t2 e2 => wpAny_pure ?_))))
    have ko2 : IsPair g2 a2 x y := e2.extBut _ _ ap.TOi1 (e1.extBut _ _ ap.TOz Z.out)
    refine wpAny_bind (wpAny_seqItems ko2 rfl (wpAny_bind (wpAny_updateSeq_pair ko2 fun g3 ko3 e3 => wpAny_bind (wpAny_letGo (wpAny_pure ?_)))))
    have two3 : ItAt tq g3 j l2 k2 := ((Z.two.but e1.extBut ap.i2z).but e2.extBut ap.i12.symm).but e3.extBut ap.TOi2.symm
    have cw3 : CoAt tq g3 l2 ws := ((Z.co2.but e1.extBut ap.l2z).but e2.extBut ap.l2i1).but e3.extBut ap.l2TO
    refine wpAny_bind (wpAny_bind (wpAny_onRaise (show wpAny (model P w) A (Builtin.SmallTypes.nextOf (.ref j) >>= _) _ _ _ from wpAny_bind (nx_end hd two3 cw3 hk2 fun g4 e e4 ⟨oe, hoe, hce⟩ => ?_))))
    have kz4 : IsZip g4 z a1 a2 .ellipsis := e4 _ _ ap.i2z.symm (e3.extBut _ _ ap.TOz.symm (e2.extBut _ _ ap.i1z.symm kz1))
    have ne : e ≠ z := fun c => by subst c; rw [kz4] at hoe; cases hoe; simp at hce
    exact wpAny_setField_rec kz4 (by simp) fun g5 _ e5 => q g5 e (fun c o n1 n2 n3 n4 t => e5.extBut _ _ n1 (e4 _ _ n4 (e3.extBut _ _ n2 (e2.extBut _ _ n3 (e1.extBut _ _ n1 t))))) ⟨oe, e5.extBut _ _ ne hoe, hce⟩
theorem zn_item (Z : Zp tp tq s.heap z a1 a2 i j l l2 k k2 us ws x y .none) (hu : us[k]? = some u) (hv : ws[k2]? = some v) {Q : Option Value → Shared → Prop}
    (q : ∀ h', Zp tp tq h' z a1 a2 i j l l2 (k + 1) (k2 + 1) us ws u v (rawInt s.heap.objs.size) → IsPair h' s.heap.objs.size u v → h'.objs.size = s.heap.objs.size + 1 →
      (∀ c o, c ≠ z → c ≠ a2 → c ≠ i → c ≠ j → s.heap.get? c = some o → h'.get? c = some o) → Q (some (.ref s.heap.objs.size)) { s with heap := h' }) : wpAny (model P w) A (pyNext (.ref z)) Q E s := by
  have ty : s.TypeIs (.ref z) "zip" := ⟨_, Z.zip, rfl⟩
  unfold pyNext
  exact wpAny_bind (wpAny_attempt (wpAny_callSpecial?_slot (name := Str.ofString "__next__") ty PySem.F.slot_zip_next (wpAny_call_entry PySem.F.slot_zip_next ty PySem.F.entry_zip_next (zx_item Z hu hv fun h' b1 b2 b3 b4 => wpAny_pure (q h' b1 b2 b3 b4)) (PySem.F.args_zip_next_1 _))))
theorem zn_end (hd : A.handled = none) (Z : Zp tp tq s.heap z a1 a2 i j l l2 k k2 us ws x y .none) (hn : us[k]? = none ∨ ws[k2]? = none) {Q : Option Value → Shared → Prop}
    (q : ∀ h', (∀ c o, c ≠ z → c ≠ a2 → c ≠ i → c ≠ j → s.heap.get? c = some o → h'.get? c = some o) → Q none { s with heap := h' }) : wpAny (model P w) A (pyNext (.ref z)) Q E s := by
  have ty : s.TypeIs (.ref z) "zip" := ⟨_, Z.zip, rfl⟩
  unfold pyNext
  refine wpAny_bind (wpAny_attempt (wpAny_callSpecial?_slot (name := Str.ofString "__next__") ty PySem.F.slot_zip_next (wpAny_call_entry PySem.F.slot_zip_next ty PySem.F.entry_zip_next (zx_end (show A.in1.handled = none from hd) Z hn fun h' e far st => ?_) (PySem.F.args_zip_next_1 _))))
  obtain ⟨oe, ge, ce⟩ := st
  exact wpAny_bind (wpAny_isInstance (T := "StopIteration") (b := true) ⟨oe, ge, ce⟩ isSubtype_stop (wpAny_pure (q _ far)))
end
/-- a tuple at a and a list at b, turn by turn: a new pair -/
def ItzX (K : PySem.W.Frag) (a b : Addr) : It :=
  ⟨fun i H => ∃ (xs ys : List V) (x y : V), SqT K H a xs ∧ SqL K H b ys ∧ xs[i]? = some x ∧ ys[i]? = some y,
    fun i H v H' => ∃ T x y, v = .ref T ∧ H T = none ∧ H' = upd H T (.tup [x, y]) ∧ (∀ xs, SqT K H a xs → xs[i]? = some x) ∧ ∀ ys, SqL K H b ys → ys[i]? = some y,
    fun i H => ∃ xs ys : List V, SqT K H a xs ∧ SqL K H b ys ∧ (xs.length ≤ i ∨ ys.length ≤ i)⟩

section
variable {P : Program} {w : World} {A : Around} {E : Value → Shared → Prop} {s : Shared} {a b : Addr} {us ws : Array Value}
abbrev zm1 (h : Heap) (a : Addr) : Heap := h.push { cls := .type "tuple_iterator", data := .fields #[.ref a, .int 0 0] }
abbrev zm2 (h : Heap) (a b : Addr) : Heap := (zm1 h a).push { cls := .type "list_iterator", data := .fields #[.ref b, .int 0 0] }
abbrev zm3 (h : Heap) (a b : Addr) : Heap := (zm2 h a b).push { cls := .type "tuple", data := .seq #[.ref h.objs.size, .ref (zm1 h a).objs.size] }
abbrev zm4 (h : Heap) (a b : Addr) : Heap := (zm3 h a b).push { cls := .type "tuple", data := .seq #[.none, .none] }
abbrev zm5 (h : Heap) (a b : Addr) : Heap := (zm4 h a b).push { cls := .type "zip", data := .fields #[.none, .bool false, .bool false, .ref (zm2 h a b).objs.size, .ref (zm3 h a b).objs.size] }
theorem zm_new (a b : Addr) (us ws : Array Value) :
    Meets (Builtin.«zip.__new__» ⟨[.type "zip", .ref a, .ref b], []⟩) (fun _ R s => s.heap.IsTuple a us ∧ s.heap.IsList b ws ∧ R (.ok (.ret (.ref (zm4 s.heap a b).objs.size))) { s with heap := zm5 s.heap a b }) :=
  .of_wp fun P w A R s h => by
    obtain ⟨hp, g, d, tk, os⟩ := s; obtain ⟨ta, tb, q⟩ := h
    have sz := sub_zip
    have t1 : Heap.IsTuple (Shared.heap ⟨hp, g, d, tk, os⟩) a us := ta
    have t2 : Heap.IsList (Shared.heap ⟨hp.push { cls := .type "tuple_iterator", data := .fields #[.ref a, .int 0 0] }, g, d, tk, os⟩) b ws := Heap.IsList.push tb _
    wp_walk using wpAny_pyIter_tuple t1, wpAny_pyIter_list t2
    exact ⟨_, rfl, q⟩
theorem zm_call (ta : s.heap.IsTuple a us) (tb : s.heap.IsList b ws) {Q : Value → Shared → Prop}
    (q : ∀ h', Zp true false h' (s.heap.objs.size + 4) (s.heap.objs.size + 2) (s.heap.objs.size + 3) s.heap.objs.size (s.heap.objs.size + 1) a b 0 0 us ws .none .none .none →
      (∀ c o, s.heap.get? c = some o → h'.get? c = some o) → Q (.ref (s.heap.objs.size + 4)) { s with heap := h' }) : wpAny (model P w) A (call (.type "zip") [.ref a, .ref b]) Q E s := by
  refine callType_new PySem.F.called_zip (by decide) (PySem.F.typeCall_zip_2 _ _) (PySem.F.newCall_zip_2 _ _) (fun ob => PySem.F.args_object_init_3 ob _ _) PySem.F.entry_zip_new (zm_new a b us ws) ⟨ta, tb, ?_⟩
  have s1 : (zm1 s.heap a).objs.size = s.heap.objs.size + 1 := Heap.size_push ..
  have s2 : (zm2 s.heap a b).objs.size = s.heap.objs.size + 2 := by rw [Heap.size_push, s1]
  have s3 : (zm3 s.heap a b).objs.size = s.heap.objs.size + 3 := by rw [Heap.size_push, s2]
  have s4 : (zm4 s.heap a b).objs.size = s.heap.objs.size + 4 := by rw [Heap.size_push, s3]
  have up1 : ∀ c o, s.heap.get? c = some o → (zm1 s.heap a).get? c = some o := fun c o e => Heap.get?_push_of_some _ e
  have up2 : ∀ c o, (zm1 s.heap a).get? c = some o → (zm2 s.heap a b).get? c = some o := fun c o e => Heap.get?_push_of_some _ e
  have up3 : ∀ c o, (zm2 s.heap a b).get? c = some o → (zm3 s.heap a b).get? c = some o := fun c o e => Heap.get?_push_of_some _ e
  have up4 : ∀ c o, (zm3 s.heap a b).get? c = some o → (zm4 s.heap a b).get? c = some o := fun c o e => Heap.get?_push_of_some _ e
  have up5 : ∀ c o, (zm4 s.heap a b).get? c = some o → (zm5 s.heap a b).get? c = some o := fun c o e => Heap.get?_push_of_some _ e
  have up : ∀ c o, s.heap.get? c = some o → (zm5 s.heap a b).get? c = some o := fun c o e => up5 _ _ (up4 _ _ (up3 _ _ (up2 _ _ (up1 _ _ e))))
  have o5 : (zm5 s.heap a b).get? (zm4 s.heap a b).objs.size = some _ := Heap.get?_push_size _ rfl
  have o4 : (zm5 s.heap a b).get? (zm3 s.heap a b).objs.size = some _ := up5 _ _ (Heap.get?_push_size _ rfl)
  have o3 : (zm5 s.heap a b).get? (zm2 s.heap a b).objs.size = some _ := up5 _ _ (up4 _ _ (Heap.get?_push_size _ rfl))
  have o2 : (zm5 s.heap a b).get? (zm1 s.heap a).objs.size = some _ := up5 _ _ (up4 _ _ (up3 _ _ (Heap.get?_push_size _ rfl)))
  have o1 : (zm5 s.heap a b).get? s.heap.objs.size = some _ := up5 _ _ (up4 _ _ (up3 _ _ (up2 _ _ (Heap.get?_push_size _ rfl))))
  show _ ∧ _
  rw [s2, s3, s4] at o5
  rw [s1, s2] at o3
  rw [s3] at o4
  rw [s1] at o2
  rw [s4]
  have la : a < s.heap.objs.size := let ⟨o, e, _⟩ := ta; Heap.lt_size e
  have lb : b < s.heap.objs.size := let ⟨o, e, _⟩ := tb; Heap.lt_size e
  exact ⟨⟨_, o5, rfl⟩, q _ ⟨PySem.W.ktu_apart s.heap.objs.size a b la lb, o5, o3, o4, ⟨_, o1, rfl, rfl⟩, ⟨_, o2, rfl, rfl⟩, Heap.IsTuple.at ta fun o e => up _ _ e, Heap.IsList.at tb fun o e => up _ _ e⟩ up⟩
end
theorem turn_zipX {P : Program} {w : World} {K : PySem.W.Frag} {elts : List Expr} {kk : Nat} {tpos : Pos} {a b z a1 a2 i1 i2 : Addr} (ap : ZipApart z a1 a2 i1 i2 a b) :
    Turn P w K (.Tuple elts kk tpos) (ItzX K a b) [z, a1, a2, i1, i2] z (fun i h => IsZip h z a1 a2 .none ∧ IsPair h a1 (.ref i1) (.ref i2) ∧ (∃ x y, IsPair h a2 x y) ∧ ItAt true h i1 a i ∧ ItAt false h i2 b i) where
  mem := List.mem_cons_self ..
  obj := fun i h st c hc => by
    obtain ⟨kz, k1, ⟨x, y, k2⟩, t1, t2⟩ := st
    simp only [List.mem_cons, List.not_mem_nil, or_false] at hc
    rcases hc with rfl | rfl | rfl | rfl | rfl
    · exact ⟨_, kz, fun v q => by cases q⟩
    · exact ⟨_, k1, fun v q => by cases q⟩
    · exact ⟨_, k2, fun v q => by cases q⟩
    · exact t1.ob
    · exact t2.ob
  keep := fun i h h' st k => by
    obtain ⟨kz, k1, ⟨x, y, k2⟩, t1, t2⟩ := st
    exact ⟨k z (by simp) _ kz, k a1 (by simp) _ k1, ⟨x, y, k a2 (by simp) _ k2⟩, t1.kept fun o q => k i1 (by simp) o q, t2.kept fun o q => k i2 (by simp) o q⟩
  item := by
    intro X hP hw hK hc i pins s σ H E I hf st hg
    subst hP hw hK
    obtain ⟨kz, k1, ⟨x0, y0, k2⟩, t1, t2⟩ := st
    obtain ⟨xs, ys, x, y, qx, qy, hx, hy⟩ := hg
    obtain ⟨its, rv, p, _⟩ := I.tuple qx
    obtain ⟨jts, rw, p2, _⟩ := I.list qy
    obtain ⟨u, hu, ru⟩ := rv.get hx
    obtain ⟨v, hv, rv2⟩ := rw.get hy
    have lz : z < s.heap.objs.size := Heap.lt_size kz
    have Z : Zp true false s.heap z a1 a2 i1 i2 a b i i its.toArray jts.toArray x0 y0 .none := ⟨ap, kz, k1, k2, t1, t2, p, p2.isList⟩
    refine zn_item Z (u := u) (v := v) (by simpa using hu) (by simpa using hv) fun g Zg new _ far => ⟨_, rfl, wpAny_letOwnedTupleGo_zip (s := { s with heap := g }) Zg.zip fun g2 kz2 sb => ?_⟩
    have new2 : g2.get? s.heap.objs.size = some { cls := .type "tuple", data := .seq #[u, v] } := (sb.2 _ (Nat.ne_of_gt lz)).trans new
    have ok : ObjOk X.prog X.w (upd H s.heap.objs.size (.tup [x, y])) g2 s.heap.objs.size (.tup [x, y]) := ⟨by show 2 ≤ sizeLine; decide, [u, v], .cons ru (.cons rv2 .nil), ⟨_, new2, rfl, _, rfl⟩⟩
    have I1 : Inv X pins σ (upd H s.heap.objs.size (.tup [x, y])) { s with heap := g2 } :=
      I.turnedNew (t' := s.toks) (ch := [z, a1, a2, i1, i2]) (fun c o hb e => (sb.2 c (fun n => hb (by simp [n]))).trans (far c o (fun n => hb (by simp [n])) (fun n => hb (by simp [n])) (fun n => hb (by simp [n])) (fun n => hb (by simp [n])) e)) hf (Nat.le_refl _) ok
    refine ⟨.ref s.heap.objs.size, _, I1, rfl, ⟨_, x, y, rfl, I.hok.fresh (Nat.le_refl _), rfl, fun l hl => by rw [I.tuple_inj hl qx]; exact hx, fun l hl => by rw [I.list_inj hl qy]; exact hy⟩, ⟨kz2, ?_, ⟨u, v, ?_⟩, ?_, ?_⟩, fun c hcm => ?_⟩
    · exact (sb.2 _ ap.TIz).trans Zg.its
    · exact (sb.2 _ ap.TOz).trans Zg.out
    · exact Zg.one.kept fun o e => (sb.2 _ ap.i1z).trans e
    · exact Zg.two.kept fun o e => (sb.2 _ ap.i2z).trans e
    · have lc : c < s.heap.objs.size := by
        simp only [List.mem_cons, List.not_mem_nil, or_false] at hcm
        rcases hcm with rfl | rfl | rfl | rfl | rfl
        · exact lz
        · exact Heap.lt_size k1
        · exact Heap.lt_size k2
        · obtain ⟨_, e, _⟩ := t1.ob; exact Heap.lt_size e
        · obtain ⟨_, e, _⟩ := t2.ob; exact Heap.lt_size e
      rw [upd_ne (Nat.ne_of_lt lc)]; exact (hf c hcm).1
  done := by
    intro X hP hw hK hc i pins s σ H E I hf st hg
    subst hP hw hK
    obtain ⟨kz, k1, ⟨x0, y0, k2⟩, t1, t2⟩ := st
    obtain ⟨xs, ys, qx, qy, en⟩ := hg
    obtain ⟨its, rv, p, _⟩ := I.tuple qx
    obtain ⟨jts, rw, p2, _⟩ := I.list qy
    have n1 := rv.length
    have n2 := rw.length
    have Z : Zp true false s.heap z a1 a2 i1 i2 a b i i its.toArray jts.toArray x0 y0 .none := ⟨ap, kz, k1, k2, t1, t2, p, p2.isList⟩
    have en2 : its.toArray[i]? = none ∨ jts.toArray[i]? = none := en.imp (fun q => by simp; omega) (fun q => by simp; omega)
    exact zn_end (I.ok.hd hc) Z en2 fun g far => ⟨rfl, I.turnedL (t' := s.toks) (ch := [z, a1, a2, i1, i2]) (fun c o hb e => far c o (fun n => hb (by simp [n])) (fun n => hb (by simp [n])) (fun n => hb (by simp [n])) (fun n => hb (by simp [n])) e) hf⟩
  self := fun A i s Q E st h => wpAny_pyIter_zip st.1 h
def iZipX (K : PySem.W.Frag) (ta : TA) : TI := fun σ H R => ta σ H fun vs H1 => ∃ a b xs ys, vs = [.ref a, .ref b] ∧ SqT K H1 a xs ∧ SqL K H1 b ys ∧ R (ItzX K a b) H1
theorem pi_zipX {X : Cx} {e e2 : Expr} {ta : TA} {p pos tpos : Pos} {elts : List Expr} {kk : Nat} (hg : Gl X "zip") (hm : X.mg "zip" = none) (ha : PA X [e, e2] ta)
    (hs : starEach [e, e2] X.env = (false, eval e X.env) :: starEach [e2] X.env := by rfl) (hpl : (backTo pos (starEach [e2] X.env)).any (·.1) = false := by rfl) :
    PI X (.Tuple elts kk tpos) (.Call (.Name "zip" p) [e, e2] [] pos) (iZipX X.K ta) := by
  refine ⟨fun pins s σ H R I h => Call_ (ld_blt I hg hm PyProof.Rows.boot_zip (PyProof.Rows.callWith_type1 (thn (ha.run pos pins s σ H _ I h) fun us s1 ⟨vs, H1, I1, r1, q1⟩ => ?_) hs hpl))⟩
  obtain ⟨a, b, xs, ys, rfl, qx, qy, q⟩ := q1
  obtain rfl : us = [.ref a, .ref b] := by
    cases r1 with
    | cons r rr =>
      cases rr with
      | cons r2 rr =>
        cases rr
        cases r
        cases r2
        rfl
  obtain ⟨its, rv, p1, _⟩ := I1.tuple qx
  obtain ⟨jts, rw, p2, _⟩ := I1.list qy
  refine zm_call p1 p2.isList fun g Z far => wpAny_pyIter_zip Z.zip ?_
  have I2 : Inv X pins σ H1 { s1 with heap := g } := I1.kept (t' := s1.toks) far
  refine ⟨s1.heap.objs.size + 4, [s1.heap.objs.size + 4, s1.heap.objs.size + 2, s1.heap.objs.size + 3, s1.heap.objs.size, s1.heap.objs.size + 1], _, _, H1, rfl, I2, turn_zipX Z.ap, ⟨Z.zip, Z.its, ⟨_, _, Z.out⟩, Z.one, Z.two⟩, fun c hc => ?_, q⟩
  have hle : s1.heap.objs.size ≤ c := by
    simp only [List.mem_cons, List.not_mem_nil, or_false] at hc
    rcases hc with rfl | rfl | rfl | rfl | rfl <;> omega
  exact I1.fpOk hle (I1.hok.fresh hle)
theorem x_iZipX {K : PySem.W.Frag} {ta : TA} {σ : L2.St} {H : Hp} {R : It → Hp → Prop} : iZipX K ta σ H R = ta σ H fun vs H1 => ∃ a b xs ys, vs = [.ref a, .ref b] ∧ SqT K H1 a xs ∧ SqL K H1 b ys ∧ R (ItzX K a b) H1 := rfl
theorem walk_zipX {K : PySem.W.Frag} {a b : Addr} {xs ys : List V} (hn : xs.length = ys.length) : Walk (ItzX K a b) xs.length (fun H => SqT K H a xs ∧ SqL K H b ys) (YPair (fun i => xs[i]?) (fun i => ys[i]?)) := by
  refine ⟨fun i _ hi q => ?_, fun _ q => ⟨xs, ys, q.1, q.2, by omega⟩, fun i H v H' _ q y => ?_⟩
  · have h2 : i < ys.length := by omega
    exact ⟨xs, ys, xs[i], ys[i], q.1, q.2, by simp [hi], by simp [h2]⟩
  · obtain ⟨T, x, z, h1, h2, h3, h4, h5⟩ := y
    exact ⟨T, x, z, h1, h2, h3, h4 xs q.1, h5 ys q.2⟩
end FB
set_option Elab.async false
set_option linter.all false
set_option maxRecDepth 100000
set_option maxHeartbeats 4000000
/-! list(d.values()); k in d; loops over a dict's keys; == of dicts of tuples. -/
namespace FB
open PySem PySem.Spec PyProof.Rows L2 Evl
theorem vals_snd {kvs : List (Key × V)} {vs : List (Key × Value)} (r : KV kvs vs) : Vals (kvs.map (·.2)) (vs.map (·.2)) := by
  unfold KV at r
  induction r with
  | nil => exact .nil
  | cons h _ ih => exact .cons h.2 ih
/-- the view of the values of the dict at d -/
def ViewO (v d : Addr) : HO := .ext fun h => h.IsValuesView v d
section
variable {X : Cx}
def rVals : V → List V → Hp → VK → Prop := fun x xs H Q => ∃ (d : Addr) (kvs : List (Key × V)), x = .ref d ∧ xs = [] ∧ H d = some (.dK kvs) ∧ ∀ v, H v = none → Q (.ref v) (upd H v (ViewO v d))
theorem mt_vals : MtR X "dict.values" rVals := by
  intro pins s σ H x xs v us Q I rx rxs ⟨d, kvs, ex, exs, hd, q⟩
  subst ex exs
  cases rx
  cases rxs
  obtain ⟨_, lo, vs, _, dd⟩ := dk_of I.hok hd
  refine call_meetsIn PySem.F.slot_dict_values dd.typeIs PySem.F.entry_dict_values (PySem.F.args_dict_values_1 _) (meets_dict_values (mixKind X.prog X.w) d lo) ⟨⟨vs, dd⟩, ?_⟩
  have view : (s.heap.push { cls := .type "dict_values", data := .fields #[.ref d] }).IsValuesView s.heap.objs.size d := ⟨_, Heap.get?_push_size _ rfl, rfl, rfl⟩
  refine ⟨.ref s.heap.objs.size, upd H s.heap.objs.size (ViewO s.heap.objs.size d), I.laid (t' := s.toks) (fun b u e => Heap.get?_push_of_some _ e) (Nat.le_refl _) ⟨view, ⟨_, Heap.get?_push_size _ rfl⟩, fun h1 h2 r k => let ⟨o, e, c, f⟩ := r; ⟨o, k _ e, c, f⟩⟩, rfl, q _ (I.hok.fresh (Nat.le_refl _))⟩
/-- list(view) -/
def rListV : List V → Hp → VK → Prop := fun xs H Q => ∃ (v d : Addr) (kvs : List (Key × V)), xs = [.ref v] ∧ H v = some (ViewO v d) ∧ H d = some (.dK kvs) ∧ ∀ l, H l = none → Q (.ref l) (upd H l (.lst (kvs.map (·.2))))
theorem call_listV (hc : X.calm = true) : CallR X (.type "list") rListV := by
  intro pins s σ H xs us Q I r ⟨v, d, kvs, ex, hv, hd, q⟩
  subst ex
  rw [Vals.ref1 r]
  obtain ⟨hz, _, vs, kv, dd⟩ := dk_of I.hok hd
  obtain ⟨ep, hat⟩ := dd.dictAt
  have view : s.heap.IsValuesView v d := (I.hok v _ hv).1
  have hl : kvs.length = vs.length := kv.length
  refine PySem.W.kdl_call (PySem.W.kdl_values (knd := mixKind X.prog X.w) (kvs := vs) (ep := ep)) (I.ok.hd hc) ⟨view, hat⟩ (by omega) fun h' tk acc c k hg hit => ?_
  have rel : Vals (kvs.map (·.2)) acc.toList := by
    have e : acc.toList = vs.map (·.2) := by
      apply List.ext_getElem
      · rw [Array.length_toList, List.length_map]; exact hit.1
      · intro i h1 h2
        have hi : i < acc.size := by rw [Array.length_toList] at h1; exact h1
        obtain ⟨k2, e2⟩ := hit.2 i _ (Array.getElem?_eq_getElem hi)
        rw [List.getElem_map, Array.getElem_toList]
        have hi2 : i < vs.length := by rw [List.length_map] at h2; exact h2
        rw [List.getElem?_eq_getElem hi2] at e2
        rw [Option.some.inj e2]
    rw [e]
    exact vals_snd kv
  exact ⟨.ref s.heap.objs.size, upd H s.heap.objs.size (.lst (kvs.map (·.2))), I.laid (t' := tk) k (Nat.le_refl _) ⟨by rw [List.length_map]; exact hz, acc.toList, c, rel, by rw [Array.toArray_toList]; exact hg⟩, rfl, q _ (I.hok.fresh (Nat.le_refl _))⟩
end
/-- == of two dicts of the same keys, the values equal data -/
def rEqDD (K : PySem.W.Frag) : R2 := fun x y H Q => ∃ (a b : Addr) (ks ls : List (Key × V)), x = .ref a ∧ y = .ref b ∧ H a = some (.dK ks) ∧ H b = some (.dK ls) ∧ ks.length = ls.length ∧
  (∀ p ∈ ks, ∃ u d, valV ls p.1 = some u ∧ Dp K H p.2 d ∧ Dp K H u d ∧ SeqAt.shaped d = true ∧ d.depth ≤ 60 ∧ PyData.eqv d d = true) ∧ Q (.bl true) H
theorem op_eqDD {X : Cx} {K : PySem.W.Frag} (hu : X.A.units + 64 < cLine) (hK : X.K = K := by rfl) : OpR X (compareOp .Eq) (rEqDD K) := by
  subst hK
  intro pins s σ H x y v u Q I rx ry ⟨a, b, ks, ls, ex, ey, ha, hb, hl, hp, q⟩
  subst ex ey
  cases rx
  cases ry
  obtain ⟨_, ya, va, ra, da⟩ := (show ObjOk X.prog X.w H s.heap a (.dK ks) from I.hok a _ ha)
  obtain ⟨_, yb, vb, rb, db⟩ := (show ObjOk X.prog X.w H s.heap b (.dK ls) from I.hok b _ hb)
  have ih : ∀ x y v u, (∃ d, Dp X.K H x d ∧ Dp X.K H y d ∧ SeqAt.shaped d = true ∧ d.depth ≤ 60 ∧ PyData.eqv d d = true) → RelV x v → RelV y u → SeqAt.EqP X.prog X.w X.A.in1 s v u true := fun x y v u ⟨d, h1, h2, sh, dp, e⟩ r1 r2 => by
    obtain ⟨as, q1⟩ := Dp.reads I d x v h1 r1
    obtain ⟨bs, q2⟩ := Dp.reads I d y u h2 r2
    have sh2 : d.canLay0 = true ∧ d.depth ≤ 64 := by
      unfold SeqAt.shaped at sh
      simpa using sh
    have := SeqAt.eqAt_reads d d X.A.in1 s v u as bs q1 q2 sh2.1 sh2.1 (by show X.A.units + 1 + _ < cLine; omega)
    rw [e] at this
    exact this.eqP
  refine PySem.W.rcP_dicts (knd := mixKind X.prog X.w) (r := true) ya yb da db (by omega) (fun _ => hits_run ih rb ra fun p hm => ?_) _ _ ?_
  · obtain ⟨u, d, e1, e2, e3, e4, e5, e6⟩ := hp p hm
    exact ⟨u, e1, d, e2, e3, e4, e5, e6⟩
  · rw [show (va.length == vb.length && true) = true from by rw [← ra.length, ← rb.length, hl]; simp]
    exact ⟨.bl true, H, I, rfl, q⟩
section
variable {K : PySem.W.Frag} {H : Hp} {Q : VK} {a b d v : Addr} {kvs ka kb : List (Key × V)} {k : Key}
theorem x_tyD (h : H d = some (.dK kvs)) : tyV K "dict" (.ref d) H := .inr (.inr (.inl ⟨rfl, .inl ⟨kvs, h⟩⟩))
theorem x_vals (h : H d = some (.dK kvs)) (q : ∀ v H', H v = none → Ex H H' → H' v = some (ViewO v d) → Q (.ref v) H') : rVals (.ref d) [] H Q := ⟨d, kvs, rfl, rfl, h, fun v hv => q v _ hv (Ex.new hv) upd_same⟩
theorem x_listV (hv : H v = some (ViewO v d)) (h : H d = some (.dK kvs)) (q : ∀ l H', H l = none → Ex H H' → H' l = some (.lst (kvs.map (·.2))) → Q (.ref l) H') : rListV [.ref v] H Q := ⟨v, d, kvs, rfl, hv, h, fun l hl => q l _ hl (Ex.new hl) upd_same⟩
/-- k in d -/
def rDIn (y x : V) (H : Hp) (Q : VK) : Prop := ∃ a o, x = .ref a ∧ DGet H a y o ∧ Q (.bl o.isSome) H
theorem x_tDIn {ty td : TE} {σ : L2.St} : tDIn ty td σ H Q = ty σ H fun y H1 => td σ H1 fun x H2 => rDIn y x H2 Q := rfl
theorem x_dIn (h : H a = some (.dK kvs)) (q : Q (.bl (valV kvs k).isSome) H) : rDIn (kV k) (.ref a) H Q := ⟨a, _, rfl, DGet.k h, q⟩
/-- keys of a locked dict -/
def rKeys (x : V) (H : Hp) (R : It → Hp → Prop) : Prop := ∃ d o, x = .ref d ∧ ((∃ kvs, H d = some (.frz o (.dK kvs)) ∧ R (Itk d o kvs) H) ∨ ∃ kvs, H d = some (.frz o (.dT kvs)) ∧ R (Itkt d o kvs) H)
theorem x_iKeys {td : TE} {σ : L2.St} {R : It → Hp → Prop} : iKeys td σ H R = td σ H fun x H1 => rKeys x H1 R := rfl
theorem x_keys {o : Obj} {R : It → Hp → Prop} (h : H d = some (.frz o (.dK kvs))) (q : R (Itk d o kvs) H) : rKeys (.ref d) H R := ⟨d, o, rfl, .inl ⟨kvs, h, q⟩⟩
theorem x_eqDD (h1 : H a = some (.dK ka)) (h2 : H b = some (.dK kb)) (hl : ka.length = kb.length) (hp : ∀ p ∈ ka, ∃ u d, valV kb p.1 = some u ∧ Dp K H p.2 d ∧ Dp K H u d ∧ SeqAt.shaped d = true ∧ d.depth ≤ 60 ∧ PyData.eqv d d = true) (q : Q (.bl true) H) : rEqDD K (.ref a) (.ref b) H Q :=
  ⟨a, b, ka, kb, rfl, rfl, h1, h2, hl, hp, q⟩
end
end FB
set_option Elab.async false
set_option linter.all false
set_option maxRecDepth 100000
set_option maxHeartbeats 1000000
/-! own classes: fields, methods, instances; while without a rule of monotony -/
namespace FB
open PySem PySem.Spec PyProof.Rows L2 Evl
section
variable {K : PySem.W.Frag} {H : Hp} {Q : VK} {ta tv : TE} {t : TA} {f m : Str} {σ : L2.St} {D : Ends} {C : Addr} {sp : Sp} {dvs : List V} {E : XK} {a dx : Addr} {fs : List (Str × V)} {v : V}
def rFld (K : PySem.W.Frag) (x : V) (f : Str) (H : Hp) (Q : VK) : Prop := ∃ a C dx fs v, x = .ref a ∧ H a = some (.ins C dx fs) ∧ Cls K C ∧ NoAttr K C f ∧ fs.lookup f = some v ∧ Q v H
theorem x_tFld : tFld K ta f σ H Q = ta σ H fun x H1 => rFld K x f H1 Q := rfl
theorem x_fld (h : H a = some (.ins C dx fs)) (c : Cls K C) (n : NoAttr K C f) (l : fs.lookup f = some v) (q : Q v H) : rFld K (.ref a) f H Q := ⟨a, C, dx, fs, v, rfl, h, c, n, l, q⟩
def rMethO (C : Addr) (m : Str) (x : V) (H : Hp) (G : Prop) : Prop := ∃ a dx fs, x = .ref a ∧ H a = some (.ins C dx fs) ∧ fs.lookup m = none ∧ G
theorem x_tMeth : tMeth C m sp dvs E ta t σ H Q = ta σ H fun x H1 => rMethO C m x H1 (t σ H1 fun vs H2 => sp (x :: (vs ++ dvs)) H2 Q E) := rfl
theorem x_meth {G : Prop} (h : H a = some (.ins C dx fs)) (l : fs.lookup m = none) (g : G) : rMethO C m (.ref a) H G := ⟨a, dx, fs, rfl, h, l, g⟩
def rSetF (K : PySem.W.Frag) (x : V) (f : Str) (y : V) (H : Hp) (N : Hp → Prop) : Prop := ∃ a C dx fs, x = .ref a ∧ H a = some (.ins C dx fs) ∧ Cls K C ∧ NoAttr K C f ∧ fs.length < 1000 ∧ N (upd H a (.ins C dx (putF f y fs)))
theorem x_sFld : sFld K ta tv f D σ H = tv σ H fun y H1 => ta σ H1 fun x H2 => rSetF K x f y H2 (D.nx σ) := rfl
theorem x_setF {N : Hp → Prop} {y : V} (h : H a = some (.ins C dx fs)) (c : Cls K C) (n : NoAttr K C f) (l : fs.length < 1000) (q : ∀ H', (∀ x o, x ≠ a → H x = some o → H' x = some o) → (∀ x, x ≠ a → H' x = none → H x = none) → H' a = some (.ins C dx (putF f y fs)) → N H') : rSetF K (.ref a) f y H N :=
  ⟨a, C, dx, fs, rfl, h, c, n, l, q _ (fun x o hx e => by rw [upd_ne hx]; exact e) (fun x hx e => by rw [upd_ne hx] at e; exact e) upd_same⟩
def rMakeO (C : Addr) (sp : Sp) (dvs : List V) (E : XK) (vs : List V) (H : Hp) (Q : VK) : Prop := ∀ x dx, H x = none → H dx = none → dx ≠ x → sp (.ref x :: (vs ++ dvs)) (upd (upd H dx (.own x)) x (.ins C dx [])) (fun v H2 => v = .non ∧ Q (.ref x) H2) E
theorem x_tMake : tMake C sp dvs E t σ H Q = t σ H fun vs H1 => rMakeO C sp dvs E vs H1 Q := rfl
theorem x_make {vs : List V} (q : ∀ x dx H', H x = none → Ex H H' → H' x = some (.ins C dx []) → sp (.ref x :: (vs ++ dvs)) H' (fun v H2 => v = .non ∧ Q (.ref x) H2) E) : rMakeO C sp dvs E vs H Q := fun x dx hx hd ne => q x dx _ hx (fun b o e => by
    rw [upd_ne (ne_of_none e hx), upd_ne (ne_of_none e hd)]; exact e) upd_same
theorem x_ipI {g : Int → Int → Int} {i j : Int} : ipI g (.int i) (.int j) H Q ↔ Q (.int (g i j)) H := by
  constructor
  · rintro ⟨_, _, e1, e2, q⟩
    cases e1; cases e2; exact q
  · exact fun q => ⟨_, _, rfl, rfl, q⟩
def rDNotIn (y x : V) (H : Hp) (Q : VK) : Prop := ∃ a o, x = .ref a ∧ DGet H a y o ∧ Q (.bl (!o.isSome)) H
theorem x_tDNotIn {ty td : TE} : tDNotIn ty td σ H Q = ty σ H fun y H1 => td σ H1 fun x H2 => rDNotIn y x H2 Q := rfl
theorem x_dNotIn {kvs : List (Key × V)} {k : Key} (h : H a = some (.dK kvs)) (q : Q (.bl (!(valV kvs k).isSome)) H) : rDNotIn (kV k) (.ref a) H Q := ⟨a, _, rfl, DGet.k h, q⟩
end
theorem while_raw {c : TT} {tb : TS} {D : Ends} {σ : L2.St} {H : Hp} (Pv : L2.St → Hp → Prop) (μ : L2.St → Hp → Nat) (h0 : Pv σ H)
    (hs : ∀ σ H, Pv σ H → ∀ R : Bool → Hp → Prop, (∀ H1, tb { D with nx := fun σ' H' => Pv σ' H' ∧ μ σ' H' < μ σ H, ct := fun σ' H' => Pv σ' H' ∧ μ σ' H' < μ σ H, bk := D.nx } σ H1 → R true H1) → (∀ H1, D.nx σ H1 → R false H1) → c σ H R) : tWhile c tb D σ H := by
  refine ⟨fun m σ H => m = μ σ H ∧ Pv σ H, ⟨_, rfl, h0⟩, ?_⟩
  rintro m σ H ⟨rfl, p⟩
  exact hs σ H p _ (fun H1 q => ⟨_, fun σ' H' ⟨p', l⟩ => ⟨_, l, rfl, p'⟩, q⟩) fun H1 q => q
/-- a method of a class: its code, where it stands, how it is called -/
structure Mf (K : PySem.W.Frag) (C : Addr) (m qual : Str) (st : Stmt) (ps : List Str) (f : Addr) (fd : FuncData) : Prop where
  F : Fun K m qual st f fd
  m : Meth K C m f
  b : Binds K fd ps []
/-- a class with its own __init__ -/
structure Cf (K : PySem.W.Frag) (mg : Str → Option Value) (x qual : Str) (C : Addr) (st : Stmt) (ps : List Str) (f : Addr) (fd : FuncData) : Prop where
  F : Fun K "__init__" qual st f fd
  mkK : Mk K C f
  g : mg x = some (.ref C)
  b : Binds K fd ps []
  cls : Cls K C
end FB
set_option Elab.async false
set_option linter.all false
set_option maxRecDepth 100000
set_option maxHeartbeats 1000000
set_option exponentiation.threshold 20000
namespace K
open PySem PySem.Spec PyProof.Rows L2 Evl FB
local macro_rules | `(tactic| walk_at "run") => `(tactic| try simp only [tSeq, tAsg, tVar, tC, gName, L2.start, List.map_cons, List.map_nil, List.cons_append, List.nil_append, List.length_cons, List.length_nil, List.replicate, List.getElem?_cons_zero, List.getElem?_cons_succ, Option.some.injEq, exists_eq_left', List.set_cons_zero, List.set_cons_succ, V.ref.injEq, tRet, x_tLst, x_tTup, tCons, tCB, tNil, tOp, x_addI, x_mulI, x_rI, x_rI0, x_ltI, x_leI, x_ltS, x_leS, x_eqI, x_neI, x_eqS, x_eqB, x_neB, x_isiI, x_isiS, x_int, x_max, x_min, cxOf, tIfS, tNext, tTest, V.bl.injEq, decide_eq_true_eq, gSub, tAnd, tOr, tNot, tB, tDrop, tBM, x_tFor, iRng1, iList, iTup, x_tLc, tYes, tCall, tIf, tAndV, tOrV, tNotV, tChain, List.append_nil, tUn, if_true, wipe, true_and, x_never, iU, x_itS, kV, Nat.reduceAdd, Nat.reduceSub, List.replicate_zero, x_rU, x_tMkO, iEnumT, x_tDc, x_tDGet, x_tDGet2, x_sDPut, x_tDSetd, x_tDNewK, x_iItems, x_iZip, x_tSAddK, x_tLockV, x_tTupRg, x_tRg2, tPar, tPar3, tBM0, tSl, tNoPart, tPart, x_tSetAdd, x_tDIn, x_iKeys, x_iZipX, x_iZip3, iRevR, tRg1, x_tFld, x_tMeth, x_sFld, x_tMake, tAug, x_ipI, x_tDNotIn, iRng2])
/-! class Timetable: what it is, boats_by, joined_by, first_number -/
section
variable {P : Program} {w : World} {K : PySem.W.Frag} {mg : Str → Option Value} {base : Heap}
theorem putK_le1 {kvs : List (Key × V)} {k : Key} {v : V} : (putK kvs k v).length ≤ kvs.length + 1 := by
  unfold putK
  split <;> simp
/-- where its parts stand -/
structure Tm where
  a : Addr
  dx : Addr
  l : Addr
  D : Addr
  Kd : Addr
  v : V
  u : V
  H0 : Hp
  A : Key → Option Addr
  G : Key → Cnt
  kvs : List (Key × V)
  av : List Addr
def Tm.fs (M : Tm) (p : Int) : List (Str × V) := [("network", M.v), ("next_passenger", .int p), ("waiting", M.u), ("lengths", .ref M.l), ("feeders", .ref M.D), ("known_boats", .ref M.Kd)]
/-- the class's facts -/
structure TF (K : PySem.W.Frag) (C : Addr) : Prop where
  c : Cls K C
  network : NoAttr K C "network"
  next_passenger : NoAttr K C "next_passenger"
  waiting : NoAttr K C "waiting"
  lengths : NoAttr K C "lengths"
  feeders : NoAttr K C "feeders"
  known_boats : NoAttr K C "known_boats"
/-- a table of a network with lengths ls, c times known at most -/
structure TT (K : PySem.W.Frag) (C : Addr) (N : Net) (ls : List Int) (p : Int) (qs : Qs) (M : Tm) (c : Nat) (H : Hp) : Prop where
  ins : H M.a = some (.ins C M.dx (M.fs p))
  net : NetAt K H M.v N
  wai : Dp K H M.u (qsD qs)
  len : H M.l = some (.lst (ls.map V.int))
  feed : Feed M.H0 H M.D N.length (seatsOf N N.length) M.A M.G M.kvs
  fd : H M.D = some (.dK M.kvs)
  kD : M.Kd ≠ M.D
  kA : ∀ q a, M.A q = some a → a ≠ M.Kd
  kH : M.H0 M.Kd = none
  avs : ∀ y ∈ M.av, ∃ o, H y = some o
  lav : M.l ∉ M.av
  kav : M.Kd ∉ M.av
  cache : ∃ ks, H M.Kd = some (.dK ks) ∧ ks.length ≤ c ∧ ∀ k x, valV ks k = some x → ∃ (t : Int) (l : Addr), k = .inl t ∧ x = .ref l ∧ H l = some (.lst ((bts N ls t N.length).map V.int)) ∧ l ∉ M.av
/-- all but its dict of times stands -/
def ExK (M : Tm) (H H' : Hp) : Prop := ∀ x o, x ≠ M.Kd → H x = some o → H' x = some o
theorem ExK.of {M : Tm} {H H' : Hp} (e : Ex H H') : ExK M H H' := fun x o _ h => e x o h
theorem ExK.trans {M : Tm} {H H1 H2 : Hp} (a : ExK M H H1) (b : ExK M H1 H2) : ExK M H H2 := fun x o n h => b x o n (a x o n h)
theorem ExK.ex {M : Tm} {H0 H H' : Hp} (b : ExK M H H') (e : Ex H0 H) (n : H0 M.Kd = none) : Ex H0 H' := fun x o h => b x o (ne_of_none h n) (e x o h)
section
variable {C : Addr} {N : Net} {ls : List Int} {p : Int} {qs : Qs} {M : Tm} {c : Nat} {H H' : Hp}
theorem TT.ex (T : TT K C N ls p qs M c H) (e : Ex H H') : TT K C N ls p qs M c H' := by
  obtain ⟨ks, h1, h2, h3⟩ := T.cache
  exact ⟨e _ _ T.ins, Dp.ex e T.net, Dp.ex e T.wai, e _ _ T.len, T.feed.ex2 e, e _ _ T.fd, T.kD, T.kA, T.kH, (fun y hy => by obtain ⟨o, ho⟩ := T.avs y hy; exact ⟨o, e _ _ ho⟩), T.lav, T.kav, ks, e _ _ h1, h2, fun k x h => by
    obtain ⟨t, l, a, b, d, d2⟩ := h3 k x h
    exact ⟨t, l, a, b, e _ _ d, d2⟩⟩
theorem TT.le {d : Nat} (T : TT K C N ls p qs M c H) (h : c ≤ d) : TT K C N ls p qs M d H := by
  obtain ⟨ks, h1, h2, h3⟩ := T.cache
  exact { T with cache := ⟨ks, h1, by omega, h3⟩ }
theorem TT.tx (T : TT K C N ls p qs M c H) (e : ExK M H H') : TX H H' := by
  obtain ⟨ks, h1, _⟩ := T.cache
  exact fun x o h cc => e x o (fun z => by rw [z, h1] at h; cases h; cases cc) h
theorem TT.put {l : Addr} {t' : Int} {ks : List (Key × V)} (T : TT K C N ls p qs M c H) (h1 : H M.Kd = some (.dK ks)) (h2 : ks.length ≤ c) (h3 : ∀ k x, valV ks k = some x → ∃ (t : Int) (l : Addr), k = .inl t ∧ x = .ref l ∧ H l = some (.lst ((bts N ls t N.length).map V.int)) ∧ l ∉ M.av) (hl : H l = some (.lst ((bts N ls t' N.length).map V.int))) (hla : l ∉ M.av)
    (e : ExK M H H') (h : H' M.Kd = some (.dK (putK ks (.inl t') (.ref l)))) : TT K C N ls p qs M (c + 1) H' := by
  have ne : ∀ x o, H x = some o → (∀ ks, o ≠ .dK ks) → x ≠ M.Kd := fun x o hx hn z => hn ks (by rw [z, h1] at hx; exact (Option.some.inj hx).symm)
  have t := T.tx e
  refine ⟨e _ _ (ne _ _ T.ins fun ks z => by cases z) T.ins, NetAt.tx t T.net, Dp.tx t T.wai (qsD_t qs), e _ _ (ne _ _ T.len fun ks z => by cases z) T.len, ?_, e _ _ (fun z => T.kD z.symm) T.fd, T.kD, T.kA, T.kH, (fun y hy => by
    obtain ⟨o, ho⟩ := T.avs y hy
    exact ⟨o, e _ _ (fun z => T.kav (z ▸ hy)) ho⟩), T.lav, T.kav, ?_⟩
  · refine T.feed.but (fun x o hx => e _ _ (fun z => ?_) (T.feed.ex _ _ hx)) fun q a ha => ?_
    · rw [z, T.kH] at hx; cases hx
    · rw [T.feed.inn q a ha]
      exact e _ _ (T.kA q a ha) (T.feed.inn q a ha)
  · refine ⟨_, h, Nat.le_trans putK_le1 (by omega), fun k x hx => ?_⟩
    have keep : ∀ (l : Addr) (xs : List V), H l = some (.lst xs) → H' l = some (.lst xs) := fun l xs hl => e _ _ (ne _ _ hl fun ks z => by cases z) hl
    rw [valV_put] at hx
    split at hx
    · rename_i hk
      exact ⟨t', l, hk, (Option.some.inj hx).symm, keep _ _ hl, hla⟩
    · obtain ⟨t', l', a, b, d, d2⟩ := h3 k x hx
      exact ⟨t', l', a, b, keep _ _ d, d2⟩
/-- a list of objects that is not its own is changed, a new object is made -/
theorem TT.keep {D a : Addr} {xs : List V} (T : TT K C N ls p qs M c H) (hN : 1 ≤ N.length) (hl : ls.length = N.length) (hD : H D = some (.lst xs)) (hx : ∀ x ∈ xs, ∃ r, x = .ref r) (h0 : M.H0 D = none) (hD' : ∃ o, H' D = some o) (ha : a = D ∨ H a = none) (e0 : ∀ x o, H x = some o → x ≠ D → x ≠ a → H' x = some o) : TT K C N ls p qs M c H' := by
  have e : ∀ x o, H x = some o → x ≠ D → H' x = some o := fun x o h hd => e0 x o h hd (ha.elim (fun z => z ▸ hd) fun ha => ne_of_none h ha)
  have ne : ∀ x o, H x = some o → (∀ ys, o ≠ .lst ys) → x ≠ D := fun x o h hn z => hn xs (by rw [z, hD] at h; exact (Option.some.inj h).symm)
  have ni : ∀ x (ns : List Int), H x = some (.lst (ns.map V.int)) → 1 ≤ ns.length → x ≠ D := fun x ns h h1 z => by
    rw [z, hD] at h
    cases ns with
    | nil => simp at h1
    | cons n r =>
      have h2 : xs = V.int n :: r.map V.int := by cases h; rfl
      obtain ⟨y, hy⟩ := hx (.int n) (by rw [h2]; exact List.mem_cons_self ..)
      cases hy
  have t : TX H H' := fun x o h cc => e x o h (ne x o h fun ys z => by rw [z] at cc; cases cc)
  have k0 : ∀ x o, H x = some o → (∀ ys, o ≠ .lst ys) → H' x = some o := fun x o h hn => e x o h (ne x o h hn)
  obtain ⟨ks, h1, h2, h3⟩ := T.cache
  refine ⟨k0 _ _ T.ins (fun ys z => by cases z), NetAt.tx t T.net, Dp.tx t T.wai (qsD_t qs), e _ _ T.len (ni _ _ T.len (by omega)), ?_, k0 _ _ T.fd (fun ys z => by cases z), T.kD, T.kA, T.kH, (fun y hy => by
    obtain ⟨o, ho⟩ := T.avs y hy
    by_cases z : y = D
    · rw [z]; exact hD'
    · exact ⟨o, e _ _ ho z⟩), T.lav, T.kav, ks, k0 _ _ h1 (fun ys z => by cases z), h2, fun k x h => ?_⟩
  · refine T.feed.but (fun x o h => e x o (T.feed.ex _ _ h) (ne_of_none h h0)) fun q b hb => ?_
    rw [T.feed.inn q b hb]
    exact k0 _ _ (T.feed.inn q b hb) (fun ys z => by cases z)
  · obtain ⟨t, l, a1, b1, d1, d2⟩ := h3 k x h
    exact ⟨t, l, a1, b1, e _ _ d1 (ni _ _ d1 (by rw [bts_len]; omega)), d2⟩
/-- a list that it avoids is changed -/
theorem TT.keepA {D : Addr} {xs : List V} (T : TT K C N ls p qs M c H) (hD : H D = some (.lst xs)) (hA : D ∈ M.av) (h0 : M.H0 D = none) (hD' : ∃ o, H' D = some o) (e : ∀ x o, x ≠ D → H x = some o → H' x = some o) : TT K C N ls p qs M c H' := by
  have ne : ∀ x o, H x = some o → (∀ ys, o ≠ .lst ys) → x ≠ D := fun x o h hn z => hn xs (by rw [z, hD] at h; exact (Option.some.inj h).symm)
  have t : TX H H' := TX.but hD e
  have k0 : ∀ x o, H x = some o → (∀ ys, o ≠ .lst ys) → H' x = some o := fun x o h hn => e x o (ne x o h hn) h
  obtain ⟨ks, h1, h2, h3⟩ := T.cache
  refine ⟨k0 _ _ T.ins (fun ys z => by cases z), NetAt.tx t T.net, Dp.tx t T.wai (qsD_t qs), e _ _ (fun z => T.lav (z ▸ hA)) T.len, ?_, k0 _ _ T.fd (fun ys z => by cases z), T.kD, T.kA, T.kH, (fun y hy => by
    obtain ⟨o, ho⟩ := T.avs y hy
    by_cases z : y = D
    · rw [z]; exact hD'
    · exact ⟨o, e _ _ z ho⟩), T.lav, T.kav, ks, k0 _ _ h1 (fun ys z => by cases z), h2, fun k x h => ?_⟩
  · refine T.feed.but (fun x o h => e x o (ne_of_none h h0) (T.feed.ex _ _ h)) fun q b hb => ?_
    rw [T.feed.inn q b hb]
    exact k0 _ _ (T.feed.inn q b hb) (fun ys z => by cases z)
  · obtain ⟨t, l, a1, b1, d1, d2⟩ := h3 k x h
    exact ⟨t, l, a1, b1, e _ _ (fun z => d2 (z ▸ hA)) d1, d2⟩
/-- what is new may be avoided -/
theorem TT.avoid {D : Addr} (T : TT K C N ls p qs M c H) (hD : H D = none) (e : Ex H H') (hD' : ∃ o, H' D = some o) : TT K C N ls p qs { M with av := D :: M.av } c H' := by
  obtain ⟨ks, h1, h2, h3⟩ := T.cache
  have W := T.ex e
  exact ⟨W.ins, W.net, W.wai, W.len, W.feed, W.fd, W.kD, W.kA, W.kH, fun y hy => (List.mem_cons.mp hy).elim (fun z => z ▸ hD') (W.avs y), fun hy => (List.mem_cons.mp hy).elim (ne_of_none T.len hD) W.lav, fun hy => (List.mem_cons.mp hy).elim (ne_of_none h1 hD) W.kav, ks, e _ _ h1, h2, fun k x h => by
    obtain ⟨t, l, a1, b1, d1, d2⟩ := h3 k x h
    exact ⟨t, l, a1, b1, e _ _ d1, fun hy => (List.mem_cons.mp hy).elim (ne_of_none d1 hD) d2⟩⟩
theorem TT.forget {D : Addr} (T : TT K C N ls p qs { M with av := D :: M.av } c H) : TT K C N ls p qs M c H := by
  obtain ⟨ks, h1, h2, h3⟩ := T.cache
  exact ⟨T.ins, T.net, T.wai, T.len, T.feed, T.fd, T.kD, T.kA, T.kH, fun y hy => T.avs y (List.mem_cons_of_mem _ hy), fun hy => T.lav (List.mem_cons_of_mem _ hy), fun hy => T.kav (List.mem_cons_of_mem _ hy), ks, h1, h2, fun k x h => by
    obtain ⟨t, l, a1, b1, d1, d2⟩ := h3 k x h
    exact ⟨t, l, a1, b1, d1, fun hy => d2 (List.mem_cons_of_mem _ hy)⟩⟩
end
end
end K
set_option Elab.async false
set_option linter.all false
set_option maxRecDepth 100000
set_option maxHeartbeats 4000000
/-! set(xs) of a list of ints and texts: a set that can be sorted. -/
namespace FB
open PySem PySem.Spec PyProof.Rows L2 Evl
section
variable {prog : Program} {w : World} {A : Around} {E : Value → Shared → Prop} {R : Result → Shared → Prop} {s : Shared}
/-- at S there is the set of the keys ks -/
def HasKeys (prog : Program) (w : World) (h : Heap) (S : Addr) (ks : List Key) : Prop := ∃ (T : Key → Bool) (m : Nat), SetM0 prog w h S T m ∧ m ≤ ks.length ∧ ∀ k, T k = true ↔ k ∈ ks
theorem HasKeys.at {h h' : Heap} {S : Addr} {ks : List Key} (r : HasKeys prog w h S ks) (k : ∀ o, h.get? S = some o → h'.get? S = some o) : HasKeys prog w h' S ks := by
  obtain ⟨T, m, z, q⟩ := r
  exact ⟨T, m, setM_at z k, q⟩
theorem HasKeys.add {h' : Heap} {S : Addr} {ks : List Key} {T : Key → Bool} {m : Nat} {k : Key} (hm : m ≤ ks.length) (hT : ∀ k, T k = true ↔ k ∈ ks) (r : SetM0 prog w h' S (fun j => T j || decide (j = k)) (if T k = true then m else m + 1)) : HasKeys prog w h' S (ks ++ [k]) :=
  ⟨_, _, r, by rw [List.length_append, List.length_singleton]; split <;> omega, fun j => by rw [Bool.or_eq_true, hT, decide_eq_true_eq, List.mem_append, List.mem_singleton]⟩
/-- the loop of set.update over what a walk yields -/
theorem setM_update {I : Addr} {fp wr : List Addr} {G : Array GenState → Array GenState → Prop} {n : Nat} {Y : Nat → Value → Prop} {St : Nat → Shared → Prop} (W : WalksS prog w A.in1 I fp wr G n Y St) {S : Addr} (hSf : S ∉ fp) {ks : List Key} (hn : ks.length = n) (hb : n < 1000)
    (hv : ∀ i v, Y i v → ∃ k, ks[i]? = some k ∧ L2.RelV (kV k) v) : ∀ (k i : Nat) (s : Shared), n - i = k → i ≤ n → St i s → HasKeys prog w s.heap S (ks.take i) →
      (∀ s', Moved (S :: wr) G s s' → HasKeys prog w s'.heap S ks → R (.ok (.ret .none)) s') → codeAny (model prog w) A (.builtin "set.update.loop" ⟨[.ref S, .ref I], []⟩) R s := by
  have far : S ∉ wr := fun z => hSf (W.sub _ z)
  intro k
  induction k with
  | zero =>
    intro i s hk hi st r fin
    obtain rfl : i = n := by omega
    refine codeAny_builtin F.entry_set_update_loop (Around.under_plainId F.plain_set_update_loop _ ▸ (show wpAny _ A.in1 (pyNext (.ref I) >>= _) _ _ s from wpAny_bind (W.done s _ _ st fun s' hm => ?_)))
    refine (show wpAny _ A.in1 (ret Value.none) _ _ s' from wpAny_pure (fin s' (hm.mono fun b z => List.mem_cons_of_mem _ z) ?_))
    rw [← hn, List.take_length] at r
    exact r.at fun o e => hm.heap S o far e
  | succ k ih =>
    intro i s hk hi st r fin
    have lt : i < n := by omega
    refine codeAny_builtin F.entry_set_update_loop (Around.under_plainId F.plain_set_update_loop _ ▸ (show wpAny _ A.in1 (pyNext (.ref I) >>= _) _ _ s from wpAny_bind (W.item i s _ _ lt st fun v s' hY st' hm => ?_)))
    obtain ⟨key, hkey, rv⟩ := hv i v hY
    obtain ⟨T, m, R0, hm0, hT⟩ := r.at fun o e => hm.heap S o far e
    have hl : (ks.take i).length ≤ i := by rw [List.length_take]; omega
    refine (show wpAny _ A.in1 (holding [v] (setAdd S v) >>= _) _ _ s' from wpAny_bind (wpAny_holding ?_))
    unfold setAdd
    refine wpAny_holding (wpAny_bind ((mixKind prog w).pyHash (kV_is rv) (setM_hashed (s := { s' with toks := s'.toks + 1 }) (kV_is rv) (key_scan rv) R0 (by unfold scanBound; omega) fun h' sb r2 => ?_)))
    have tk : ks.take (i + 1) = ks.take i ++ [key] := by rw [List.take_add_one, hkey]; rfl
    have ne : ∀ b ∈ fp, b ≠ S := fun b hb z => hSf (z ▸ hb)
    refine wpAny_pure ⟨plainId_quiet F.plain_set_update_loop _, ih (i + 1) _ (by omega) lt (W.frame _ s' _ _ st' (Nat.le_succ _) fun b hb o e => (sb.2 b (ne b hb)).trans e) (tk ▸ HasKeys.add hm0 hT r2) fun s2 hm2 r3 => fin s2 (Moved.trans W.gtrans ((hm.mono fun b z => List.mem_cons_of_mem _ z).then_heap (Nat.le_succ _) fun b o hb e => (sb.2 b fun z => hb (z ▸ List.mem_cons_self)).trans e) hm2) r3⟩
abbrev freshSet (w : World) : Obj := { cls := .type "set", dict := none, data := .set #[] 0 (.fresh 0 0 (!w.params.followText "set-order")) }
/-- set(l) -/
theorem call_set_keys {l : Addr} {its : Array Value} {ks : List Key} {Q : Value → Shared → Prop} (hh : A.handled = none) (hl : s.heap.IsList l its) (hv : ∀ (i : Nat) (v : Value), its[i]? = some v → ∃ k, ks[i]? = some k ∧ L2.RelV (kV k) v) (hn : ks.length = its.size) (hb : its.size < 1000)
    (h : ∀ (h' : Heap) (tk : Nat), HasKeys prog w h' s.heap.objs.size ks → (∀ b o, b < s.heap.objs.size → s.heap.get? b = some o → h'.get? b = some o) → Q (.ref s.heap.objs.size) { s with heap := h', toks := tk }) : wpAny (model prog w) A (call (.type "set") [.ref l]) Q E s := by
  generalize hob : ({ cls := .type "set", dict := none, data := .set #[] 0 (.fresh 0 0 (!w.params.followText "set-order")) } : Obj) = ob
  have hcls : ob.cls = .type "set" := by rw [← hob]
  obtain ⟨c, tl, hmro⟩ := F.called_set.mro
  have made := F.called_set.made; have sub := F.called_set.sub; have c1 := F.called_set.notType; have c2 := F.called_set.canCreate; have c3 := F.typeCall_set_1 (.ref l)
  refine wpAny_call (codeAny_of_tree (show wpAny _ _ (callAny (.type "set") _) _ _ _ from wpAny_pure ⟨Code.quiet_builtin _ (by decide +kernel), codeAny_builtin F.entry_type_call ?_⟩))
  rw [Around.under_plain (weight_type_call_type "set" [.ref l] []) rfl]
  repeat (any_goals (first | assumption | wp_step))
  refine codeAny_mono (code_set_led1 (.ref l) (E := E) (Q₁ := fun obj s₁ => obj = .ref s.heap.objs.size ∧ s₁ = { s with heap := s.heap.push ob }) (by rw [← hob]; exact ⟨rfl, rfl⟩)) fun r s₁ hr => ?_
  rcases r with e | fl
  · exact hr
  rcases fl with obj | _ | _ | _ <;> first | exact hr.elim | skip
  obtain ⟨rfl, rfl⟩ := hr
  have oS : (s.heap.push ob).get? s.heap.objs.size = some ob := Heap.get?_push_size _ (by rw [← hob]; rfl)
  have hT : Shared.TypeIs { s with heap := s.heap.push ob } (.ref s.heap.objs.size) "set" := ⟨_, oS, hcls⟩
  have i1 := F.called_set.init.lookup; have i2 := F.called_set.init.bind (.ref s.heap.objs.size)
  repeat (any_goals (first | assumption | wp_step))
  refine codeAny_mono (codeAny_call_builtin (R := wants (fun r s2 => r = .none ∧ ∃ h' tk, s2 = { s with heap := h', toks := tk } ∧ HasKeys prog w h' s.heap.objs.size ks ∧ (∀ b o, b < s.heap.objs.size → s.heap.get? b = some o → h'.get? b = some o)) E) F.called_set.init.plain F.entry_set_init (check_set_init_1 hT ?_)) fun r2 s2 hr2 => ?_
  · subst hob
    obtain ⟨⟨ocls, odict, odata, oslots⟩, hol, hcl, nl, hdl⟩ := hl
    obtain rfl : ocls = .type "list" := hcl
    obtain rfl : odata = .seq its nl := hdl
    have hol2 : (s.heap.push (freshSet w)).get? l = some { cls := .type "list", dict := odict, data := .seq its nl, slots := oslots } := Heap.get?_push_of_some _ hol
    have hl1 : (s.heap.push (freshSet w)).IsList l its := ⟨_, hol2, rfl, nl, rfl⟩
    have s1 := F.sub_list_set; have s2 := F.sub_list_frozenset; have s3 : (Value.type "list" == Value.type "dict") = false := by decide
    unfold Builtin.«set.__init__» noKeywords Builtin.Frozenset.updateFrom
    generalize hPI : pyIter = PI
    wp_walk
    subst hPI
    apply wpAny_pyIter_list hl1
    apply wpAny_bind
    apply wpAny_runValue
    have lS := Heap.lt_size hol
    have nI : l ≠ (s.heap.push (freshSet w)).objs.size := by rw [Heap.size_push]; exact Nat.ne_of_lt (Nat.lt_succ_of_lt lS)
    have nS : s.heap.objs.size ∉ [(s.heap.push (freshSet w)).objs.size, l] := by
      rw [Heap.size_push]
      intro z
      rcases List.mem_cons.mp z with z | z
      · exact absurd z (Nat.ne_of_lt (Nat.lt_succ_self _))
      · exact absurd (List.mem_singleton.mp z) (Nat.ne_of_gt lS)
    refine setM_update ((Walks.list (A := A.in1.in1.in1) (by simp [hh]) _ l nI its).toS) nS (ks := ks) hn hb hv (its.size - 0) 0 _ (by omega) (Nat.zero_le _) ⟨⟨_, Heap.get?_push_size _ rfl, rfl, rfl⟩, hl1.push _⟩ ?_ fun s' hm hS => ?_
    · refine HasKeys.at (h := s.heap.push (freshSet w)) ?_ fun o e => Heap.get?_push_of_some _ e
      exact ⟨_, 0, setM_fresh, Nat.zero_le _, fun k => by simp⟩
    · obtain ⟨h', g', d', tk', os'⟩ := s'
      obtain rfl : g' = s.gens := hm.gens
      obtain rfl : d' = s.drawn := hm.drawn
      obtain rfl : os' = s.os := hm.os
      show wpAny _ _ _ _ _ _
      refine wpAny_pure (show wpAny _ _ (ret Value.none) _ _ _ from wpAny_pure ⟨rfl, h', tk', rfl, hS, fun b o hlt e => ?_⟩)
      refine hm.heap b o (fun z => ?_) (Heap.get?_push_of_some _ (Heap.get?_push_of_some _ e))
      rcases List.mem_cons.mp z with z | z
      · exact absurd z (Nat.ne_of_lt hlt)
      · rw [List.mem_singleton.mp z, Heap.size_push] at hlt
        exact absurd hlt (by intro q; exact Nat.lt_irrefl _ (Nat.lt_trans (Nat.lt_succ_self _) q))
  · rcases r2 with e | fl
    · exact hr2
    rcases fl with obj | _ | _ | _ <;> first | exact hr2.elim | skip
    obtain ⟨rfl, h', tk, rfl, hS, kk⟩ := hr2
    repeat (any_goals (first | assumption | wp_step))
    exact h _ _ hS kk
end
section
variable {X : Cx}
theorem vals_key : ∀ {ks : List Key} {us : List Value}, Vals (ks.map kV) us → us.length = ks.length ∧ ∀ (i : Nat) (v : Value), us[i]? = some v → ∃ k, ks[i]? = some k ∧ L2.RelV (kV k) v
  | [], us, r => by
    cases r
    exact ⟨rfl, fun i v h => by simp at h⟩
  | k :: ks, us, r => by
    cases r with
    | cons r1 r2 =>
      obtain ⟨h1, h2⟩ := vals_key r2
      refine ⟨by rw [List.length_cons, List.length_cons, h1], fun i v h => ?_⟩
      cases i with
      | zero =>
        simp at h
        exact ⟨k, rfl, h ▸ r1⟩
      | succ i =>
        simp at h
        simpa using h2 i v h
def rSetL (K : PySem.W.Frag) (P : Program) (w : World) : List V → Hp → VK → Prop := fun xs H Q => ∃ (l : Addr) (ks : List Key), xs = [.ref l] ∧ SqL K H l (ks.map kV) ∧ ks.length < 1000 ∧
  ∀ p S n, H p = none → n ≤ ks.length → (∀ k, S k = true ↔ k ∈ ks) → Q (.ref p) (upd H p (SetM P w p S n))
theorem call_setL {K : PySem.W.Frag} {P : Program} {w : World} (hc : X.calm = true) (hK : X.K = K := by rfl) (hP : X.prog = P := by rfl) (hw : X.w = w := by rfl) : CallR X (.type "set") (rSetL K P w) := by
  subst hK hP hw
  intro pins s σ H xs us Q I r ⟨l, ks, ex, hl, hn, q⟩
  subst ex
  rw [Vals.ref1 r]
  obtain ⟨its, rv, pl, hz⟩ := I.list hl
  obtain ⟨e1, e2⟩ := vals_key rv
  refine call_set_keys (I.ok.hd hc) pl.isList (ks := ks) (by simpa using e2) (by simpa using e1.symm) (by rw [List.size_toArray, e1]; exact hn) fun h' tk hS k => ?_
  obtain ⟨T, m, R, hm, hT⟩ := hS
  have kp : ∀ b o, s.heap.get? b = some o → h'.get? b = some o := fun b o e => k b o (Heap.lt_size e) e
  exact ⟨.ref _, upd H s.heap.objs.size (SetM X.prog X.w s.heap.objs.size T m), I.laid (t' := tk) kp (Nat.le_refl _) (setM_obj R), rfl, q _ T m (I.hok.fresh (Nat.le_refl _)) hm hT⟩
theorem x_setOfL {K : PySem.W.Frag} {P : Program} {w : World} {H : Hp} {Q : VK} {l : Addr} {ks : List Key} (h : SqL K H l (ks.map kV)) (hn : ks.length < 1000) (q : ∀ p S n H', H p = none → Ex H H' → H' p = some (SetM P w p S n) → n ≤ ks.length → (∀ k, S k = true ↔ k ∈ ks) → Q (.ref p) H') : rSetL K P w [.ref l] H Q :=
  ⟨l, ks, rfl, h, hn, fun p S n hp h1 h2 => q p S n _ hp (Ex.new hp) upd_same h1 h2⟩
end
end FB
set_option Elab.async false
set_option linter.all false
set_option maxRecDepth 100000
set_option maxHeartbeats 4000000
/-! zip of three tuples. -/
namespace FB
open PySem PySem.Spec PyProof.Rows L2 Evl
/-- the tuples at a, b and c, turn by turn: a new triple -/
def Itz3 (K : PySem.W.Frag) (a b c : Addr) : It :=
  ⟨fun i H => ∃ (xs ys zs : List V) (x y z : V), SqT K H a xs ∧ SqT K H b ys ∧ SqT K H c zs ∧ xs[i]? = some x ∧ ys[i]? = some y ∧ zs[i]? = some z,
    fun i H v H' => ∃ T x y z, v = .ref T ∧ H T = none ∧ H' = upd H T (.tup [x, y, z]) ∧ (∀ xs, SqT K H a xs → xs[i]? = some x) ∧ (∀ ys, SqT K H b ys → ys[i]? = some y) ∧ ∀ zs, SqT K H c zs → zs[i]? = some z,
    fun i H => ∃ xs ys zs : List V, SqT K H a xs ∧ SqT K H b ys ∧ SqT K H c zs ∧ i = xs.length ∧ i = ys.length ∧ i = zs.length⟩
theorem ti_ne {h : Heap} {a i : Addr} {k : Nat} {us : Array Value} (t : h.IsTupleIter i a k) (p : h.IsTuple a us) : a ≠ i := fun e => by
  subst e
  obtain ⟨o, q, c1, _⟩ := t
  obtain ⟨o', q', c2, _⟩ := p
  rw [q] at q'
  cases q'
  rw [c1] at c2
  simp at c2
theorem in1_hd {A : Around} (h : A.handled = none) : A.in1.handled = none := h
theorem turn_zip3 {P : Program} {w : World} {K : PySem.W.Frag} {elts : List Expr} {kk : Nat} {tpos : Pos} {a b c z TI TO i1 i2 i3 : Addr} (D : ZipSep3 z TI TO i1 i2 i3 [i1, a] [i2, b] [i3, c]) :
    Turn P w K (.Tuple elts kk tpos) (Itz3 K a b c) [z, TI, TO, i1, i2, i3] z (fun i h => IsZip h z TI TO .none ∧ IsTupOf3 h TI (.ref i1) (.ref i2) (.ref i3) ∧ (∃ x y v, IsTupOf3 h TO x y v) ∧ h.IsTupleIter i1 a i ∧ h.IsTupleIter i2 b i ∧ h.IsTupleIter i3 c i) where
  mem := List.mem_cons_self ..
  obj := fun i h st c hc => by
    obtain ⟨hz, hTI, ⟨x, y, v, hTO⟩, ⟨o1, e1, _, d1⟩, ⟨o2, e2, _, d2⟩, ⟨o3, e3, _, d3⟩⟩ := st
    simp only [List.mem_cons, List.not_mem_nil, or_false] at hc
    rcases hc with rfl | rfl | rfl | rfl | rfl | rfl
    · exact ⟨_, hz, fun v q => nomatch q⟩
    · exact ⟨_, hTI, fun v q => nomatch q⟩
    · exact ⟨_, hTO, fun v q => nomatch q⟩
    · exact ⟨o1, e1, fun v q => by rw [d1] at q; cases q⟩
    · exact ⟨o2, e2, fun v q => by rw [d2] at q; cases q⟩
    · exact ⟨o3, e3, fun v q => by rw [d3] at q; cases q⟩
  keep := fun i h h' st k => by
    obtain ⟨hz, hTI, ⟨x, y, v, hTO⟩, h1, h2, h3⟩ := st
    exact ⟨k z (by simp) _ hz, k TI (by simp) _ hTI, ⟨x, y, v, k TO (by simp) _ hTO⟩, h1.at fun o q => k i1 (by simp) o q, h2.at fun o q => k i2 (by simp) o q, h3.at fun o q => k i3 (by simp) o q⟩
  item := by
    intro X hP hw hK hc i pins s σ H E I hf st hg
    subst hP hw hK
    obtain ⟨hz, hTI, ⟨x0, y0, v0, hTO⟩, h1, h2, h3⟩ := st
    obtain ⟨xs, ys, zs, x, y, v, hqx, hqy, hqz, hx, hy, hv⟩ := hg
    obtain ⟨its, rv, p, _⟩ := I.tuple hqx
    obtain ⟨its2, rv2, p2, _⟩ := I.tuple hqy
    obtain ⟨its3, rv3, p3, _⟩ := I.tuple hqz
    obtain ⟨u, hu, ru⟩ := rv.get hx
    obtain ⟨u2, hu2, ru2⟩ := rv2.get hy
    obtain ⟨u3, hu3, ru3⟩ := rv3.get hv
    have hzl : z < s.heap.objs.size := Heap.lt_size hz
    have hh := in1_hd (I.ok.hd hc)
    have na : a ≠ i1 := ti_ne h1 (show s.heap.IsTuple a its.toArray from p)
    have nb : b ≠ i2 := ti_ne h2 (show s.heap.IsTuple b its2.toArray from p2)
    have nc : c ≠ i3 := ti_ne h3 (show s.heap.IsTuple c its3.toArray from p3)
    have l1 : i < its.toArray.size := by simpa using (List.getElem?_eq_some_iff.mp hu).1
    have l2 : i < its2.toArray.size := by simpa using (List.getElem?_eq_some_iff.mp hu2).1
    have l3 : i < its3.toArray.size := by simpa using (List.getElem?_eq_some_iff.mp hu3).1
    refine wpAny_pyNext_zipD3_item D (Draws.tuple hh i1 a na its.toArray) (Draws.tuple hh i2 b nb its2.toArray) (Draws.tuple hh i3 c nc its3.toArray) hz hTI hTO ⟨h1, p⟩ ⟨h2, p2⟩ ⟨h3, p3⟩ l1 l2 l3 fun w1 w2 w3 h' tk g1 g2 g3 z' TO' s1' s2' s3' hT hsz hk => ?_
    obtain rfl : u = w1 := by have : its[i]? = some w1 := by simpa using g1
                              rw [hu] at this; exact Option.some.inj this
    obtain rfl : u2 = w2 := by have : its2[i]? = some w2 := by simpa using g2
                               rw [hu2] at this; exact Option.some.inj this
    obtain rfl : u3 = w3 := by have : its3[i]? = some w3 := by simpa using g3
                               rw [hu3] at this; exact Option.some.inj this
    refine ⟨_, rfl, wpAny_letOwnedTupleGo_zip (s := { s with heap := h', toks := tk }) z' fun h'' z'' sb => ?_⟩
    have hT2 : h''.get? s.heap.objs.size = some { cls := .type "tuple", data := .seq #[u, u2, u3] } := (sb.2 _ (Nat.ne_of_gt hzl)).trans hT
    have new : ObjOk X.prog X.w (upd H s.heap.objs.size (.tup [x, y, v])) h'' s.heap.objs.size (.tup [x, y, v]) :=
      ⟨by show 3 ≤ sizeLine; decide, [u, u2, u3], .cons ru (.cons ru2 (.cons ru3 .nil)), ⟨_, hT2, rfl, _, rfl⟩⟩
    have I1 : Inv X pins σ (upd H s.heap.objs.size (.tup [x, y, v])) { s with heap := h'', toks := tk } :=
      I.turnedNew (t' := tk) (ch := [z, TI, TO, i1, i2, i3]) (fun c o hb q => (sb.2 c (fun q' => hb (by simp [q']))).trans (hk c o (fun q' => hb (by simp [q'])) (fun q' => hb (by simp [q'])) (fun q' => hb (by simp [q'])) (fun q' => hb (by simp [q'])) (fun q' => hb (by simp [q'])) q)) hf (Nat.le_refl _) new
    have iz1 : i1 ≠ z := fun e => D.zf1 (by rw [← e]; simp)
    have iz2 : i2 ≠ z := fun e => D.zf2 (by rw [← e]; simp)
    have iz3 : i3 ≠ z := fun e => D.zf3 (by rw [← e]; simp)
    refine ⟨.ref s.heap.objs.size, _, I1, rfl, ⟨_, x, y, v, rfl, I.hok.fresh (Nat.le_refl _), rfl, fun l hl => by rw [I.tuple_inj hl hqx]; exact hx, fun l hl => by rw [I.tuple_inj hl hqy]; exact hy, fun l hl => by rw [I.tuple_inj hl hqz]; exact hv⟩, ⟨z'', ?_, ⟨u, u2, u3, ?_⟩, ?_, ?_, ?_⟩, fun c hcm => ?_⟩
    · exact (sb.2 _ D.TIz).trans (hk _ _ D.TIz D.TITO D.TIi1 D.TIi2 D.TIi3 hTI)
    · exact (sb.2 _ D.TOz).trans TO'
    · exact s1'.1.at fun o q => (sb.2 _ iz1).trans q
    · exact s2'.1.at fun o q => (sb.2 _ iz2).trans q
    · exact s3'.1.at fun o q => (sb.2 _ iz3).trans q
    · have hlt : c < s.heap.objs.size := by
        simp only [List.mem_cons, List.not_mem_nil, or_false] at hcm
        rcases hcm with rfl | rfl | rfl | rfl | rfl | rfl
        · exact hzl
        · exact Heap.lt_size hTI
        · exact Heap.lt_size hTO
        · obtain ⟨_, e1, _⟩ := h1; exact Heap.lt_size e1
        · obtain ⟨_, e2, _⟩ := h2; exact Heap.lt_size e2
        · obtain ⟨_, e2, _⟩ := h3; exact Heap.lt_size e2
      rw [upd_ne (Nat.ne_of_lt hlt)]
      exact (hf c hcm).1
  done := by
    intro X hP hw hK hc i pins s σ H E I hf st hg
    subst hP hw hK
    obtain ⟨hz, hTI, ⟨x0, y0, v0, hTO⟩, h1, h2, h3⟩ := st
    obtain ⟨xs, ys, zs, hqx, hqy, hqz, n1, n2, n3⟩ := hg
    obtain ⟨its, rv, p, _⟩ := I.tuple hqx
    obtain ⟨its2, rv2, p2, _⟩ := I.tuple hqy
    obtain ⟨its3, rv3, p3, _⟩ := I.tuple hqz
    have l1 := rv.length
    have l2 := rv2.length
    have l3 := rv3.length
    have hh := in1_hd (I.ok.hd hc)
    have na : a ≠ i1 := ti_ne h1 (show s.heap.IsTuple a its.toArray from p)
    have nb : b ≠ i2 := ti_ne h2 (show s.heap.IsTuple b its2.toArray from p2)
    have nc : c ≠ i3 := ti_ne h3 (show s.heap.IsTuple c its3.toArray from p3)
    refine wpAny_pyNext_zipD3_end (i := i) D (Draws.tuple hh i1 a na its.toArray) (Draws.tuple hh i2 b nb its2.toArray) (Draws.tuple hh i3 c nc its3.toArray) hz hTI hTO ⟨h1, p⟩ ⟨h2, p2⟩ ⟨h3, p3⟩ (by simp; omega) (by simp; omega) (by simp; omega) (.inl (by simp; omega)) fun h' tk hk => ?_
    exact ⟨rfl, I.turnedL (t' := tk) (ch := [z, TI, TO, i1, i2, i3]) (fun c o hb q =>
      hk c o (fun q' => hb (by simp [q'])) (fun q' => hb (by simp [q'])) (fun q' => hb (by simp [q'])) (fun q' => hb (by simp [q'])) (fun q' => hb (by simp [q'])) q) hf⟩
  self := fun A i s Q E st h => wpAny_pyIter_zip st.1 h
def iZip3 (K : PySem.W.Frag) (ta : TA) : TI := fun σ H R => ta σ H fun vs H1 => ∃ a b c xs ys zs, vs = [.ref a, .ref b, .ref c] ∧ SqT K H1 a xs ∧ SqT K H1 b ys ∧ SqT K H1 c zs ∧ R (Itz3 K a b c) H1
theorem pi_zip3 {X : Cx} {e e2 e3 : Expr} {ta : TA} {p pos tpos : Pos} {elts : List Expr} {kk : Nat} (hg : Gl X "zip") (hm : X.mg "zip" = none) (ha : PA X [e, e2, e3] ta)
    (hs : starEach [e, e2, e3] X.env = (false, eval e X.env) :: starEach [e2, e3] X.env := by rfl) (hpl : (backTo pos (starEach [e2, e3] X.env)).any (·.1) = false := by rfl) :
    PI X (.Tuple elts kk tpos) (.Call (.Name "zip" p) [e, e2, e3] [] pos) (iZip3 X.K ta) := by
  refine ⟨fun pins s σ H R I h => Call_ (ld_blt I hg hm PyProof.Rows.boot_zip (PyProof.Rows.callWith_type1 (thn (ha.run pos pins s σ H _ I h) fun us s1 ⟨vs, H1, I1, r1, q1⟩ => ?_) hs hpl))⟩
  obtain ⟨a, b, c, xs, ys, zs, rfl, qx, qy, qz, q⟩ := q1
  obtain rfl : us = [.ref a, .ref b, .ref c] := by
    cases r1 with
    | cons r rr =>
      cases rr with
      | cons r2 rr =>
        cases rr with
        | cons r3 rr =>
          cases rr
          cases r
          cases r2
          cases r3
          rfl
  obtain ⟨its, rv, p1, _⟩ := I1.tuple qx
  obtain ⟨jts, rw2, p2, _⟩ := I1.tuple qy
  obtain ⟨kts, rw3, p3, _⟩ := I1.tuple qz
  have la : a < s1.heap.objs.size := let ⟨o, e, _⟩ := (show s1.heap.IsTuple a its.toArray from p1); Heap.lt_size e
  have lb : b < s1.heap.objs.size := let ⟨o, e, _⟩ := (show s1.heap.IsTuple b jts.toArray from p2); Heap.lt_size e
  have lc : c < s1.heap.objs.size := let ⟨o, e, _⟩ := (show s1.heap.IsTuple c kts.toArray from p3); Heap.lt_size e
  refine zip_begins3 (begins_tuple a its.toArray) (begins_tuple b jts.toArray) (begins_tuple c kts.toArray) p1 p2 p3 fun g hz hTI hTO g1 g2 g3 hsz far => wpAny_pyIter_zip hz ?_
  have I2 : Inv X pins σ H1 { s1 with heap := g } := I1.kept (t' := s1.toks) far
  have D : ZipSep3 (s1.heap.objs.size + 5) (s1.heap.objs.size + 3) (s1.heap.objs.size + 4) s1.heap.objs.size (s1.heap.objs.size + 1) (s1.heap.objs.size + 2) [s1.heap.objs.size, a] [s1.heap.objs.size + 1, b] [s1.heap.objs.size + 2, c] :=
    zip_sep3 (fun x hx => by rw [List.mem_singleton.mp hx]; exact la) (fun x hx => by rw [List.mem_singleton.mp hx]; exact lb) (fun x hx => by rw [List.mem_singleton.mp hx]; exact lc)
  refine ⟨s1.heap.objs.size + 5, [s1.heap.objs.size + 5, s1.heap.objs.size + 3, s1.heap.objs.size + 4, s1.heap.objs.size, s1.heap.objs.size + 1, s1.heap.objs.size + 2], _, _, H1, rfl, I2, turn_zip3 D, ⟨hz, hTI, ⟨_, _, _, hTO⟩, ⟨_, g1, rfl, rfl⟩, ⟨_, g2, rfl, rfl⟩, ⟨_, g3, rfl, rfl⟩⟩, fun x hx => ?_, q⟩
  have hle : s1.heap.objs.size ≤ x := by
    simp only [List.mem_cons, List.not_mem_nil, or_false] at hx
    rcases hx with rfl | rfl | rfl | rfl | rfl | rfl
    · exact Nat.le_add_right _ _
    · exact Nat.le_add_right _ _
    · exact Nat.le_add_right _ _
    · exact Nat.le_refl _
    · exact Nat.le_add_right _ _
    · exact Nat.le_add_right _ _
  exact I1.fpOk hle (I1.hok.fresh hle)
theorem x_iZip3 {K : PySem.W.Frag} {ta : TA} {σ : L2.St} {H : Hp} {R : It → Hp → Prop} : iZip3 K ta σ H R = ta σ H fun vs H1 => ∃ a b c xs ys zs, vs = [.ref a, .ref b, .ref c] ∧ SqT K H1 a xs ∧ SqT K H1 b ys ∧ SqT K H1 c zs ∧ R (Itz3 K a b c) H1 := rfl
def YTri (xs ys zs : Nat → Option V) : Nat → Hp → V → Hp → Prop := fun i H v H' => ∃ T x y z, v = .ref T ∧ H T = none ∧ H' = upd H T (.tup [x, y, z]) ∧ xs i = some x ∧ ys i = some y ∧ zs i = some z
theorem walk_zip3 {K : PySem.W.Frag} {a b c : Addr} {xs ys zs : List V} (hn : xs.length = ys.length) (hm : xs.length = zs.length) : Walk (Itz3 K a b c) xs.length (fun H => SqT K H a xs ∧ SqT K H b ys ∧ SqT K H c zs) (YTri (fun i => xs[i]?) (fun i => ys[i]?) (fun i => zs[i]?)) := by
  refine ⟨fun i _ hi q => ?_, fun _ q => ⟨xs, ys, zs, q.1, q.2.1, q.2.2, rfl, hn, hm⟩, fun i H v H' _ q y => ?_⟩
  · have h2 : i < ys.length := by omega
    have h3 : i < zs.length := by omega
    exact ⟨xs, ys, zs, xs[i], ys[i], zs[i], q.1, q.2.1, q.2.2, by simp [hi], by simp [h2], by simp [h3]⟩
  · obtain ⟨T, x, z, v, h1, h2, h3, h4, h5, h6⟩ := y
    exact ⟨T, x, z, v, h1, h2, h3, h4 xs q.1, h5 ys q.2.1, h6 zs q.2.2⟩
theorem x_three {K : PySem.W.Frag} {H : Hp} {σ : L2.St} {n i j m : Nat} {T : Addr} {x y z : V} {Q : L2.St → Hp → Prop} (h : SqT K H T [x, y, z]) (k : Q (((σ.set i (some x)).set j (some y)).set m (some z)) H) (hn : n = 3 := by rfl) :
    gTup K n (gCons (gName i) (gCons (gName j) (gCons (gName m) gNil))) (.ref T) σ H Q := by
  subst hn
  exact ⟨T, _, rfl, h, rfl, x, [y, z], rfl, y, [z], rfl, z, [], rfl, rfl, k⟩
end FB
set_option Elab.async false
set_option linter.all false
set_option maxRecDepth 100000
set_option maxHeartbeats 4000000
/-! x not in a tuple of data; a tuple once. -/
namespace FB
open PySem PySem.Spec PyProof.Rows L2 Evl
open Sem (wp)
def rNotInT (K : PySem.W.Frag) : R2 := fun x y H Q => ∃ d ds, Dp K H x d ∧ Dp K H y (.tuple ds) ∧ SeqAt.shaped d = true ∧ SeqAt.shaped (.tuple ds) = true ∧ d.depth ≤ 60 ∧ Q (.bl (!ds.any fun z => PyData.eqv z d)) H
theorem op_notInT {X : Cx} {K : PySem.W.Frag} (hu : X.A.units + 64 < cLine) (hK : X.K = K := by rfl) : OpR X (compareOp .NotIn) (rNotInT K) := by
  subst hK
  intro pins s σ H x y v u Q I rx ry h
  obtain ⟨d, ds, hd, he, sd, se, dd, q⟩ := h
  obtain ⟨as, r1⟩ := Dp.reads I d x v hd rx
  obtain ⟨bs, r2⟩ := Dp.reads I (.tuple ds) y u he ry
  have h2 : min (PyData.depthAll ds) d.depth ≤ d.depth := Nat.min_le_right _ _
  exact SeqAt.notIn_tuple_reads r2 r1 (SeqAt.canLay_of_shaped se) (SeqAt.canLay_of_shaped sd) (by omega) ⟨.bl _, H, I, rfl, q⟩
/-- a tuple once is the tuple -/
theorem tuple_mul1 (l : Addr) (items : Array Value) (n : Nat) (dd : Option Addr) (sl : Array (Option Value)) (u : Tok) :
    Meets (Builtin.«tuple.__mul__» ⟨[.ref l, .int 1 u], []⟩) (fun _ R s => s.heap.get? l = some { cls := .type "tuple", dict := dd, data := .seq items n, slots := sl } ∧ R (.ok (.ret (.ref l))) s) :=
  .of_wp fun prog w A R s h => by
    obtain ⟨hp, g, d, tk, os⟩ := s
    obtain ⟨hl, h⟩ := h
    have f1 := AutoSeq1.idx_int
    wp_walk using wpAny_loadPart' hl
    exact ⟨_, rfl, h⟩
def rMul1 (K : PySem.W.Frag) : R2 := fun x y H Q => ∃ l xs, x = .ref l ∧ y = .int 1 ∧ SqT K H l xs ∧ Q (.ref l) H
theorem op_mul1 {X : Cx} : OpR X (binaryOp .Mult) (rMul1 X.K) := by
  intro pins s σ H x y v u Q I rx ry h
  obtain ⟨l, xs, rfl, rfl, hT, q⟩ := h
  cases rx
  obtain ⟨t, rfl⟩ := ry
  obtain ⟨its, r, ⟨⟨cls, dd, data, sl⟩, ho, hc, n, hd⟩, hs⟩ := I.tuple hT
  simp only at hc hd
  subst hc hd
  refine wpAny_binaryOp_repeat_ref (T := "tuple") (U := "int") (by decide) ⟨_, ho, rfl⟩ (fun s' => typeIs_int s' 1 t) noFill_tuple_mul F.fills_int_mul F.slot_int_rmul repeat_tuple F.slot_int_index.lookup
    (call_meets F.slot_int_rmul (typeIs_int s 1 t) F.entry_int_rmul (F.args_int_rmul_2 _ _) (int_rmul_tuple 1 t l its.toArray n dd sl)
      ⟨ho, rfl, ⟨_, ho, rfl⟩, call_meets F.slot_tuple_mul ⟨_, ho, rfl⟩ F.entry_tuple_mul (F.args_tuple_mul_2 _ _) (tuple_mul1 l its.toArray n dd sl t) ⟨ho, ?_⟩⟩)
  exact ⟨.ref l, H, I, rfl, q⟩
def rMulV (K : PySem.W.Frag) : R2 := fun x y H Q => rMulU K x y H Q ∨ rMul1 K x y H Q
theorem op_mulV {X : Cx} {K : PySem.W.Frag} (hK : X.K = K := by rfl) : OpR X (binaryOp .Mult) (rMulV K) := by
  subst hK
  exact orOp op_mulU op_mul1
theorem flat_one (x : V) : ∀ n : Nat, (List.replicate n [x]).flatten = List.replicate n x
  | 0 => rfl
  | n + 1 => by rw [List.replicate_succ, List.replicate_succ, List.flatten_cons, flat_one x n]; rfl
/-- (x,) * n -/
theorem x_mulT {K : PySem.W.Frag} {H : Hp} {p : Addr} {x : V} {n : Nat} {Q : VK} (h : H p = some (.tup [x])) (h1 : 1 ≤ n) (h2 : n ≤ 1000) (q : ∀ l H', Ex H H' → H' l = some (.tup (List.replicate n x)) → Q (.ref l) H') : rMulV K (.ref p) (.int (n : Nat)) H Q := by
  by_cases e : n = 1
  · subst e
    exact .inr ⟨p, [x], rfl, rfl, SqT.of h, q p H (Ex.refl H) h⟩
  · refine .inl (.inr ⟨p, (n : Nat), [x], rfl, rfl, SqT.of h, by simp, by omega, by omega, by simp, x_new fun l H' _ e hl => q l H' e ?_⟩)
    rw [hl, Int.toNat_natCast]
    congr 2
    exact flat_one x n
end FB
set_option Elab.async false
set_option linter.all false
set_option maxRecDepth 100000
set_option maxHeartbeats 4000000
/-! the empty tuple times n; a slice from behind the end. -/
namespace FB
open PySem PySem.Spec PyProof.Rows L2 Evl
open Sem (wp)
theorem tuple_mulE (l : Addr) (n : Nat) (dd : Option Addr) (sl : Array (Option Value)) (u : Tok) :
    Meets (Builtin.«tuple.__mul__» ⟨[.ref l, .int 5 u], []⟩) (fun _ R s => s.heap.get? l = some { cls := .type "tuple", dict := dd, data := .seq #[] n, slots := sl } ∧ R (.ok (.ret (.ref l))) s) :=
  .of_wp fun prog w A R s h => by
    obtain ⟨hp, g, d, tk, os⟩ := s
    obtain ⟨hl, h⟩ := h
    have f1 := AutoSeq1.idx_int
    wp_walk using wpAny_loadPart' hl
    exact ⟨_, rfl, h⟩
def rMulE (K : PySem.W.Frag) : R2 := fun x y H Q => ∃ l, x = .ref l ∧ y = .int 5 ∧ SqT K H l [] ∧ Q (.ref l) H
theorem op_mulE {X : Cx} : OpR X (binaryOp .Mult) (rMulE X.K) := by
  intro pins s σ H x y v u Q I rx ry h
  obtain ⟨l, rfl, rfl, hT, q⟩ := h
  cases rx
  obtain ⟨t, rfl⟩ := ry
  obtain ⟨its, r, ⟨⟨cls, dd, data, sl⟩, ho, hc, n, hd⟩, hs⟩ := I.tuple hT
  cases r
  simp only at hc hd
  subst hc hd
  refine wpAny_binaryOp_repeat_ref (T := "tuple") (U := "int") (by decide) ⟨_, ho, rfl⟩ (fun s' => typeIs_int s' 5 t) noFill_tuple_mul F.fills_int_mul F.slot_int_rmul repeat_tuple F.slot_int_index.lookup
    (call_meets F.slot_int_rmul (typeIs_int s 5 t) F.entry_int_rmul (F.args_int_rmul_2 _ _) (int_rmul_tuple 5 t l #[] n dd sl)
      ⟨ho, rfl, ⟨_, ho, rfl⟩, call_meets F.slot_tuple_mul ⟨_, ho, rfl⟩ F.entry_tuple_mul (F.args_tuple_mul_2 _ _) (tuple_mulE l n dd sl t) ⟨ho, ?_⟩⟩)
  exact ⟨.ref l, H, I, rfl, q⟩
/-- t * n, t empty too -/
def rMul5 (K : PySem.W.Frag) : R2 := fun x y H Q => rMulV K x y H Q ∨ rMulE K x y H Q
theorem op_mul5 {X : Cx} {K : PySem.W.Frag} (hK : X.K = K := by rfl) : OpR X (binaryOp .Mult) (rMul5 K) := by
  subst hK
  exact orOp op_mulV op_mulE
theorem x_mul5 {K : PySem.W.Frag} {H : Hp} {p : Addr} {xs : List V} {Q : VK} (h : SqT K H p xs) (hl : xs.length ≤ 1000) (q : ∀ l H', Ex H H' → SqT K H' l (List.replicate 5 xs).flatten → Q (.ref l) H') : rMul5 K (.ref p) (.int 5) H Q := by
  cases xs with
  | nil => exact .inr ⟨p, rfl, rfl, h, q p H (Ex.refl H) (by simpa using h)⟩
  | cons x r => exact .inl (.inl (.inr ⟨p, 5, x :: r, rfl, rfl, h, by simp, by decide, by decide, hl, x_new fun l H' _ e hl => q l H' e (SqT.of hl)⟩))
/-- the same by its factor, any from 2 on for what is not empty -/
theorem x_mul5T {K : PySem.W.Frag} {H : Hp} {p : Addr} {x : V} {n : Nat} {Q : VK} (h : H p = some (.tup [x])) (h1 : 1 ≤ n) (h2 : n ≤ 1000) (q : ∀ l H', Ex H H' → H' l = some (.tup (List.replicate n x)) → Q (.ref l) H') : rMul5 K (.ref p) (.int (n : Nat)) H Q := .inl (x_mulT h h1 h2 q)
theorem cut_dropA {xs : List V} (j : Nat) : cutV xs (some (j : Int)) none = xs.drop j := by
  unfold cutV
  rw [HT.sIx_none, HT.sIx_nat]
  by_cases h : j ≤ xs.length
  · rw [Nat.min_eq_left h]
    exact List.take_of_length_le (by rw [List.length_drop]; omega)
  · rw [Nat.min_eq_right (by omega), List.drop_length, List.drop_eq_nil_of_le (by omega)]
    simp
end FB
set_option Elab.async false
set_option linter.all false
set_option maxRecDepth 100000
set_option maxHeartbeats 1000000
set_option exponentiation.threshold 20000
namespace K
open PySem PySem.Spec PyProof.Rows L2 Evl FB
local macro_rules | `(tactic| walk_at "run") => `(tactic| try simp only [tSeq, tAsg, tVar, tC, gName, L2.start, List.map_cons, List.map_nil, List.cons_append, List.nil_append, List.length_cons, List.length_nil, List.replicate, List.getElem?_cons_zero, List.getElem?_cons_succ, Option.some.injEq, exists_eq_left', List.set_cons_zero, List.set_cons_succ, V.ref.injEq, tRet, x_tLst, x_tTup, tCons, tCB, tNil, tOp, x_addI, x_mulI, x_rI, x_rI0, x_ltI, x_leI, x_ltS, x_leS, x_eqI, x_neI, x_eqS, x_eqB, x_neB, x_isiI, x_isiS, x_int, x_max, x_min, cxOf, tIfS, tNext, tTest, V.bl.injEq, decide_eq_true_eq, gSub, tAnd, tOr, tNot, tB, tDrop, tBM, x_tFor, iRng1, iList, iTup, x_tLc, tYes, tCall, tIf, tAndV, tOrV, tNotV, tChain, List.append_nil, tUn, if_true, wipe, true_and, x_never, iU, x_itS, kV, Nat.reduceAdd, Nat.reduceSub, List.replicate_zero, x_rU, x_tMkO, iEnumT, x_tDc, x_tDGet, x_tDGet2, x_sDPut, x_tDSetd, x_tDNewK, x_iItems, x_iZip, x_tSAddK, x_tLockV, x_tTupRg, x_tRg2, tPar, tPar3, tBM0, tSl, tNoPart, tPart, x_tSetAdd, x_tDIn, x_iKeys, x_iZipX, x_iZip3, iRevR, tRg1, x_tFld, x_tMeth, x_sFld, x_tMake, tAug, x_ipI, x_tDNotIn, iRng2])
/-! Timetable: boats_by, joined_by, first_number -/
theorem lk_ne {f g : Str} {v : V} {r : List (Str × V)} (h : (f == g) = false) : List.lookup f ((g, v) :: r) = List.lookup f r := by
  rw [List.lookup_cons, h]
theorem lk_eq {f : Str} {v : V} {r : List (Str × V)} : List.lookup f ((f, v) :: r) = some v := by
  rw [List.lookup_cons, beq_self_eq_true]
section
variable {M : Tm} {p : Int}
theorem fs_network : (M.fs p).lookup ("network" : Str) = some (M.v) := by
  unfold Tm.fs
  exact lk_eq
theorem fs_next_passenger : (M.fs p).lookup ("next_passenger" : Str) = some (.int p) := by
  unfold Tm.fs
  rw [lk_ne (by decide +kernel)]
  exact lk_eq
theorem fs_waiting : (M.fs p).lookup ("waiting" : Str) = some (M.u) := by
  unfold Tm.fs
  rw [lk_ne (by decide +kernel)]
  rw [lk_ne (by decide +kernel)]
  exact lk_eq
theorem fs_lengths : (M.fs p).lookup ("lengths" : Str) = some (.ref M.l) := by
  unfold Tm.fs
  rw [lk_ne (by decide +kernel)]
  rw [lk_ne (by decide +kernel)]
  rw [lk_ne (by decide +kernel)]
  exact lk_eq
theorem fs_feeders : (M.fs p).lookup ("feeders" : Str) = some (.ref M.D) := by
  unfold Tm.fs
  rw [lk_ne (by decide +kernel)]
  rw [lk_ne (by decide +kernel)]
  rw [lk_ne (by decide +kernel)]
  rw [lk_ne (by decide +kernel)]
  exact lk_eq
theorem fs_known_boats : (M.fs p).lookup ("known_boats" : Str) = some (.ref M.Kd) := by
  unfold Tm.fs
  rw [lk_ne (by decide +kernel)]
  rw [lk_ne (by decide +kernel)]
  rw [lk_ne (by decide +kernel)]
  rw [lk_ne (by decide +kernel)]
  rw [lk_ne (by decide +kernel)]
  exact lk_eq
theorem fs_boats_by : (M.fs p).lookup ("boats_by" : Str) = none := by
  unfold Tm.fs
  rw [lk_ne (by decide +kernel), lk_ne (by decide +kernel), lk_ne (by decide +kernel), lk_ne (by decide +kernel), lk_ne (by decide +kernel), lk_ne (by decide +kernel)]
  rfl
theorem fs_joined_by : (M.fs p).lookup ("joined_by" : Str) = none := by
  unfold Tm.fs
  rw [lk_ne (by decide +kernel), lk_ne (by decide +kernel), lk_ne (by decide +kernel), lk_ne (by decide +kernel), lk_ne (by decide +kernel), lk_ne (by decide +kernel)]
  rfl
theorem fs_time_of : (M.fs p).lookup ("time_of" : Str) = none := by
  unfold Tm.fs
  rw [lk_ne (by decide +kernel), lk_ne (by decide +kernel), lk_ne (by decide +kernel), lk_ne (by decide +kernel), lk_ne (by decide +kernel), lk_ne (by decide +kernel)]
  rfl
theorem fs_first_number : (M.fs p).lookup ("first_number" : Str) = none := by
  unfold Tm.fs
  rw [lk_ne (by decide +kernel), lk_ne (by decide +kernel), lk_ne (by decide +kernel), lk_ne (by decide +kernel), lk_ne (by decide +kernel), lk_ne (by decide +kernel)]
  rfl
theorem fs_labels : (M.fs p).lookup ("labels" : Str) = none := by
  unfold Tm.fs
  rw [lk_ne (by decide +kernel), lk_ne (by decide +kernel), lk_ne (by decide +kernel), lk_ne (by decide +kernel), lk_ne (by decide +kernel), lk_ne (by decide +kernel)]
  rfl
theorem fs_arrival_at : (M.fs p).lookup ("arrival_at" : Str) = none := by
  unfold Tm.fs
  rw [lk_ne (by decide +kernel), lk_ne (by decide +kernel), lk_ne (by decide +kernel), lk_ne (by decide +kernel), lk_ne (by decide +kernel), lk_ne (by decide +kernel)]
  rfl
theorem fs_source : (M.fs p).lookup ("source" : Str) = none := by
  unfold Tm.fs
  rw [lk_ne (by decide +kernel), lk_ne (by decide +kernel), lk_ne (by decide +kernel), lk_ne (by decide +kernel), lk_ne (by decide +kernel), lk_ne (by decide +kernel)]
  rfl
theorem fs_passenger : (M.fs p).lookup ("passenger" : Str) = none := by
  unfold Tm.fs
  rw [lk_ne (by decide +kernel), lk_ne (by decide +kernel), lk_ne (by decide +kernel), lk_ne (by decide +kernel), lk_ne (by decide +kernel), lk_ne (by decide +kernel)]
  rfl
end
section
variable {P : Program} {w : World} {K : PySem.W.Frag} {mg : Str → Option Value} {base : Heap}
abbrev s_Timetable_boats_by : Stmt := inClass (top 32) 1
theorem sc_Timetable_boats_by : FnScope ["self", "time"] ["self", "time"] (defScope s_Timetable_boats_by) := ⟨rfl, rfl, rfl, by decide +kernel, rfl, by decide +kernel, by decide +kernel⟩
def spBy (K : PySem.W.Frag) (C : Addr) : Sp := fun vs H Q _ => ∃ (N : Net) (ls : List Int) (p : Int) (qs : Qs) (M : Tm) (c : Nat) (t : Int), vs = [.ref M.a, .int t] ∧ TT K C N ls p qs M c H ∧ CntN N ∧ ls.length = N.length ∧ c < 900000 ∧
  ∀ H' l, TT K C N ls p qs M (c + 1) H' → ExK M H H' → H' l = some (.lst ((bts N ls t N.length).map V.int)) → Q (.ref l) H'
theorem ok_boats_by {C f f1 : Addr} {fd fd1 : FuncData} (D : Mf K C "boats_by" "Timetable.boats_by" s_Timetable_boats_by ["self", "time"] f fd) (F : TF K C) (D_count_departures : Df K mg "count_departures" s_count_departures ["network", "feeders", "lengths", "arrivals"] f1 fd1)
    (G_count_departures : FnOk P w K mg base CX0 2 f1 fd1 ["network", "feeders", "lengths", "arrivals"] (spDep K)) : FnOk P w K mg base CX0 3 f fd ["self", "time"] (spBy K C) := by
  refine D.F.ok sc_Timetable_boats_by (fun vs H Q E h => ?_) (fun cdv A outer s H vs Q E hr h => ?_)
  · obtain ⟨N, ls, p, qs, M, c, t, rfl, _⟩ := h
    rfl
  · obtain ⟨N, ls, p, qs, M, c, t, rfl, W, hC, hll, hc, q⟩ := h
    have hu := hr.units
    have hu1 := hu_of hr
    refine ⟨_, (pss_cons (ps_if (pt_cmp (pc_dnotin hu1 (pv 1) (pe_fld (pv 0) rfl))) (pss_one (ps_dput hu1 (pe_fld (pv 0) rfl) (pv 1) (pe_call (G_count_departures) (hr.mono (by decide)) rfl D_count_departures.g D_count_departures.F.kp D_count_departures.b .nil pass0 (pa_cons (pe_fld (pv 0) rfl) (pa_cons (pe_fld (pv 0) rfl) (pa_cons (pe_fld (pv 0) rfl) (pa_cons (pv 1) pa_nil))))) rfl)) pss_nil)
      (pss_one (ps_ret (pe_dget hu1 (pe_fld (pv 0) rfl) (pv 1) (fun _ _ => rfl))))), ?_⟩
    walk_at "run"
    obtain ⟨ks, h1, h2, h3⟩ := W.cache
    refine x_fld W.ins F.c F.known_boats fs_known_boats ?_
    refine x_dNotIn (k := .inl t) h1 ⟨_, rfl, ?_⟩
    cases hv : valV ks (.inl t) with
    | none =>
      rw [if_pos (by rfl)]
      refine x_fld W.ins F.c F.network fs_network (x_fld W.ins F.c F.feeders fs_feeders (x_fld W.ins F.c F.lengths fs_lengths ?_))
      refine ⟨M.v, N, M.D, M.l, M.H0, M.A, M.G, M.kvs, ls, t, rfl, W.net, hC, W.feed, W.fd, SqL.of W.len, hll, fun H1 l e1 nl hl => ?_⟩
      have W1 := W.ex e1
      refine x_fld W1.ins F.c F.known_boats fs_known_boats (x_dput (k := .inl t) (e1 _ _ h1) (by omega) fun H2 e2 n2 h2' => ?_)
      walk_at "run"
      have W2 := W1.put (e1 _ _ h1) h2 (fun k x hx => by
        obtain ⟨t', l', a, b, d, d2⟩ := h3 k x hx
        exact ⟨t', l', a, b, e1 _ _ d, d2⟩) hl (fun hy => by
        obtain ⟨o, ho⟩ := W.avs l hy
        rw [nl] at ho; cases ho) e2 h2'
      refine x_fld W2.ins F.c F.known_boats fs_known_boats (x_dget (k := .inl t) h2' (by rw [valV_put, if_pos rfl]) ?_)
      exact q H2 l W2 ((ExK.of e1).trans e2) (e2 _ _ (fun z => by rw [z, e1 _ _ h1] at hl; cases hl) hl)
    | some x =>
      obtain ⟨t', l, e, rfl, hl, _⟩ := h3 _ _ hv
      cases e
      rw [if_neg (by simp)]
      exact x_fld W.ins F.c F.known_boats fs_known_boats (x_dget (k := .inl t) h1 hv (q H l (W.le (by omega)) (ExK.of (Ex.refl H)) hl))
abbrev s_Timetable_joined_by : Stmt := inClass (top 32) 2
theorem sc_Timetable_joined_by : FnScope ["self", "place", "time"] ["self", "place", "time"] (defScope s_Timetable_joined_by) := ⟨rfl, rfl, rfl, by decide +kernel, rfl, by decide +kernel, by decide +kernel⟩
/-- a station, or a place that a seat leads to -/
def PlIn (N : Net) (q : Key) : Prop := (∃ i : Nat, i < N.length ∧ q = .inl (i : Int)) ∨ ∃ i, (i, q) ∈ seatsOf N N.length
def spJd (K : PySem.W.Frag) (C : Addr) : Sp := fun vs H Q _ => ∃ (N : Net) (ls : List Int) (p : Int) (qs : Qs) (M : Tm) (c : Nat) (t : Int) (z : Key), vs = [.ref M.a, kV z, .int t] ∧ TT K C N ls p qs M c H ∧ CntN N ∧ ls.length = N.length ∧ c < 900000 ∧ PlIn N z ∧
  ∀ H', TT K C N ls p qs M (c + 1) H' → ExK M H H' → Q (.int (jq N ls t z)) H'
theorem ok_joined_by {C f f1 f2 : Addr} {fd fd1 fd2 : FuncData} (D : Mf K C "joined_by" "Timetable.joined_by" s_Timetable_joined_by ["self", "place", "time"] f fd) (T : Bt mg) (F : TF K C) (M_boats_by : Mf K C "boats_by" "Timetable.boats_by" s_Timetable_boats_by ["self", "time"] f1 fd1)
    (G_boats_by : FnOk P w K mg base CX0 3 f1 fd1 ["self", "time"] (spBy K C)) (D_count_brought : Df K mg "count_brought" s_count_brought ["sources", "boats"] f2 fd2) : FnOk P w K mg base CX0 4 f fd ["self", "place", "time"] (spJd K C) := by
  have G_count_brought : FnOk P w K mg base CX0 1 f2 fd2 _ _ := ok_count_brought D_count_brought T
  refine D.F.ok sc_Timetable_joined_by (fun vs H Q E h => ?_) (fun cdv A outer s H vs Q E hr h => ?_)
  · obtain ⟨N, ls, p, qs, M, c, t, k, rfl, _⟩ := h
    rfl
  · obtain ⟨N, ls, p, qs, M, c, t, z, rfl, W, hC, hll, hc, hk, q⟩ := h
    have hu := hr.units
    have hu1 := hu_of hr
    refine ⟨_, (pss_cons (ps_if (pt_cmpR (op_eqU (K := K) hu) (pv 1) pe_int (nomark _)) (pss_one (ps_ret (pv 2))) pss_nil)
      (pss_one (ps_ret (pe_call (G_count_brought) (hr.mono (by decide)) rfl D_count_brought.g D_count_brought.F.kp D_count_brought.b .nil pass0 (pa_cons (pe_dget hu1 (pe_fld (pv 0) rfl) (pv 1) (fun _ _ => rfl)) (pa_cons (pe_meth (pv 0) F.c M_boats_by.m (G_boats_by) (hr.mono (by decide)) M_boats_by.b .nil pass0 (pa_cons (pv 2) pa_nil)) pa_nil)))))), ?_⟩
    have feed : z ≠ .inl 0 → rFld K (.ref M.a) "feeders" H fun x H1 => rDGet x (kV z) H1 fun x H1 => rMethO C "boats_by" (.ref M.a) H1 (spBy K C [.ref M.a, .int t] H1 (fun x_1 H1 => spBrought K [x, x_1] H1 Q E0) E0) := by
      intro hz
      have hs : (M.A z).isSome = true := (W.feed.keys _).mpr hk
      obtain ⟨d, hd⟩ := Option.isSome_iff_exists.mp hs
      refine x_fld W.ins F.c F.feeders fs_feeders (x_dget (k := z) W.fd (by rw [W.feed.val, hd]; rfl) ?_)
      refine x_meth W.ins fs_boats_by ?_
      refine ⟨N, ls, p, qs, M, c, t, rfl, W, hC, hll, hc, fun H1 l W1 e1 hl => ?_⟩
      have h40 := hC.le
      have hL := seatsOf_len (N := N) (fun s hs => (hC.st s hs).2) N.length
      refine ⟨d, l, M.G z, _, rfl, W1.feed.inn _ _ hd, SqL.of hl, ?_, fun g hg => ?_, fun H2 e2 => ?_⟩
      · have := W1.feed.lenG z
        omega
      · have h1 := W1.feed.le _ g hg
        have h2 := (mem_seatsOf.mp (W1.feed.mem _ g hg)).1
        rw [bts_len]
        omega
      · have e : brought (bts N ls t N.length) (M.G z) = jq N ls t z := by
          unfold brought jq
          rw [W1.feed.sum, if_neg hz]
          rfl
        rw [e]
        exact q H2 (W1.ex e2) (e1.trans (ExK.of e2))
    cases z with
    | inl i =>
      walk_at "run"
      by_cases hz : i = 0
      · rw [if_pos hz]
        have : jq N ls t (.inl i) = t := by
          unfold jq
          rw [if_pos (by rw [hz])]
        have q1 := q H (W.le (by omega)) (ExK.of (Ex.refl H))
        rw [this] at q1
        exact q1
      · rw [if_neg hz]
        exact feed fun e => hz (Sum.inl.inj e)
    | inr y =>
      walk_at "run"
      refine .inl ⟨rfl, _, rfl, ?_⟩
      rw [if_neg (by simp)]
      exact feed fun e => by cases e
abbrev s_Timetable_first_number : Stmt := inClass (top 32) 4
theorem sc_Timetable_first_number : FnScope ["self", "station", "boat_number"] ["self", "station", "boat_number"] (defScope s_Timetable_first_number) := ⟨rfl, rfl, rfl, by decide +kernel, rfl, by decide +kernel, by decide +kernel⟩
def spFst (K : PySem.W.Frag) (C : Addr) : Sp := fun vs H Q _ => ∃ (N : Net) (ls : List Int) (p : Int) (qs : Qs) (M : Tm) (c : Nat) (k : Nat) (n : Int), vs = [.ref M.a, .int (k : Int), .int n] ∧ TT K C N ls p qs M c H ∧ CntN N ∧ ls.length = N.length ∧ k < N.length ∧
  Q (.int ((n - 1) * ((N.getD k []).length : Int) - ls.getD k 0 + 1)) H
theorem ok_first_number {C f : Addr} {fd : FuncData} (D : Mf K C "first_number" "Timetable.first_number" s_Timetable_first_number ["self", "station", "boat_number"] f fd) (T : Bt mg) (F : TF K C) : FnOk P w K mg base CX0 1 f fd ["self", "station", "boat_number"] (spFst K C) := by
  refine D.F.ok sc_Timetable_first_number (fun vs H Q E h => ?_) (fun cdv A outer s H vs Q E hr h => ?_)
  · obtain ⟨N, ls, p, qs, M, c, k, n, rfl, _⟩ := h
    rfl
  · obtain ⟨N, ls, p, qs, M, c, k, n, rfl, W, hC, hll, hk, q⟩ := h
    refine ⟨_, (pss_one (ps_ret (pe_op (op_addU (K := K)) (pe_op op_sub (pe_op (op_mulU (K := K)) (pe_op op_sub (pv 2) pe_int) (pe_callB (call_lenU (K := K)) (by rfl) T.b_len (by decide +kernel) (pa_cons (pe_ix (ix_U (K := K)) (pe_fld (pv 0) rfl) (pv 1) (fun _ _ => rfl)) pa_nil))) (pe_ix (ix_U (K := K)) (pe_fld (pv 0) rfl) (pv 1) (fun _ _ => rfl))) pe_int))), ?_⟩
    walk_at "run"
    obtain ⟨na, ts, hv, hT, hts⟩ := NetAt.at W.net
    have hsN : N[k]? = some (N.getD k []) := by simp [List.getD_eq_getElem?_getD, hk]
    obtain ⟨sv, hsv, hsd⟩ := hts.get (i := k) (d := stD (N.getD k [])) (by rw [List.getElem?_map, hsN]; rfl)
    obtain ⟨sb, rfl, hB⟩ := StAt.at hsd
    refine x_fld W.ins F.c F.network fs_network ?_
    rw [hv]
    refine x_ixT hT (atI_nat hsv) (x_lenT hB ?_)
    rw [List.length_map]
    have h8 := (hC.st _ (List.mem_of_getElem? hsN)).2
    walk_at "run"
    refine ⟨.inr ⟨by omega, by omega⟩, ?_⟩
    refine x_fld W.ins F.c F.lengths fs_lengths (x_ixL (SqL.of W.len) (v := .int (ls.getD k 0)) (atI_nat (by simp [List.getD_eq_getElem?_getD, hll, hk])) ?_)
    walk_at "run"
    exact q
end
end K
set_option Elab.async false
set_option linter.all false
set_option maxRecDepth 100000
set_option maxHeartbeats 1000000
set_option exponentiation.threshold 20000
namespace K
open PySem PySem.Spec PyProof.Rows L2 Evl FB
local macro_rules | `(tactic| walk_at "run") => `(tactic| try simp only [tSeq, tAsg, tVar, tC, gName, L2.start, List.map_cons, List.map_nil, List.cons_append, List.nil_append, List.length_cons, List.length_nil, List.replicate, List.getElem?_cons_zero, List.getElem?_cons_succ, Option.some.injEq, exists_eq_left', List.set_cons_zero, List.set_cons_succ, V.ref.injEq, tRet, x_tLst, x_tTup, tCons, tCB, tNil, tOp, x_addI, x_mulI, x_rI, x_rI0, x_ltI, x_leI, x_ltS, x_leS, x_eqI, x_neI, x_eqS, x_eqB, x_neB, x_isiI, x_isiS, x_int, x_max, x_min, cxOf, tIfS, tNext, tTest, V.bl.injEq, decide_eq_true_eq, gSub, tAnd, tOr, tNot, tB, tDrop, tBM, x_tFor, iRng1, iList, iTup, x_tLc, tYes, tCall, tIf, tAndV, tOrV, tNotV, tChain, List.append_nil, tUn, if_true, wipe, true_and, x_never, iU, x_itS, kV, Nat.reduceAdd, Nat.reduceSub, List.replicate_zero, x_rU, x_tMkO, iEnumT, x_tDc, x_tDGet, x_tDGet2, x_sDPut, x_tDSetd, x_tDNewK, x_iItems, x_iZip, x_tSAddK, x_tLockV, x_tTupRg, x_tRg2, tPar, tPar3, tBM0, tSl, tNoPart, tPart, x_tSetAdd, x_tDIn, x_iKeys, x_iZipX, x_iZip3, iRevR, tRg1, x_tFld, x_tMeth, x_sFld, x_tMake, tAug, x_ipI, x_tDNotIn, iRng2])
/-! Timetable: time_of -/
section
variable {P : Program} {w : World} {K : PySem.W.Frag} {mg : Str → Option Value} {base : Heap}
abbrev s_Timetable_time_of : Stmt := inClass (top 32) 3
theorem sc_Timetable_time_of : FnScope ["self", "place", "number", "step", "before"] ["self", "place", "number"] (defScope s_Timetable_time_of) := ⟨rfl, rfl, rfl, by decide +kernel, rfl, by decide +kernel, by decide +kernel⟩
/-- the number that stands in a slot -/
def slotI (σ : L2.St) (i : Nat) : Int := match σ[i]? with
  | some (some (.int n)) => n
  | _ => 0
theorem pow_lt60 {i : Nat} (h : (2 : Int) ^ i < 1000000000000000000) : i < 60 := by
  by_cases e : i < 60
  · exact e
  · have h1 : (2 : Nat) ^ 60 ≤ 2 ^ i := Nat.pow_le_pow_right (by decide) (by omega)
    have h2 : ((2 ^ i : Nat) : Int) = (2 : Int) ^ i := by simp
    have h3 : (1000000000000000000 : Nat) ≤ 2 ^ 60 := by decide
    omega
def spTime (K : PySem.W.Frag) (C : Addr) : Sp := fun vs H Q _ => ∃ (N : Net) (ls : List Int) (p : Int) (qs : Qs) (M : Tm) (c : Nat) (z : Key) (n T0 : Int), vs = [.ref M.a, kV z, .int n] ∧ TT K C N ls p qs M c H ∧ CntN N ∧ Lens N ls ∧ Fw N ∧ c < 890000 ∧ PlIn N z ∧ 1 ≤ n ∧ n ≤ jq N ls T0 z ∧ 0 ≤ T0 ∧ T0 ≤ 1000000000000000000 ∧
  ∀ H' t, TT K C N ls p qs M (c + 200) H' → ExK M H H' → 1 ≤ t → t ≤ T0 → jq N ls (t - 1) z < n → n ≤ jq N ls t z → Q (.int t) H'
theorem ok_time_of {C f f1 : Addr} {fd fd1 : FuncData} (D : Mf K C "time_of" "Timetable.time_of" s_Timetable_time_of ["self", "place", "number"] f fd) (F : TF K C) (M_joined_by : Mf K C "joined_by" "Timetable.joined_by" s_Timetable_joined_by ["self", "place", "time"] f1 fd1)
    (G_joined_by : FnOk P w K mg base CX0 4 f1 fd1 ["self", "place", "time"] (spJd K C)) : FnOk P w K mg base CX0 5 f fd ["self", "place", "number"] (spTime K C) := by
  refine D.F.ok sc_Timetable_time_of (fun vs H Q E h => ?_) (fun cdv A outer s H vs Q E hr h => ?_)
  · obtain ⟨N, ls, p, qs, M, c, z, n, T0, rfl, _⟩ := h
    rfl
  · obtain ⟨N, ls, p, qs, M, c, z, n, T0, rfl, W, hC, L, fw, hc, hk, hn, hnT, hT0, hT1, q⟩ := h
    have hu := hr.units
    have mono : ∀ {t u : Int}, t ≤ u → jq N ls t z ≤ jq N ls u z := fun h => jq_mono fw L.pos h _
    obtain ⟨zv, hzv⟩ : ∃ zv, zv = kV z := ⟨_, rfl⟩
    rw [← hzv]
    refine ⟨_, (pss_cons (ps_set (i := 3) sc_Timetable_time_of.nd rfl (Or.inl rfl) pe_int)
      (pss_cons (ps_while PassesOwn.never (pt_cmpR (op_ltU) (pe_meth (pv 0) F.c M_joined_by.m (G_joined_by) (hr.mono (by decide)) M_joined_by.b .nil pass0 (pa_cons (pv 1) (pa_cons (pv 3) pa_nil))) (pv 2) (nomark _)) (pss_one (ps_set (i := 3) sc_Timetable_time_of.nd rfl (Or.inl rfl) (pe_op (op_mulU (K := K)) pe_int (pv 3)))))
      (pss_cons (ps_set (i := 4) sc_Timetable_time_of.nd rfl (Or.inl rfl) pe_int)
      (pss_cons (ps_while PassesOwn.never (pt_cmpR (op_gtU) (pv 3) pe_int (nomark _)) (pss_cons (ps_if (pt_cmpR (op_ltU) (pe_meth (pv 0) F.c M_joined_by.m (G_joined_by) (hr.mono (by decide)) M_joined_by.b .nil pass0 (pa_cons (pv 1) (pa_cons (pe_op (op_addU (K := K)) (pv 4) (pv 3)) pa_nil))) (pv 2) (nomark _)) (pss_one (ps_aug (i := 4) sc_Timetable_time_of.nd rfl (Or.inl rfl) (pv 3) ip_add)) pss_nil)
      (pss_one (ps_set (i := 3) sc_Timetable_time_of.nd rfl (Or.inl rfl) (pe_op op_fdivN (pv 3) pe_int)))))
      (pss_one (ps_ret (pe_op (op_addU (K := K)) (pv 4) pe_int))))))), ?_⟩
    walk_at "run"
    refine while_raw (fun σ H' => ∃ i : Nat, σ = [some (.ref M.a), some zv, some (.int n), some (.int ((2 : Int) ^ i)), none] ∧ TT K C N ls p qs M (c + i) H' ∧ ExK M H H' ∧ i ≤ 60) (fun σ _ => (4000000000000000000 - slotI σ 3).toNat) ⟨0, by rw [Int.pow_zero], W, ExK.of (Ex.refl H), by decide⟩ ?_
    rintro σ H1 ⟨i, rfl, W1, e1, hi⟩ R hT hF
    walk_at "run"
    refine x_meth W1.ins fs_joined_by ?_
    refine ⟨N, ls, p, qs, M, c + i, (2 : Int) ^ i, z, by rw [hzv], W1, hC, L.len, by omega, hk, fun H2 W2 e2 => ?_⟩
    walk_at "run"
    have e12 := e1.trans e2
    have hpos : (1 : Int) ≤ 2 ^ i := by
      have : 0 < 2 ^ i := Nat.pow_pos (n := i) (show 0 < 2 by decide)
      have h2 : ((2 ^ i : Nat) : Int) = (2 : Int) ^ i := by simp
      omega
    by_cases hlt : jq N ls ((2 : Int) ^ i) z < n
    · rw [decide_eq_true hlt]
      have hst : (2 : Int) ^ i < T0 := Int.not_le.mp fun h => by
        have := mono h
        omega
      refine hT H2 ?_
      walk_at "run"
      refine ⟨.inl ⟨by decide, by decide⟩, ⟨i + 1, by rw [Int.pow_succ, Int.mul_comm], W2, e12, ?_⟩, ?_⟩
      · have := pow_lt60 (show (2 : Int) ^ i < 1000000000000000000 by omega)
        omega
      · show (4000000000000000000 - 2 * (2 : Int) ^ i).toNat < (4000000000000000000 - (2 : Int) ^ i).toNat
        omega
    · rw [decide_eq_false hlt]
      refine hF H2 ?_
      walk_at "run"
      have hj0 := jq_zero fw L z
      refine while_raw (fun σ H' => ∃ (st bf : Int) (u : Nat), σ = [some (.ref M.a), some zv, some (.int n), some (.int st), some (.int bf)] ∧ TT K C N ls p qs M (c + u) H' ∧ ExK M H H' ∧ 0 ≤ bf ∧ jq N ls bf z < n ∧
        ((∃ i : Nat, st = (2 : Int) ^ i ∧ u + i ≤ 130 ∧ n ≤ jq N ls (bf + 2 * st) z) ∨ (st = 0 ∧ u ≤ 131 ∧ n ≤ jq N ls (bf + 1) z))) (fun σ _ => (slotI σ 3).toNat)
        ⟨(2 : Int) ^ i, 0, i + 1, rfl, W2, e12, by decide, by omega, .inl ⟨i, rfl, by omega, Int.le_trans (Int.not_lt.mp hlt) (mono (by omega))⟩⟩ ?_
      rintro σ H3 ⟨st, bf, u, rfl, W3, e3, hb0, hbn, hor⟩ R hT hF
      walk_at "run"
      rcases hor with ⟨i2, rfl, hu2, hn2⟩ | ⟨rfl, hu2, hn2⟩
      · have hpos2 : (1 : Int) ≤ 2 ^ i2 := by
          have : 0 < 2 ^ i2 := Nat.pow_pos (n := i2) (show 0 < 2 by decide)
          have h2 : ((2 ^ i2 : Nat) : Int) = (2 : Int) ^ i2 := by simp
          omega
        rw [decide_eq_true (show (0 : Int) < 2 ^ i2 by omega)]
        refine hT H3 ?_
        walk_at "run"
        refine x_meth W3.ins fs_joined_by ?_
        refine ⟨N, ls, p, qs, M, c + u, bf + (2 : Int) ^ i2, z, by rw [hzv], W3, hC, L.len, by omega, hk, fun H4 W4 e4 => ?_⟩
        walk_at "run"
        have e34 := e3.trans e4
        have fin : ∀ bf2 : Int, 0 ≤ bf2 → jq N ls bf2 z < n → n ≤ jq N ls (bf2 + (2 : Int) ^ i2) z → (∃ (st bf : Int) (u : Nat), [some (V.ref M.a), some zv, some (.int n), some (.int (((2 : Int) ^ i2).fdiv 2)), some (.int bf2)] = [some (V.ref M.a), some zv, some (.int n), some (.int st), some (.int bf)] ∧ TT K C N ls p qs M (c + u) H4 ∧ ExK M H H4 ∧ 0 ≤ bf ∧ jq N ls bf z < n ∧
            ((∃ i : Nat, st = (2 : Int) ^ i ∧ u + i ≤ 130 ∧ n ≤ jq N ls (bf + 2 * st) z) ∨ (st = 0 ∧ u ≤ 131 ∧ n ≤ jq N ls (bf + 1) z))) ∧ (((2 : Int) ^ i2).fdiv 2).toNat < ((2 : Int) ^ i2).toNat := fun bf2 h1 h2 h3 => by
          rw [Int.fdiv_eq_ediv_of_nonneg _ (by decide)]
          refine ⟨?_, by omega⟩
          cases i2 with
          | zero => exact ⟨_, bf2, u + 1, rfl, W4, e34, h1, h2, .inr ⟨by decide, by omega, by rw [Int.pow_zero] at h3; exact h3⟩⟩
          | succ i3 =>
            have e : (2 : Int) ^ (i3 + 1) / 2 = 2 ^ i3 := by
              rw [Int.pow_succ]
              omega
            refine ⟨_, bf2, u + 1, rfl, W4, e34, h1, h2, .inl ⟨i3, e, by omega, ?_⟩⟩
            rw [e]
            rw [Int.pow_succ] at h3
            rw [Int.mul_comm 2]
            exact h3
        by_cases h5 : jq N ls (bf + (2 : Int) ^ i2) z < n
        · rw [if_pos h5]
          refine ⟨⟨by decide, by decide⟩, fin _ (by omega) h5 ?_⟩
          have : bf + (2 : Int) ^ i2 + (2 : Int) ^ i2 = bf + 2 * 2 ^ i2 := by omega
          rw [this]
          exact hn2
        · rw [if_neg h5]
          exact ⟨⟨by decide, by decide⟩, fin _ hb0 hbn (Int.not_lt.mp h5)⟩
      · rw [decide_eq_false (by decide)]
        refine hF H3 ?_
        walk_at "run"
        have hbT : bf < T0 := Int.not_le.mp fun h => by
          have := mono h
          omega
        exact q H3 (bf + 1) (W3.le (by omega)) e3 (by omega) (by omega) (by rw [Int.add_sub_cancel]; exact hbn) hn2
end
end K
set_option Elab.async false
set_option linter.all false
set_option maxRecDepth 100000
set_option maxHeartbeats 1000000
set_option exponentiation.threshold 20000
namespace K
open PySem PySem.Spec PyProof.Rows L2 Evl FB
local macro_rules | `(tactic| walk_at "run") => `(tactic| try simp only [tSeq, tAsg, tVar, tC, gName, L2.start, List.map_cons, List.map_nil, List.cons_append, List.nil_append, List.length_cons, List.length_nil, List.replicate, List.getElem?_cons_zero, List.getElem?_cons_succ, Option.some.injEq, exists_eq_left', List.set_cons_zero, List.set_cons_succ, V.ref.injEq, tRet, x_tLst, x_tTup, tCons, tCB, tNil, tOp, x_addI, x_mulI, x_rI, x_rI0, x_ltI, x_leI, x_ltS, x_leS, x_eqI, x_neI, x_eqS, x_eqB, x_neB, x_isiI, x_isiS, x_int, x_max, x_min, cxOf, tIfS, tNext, tTest, V.bl.injEq, decide_eq_true_eq, gSub, tAnd, tOr, tNot, tB, tDrop, tBM, x_tFor, iRng1, iList, iTup, x_tLc, tYes, tCall, tIf, tAndV, tOrV, tNotV, tChain, List.append_nil, tUn, if_true, wipe, true_and, x_never, iU, x_itS, kV, Nat.reduceAdd, Nat.reduceSub, List.replicate_zero, x_rU, x_tMkO, iEnumT, x_tDc, x_tDGet, x_tDGet2, x_sDPut, x_tDSetd, x_tDNewK, x_iItems, x_iZip, x_tSAddK, x_tLockV, x_tTupRg, x_tRg2, tPar, tPar3, tBM0, tSl, tNoPart, tPart, x_tSetAdd, x_tDIn, x_iKeys, x_iZipX, x_iZip3, iRevR, tRg1, x_tFld, x_tMeth, x_sFld, x_tMake, tAug, x_ipI, x_tDNotIn])
/-! nobody comes twice: how many come to a station at most; labels -/
section
variable {N : Net} {ls : List Int}
def totS (f : Nat → Int) : Seats → Int
  | [] => 0
  | (i, _) :: r => f i + totS f r
theorem totS_append {f : Nat → Int} : ∀ {a b : Seats}, totS f (a ++ b) = totS f a + totS f b
  | [], b => by show totS f b = 0 + totS f b; omega
  | (i, p) :: r, b => by
    show f i + totS f (r ++ b) = f i + totS f r + totS f b
    rw [totS_append]; omega
def sumJ (f : Nat → Int) (L : Seats) : Nat → Int
  | 0 => 0
  | m + 1 => sumJ f L m + toQ f (.inl ((m + 1 : Nat) : Int)) L
theorem sumJ_nil {f : Nat → Int} : ∀ m, sumJ f [] m = 0
  | 0 => rfl
  | m + 1 => by
    show sumJ f [] m + 0 = 0
    rw [sumJ_nil]; rfl
theorem sumJ_cons {f : Nat → Int} {i : Nat} {p : Key} {r : Seats} (h : 0 ≤ f i) : ∀ m, (sumJ f ((i, p) :: r) m ≤ sumJ f r m + f i) ∧ ((∀ j : Nat, 1 ≤ j → j ≤ m → p ≠ .inl (j : Int)) → sumJ f ((i, p) :: r) m = sumJ f r m)
  | 0 => by
    refine ⟨?_, fun _ => rfl⟩
    show (0 : Int) ≤ 0 + f i
    omega
  | m + 1 => by
    obtain ⟨h1, h2⟩ := sumJ_cons (p := p) (r := r) h m
    have e : sumJ f ((i, p) :: r) (m + 1) = sumJ f ((i, p) :: r) m + ((if p = .inl ((m + 1 : Nat) : Int) then f i else 0) + toQ f (.inl ((m + 1 : Nat) : Int)) r) := rfl
    have e2 : sumJ f r (m + 1) = sumJ f r m + toQ f (.inl ((m + 1 : Nat) : Int)) r := rfl
    refine ⟨?_, fun hj => ?_⟩
    · by_cases hp : p = .inl ((m + 1 : Nat) : Int)
      · have := h2 fun j j1 j2 z => by
          rw [hp] at z
          have := Sum.inl.inj z
          omega
        rw [e, if_pos hp]; omega
      · rw [e, if_neg hp]; omega
    · rw [e, if_neg (hj (m + 1) (by omega) (by omega)), h2 fun j j1 j2 => hj j j1 (by omega)]; omega
theorem sumJ_le {f : Nat → Int} (m : Nat) : ∀ {L : Seats}, (∀ s ∈ L, 0 ≤ f s.1) → sumJ f L m ≤ totS f L
  | [], _ => by rw [sumJ_nil]; exact Int.le_refl _
  | (i, p) :: r, h => by
    have h1 : sumJ f ((i, p) :: r) m ≤ sumJ f r m + f i := (sumJ_cons (i := i) (p := p) (r := r) (h (i, p) (List.mem_cons_self ..)) m).1
    have h2 := sumJ_le m (L := r) fun s hs => h s (List.mem_cons_of_mem _ hs)
    show _ ≤ f i + totS f r
    omega
theorem totS_st {f : Nat → Int} {k : Nat} : ∀ {s : List Key}, totS f (stSeats k s) = (s.length : Int) * f k
  | [] => by show (0 : Int) = ((0 : Nat) : Int) * f k; omega
  | p :: r => by
    show f k + totS f (stSeats k r) = _
    rw [totS_st, List.length_cons, Int.natCast_add, Int.add_mul]
    omega
/-- the seats behind a station do not lead to it -/
theorem toQ_pre (fw : Fw N) {f : Nat → Int} {j k : Nat} (hj : j ≤ k) : ∀ {n : Nat}, k ≤ n → n ≤ N.length → toQ f (.inl (j : Int)) (seatsOf N n) = toQ f (.inl (j : Int)) (seatsOf N k)
  | 0, h1, _ => by rw [show k = 0 by omega]
  | n + 1, h1, h2 => by
    by_cases e : k = n + 1
    · rw [e]
    · rw [← toQ_pre fw hj (n := n) (by omega) (by omega)]
      show toQ f _ (seatsOf N n ++ stSeats n (N.getD n [])) = _
      rw [toQ_append]
      have : toQ f (.inl (j : Int)) (stSeats n (N.getD n [])) = 0 := toQ_nil fun s hs hq => by
        unfold stSeats at hs
        obtain ⟨p, hp, rfl⟩ := List.mem_map.mp hs
        have hq : p = .inl (j : Int) := hq
        subst hq
        have := fw n (by omega) _ hp
        omega
      rw [this]; omega
/-- the lengths of the first stations -/
def lsum (ls : List Int) : Nat → Int
  | 0 => 0
  | k + 1 => lsum ls k + ls.getD k 0
theorem lsum_le (L : Lens N ls) (h8 : ∀ k, k < N.length → (N.getD k []).length ≤ 8) : ∀ k, k ≤ N.length → 0 ≤ lsum ls k ∧ lsum ls k ≤ 8 * k
  | 0, _ => ⟨Int.le_refl _, Int.le_refl _⟩
  | k + 1, h => by
    have := lsum_le L h8 k (by omega)
    have := L.nn k (by omega)
    have := L.lt k (by omega)
    have := h8 k (by omega)
    show 0 ≤ lsum ls k + ls.getD k 0 ∧ lsum ls k + ls.getD k 0 ≤ 8 * ((k + 1 : Nat) : Int)
    omega
theorem jq_le (fw : Fw N) (L : Lens N ls) {t : Int} (ht : 0 ≤ t) {k : Nat} (hk : k < N.length) : jq N ls t (.inl (k : Int)) ≤ t + lsum ls k := by
  cases k with
  | zero =>
    unfold jq
    rw [if_pos (by rfl)]
    show t ≤ t + 0
    omega
  | succ m =>
    have nn : ∀ i, i < N.length → 0 ≤ bt N ls t i := fun i hi => by
      have h1 := bt_mono (ls := ls) fw L.pos ht i hi
      rw [bt_zero fw L i hi] at h1
      exact h1
    -- the seats of the first stations
    have h1 := sumJ_le (f := bt N ls t) (m + 1) (L := seatsOf N (m + 1)) fun s hs => nn _ (by
      obtain ⟨i, q⟩ := s
      have := (mem_seatsOf.mp hs).1
      show i < _
      omega)
    have hJ : ∀ j : Nat, 1 ≤ j → j ≤ m + 1 → toQ (bt N ls t) (.inl (j : Int)) (seatsOf N (m + 1)) = jq N ls t (.inl (j : Int)) := fun j j1 j2 => by
      unfold jq
      rw [if_neg (by simp; omega), toQ_pre fw j2 (n := N.length) (by omega) (Nat.le_refl _)]
    have hT : ∀ n, n ≤ m + 1 → totS (bt N ls t) (seatsOf N n) ≤ lsum ls n + (if n = 0 then 0 else t) + sumJ (bt N ls t) (seatsOf N (m + 1)) (n - 1) := by
      intro n
      induction n with
      | zero =>
        intro _
        show (0 : Int) ≤ 0 + 0 + 0
        omega
      | succ n ih =>
        intro hn
        have ih := ih (by omega)
        have w := (wt_lt (t := t) fw L (k := n) (by omega)).1
        unfold wt at w
        have e1 : totS (bt N ls t) (seatsOf N (n + 1)) = totS (bt N ls t) (seatsOf N n) + ((N.getD n []).length : Int) * bt N ls t n := by
          show totS _ (seatsOf N n ++ stSeats n (N.getD n [])) = _
          rw [totS_append, totS_st]
        have e2 : lsum ls (n + 1) = lsum ls n + ls.getD n 0 := rfl
        rw [e1, e2, if_neg (by omega)]
        rw [Int.mul_comm] at w
        cases n with
        | zero =>
          have j0 : jq N ls t (.inl ((0 : Nat) : Int)) = t := by
            unfold jq
            rw [if_pos (by rfl)]
          rw [j0] at w
          rw [if_pos rfl] at ih
          have e3 : sumJ (bt N ls t) (seatsOf N (m + 1)) (0 - 1) = 0 := rfl
          have e4 : sumJ (bt N ls t) (seatsOf N (m + 1)) (0 + 1 - 1) = 0 := rfl
          omega
        | succ n =>
          rw [if_neg (by omega)] at ih
          have e3 : sumJ (bt N ls t) (seatsOf N (m + 1)) (n + 1 + 1 - 1) = sumJ (bt N ls t) (seatsOf N (m + 1)) n + toQ (bt N ls t) (.inl ((n + 1 : Nat) : Int)) (seatsOf N (m + 1)) := rfl
          have e4 : sumJ (bt N ls t) (seatsOf N (m + 1)) (n + 1 - 1) = sumJ (bt N ls t) (seatsOf N (m + 1)) n := rfl
          rw [hJ (n + 1) (by omega) (by omega)] at e3
          omega
    have h2 := hT (m + 1) (Nat.le_refl _)
    have e5 : sumJ (bt N ls t) (seatsOf N (m + 1)) (m + 1) = sumJ (bt N ls t) (seatsOf N (m + 1)) m + toQ (bt N ls t) (.inl ((m + 1 : Nat) : Int)) (seatsOf N (m + 1)) := rfl
    have e6 : sumJ (bt N ls t) (seatsOf N (m + 1)) (m + 1 - 1) = sumJ (bt N ls t) (seatsOf N (m + 1)) m := rfl
    rw [hJ (m + 1) (by omega) (Nat.le_refl _)] at e5
    rw [if_neg (by omega)] at h2
    omega
/-- the labels of those who wait at a station at a time -/
def lab (N : Net) (ls : List Int) (t : Int) (k : Nat) : List (Int × Int) := (List.range (wt N ls t k).toNat).map fun (i : Nat) => ((k : Int), bt N ls t k * ((N.getD k []).length : Int) - ls.getD k 0 + 1 + (i : Int))
theorem lab_len (fw : Fw N) (L : Lens N ls) {t : Int} {k : Nat} (hk : k < N.length) : ((lab N ls t k).length : Int) = wt N ls t k := by
  unfold lab
  have := (wt_lt (t := t) fw L hk).1
  rw [List.length_map, List.length_range]
  omega
/-- what a label of a time says: a station, a number that somebody has there by then -/
structure LabOk (N : Net) (ls : List Int) (t : Int) (x : Int × Int) : Prop where
  st : ∃ k : Nat, k < N.length ∧ x.1 = (k : Int) ∧ 1 - ls.getD k 0 ≤ x.2 ∧ x.2 ≤ jq N ls t (.inl (k : Int))
theorem lab_ok (fw : Fw N) (L : Lens N ls) {t : Int} (ht : 0 ≤ t) {k : Nat} (hk : k < N.length) : ∀ x ∈ lab N ls t k, x.1 = (k : Int) ∧ 1 - ls.getD k 0 ≤ x.2 ∧ x.2 ≤ jq N ls t (.inl (k : Int)) := fun x hx => by
  unfold lab at hx
  obtain ⟨i, hi, rfl⟩ := List.mem_map.mp hx
  have hi := List.mem_range.mp hi
  have h1 := bt_mono (ls := ls) fw L.pos ht k hk
  rw [bt_zero fw L k hk] at h1
  have h2 : 0 ≤ bt N ls t k * ((N.getD k []).length : Int) := Int.mul_nonneg h1 (by omega)
  have w := (wt_lt (t := t) fw L hk).1
  have e : wt N ls t k = ls.getD k 0 + jq N ls t (.inl (k : Int)) - bt N ls t k * ((N.getD k []).length : Int) := rfl
  refine ⟨rfl, ?_, ?_⟩
  · show 1 - ls.getD k 0 ≤ bt N ls t k * ((N.getD k []).length : Int) - ls.getD k 0 + 1 + (i : Int)
    omega
  · show bt N ls t k * ((N.getD k []).length : Int) - ls.getD k 0 + 1 + (i : Int) ≤ _
    omega
end
end K
set_option Elab.async false
set_option linter.all false
set_option maxRecDepth 100000
set_option maxHeartbeats 1000000
set_option exponentiation.threshold 20000
namespace K
open PySem PySem.Spec PyProof.Rows L2 Evl FB
local macro_rules | `(tactic| walk_at "run") => `(tactic| try simp only [tSeq, tAsg, tVar, tC, gName, L2.start, List.map_cons, List.map_nil, List.cons_append, List.nil_append, List.length_cons, List.length_nil, List.replicate, List.getElem?_cons_zero, List.getElem?_cons_succ, Option.some.injEq, exists_eq_left', List.set_cons_zero, List.set_cons_succ, V.ref.injEq, tRet, x_tLst, x_tTup, tCons, tCB, tNil, tOp, x_addI, x_mulI, x_rI, x_rI0, x_ltI, x_leI, x_ltS, x_leS, x_eqI, x_neI, x_eqS, x_eqB, x_neB, x_isiI, x_isiS, x_int, x_max, x_min, cxOf, tIfS, tNext, tTest, V.bl.injEq, decide_eq_true_eq, gSub, tAnd, tOr, tNot, tB, tDrop, tBM, x_tFor, iRng1, iList, iTup, x_tLc, tYes, tCall, tIf, tAndV, tOrV, tNotV, tChain, List.append_nil, tUn, if_true, wipe, true_and, x_never, iU, x_itS, kV, Nat.reduceAdd, Nat.reduceSub, List.replicate_zero, x_rU, x_tMkO, iEnumT, x_tDc, x_tDGet, x_tDGet2, x_sDPut, x_tDSetd, x_tDNewK, x_iItems, x_iZip, x_tSAddK, x_tLockV, x_tTupRg, x_tRg2, tPar, tPar3, tBM0, tSl, tNoPart, tPart, x_tSetAdd, x_tDIn, x_iKeys, x_iZipX, x_iZip3, iRevR, tRg1, x_tFld, x_tMeth, x_sFld, x_tMake, tAug, x_ipI, x_tDNotIn, iRng2])
/-! Timetable: labels -/
def pdL (x : Int × Int) : PyData := .tuple [.int x.1, .int x.2]
theorem pdL_t : PD pdL := ⟨fun x => .tup fun d hd => by
  simp only [List.mem_cons, List.not_mem_nil, or_false] at hd
  rcases hd with rfl | rfl
  · exact .int _
  · exact .int _⟩
section
variable {P : Program} {w : World} {K : PySem.W.Frag} {mg : Str → Option Value} {base : Heap}
abbrev s_Timetable_labels : Stmt := inClass (top 32) 6
theorem sc_Timetable_labels : FnScope ["self", "station", "time", "first", "number"] ["self", "station", "time"] (defScope s_Timetable_labels) := ⟨rfl, rfl, rfl, by decide +kernel, rfl, by decide +kernel, by decide +kernel⟩
def spLab (K : PySem.W.Frag) (C : Addr) : Sp := fun vs H Q _ => ∃ (N : Net) (ls : List Int) (p : Int) (qs : Qs) (M : Tm) (c k : Nat) (t : Int), vs = [.ref M.a, .int (k : Int), .int t] ∧ TT K C N ls p qs M c H ∧ CntN N ∧ Lens N ls ∧ Fw N ∧ c < 890000 ∧ k < N.length ∧ 0 ≤ t ∧ t ≤ 1000000000000000000 ∧
  ∀ H' l, TT K C N ls p qs M (c + 2) H' → ExK M H H' → Dp K H' (.ref l) (qA pdL (lab N ls t k)) → Q (.ref l) H'
theorem ok_labels {C f f1 f2 f3 : Addr} {fd fd1 fd2 fd3 : FuncData} (D : Mf K C "labels" "Timetable.labels" s_Timetable_labels ["self", "station", "time"] f fd) (T : Bt mg) (F : TF K C) (M_boats_by : Mf K C "boats_by" "Timetable.boats_by" s_Timetable_boats_by ["self", "time"] f1 fd1)
    (G_boats_by : FnOk P w K mg base CX0 3 f1 fd1 ["self", "time"] (spBy K C)) (M_joined_by : Mf K C "joined_by" "Timetable.joined_by" s_Timetable_joined_by ["self", "place", "time"] f2 fd2) (G_joined_by : FnOk P w K mg base CX0 4 f2 fd2 ["self", "place", "time"] (spJd K C))
    (M_first_number : Mf K C "first_number" "Timetable.first_number" s_Timetable_first_number ["self", "station", "boat_number"] f3 fd3) : FnOk P w K mg base CX0 5 f fd ["self", "station", "time"] (spLab K C) := by
  have G_first_number : FnOk P w K mg base CX0 1 f3 fd3 _ _ := ok_first_number M_first_number T F
  refine D.F.ok sc_Timetable_labels (fun vs H Q E h => ?_) (fun cdv A outer s H vs Q E hr h => ?_)
  · obtain ⟨N, ls, p, qs, M, c, k, t, rfl, _⟩ := h
    rfl
  · obtain ⟨N, ls, p, qs, M, c, k, t, rfl, W, hC, L, fw, hc, hk, ht0, ht1, q⟩ := h
    have hu := hr.units
    refine ⟨_, (pss_cons (ps_set (i := 3) sc_Timetable_labels.nd rfl (Or.inl rfl) (pe_meth (pv 0) F.c M_first_number.m (G_first_number) (hr.mono (by decide)) M_first_number.b .nil pass0 (pa_cons (pv 1) (pa_cons (pe_op (op_addU (K := K)) (pe_ix (ix_U (K := K)) (pe_meth (pv 0) F.c M_boats_by.m (G_boats_by) (hr.mono (by decide)) M_boats_by.b .nil pass0 (pa_cons (pv 2) pa_nil)) (pv 1) (fun _ _ => rfl)) pe_int) pa_nil))))
      (pss_one (ps_ret (pe_callTy (call_tupU (K := K)) (by rfl) T.b_tuple (by decide +kernel) (pa_cons (pe_lc (own := [("number", 4)]) (g := gName 4) (tt := tYes) rfl sc_Timetable_labels.nd (pi_range2 (by rfl) T.b_range (pa_cons (pv 3) (pa_cons (pe_op (op_addU (K := K)) (pe_meth (pv 0) F.c M_joined_by.m (G_joined_by) (hr.mono (by decide)) M_joined_by.b .nil pass0 (pa_cons (pv 1) (pa_cons (pv 2) pa_nil))) pe_int) pa_nil))) (blkOk_by (own := [("number", 4)]) (N := ["self", "station", "time", "first", "number"]) (sc := defScope s_Timetable_labels) (by decide +kernel)) (fun _ _ _ _ _ => (pg_name (i := 4) sc_Timetable_labels.nd rfl (Or.inl rfl))) (fun _ _ _ _ _ => pts_nil) (fun _ _ _ _ _ => (pe_tup (pa_cons (pv 1) (pa_cons (pv 4) pa_nil))))) pa_nil))))), ?_⟩
    walk_at "run"
    refine x_meth W.ins fs_first_number (x_meth W.ins fs_boats_by ?_)
    refine ⟨N, ls, p, qs, M, c, t, rfl, W, hC, L.len, by omega, fun H1 l1 W1 e1 h1 => ?_⟩
    refine x_ixL (SqL.of h1) (v := .int (bt N ls t k)) (atI_nat (by rw [List.getElem?_map]; unfold bt; simp [List.getD_eq_getElem?_getD, bts_len, hk])) ?_
    walk_at "run"
    refine ⟨N, ls, p, qs, M, c + 1, k, bt N ls t k + 1, rfl, W1, hC, L.len, hk, ?_⟩
    rw [Int.add_sub_cancel]
    refine x_meth W1.ins fs_joined_by ?_
    refine ⟨N, ls, p, qs, M, c + 1, t, .inl (k : Int), rfl, W1, hC, L.len, by omega, .inl ⟨k, hk, rfl⟩, fun H2 W2 e2 => ?_⟩
    walk_at "run"
    have hJ := jq_le fw L ht0 hk
    have h8 : ∀ k, k < N.length → (N.getD k []).length ≤ 8 := fun k hk => (hC.st _ (List.mem_of_getElem? (show N[k]? = some (N.getD k []) by simp [List.getD_eq_getElem?_getD, hk]))).2
    have hls := lsum_le L h8 k (by omega)
    have h40 := hC.le
    have w := wt_lt (t := t) fw L hk
    have hb1 := bt_mono (ls := ls) fw L.pos ht0 k hk
    rw [bt_zero fw L k hk] at hb1
    have hb2 : 0 ≤ bt N ls t k * ((N.getD k []).length : Int) := Int.mul_nonneg hb1 (by omega)
    have hl0 := L.lt k hk
    have hl1 := h8 k hk
    have ew : wt N ls t k = ls.getD k 0 + jq N ls t (.inl (k : Int)) - bt N ls t k * ((N.getD k []).length : Int) := rfl
    have eLab : (lab N ls t k).map pdL = (List.range (wt N ls t k).toNat).map fun (i : Nat) => pdL ((k : Int), bt N ls t k * ((N.getD k []).length : Int) - ls.getD k 0 + 1 + (i : Int)) := by
      unfold lab
      rw [List.map_map]; rfl
    obtain ⟨fst, hf⟩ : ∃ z, z = bt N ls t k * ((N.getD k []).length : Int) - ls.getD k 0 + 1 := ⟨_, rfl⟩
    rw [← hf] at eLab ⊢
    refine ⟨fst, _, rfl, ⟨by omega, by omega, by omega, by omega⟩, ?_⟩
    rw [show (jq N ls t (.inl (k : Int)) + 1 - fst).toNat = (wt N ls t k).toNat by omega]
    refine lcl_it walk_range (fun D i H' => Ex H2 H' ∧ LsAt K H' D ((List.range i).map fun (j : Nat) => pdL ((k : Int), fst + (j : Int)))) (fun D H' hD e h => ⟨e, ⟨⟨[], h, .nil⟩⟩⟩) (fun D i H' _ _ => trivial) ?_ ?_
    · rintro D i x H3 H3' hD hi ⟨e3, hL⟩ ⟨eH, rfl⟩
      subst eH
      walk_at "run"
      refine x_tup (by simp) fun a4 H4 n4 e4 h4 => ?_
      obtain ⟨xs, hxs, hxd⟩ := (hL.ex2 e4).ex
      have hxl : xs.length = i := by rw [hxd.len, List.length_map, List.length_range]
      refine x_push hxs (by omega) fun H5 e5 h5 => ⟨fun o u h => e5 _ _ (ne_of_none h hD) (e4 _ _ (e3 _ _ h)), ⟨⟨_, h5, ?_⟩⟩⟩
      have t5 : TX H4 H5 := TX.but hxs e5
      rw [List.range_succ, List.map_append]
      exact DpAll.append (DpAll.tx t5 hxd fun d hd => by
        obtain ⟨j, _, rfl⟩ := List.mem_map.mp hd
        exact pdL_t.t _) (.cons (Dp.tx t5 (show Dp K H4 (.ref a4) (pdL ((k : Int), fst + (i : Int))) from .tup (SqT.of h4) (.cons (.int _) (.cons (.int _) .nil))) (pdL_t.t _)) .nil)
    · rintro D H3 hD ⟨e3, hL⟩
      walk_at "run"
      obtain ⟨xs, hxs, hxd⟩ := hL.ex
      refine x_tupL (SqL.of hxs) fun l4 H4 n4 e4 h4 => ?_
      refine q H4 l4 ((W2.ex e3).ex e4) ((e1.trans e2).trans (ExK.of (e3.trans e4))) (.tup (SqT.of h4) ?_)
      rw [eLab]
      exact DpAll.ex e4 hxd
end
end K
set_option Elab.async false
set_option linter.all false
set_option maxRecDepth 100000
set_option maxHeartbeats 4000000
/-! list.extend of a tuple -/
namespace FB
open PySem PySem.Spec PyProof.Rows L2 Evl
open Sem (wp)
theorem list_extend_tup (l : Addr) (items : Array Value) (n : Nat) (b : Addr) (items2 : Array Value) (n2 : Nat) (dd : Option Addr) (sl : Array (Option Value)) (hs0 : ¬(!items.isEmpty && Builtin.List.listTooLong (items.size + items2.size)) = true) (hs1 : items.size ≤ sizeLine) (hs2 : items.size + items2.size ≤ sizeLine + 1) :
    Meets (Builtin.«list.extend» ⟨[.ref l, .ref b], []⟩) (fun _ R s => s.heap.get? l = some { cls := .type "list", dict := none, data := .seq items n, slots := #[] } ∧ s.heap.get? b = some { cls := .type "tuple", dict := dd, data := .seq items2 n2, slots := sl } ∧ R (.ok (.ret Value.none)) { s with heap := s.heap.update l (Obj.mapSeq fun x => x ++ items2), toks := s.toks }) :=
  .of_wp fun prog w A R s h => by
    obtain ⟨hp, g, d, tk, os⟩ := s; obtain ⟨hl, hb, h⟩ := h; have f1 := AutoSeq1.idx_int; have f2 := AutoSeq1.sub_tuple_tuple; have f3 := AutoSeq1.sub_list_list; have f4 := AutoSeq1.sub_tuple_list; have f5 := AutoSeq1.sub_list_tuple
    have hz' : (items ++ items2).size ≤ sizeLine + 1 := by rw [Array.size_append]; exact hs2
    wp_walk using (wpAny_updateSeq hl rfl (hz := hs1) (_hz' := hz')), AutoSeq1.wpAny_loadPart' hl, AutoSeq1.wpAny_loadPart' hb
    exact ⟨_, rfl, h⟩
/-- list.extend of a list or a tuple -/
def rExtU (K : PySem.W.Frag) : V → List V → Hp → VK → Prop := fun x vs H Q => rExtend x vs H Q ∨ ∃ l b xs zs, x = .ref l ∧ vs = [.ref b] ∧ H l = some (.lst xs) ∧ SqT K H b zs ∧ xs.length + zs.length ≤ sizeLine ∧ Q .non (upd H l (.lst (xs ++ zs)))
theorem mt_extendU {X : Cx} {K : PySem.W.Frag} (hK : X.K = K := by rfl) : MtM X "list.extend" (rExtU K) := by
  subst hK
  intro pins s σ H x vs v us Q I rx rv h
  rcases h with h | h
  · exact mt_extend pins s σ H x vs v us Q I rx rv h
  obtain ⟨l, b, xs, zs, rfl, rfl, hH, hB, hz, q⟩ := h
  cases rx
  obtain ⟨u, rfl, ru⟩ := rv.one
  cases ru
  obtain ⟨z, its, n, r, hl, e⟩ := I.lstM hH
  obtain ⟨its2, r2, ⟨⟨cls, dd, data, sl⟩, ho, hc, n2, hd⟩, hs⟩ := I.tuple hB
  simp only at hc hd
  subst hc hd
  have hl2 := r2.length
  have hsz : its.toArray.size + its2.toArray.size ≤ sizeLine := by rw [List.size_toArray, List.size_toArray]; omega
  have hlong : ¬ (!its.toArray.isEmpty && Builtin.List.listTooLong (its.toArray.size + its2.toArray.size)) = true := by
    rw [notLongL hsz, Bool.and_false]
    exact Bool.false_ne_true
  refine call_meets F.slot_list_extend ⟨_, e, rfl⟩ F.entry_list_extend (F.args_list_extend_2 _ _)
    (list_extend_tup l its.toArray n b its2.toArray n2 dd sl hlong (by rw [List.size_toArray]; omega) (by omega)) ⟨e, ho, ?_⟩
  refine ⟨.non, _, I.lset (its' := its ++ its2) hH e (by simp) (r.append r2) ?_, rfl, q⟩
  rw [List.length_append]
  omega
theorem x_extT {K : PySem.W.Frag} {H : Hp} {Q : VK} {l b : Addr} {xs zs : List V} (h1 : H l = some (.lst xs)) (h2 : SqT K H b zs) (hl : xs.length + zs.length ≤ 1000000) (k : ∀ H', (∀ x o, x ≠ l → H x = some o → H' x = some o) → H' l = some (.lst (xs ++ zs)) → Q .non H') : rExtU K (.ref l) [.ref b] H Q :=
  .inr ⟨l, b, xs, zs, rfl, rfl, h1, h2, small hl, k _ (fun x o hx h => by rw [upd_ne hx]; exact h) upd_same⟩
end FB
set_option Elab.async false
set_option linter.all false
set_option maxRecDepth 100000
set_option maxHeartbeats 4000000
namespace K
open PySem PySem.Spec PyProof.Rows L2 Evl FB
local macro_rules | `(tactic| walk_at "run") => `(tactic| try simp only [tSeq, tAsg, tVar, tC, gName, L2.start, List.map_cons, List.map_nil, List.cons_append, List.nil_append, List.length_cons, List.length_nil, List.replicate, List.getElem?_cons_zero, List.getElem?_cons_succ, Option.some.injEq, exists_eq_left', List.set_cons_zero, List.set_cons_succ, V.ref.injEq, tRet, x_tLst, x_tTup, tCons, tCB, tNil, tOp, x_addI, x_mulI, x_rI, x_rI0, x_ltI, x_leI, x_ltS, x_leS, x_eqI, x_neI, x_eqS, x_eqB, x_neB, x_isiI, x_isiS, x_int, x_max, x_min, cxOf, tIfS, tNext, tTest, V.bl.injEq, decide_eq_true_eq, gSub, tAnd, tOr, tNot, tB, tDrop, tBM, x_tFor, iRng1, iList, iTup, x_tLc, tYes, tCall, tIf, tAndV, tOrV, tNotV, tChain, List.append_nil, tUn, if_true, wipe, true_and, x_never, iU, x_itS, kV, Nat.reduceAdd, Nat.reduceSub, List.replicate_zero, x_rU, x_tMkO, iEnumT, x_tDc, x_tDGet, x_tDGet2, x_sDPut, x_tDSetd, x_tDNewK, x_iItems, x_iZip, x_tSAddK, x_tLockV, x_tTupRg, x_tRg2, tPar, tPar3, tBM0])
section
variable {P : Program} {w : World} {K : PySem.W.Frag} {mg : Str → Option Value} {base : Heap} {α : Type} [Inhabited α] {pd : α → PyData}
abbrev s_join_queue : Stmt := top 24
theorem sc_join_queue : FnScope ["network", "queues", "station", "passenger", "events"] ["network", "queues", "station", "passenger", "events"] (defScope s_join_queue) := ⟨rfl, rfl, rfl, by decide +kernel, rfl, by decide +kernel, by decide +kernel⟩
abbrev s_depart : Stmt := top 25
theorem sc_depart : FnScope ["network", "queues", "station", "events", "passengers", "place", "passenger"] ["network", "queues", "station", "events"] (defScope s_depart) := ⟨rfl, rfl, rfl, by decide +kernel, rfl, by decide +kernel, by decide +kernel⟩
/-- a passenger joins a queue of the package -/
def spJoinP (K : PySem.W.Frag) (pd : α → PyData) (f : Nat) : Sp := fun vs H Q _ => ∃ (v x : V) (N : Net) (Qa Ea : Addr) (qs : QsA α) (es : EvsA α) (j : Nat) (p : α), vs = [v, .ref Qa, .int (j : Int), x, .ref Ea] ∧ NetAt K H v N ∧ JN N ∧ Dp K H x (pd p) ∧ QtAt K H Qa pd qs ∧ EvAt K H Ea pd es ∧ Qa ≠ Ea ∧
  Short N qs ∧ j < N.length ∧ N.length ≤ j + f ∧ es.length + (wayW N.length 0 qs + 2 * (N.length - j)) ≤ 900000 ∧
  ∀ H', Ex2 Qa Ea H H' → QtAt K H' Qa pd (joinW N (departW N f) qs j p).1 → EvAt K H' Ea pd (es ++ (joinW N (departW N f) qs j p).2) → Q .non H'
def spDepartP (K : PySem.W.Frag) (pd : α → PyData) (f : Nat) : Sp := fun vs H Q _ => ∃ (v : V) (N : Net) (Qa Ea : Addr) (qs : QsA α) (es : EvsA α) (st : Nat), vs = [v, .ref Qa, .int (st : Int), .ref Ea] ∧ NetAt K H v N ∧ JN N ∧ QtAt K H Qa pd qs ∧ EvAt K H Ea pd es ∧ Qa ≠ Ea ∧
  qs.length = N.length ∧ (∀ k, k < N.length → k ≠ st → (qs.getD k []).length < (N.getD k []).length) ∧ (qs.getD st []).length ≤ (N.getD st []).length ∧ 1 ≤ (qs.getD st []).length ∧ st < N.length ∧ N.length ≤ st + f ∧ es.length + wayW N.length 0 qs ≤ 900000 ∧
  ∀ H', Ex2 Qa Ea H H' → QtAt K H' Qa pd (departW N f qs st).1 → EvAt K H' Ea pd (es ++ (departW N f qs st).2) → Q .non H'
theorem ok_join_queue (hp : PD pd) {f g : Addr} {fd gd : FuncData} {l n : Nat} (D : Df K mg "join_queue" s_join_queue ["network", "queues", "station", "passenger", "events"] f fd) (T : Bt mg) (D_depart : Df K mg "depart" s_depart ["network", "queues", "station", "events"] g gd)
    (G_depart : FnOk P w K mg base CX0 l g gd ["network", "queues", "station", "events"] (spDepartP K pd n)) : FnOk P w K mg base CX0 (l + 1) f fd ["network", "queues", "station", "passenger", "events"] (spJoinP K pd n) := by
  refine D.F.ok sc_join_queue (fun vs H Q E h => ?_) (fun cdv A outer s H vs Q E hr h => ?_)
  · obtain ⟨v, x, N, Qa, Ea, qs, es, j, p, rfl, _⟩ := h
    rfl
  · obtain ⟨v, x, N, Qa, Ea, qs, es, j, p, rfl, hN, hJ, hx, hQ, hE, hne, S, hj, hf, hb, q⟩ := h
    have hu := hr.units
    refine ⟨_, (pss_cons (ps_asg (pe_op (op_addU (K := K)) (pe_ix (ix_U (K := K)) (pv 1) (pv 2) (fun _ _ => rfl)) (pe_tup (pa_cons (pv 3) pa_nil))) (pg_sub (pv 1) (pv 2) set_list))
      (pss_one (ps_if (pt_cmpR (op_eqU (K := K) hu) (pe_callB (call_lenU (K := K)) (by rfl) T.b_len (by decide +kernel) (pa_cons (pe_ix (ix_U (K := K)) (pv 1) (pv 2) (fun _ _ => rfl)) pa_nil)) (pe_callB (call_lenU (K := K)) (by rfl) T.b_len (by decide +kernel) (pa_cons (pe_ix (ix_U (K := K)) (pv 0) (pv 2) (fun _ _ => rfl)) pa_nil)) (nomark _)) (pss_one (ps_expr (pe_call (G_depart) hr rfl D_depart.g D_depart.F.kp D_depart.b .nil pass0 (pa_cons (pv 0) (pa_cons (pv 1) (pa_cons (pv 2) (pa_cons (pv 4) pa_nil))))))) pss_nil))), ?_⟩
    walk_at "run"
    have hjq : j < qs.length := by rw [S.len]; exact hj
    obtain ⟨ts, b, vs, hQa, hts, htj, hbv, hvs⟩ := QtAt.get hQ hjq
    obtain ⟨vn, us, rfl, hU, hus⟩ := hN.at
    obtain ⟨h1s, h8s⟩ := hJ.st j hj
    have hlt := S.lt j hj
    have hvl : vs.length = (qs.getD j []).length := by rw [hvs.len, List.length_map]
    have htl : ts.length = qs.length := by rw [hts.len, List.length_map]
    refine x_ixL (SqL.of hQa) (atI_nat htj) (x_tup (by simp) fun t1 H1 nt1 e1 h1 => ?_)
    refine x_catT (ex_t e1 hbv) (SqT.of h1) (by simp; omega) fun t2 H2 e2 h2 => ?_
    walk_at "run"
    have hix : ixN ts.length (j : Int) = some j := by unfold ixN; rw [if_pos (by omega), if_pos (by omega)]; simp
    refine x_setL (e2 _ _ (e1 _ _ hQa)) hix fun H3 e3 h3 => ?_
    have e12 : Ex H H2 := fun x o h => e2 _ _ (e1 _ _ h)
    have t3 : TX H H3 := (TX.of e12).trans (TX.but (e2 _ _ (e1 _ _ hQa)) e3)
    have hQ3 : QtAt K H3 Qa pd (qs.set j (qs.getD j [] ++ [p])) := ⟨⟨_, h3, by
      rw [List.map_set]
      refine DpAll.set (DpAll.tx t3 hts (qs_t hp)) ?_
      unfold qA
      rw [List.map_append]
      refine .tup ((TX.but (e2 _ _ (e1 _ _ hQa)) e3).t h2) ?_
      refine DpAll.append (DpAll.tx t3 hvs fun d hd => ?_) (.cons (Dp.tx t3 hx (hp.t p)) .nil)
      obtain ⟨y, _, rfl⟩ := List.mem_map.mp hd
      exact hp.t y⟩⟩
    have hE3 : EvAt K H3 Ea pd es := hE.tx (es_t hp) t3 fun o h => e3 _ _ hne.symm (e12 _ _ h)
    have ex3 : Ex2 Qa Ea H H3 := fun x o h h1 _ => e3 _ _ h1 (e12 _ _ h)
    have htj3 : (ts.set j (.ref t2))[j]? = some (.ref t2) := by rw [List.getElem?_set_self (by omega)]
    refine x_ixL (SqL.of h3) (atI_nat htj3) (x_lenT ((TX.but (e2 _ _ (e1 _ _ hQa)) e3).t h2) ?_)
    obtain ⟨sv, hsv, hsd⟩ := hus.get (show (N.map stD)[j]? = some (stD (N.getD j [])) by simp [List.getD_eq_getElem?_getD, hj])
    obtain ⟨c, rfl, hcs⟩ := StAt.at hsd
    refine x_ixT (t3.t hU) (atI_nat hsv) (x_lenT (t3.t hcs) ?_)
    rw [List.length_map, List.length_append, show [x].length = 1 from rfl]
    walk_at "run"
    have hlen : (qs.getD j [] ++ [p]).length = (qs.getD j []).length + 1 := by simp
    by_cases e : (qs.getD j [] ++ [p]).length = (N.getD j []).length
    · rw [if_pos (by omega)]
      have hjw : joinW N (departW N n) qs j p = departW N n (qs.set j (qs.getD j [] ++ [p])) j := by unfold joinW; rw [if_pos e]
      rw [hjw] at q
      have hw := wayW_set (n := N.length) (qs := qs) (k := 0) (j := j) (q := qs.getD j [] ++ [p]) hjq
      rw [List.length_append, show [p].length = 1 from rfl, Nat.add_mul, Nat.zero_add, Nat.one_mul] at hw
      refine ⟨_, N, Qa, Ea, _, es, j, rfl, hN.tx t3, hJ, hQ3, hE3, hne, by rw [List.length_set]; exact S.len, fun k hk hn => by rw [getD_set' hjq, if_neg hn]; exact S.lt k hk, by rw [getD_set' hjq, if_pos rfl]; omega, by rw [getD_set' hjq, if_pos rfl]; simp, hj, hf, by omega, fun H4 ex4 hQ4 hE4 => ?_⟩
      exact q H4 (fun x o h h1 h2 => ex4 x o (ex3 x o h h1 h2) h1 h2) hQ4 hE4
    · rw [if_neg (by omega)]
      have hjw : joinW N (departW N n) qs j p = (qs.set j (qs.getD j [] ++ [p]), []) := by unfold joinW; rw [if_neg e]
      rw [hjw] at q
      exact q H3 ex3 hQ3 (by simpa using hE3)
theorem ok_depart (hp : PD pd) {f g : Addr} {fd gd : FuncData} {l n : Nat} (D : Df K mg "depart" s_depart ["network", "queues", "station", "events"] f fd) (T : Bt mg) (D_join_queue : Df K mg "join_queue" s_join_queue ["network", "queues", "station", "passenger", "events"] g gd)
    (G_join_queue : FnOk P w K mg base CX0 l g gd ["network", "queues", "station", "passenger", "events"] (spJoinP K pd n)) : FnOk P w K mg base CX0 (l + 1) f fd ["network", "queues", "station", "events"] (spDepartP K pd (n + 1)) := by
  refine D.F.ok sc_depart (fun vs H Q E h => ?_) (fun cdv A outer s H vs Q E hr h => ?_)
  · obtain ⟨v, N, Qa, Ea, qs, es, st, rfl, _⟩ := h
    rfl
  · obtain ⟨v, N, Qa, Ea, qs, es, st, rfl, hN, hJ, hQ, hE, hne, hl, hsh, hle, h1q, hst, hf, hb, q⟩ := h
    have hu := hr.units
    refine ⟨_, (pss_cons (ps_set (i := 4) sc_depart.nd rfl (Or.inl rfl) (pe_ix (ix_U (K := K)) (pv 1) (pv 2) (fun _ _ => rfl)))
      (pss_cons (ps_asg (pe_tup pa_nil) (pg_sub (pv 1) (pv 2) set_list))
      (pss_cons (ps_expr (pe_bm PySem.F.plainAttrs_list PySem.F.slot_list_append PySem.F.type_list_append mt_append (pv 3) (pa_cons (pe_tup (pa_cons (pv 2) (pa_cons (pv 4) pa_nil))) pa_nil)))
      (pss_one (ps_for PassesOwn.never rfl (RZ.pi_zipA (by rfl) T.b_zip (pa_cons (pe_ix (ix_U (K := K)) (pv 0) (pv 2) (fun _ _ => rfl)) (pa_cons (pv 4) pa_nil))) (pg_tup rfl (pgs_cons (pg_name (i := 5) sc_depart.nd rfl (Or.inl rfl)) (pgs_cons (pg_name (i := 6) sc_depart.nd rfl (Or.inl rfl)) pgs_nil))) (pss_one (ps_if (pt_val (pe_callB (call_isiU (K := K)) (by rfl) T.b_isinstance (by decide +kernel) (pa_cons (pv 5) (pa_cons (pe_bltn (v := .ty "str") (by rfl) T.b_str (by decide +kernel) rfl) pa_nil)))) (pss_one (ps_expr (pe_bm PySem.F.plainAttrs_list PySem.F.slot_list_append PySem.F.type_list_append mt_append (pv 3) (pa_cons (pe_tup (pa_cons (pv 5) (pa_cons (pe_tup (pa_cons (pv 6) pa_nil)) pa_nil))) pa_nil)))) (pss_one (ps_expr (pe_call (G_join_queue) hr rfl D_join_queue.g D_join_queue.F.kp D_join_queue.b .nil pass0 (pa_cons (pv 0) (pa_cons (pv 1) (pa_cons (pv 5) (pa_cons (pv 6) (pa_cons (pv 3) pa_nil))))))))))))))), ?_⟩
    walk_at "run"
    have hsq : st < qs.length := by omega
    obtain ⟨ts, b, vs, hQa, hts, htj, hbv, hvs⟩ := QtAt.get hQ hsq
    obtain ⟨vn, us, rfl, hU, hus⟩ := hN.at
    obtain ⟨h1s, h8s⟩ := hJ.st st hst
    have hvl : vs.length = (qs.getD st []).length := by rw [hvs.len, List.length_map]
    have htl : ts.length = qs.length := by rw [hts.len, List.length_map]
    have hix : ixN ts.length (st : Int) = some st := by unfold ixN; rw [if_pos (by omega), if_pos (by omega)]; simp
    refine x_ixL (SqL.of hQa) (atI_nat htj) (x_tup (by simp) fun t1 H1 nt1 e1 h1 => ?_)
    walk_at "run"
    refine x_setL (e1 _ _ hQa) hix fun H2 e2 h2 => ?_
    have t12 : TX H1 H2 := TX.but (e1 _ _ hQa) e2
    have t2 : TX H H2 := (TX.of e1).trans t12
    have hQ2 : QtAt K H2 Qa pd (qs.set st []) := ⟨⟨_, h2, by
      rw [List.map_set]
      exact DpAll.set (DpAll.tx t2 hts (qs_t hp)) (.tup (t12.t (SqT.of h1)) .nil)⟩⟩
    have hE2 : EvAt K H2 Ea pd es := hE.tx (es_t hp) t2 fun o h => e2 _ _ hne.symm (e1 _ _ h)
    have ex2 : Ex2 Qa Ea H H2 := fun x o h h1 _ => e2 _ _ h1 (e1 _ _ h)
    obtain ⟨eS, hEa, heS⟩ := hE2.ex
    have hel : eS.length = es.length := by rw [heS.len, List.length_map]
    refine ⟨x_tyL (SqL.of hEa), x_tup (by simp) fun t3 H3 nt3 e3 h3 => ?_⟩
    refine x_append (e3 _ _ hEa) (by omega) fun H4 e4 h4 => ?_
    have t24 : TX H2 H4 := (TX.of e3).trans (TX.but (e3 _ _ hEa) e4)
    have t4 : TX H H4 := t2.trans t24
    have hEt3 : Ea ≠ t3 := ne_of_none hEa nt3
    have hbq : Dp K H4 (.ref b) (qA pd (qs.getD st [])) := Dp.tx t4 (.tup hbv hvs) (qA_t hp _)
    have hE4 : EvAt K H4 Ea pd (es ++ [(.inl (st : Int), qs.getD st [])]) := ⟨⟨_, h4, by
      rw [List.map_append]
      refine DpAll.append (DpAll.tx t24 heS (es_t hp)) (.cons (.tup (SqT.of (e4 _ _ hEt3.symm h3)) (.cons (.int _) (.cons hbq .nil))) .nil)⟩⟩
    have hQ4 : QtAt K H4 Qa pd (qs.set st []) := hQ2.tx (qs_t hp) t24 fun o h => e4 _ _ hne (e3 _ _ h)
    have ex4 : Ex2 Qa Ea H H4 := fun x o h h1 h2 => e4 _ _ h2 (e3 _ _ (ex2 x o h h1 h2))
    obtain ⟨sv, hsv, hsd⟩ := hus.get (show (N.map stD)[st]? = some (stD (N.getD st [])) by simp [List.getD_eq_getElem?_getD, hst])
    obtain ⟨c, rfl, hcs⟩ := StAt.at hsd
    refine x_ixT (t4.t hU) (atI_nat hsv) (x_zipT (t4.t hcs) (t4.t hbv) ?_)
    have hw := wayW_set (n := N.length) (qs := qs) (k := 0) (j := st) (q := []) hsq
    rw [Nat.zero_add, List.length_nil, Nat.zero_mul] at hw
    have h1k : ∀ k, k < N.length → 1 ≤ (N.getD k []).length := fun k hk => (hJ.st k hk).1
    have S0 : Short N (qs.set st []) := ⟨by rw [List.length_set]; exact hl, fun k hk => by
      rw [getD_set' hsq]
      split
      · rename_i e; subst e; exact h1s
      · rename_i e; exact hsh k hk e⟩
    have hdep := departW_ok (α := α) h1k hJ.fw n
    have hway := departW_way (α := α) hJ.fw n
    have hzl : ((N.getD st []).zip (qs.getD st [])).length = (qs.getD st []).length := by rw [List.length_zip]; omega
    have hmem : ∀ i, ∀ m ∈ ((N.getD st []).zip (qs.getD st [])).take i, ∀ j : Int, m.1 = .inl j → (st : Int) < j ∧ j < N.length := fun i m hm j e =>
      hJ.fw st hst j (by rw [← e]; exact (List.of_mem_zip (List.mem_of_mem_take hm)).1)
    have hmn : min ((N.getD st []).map kV).length vs.length = (qs.getD st []).length := by rw [List.length_map]; omega
    refine loop_it walk_zipM (fun i σ H' => ∃ u5 u6, σ = [some (.ref vn), some (.ref Qa), some (.int (st : Int)), some (.ref Ea), some (.ref b), u5, u6] ∧ Ex2 Qa Ea H H' ∧ TX H4 H' ∧
      QtAt K H' Qa pd (moveW (α := α) N (departW N n) (((N.getD st []).zip (qs.getD st [])).take i) (qs.set st [])).1 ∧ EvAt K H' Ea pd ((es ++ [(.inl (st : Int), qs.getD st [])]) ++ (moveW (α := α) N (departW N n) (((N.getD st []).zip (qs.getD st [])).take i) (qs.set st [])).2)) ⟨_, _, rfl, ex4, TX.refl _, hQ4, by simpa [moveW] using hE4⟩
      (fun i σ H' _ ⟨_, _, _, _, t, _, _⟩ => ⟨(t4.trans t).t hcs, (t4.trans t).t hbv⟩) ?_ ?_
    · rintro i v σ H5 H6 hi ⟨u5, u6, rfl, ex5, t5, hQ5, hE5⟩ ⟨T0, x, y, rfl, hT0, rfl, hx, hy⟩
      rw [hmn] at hi
      have e6 : Ex H5 (upd H5 T0 (.tup [x, y])) := Ex.new hT0
      refine x_two (SqT.of upd_same) ?_
      generalize upd H5 T0 (.tup [x, y]) = H6 at e6
      have t6 : TX H4 H6 := t5.trans (TX.of e6)
      obtain ⟨S5, K5⟩ := moveW_ok h1k hdep (st := st) (by omega) (ms := ((N.getD st []).zip (qs.getD st [])).take i) (hmem i) S0
      obtain ⟨W5, L5⟩ := moveW_way (f := n) hway (st := st) (by omega) hst (ms := ((N.getD st []).zip (qs.getD st [])).take i) (qs := qs.set st []) (hmem i) (by rw [List.length_set]; exact hl)
      have hlen5 : (((N.getD st []).zip (qs.getD st [])).take i).length = i := by rw [List.length_take]; omega
      rw [hlen5] at W5
      obtain ⟨k, hk⟩ : ∃ k, (N.getD st [])[i]? = some k := ⟨(N.getD st [])[i]'(by omega), List.getElem?_eq_getElem (by omega)⟩
      obtain ⟨p, hp2⟩ : ∃ p, (qs.getD st [])[i]? = some p := ⟨(qs.getD st [])[i]'(by omega), List.getElem?_eq_getElem (by omega)⟩
      have hzi : ((N.getD st []).zip (qs.getD st []))[i]? = some (k, p) := by
        rw [List.getElem?_zip_eq_some]
        exact ⟨hk, hp2⟩
      have htk : ((N.getD st []).zip (qs.getD st [])).take (i + 1) = ((N.getD st []).zip (qs.getD st [])).take i ++ [(k, p)] := by rw [List.take_add_one, hzi]; rfl
      rw [htk, moveW_snoc]
      have hQ6 := hQ5.ex2 e6
      have hE6 := hE5.ex2 e6
      have ex6 : Ex2 Qa Ea H H6 := ex5.ex e6
      generalize moveW (α := α) N (departW N n) (((N.getD st []).zip (qs.getD st [])).take i) (qs.set st []) = R at hQ6 hE6 S5 K5 L5 W5
      obtain rfl : kV k = x := by
        change ((N.getD st []).map kV)[i]? = some x at hx
        have : ((N.getD st []).map kV)[i]? = some (kV k) := by simp only [List.getElem?_map, hk]; rfl
        rw [this] at hx
        exact Option.some.inj hx
      obtain ⟨dp, hdp, hyd⟩ := DpAll.get' (DpAll.tx t4 hvs fun d hd => by
        obtain ⟨y, _, rfl⟩ := List.mem_map.mp hd
        exact hp.t y) hy
      obtain rfl : pd p = dp := by
        have : ((qs.getD st []).map pd)[i]? = some (pd p) := by simp only [List.getElem?_map, hp2]; rfl
        rw [this] at hdp
        exact Option.some.inj hdp
      have hy6 : Dp K H6 y (pd p) := Dp.tx t6 hyd (hp.t p)
      have hiX : i * (2 * (N.length - st)) + 2 * (N.length - st) ≤ (qs.getD st []).length * (2 * (N.length - st)) := by
        have := Nat.mul_le_mul_right (2 * (N.length - st)) (show i + 1 ≤ (qs.getD st []).length by omega)
        rw [Nat.add_mul, Nat.one_mul] at this
        exact this
      walk_at "run"
      cases k with
      | inl j =>
        have hj := hJ.fw st hst j (List.mem_of_getElem? hk)
        obtain ⟨j', rfl⟩ : ∃ j' : Nat, j = (j' : Int) := ⟨j.toNat, by omega⟩
        walk_at "run"
        rw [if_neg Bool.false_ne_true]
        have hjo := move_one_l (N := N) (dep := departW N n) (j := (j' : Int)) (p := p) (qs := R.1)
        rw [Int.toNat_natCast] at hjo
        rw [hjo]
        refine ⟨_, y, N, Qa, Ea, R.1, _, j', p, rfl, hN.tx (t4.trans t6), hJ, hy6, hQ6, hE6, hne, S5, by omega, by omega, ?_, fun H7 ex7 hQ7 hE7 => ?_⟩
        · rw [List.length_append, List.length_append, List.length_singleton]; omega
        · refine ⟨_, _, rfl, fun x o h h1 h2 => ex7 x o (ex6 x o h h1 h2) h1 h2, t6.trans ?_, hQ7, ?_⟩
          · obtain ⟨_, a1, _⟩ := hQ6.ex
            obtain ⟨_, a2, _⟩ := hE6.ex
            exact TX.two a1 a2 ex7
          · rw [← List.append_assoc]
            exact hE7
      | inr z =>
        walk_at "run"
        obtain ⟨es6, hEa6, hes6⟩ := hE6.ex
        have hl6 : es6.length = es.length + 1 + R.2.length := by rw [hes6.len, List.length_map, List.length_append, List.length_append, List.length_singleton]
        refine ⟨x_tyL (SqL.of hEa6), x_tup (by simp) fun t7 H7 nt7 e7 h7 => x_tup (by simp) fun t8 H8 nt8 e8 h8 => ?_⟩
        refine x_append (e8 _ _ (e7 _ _ hEa6)) (by omega) fun H9 e9 h9 => ?_
        have hE7' : Ea ≠ t7 := ne_of_none hEa6 nt7
        have hE8' : Ea ≠ t8 := ne_of_none (e7 _ _ hEa6) nt8
        have t69 : TX H6 H9 := ((TX.of e7).trans (TX.of e8)).trans (TX.but (e8 _ _ (e7 _ _ hEa6)) e9)
        rw [move_one_r]
        refine ⟨_, _, rfl, fun x o h h1 h2 => e9 _ _ h2 (e8 _ _ (e7 _ _ (ex6 x o h h1 h2))), t6.trans t69, hQ6.tx (qs_t hp) t69 fun o h => e9 _ _ hne (e8 _ _ (e7 _ _ h)), ⟨⟨_, h9, ?_⟩⟩⟩
        rw [← List.append_assoc, List.map_append]
        refine DpAll.append (DpAll.tx t69 hes6 (es_t hp)) (.cons (.tup (SqT.of (e9 _ _ hE8'.symm h8)) (.cons (.str z) (.cons (.tup (SqT.of (e9 _ _ hE7'.symm (e8 _ _ h7))) (.cons (Dp.tx t69 hy6 (hp.t p)) .nil)) .nil))) .nil)
    · rintro σ H5 ⟨u5, u6, rfl, ex5, t5, hQ5, hE5⟩
      rw [hmn] at hQ5 hE5
      have ht : ((N.getD st []).zip (qs.getD st [])).take (qs.getD st []).length = (N.getD st []).zip (qs.getD st []) := List.take_of_length_le (by omega)
      rw [ht] at hQ5 hE5
      refine q H5 ex5 hQ5 ?_
      rw [List.append_assoc] at hE5
      exact hE5
theorem ok_p_pair (hp : PD pd) {f g : Addr} {fd gd : FuncData} (D_join_queue : Df K mg "join_queue" s_join_queue ["network", "queues", "station", "passenger", "events"] f fd) (T : Bt mg) (D_depart : Df K mg "depart" s_depart ["network", "queues", "station", "events"] g gd) : ∀ n : Nat,
    FnOk P w K mg base CX0 (2 * n) g gd ["network", "queues", "station", "events"] (spDepartP K pd n) ∧ FnOk P w K mg base CX0 (2 * n + 1) f fd ["network", "queues", "station", "passenger", "events"] (spJoinP K pd n)
  | 0 => by
    have h0 : FnOk P w K mg base CX0 (2 * 0) g gd ["network", "queues", "station", "events"] (spDepartP K pd 0) := FnOk.absurd fun vs H Q E ⟨_, _, _, _, _, _, _, _, _, _, _, _, _, _, _, _, _, h1, h2, _⟩ => by omega
    exact ⟨h0, ok_join_queue hp D_join_queue T D_depart h0⟩
  | n + 1 => by
    have h0 : FnOk P w K mg base CX0 (2 * (n + 1)) g gd ["network", "queues", "station", "events"] (spDepartP K pd (n + 1)) := ok_depart hp D_depart T D_join_queue (ok_p_pair hp D_join_queue T D_depart n).2
    exact ⟨h0, ok_join_queue hp D_join_queue T D_depart h0⟩
end
end K
set_option Elab.async false
set_option linter.all false
set_option maxRecDepth 100000
set_option maxHeartbeats 1000000
set_option exponentiation.threshold 20000
namespace K
open PySem PySem.Spec PyProof.Rows L2 Evl FB
local macro_rules | `(tactic| walk_at "run") => `(tactic| try simp only [tSeq, tAsg, tVar, tC, gName, L2.start, List.map_cons, List.map_nil, List.cons_append, List.nil_append, List.length_cons, List.length_nil, List.replicate, List.getElem?_cons_zero, List.getElem?_cons_succ, Option.some.injEq, exists_eq_left', List.set_cons_zero, List.set_cons_succ, V.ref.injEq, tRet, x_tLst, x_tTup, tCons, tCB, tNil, tOp, x_addI, x_mulI, x_rI, x_rI0, x_ltI, x_leI, x_ltS, x_leS, x_eqI, x_neI, x_eqS, x_eqB, x_neB, x_isiI, x_isiS, x_int, x_max, x_min, cxOf, tIfS, tNext, tTest, V.bl.injEq, decide_eq_true_eq, gSub, tAnd, tOr, tNot, tB, tDrop, tBM, x_tFor, iRng1, iList, iTup, x_tLc, tYes, tCall, tIf, tAndV, tOrV, tNotV, tChain, List.append_nil, tUn, if_true, wipe, true_and, x_never, iU, x_itS, kV, Nat.reduceAdd, Nat.reduceSub, List.replicate_zero, x_rU, x_tMkO, iEnumT, x_tDc, x_tDGet, x_tDGet2, x_sDPut, x_tDSetd, x_tDNewK, x_iItems, x_iZip, x_tSAddK, x_tLockV, x_tTupRg, x_tRg2, tPar, tPar3, tBM0, tSl, tNoPart, tPart, x_tSetAdd, x_tDIn, x_iKeys, x_iZipX, x_iZip3, iRevR, tRg1, x_tFld, x_tMeth, x_sFld, x_tMake, tAug, x_ipI, x_tDNotIn, iRng2])
/-! class Arrival; arrival_at -/
structure AF (K : PySem.W.Frag) (C : Addr) : Prop where
  c : Cls K C
  events : NoAttr K C "events"
  queues : NoAttr K C "queues"
def arrFs (Qa Ea : Addr) : List (Str × V) := putF "queues" (.ref Qa) (putF "events" (.ref Ea) [])
theorem qe_ne : ¬ (("events" : Str) = "queues") := by decide +kernel
theorem af_queues {Qa Ea : Addr} : (arrFs Qa Ea).lookup ("queues" : Str) = some (.ref Qa) := by
  unfold arrFs
  rw [lookup_putF, if_pos rfl]
theorem af_events {Qa Ea : Addr} : (arrFs Qa Ea).lookup ("events" : Str) = some (.ref Ea) := by
  unfold arrFs
  rw [lookup_putF, if_neg qe_ne, lookup_putF, if_pos rfl]
theorem af_line {Qa Ea : Addr} : (arrFs Qa Ea).lookup ("line" : Str) = none := by
  unfold arrFs
  rw [lookup_putF, if_neg (by decide +kernel), lookup_putF, if_neg (by decide +kernel)]
  rfl
section
variable {P : Program} {w : World} {K : PySem.W.Frag} {mg : Str → Option Value} {base : Heap}
abbrev s_Arrival___init : Stmt := inClass (top 31) 0
theorem sc_Arrival___init : FnScope ["self", "network", "queues", "newcomer"] ["self", "network", "queues", "newcomer"] (defScope s_Arrival___init) := ⟨rfl, rfl, rfl, by decide +kernel, rfl, by decide +kernel, by decide +kernel⟩
theorem tx_ins {H H' : Hp} {a C dx : Addr} {fs : List (Str × V)} (h1 : H a = some (.ins C dx fs)) (e : ∀ x o, x ≠ a → H x = some o → H' x = some o) : TX H H' := fun x o h cc => e x o (fun z => by rw [z, h1] at h; cases h; cases cc) h
/-- one arrival of labels -/
abbrev arrL (N : Net) (qs : QsA (Int × Int)) (x : Int × Int) : QsA (Int × Int) × EvsA (Int × Int) := joinW N (departW N 8) qs 0 x
def spArr (K : PySem.W.Frag) (C : Addr) : Sp := fun vs H Q _ => ∃ (N : Net) (a dx Qa : Addr) (v y : V) (qs : QsA (Int × Int)) (x : Int × Int), vs = [.ref a, v, .ref Qa, y] ∧ H a = some (.ins C dx []) ∧ NetAt K H v N ∧ JN N ∧ N.length ≤ 8 ∧ 1 ≤ N.length ∧ Dp K H y (pdL x) ∧ QtAt K H Qa pdL qs ∧ Short N qs ∧ qs.flatten.length ≤ 64 ∧ Qa ≠ a ∧
  ∀ H' Ea, (∀ x o, x ≠ a → x ≠ Qa → H x = some o → H' x = some o) → H' a = some (.ins C dx (arrFs Qa Ea)) → QtAt K H' Qa pdL (arrL N qs x).1 → EvAt K H' Ea pdL (arrL N qs x).2 → Q .non H'
theorem ok_Arrival_init {C f f1 f2 : Addr} {fd fd1 fd2 : FuncData} (D : Cf K mg "Arrival" "Arrival.__init__" C s_Arrival___init ["self", "network", "queues", "newcomer"] f fd) (T : Bt mg) (F : AF K C) (D_join_queue : Df K mg "join_queue" s_join_queue ["network", "queues", "station", "passenger", "events"] f1 fd1) (D_depart : Df K mg "depart" s_depart ["network", "queues", "station", "events"] f2 fd2) : FnOk P w K mg base CX0 18 f fd ["self", "network", "queues", "newcomer"] (spArr K C) := by
  have G_join_queue : FnOk P w K mg base CX0 17 f1 fd1 _ (spJoinP K pdL 8) := (ok_p_pair pdL_t D_join_queue T D_depart 8).2
  refine D.F.ok sc_Arrival___init (fun vs H Q E h => ?_) (fun cdv A outer s H vs Q E hr h => ?_)
  · obtain ⟨N, a, dx, Qa, v, y, qs, x, rfl, _⟩ := h
    rfl
  · obtain ⟨N, a, dx, Qa, v, y, qs, x, rfl, ha, hN, hJ, h8, h1, hy, hQ, S, hfl, hne, q⟩ := h
    refine ⟨_, (pss_cons (ps_fld (pv 0) (pe_lst pa_nil) rfl)
      (pss_cons (ps_fld (pv 0) (pv 2) rfl)
      (pss_one (ps_expr (pe_call (G_join_queue) (hr.mono (by decide)) rfl D_join_queue.g D_join_queue.F.kp D_join_queue.b .nil pass0 (pa_cons (pv 1) (pa_cons (pv 2) (pa_cons pe_int (pa_cons (pv 3) (pa_cons (pe_fld (pv 0) rfl) pa_nil)))))))))), ?_⟩
    walk_at "run"
    refine x_lst (by simp) fun Ea H1 nE e1 hE => ?_
    have haE : Ea ≠ a := (ne_of_none ha nE).symm
    refine x_setF (e1 _ _ ha) F.c F.events (by simp) fun H2 e2 n2 h2 => ?_
    walk_at "run"
    refine x_setF h2 F.c F.queues (by show 1 < 1000; decide) fun H3 e3 n3 h3 => ?_
    walk_at "run"
    have h3' : H3 a = some (.ins C dx (arrFs Qa Ea)) := h3
    refine x_fld h3' F.c F.events af_events ?_
    have t3 : TX H H3 := (TX.of e1).trans ((tx_ins (e1 _ _ ha) e2).trans (tx_ins h2 e3))
    have hQE : Qa ≠ Ea := by
      obtain ⟨ts, hq, _⟩ := hQ.ex
      exact ne_of_none hq nE
    have hw := wayW_le (n := N.length) (qs := qs) (k := 0)
    have hb2 : qs.flatten.length * (2 * N.length) ≤ 64 * 16 := Nat.mul_le_mul hfl (by omega)
    refine ⟨v, y, N, Qa, Ea, qs, [], 0, x, rfl, NetAt.tx t3 hN, hJ, Dp.tx t3 hy (pdL_t.t x), LsAt.tx hQ (qs_t pdL_t) t3 (fun o h => e3 _ _ hne (e2 _ _ hne (e1 _ _ h))), ⟨⟨[], e3 _ _ haE (e2 _ _ haE hE), .nil⟩⟩, hQE, S, h1, by omega, by rw [List.length_nil]; omega, fun H4 ex4 hQ4 hE4 => ?_⟩
    rw [List.nil_append] at hE4
    exact q H4 Ea (fun b o hb1 hb2 h => ex4 _ _ (e3 _ _ hb1 (e2 _ _ hb1 (e1 _ _ h))) hb2 (ne_of_none h nE)) (ex4 _ _ h3' hne.symm haE.symm) hQ4 hE4
end
end K
set_option Elab.async false
set_option linter.all false
set_option maxRecDepth 100000
set_option maxHeartbeats 1000000
set_option exponentiation.threshold 20000
namespace K
open PySem PySem.Spec PyProof.Rows L2 Evl FB
local macro_rules | `(tactic| walk_at "run") => `(tactic| try simp only [tSeq, tAsg, tVar, tC, gName, L2.start, List.map_cons, List.map_nil, List.cons_append, List.nil_append, List.length_cons, List.length_nil, List.replicate, List.getElem?_cons_zero, List.getElem?_cons_succ, Option.some.injEq, exists_eq_left', List.set_cons_zero, List.set_cons_succ, V.ref.injEq, tRet, x_tLst, x_tTup, tCons, tCB, tNil, tOp, x_addI, x_mulI, x_rI, x_rI0, x_ltI, x_leI, x_ltS, x_leS, x_eqI, x_neI, x_eqS, x_eqB, x_neB, x_isiI, x_isiS, x_int, x_max, x_min, cxOf, tIfS, tNext, tTest, V.bl.injEq, decide_eq_true_eq, gSub, tAnd, tOr, tNot, tB, tDrop, tBM, x_tFor, iRng1, iList, iTup, x_tLc, tYes, tCall, tIf, tAndV, tOrV, tNotV, tChain, List.append_nil, tUn, if_true, wipe, true_and, x_never, iU, x_itS, kV, Nat.reduceAdd, Nat.reduceSub, List.replicate_zero, x_rU, x_tMkO, iEnumT, x_tDc, x_tDGet, x_tDGet2, x_sDPut, x_tDSetd, x_tDNewK, x_iItems, x_iZip, x_tSAddK, x_tLockV, x_tTupRg, x_tRg2, tPar, tPar3, tBM0, tSl, tNoPart, tPart, x_tSetAdd, x_tDIn, x_iKeys, x_iZipX, x_iZip3, iRevR, tRg1, x_tFld, x_tMeth, x_sFld, x_tMake, tAug, x_ipI, x_tDNotIn, iRng2])
/-! Arrival.line -/
section
variable {P : Program} {w : World} {K : PySem.W.Frag} {mg : Str → Option Value} {base : Heap}
abbrev s_Arrival_line : Stmt := inClass (top 31) 1
theorem sc_Arrival_line : FnScope ["self", "place", "labels", "at", "passengers"] ["self", "place"] (defScope s_Arrival_line) := ⟨rfl, rfl, rfl, by decide +kernel, rfl, by decide +kernel, by decide +kernel⟩
def spLine (K : PySem.W.Frag) (C : Addr) : Sp := fun vs H Q _ => ∃ (a dx Qa Ea : Addr) (qs : QsA (Int × Int)) (es : EvsA (Int × Int)) (k : Nat), vs = [.ref a, .int (k : Int)] ∧ H a = some (.ins C dx (arrFs Qa Ea)) ∧ QtAt K H Qa pdL qs ∧ EvAt K H Ea pdL es ∧ k < qs.length ∧ (evP es (.inl (k : Int))).length + (qs.getD k []).length ≤ 10000 ∧
  ∀ H' l, Ex H H' → LsAt K H' l ((evP es (.inl (k : Int)) ++ qs.getD k []).map pdL) → Q (.ref l) H'
theorem ok_line {C f : Addr} {fd : FuncData} (D : Mf K C "line" "Arrival.line" s_Arrival_line ["self", "place"] f fd) (T : Bt mg) (F : AF K C) : FnOk P w K mg base CX0 1 f fd ["self", "place"] (spLine K C) := by
  refine D.F.ok sc_Arrival_line (fun vs H Q E h => ?_) (fun cdv A outer s H vs Q E hr h => ?_)
  · obtain ⟨a, dx, Qa, Ea, qs, es, k, rfl, _⟩ := h
    rfl
  · obtain ⟨a, dx, Qa, Ea, qs, es, k, rfl, ha, hQ, hE, hk, hlen, q⟩ := h
    have hu := hr.units
    refine ⟨_, (pss_cons (ps_set (i := 2) sc_Arrival_line.nd rfl (Or.inl rfl) (pe_lst pa_nil))
      (pss_cons (ps_for PassesOwn.never rfl (pi_U (K := K) (pe_fld (pv 0) rfl)) (pg_tup rfl (pgs_cons (pg_name (i := 3) sc_Arrival_line.nd rfl (Or.inl rfl)) (pgs_cons (pg_name (i := 4) sc_Arrival_line.nd rfl (Or.inl rfl)) pgs_nil))) (pss_one (ps_if (pt_cmpR (op_eqU (K := K) hu) (pv 3) (pv 1) (nomark _)) (pss_one (ps_expr (pe_bm PySem.F.plainAttrs_list PySem.F.slot_list_extend PySem.F.type_list_extend (mt_extendU (K := K)) (pv 2) (pa_cons (pv 4) pa_nil)))) pss_nil)))
      (pss_cons (ps_if (pt_not (pt_val (pe_callB (call_isiU (K := K)) (by rfl) T.b_isinstance (by decide +kernel) (pa_cons (pv 1) (pa_cons (pe_bltn (v := .ty "str") (by rfl) T.b_str (by decide +kernel) rfl) pa_nil))))) (pss_one (ps_expr (pe_bm PySem.F.plainAttrs_list PySem.F.slot_list_extend PySem.F.type_list_extend (mt_extendU (K := K)) (pv 2) (pa_cons (pe_ix (ix_U (K := K)) (pe_fld (pv 0) rfl) (pv 1) (fun _ _ => rfl)) pa_nil)))) pss_nil)
      (pss_one (ps_ret (pv 2)))))), ?_⟩
    walk_at "run"
    refine x_lst (by simp) fun L H1 nL e1 hL => ?_
    refine x_fld (e1 _ _ ha) F.c F.events af_events ?_
    obtain ⟨ts, hEa, hts⟩ := hE.ex
    have htl : ts.length = es.length := by rw [hts.len, List.length_map]
    refine x_itL (ex_l e1 (SqL.of hEa)) ?_
    refine loop_it walk_list (fun i σ H' => ∃ u3 u4, σ = [some (.ref a), some (.int (k : Nat)), some (.ref L), u3, u4] ∧ Ex H H' ∧ LsAt K H' L ((evP (es.take i) (.inl (k : Int))).map pdL)) ⟨_, _, rfl, e1, ⟨⟨[], hL, .nil⟩⟩⟩ (fun i σ H' _ ⟨_, _, _, e, _⟩ => ex_l e (SqL.of hEa)) ?_ ?_
    · rintro i x σ H2 H2' hi ⟨u3, u4, rfl, e2, hLs⟩ ⟨eH, hx⟩
      subst eH
      obtain ⟨d, hd, hz⟩ := hts.get' hx
      obtain ⟨e, he, rfl⟩ : ∃ e, es[i]? = some e ∧ evA pdL e = d := by simpa using hd
      obtain ⟨b, ys, rfl, hB, hys⟩ := Dp.tup_inv hz
      have hyl : ys.length = 2 := hys.len
      obtain ⟨y0, y1, rfl⟩ : ∃ x y, ys = [x, y] := match ys, hyl with
        | [x, y], _ => ⟨x, y, rfl⟩
      cases hys with
      | cons hy0 hys2 =>
      cases hys2 with
      | cons hy1 _ =>
      refine x_two (ex_t e2 hB) ?_
      obtain ⟨pb, ps, rfl, hPb, hps⟩ := Dp.tup_inv hy1
      have hev : evP (es.take (i + 1)) (.inl (k : Int)) = evP (es.take i) (.inl (k : Int)) ++ (if e.1 = .inl (k : Int) then e.2 else []) := by
        rw [List.take_add_one, he]
        show evP (es.take i ++ [e]) _ = _
        rw [evP_append]
        show _ ++ ((if e.1 = .inl (k : Int) then e.2 else []) ++ []) = _
        rw [List.append_nil]
      have hle : (evP (es.take (i + 1)) (.inl (k : Int))).length ≤ (evP es (.inl (k : Int))).length := by
        conv => rhs; rw [← List.take_append_drop (i + 1) es, evP_append, List.length_append]
        omega
      walk_at "run"
      obtain ⟨xs, hxs, hxd⟩ := hLs.ex
      have hxl : xs.length = (evP (es.take i) (.inl (k : Int))).length := by rw [hxd.len, List.length_map]
      obtain ⟨bb, hbb, heq⟩ : ∃ bb : Bool, (bb = true ↔ e.1 = .inl (k : Int)) ∧ ∀ Q : VK, Q (.bl bb) H2' → rEqU K y0 (.int (k : Int)) H2' Q := by
        cases h1 : e.1 with
        | inl j =>
          rw [h1] at hy0
          obtain rfl : y0 = .int j := hy0.int_inv
          exact ⟨decide (V.int j = V.int (k : Int)), by simp, fun Q h => .inl ⟨rfl, h⟩⟩
        | inr z =>
          rw [h1] at hy0
          have hy0 : Dp K H y0 (.str z) := hy0
          cases hy0
          exact ⟨decide (V.str z = V.int (k : Int)), by simp, fun Q h => .inl ⟨rfl, h⟩⟩
      refine heq _ ⟨bb, rfl, ?_⟩
      cases bb with
      | true =>
        rw [if_pos rfl]
        rw [if_pos (hbb.mp rfl)] at hev
        have hpl : ps.length = e.2.length := by rw [hps.len, List.length_map]
        rw [hev, List.length_append] at hle
        refine ⟨x_tyL (SqL.of hxs), x_extT hxs (ex_t e2 hPb) (by omega) fun H3 e3 h3 => ⟨_, _, rfl, fun o u h => e3 _ _ (ne_of_none h nL) (e2 _ _ h), ⟨⟨_, h3, ?_⟩⟩⟩⟩
        have t3 : TX H2' H3 := TX.but hxs e3
        rw [hev, List.map_append]
        exact DpAll.append (DpAll.tx t3 hxd fun d hd => by
          obtain ⟨j, _, rfl⟩ := List.mem_map.mp hd
          exact pdL_t.t _) (DpAll.tx t3 (DpAll.ex e2 hps) fun d hd => by
          obtain ⟨j, _, rfl⟩ := List.mem_map.mp hd
          exact pdL_t.t _)
      | false =>
        rw [if_neg (by decide)]
        rw [if_neg (fun z => by have := hbb.mpr z; cases this), List.append_nil] at hev
        exact ⟨_, _, rfl, e2, by rw [hev]; exact hLs⟩
    · rintro σ H2 ⟨u3, u4, rfl, e2, hLs⟩
      rw [List.take_of_length_le (by omega)] at hLs
      walk_at "run"
      rw [if_pos (by decide)]
      obtain ⟨xs, hxs, hxd⟩ := hLs.ex
      have hxl : xs.length = (evP es (.inl (k : Int))).length := by rw [hxd.len, List.length_map]
      obtain ⟨qv, hQa, hqv⟩ := hQ.ex
      obtain ⟨zv, hzv, hzd⟩ := hqv.get (i := k) (d := qA pdL (qs.getD k [])) (by rw [List.getElem?_map]; simp [List.getD_eq_getElem?_getD, hk])
      obtain ⟨qb, zs, rfl, hQB, hzs⟩ := Dp.tup_inv hzd
      have hzl : zs.length = (qs.getD k []).length := by rw [hzs.len, List.length_map]
      refine ⟨x_tyL (SqL.of hxs), x_fld (e2 _ _ ha) F.c F.queues af_queues (x_ixL (SqL.of (e2 _ _ hQa)) (atI_nat hzv) (x_extT hxs (ex_t e2 hQB) (by omega) fun H3 e3 h3 => ?_))⟩
      have t3 : TX H2 H3 := TX.but hxs e3
      refine q H3 L (fun o u h => e3 _ _ (ne_of_none h nL) (e2 _ _ h)) ⟨⟨_, h3, ?_⟩⟩
      rw [List.map_append]
      exact DpAll.append (DpAll.tx t3 hxd fun d hd => by
        obtain ⟨j, _, rfl⟩ := List.mem_map.mp hd
        exact pdL_t.t _) (DpAll.tx t3 (DpAll.ex e2 hzs) fun d hd => by
        obtain ⟨j, _, rfl⟩ := List.mem_map.mp hd
        exact pdL_t.t _)
end
end K
set_option Elab.async false
set_option linter.all false
set_option maxRecDepth 100000
set_option maxHeartbeats 1000000
set_option exponentiation.threshold 20000
namespace K
open PySem PySem.Spec PyProof.Rows L2 Evl FB
local macro_rules | `(tactic| walk_at "run") => `(tactic| try simp only [tSeq, tAsg, tVar, tC, gName, L2.start, List.map_cons, List.map_nil, List.cons_append, List.nil_append, List.length_cons, List.length_nil, List.replicate, List.getElem?_cons_zero, List.getElem?_cons_succ, Option.some.injEq, exists_eq_left', List.set_cons_zero, List.set_cons_succ, V.ref.injEq, tRet, x_tLst, x_tTup, tCons, tCB, tNil, tOp, x_addI, x_mulI, x_rI, x_rI0, x_ltI, x_leI, x_ltS, x_leS, x_eqI, x_neI, x_eqS, x_eqB, x_neB, x_isiI, x_isiS, x_int, x_max, x_min, cxOf, tIfS, tNext, tTest, V.bl.injEq, decide_eq_true_eq, gSub, tAnd, tOr, tNot, tB, tDrop, tBM, x_tFor, iRng1, iList, iTup, x_tLc, tYes, tCall, tIf, tAndV, tOrV, tNotV, tChain, List.append_nil, tUn, if_true, wipe, true_and, x_never, iU, x_itS, kV, Nat.reduceAdd, Nat.reduceSub, List.replicate_zero, x_rU, x_tMkO, iEnumT, x_tDc, x_tDGet, x_tDGet2, x_sDPut, x_tDSetd, x_tDNewK, x_iItems, x_iZip, x_tSAddK, x_tLockV, x_tTupRg, x_tRg2, tPar, tPar3, tBM0, tSl, tNoPart, tPart, x_tSetAdd, x_tDIn, x_iKeys, x_iZipX, x_iZip3, iRevR, tRg1, x_tFld, x_tMeth, x_sFld, x_tMake, tAug, x_ipI, x_tDNotIn, iRng2])
/-! Timetable.arrival_at -/
section
variable {P : Program} {w : World} {K : PySem.W.Frag} {mg : Str → Option Value} {base : Heap}
abbrev s_Timetable_arrival_at : Stmt := inClass (top 32) 7
theorem sc_Timetable_arrival_at : FnScope ["self", "time", "queues", "station"] ["self", "time"] (defScope s_Timetable_arrival_at) := ⟨rfl, rfl, rfl, by decide +kernel, rfl, by decide +kernel, by decide +kernel⟩
/-- the labels of all stations at a time -/
def labs (N : Net) (ls : List Int) (t : Int) : QsA (Int × Int) := (List.range N.length).map (lab N ls t)
theorem flat8 {α : Type} : ∀ {qs : List (List α)}, (∀ q ∈ qs, q.length ≤ 8) → qs.flatten.length ≤ 8 * qs.length
  | [], _ => by simp
  | q :: r, h => by
    have h1 := flat8 (qs := r) fun x hx => h x (List.mem_cons_of_mem _ hx)
    have h2 := h q (List.mem_cons_self ..)
    rw [List.flatten_cons, List.length_append, List.length_cons]
    omega
theorem labs_at {N : Net} {ls : List Int} {t : Int} {k : Nat} (hk : k < N.length) : (labs N ls t).getD k [] = lab N ls t k := by
  unfold labs
  rw [List.getD_eq_getElem?_getD, List.getElem?_map, List.getElem?_range hk]; rfl
theorem labs_len {N : Net} {ls : List Int} {t : Int} : (labs N ls t).length = N.length := by
  unfold labs; simp
theorem labs_short {N : Net} {ls : List Int} {t : Int} (fw : Fw N) (L : Lens N ls) : Short N (labs N ls t) := by
  refine ⟨labs_len, fun k hk => ?_⟩
  rw [labs_at hk]
  have h1 := lab_len (t := t) fw L hk
  have h2 := (wt_lt (t := t) fw L hk).2
  omega
theorem labs_flat {N : Net} {ls : List Int} {t : Int} (fw : Fw N) (L : Lens N ls) (J : JN N) (h8 : N.length ≤ 8) : (labs N ls t).flatten.length ≤ 64 := by
  have h := flat8 (qs := labs N ls t) fun q hq => by
    unfold labs at hq
    obtain ⟨k, hk, rfl⟩ := List.mem_map.mp hq
    have hk := List.mem_range.mp hk
    have h1 := lab_len (t := t) fw L hk
    have h2 := (wt_lt (t := t) fw L hk).2
    have h3 := (J.st k hk).2
    omega
  rw [labs_len] at h
  omega
def spAt (K : PySem.W.Frag) (C CA : Addr) : Sp := fun vs H Q _ => ∃ (N : Net) (ls : List Int) (p : Int) (qs : Qs) (M : Tm) (c : Nat) (t : Int), vs = [.ref M.a, .int t] ∧ TT K C N ls p qs M c H ∧ CntN N ∧ Lens N ls ∧ JN N ∧ N.length ≤ 8 ∧ 1 ≤ N.length ∧ c < 880000 ∧ 1 ≤ t ∧ t ≤ 1000000000000000000 ∧
  ∀ H' a dx Qa Ea, TT K C N ls p qs M (c + 20) H' → ExK M H H' → H' a = some (.ins CA dx (arrFs Qa Ea)) → QtAt K H' Qa pdL (arrL N (labs N ls (t - 1)) (0, t)).1 → EvAt K H' Ea pdL (arrL N (labs N ls (t - 1)) (0, t)).2 → Q (.ref a) H'
theorem ok_arrival_at {C CA f f1 f2 f3 f4 : Addr} {fd fd1 fd2 fd3 fd4 : FuncData} (D : Mf K C "arrival_at" "Timetable.arrival_at" s_Timetable_arrival_at ["self", "time"] f fd) (T : Bt mg) (F : TF K C) (FA : AF K CA) (M_labels : Mf K C "labels" "Timetable.labels" s_Timetable_labels ["self", "station", "time"] f1 fd1)
    (G_labels : FnOk P w K mg base CX0 5 f1 fd1 ["self", "station", "time"] (spLab K C)) (C_Arrival : Cf K mg "Arrival" "Arrival.__init__" CA s_Arrival___init ["self", "network", "queues", "newcomer"] f2 fd2) (D_join_queue : Df K mg "join_queue" s_join_queue ["network", "queues", "station", "passenger", "events"] f3 fd3) (D_depart : Df K mg "depart" s_depart ["network", "queues", "station", "events"] f4 fd4) :
    FnOk P w K mg base CX0 20 f fd ["self", "time"] (spAt K C CA) := by
  have G_Arrival : FnOk P w K mg base CX0 18 f2 fd2 _ _ := ok_Arrival_init C_Arrival T FA D_join_queue D_depart
  refine D.F.ok sc_Timetable_arrival_at (fun vs H Q E h => ?_) (fun cdv A outer s H vs Q E hr h => ?_)
  · obtain ⟨N, ls, p, qs, M, c, t, rfl, _⟩ := h
    rfl
  · obtain ⟨N, ls, p, qs, M, c, t, rfl, W, hC, L, J, h8, h1, hc, ht0, ht1, q⟩ := h
    refine ⟨_, (pss_cons (ps_setLc (i := 2) (own := [("station", 3)]) (g := gName 3) (tt := tYes) rfl sc_Timetable_arrival_at.nd rfl rfl (sw_true rfl rfl rfl (by decide +kernel)) (pi_range1 (by rfl) T.b_range (pa_cons (pe_callB (call_lenU (K := K)) (by rfl) T.b_len (by decide +kernel) (pa_cons (pe_fld (pv 0) rfl) pa_nil)) pa_nil)) (blkOk_by (own := [("station", 3)]) (N := ["self", "time", "queues", "station"]) (sc := defScope s_Timetable_arrival_at) (by decide +kernel)) (fun _ _ _ _ _ => (pg_name (i := 3) sc_Timetable_arrival_at.nd rfl (Or.inl rfl))) (fun _ _ _ _ _ => pts_nil) (fun _ _ _ _ _ => (pe_meth (pv 0) F.c M_labels.m (G_labels) (hr.mono (by decide)) M_labels.b .nil pass0 (pa_cons (pv 3) (pa_cons (pe_op op_sub (pv 1) pe_int) pa_nil)))))
      (pss_one (ps_ret (pe_make C_Arrival.mkK (G_Arrival) (hr.mono (by decide)) rfl C_Arrival.g C_Arrival.b .nil pass0 (pa_cons (pe_fld (pv 0) rfl) (pa_cons (pv 2) (pa_cons (pe_tup (pa_cons pe_int (pa_cons (pv 1) pa_nil))) pa_nil))))))), ?_⟩
    walk_at "run"
    refine x_fld W.ins F.c F.network fs_network ?_
    obtain ⟨na, ts, hv, hT, hts⟩ := NetAt.at W.net
    have htl : ts.length = N.length := by rw [hts.len, List.length_map]
    rw [hv]
    refine x_lenT hT ?_
    rw [htl]
    refine ⟨(N.length : Int), rfl, by omega, by omega, ?_⟩
    rw [Int.toNat_natCast]
    have hH0 : ∀ x, H x = none → M.H0 x = none := fun x hx => fresh_back W.feed.ex hx
    refine lcl_it walk_range (fun D i H' => TT K C N ls p qs M (c + 2 * i) H' ∧ ExK M H H' ∧ ∃ as : List Addr, H' D = some (.lst (as.map V.ref)) ∧ DpAll K H' (as.map V.ref) (((List.range i).map (lab N ls (t - 1))).map (qA pdL))) (fun D H' hD e h => ⟨W.ex e, ExK.of e, [], h, .nil⟩) (fun D i H' _ _ => trivial) ?_ ?_
    · rintro D i x H3 H3' hD hi ⟨W3, e3, as, hL, hLd⟩ ⟨eH, rfl⟩
      subst eH
      have ei : (0 : Int) + (i : Nat) = (i : Nat) := by omega
      simp only [ei]
      walk_at "run"
      refine x_meth W3.ins fs_labels ?_
      refine ⟨N, ls, p, qs, M, c + 2 * i, i, t - 1, rfl, W3, hC, L, J.fw, by omega, hi, by omega, by omega, fun H4 l W4 e4 hl => ?_⟩
      have hDK : D ≠ M.Kd := by
        obtain ⟨ks, hk, _⟩ := W.cache
        exact (ne_of_none hk hD).symm
      have hL4 := e4 _ _ hDK hL
      have hal : as.length = i := by
        have := hLd.len
        rw [List.length_map, List.length_map, List.length_map, List.length_range] at this
        exact this
      have qt : ∀ d ∈ (((List.range i).map (lab N ls (t - 1))).map (qA pdL)), TupD d := fun d hd => by
        obtain ⟨j, _, rfl⟩ := List.mem_map.mp hd
        exact qA_t pdL_t _
      have t34 := W3.tx e4
      refine x_push hL4 (by rw [List.length_map]; omega) fun H5 e5 h5 => ?_
      have t45 : TX H4 H5 := TX.but hL4 e5
      refine ⟨W4.keep (a := D) h1 L.len hL4 (fun x hx => ?_) (hH0 _ hD) ⟨_, h5⟩ (.inl rfl) (fun x o h hx _ => e5 x o hx h), fun x o hx h => e5 _ _ (ne_of_none h hD) (e4 _ _ hx (e3 _ _ hx h)), as ++ [l], by rw [h5, List.map_append]; rfl, ?_⟩
      · obtain ⟨r, _, rfl⟩ := List.mem_map.mp hx
        exact ⟨r, rfl⟩
      · rw [List.range_succ, List.map_append, List.map_append, List.map_append]
        exact DpAll.append (DpAll.tx (t34.trans t45) hLd qt) (.cons (Dp.tx t45 hl (qA_t pdL_t _)) .nil)
    · rintro D H3 hD ⟨W3, e3, as, hL, hLd⟩
      walk_at "run"
      have hDK : D ≠ M.Kd := by
        obtain ⟨ks, hk, _⟩ := W.cache
        exact (ne_of_none hk hD).symm
      refine x_fld W3.ins F.c F.network fs_network (x_tup (by simp) fun nc H4 n4 e4 h4 => ?_)
      refine x_make fun a dx H5 na5 e5 h5 => ?_
      have hL5 := e5 _ _ (e4 _ _ hL)
      have W5 := (W3.ex e4).ex e5
      have hDa : D ≠ a := ne_of_none (e4 _ _ hL) na5
      have fw := J.fw
      refine ⟨N, a, dx, D, M.v, .ref nc, labs N ls (t - 1), (0, t), rfl, h5, W5.net, J, h8, h1, .tup (SqT.of (e5 _ _ h4)) (.cons (.int 0) (.cons (.int t) .nil)), ⟨⟨_, hL5, DpAll.ex (e4.trans e5) hLd⟩⟩, labs_short fw L, labs_flat fw L J h8, hDa, fun H6 Ea e6 h6 hQ6 hE6 => ?_⟩
      refine ⟨rfl, q H6 a dx D Ea ?_ ?_ h6 hQ6 hE6⟩
      · have W6 : TT K C N ls p qs M (c + 2 * N.length) H6 := by
          refine TT.keep (W3.ex e4) h1 L.len (e4 _ _ hL) (fun x hx => ?_) (hH0 _ hD) (let ⟨_, hh, _⟩ := hQ6.ex; ⟨_, hh⟩) (.inr na5) fun x o h hx ha => e6 _ _ ha hx (e5 _ _ h)
          obtain ⟨r, _, rfl⟩ := List.mem_map.mp hx
          exact ⟨r, rfl⟩
        exact W6.le (by omega)
      · have na : H a = none := by
          cases hh : H a with
          | none => rfl
          | some o =>
            by_cases z : a = M.Kd
            · obtain ⟨ks, hk, _⟩ := (W3.ex e4).cache
              rw [z, hk] at na5; cases na5
            · have := e4 _ _ (e3 _ _ z hh)
              rw [this] at na5; cases na5
        exact fun x o hx h => e6 _ _ (ne_of_none h na) (ne_of_none h hD) (e5 _ _ (e4 _ _ (e3 _ _ hx h)))
end
end K
set_option Elab.async false
set_option linter.all false
set_option maxRecDepth 100000
set_option maxHeartbeats 1000000
/-! passengers under other names move alike -/
namespace FB
open PySem PySem.Spec PyProof.Rows L2 Evl
section
variable {α β : Type} [Inhabited α] [Inhabited β] {N : Net} (f : α → β)
def mapQ (qs : QsA α) : QsA β := qs.map (List.map f)
def mapE (es : EvsA α) : EvsA β := es.map fun e => (e.1, e.2.map f)
variable {f}
theorem mapQ_at {qs : QsA α} {j : Nat} : (mapQ f qs).getD j [] = (qs.getD j []).map f := by
  unfold mapQ
  rw [List.getD_eq_getElem?_getD, List.getElem?_map, List.getD_eq_getElem?_getD]
  cases qs[j]? <;> rfl
theorem mapQ_set {qs : QsA α} {j : Nat} {q : List α} : (mapQ f qs).set j (q.map f) = mapQ f (qs.set j q) := by
  unfold mapQ
  rw [List.map_set]
def DepMap (f : α → β) (d : Dep α) (d' : Dep β) : Prop := ∀ qs st, d' (mapQ f qs) st = (mapQ f (d qs st).1, mapE f (d qs st).2)
theorem joinW_map {d : Dep α} {d' : Dep β} (h : DepMap f d d') (qs : QsA α) (j : Nat) (p : α) : joinW N d' (mapQ f qs) j (f p) = (mapQ f (joinW N d qs j p).1, mapE f (joinW N d qs j p).2) := by
  have e : (mapQ f qs).getD j [] ++ [f p] = (qs.getD j [] ++ [p]).map f := by
    rw [mapQ_at, List.map_append]; rfl
  unfold joinW
  rw [e, mapQ_set, List.length_map]
  split
  · exact h _ _
  · rfl
theorem moveW_map {d : Dep α} {d' : Dep β} (h : DepMap f d d') : ∀ (ms : List (Key × α)) (qs : QsA α), moveW N d' (ms.map fun m => (m.1, f m.2)) (mapQ f qs) = (mapQ f (moveW N d ms qs).1, mapE f (moveW N d ms qs).2)
  | [], qs => rfl
  | (.inr z, p) :: r, qs => by
    have ih := moveW_map h r qs
    show ((moveW N d' (r.map fun m => (m.1, f m.2)) (mapQ f qs)).1, (.inr z, [f p]) :: (moveW N d' (r.map fun m => (m.1, f m.2)) (mapQ f qs)).2) = _
    rw [ih]
    rfl
  | (.inl j, p) :: r, qs => by
    have h1 := joinW_map (N := N) h qs j.toNat p
    have ih := moveW_map h r (joinW N d qs j.toNat p).1
    show ((moveW N d' (r.map fun m => (m.1, f m.2)) (joinW N d' (mapQ f qs) j.toNat (f p)).1).1, (joinW N d' (mapQ f qs) j.toNat (f p)).2 ++ (moveW N d' (r.map fun m => (m.1, f m.2)) (joinW N d' (mapQ f qs) j.toNat (f p)).1).2) = _
    rw [h1]
    dsimp only
    rw [ih]
    show (_, mapE f _ ++ mapE f _) = (_, mapE f (_ ++ _))
    unfold mapE
    rw [List.map_append]
    rfl
theorem departW_map : ∀ n : Nat, DepMap f (departW (α := α) N n) (departW (α := β) N n)
  | 0 => fun qs st => rfl
  | n + 1 => fun qs st => by
    have hz : (N.getD st []).zip ((mapQ f qs).getD st []) = ((N.getD st []).zip (qs.getD st [])).map fun m => (m.1, f m.2) := by
      rw [mapQ_at, List.zip_map_right]; rfl
    have hs : (mapQ f qs).set st [] = mapQ f (qs.set st []) := mapQ_set (q := [])
    show ((moveW N (departW N n) ((N.getD st []).zip ((mapQ f qs).getD st [])) ((mapQ f qs).set st [])).1, (.inl (st : Int), (mapQ f qs).getD st []) :: (moveW N (departW N n) ((N.getD st []).zip ((mapQ f qs).getD st [])) ((mapQ f qs).set st [])).2) = _
    rw [hz, hs, moveW_map (departW_map n), mapQ_at]
    rfl
end
end FB
set_option Elab.async false
set_option linter.all false
set_option maxRecDepth 100000
set_option maxHeartbeats 1000000
set_option exponentiation.threshold 20000
namespace K
open PySem PySem.Spec PyProof.Rows L2 Evl FB
local macro_rules | `(tactic| walk_at "run") => `(tactic| try simp only [tSeq, tAsg, tVar, tC, gName, L2.start, List.map_cons, List.map_nil, List.cons_append, List.nil_append, List.length_cons, List.length_nil, List.replicate, List.getElem?_cons_zero, List.getElem?_cons_succ, Option.some.injEq, exists_eq_left', List.set_cons_zero, List.set_cons_succ, V.ref.injEq, tRet, x_tLst, x_tTup, tCons, tCB, tNil, tOp, x_addI, x_mulI, x_rI, x_rI0, x_ltI, x_leI, x_ltS, x_leS, x_eqI, x_neI, x_eqS, x_eqB, x_neB, x_isiI, x_isiS, x_int, x_max, x_min, cxOf, tIfS, tNext, tTest, V.bl.injEq, decide_eq_true_eq, gSub, tAnd, tOr, tNot, tB, tDrop, tBM, x_tFor, iRng1, iList, iTup, x_tLc, tYes, tCall, tIf, tAndV, tOrV, tNotV, tChain, List.append_nil, tUn, if_true, wipe, true_and, x_never, iU, x_itS, kV, Nat.reduceAdd, Nat.reduceSub, List.replicate_zero, x_rU, x_tMkO, iEnumT, x_tDc, x_tDGet, x_tDGet2, x_sDPut, x_tDSetd, x_tDNewK, x_iItems, x_iZip, x_tSAddK, x_tLockV, x_tTupRg, x_tRg2, tPar, tPar3, tBM0, tSl, tNoPart, tPart, x_tSetAdd, x_tDIn, x_iKeys, x_iZipX, x_iZip3, iRevR, tRg1, x_tFld, x_tMeth, x_sFld, x_tMake, tAug, x_ipI, x_tDNotIn, iRng2])
/-! who stands in a line at an arrival; passengers by labels -/
section
variable {N : Net} {ls : List Int}
theorem dn_le {α : Type} {k : Nat} : ∀ {es : EvsA α}, dn es k ≤ (es.length : Int)
  | [] => Int.le_refl _
  | e :: r => by
    have := dn_le (k := k) (es := r)
    show (if e.1 = .inl (k : Int) then (1 : Int) else 0) + dn r k ≤ _
    rw [List.length_cons]
    split <;> omega
/-- a label that stands for somebody at a time -/
def LabR (N : Net) (ls : List Int) (t : Int) (x : Int × Int) : Prop := ∃ k : Nat, k < N.length ∧ x.1 = (k : Int) ∧ 1 - ls.getD k 0 ≤ x.2 ∧ x.2 ≤ jq N ls t (.inl (k : Int))
/-- a label that is there at an arrival: the newcomer's, or of one who waited -/
def LabN (N : Net) (ls : List Int) (t : Int) (x : Int × Int) : Prop := x = (0, t) ∨ ∃ k : Nat, k < N.length ∧ x ∈ lab N ls (t - 1) k
theorem LabN.r (J : JN N) (L : Lens N ls) {t : Int} (ht : 1 ≤ t) (hp : 1 ≤ N.length) {x : Int × Int} (h : LabN N ls t x) : LabR N ls t x := by
  have hj0 : jq N ls t (.inl ((0 : Nat) : Int)) = t := by
    unfold jq
    rw [if_pos (by rfl)]
  rcases h with rfl | ⟨j, hj, hx⟩
  · have hl0 := L.nn 0 hp
    exact ⟨0, hp, rfl, by show 1 - ls.getD 0 0 ≤ t; omega, by rw [hj0]; exact Int.le_refl _⟩
  · obtain ⟨e1, e2, e3⟩ := lab_ok J.fw L (by omega) hj x hx
    have := jq_mono (ls := ls) J.fw L.pos (show t - 1 ≤ t by omega) (.inl (j : Int))
    exact ⟨j, hj, e1, e2, by omega⟩
/-- the line of a station at an arrival: its length; its last are from earlier stations -/
theorem line_all (J : JN N) (L : Lens N ls) (h8 : N.length ≤ 8) {t : Int} (ht : 1 ≤ t) {k : Nat} (hk : k < N.length) :
    let r := arrL N (labs N ls (t - 1)) (0, t)
    (evP r.2 (.inl (k : Int))).length + (r.1.getD k []).length ≤ 10000 ∧ r.1.length = N.length ∧ ((r.1.getD k []).length : Int) = wt N ls t k ∧ ∃ js : List (Int × Int), evP r.2 (.inl (k : Int)) ++ r.1.getD k [] = lab N ls (t - 1) k ++ js ∧ (js.length : Int) = jq N ls t (.inl (k : Int)) - jq N ls (t - 1) (.inl (k : Int)) ∧ ∀ x ∈ js, LabN N ls t x ∧ (x.1 < (k : Int) ∨ (k = 0 ∧ x = (0, t))) := by
  intro r
  have fw := J.fw
  have hp : 1 ≤ N.length := by omega
  have S0 := labs_short (t := t - 1) fw L
  have F : Flow N (labs N ls (t - 1)) (at1 0) r := joinW_flow (departW_flow fw 8) labs_len hp (by omega)
  have S : Short N r.1 := (joinW_ok L.pos (departW_ok L.pos fw 8) S0 hp (by omega)).1
  have hq : ∀ j, j < N.length → (((labs N ls (t - 1)).getD j []).length : Int) = wt N ls (t - 1) j := fun j hj => by rw [labs_at hj]; exact lab_len fw L hj
  have st := step_wt fw L hq F S (.inl (k : Int)) (.inl ⟨k, hk, rfl⟩)
  rw [Int.sub_add_cancel] at st
  have LR : LnR (fun j x => LabN N ls t x ∧ x.1 ≤ (j : Int)) (fun j x => LabN N ls t x ∧ x.1 ≤ (j : Int) ∧ (x.1 < (j : Int) ∨ (j = 0 ∧ x = (0, t)))) (LabN N ls t) := ⟨fun a b x h hab => ⟨h.1, by have := h.2; omega, .inl (by have := h.2; omega)⟩, fun b x h => ⟨h.1, h.2.1⟩, fun a x h => h.1⟩
  have new : LabN N ls t (0, t) := .inl rfl
  have G : Ln N (fun j x => LabN N ls t x ∧ x.1 ≤ (j : Int)) (fun j x => LabN N ls t x ∧ x.1 ≤ (j : Int) ∧ (x.1 < (j : Int) ∨ (j = 0 ∧ x = (0, t)))) (LabN N ls t) (labs N ls (t - 1)) r := by
    refine joinW_ln (departW_ln LR fw 8) labs_len hp (by omega) (fun j hj x hx => ?_) ⟨new, Int.le_refl _, .inr ⟨rfl, rfl⟩⟩ ⟨new, Int.le_refl _⟩
    rw [labs_at hj] at hx
    obtain ⟨e1, e2, e3⟩ := lab_ok fw L (by omega) hj x hx
    exact ⟨.inr ⟨j, hj, hx⟩, by omega⟩
  obtain ⟨js, e, hs⟩ := G.st k hk
  rw [labs_at hk] at e
  have a := F.q k hk
  have b := F.s k hk
  have le := congrArg List.length e
  rw [List.length_append, List.length_append] at le
  have pl := evP_len (a := r.2) (q := .inl (k : Int))
  have hw := (joinW_way (departW_way (α := Int × Int) fw 8) (qs := labs N ls (t - 1)) (j := 0) (p := (0, t)) labs_len hp (by omega)).1
  have hw2 := wayW_le (n := N.length) (qs := labs N ls (t - 1)) (k := 0)
  have hfl := labs_flat (t := t - 1) fw L J h8
  have hb2 : (labs N ls (t - 1)).flatten.length * (2 * N.length) ≤ 64 * 16 := Nat.mul_le_mul hfl (by omega)
  have hes : r.2.length ≤ 1040 := by
    show (joinW N (departW N 8) _ _ _).2.length ≤ _
    omega
  have hd := dn_le (k := k) (es := r.2)
  have hd0 := dn_nn (k := k) (a := r.2)
  have h8k := (J.st k hk).2
  have hS := S.lt k hk
  have hmul : ((N.getD k []).length : Int) * dn r.2 k ≤ 8 * 1040 := by
    have h1 : ((N.getD k []).length : Int) * dn r.2 k ≤ 8 * dn r.2 k := Int.mul_le_mul_of_nonneg_right (by omega) hd0
    omega
  rw [labs_at hk] at a
  have dd := step_all fw L hq F S k hk
  rw [Int.sub_add_cancel] at dd
  have hwt : ((r.1.getD k []).length : Int) = wt N ls t k := by
    have w0 := lab_len (t := t - 1) fw L hk
    have u1 : wt N ls (t - 1) k = ls.getD k 0 + jq N ls (t - 1) (.inl (k : Int)) - bt N ls (t - 1) k * ((N.getD k []).length : Int) := rfl
    have u2 : wt N ls t k = ls.getD k 0 + jq N ls t (.inl (k : Int)) - bt N ls t k * ((N.getD k []).length : Int) := rfl
    have u3 : ((N.getD k []).length : Int) * dn r.2 k = bt N ls t k * ((N.getD k []).length : Int) - bt N ls (t - 1) k * ((N.getD k []).length : Int) := by
      rw [dd, Int.mul_comm, Int.sub_mul]
    omega
  refine ⟨by omega, by rw [F.len, labs_len], hwt, js, e, by omega, fun x hx => ⟨(hs x hx).1, ?_⟩⟩
  exact (hs x hx).2.2
/-- the line of a station at an arrival -/
def lineW (N : Net) (ls : List Int) (t : Int) (k : Nat) : List (Int × Int) := evP (arrL N (labs N ls (t - 1)) (0, t)).2 (.inl (k : Int)) ++ (arrL N (labs N ls (t - 1)) (0, t)).1.getD k []
/-- whom a number stands for, before the arrival that gave it -/
def Src (N : Net) (ls : List Int) (k : Nat) (n : Int) (x : Int × Int) : Prop := ∃ t : Int, 1 ≤ t ∧ jq N ls (t - 1) (.inl (k : Int)) < n ∧ n ≤ jq N ls t (.inl (k : Int)) ∧ (lineW N ls t k)[(((lineW N ls t k).length : Int) + (n - jq N ls t (.inl (k : Int)) - 1)).toNat]? = some x
theorem Src.same (J : JN N) (L : Lens N ls) {k : Nat} {n : Int} {x y : Int × Int} (h1 : Src N ls k n x) (h2 : Src N ls k n y) : x = y := by
  obtain ⟨t, a1, a2, a3, a4⟩ := h1
  obtain ⟨u, b1, b2, b3, b4⟩ := h2
  have e : t = u := by
    by_cases h : t < u
    · have := jq_mono (ls := ls) J.fw L.pos (show t ≤ u - 1 by omega) (.inl (k : Int))
      omega
    · by_cases h' : u < t
      · have := jq_mono (ls := ls) J.fw L.pos (show u ≤ t - 1 by omega) (.inl (k : Int))
        omega
      · omega
  subst e
  rw [a4] at b4
  exact Option.some.inj b4
/-- who has a number at a station -/
inductive PsgR (N : Net) (ls : List Int) (p : Int) (qs : Qs) : Nat → Int → Int → Prop
  | old {k : Nat} {n z : Int} : n ≤ 0 → (qs.getD k [])[(((qs.getD k []).length : Int) + (n - 1)).toNat]? = some z → PsgR N ls p qs k n z
  | new {k : Nat} {n z : Int} : k = 0 → 0 < n → z = p + n - 1 → PsgR N ls p qs k n z
  | step {k k2 : Nat} {n n2 z : Int} : 1 ≤ k → 0 < n → Src N ls k n ((k2 : Int), n2) → PsgR N ls p qs k2 n2 z → PsgR N ls p qs k n z
theorem PsgR.same (J : JN N) (L : Lens N ls) {p : Int} {qs : Qs} {k : Nat} {n z y : Int} (h1 : PsgR N ls p qs k n z) : PsgR N ls p qs k n y → z = y := by
  induction h1 with
  | old a1 a2 =>
    intro h2
    cases h2 with
    | old b1 b2 => rw [a2] at b2; exact Option.some.inj b2
    | new b1 b2 b3 => omega
    | step b1 b2 b3 b4 => omega
  | new a1 a2 a3 =>
    intro h2
    cases h2 with
    | old b1 b2 => omega
    | new b1 b2 b3 => omega
    | step b1 b2 b3 b4 => omega
  | step a1 a2 a3 a4 ih =>
    intro h2
    cases h2 with
    | old b1 b2 => omega
    | new b1 b2 b3 => omega
    | step b1 b2 b3 b4 =>
      have e := Src.same J L a3 b3
      have e1 := congrArg Prod.fst e
      have e2 := congrArg Prod.snd e
      dsimp only at e1 e2
      have e1 := Int.ofNat.inj e1
      subst e1 e2
      exact ih b4
open Classical in
noncomputable def psi (N : Net) (ls : List Int) (p : Int) (qs : Qs) (x : Int × Int) : Int := if h : ∃ z, PsgR N ls p qs x.1.toNat x.2 z then Classical.choose h else 0
theorem psi_eq (J : JN N) (L : Lens N ls) {p : Int} {qs : Qs} {k : Nat} {n z : Int} (h : PsgR N ls p qs k n z) : psi N ls p qs ((k : Int), n) = z := by
  have hx : ∃ z, PsgR N ls p qs ((k : Int), n).1.toNat ((k : Int), n).2 z := ⟨z, h⟩
  unfold psi
  rw [dif_pos hx]
  exact PsgR.same J L (Classical.choose_spec hx) h
/-- the law's way: one arrival after the other -/
def arrI (N : Net) (qs : Qs) (p : Int) : Qs × Evs := joinW N (departW N 8) qs 0 p
def runI (N : Net) (qs : Qs) (p : Int) : Nat → Qs
  | 0 => qs
  | t + 1 => (arrI N (runI N qs p t) (p + (t : Int))).1
structure LenQ (N : Net) (ls : List Int) (qs : Qs) : Prop where
  len : qs.length = N.length
  eq : ∀ k, k < N.length → ls.getD k 0 = ((qs.getD k []).length : Int)
theorem lab_get {t : Int} {k i : Nat} (hi : i < (lab N ls t k).length) : (lab N ls t k)[i]? = some ((k : Int), bt N ls t k * ((N.getD k []).length : Int) - ls.getD k 0 + 1 + (i : Int)) := by
  unfold lab at hi ⊢
  rw [List.length_map, List.length_range] at hi
  rw [List.getElem?_map, List.getElem?_range hi]; rfl
theorem run_labs (J : JN N) (L : Lens N ls) (h8 : N.length ≤ 8) (hp1 : 1 ≤ N.length) {p : Int} {qs : Qs} (LQ : LenQ N ls qs) : ∀ t : Nat, (∀ k, k < N.length → ∀ x ∈ lab N ls t k, ∃ z, PsgR N ls p qs k x.2 z) ∧ runI N qs p t = mapQ (psi N ls p qs) (labs N ls t)
  | 0 => by
    have hb : ∀ k, k < N.length → ∀ i, i < (qs.getD k []).length → ∀ z, (qs.getD k [])[i]? = some z → PsgR N ls p qs k (1 - ls.getD k 0 + (i : Int)) z := fun k hk i hi z hz => by
      have := LQ.eq k hk
      refine .old (by omega) ?_
      rw [show (((qs.getD k []).length : Int) + (1 - ls.getD k 0 + (i : Int) - 1)).toNat = i by omega]
      exact hz
    have hw : ∀ k, k < N.length → wt N ls ((0 : Nat) : Int) k = ((qs.getD k []).length : Int) := fun k hk => by
      unfold wt
      show ls.getD k 0 + jq N ls 0 _ - bt N ls 0 k * _ = _
      rw [bt_zero J.fw L k hk, jq_zero J.fw L, LQ.eq k hk]; omega
    have hx : ∀ k, k < N.length → ∀ i, i < (lab N ls ((0 : Nat) : Int) k).length → (lab N ls ((0 : Nat) : Int) k)[i]? = some ((k : Int), 1 - ls.getD k 0 + (i : Int)) ∧ i < (qs.getD k []).length := fun k hk i hi => by
      have h1 := lab_len (t := ((0 : Nat) : Int)) J.fw L hk
      rw [hw k hk] at h1
      have hb0 : bt N ls ((0 : Nat) : Int) k = 0 := bt_zero J.fw L k hk
      refine ⟨?_, by omega⟩
      rw [lab_get hi, hb0, Int.zero_mul]
      exact congrArg (fun m => some ((k : Int), m)) (by omega)
    refine ⟨fun k hk x hxm => ?_, ?_⟩
    · obtain ⟨i, hi⟩ := List.mem_iff_getElem?.mp hxm
      have hil := (List.getElem?_eq_some_iff.mp hi).1
      obtain ⟨e, hq⟩ := hx k hk i hil
      rw [e] at hi
      cases hi
      exact ⟨_, hb k hk i hq _ (List.getElem?_eq_getElem hq)⟩
    · refine List.ext_getElem? fun k => ?_
      by_cases hk : k < N.length
      · have h1 : (runI N qs p 0)[k]? = some (qs.getD k []) := by
          show qs[k]? = _
          simp [List.getD_eq_getElem?_getD, LQ.len, hk]
        have h2 : (mapQ (psi N ls p qs) (labs N ls ((0 : Nat) : Int)))[k]? = some ((lab N ls ((0 : Nat) : Int) k).map (psi N ls p qs)) := by
          unfold mapQ labs
          rw [List.getElem?_map, List.getElem?_map, List.getElem?_range hk]; rfl
        rw [h1, h2]
        refine congrArg some (List.ext_getElem? fun i => ?_)
        have hll := lab_len (t := ((0 : Nat) : Int)) J.fw L hk
        rw [hw k hk] at hll
        by_cases hi : i < (qs.getD k []).length
        · obtain ⟨e, _⟩ := hx k hk i (by omega)
          rw [List.getElem?_map, e, List.getElem?_eq_getElem hi]
          exact congrArg some (psi_eq J L (hb k hk i hi _ (List.getElem?_eq_getElem hi))).symm
        · rw [List.getElem?_eq_none (by omega), List.getElem?_eq_none (by rw [List.length_map]; omega)]
      · rw [List.getElem?_eq_none (by show qs.length ≤ k; rw [LQ.len]; omega), List.getElem?_eq_none (by unfold mapQ; rw [List.length_map, labs_len]; omega)]
  | t + 1 => by
    obtain ⟨ihE, ih⟩ := run_labs J L h8 hp1 LQ (p := p) t
    have ec : ((t + 1 : Nat) : Int) = (t : Int) + 1 := by omega
    rw [ec]
    have hT1 : (1 : Int) ≤ (t : Int) + 1 := by omega
    have hTT : (t : Int) + 1 - 1 = (t : Int) := by omega
    have hj0 : ∀ u : Int, jq N ls u (.inl ((0 : Nat) : Int)) = u := fun u => by
      unfold jq
      rw [if_pos (by rfl)]
    have newP : PsgR N ls p qs 0 ((t : Int) + 1) (p + (t : Int)) := .new rfl (by omega) (by omega)
    have hp0 : psi N ls p qs (0, (t : Int) + 1) = p + (t : Int) := psi_eq J L newP
    have hrun : runI N qs p (t + 1) = mapQ (psi N ls p qs) (arrL N (labs N ls (t : Int)) (0, (t : Int) + 1)).1 := by
      show (joinW N (departW N 8) (runI N qs p t) 0 (p + (t : Int))).1 = _
      rw [ih, ← hp0, joinW_map (departW_map 8)]
    have key : ∀ k, k < N.length → ((arrL N (labs N ls (t : Int)) (0, (t : Int) + 1)).1.getD k []).length = (lab N ls ((t : Int) + 1) k).length ∧ (arrL N (labs N ls (t : Int)) (0, (t : Int) + 1)).1.length = N.length ∧ ∀ i, i < (lab N ls ((t : Int) + 1) k).length → ∃ (x : Int × Int) (m z : Int), (lab N ls ((t : Int) + 1) k)[i]? = some ((k : Int), m) ∧ ((arrL N (labs N ls (t : Int)) (0, (t : Int) + 1)).1.getD k [])[i]? = some x ∧ PsgR N ls p qs k m z ∧ psi N ls p qs x = z := by
      intro k hk
      have la := line_all J L h8 hT1 hk
      rw [hTT] at la
      obtain ⟨_, hrl, hrw, js, hline, hjs, hjo⟩ := la
      have hl1 := lab_len (t := (t : Int) + 1) J.fw L hk
      have hl0 := lab_len (t := (t : Int)) J.fw L hk
      refine ⟨by omega, hrl, fun i hi => ?_⟩
      have hle := congrArg List.length hline
      rw [List.length_append, List.length_append] at hle
      have u2 : wt N ls ((t : Int) + 1) k = ls.getD k 0 + jq N ls ((t : Int) + 1) (.inl (k : Int)) - bt N ls ((t : Int) + 1) k * ((N.getD k []).length : Int) := rfl
      have u1 : wt N ls (t : Int) k = ls.getD k 0 + jq N ls (t : Int) (.inl (k : Int)) - bt N ls (t : Int) k * ((N.getD k []).length : Int) := rfl
      obtain ⟨x, hx⟩ : ∃ x, ((arrL N (labs N ls (t : Int)) (0, (t : Int) + 1)).1.getD k [])[i]? = some x := ⟨_, List.getElem?_eq_getElem (by omega)⟩
      obtain ⟨m, hm⟩ : ∃ m, m = bt N ls ((t : Int) + 1) k * ((N.getD k []).length : Int) - ls.getD k 0 + 1 + (i : Int) := ⟨_, rfl⟩
      have hlg := lab_get hi
      rw [← hm] at hlg
      have hxl : (lab N ls (t : Int) k ++ js)[(evP (arrL N (labs N ls (t : Int)) (0, (t : Int) + 1)).2 (.inl (k : Int))).length + i]? = some x := by
        rw [← hline, List.getElem?_append_right (by omega), Nat.add_sub_cancel_left]
        exact hx
      refine ⟨x, m, ?_⟩
      by_cases hmj : m ≤ jq N ls (t : Int) (.inl (k : Int))
      · have hil : (evP (arrL N (labs N ls (t : Int)) (0, (t : Int) + 1)).2 (.inl (k : Int))).length + i < (lab N ls (t : Int) k).length := by omega
        rw [List.getElem?_append_left hil, lab_get hil] at hxl
        have ex : x = ((k : Int), m) := by
          rw [← Option.some.inj hxl]
          exact congrArg (fun z => ((k : Int), z)) (by omega)
        obtain ⟨z, hz⟩ := ihE k hk x (by rw [← Option.some.inj hxl]; exact List.mem_of_getElem? (lab_get hil))
        rw [ex] at hz
        exact ⟨z, hlg, hx, hz, by rw [ex]; exact psi_eq J L hz⟩
      · rw [List.getElem?_append_right (by omega)] at hxl
        obtain ⟨h1, h2⟩ := hjo x (List.mem_of_getElem? hxl)
        obtain ⟨k2, hk2, ek2, _, _⟩ := LabN.r J L hT1 hp1 h1
        have hj1 := jq_mono (ls := ls) J.fw L.pos (show (0 : Int) ≤ (t : Int) by omega) (.inl (k : Int))
        rw [jq_zero J.fw L] at hj1
        have hmle : m ≤ jq N ls ((t : Int) + 1) (.inl (k : Int)) := by omega
        by_cases h0 : k = 0
        · subst h0
          have ex : x = (0, (t : Int) + 1) := h2.elim (fun h => by omega) fun h => h.2
          rw [hj0] at hmj hmle
          have em : m = (t : Int) + 1 := by omega
          subst em
          exact ⟨_, hlg, hx, newP, by rw [ex]; exact hp0⟩
        · have hlt : x.1 < (k : Int) := h2.elim id fun h => absurd h.1 h0
          obtain ⟨z, hz⟩ : ∃ z, PsgR N ls p qs k2 x.2 z := by
            rcases h1 with rfl | ⟨k', hk', hx'⟩
            · have : k2 = 0 := by
                have : (0 : Int) = (k2 : Int) := ek2
                omega
              subst this
              exact ⟨_, newP⟩
            · rw [hTT] at hx'
              obtain ⟨e1, _, _⟩ := lab_ok J.fw L (by omega) hk' x hx'
              have : k2 = k' := by omega
              subst this
              exact ihE k2 hk2 x hx'
          have ex : x = ((k2 : Int), x.2) := by rw [← ek2]
          have hsrc : Src N ls k m ((k2 : Int), x.2) := by
            refine ⟨(t : Int) + 1, hT1, by rw [hTT]; omega, hmle, ?_⟩
            unfold lineW
            rw [hTT, hline, List.length_append, ← ex]
            rw [List.getElem?_append_right (by omega)]
            rw [show (((lab N ls (t : Int) k).length + js.length : Nat) : Int) + (m - jq N ls ((t : Int) + 1) (.inl (k : Int)) - 1) = (((evP (arrL N (labs N ls (t : Int)) (0, (t : Int) + 1)).2 (.inl (k : Int))).length + i : Nat) : Int) by omega]
            exact hxl
          refine ⟨z, hlg, hx, .step (by omega) (by omega) hsrc hz, ?_⟩
          rw [ex]
          exact psi_eq J L hz
    refine ⟨fun k hk x hxm => ?_, ?_⟩
    · obtain ⟨i, hi⟩ := List.mem_iff_getElem?.mp hxm
      obtain ⟨_, _, h3⟩ := key k hk
      obtain ⟨x', m, z, h4, _, h6, _⟩ := h3 i (List.getElem?_eq_some_iff.mp hi).1
      rw [hi] at h4
      cases h4
      exact ⟨z, h6⟩
    · rw [hrun]
      refine List.ext_getElem? fun k => ?_
      have hrl := (key 0 hp1).2.1
      unfold mapQ
      rw [List.getElem?_map, List.getElem?_map]
      by_cases hk : k < N.length
      · obtain ⟨h1, _, h3⟩ := key k hk
        have e1 : (arrL N (labs N ls (t : Int)) (0, (t : Int) + 1)).1[k]? = some ((arrL N (labs N ls (t : Int)) (0, (t : Int) + 1)).1.getD k []) := by
          rw [List.getD_eq_getElem?_getD, List.getElem?_eq_getElem (by omega)]; rfl
        have e2 : (labs N ls ((t : Int) + 1))[k]? = some (lab N ls ((t : Int) + 1) k) := by
          unfold labs
          rw [List.getElem?_map, List.getElem?_range hk]; rfl
        rw [e1, e2]
        refine congrArg some (List.ext_getElem? fun i => ?_)
        rw [List.getElem?_map, List.getElem?_map]
        by_cases hi : i < (lab N ls ((t : Int) + 1) k).length
        · obtain ⟨x, m, z, h4, h5, h6, h7⟩ := h3 i hi
          rw [h4, h5]
          exact congrArg some (h7.trans (psi_eq J L h6).symm)
        · rw [List.getElem?_eq_none (by omega), List.getElem?_eq_none (by omega)]
      · rw [List.getElem?_eq_none (by omega), List.getElem?_eq_none (by rw [labs_len]; omega)]
end
end K
set_option Elab.async false
set_option linter.all false
set_option maxRecDepth 100000
set_option maxHeartbeats 1000000
set_option exponentiation.threshold 20000
namespace K
open PySem PySem.Spec PyProof.Rows L2 Evl FB
local macro_rules | `(tactic| walk_at "run") => `(tactic| try simp only [tSeq, tAsg, tVar, tC, gName, L2.start, List.map_cons, List.map_nil, List.cons_append, List.nil_append, List.length_cons, List.length_nil, List.replicate, List.getElem?_cons_zero, List.getElem?_cons_succ, Option.some.injEq, exists_eq_left', List.set_cons_zero, List.set_cons_succ, V.ref.injEq, tRet, x_tLst, x_tTup, tCons, tCB, tNil, tOp, x_addI, x_mulI, x_rI, x_rI0, x_ltI, x_leI, x_ltS, x_leS, x_eqI, x_neI, x_eqS, x_eqB, x_neB, x_isiI, x_isiS, x_int, x_max, x_min, cxOf, tIfS, tNext, tTest, V.bl.injEq, decide_eq_true_eq, gSub, tAnd, tOr, tNot, tB, tDrop, tBM, x_tFor, iRng1, iList, iTup, x_tLc, tYes, tCall, tIf, tAndV, tOrV, tNotV, tChain, List.append_nil, tUn, if_true, wipe, true_and, x_never, iU, x_itS, kV, Nat.reduceAdd, Nat.reduceSub, List.replicate_zero, x_rU, x_tMkO, iEnumT, x_tDc, x_tDGet, x_tDGet2, x_sDPut, x_tDSetd, x_tDNewK, x_iItems, x_iZip, x_tSAddK, x_tLockV, x_tTupRg, x_tRg2, tPar, tPar3, tBM0, tSl, tNoPart, tPart, x_tSetAdd, x_tDIn, x_iKeys, x_iZipX, x_iZip3, iRevR, tRg1, x_tFld, x_tMeth, x_sFld, x_tMake, tAug, x_ipI, x_tDNotIn, iRng2])
/-! Timetable.source -/
section
variable {P : Program} {w : World} {K : PySem.W.Frag} {mg : Str → Option Value} {base : Heap}
theorem atI_neg {α : Type} {xs : List α} {i : Int} {v : α} (h0 : i < 0) (h1 : -(xs.length : Int) ≤ i) (h : xs[((xs.length : Int) + i).toNat]? = some v) : atI xs i = some v := by
  unfold atI ixN
  rw [if_neg (by omega), if_pos h1]
  rw [Int.add_comm] at h
  exact h
abbrev s_Timetable_source : Stmt := inClass (top 32) 8
theorem sc_Timetable_source : FnScope ["self", "place", "number", "time", "line"] ["self", "place", "number"] (defScope s_Timetable_source) := ⟨rfl, rfl, rfl, by decide +kernel, rfl, by decide +kernel, by decide +kernel⟩
def spSrc (K : PySem.W.Frag) (C : Addr) : Sp := fun vs H Q _ => ∃ (N : Net) (ls : List Int) (p : Int) (qs : Qs) (M : Tm) (c k : Nat) (n T0 : Int), vs = [.ref M.a, .int (k : Int), .int n] ∧ TT K C N ls p qs M c H ∧ CntN N ∧ Lens N ls ∧ JN N ∧ N.length ≤ 8 ∧ c < 870000 ∧ k < N.length ∧ 1 ≤ k ∧ 1 ≤ n ∧ n ≤ jq N ls T0 (.inl (k : Int)) ∧ 0 ≤ T0 ∧ T0 ≤ 1000000000000000000 ∧
  ∀ H' l (k2 : Nat) (n2 : Int), TT K C N ls p qs M (c + 230) H' → ExK M H H' → SqT K H' l [.int (k2 : Int), .int n2] → k2 < k → 1 - ls.getD k2 0 ≤ n2 → n2 ≤ jq N ls T0 (.inl (k2 : Int)) → Src N ls k n ((k2 : Int), n2) → Q (.ref l) H'
theorem ok_source {C CA f f1 f2 f3 f4 : Addr} {fd fd1 fd2 fd3 fd4 : FuncData} (D : Mf K C "source" "Timetable.source" s_Timetable_source ["self", "place", "number"] f fd) (T : Bt mg) (F : TF K C) (FA : AF K CA) (M_time_of : Mf K C "time_of" "Timetable.time_of" s_Timetable_time_of ["self", "place", "number"] f1 fd1) (G_time_of : FnOk P w K mg base CX0 5 f1 fd1 ["self", "place", "number"] (spTime K C))
    (M_arrival_at : Mf K C "arrival_at" "Timetable.arrival_at" s_Timetable_arrival_at ["self", "time"] f2 fd2) (G_arrival_at : FnOk P w K mg base CX0 20 f2 fd2 ["self", "time"] (spAt K C CA)) (M_line : Mf K CA "line" "Arrival.line" s_Arrival_line ["self", "place"] f3 fd3)
    (M_joined_by : Mf K C "joined_by" "Timetable.joined_by" s_Timetable_joined_by ["self", "place", "time"] f4 fd4) (G_joined_by : FnOk P w K mg base CX0 4 f4 fd4 ["self", "place", "time"] (spJd K C)) : FnOk P w K mg base CX0 21 f fd ["self", "place", "number"] (spSrc K C) := by
  have G_line : FnOk P w K mg base CX0 1 f3 fd3 _ _ := ok_line M_line T FA
  refine D.F.ok sc_Timetable_source (fun vs H Q E h => ?_) (fun cdv A outer s H vs Q E hr h => ?_)
  · obtain ⟨N, ls, p, qs, M, c, k, n, T0, rfl, _⟩ := h
    rfl
  · obtain ⟨N, ls, p, qs, M, c, k, n, T0, rfl, W, hC, L, J, h8, hc, hk, hk1, hn, hnT, hT0, hT1, q⟩ := h
    refine ⟨_, (pss_cons (ps_set (i := 3) sc_Timetable_source.nd rfl (Or.inl rfl) (pe_meth (pv 0) F.c M_time_of.m (G_time_of) (hr.mono (by decide)) M_time_of.b .nil pass0 (pa_cons (pv 1) (pa_cons (pv 2) pa_nil))))
      (pss_cons (ps_set (i := 4) sc_Timetable_source.nd rfl (Or.inl rfl) (pe_meth (pe_meth (pv 0) F.c M_arrival_at.m (G_arrival_at) (hr.mono (by decide)) M_arrival_at.b .nil pass0 (pa_cons (pv 3) pa_nil)) FA.c M_line.m (G_line) (hr.mono (by decide)) M_line.b .nil pass0 (pa_cons (pv 1) pa_nil)))
      (pss_one (ps_ret (pe_ix (ix_U (K := K)) (pv 4) (pe_op op_sub (pe_op op_sub (pv 2) (pe_meth (pv 0) F.c M_joined_by.m (G_joined_by) (hr.mono (by decide)) M_joined_by.b .nil pass0 (pa_cons (pv 1) (pa_cons (pv 3) pa_nil)))) pe_int) (fun _ _ => rfl)))))), ?_⟩
    walk_at "run"
    refine x_meth W.ins fs_time_of ?_
    refine ⟨N, ls, p, qs, M, c, .inl (k : Int), n, T0, rfl, W, hC, L, J.fw, by omega, .inl ⟨k, hk, rfl⟩, hn, hnT, hT0, hT1, fun H1 t W1 e1 ht1 htT hlo hhi => ?_⟩
    walk_at "run"
    refine x_meth W1.ins fs_arrival_at ?_
    refine ⟨N, ls, p, qs, M, c + 200, t, rfl, W1, hC, L, J, h8, by omega, by omega, ht1, by omega, fun H2 a dx Qa Ea W2 e2 ha hQ hE => ?_⟩
    obtain ⟨hlen, hrl, _, js, hline, hjs, hjo⟩ := line_all J L h8 ht1 hk
    refine x_meth ha af_line ?_
    refine ⟨a, dx, Qa, Ea, _, _, k, rfl, ha, hQ, hE, by omega, hlen, fun H3 l e3 hl => ?_⟩
    walk_at "run"
    have W3 := W2.ex e3
    refine x_meth W3.ins fs_joined_by ?_
    refine ⟨N, ls, p, qs, M, c + 200 + 20, t, .inl (k : Int), rfl, W3, hC, L.len, by omega, .inl ⟨k, hk, rfl⟩, fun H4 W4 e4 => ?_⟩
    walk_at "run"
    obtain ⟨xs, hxs, hxd⟩ := hl.ex
    have hlK : l ≠ M.Kd := by
      obtain ⟨ks, hk, _⟩ := W3.cache
      exact fun z => by rw [z, hk] at hxs; cases hxs
    rw [hline] at hxd
    have hxl : xs.length = (lab N ls (t - 1) k).length + js.length := by rw [hxd.len, List.length_map, List.length_append]
    obtain ⟨m, hm, hm2⟩ : ∃ m : Nat, m < js.length ∧ ((xs.length : Int) + (n - jq N ls t (.inl (k : Int)) - 1)).toNat = (lab N ls (t - 1) k).length + m := ⟨((js.length : Int) + (n - jq N ls t (.inl (k : Int)) - 1)).toNat, by omega, by omega⟩
    obtain ⟨x, hx⟩ : ∃ x, js[m]? = some x := ⟨js[m], by simp [hm]⟩
    obtain ⟨hln, hlt⟩ := hjo x (List.mem_of_getElem? hx)
    obtain ⟨k2, hk2, ex1, hx2, hx3⟩ := LabN.r J L ht1 (by omega) hln
    have hx4 : x.1 < (k : Int) := hlt.elim id fun h => absurd h.1 (by omega)
    have hsrc : Src N ls k n ((k2 : Int), x.2) := by
      refine ⟨t, ht1, hlo, hhi, ?_⟩
      unfold lineW
      rw [hline, List.length_append, ← ex1]
      rw [show (((lab N ls (t - 1) k).length + js.length : Nat) : Int) = (xs.length : Int) by omega, hm2]
      rw [List.getElem?_append_right (by omega), Nat.add_sub_cancel_left]
      exact hx
    obtain ⟨v, hv, hvd⟩ := hxd.get (i := (lab N ls (t - 1) k).length + m) (d := pdL x) (by
      rw [List.getElem?_map, List.getElem?_append_right (by omega), Nat.add_sub_cancel_left, hx]; rfl)
    obtain ⟨b, ys, rfl, hB, hys⟩ := Dp.tup_inv hvd
    have hys2 : ys = [.int (k2 : Int), .int x.2] := by
      cases hys with
      | cons hy0 hys =>
      cases hys with
      | cons hy1 hys =>
      cases hys
      rw [hy0.int_inv, hy1.int_inv, ex1]
    rw [hys2] at hB
    have t34 := W3.tx e4
    have e14 : ExK M H H4 := e1.trans (e2.trans ((ExK.of e3).trans e4))
    refine x_ixL (SqL.of (e4 _ _ hlK hxs)) (atI_neg (by omega) (by omega) (by rw [hm2]; exact hv)) ?_
    have hT := jq_mono (ls := ls) J.fw L.pos htT (.inl (k2 : Int))
    exact q H4 b k2 x.2 (W4.le (by omega)) e14 (t34.t hB) (by omega) hx2 (by omega) hsrc
end
end K
set_option Elab.async false
set_option linter.all false
set_option maxRecDepth 100000
set_option maxHeartbeats 1000000
set_option exponentiation.threshold 20000
namespace K
open PySem PySem.Spec PyProof.Rows L2 Evl FB
local macro_rules | `(tactic| walk_at "run") => `(tactic| try simp only [tSeq, tAsg, tVar, tC, gName, L2.start, List.map_cons, List.map_nil, List.cons_append, List.nil_append, List.length_cons, List.length_nil, List.replicate, List.getElem?_cons_zero, List.getElem?_cons_succ, Option.some.injEq, exists_eq_left', List.set_cons_zero, List.set_cons_succ, V.ref.injEq, tRet, x_tLst, x_tTup, tCons, tCB, tNil, tOp, x_addI, x_mulI, x_rI, x_rI0, x_ltI, x_leI, x_ltS, x_leS, x_eqI, x_neI, x_eqS, x_eqB, x_neB, x_isiI, x_isiS, x_int, x_max, x_min, cxOf, tIfS, tNext, tTest, V.bl.injEq, decide_eq_true_eq, gSub, tAnd, tOr, tNot, tB, tDrop, tBM, x_tFor, iRng1, iList, iTup, x_tLc, tYes, tCall, tIf, tAndV, tOrV, tNotV, tChain, List.append_nil, tUn, if_true, wipe, true_and, x_never, iU, x_itS, kV, Nat.reduceAdd, Nat.reduceSub, List.replicate_zero, x_rU, x_tMkO, iEnumT, x_tDc, x_tDGet, x_tDGet2, x_sDPut, x_tDSetd, x_tDNewK, x_iItems, x_iZip, x_tSAddK, x_tLockV, x_tTupRg, x_tRg2, tPar, tPar3, tBM0, tSl, tNoPart, tPart, x_tSetAdd, x_tDIn, x_iKeys, x_iZipX, x_iZip3, iRevR, tRg1, x_tFld, x_tMeth, x_sFld, x_tMake, tAug, x_ipI, x_tDNotIn, iRng2])
/-! Timetable.passenger -/
section
variable {P : Program} {w : World} {K : PySem.W.Frag} {mg : Str → Option Value} {base : Heap}
abbrev s_Timetable_passenger : Stmt := inClass (top 32) 9
theorem sc_Timetable_passenger : FnScope ["self", "place", "number"] ["self", "place", "number"] (defScope s_Timetable_passenger) := ⟨rfl, rfl, rfl, by decide +kernel, rfl, by decide +kernel, by decide +kernel⟩
def spPsg (K : PySem.W.Frag) (C : Addr) : Sp := fun vs H Q _ => ∃ (N : Net) (ls : List Int) (p : Int) (qs : Qs) (M : Tm) (c k : Nat) (n T0 : Int), vs = [.ref M.a, .int (k : Int), .int n] ∧ TT K C N ls p qs M c H ∧ CntN N ∧ Lens N ls ∧ LenQ N ls qs ∧ JN N ∧ N.length ≤ 8 ∧ c < 860000 ∧ k < N.length ∧ 1 - ls.getD k 0 ≤ n ∧ n ≤ jq N ls T0 (.inl (k : Int)) ∧ 0 ≤ T0 ∧ T0 ≤ 1000000000000000000 ∧
  ∀ H' z, TT K C N ls p qs M (c + 2000) H' → ExK M H H' → PsgR N ls p qs k n z → Q (.int z) H'
theorem ok_passenger {C f f1 : Addr} {fd fd1 : FuncData} (D : Mf K C "passenger" "Timetable.passenger" s_Timetable_passenger ["self", "place", "number"] f fd) (T : Bt mg) (F : TF K C) (M_source : Mf K C "source" "Timetable.source" s_Timetable_source ["self", "place", "number"] f1 fd1) (G_source : FnOk P w K mg base CX0 21 f1 fd1 ["self", "place", "number"] (spSrc K C)) :
    FnOk P w K mg base CX0 22 f fd ["self", "place", "number"] (spPsg K C) := by
  refine D.F.ok sc_Timetable_passenger (fun vs H Q E h => ?_) (fun cdv A outer s H vs Q E hr h => ?_)
  · obtain ⟨N, ls, p, qs, M, c, k, n, T0, rfl, _⟩ := h
    rfl
  · obtain ⟨N, ls, p, qs, M, c, k, n, T0, rfl, W, hC, L, LQ, J, h8, hc, hk, hn, hnT, hT0, hT1, q⟩ := h
    have hu := hr.units
    refine ⟨_, (pss_cons (ps_while PassesOwn.never (PW.pt (pw_and (pt_cmpR (op_neU (K := K) hu) (pv 1) pe_int (nomark _)) (pw_and1 (pt_cmpR (op_gtU) (pv 2) pe_int (nomark _))))) (pss_one (ps_asg (pe_meth (pv 0) F.c M_source.m (G_source) (hr.mono (by decide)) M_source.b .nil pass0 (pa_cons (pv 1) (pa_cons (pv 2) pa_nil))) (pg_tup rfl (pgs_cons (pg_name (i := 1) sc_Timetable_passenger.nd rfl (Or.inl rfl)) (pgs_cons (pg_name (i := 2) sc_Timetable_passenger.nd rfl (Or.inl rfl)) pgs_nil))))))
      (pss_cons (ps_if (pt_cmpR (op_gtU) (pv 2) pe_int (nomark _)) (pss_one (ps_ret (pe_op op_sub (pe_op (op_addU (K := K)) (pe_fld (pv 0) rfl) (pv 2)) pe_int))) pss_nil)
      (pss_one (ps_ret (pe_ix (ix_U (K := K)) (pe_ix (ix_U (K := K)) (pe_fld (pv 0) rfl) (pv 1) (fun _ _ => rfl)) (pe_op op_sub (pv 2) pe_int) (fun _ _ => rfl)))))), ?_⟩
    walk_at "run"
    refine while_raw (fun σ H' => ∃ (k2 : Nat) (n2 : Int), σ = [some (.ref M.a), some (.int (k2 : Int)), some (.int n2)] ∧ TT K C N ls p qs M (c + 230 * (k - k2)) H' ∧ ExK M H H' ∧ k2 ≤ k ∧ 1 - ls.getD k2 0 ≤ n2 ∧ n2 ≤ jq N ls T0 (.inl (k2 : Int)) ∧ ∀ z, PsgR N ls p qs k2 n2 z → PsgR N ls p qs k n z) (fun σ _ => (slotI σ 1).toNat) ⟨k, n, rfl, W.le (by omega), ExK.of (Ex.refl H), Nat.le_refl _, hn, hnT, fun _ h => h⟩ ?_
    rintro σ H1 ⟨k2, n2, rfl, W1, e1, hk2, hn2, hj2, hps⟩ R hT hF
    walk_at "run"
    by_cases hz : k2 ≠ 0 ∧ 0 < n2
    · obtain ⟨hz1, hz2⟩ := hz
      rw [if_pos (by simp; omega), decide_eq_true hz2]
      refine hT H1 ?_
      walk_at "run"
      refine x_meth W1.ins fs_source ?_
      refine ⟨N, ls, p, qs, M, c + 230 * (k - k2), k2, n2, T0, rfl, W1, hC, L, J, h8, by omega, by omega, by omega, by omega, hj2, hT0, hT1, fun H2 l k3 n3 W2 e2 hl hlt hn3 hj3 hsrc => ?_⟩
      refine x_two hl ?_
      walk_at "run"
      refine ⟨⟨k3, n3, rfl, W2.le (by omega), e1.trans e2, by omega, hn3, hj3, fun z hz => hps z (.step (by omega) (by omega) hsrc hz)⟩, ?_⟩
      show ((k3 : Int)).toNat < ((k2 : Int)).toNat
      omega
    · suffices h : R false H1 by
        by_cases h0 : k2 = 0
        · rw [if_neg (by simp; omega)]; exact h
        · rw [if_pos (by simp; omega), decide_eq_false fun h2 => hz ⟨h0, h2⟩]; exact h
      refine hF H1 ?_
      walk_at "run"
      by_cases hp : 0 < n2
      · rw [if_pos hp]
        refine x_fld W1.ins F.c F.next_passenger fs_next_passenger ?_
        walk_at "run"
        exact q H1 _ (W1.le (by omega)) e1 (hps _ (.new (Classical.not_not.mp fun h => hz ⟨h, hp⟩) hp rfl))
      · rw [if_neg hp]
        refine x_fld W1.ins F.c F.waiting fs_waiting ?_
        obtain ⟨ub, ts, hu2, hT2, hts⟩ := qs_at W1.wai
        rw [hu2]
        have hkq : k2 < qs.length := by rw [LQ.len]; omega
        obtain ⟨zv, hzv, hzd⟩ := hts.get (i := k2) (d := qD (qs.getD k2 [])) (by rw [List.getElem?_map]; simp [List.getD_eq_getElem?_getD, hkq])
        obtain ⟨qb, rfl, hQB⟩ := q_at hzd
        refine x_ixT hT2 (atI_nat hzv) ?_
        walk_at "run"
        have hle := LQ.eq k2 (by omega)
        obtain ⟨m, hm, hm2⟩ : ∃ m : Nat, m < (qs.getD k2 []).length ∧ (((qs.getD k2 []).length : Int) + (n2 - 1)).toNat = m := ⟨(((qs.getD k2 []).length : Int) + (n2 - 1)).toNat, by omega, rfl⟩
        obtain ⟨x, hx⟩ : ∃ x, (qs.getD k2 [])[m]? = some x := ⟨(qs.getD k2 [])[m], List.getElem?_eq_getElem hm⟩
        refine x_ixT hQB (v := .int x) (atI_neg (by omega) (by rw [List.length_map]; omega) (by rw [List.length_map, hm2, List.getElem?_map, hx]; rfl)) ?_
        exact q H1 _ (W1.le (by omega)) e1 (hps _ (.old (by omega) (by rw [hm2]; exact hx)))
end
end K
set_option Elab.async false
set_option linter.all false
set_option maxRecDepth 100000
set_option maxHeartbeats 1000000
set_option exponentiation.threshold 20000
namespace K
open PySem PySem.Spec PyProof.Rows L2 Evl FB
local macro_rules | `(tactic| walk_at "run") => `(tactic| try simp only [tSeq, tAsg, tVar, tC, gName, L2.start, List.map_cons, List.map_nil, List.cons_append, List.nil_append, List.length_cons, List.length_nil, List.replicate, List.getElem?_cons_zero, List.getElem?_cons_succ, Option.some.injEq, exists_eq_left', List.set_cons_zero, List.set_cons_succ, V.ref.injEq, tRet, x_tLst, x_tTup, tCons, tCB, tNil, tOp, x_addI, x_mulI, x_rI, x_rI0, x_ltI, x_leI, x_ltS, x_leS, x_eqI, x_neI, x_eqS, x_eqB, x_neB, x_isiI, x_isiS, x_int, x_max, x_min, cxOf, tIfS, tNext, tTest, V.bl.injEq, decide_eq_true_eq, gSub, tAnd, tOr, tNot, tB, tDrop, tBM, x_tFor, iRng1, iList, iTup, x_tLc, tYes, tCall, tIf, tAndV, tOrV, tNotV, tChain, List.append_nil, tUn, if_true, wipe, true_and, x_never, iU, x_itS, kV, Nat.reduceAdd, Nat.reduceSub, List.replicate_zero, x_rU, x_tMkO, iEnumT, x_tDc, x_tDGet, x_tDGet2, x_sDPut, x_tDSetd, x_tDNewK, x_iItems, x_iZip, x_tSAddK, x_tLockV, x_tTupRg, x_tRg2, tPar, tPar3, tBM0, tSl, tNoPart, tPart, x_tSetAdd, x_tDIn, x_iKeys, x_iZipX, x_iZip3, iRevR, tRg1, x_tFld, x_tMeth, x_sFld, x_tMake, tAug, x_ipI, x_tDNotIn, iRng2])
/-! Timetable.__init__ -/
theorem putF_ne {f g : Str} {y v : V} {r : List (Str × V)} (h : ¬ g = f) : putF f y ((g, v) :: r) = (g, v) :: putF f y r := by
  show (if g = f then (g, y) :: r else (g, v) :: putF f y r) = _
  rw [if_neg h]
theorem tm_fs {v u l D k : V} {p : Int} : putF "known_boats" k (putF "feeders" D (putF "lengths" l (putF "waiting" u (putF "next_passenger" (.int p) (putF "network" v []))))) = ([("network", v), ("next_passenger", .int p), ("waiting", u), ("lengths", l), ("feeders", D), ("known_boats", k)] : List (Str × V)) := by
  rw [show putF "network" v [] = ([("network", v)] : List (Str × V)) from rfl]
  rw [putF_ne (f := "next_passenger") (by decide +kernel), show ∀ y : V, putF "next_passenger" y [] = ([("next_passenger", y)] : List (Str × V)) from fun _ => rfl]
  rw [putF_ne (f := "waiting") (by decide +kernel), putF_ne (f := "waiting") (by decide +kernel), show ∀ y : V, putF "waiting" y [] = ([("waiting", y)] : List (Str × V)) from fun _ => rfl]
  rw [putF_ne (f := "lengths") (by decide +kernel), putF_ne (f := "lengths") (by decide +kernel), putF_ne (f := "lengths") (by decide +kernel), show ∀ y : V, putF "lengths" y [] = ([("lengths", y)] : List (Str × V)) from fun _ => rfl]
  rw [putF_ne (f := "feeders") (by decide +kernel), putF_ne (f := "feeders") (by decide +kernel), putF_ne (f := "feeders") (by decide +kernel), putF_ne (f := "feeders") (by decide +kernel), show ∀ y : V, putF "feeders" y [] = ([("feeders", y)] : List (Str × V)) from fun _ => rfl]
  rw [putF_ne (f := "known_boats") (by decide +kernel), putF_ne (f := "known_boats") (by decide +kernel), putF_ne (f := "known_boats") (by decide +kernel), putF_ne (f := "known_boats") (by decide +kernel), putF_ne (f := "known_boats") (by decide +kernel), show ∀ y : V, putF "known_boats" y [] = ([("known_boats", y)] : List (Str × V)) from fun _ => rfl]
theorem Feed.forget {H0 H : Hp} {D a : Addr} {n : Nat} {L : Seats} {A : Key → Option Addr} {G : Key → Cnt} {kvs : List (Key × V)} (F : Feed H0 H D n L A G kvs) : Feed (fun x => if x = a then none else H0 x) H D n L A G kvs :=
  { F with
    new := fun q b h => by
      show (if b = a then none else H0 b) = none
      split
      · rfl
      · exact F.new q b h
    newD := by
      show (if D = a then none else H0 D) = none
      split
      · rfl
      · exact F.newD
    ex := fun x o h => by
      have h : (if x = a then none else H0 x) = some o := h
      split at h
      · cases h
      · exact F.ex x o h }
section
variable {P : Program} {w : World} {K : PySem.W.Frag} {mg : Str → Option Value} {base : Heap}
abbrev s_Timetable___init : Stmt := inClass (top 32) 0
theorem sc_Timetable___init : FnScope ["self", "network", "state"] ["self", "network", "state"] (defScope s_Timetable___init) := ⟨rfl, rfl, rfl, by decide +kernel, rfl, by decide +kernel, by decide +kernel⟩
def spTmI (K : PySem.W.Frag) (C : Addr) : Sp := fun vs H Q _ => ∃ (N : Net) (p : Int) (qs : Qs) (a dx : Addr) (v u : V), vs = [.ref a, v, u] ∧ H a = some (.ins C dx []) ∧ NetAt K H v N ∧ CntN N ∧ Dp K H u (stateD p qs) ∧ qs.length ≤ 1000 ∧ (∀ q ∈ qs, q.length ≤ 1000) ∧
  ∀ H' (M : Tm), M.a = a → TT K C N (lens qs) p qs M 0 H' → (∀ x o, x ≠ a → H x = some o → H' x = some o) → H M.Kd = none → M.Kd ≠ a → Q .non H'
theorem ok_Timetable_init {C f f1 f2 : Addr} {fd fd1 fd2 : FuncData} (D : Cf K mg "Timetable" "Timetable.__init__" C s_Timetable___init ["self", "network", "state"] f fd) (T : Bt mg) (F : TF K C) (D_queue_lengths : Df K mg "queue_lengths" s_queue_lengths ["state"] f1 fd1) (D_find_feeders : Df K mg "find_feeders" s_find_feeders ["network"] f2 fd2) : FnOk P w K mg base CX0 2 f fd ["self", "network", "state"] (spTmI K C) := by
  have G_queue_lengths : FnOk P w K mg base CX0 1 f1 fd1 _ _ := ok_queue_lengths D_queue_lengths T
  have G_find_feeders : FnOk P w K mg base CX0 1 f2 fd2 _ _ := ok_find_feeders D_find_feeders T
  refine D.F.ok sc_Timetable___init (fun vs H Q E h => ?_) (fun cdv A outer s H vs Q E hr h => ?_)
  · obtain ⟨N, p, qs, a, dx, v, u, rfl, _⟩ := h
    rfl
  · obtain ⟨N, p, qs, a, dx, v, u, rfl, ha, hN, hC, hu, hq1, hq2, q⟩ := h
    refine ⟨_, (pss_cons (ps_fld (pv 0) (pv 1) rfl)
      (pss_cons (ps_fld (pv 0) (pe_ix (ix_U (K := K)) (pv 2) pe_int (fun _ _ => rfl)) rfl)
      (pss_cons (ps_fld (pv 0) (pe_ix (ix_U (K := K)) (pv 2) pe_int (fun _ _ => rfl)) rfl)
      (pss_cons (ps_fld (pv 0) (pe_call (G_queue_lengths) (hr.mono (by decide)) rfl D_queue_lengths.g D_queue_lengths.F.kp D_queue_lengths.b .nil pass0 (pa_cons (pv 2) pa_nil)) rfl)
      (pss_cons (ps_fld (pv 0) (pe_call (G_find_feeders) (hr.mono (by decide)) rfl D_find_feeders.g D_find_feeders.F.kp D_find_feeders.b .nil pass0 (pa_cons (pv 1) pa_nil)) rfl)
      (pss_one (ps_fld (pv 0) pe_dnewK rfl))))))), ?_⟩
    walk_at "run"
    refine x_setF ha F.c F.network (by simp) fun H1 e1 n1 h1 => ?_
    have t1 := tx_ins ha e1
    walk_at "run"
    obtain ⟨ua, uy, rfl, hUa, hUy⟩ := state_at (Dp.tx t1 hu (stateD_t p qs))
    refine x_ixT hUa (v := .int p) rfl (x_setF h1 F.c F.next_passenger (by show 1 < 1000; decide) fun H2 e2 n2 h2 => ?_)
    have t2 := tx_ins h1 e2
    walk_at "run"
    refine x_ixT (t2.t hUa) (v := uy) rfl (x_setF h2 F.c F.waiting (by show 2 < 1000; decide) fun H3 e3 n3 h3 => ?_)
    have t3 := t2.trans (tx_ins h2 e3)
    walk_at "run"
    have hu3 : Dp K H3 (.ref ua) (stateD p qs) := Dp.tx (t1.trans t3) hu (stateD_t p qs)
    refine ⟨.ref ua, p, qs, rfl, hu3, hq1, hq2, fun H4 l e4 nl hl => ?_⟩
    have h4 := e4 _ _ h3
    refine x_setF h4 F.c F.lengths (by show 3 < 1000; decide) fun H5 e5 n5 h5 => ?_
    walk_at "run"
    have hla : l ≠ a := (ne_of_none h3 nl).symm
    have t5 := (TX.of e4).trans (tx_ins h4 e5)
    refine ⟨v, N, rfl, NetAt.tx (t1.trans (t3.trans t5)) hN, hC, fun H6 Df A G kvs FF hD => ?_⟩
    have e6 : Ex H5 H6 := FF.ex
    have h6 := e6 _ _ h5
    refine x_setF h6 F.c F.feeders (by show 4 < 1000; decide) fun H7 e7 n7 h7 => ?_
    have t7 := (TX.of e6).trans (tx_ins h6 e7)
    walk_at "run"
    refine x_dnew fun Kd H8 nK e8 hK => ?_
    have h8 := e8 _ _ h7
    refine x_setF h8 F.c F.known_boats (by show 5 < 1000; decide) fun H9 e9 n9 h9 => ?_
    walk_at "run"
    have hDa : Df ≠ a := fun z => by rw [z] at FF; have := FF.newD; rw [h5] at this; cases this
    have hAa : ∀ q b, A q = some b → b ≠ a := fun q b h z => by
      have := FF.new q b h
      rw [z, h5] at this; cases this
    have hKa : Kd ≠ a := (ne_of_none h7 nK).symm
    have e59 : ∀ x o, x ≠ a → H5 x = some o → H9 x = some o := fun x o hx h => e9 _ _ hx (e8 _ _ (e7 _ _ hx (e6 _ _ h)))
    have e69 : ∀ x o, x ≠ a → H6 x = some o → H9 x = some o := fun x o hx h => e9 _ _ hx (e8 _ _ (e7 _ _ hx h))
    have t9 := (TX.of e8).trans (tx_ins h8 e9)
    have hKD : H5 Kd = none := by
      cases h : H5 Kd with
      | none => rfl
      | some o =>
        have := e7 _ _ hKa (e6 _ _ h)
        rw [this] at nK; cases nK
    have fin : ∀ x o, x ≠ a → H x = some o → H9 x = some o := fun x o hx h => e59 x o hx (e5 _ _ hx (e4 _ _ (e3 _ _ hx (e2 _ _ hx (e1 _ _ hx h)))))
    refine q H9 ⟨a, dx, l, Df, Kd, v, uy, (fun x => if x = a then none else H5 x), A, G, kvs, []⟩ rfl ⟨?_, ?_, ?_, ?_, ?_, ?_, ?_, ?_, ?_, ?_, ?_, ?_, ?_⟩ fin ?_ hKa
    · rw [tm_fs] at h9
      exact h9
    · exact NetAt.tx (t1.trans (t3.trans (t5.trans (t7.trans t9)))) hN
    · exact Dp.tx (t3.trans (t5.trans (t7.trans t9))) hUy (qsD_t qs)
    · exact e59 _ _ hla (e5 _ _ hla hl)
    · refine (Feed.forget (a := a) FF).but (fun x o h => ?_) fun q b hb => ?_
      · have h : (if x = a then none else H5 x) = some o := h
        split at h
        · cases h
        · rename_i hx
          exact e59 _ _ hx h
      · rw [FF.inn q b hb]
        exact e69 _ _ (hAa q b hb) (FF.inn q b hb)
    · exact e69 _ _ hDa hD
    · exact (ne_of_none (e7 _ _ hDa hD) nK).symm
    · exact fun q b hb => ne_of_none (e7 _ _ (hAa q b hb) (FF.inn q b hb)) nK
    · show (if Kd = a then none else H5 Kd) = none
      rw [if_neg hKa]; exact hKD
    · exact fun y hy => by cases hy
    · exact fun hy => by cases hy
    · exact fun hy => by cases hy
    · exact ⟨[], e9 _ _ hKa hK, Nat.le_refl _, fun k x h => by cases h⟩
    · cases h : H Kd with
      | none => rfl
      | some o =>
        have := e5 _ _ hKa (e4 _ _ (e3 _ _ hKa (e2 _ _ hKa (e1 _ _ hKa h))))
        rw [this] at hKD; cases hKD
end
end K
set_option Elab.async false
set_option linter.all false
set_option maxRecDepth 100000
set_option maxHeartbeats 1000000
set_option exponentiation.threshold 20000
namespace K
open PySem PySem.Spec PyProof.Rows L2 Evl FB
local macro_rules | `(tactic| walk_at "run") => `(tactic| try simp only [tSeq, tAsg, tVar, tC, gName, L2.start, List.map_cons, List.map_nil, List.cons_append, List.nil_append, List.length_cons, List.length_nil, List.replicate, List.getElem?_cons_zero, List.getElem?_cons_succ, Option.some.injEq, exists_eq_left', List.set_cons_zero, List.set_cons_succ, V.ref.injEq, tRet, x_tLst, x_tTup, tCons, tCB, tNil, tOp, x_addI, x_mulI, x_rI, x_rI0, x_ltI, x_leI, x_ltS, x_leS, x_eqI, x_neI, x_eqS, x_eqB, x_neB, x_isiI, x_isiS, x_int, x_max, x_min, cxOf, tIfS, tNext, tTest, V.bl.injEq, decide_eq_true_eq, gSub, tAnd, tOr, tNot, tB, tDrop, tBM, x_tFor, iRng1, iList, iTup, x_tLc, tYes, tCall, tIf, tAndV, tOrV, tNotV, tChain, List.append_nil, tUn, if_true, wipe, true_and, x_never, iU, x_itS, kV, Nat.reduceAdd, Nat.reduceSub, List.replicate_zero, x_rU, x_tMkO, iEnumT, x_tDc, x_tDGet, x_tDGet2, x_sDPut, x_tDSetd, x_tDNewK, x_iItems, x_iZip, x_tSAddK, x_tLockV, x_tTupRg, x_tRg2, tPar, tPar3, tBM0, tSl, tNoPart, tPart, x_tSetAdd, x_tDIn, x_iKeys, x_iZipX, x_iZip3, iRevR, tRg1, x_tFld, x_tMeth, x_sFld, x_tMake, tAug, x_ipI, x_tDNotIn, iRng2])
/-! advance -/
section
variable {P : Program} {w : World} {K : PySem.W.Frag} {mg : Str → Option Value} {base : Heap}
theorem lens_len {qs : Qs} : (lens qs).length = qs.length := by unfold lens; simp
theorem lens_at {qs : Qs} {k : Nat} (hk : k < qs.length) : (lens qs).getD k 0 = ((qs.getD k []).length : Int) := by
  unfold lens
  simp [List.getD_eq_getElem?_getD, hk]
theorem lensQ {N : Net} {p : Int} {qs : Qs} (h : StOk N p qs) : LenQ N (lens qs) qs := ⟨h.len, fun k hk => lens_at (by rw [h.len]; exact hk)⟩
theorem lensL {N : Net} {p : Int} {qs : Qs} (h : StOk N p qs) : Lens N (lens qs) := by
  refine ⟨by rw [lens_len, h.len], fun k hk => ?_, fun k hk => ?_⟩
  · rw [lens_at (by rw [h.len]; exact hk)]; omega
  · rw [lens_at (by rw [h.len]; exact hk)]
    have h1 : qs[k]? = some (qs.getD k []) := by simp [List.getD_eq_getElem?_getD, h.len, hk]
    have h2 : N[k]? = some (N.getD k []) := by simp [List.getD_eq_getElem?_getD, hk]
    have := h.lt k _ _ h1 h2
    omega
theorem jn_of {N : Net} (h : ValidN N) : JN N := by
  have at_ : ∀ k, k < N.length → N[k]? = some (N.getD k []) := fun k hk => by simp [List.getD_eq_getElem?_getD, hk]
  refine ⟨h.le, fun k hk => ?_, fun i hi j hj => ?_⟩
  · obtain ⟨a, b, _⟩ := h.st k _ (at_ k hk)
    exact ⟨a, b⟩
  · exact h.seat (at_ i hi) hj
end
end K
set_option Elab.async false
set_option linter.all false
set_option maxRecDepth 100000
set_option maxHeartbeats 1000000
set_option exponentiation.threshold 20000
namespace K
open PySem PySem.Spec PyProof.Rows L2 Evl FB
local macro_rules | `(tactic| walk_at "run") => `(tactic| try simp only [tSeq, tAsg, tVar, tC, gName, L2.start, List.map_cons, List.map_nil, List.cons_append, List.nil_append, List.length_cons, List.length_nil, List.replicate, List.getElem?_cons_zero, List.getElem?_cons_succ, Option.some.injEq, exists_eq_left', List.set_cons_zero, List.set_cons_succ, V.ref.injEq, tRet, x_tLst, x_tTup, tCons, tCB, tNil, tOp, x_addI, x_mulI, x_rI, x_rI0, x_ltI, x_leI, x_ltS, x_leS, x_eqI, x_neI, x_eqS, x_eqB, x_neB, x_isiI, x_isiS, x_int, x_max, x_min, cxOf, tIfS, tNext, tTest, V.bl.injEq, decide_eq_true_eq, gSub, tAnd, tOr, tNot, tB, tDrop, tBM, x_tFor, iRng1, iList, iTup, x_tLc, tYes, tCall, tIf, tAndV, tOrV, tNotV, tChain, List.append_nil, tUn, if_true, wipe, true_and, x_never, iU, x_itS, kV, Nat.reduceAdd, Nat.reduceSub, List.replicate_zero, x_rU, x_tMkO, iEnumT, x_tDc, x_tDGet, x_tDGet2, x_sDPut, x_tDSetd, x_tDNewK, x_iItems, x_iZip, x_tSAddK, x_tLockV, x_tTupRg, x_tRg2, tPar, tPar3, tBM0, tSl, tNoPart, tPart, x_tSetAdd, x_tDIn, x_iKeys, x_iZipX, x_iZip3, iRevR, tRg1, x_tFld, x_tMeth, x_sFld, x_tMake, tAug, x_ipI, x_tDNotIn, iRng2])
/-! Timetable: departure_time, boat_passengers -/
section
variable {M : Tm} {p : Int}
theorem fs_departure_time : (M.fs p).lookup ("departure_time" : Str) = none := by
  unfold Tm.fs
  rw [lk_ne (by decide +kernel), lk_ne (by decide +kernel), lk_ne (by decide +kernel), lk_ne (by decide +kernel), lk_ne (by decide +kernel), lk_ne (by decide +kernel)]
  rfl
theorem fs_boat_passengers : (M.fs p).lookup ("boat_passengers" : Str) = none := by
  unfold Tm.fs
  rw [lk_ne (by decide +kernel), lk_ne (by decide +kernel), lk_ne (by decide +kernel), lk_ne (by decide +kernel), lk_ne (by decide +kernel), lk_ne (by decide +kernel)]
  rfl
end
/-- a boat that has departed by a time: its last passenger has come -/
theorem boat_by {N : Net} {ls : List Int} (fw : Fw N) (L : Lens N ls) {t : Int} {k : Nat} (hk : k < N.length) (b : Int) : b ≤ bt N ls t k ↔ b * ((N.getD k []).length : Int) - ls.getD k 0 ≤ jq N ls t (.inl (k : Int)) := by
  have h1 := L.pos k hk
  rw [bt_eq fw hk, Int.fdiv_eq_ediv_of_nonneg _ (by omega), Int.le_ediv_iff_mul_le (by omega)]
  omega
section
variable {P : Program} {w : World} {K : PySem.W.Frag} {mg : Str → Option Value} {base : Heap}
abbrev s_Timetable_departure_time : Stmt := inClass (top 32) 5
theorem sc_Timetable_departure_time : FnScope ["self", "station", "boat_number"] ["self", "station", "boat_number"] (defScope s_Timetable_departure_time) := ⟨rfl, rfl, rfl, by decide +kernel, rfl, by decide +kernel, by decide +kernel⟩
def spDpt (K : PySem.W.Frag) (C : Addr) : Sp := fun vs H Q _ => ∃ (N : Net) (ls : List Int) (p : Int) (qs : Qs) (M : Tm) (c k : Nat) (b T0 : Int), vs = [.ref M.a, .int (k : Int), .int b] ∧ TT K C N ls p qs M c H ∧ CntN N ∧ Lens N ls ∧ Fw N ∧ c < 890000 ∧ k < N.length ∧ 1 ≤ b ∧ b ≤ bt N ls T0 k ∧ 0 ≤ T0 ∧ T0 ≤ 1000000000000000000 ∧
  ∀ H' t, TT K C N ls p qs M (c + 200) H' → ExK M H H' → 1 ≤ t → t ≤ T0 → bt N ls (t - 1) k < b → b ≤ bt N ls t k → Q (.int t) H'
theorem ok_departure_time {C f f1 f2 : Addr} {fd fd1 fd2 : FuncData} (D : Mf K C "departure_time" "Timetable.departure_time" s_Timetable_departure_time ["self", "station", "boat_number"] f fd) (T : Bt mg) (F : TF K C) (M_time_of : Mf K C "time_of" "Timetable.time_of" s_Timetable_time_of ["self", "place", "number"] f1 fd1) (G_time_of : FnOk P w K mg base CX0 5 f1 fd1 ["self", "place", "number"] (spTime K C))
    (M_first_number : Mf K C "first_number" "Timetable.first_number" s_Timetable_first_number ["self", "station", "boat_number"] f2 fd2) : FnOk P w K mg base CX0 6 f fd ["self", "station", "boat_number"] (spDpt K C) := by
  have G_first_number : FnOk P w K mg base CX0 1 f2 fd2 _ _ := ok_first_number M_first_number T F
  refine D.F.ok sc_Timetable_departure_time (fun vs H Q E h => ?_) (fun cdv A outer s H vs Q E hr h => ?_)
  · obtain ⟨N, ls, p, qs, M, c, k, b, T0, rfl, _⟩ := h
    rfl
  · obtain ⟨N, ls, p, qs, M, c, k, b, T0, rfl, W, hC, L, fw, hc, hk, hb1, hbT, hT0, hT1, q⟩ := h
    refine ⟨_, (pss_one (ps_ret (pe_meth (pv 0) F.c M_time_of.m (G_time_of) (hr.mono (by decide)) M_time_of.b .nil pass0 (pa_cons (pv 1) (pa_cons (pe_op op_sub (pe_meth (pv 0) F.c M_first_number.m (G_first_number) (hr.mono (by decide)) M_first_number.b .nil pass0 (pa_cons (pv 1) (pa_cons (pe_op (op_addU (K := K)) (pv 2) pe_int) pa_nil))) pe_int) pa_nil))))), ?_⟩
    walk_at "run"
    refine x_meth W.ins fs_time_of (x_meth W.ins fs_first_number ?_)
    refine ⟨N, ls, p, qs, M, c, k, b + 1, rfl, W, hC, L.len, hk, ?_⟩
    rw [Int.add_sub_cancel]
    walk_at "run"
    rw [Int.add_sub_cancel]
    have h1 := L.pos k hk
    have h2 := L.lt k hk
    have h3 : 1 * ((N.getD k []).length : Int) ≤ b * ((N.getD k []).length : Int) := Int.mul_le_mul_of_nonneg_right hb1 (by omega)
    refine ⟨N, ls, p, qs, M, c, .inl (k : Int), b * ((N.getD k []).length : Int) - ls.getD k 0, T0, rfl, W, hC, L, fw, hc, .inl ⟨k, hk, rfl⟩, by omega, (boat_by fw L hk b).mp hbT, hT0, hT1, fun H1 t W1 e1 ht1 htT hlo hhi => ?_⟩
    exact q H1 t W1 e1 ht1 htT (Int.not_le.mp fun h => by have := (boat_by fw L hk b).mp h; omega) ((boat_by fw L hk b).mpr hhi)
abbrev s_Timetable_boat_passengers : Stmt := inClass (top 32) 10
theorem sc_Timetable_boat_passengers : FnScope ["self", "station", "boat_number", "first", "seat"] ["self", "station", "boat_number"] (defScope s_Timetable_boat_passengers) := ⟨rfl, rfl, rfl, by decide +kernel, rfl, by decide +kernel, by decide +kernel⟩
def spBtP (K : PySem.W.Frag) (C : Addr) : Sp := fun vs H Q _ => ∃ (N : Net) (ls : List Int) (p : Int) (qs : Qs) (M : Tm) (c k : Nat) (b T0 : Int), vs = [.ref M.a, .int (k : Int), .int b] ∧ TT K C N ls p qs M c H ∧ CntN N ∧ Lens N ls ∧ LenQ N ls qs ∧ JN N ∧ N.length ≤ 8 ∧ c < 800000 ∧ k < N.length ∧ 1 ≤ b ∧ b ≤ bt N ls T0 k ∧ 0 ≤ T0 ∧ T0 ≤ 1000000000000000000 ∧
  ∀ H' l (zs : List Int), TT K C N ls p qs M (c + 20000) H' → ExK M H H' → Dp K H' (.ref l) (qD zs) → zs.length = (N.getD k []).length → (∀ (i : Nat) z, zs[i]? = some z → PsgR N ls p qs k ((b - 1) * ((N.getD k []).length : Int) - ls.getD k 0 + 1 + (i : Int)) z) → Q (.ref l) H'
theorem ok_boat_passengers {C f f1 f2 : Addr} {fd fd1 fd2 : FuncData} (D : Mf K C "boat_passengers" "Timetable.boat_passengers" s_Timetable_boat_passengers ["self", "station", "boat_number"] f fd) (T : Bt mg) (F : TF K C) (M_passenger : Mf K C "passenger" "Timetable.passenger" s_Timetable_passenger ["self", "place", "number"] f1 fd1) (G_passenger : FnOk P w K mg base CX0 22 f1 fd1 ["self", "place", "number"] (spPsg K C))
    (M_first_number : Mf K C "first_number" "Timetable.first_number" s_Timetable_first_number ["self", "station", "boat_number"] f2 fd2) : FnOk P w K mg base CX0 23 f fd ["self", "station", "boat_number"] (spBtP K C) := by
  have G_first_number : FnOk P w K mg base CX0 1 f2 fd2 _ _ := ok_first_number M_first_number T F
  refine D.F.ok sc_Timetable_boat_passengers (fun vs H Q E h => ?_) (fun cdv A outer s H vs Q E hr h => ?_)
  · obtain ⟨N, ls, p, qs, M, c, k, b, T0, rfl, _⟩ := h
    rfl
  · obtain ⟨N, ls, p, qs, M, c, k, b, T0, rfl, W, hC, L, LQ, J, h8, hc, hk, hb1, hbT, hT0, hT1, q⟩ := h
    refine ⟨_, (pss_cons (ps_set (i := 3) sc_Timetable_boat_passengers.nd rfl (Or.inr rfl) (pe_meth (pv 0) F.c M_first_number.m (G_first_number) (hr.mono (by decide)) M_first_number.b .nil pass0 (pa_cons (pv 1) (pa_cons (pv 2) pa_nil))))
      (pss_one (ps_ret (pe_callTy (call_tupU (K := K)) (by rfl) T.b_tuple (by decide +kernel) (pa_cons (pe_lc (own := [("seat", 4)]) (g := gName 4) (tt := tYes) rfl sc_Timetable_boat_passengers.nd (pi_range1 (by rfl) T.b_range (pa_cons (pe_callB (call_lenU (K := K)) (by rfl) T.b_len (by decide +kernel) (pa_cons (pe_ix (ix_U (K := K)) (pe_fld (pv 0) rfl) (pv 1) (fun _ _ => rfl)) pa_nil)) pa_nil)) (blkOk_by (own := [("seat", 4)]) (N := ["self", "station", "boat_number", "first", "seat"]) (sc := defScope s_Timetable_boat_passengers) (by decide +kernel)) (fun _ _ _ _ _ => (pg_name (i := 4) sc_Timetable_boat_passengers.nd rfl (Or.inl rfl))) (fun _ _ _ _ _ => pts_nil) (fun _ _ _ _ _ => (pe_meth (pv 0) F.c M_passenger.m (G_passenger) (hr.mono (by decide)) M_passenger.b .nil pass0 (pa_cons (pv 1) (pa_cons (pe_op (op_addU (K := K)) (pv 3) (pv 4)) pa_nil))))) pa_nil))))), ?_⟩
    walk_at "run"
    refine x_meth W.ins fs_first_number ?_
    refine ⟨N, ls, p, qs, M, c, k, b, rfl, W, hC, L.len, hk, ?_⟩
    walk_at "run"
    obtain ⟨na, ts, hv, hT, hts⟩ := NetAt.at W.net
    have hsN : N[k]? = some (N.getD k []) := by simp [List.getD_eq_getElem?_getD, hk]
    obtain ⟨sv, hsv, hsd⟩ := hts.get (i := k) (d := stD (N.getD k [])) (by rw [List.getElem?_map, hsN]; rfl)
    obtain ⟨sb, rfl, hB⟩ := StAt.at hsd
    refine x_fld W.ins F.c F.network fs_network ?_
    rw [hv]
    refine x_ixT hT (atI_nat hsv) (x_lenT hB ?_)
    rw [List.length_map]
    have h1 := L.pos k hk
    have hk8 := (J.st k hk).2
    have h2 := L.lt k hk
    have h0 := L.nn k hk
    have hjb := (boat_by J.fw L hk b).mp hbT
    have hm : b * ((N.getD k []).length : Int) = (b - 1) * ((N.getD k []).length : Int) + ((N.getD k []).length : Int) := by
      rw [Int.sub_mul]; omega
    have hm0 : 0 ≤ (b - 1) * ((N.getD k []).length : Int) := Int.mul_nonneg (by omega) (by omega)
    obtain ⟨fn, hf⟩ : ∃ fn, fn = (b - 1) * ((N.getD k []).length : Int) - ls.getD k 0 + 1 := ⟨_, rfl⟩
    rw [← hf] at q ⊢
    refine ⟨((N.getD k []).length : Int), rfl, by omega, by omega, ?_⟩
    rw [Int.toNat_natCast]
    refine lcl_it walk_range (fun D j H' => ∃ zs : List Int, zs.length = j ∧ H' D = some (.lst (zs.map V.int)) ∧ TT K C N ls p qs { M with av := D :: M.av } (c + 2000 * j) H' ∧ ExK M H H' ∧ ∀ (i : Nat) z, zs[i]? = some z → PsgR N ls p qs k (fn + (i : Int)) z) (fun D H' hD e h => ⟨[], rfl, h, W.avoid hD e ⟨_, h⟩, ExK.of e, by simp⟩) (fun D j H' _ _ => trivial) ?_ ?_
    · rintro D j x H3 H3' hD hj ⟨zs, hzl, hzD, W3, e3, hps⟩ ⟨eH, rfl⟩
      subst eH
      have ei : (0 : Int) + (j : Nat) = (j : Nat) := by omega
      simp only [ei]
      walk_at "run"
      refine x_meth W3.ins fs_passenger ?_
      refine ⟨N, ls, p, qs, { M with av := D :: M.av }, c + 2000 * j, k, fn + (j : Int), T0, rfl, W3, hC, L, LQ, J, h8, by omega, hk, by omega, by omega, hT0, hT1, fun H4 z W4 e4 hpz => ?_⟩
      have hDK : D ≠ M.Kd := fun z => W3.kav (by rw [← z]; exact List.mem_cons_self ..)
      have hD0 : M.H0 D = none := fresh_back W.feed.ex hD
      have hz4 := e4 _ _ hDK hzD
      refine x_push hz4 (by rw [List.length_map]; omega) fun H5 e5 h5 => ⟨zs ++ [z], by simp [hzl], by rw [h5, List.map_append]; rfl, ?_, ?_, fun i y hy => ?_⟩
      · exact TT.le (TT.keepA W4 hz4 (List.mem_cons_self ..) hD0 ⟨_, h5⟩ e5) (by omega)
      · exact fun x o hx h => e5 _ _ (ne_of_none h hD) (e4 _ _ hx (e3 _ _ hx h))
      · by_cases hi : i < zs.length
        · rw [List.getElem?_append_left hi] at hy
          exact hps i y hy
        · rw [List.getElem?_append_right (by omega)] at hy
          obtain ⟨z1, z2⟩ := List.getElem?_eq_some_iff.mp hy
          have hij : i = j := by simp at z1; omega
          have hzy : z = y := by simpa using z2
          subst hij hzy
          exact hpz
    · rintro D H3 hD ⟨zs, hzl, hzD, W3, e3, hps⟩
      walk_at "run"
      refine x_tupL (SqL.of hzD) fun l4 H4 n4 e4 h4 => ?_
      exact q H4 l4 zs (((TT.forget W3).ex e4).le (by omega)) (e3.trans (ExK.of e4)) (.tup (SqT.of h4) (ints_dp zs)) hzl hps
end
end K
set_option Elab.async false
set_option linter.all false
set_option maxRecDepth 100000
set_option maxHeartbeats 1000000
set_option exponentiation.threshold 20000
namespace K
open PySem PySem.Spec PyProof.Rows L2 Evl FB
local macro_rules | `(tactic| walk_at "run") => `(tactic| try simp only [tSeq, tAsg, tVar, tC, gName, L2.start, List.map_cons, List.map_nil, List.cons_append, List.nil_append, List.length_cons, List.length_nil, List.replicate, List.getElem?_cons_zero, List.getElem?_cons_succ, Option.some.injEq, exists_eq_left', List.set_cons_zero, List.set_cons_succ, V.ref.injEq, tRet, x_tLst, x_tTup, tCons, tCB, tNil, tOp, x_addI, x_mulI, x_rI, x_rI0, x_ltI, x_leI, x_ltS, x_leS, x_eqI, x_neI, x_eqS, x_eqB, x_neB, x_isiI, x_isiS, x_int, x_max, x_min, cxOf, tIfS, tNext, tTest, V.bl.injEq, decide_eq_true_eq, gSub, tAnd, tOr, tNot, tB, tDrop, tBM, x_tFor, iRng1, iList, iTup, x_tLc, tYes, tCall, tIf, tAndV, tOrV, tNotV, tChain, List.append_nil, tUn, if_true, wipe, true_and, x_never, iU, x_itS, kV, Nat.reduceAdd, Nat.reduceSub, List.replicate_zero, x_rU, x_tMkO, iEnumT, x_tDc, x_tDGet, x_tDGet2, x_sDPut, x_tDSetd, x_tDNewK, x_iItems, x_iZip, x_tSAddK, x_tLockV, x_tTupRg, x_tRg2, tPar, tPar3, tBM0, tSl, tNoPart, tPart, x_tSetAdd, x_tDIn, x_iKeys, x_iZipX, x_iZip3, iRevR, tRg1, x_tFld, x_tMeth, x_sFld, x_tMake, tAug, x_ipI, x_tDNotIn, iRng2])
/-! lines and sources of ports -/
theorem toQ_bound {f : Nat → Int} {q : Key} {B : Int} (hB : 0 ≤ B) : ∀ {L : Seats}, (∀ s ∈ L, f s.1 ≤ B) → toQ f q L ≤ (L.length : Int) * B
  | [], _ => by show (0 : Int) ≤ ((0 : Nat) : Int) * B; omega
  | (i, p) :: r, h => by
    have h1 : f i ≤ B := h (i, p) (List.mem_cons_self ..)
    have h2 := toQ_bound (q := q) hB (L := r) fun s hs => h s (List.mem_cons_of_mem _ hs)
    show (if p = q then f i else 0) + toQ f q r ≤ ((r.length + 1 : Nat) : Int) * B
    rw [Int.natCast_add, Int.add_mul]
    split <;> omega
theorem line_port {N : Net} {ls : List Int} (J : JN N) (L : Lens N ls) (h8 : N.length ≤ 8) (hp : 1 ≤ N.length) {t : Int} (ht : 1 ≤ t) (z : Str) :
    let r := arrL N (labs N ls (t - 1)) (0, t)
    (evP r.2 (.inr z)).length ≤ 100000 ∧ ((evP r.2 (.inr z)).length : Int) = jq N ls t (.inr z) - jq N ls (t - 1) (.inr z) ∧ ∀ x ∈ evP r.2 (.inr z), LabN N ls t x := by
  intro r
  have fw := J.fw
  have S0 := labs_short (t := t - 1) fw L
  have F : Flow N (labs N ls (t - 1)) (at1 0) r := joinW_flow (departW_flow fw 8) labs_len hp (by omega)
  have S : Short N r.1 := (joinW_ok L.pos (departW_ok L.pos fw 8) S0 hp (by omega)).1
  have hq : ∀ j, j < N.length → (((labs N ls (t - 1)).getD j []).length : Int) = wt N ls (t - 1) j := fun j hj => by rw [labs_at hj]; exact lab_len fw L hj
  have st := step_wt fw L hq F S (.inr z) (.inr ⟨z, rfl⟩)
  rw [Int.sub_add_cancel] at st
  have LR : LnR (fun j x => LabN N ls t x ∧ x.1 ≤ (j : Int)) (fun j x => LabN N ls t x ∧ x.1 ≤ (j : Int) ∧ (x.1 < (j : Int) ∨ (j = 0 ∧ x = (0, t)))) (LabN N ls t) := ⟨fun a b x h hab => ⟨h.1, by have := h.2; omega, .inl (by have := h.2; omega)⟩, fun b x h => ⟨h.1, h.2.1⟩, fun a x h => h.1⟩
  have new : LabN N ls t (0, t) := .inl rfl
  have G : Ln N (fun j x => LabN N ls t x ∧ x.1 ≤ (j : Int)) (fun j x => LabN N ls t x ∧ x.1 ≤ (j : Int) ∧ (x.1 < (j : Int) ∨ (j = 0 ∧ x = (0, t)))) (LabN N ls t) (labs N ls (t - 1)) r := by
    refine joinW_ln (departW_ln LR fw 8) labs_len hp (by omega) (fun j hj x hx => ?_) ⟨new, Int.le_refl _, .inr ⟨rfl, rfl⟩⟩ ⟨new, Int.le_refl _⟩
    rw [labs_at hj] at hx
    obtain ⟨e1, e2, e3⟩ := lab_ok fw L (by omega) hj x hx
    exact ⟨.inr ⟨j, hj, hx⟩, by omega⟩
  have a := F.p z
  have pl := evP_len (a := r.2) (q := .inr z)
  have hw := (joinW_way (departW_way (α := Int × Int) fw 8) (qs := labs N ls (t - 1)) (j := 0) (p := (0, t)) labs_len hp (by omega)).1
  have hw2 := wayW_le (n := N.length) (qs := labs N ls (t - 1)) (k := 0)
  have hfl := labs_flat (t := t - 1) fw L J h8
  have hb2 : (labs N ls (t - 1)).flatten.length * (2 * N.length) ≤ 64 * 16 := Nat.mul_le_mul hfl (by omega)
  have hes : r.2.length ≤ 1040 := by
    show (joinW N (departW N 8) _ _ _).2.length ≤ _
    omega
  have hsl := seatsOf_len (N := N) (fun s hs => by
    obtain ⟨k, hk⟩ := List.mem_iff_getElem?.mp hs
    have hkl := (List.getElem?_eq_some_iff.mp hk).1
    have := (J.st k hkl).2
    rw [List.getD_eq_getElem?_getD, hk] at this
    exact this) N.length
  have htb := toQ_bound (f := dn r.2) (q := .inr z) (B := 1040) (by decide) (L := seatsOf N N.length) fun s _ => by
    have := dn_le (k := s.1) (es := r.2)
    omega
  have hat : at1 0 (.inr z) = 0 := by
    unfold at1
    rw [if_neg (by simp)]
  refine ⟨by omega, by omega, fun x hx => G.pt z x hx⟩
section
variable {P : Program} {w : World} {K : PySem.W.Frag} {mg : Str → Option Value} {base : Heap}
def spLineP (K : PySem.W.Frag) (C : Addr) : Sp := fun vs H Q _ => ∃ (a dx Qa Ea : Addr) (qs : QsA (Int × Int)) (es : EvsA (Int × Int)) (z : Str), vs = [.ref a, .str z] ∧ H a = some (.ins C dx (arrFs Qa Ea)) ∧ QtAt K H Qa pdL qs ∧ EvAt K H Ea pdL es ∧ (evP es (.inr z)).length ≤ 100000 ∧
  ∀ H' l, Ex H H' → LsAt K H' l ((evP es (.inr z)).map pdL) → Q (.ref l) H'
theorem ok_lineP {C f : Addr} {fd : FuncData} (D : Mf K C "line" "Arrival.line" s_Arrival_line ["self", "place"] f fd) (T : Bt mg) (F : AF K C) : FnOk P w K mg base CX0 1 f fd ["self", "place"] (spLineP K C) := by
  refine D.F.ok sc_Arrival_line (fun vs H Q E h => ?_) (fun cdv A outer s H vs Q E hr h => ?_)
  · obtain ⟨a, dx, Qa, Ea, qs, es, z, rfl, _⟩ := h
    rfl
  · obtain ⟨a, dx, Qa, Ea, qs, es, z, rfl, ha, hQ, hE, hlen, q⟩ := h
    have hu := hr.units
    refine ⟨_, (pss_cons (ps_set (i := 2) sc_Arrival_line.nd rfl (Or.inl rfl) (pe_lst pa_nil))
      (pss_cons (ps_for PassesOwn.never rfl (pi_U (K := K) (pe_fld (pv 0) rfl)) (pg_tup rfl (pgs_cons (pg_name (i := 3) sc_Arrival_line.nd rfl (Or.inl rfl)) (pgs_cons (pg_name (i := 4) sc_Arrival_line.nd rfl (Or.inl rfl)) pgs_nil))) (pss_one (ps_if (pt_cmpR (op_eqU (K := K) hu) (pv 3) (pv 1) (nomark _)) (pss_one (ps_expr (pe_bm PySem.F.plainAttrs_list PySem.F.slot_list_extend PySem.F.type_list_extend (mt_extendU (K := K)) (pv 2) (pa_cons (pv 4) pa_nil)))) pss_nil)))
      (pss_cons (ps_if (pt_not (pt_val (pe_callB (call_isiU (K := K)) (by rfl) T.b_isinstance (by decide +kernel) (pa_cons (pv 1) (pa_cons (pe_bltn (v := .ty "str") (by rfl) T.b_str (by decide +kernel) rfl) pa_nil))))) (pss_one (ps_expr (pe_bm PySem.F.plainAttrs_list PySem.F.slot_list_extend PySem.F.type_list_extend (mt_extendU (K := K)) (pv 2) (pa_cons (pe_ix (ix_U (K := K)) (pe_fld (pv 0) rfl) (pv 1) (fun _ _ => rfl)) pa_nil)))) pss_nil)
      (pss_one (ps_ret (pv 2)))))), ?_⟩
    walk_at "run"
    refine x_lst (by simp) fun L H1 nL e1 hL => ?_
    refine x_fld (e1 _ _ ha) F.c F.events af_events ?_
    obtain ⟨ts, hEa, hts⟩ := hE.ex
    have htl : ts.length = es.length := by rw [hts.len, List.length_map]
    refine x_itL (ex_l e1 (SqL.of hEa)) ?_
    refine loop_it walk_list (fun i σ H' => ∃ u3 u4, σ = [some (.ref a), some (.str z), some (.ref L), u3, u4] ∧ Ex H H' ∧ LsAt K H' L ((evP (es.take i) (.inr z)).map pdL)) ⟨_, _, rfl, e1, ⟨⟨[], hL, .nil⟩⟩⟩ (fun i σ H' _ ⟨_, _, _, e, _⟩ => ex_l e (SqL.of hEa)) ?_ ?_
    · rintro i x σ H2 H2' hi ⟨u3, u4, rfl, e2, hLs⟩ ⟨eH, hx⟩
      subst eH
      obtain ⟨d, hd, hz⟩ := hts.get' hx
      obtain ⟨e, he, rfl⟩ : ∃ e, es[i]? = some e ∧ evA pdL e = d := by simpa using hd
      obtain ⟨b, ys, rfl, hB, hys⟩ := Dp.tup_inv hz
      have hyl : ys.length = 2 := hys.len
      obtain ⟨y0, y1, rfl⟩ : ∃ x y, ys = [x, y] := match ys, hyl with
        | [x, y], _ => ⟨x, y, rfl⟩
      cases hys with
      | cons hy0 hys2 =>
      cases hys2 with
      | cons hy1 _ =>
      refine x_two (ex_t e2 hB) ?_
      obtain ⟨pb, ps, rfl, hPb, hps⟩ := Dp.tup_inv hy1
      have hev : evP (es.take (i + 1)) (.inr z) = evP (es.take i) (.inr z) ++ (if e.1 = .inr z then e.2 else []) := by
        rw [List.take_add_one, he]
        show evP (es.take i ++ [e]) _ = _
        rw [evP_append]
        show _ ++ ((if e.1 = .inr z then e.2 else []) ++ []) = _
        rw [List.append_nil]
      have hle : (evP (es.take (i + 1)) (.inr z)).length ≤ (evP es (.inr z)).length := by
        conv => rhs; rw [← List.take_append_drop (i + 1) es, evP_append, List.length_append]
        omega
      walk_at "run"
      obtain ⟨xs, hxs, hxd⟩ := hLs.ex
      have hxl : xs.length = (evP (es.take i) (.inr z)).length := by rw [hxd.len, List.length_map]
      obtain ⟨bb, hbb, heq⟩ : ∃ bb : Bool, (bb = true ↔ e.1 = .inr z) ∧ ∀ Q : VK, Q (.bl bb) H2' → rEqU K y0 (.str z) H2' Q := by
        cases h1 : e.1 with
        | inl j =>
          rw [h1] at hy0
          obtain rfl : y0 = .int j := hy0.int_inv
          exact ⟨decide (V.int j = V.str z), by simp, fun Q h => .inl ⟨rfl, h⟩⟩
        | inr z2 =>
          rw [h1] at hy0
          have hy0 : Dp K H y0 (.str z2) := hy0
          cases hy0
          exact ⟨decide (V.str z2 = V.str z), by simp, fun Q h => .inl ⟨rfl, h⟩⟩
      refine heq _ ⟨bb, rfl, ?_⟩
      cases bb with
      | true =>
        rw [if_pos rfl]
        rw [if_pos (hbb.mp rfl)] at hev
        have hpl : ps.length = e.2.length := by rw [hps.len, List.length_map]
        rw [hev, List.length_append] at hle
        refine ⟨x_tyL (SqL.of hxs), x_extT hxs (ex_t e2 hPb) (by omega) fun H3 e3 h3 => ⟨_, _, rfl, fun o u h => e3 _ _ (ne_of_none h nL) (e2 _ _ h), ⟨⟨_, h3, ?_⟩⟩⟩⟩
        have t3 : TX H2' H3 := TX.but hxs e3
        rw [hev, List.map_append]
        exact DpAll.append (DpAll.tx t3 hxd fun d hd => by
          obtain ⟨j, _, rfl⟩ := List.mem_map.mp hd
          exact pdL_t.t _) (DpAll.tx t3 (DpAll.ex e2 hps) fun d hd => by
          obtain ⟨j, _, rfl⟩ := List.mem_map.mp hd
          exact pdL_t.t _)
      | false =>
        rw [if_neg (by decide)]
        rw [if_neg (fun z => by have := hbb.mpr z; cases this), List.append_nil] at hev
        exact ⟨_, _, rfl, e2, by rw [hev]; exact hLs⟩
    · rintro σ H2 ⟨u3, u4, rfl, e2, hLs⟩
      rw [List.take_of_length_le (by omega)] at hLs
      walk_at "run"
      rw [if_neg (by decide)]
      exact q H2 L e2 hLs
end
end K
set_option Elab.async false
set_option linter.all false
set_option maxRecDepth 100000
set_option maxHeartbeats 1000000
set_option exponentiation.threshold 20000
namespace K
open PySem PySem.Spec PyProof.Rows L2 Evl FB
local macro_rules | `(tactic| walk_at "run") => `(tactic| try simp only [tSeq, tAsg, tVar, tC, gName, L2.start, List.map_cons, List.map_nil, List.cons_append, List.nil_append, List.length_cons, List.length_nil, List.replicate, List.getElem?_cons_zero, List.getElem?_cons_succ, Option.some.injEq, exists_eq_left', List.set_cons_zero, List.set_cons_succ, V.ref.injEq, tRet, x_tLst, x_tTup, tCons, tCB, tNil, tOp, x_addI, x_mulI, x_rI, x_rI0, x_ltI, x_leI, x_ltS, x_leS, x_eqI, x_neI, x_eqS, x_eqB, x_neB, x_isiI, x_isiS, x_int, x_max, x_min, cxOf, tIfS, tNext, tTest, V.bl.injEq, decide_eq_true_eq, gSub, tAnd, tOr, tNot, tB, tDrop, tBM, x_tFor, iRng1, iList, iTup, x_tLc, tYes, tCall, tIf, tAndV, tOrV, tNotV, tChain, List.append_nil, tUn, if_true, wipe, true_and, x_never, iU, x_itS, kV, Nat.reduceAdd, Nat.reduceSub, List.replicate_zero, x_rU, x_tMkO, iEnumT, x_tDc, x_tDGet, x_tDGet2, x_sDPut, x_tDSetd, x_tDNewK, x_iItems, x_iZip, x_tSAddK, x_tLockV, x_tTupRg, x_tRg2, tPar, tPar3, tBM0, tSl, tNoPart, tPart, x_tSetAdd, x_tDIn, x_iKeys, x_iZipX, x_iZip3, iRevR, tRg1, x_tFld, x_tMeth, x_sFld, x_tMake, tAug, x_ipI, x_tDNotIn, iRng2])
/-! Timetable.source, Timetable.passenger of ports -/
/-- whom a number at a port stands for, before the arrival that gave it -/
def SrcP (N : Net) (ls : List Int) (z : Str) (n : Int) (x : Int × Int) : Prop := ∃ t : Int, 1 ≤ t ∧ jq N ls (t - 1) (.inr z) < n ∧ n ≤ jq N ls t (.inr z) ∧ (evP (arrL N (labs N ls (t - 1)) (0, t)).2 (.inr z))[(((evP (arrL N (labs N ls (t - 1)) (0, t)).2 (.inr z)).length : Int) + (n - jq N ls t (.inr z) - 1)).toNat]? = some x
/-- who has a number at a port -/
def PsgP (N : Net) (ls : List Int) (p : Int) (qs : Qs) (z : Str) (n y : Int) : Prop := ∃ (k2 : Nat) (n2 : Int), SrcP N ls z n ((k2 : Int), n2) ∧ PsgR N ls p qs k2 n2 y
section
variable {P : Program} {w : World} {K : PySem.W.Frag} {mg : Str → Option Value} {base : Heap}
theorem fn_or9 {CX : CXT} {k : Nat} {f : Addr} {fd : FuncData} {ps : List Str} {sp sp' : Sp} (F : FnOk P w K mg base CX k f fd ps sp) (G : FnOk P w K mg base CX k f fd ps sp') : FnOk P w K mg base CX k f fd ps (fun vs H Q E => sp vs H Q E ∨ sp' vs H Q E) :=
  ⟨fun vs H Q E q => q.elim (F.len vs H Q E) (G.len vs H Q E), fun A outer s H args us vs Q E hr e0 hb r q => q.elim (F.run A outer s H args us vs Q E hr e0 hb r) (G.run A outer s H args us vs Q E hr e0 hb r)⟩
def spSrcP (K : PySem.W.Frag) (C : Addr) : Sp := fun vs H Q _ => ∃ (N : Net) (ls : List Int) (p : Int) (qs : Qs) (M : Tm) (c : Nat) (z : Str) (n T0 : Int), vs = [.ref M.a, .str z, .int n] ∧ TT K C N ls p qs M c H ∧ CntN N ∧ Lens N ls ∧ JN N ∧ N.length ≤ 8 ∧ 1 ≤ N.length ∧ c < 870000 ∧ PlIn N (.inr z) ∧ 1 ≤ n ∧ n ≤ jq N ls T0 (.inr z) ∧ 0 ≤ T0 ∧ T0 ≤ 1000000000000000000 ∧
  ∀ H' l (k2 : Nat) (n2 : Int), TT K C N ls p qs M (c + 230) H' → ExK M H H' → SqT K H' l [.int (k2 : Int), .int n2] → k2 < N.length → 1 - ls.getD k2 0 ≤ n2 → n2 ≤ jq N ls T0 (.inl (k2 : Int)) → SrcP N ls z n ((k2 : Int), n2) → Q (.ref l) H'
theorem ok_sourceP {C CA f f1 f2 f3 f4 : Addr} {fd fd1 fd2 fd3 fd4 : FuncData} (D : Mf K C "source" "Timetable.source" s_Timetable_source ["self", "place", "number"] f fd) (T : Bt mg) (F : TF K C) (FA : AF K CA) (M_time_of : Mf K C "time_of" "Timetable.time_of" s_Timetable_time_of ["self", "place", "number"] f1 fd1) (G_time_of : FnOk P w K mg base CX0 5 f1 fd1 ["self", "place", "number"] (spTime K C))
    (M_arrival_at : Mf K C "arrival_at" "Timetable.arrival_at" s_Timetable_arrival_at ["self", "time"] f2 fd2) (G_arrival_at : FnOk P w K mg base CX0 20 f2 fd2 ["self", "time"] (spAt K C CA)) (M_line : Mf K CA "line" "Arrival.line" s_Arrival_line ["self", "place"] f3 fd3)
    (M_joined_by : Mf K C "joined_by" "Timetable.joined_by" s_Timetable_joined_by ["self", "place", "time"] f4 fd4) (G_joined_by : FnOk P w K mg base CX0 4 f4 fd4 ["self", "place", "time"] (spJd K C)) : FnOk P w K mg base CX0 21 f fd ["self", "place", "number"] (spSrcP K C) := by
  have G_line : FnOk P w K mg base CX0 1 f3 fd3 _ _ := ok_lineP M_line T FA
  refine D.F.ok sc_Timetable_source (fun vs H Q E h => ?_) (fun cdv A outer s H vs Q E hr h => ?_)
  · obtain ⟨N, ls, p, qs, M, c, z, n, T0, rfl, _⟩ := h
    rfl
  · obtain ⟨N, ls, p, qs, M, c, z, n, T0, rfl, W, hC, L, J, h8, hp1, hc, hpl, hn, hnT, hT0, hT1, q⟩ := h
    refine ⟨_, (pss_cons (ps_set (i := 3) sc_Timetable_source.nd rfl (Or.inl rfl) (pe_meth (pv 0) F.c M_time_of.m (G_time_of) (hr.mono (by decide)) M_time_of.b .nil pass0 (pa_cons (pv 1) (pa_cons (pv 2) pa_nil))))
      (pss_cons (ps_set (i := 4) sc_Timetable_source.nd rfl (Or.inl rfl) (pe_meth (pe_meth (pv 0) F.c M_arrival_at.m (G_arrival_at) (hr.mono (by decide)) M_arrival_at.b .nil pass0 (pa_cons (pv 3) pa_nil)) FA.c M_line.m (G_line) (hr.mono (by decide)) M_line.b .nil pass0 (pa_cons (pv 1) pa_nil)))
      (pss_one (ps_ret (pe_ix (ix_U (K := K)) (pv 4) (pe_op op_sub (pe_op op_sub (pv 2) (pe_meth (pv 0) F.c M_joined_by.m (G_joined_by) (hr.mono (by decide)) M_joined_by.b .nil pass0 (pa_cons (pv 1) (pa_cons (pv 3) pa_nil)))) pe_int) (fun _ _ => rfl)))))), ?_⟩
    walk_at "run"
    refine x_meth W.ins fs_time_of ?_
    refine ⟨N, ls, p, qs, M, c, .inr z, n, T0, rfl, W, hC, L, J.fw, by omega, hpl, hn, hnT, hT0, hT1, fun H1 t W1 e1 ht1 htT hlo hhi => ?_⟩
    walk_at "run"
    refine x_meth W1.ins fs_arrival_at ?_
    refine ⟨N, ls, p, qs, M, c + 200, t, rfl, W1, hC, L, J, h8, hp1, by omega, ht1, by omega, fun H2 a dx Qa Ea W2 e2 ha hQ hE => ?_⟩
    obtain ⟨hlen, hjs, hjo⟩ := line_port J L h8 hp1 ht1 z
    refine x_meth ha af_line ?_
    refine ⟨a, dx, Qa, Ea, _, _, z, rfl, ha, hQ, hE, hlen, fun H3 l e3 hl => ?_⟩
    walk_at "run"
    have W3 := W2.ex e3
    refine x_meth W3.ins fs_joined_by ?_
    refine ⟨N, ls, p, qs, M, c + 200 + 20, t, .inr z, rfl, W3, hC, L.len, by omega, hpl, fun H4 W4 e4 => ?_⟩
    walk_at "run"
    obtain ⟨xs, hxs, hxd⟩ := hl.ex
    have hlK : l ≠ M.Kd := by
      obtain ⟨ks, hk, _⟩ := W3.cache
      exact fun z => by rw [z, hk] at hxs; cases hxs
    obtain ⟨es, hes⟩ : ∃ es, es = evP (arrL N (labs N ls (t - 1)) (0, t)).2 (.inr z) := ⟨_, rfl⟩
    have hxl : xs.length = es.length := by rw [hxd.len, List.length_map, hes]
    rw [← hes] at hxd hjs hjo
    obtain ⟨m, hm, hm2⟩ : ∃ m : Nat, m < es.length ∧ ((es.length : Int) + (n - jq N ls t (.inr z) - 1)).toNat = m := ⟨((es.length : Int) + (n - jq N ls t (.inr z) - 1)).toNat, by omega, rfl⟩
    obtain ⟨x, hx⟩ : ∃ x, es[m]? = some x := ⟨es[m], by simp [hm]⟩
    have hln := hjo x (List.mem_of_getElem? hx)
    obtain ⟨k2, hk2, ex1, hx2, hx3⟩ := LabN.r J L ht1 hp1 hln
    have hsrc : SrcP N ls z n ((k2 : Int), x.2) := by
      refine ⟨t, ht1, hlo, hhi, ?_⟩
      rw [← hes, hm2, ← ex1]
      exact hx
    obtain ⟨v, hv, hvd⟩ := hxd.get (i := m) (d := pdL x) (by rw [List.getElem?_map, hx]; rfl)
    obtain ⟨b, ys, rfl, hB, hys⟩ := Dp.tup_inv hvd
    have hys2 : ys = [.int (k2 : Int), .int x.2] := by
      cases hys with
      | cons hy0 hys =>
      cases hys with
      | cons hy1 hys =>
      cases hys
      rw [hy0.int_inv, hy1.int_inv, ex1]
    rw [hys2] at hB
    have t34 := W3.tx e4
    have e14 : ExK M H H4 := e1.trans (e2.trans ((ExK.of e3).trans e4))
    refine x_ixL (SqL.of (e4 _ _ hlK hxs)) (atI_neg (by omega) (by omega) (by rw [hxl, hm2]; exact hv)) ?_
    have hT := jq_mono (ls := ls) J.fw L.pos htT (.inl (k2 : Int))
    exact q H4 b k2 x.2 (W4.le (by omega)) e14 (t34.t hB) hk2 hx2 (by omega) hsrc
end
end K
set_option Elab.async false
set_option linter.all false
set_option maxRecDepth 100000
set_option maxHeartbeats 1000000
set_option exponentiation.threshold 20000
namespace K
open PySem PySem.Spec PyProof.Rows L2 Evl FB
local macro_rules | `(tactic| walk_at "run") => `(tactic| try simp only [tSeq, tAsg, tVar, tC, gName, L2.start, List.map_cons, List.map_nil, List.cons_append, List.nil_append, List.length_cons, List.length_nil, List.replicate, List.getElem?_cons_zero, List.getElem?_cons_succ, Option.some.injEq, exists_eq_left', List.set_cons_zero, List.set_cons_succ, V.ref.injEq, tRet, x_tLst, x_tTup, tCons, tCB, tNil, tOp, x_addI, x_mulI, x_rI, x_rI0, x_ltI, x_leI, x_ltS, x_leS, x_eqI, x_neI, x_eqS, x_eqB, x_neB, x_isiI, x_isiS, x_int, x_max, x_min, cxOf, tIfS, tNext, tTest, V.bl.injEq, decide_eq_true_eq, gSub, tAnd, tOr, tNot, tB, tDrop, tBM, x_tFor, iRng1, iList, iTup, x_tLc, tYes, tCall, tIf, tAndV, tOrV, tNotV, tChain, List.append_nil, tUn, if_true, wipe, true_and, x_never, iU, x_itS, kV, Nat.reduceAdd, Nat.reduceSub, List.replicate_zero, x_rU, x_tMkO, iEnumT, x_tDc, x_tDGet, x_tDGet2, x_sDPut, x_tDSetd, x_tDNewK, x_iItems, x_iZip, x_tSAddK, x_tLockV, x_tTupRg, x_tRg2, tPar, tPar3, tBM0, tSl, tNoPart, tPart, x_tSetAdd, x_tDIn, x_iKeys, x_iZipX, x_iZip3, iRevR, tRg1, x_tFld, x_tMeth, x_sFld, x_tMake, tAug, x_ipI, x_tDNotIn, iRng2])
/-! Timetable.passenger of ports -/
section
variable {P : Program} {w : World} {K : PySem.W.Frag} {mg : Str → Option Value} {base : Heap}
/-- the place's number, much for a port -/
def slotP (σ : L2.St) (i : Nat) : Nat := match σ[i]? with
  | some (some (.int n)) => n.toNat
  | _ => 1000
def spPsgPt (K : PySem.W.Frag) (C : Addr) : Sp := fun vs H Q _ => ∃ (N : Net) (ls : List Int) (p : Int) (qs : Qs) (M : Tm) (c : Nat) (z : Str) (n T0 : Int), vs = [.ref M.a, .str z, .int n] ∧ TT K C N ls p qs M c H ∧ CntN N ∧ Lens N ls ∧ LenQ N ls qs ∧ JN N ∧ N.length ≤ 8 ∧ 1 ≤ N.length ∧ c < 860000 ∧ PlIn N (.inr z) ∧ 1 ≤ n ∧ n ≤ jq N ls T0 (.inr z) ∧ 0 ≤ T0 ∧ T0 ≤ 1000000000000000000 ∧
  ∀ H' y, TT K C N ls p qs M (c + 2300) H' → ExK M H H' → PsgP N ls p qs z n y → Q (.int y) H'
theorem ok_passengerP {C f f1 : Addr} {fd fd1 : FuncData} (D : Mf K C "passenger" "Timetable.passenger" s_Timetable_passenger ["self", "place", "number"] f fd) (T : Bt mg) (F : TF K C) (M_source : Mf K C "source" "Timetable.source" s_Timetable_source ["self", "place", "number"] f1 fd1) (G1 : FnOk P w K mg base CX0 21 f1 fd1 ["self", "place", "number"] (spSrc K C)) (G2 : FnOk P w K mg base CX0 21 f1 fd1 ["self", "place", "number"] (spSrcP K C)) :
    FnOk P w K mg base CX0 22 f fd ["self", "place", "number"] (spPsgPt K C) := by
  have G_source := fn_or9 G1 G2
  refine D.F.ok sc_Timetable_passenger (fun vs H Q E h => ?_) (fun cdv A outer s H vs Q E hr h => ?_)
  · obtain ⟨N, ls, p, qs, M, c, z, n, T0, rfl, _⟩ := h
    rfl
  · obtain ⟨N, ls, p, qs, M, c, z, n, T0, rfl, W, hC, L, LQ, J, h8, hp1, hc, hpl, hn, hnT, hT0, hT1, q⟩ := h
    have hu := hr.units
    refine ⟨_, (pss_cons (ps_while PassesOwn.never (PW.pt (pw_and (pt_cmpR (op_neU (K := K) hu) (pv 1) pe_int (nomark _)) (pw_and1 (pt_cmpR (op_gtU) (pv 2) pe_int (nomark _))))) (pss_one (ps_asg (pe_meth (pv 0) F.c M_source.m (G_source) (hr.mono (by decide)) M_source.b .nil pass0 (pa_cons (pv 1) (pa_cons (pv 2) pa_nil))) (pg_tup rfl (pgs_cons (pg_name (i := 1) sc_Timetable_passenger.nd rfl (Or.inl rfl)) (pgs_cons (pg_name (i := 2) sc_Timetable_passenger.nd rfl (Or.inl rfl)) pgs_nil))))))
      (pss_cons (ps_if (pt_cmpR (op_gtU) (pv 2) pe_int (nomark _)) (pss_one (ps_ret (pe_op op_sub (pe_op (op_addU (K := K)) (pe_fld (pv 0) rfl) (pv 2)) pe_int))) pss_nil)
      (pss_one (ps_ret (pe_ix (ix_U (K := K)) (pe_ix (ix_U (K := K)) (pe_fld (pv 0) rfl) (pv 1) (fun _ _ => rfl)) (pe_op op_sub (pv 2) pe_int) (fun _ _ => rfl)))))), ?_⟩
    walk_at "run"
    refine while_raw (fun σ H' => (σ = [some (.ref M.a), some (.str z), some (.int n)] ∧ TT K C N ls p qs M c H' ∧ ExK M H H') ∨ ∃ (k2 : Nat) (n2 : Int), σ = [some (.ref M.a), some (.int (k2 : Int)), some (.int n2)] ∧ TT K C N ls p qs M (c + 230 * (1 + (N.length - k2))) H' ∧ ExK M H H' ∧ k2 < N.length ∧ 1 - ls.getD k2 0 ≤ n2 ∧ n2 ≤ jq N ls T0 (.inl (k2 : Int)) ∧ ∀ y, PsgR N ls p qs k2 n2 y → PsgP N ls p qs z n y) (fun σ _ => slotP σ 1) (.inl ⟨rfl, W, ExK.of (Ex.refl H)⟩) ?_
    rintro σ H1 hI R hT hF
    rcases hI with ⟨rfl, W1, e1⟩ | ⟨k2, n2, rfl, W1, e1, hk2, hn2, hj2, hps⟩
    · walk_at "run"
      refine .inl ⟨rfl, _, rfl, ?_⟩
      rw [if_pos (by simp), decide_eq_true (show 0 < n by omega)]
      refine hT H1 ?_
      walk_at "run"
      refine x_meth W1.ins fs_source (.inr ?_)
      refine ⟨N, ls, p, qs, M, c, z, n, T0, rfl, W1, hC, L, J, h8, hp1, by omega, hpl, hn, hnT, hT0, hT1, fun H2 l k3 n3 W2 e2 hl hlt hn3 hj3 hsrc => ?_⟩
      refine x_two hl ?_
      walk_at "run"
      refine ⟨.inr ⟨k3, n3, rfl, W2.le (by omega), e1.trans e2, hlt, hn3, hj3, fun y hy => ⟨k3, n3, hsrc, hy⟩⟩, ?_⟩
      show ((k3 : Int)).toNat < 1000
      omega
    · walk_at "run"
      by_cases hz : k2 ≠ 0 ∧ 0 < n2
      · obtain ⟨hz1, hz2⟩ := hz
        rw [if_pos (by simp; omega), decide_eq_true hz2]
        refine hT H1 ?_
        walk_at "run"
        refine x_meth W1.ins fs_source (.inl ?_)
        refine ⟨N, ls, p, qs, M, c + 230 * (1 + (N.length - k2)), k2, n2, T0, rfl, W1, hC, L, J, h8, by omega, by omega, by omega, by omega, hj2, hT0, hT1, fun H2 l k3 n3 W2 e2 hl hlt hn3 hj3 hsrc => ?_⟩
        refine x_two hl ?_
        walk_at "run"
        refine ⟨.inr ⟨k3, n3, rfl, W2.le (by omega), e1.trans e2, by omega, hn3, hj3, fun y hy => hps y (.step (by omega) (by omega) hsrc hy)⟩, ?_⟩
        show ((k3 : Int)).toNat < ((k2 : Int)).toNat
        omega
      · suffices h : R false H1 by
          by_cases h0 : k2 = 0
          · rw [if_neg (by simp; omega)]; exact h
          · rw [if_pos (by simp; omega), decide_eq_false fun h2 => hz ⟨h0, h2⟩]; exact h
        refine hF H1 ?_
        walk_at "run"
        by_cases hp : 0 < n2
        · rw [if_pos hp]
          refine x_fld W1.ins F.c F.next_passenger fs_next_passenger ?_
          walk_at "run"
          exact q H1 _ (W1.le (by omega)) e1 (hps _ (.new (Classical.not_not.mp fun h => hz ⟨h, hp⟩) hp rfl))
        · rw [if_neg hp]
          refine x_fld W1.ins F.c F.waiting fs_waiting ?_
          obtain ⟨ub, ts, hu2, hT2, hts⟩ := qs_at W1.wai
          rw [hu2]
          have hkq : k2 < qs.length := by rw [LQ.len]; omega
          obtain ⟨zv, hzv, hzd⟩ := hts.get (i := k2) (d := qD (qs.getD k2 [])) (by rw [List.getElem?_map]; simp [List.getD_eq_getElem?_getD, hkq])
          obtain ⟨qb, rfl, hQB⟩ := q_at hzd
          refine x_ixT hT2 (atI_nat hzv) ?_
          walk_at "run"
          have hle := LQ.eq k2 (by omega)
          obtain ⟨m, hm, hm2⟩ : ∃ m : Nat, m < (qs.getD k2 []).length ∧ (((qs.getD k2 []).length : Int) + (n2 - 1)).toNat = m := ⟨(((qs.getD k2 []).length : Int) + (n2 - 1)).toNat, by omega, rfl⟩
          obtain ⟨x, hx⟩ : ∃ x, (qs.getD k2 [])[m]? = some x := ⟨(qs.getD k2 [])[m], List.getElem?_eq_getElem hm⟩
          refine x_ixT hQB (v := .int x) (atI_neg (by omega) (by rw [List.length_map]; omega) (by rw [List.length_map, hm2, List.getElem?_map, hx]; rfl)) ?_
          exact q H1 _ (W1.le (by omega)) e1 (hps _ (.old (by omega) (by rw [hm2]; exact hx)))
end
end K
set_option Elab.async false
set_option linter.all false
set_option maxRecDepth 100000
set_option maxHeartbeats 1000000
set_option exponentiation.threshold 20000
namespace K
open PySem PySem.Spec PyProof.Rows L2 Evl FB
local macro_rules | `(tactic| walk_at "run") => `(tactic| try simp only [tSeq, tAsg, tVar, tC, gName, L2.start, List.map_cons, List.map_nil, List.cons_append, List.nil_append, List.length_cons, List.length_nil, List.replicate, List.getElem?_cons_zero, List.getElem?_cons_succ, Option.some.injEq, exists_eq_left', List.set_cons_zero, List.set_cons_succ, V.ref.injEq, tRet, x_tLst, x_tTup, tCons, tCB, tNil, tOp, x_addI, x_mulI, x_rI, x_rI0, x_ltI, x_leI, x_ltS, x_leS, x_eqI, x_neI, x_eqS, x_eqB, x_neB, x_isiI, x_isiS, x_int, x_max, x_min, cxOf, tIfS, tNext, tTest, V.bl.injEq, decide_eq_true_eq, gSub, tAnd, tOr, tNot, tB, tDrop, tBM, x_tFor, iRng1, iList, iTup, x_tLc, tYes, tCall, tIf, tAndV, tOrV, tNotV, tChain, List.append_nil, tUn, if_true, wipe, true_and, x_never, iU, x_itS, kV, Nat.reduceAdd, Nat.reduceSub, List.replicate_zero, x_rU, x_tMkO, iEnumT, x_tDc, x_tDGet, x_tDGet2, x_sDPut, x_tDSetd, x_tDNewK, x_iItems, x_iZip, x_tSAddK, x_tLockV, x_tTupRg, x_tRg2, tPar, tPar3, tBM0, tSl, tNoPart, tPart, x_tSetAdd, x_tDIn, x_iKeys, x_iZipX, x_iZip3, iRevR, tRg1, x_tFld, x_tMeth, x_sFld, x_tMake, tAug, x_ipI, x_tDNotIn, iRng2])
/-! who finishes: by labels and by the simulation -/
section
variable {N : Net} {ls : List Int}
theorem evP_map {α β : Type} {f : α → β} : ∀ {es : EvsA α} {q : Key}, evP (mapE f es) q = (evP es q).map f
  | [], q => rfl
  | e :: r, q => by
    show (if e.1 = q then e.2.map f else []) ++ evP (mapE f r) q = ((if e.1 = q then e.2 else []) ++ evP r q).map f
    rw [evP_map, List.map_append]
    split <;> rfl
/-- what happens at an arrival of the simulation: that of the labels, with passengers -/
theorem arr_labs (J : JN N) (L : Lens N ls) (h8 : N.length ≤ 8) (hp1 : 1 ≤ N.length) {p : Int} {qs : Qs} (LQ : LenQ N ls qs) (t : Nat) : arrI N (runI N qs p t) (p + (t : Int)) = (mapQ (psi N ls p qs) (arrL N (labs N ls (t : Int)) (0, (t : Int) + 1)).1, mapE (psi N ls p qs) (arrL N (labs N ls (t : Int)) (0, (t : Int) + 1)).2) := by
  have newP : PsgR N ls p qs 0 ((t : Int) + 1) (p + (t : Int)) := .new rfl (by omega) (by omega)
  have hp0 : psi N ls p qs (0, (t : Int) + 1) = p + (t : Int) := psi_eq J L newP
  show joinW N (departW N 8) (runI N qs p t) 0 (p + (t : Int)) = _
  rw [(run_labs J L h8 hp1 LQ t).2, ← hp0, joinW_map (departW_map 8)]
/-- the n-th who finishes at a port, at its time: the one of the simulation -/
theorem fin_at (J : JN N) (L : Lens N ls) (h8 : N.length ≤ 8) (hp1 : 1 ≤ N.length) {p : Int} {qs : Qs} (LQ : LenQ N ls qs) {z : Str} {n y : Int} (h : PsgP N ls p qs z n y) {t : Nat} (h1 : jq N ls (t : Int) (.inr z) < n) (h2 : n ≤ jq N ls ((t : Int) + 1) (.inr z)) :
    (((evP (arrI N (runI N qs p t) (p + (t : Int))).2 (.inr z)).length : Int) = jq N ls ((t : Int) + 1) (.inr z) - jq N ls (t : Int) (.inr z)) ∧ (evP (arrI N (runI N qs p t) (p + (t : Int))).2 (.inr z))[(n - jq N ls (t : Int) (.inr z) - 1).toNat]? = some y := by
  obtain ⟨k2, n2, ⟨u, hu1, hu2, hu3, hu4⟩, hy⟩ := h
  have hu : u = (t : Int) + 1 := by
    by_cases h : u < (t : Int) + 1
    · have := jq_mono (ls := ls) J.fw L.pos (show u ≤ (t : Int) by omega) (.inr z)
      omega
    · by_cases h' : (t : Int) + 1 < u
      · have := jq_mono (ls := ls) J.fw L.pos (show (t : Int) + 1 ≤ u - 1 by omega) (.inr z)
        omega
      · omega
  subst hu
  have lp := line_port J L h8 hp1 hu1 z
  rw [Int.add_sub_cancel] at lp hu2 hu4
  obtain ⟨_, hlen, _⟩ := lp
  rw [arr_labs J L h8 hp1 LQ t]
  dsimp only
  rw [evP_map, List.length_map, List.getElem?_map]
  refine ⟨hlen, ?_⟩
  rw [show (n - jq N ls (t : Int) (.inr z) - 1).toNat = (((evP (arrL N (labs N ls (t : Int)) (0, (t : Int) + 1)).2 (.inr z)).length : Int) + (n - jq N ls ((t : Int) + 1) (.inr z) - 1)).toNat by omega, hu4]
  exact congrArg some (psi_eq J L hy)
end
end K
set_option Elab.async false
set_option linter.all false
set_option maxRecDepth 100000
set_option maxHeartbeats 4000000
namespace K
open PySem PySem.Spec PyProof.Rows L2 Evl FB
local macro_rules | `(tactic| walk_at "run") => `(tactic| try simp only [tSeq, tAsg, tVar, tC, gName, L2.start, List.map_cons, List.map_nil, List.cons_append, List.nil_append, List.length_cons, List.length_nil, List.replicate, List.getElem?_cons_zero, List.getElem?_cons_succ, Option.some.injEq, exists_eq_left', List.set_cons_zero, List.set_cons_succ, V.ref.injEq, tRet, x_tLst, x_tTup, tCons, tCB, tNil, tOp, x_addI, x_mulI, x_rI, x_rI0, x_ltI, x_leI, x_ltS, x_leS, x_eqI, x_neI, x_eqS, x_eqB, x_neB, x_isiI, x_isiS, x_int, x_max, x_min, cxOf, tIfS, tNext, tTest, V.bl.injEq, decide_eq_true_eq, gSub, tAnd, tOr, tNot, tB, tDrop, tBM, x_tFor, iRng1, iList, iTup, x_tLc, tYes, tCall, tIf, tAndV, tOrV, tNotV, tChain, List.append_nil, tUn, if_true, wipe, true_and, x_never, iU, x_itS, kV, Nat.reduceAdd, Nat.reduceSub, List.replicate_zero, x_rU, x_tMkO, iEnumT, x_tDc, x_tDGet, x_tDGet2, x_sDPut, x_tDSetd, x_tDNewK, x_iItems, x_iZip, x_tSAddK, x_tLockV, x_tTupRg, x_tRg2, tPar, tPar3, tBM0])
/-- an own error class without fields -/
structure Rz (K : PySem.W.Frag) (mg : Str → Option Value) (x : Str) (C : Addr) : Prop where
  xP : PySem.W.excIn K C [.type "ValueError", .type "Exception", .type "BaseException", .type "object"] "ValueError.__new__" = true
  g : mg x = some (.ref C)
  kP : PySem.W.keepIn K (.ref C) = true
  bP : PySem.W.subIn K (.ref C) (.type "BaseException") = some true
  tP : PySem.W.typeIn K (.ref C) = some (.type "type")
section
variable {P : Program} {w : World} {K : PySem.W.Frag} {mg : Str → Option Value} {base : Heap} {α : Type} [Inhabited α] {pd : α → PyData}
end
end K
set_option Elab.async false
set_option linter.all false
set_option maxRecDepth 100000
set_option maxHeartbeats 1000000
set_option exponentiation.threshold 20000
namespace K
open PySem PySem.Spec PyProof.Rows L2 Evl FB
local macro_rules | `(tactic| walk_at "run") => `(tactic| try simp only [tSeq, tAsg, tVar, tC, gName, L2.start, List.map_cons, List.map_nil, List.cons_append, List.nil_append, List.length_cons, List.length_nil, List.replicate, List.getElem?_cons_zero, List.getElem?_cons_succ, Option.some.injEq, exists_eq_left', List.set_cons_zero, List.set_cons_succ, V.ref.injEq, tRet, x_tLst, x_tTup, tCons, tCB, tNil, tOp, x_addI, x_mulI, x_rI, x_rI0, x_ltI, x_leI, x_ltS, x_leS, x_eqI, x_neI, x_eqS, x_eqB, x_neB, x_isiI, x_isiS, x_int, x_max, x_min, cxOf, tIfS, tNext, tTest, V.bl.injEq, decide_eq_true_eq, gSub, tAnd, tOr, tNot, tB, tDrop, tBM, x_tFor, iRng1, iList, iTup, x_tLc, tYes, tCall, tIf, tAndV, tOrV, tNotV, tChain, List.append_nil, tUn, if_true, wipe, true_and, x_never, iU, x_itS, kV, Nat.reduceAdd, Nat.reduceSub, List.replicate_zero, x_rU, x_tMkO, iEnumT, x_tDc, x_tDGet, x_tDGet2, x_sDPut, x_tDSetd, x_tDNewK, x_iItems, x_iZip, x_tSAddK, x_tLockV, x_tTupRg, x_tRg2, tPar, tPar3, tBM0, tSl, tNoPart, tPart, x_tSetAdd, x_tDIn, x_iKeys, x_iZipX, x_iZip3, iRevR, tRg1, x_tFld, x_tMeth, x_sFld, x_tMake, tAug, x_ipI, x_tDNotIn, iRng2])
/-! arrive: a state of a valid network of at most eight stations -/
section
variable {P : Program} {w : World} {K : PySem.W.Frag} {mg : Str → Option Value} {base : Heap}
theorem pdI19 : PD PyData.int := ⟨fun a => .int a⟩
end
end K
set_option Elab.async false
set_option linter.all false
set_option maxRecDepth 100000
set_option maxHeartbeats 4000000
namespace K
open PySem PySem.Spec PyProof.Rows L2 Evl FB
local macro_rules | `(tactic| walk_at "run") => `(tactic| try simp only [tSeq, tAsg, tVar, tC, gName, L2.start, List.map_cons, List.map_nil, List.cons_append, List.nil_append, List.length_cons, List.length_nil, List.replicate, List.getElem?_cons_zero, List.getElem?_cons_succ, Option.some.injEq, exists_eq_left', List.set_cons_zero, List.set_cons_succ, V.ref.injEq, tRet, x_tLst, x_tTup, tCons, tCB, tNil, tOp, x_addI, x_mulI, x_rI, x_rI0, x_ltI, x_leI, x_ltS, x_leS, x_eqI, x_neI, x_eqS, x_eqB, x_neB, x_isiI, x_isiS, x_int, x_max, x_min, cxOf, tIfS, tNext, tTest, V.bl.injEq, decide_eq_true_eq, gSub, tAnd, tOr, tNot, tB, tDrop, tBM, x_tFor, iRng1, iList, iTup, x_tLc, tYes, tCall, tIf, tAndV, tOrV, tNotV, tChain, List.append_nil, tUn, if_true, wipe, true_and, x_never, iU, x_itS, kV, Nat.reduceAdd, Nat.reduceSub, List.replicate_zero, x_rU, x_tMkO, iEnumT])
/-- an own error class with an __init__ of its own, at C; its __init__ at fI -/
structure Er (K : PySem.W.Frag) (mg : Str → Option Value) (x : Str) (C fI : Addr) : Prop where
  O : OexC K C
  g : mg x = some (.ref C)
  iC : PySem.W.findIn K (.ref C) "__init__" = some (some (.ref fI))
  tI : PySem.W.typeIn K (.ref fI) = some (.type "function")
/-- the first seat from the j-th on that leads nowhere -/
def seatBad (k n : Int) : Nat → List Key → Option Nat
  | _, [] => none
  | j, p :: r => if placeB k n p = true then seatBad k n (j + 1) r else some j
/-- what is wrong at the station k -/
def stBad (n : Int) (k : Nat) (s : List Key) : Option Int :=
  if k = 40 ∨ ¬ (1 ≤ s.length ∧ s.length ≤ 8) then some (-1) else (seatBad k n 0 s).map (fun (j : Nat) => (j : Int))
/-- the first fault from the k-th station on -/
def netBad (n : Int) : Nat → Net → Option (Int × Int)
  | _, [] => none
  | k, s :: r => match stBad n k s with
    | some j => some (k, j)
    | none => netBad n (k + 1) r
def firstBad (N : Net) : Option (Int × Int) := if N.length = 0 then some (0, -1) else netBad N.length 0 N
/-- nothing in it is very long -/
def SmN (N : Net) : Prop := N.length ≤ 1000 ∧ ∀ s ∈ N, s.length ≤ 1000 ∧ ∀ p ∈ s, ∀ z, p = Sum.inr z → z.length ≤ 1000
abbrev s_init : Stmt := inClass (top 2) 0
theorem sc_init : FnScope ["self", "station", "seat"] ["self", "station", "seat"] (defScope s_init) := ⟨rfl, rfl, rfl, by decide +kernel, rfl, by decide +kernel, by decide +kernel⟩
section
variable {P : Program} {w : World} {K : PySem.W.Frag} {mg : Str → Option Value} {base : Heap}
def spInit (C : Addr) : Sp := fun vs H Q _ => ∃ (a : Addr) (s t : V), vs = [.ref a, s, t] ∧ H a = some (exo a C none) ∧ ∀ (d : Addr) (H' : Hp), H d = none → H' a = some (exo a C (some d)) → H' d = some (exd d [("seat", t), ("station", s)]) → (∀ x o, x ≠ a → H x = some o → H' x = some o) → Q .non H'
theorem ok_init {f C fI : Addr} {fd : FuncData} (F : Fun K "__init__" "InvalidNetwork.__init__" s_init f fd) (N_E : Er K mg "InvalidNetwork" C fI) (n1 : PySem.W.findIn K (.ref C) "station" = some none) (n2 : PySem.W.findIn K (.ref C) "seat" = some none) :
    FnOk P w K mg base CX0 1 f fd ["self", "station", "seat"] (spInit C) := by
  refine F.ok sc_init (fun vs H Q E h => ?_) (fun cdv A outer s H vs Q E hr h => ?_)
  · obtain ⟨a, s, t, rfl, _⟩ := h
    rfl
  · obtain ⟨a, s, t, rfl, hA, k⟩ := h
    refine ⟨_, pss_cons (ps_ost (pv 0) (pv 1)) (pss_one (ps_ost (pv 0) (pv 2))), ?_⟩
    walk_at "run"
    refine ⟨_, rfl, _, rfl, a, C, rfl, N_E.O, n1, .inl ⟨hA, fun d hd hda => ?_⟩⟩
    refine ⟨_, rfl, _, rfl, a, C, rfl, N_E.O, n2, .inr ⟨d, _, upd_same, by rw [upd_ne hda, upd_same], by simp, ?_⟩⟩
    refine k d _ hd (by rw [upd_ne hda.symm, upd_same]) upd_same fun x o hx e => ?_
    rw [upd_ne (ne_of_none e hd), upd_ne hx, upd_ne (ne_of_none e hd)]
    exact e
theorem x_init {C : Addr} {s t : V} {H : Hp} {Q : XK} (k : ∀ d H', Ex H H' → H d = none → H' d = some (.xd [("seat", t), ("station", s)]) → Q (.ref C) (some d) H') : rMk C (spInit C) [] [s, t] H Q := by
  refine ⟨by simp, fun a ha => ⟨a, s, t, rfl, upd_same, fun d H' hd h1 h2 h3 => ⟨rfl, d, _, h1, h2, ?_, ?_⟩⟩⟩
  · by_cases z : d = a
    · rw [z]; exact ha
    · rw [upd_ne z] at hd; exact hd
  · have hdn : H d = none := by
      by_cases z : d = a
      · rw [z]; exact ha
      · rw [upd_ne z] at hd; exact hd
    refine k d _ (fun x o hx => ?_) hdn upd_same
    rw [upd_ne (ne_of_none hx hdn), del_ne (ne_of_none hx ha)]
    exact h3 _ _ (ne_of_none hx ha) (by rw [upd_ne (ne_of_none hx ha)]; exact hx)
/-- N stands at v: nothing happens, or the error of its first fault -/
def spCheck (K : PySem.W.Frag) (C : Addr) : Sp := fun vs H Q E => ∃ (v : V) (N : Net), vs = [v] ∧ NetAt K H v N ∧ SmN N ∧ (firstBad N = none → ∀ H', Ex H H' → Q .non H') ∧
  ∀ k j, firstBad N = some (k, j) → ∀ d H', Ex H H' → H d = none → H' d = some (.xd [("seat", .int j), ("station", .int k)]) → E (.ref C) (some d) H'
theorem ok_check_network {f f1 f2 C fI : Addr} {fd fd1 fd2 fdI : FuncData} (D : Df K mg "check_network" s_check_network ["network"] f fd) (T : Bt mg) (Ck : Ct K mg) (D_is_word : Df K mg "is_word" s_is_word ["text"] f1 fd1)
    (D_is_place : Df K mg "is_place" s_is_place ["place", "station", "stations"] f2 fd2) (N_E : Er K mg "InvalidNetwork" C fI) (D_init_F : Fun K "__init__" "InvalidNetwork.__init__" s_init fI fdI) (D_init_b : Binds K fdI ["self", "station", "seat"] [])
    (n1 : PySem.W.findIn K (.ref C) "station" = some none) (n2 : PySem.W.findIn K (.ref C) "seat" = some none) :
    FnOk P w K mg base (L2.CX P w) 4 f fd ["network"] (spCheck K C) := by
  have G_is_place : FnOk P w K mg base CX0 3 f2 fd2 _ _ := ok_is_place D_is_place T Ck D_is_word
  have G_init : FnOk P w K mg base CX0 1 fI fdI _ _ := ok_init D_init_F N_E n1 n2
  refine D.F.okX sc_check_network (fun vs H Q E h => ?_) (fun cdv A outer s H vs Q E hr h => ?_)
  · obtain ⟨v, N, rfl, _⟩ := h
    rfl
  · obtain ⟨v, N, rfl, hN, hS, k1, k2⟩ := h
    have hu := hr.units
    obtain ⟨tML, g_MAX_STATIONS⟩ := Ck.g_MAX_STATIONS
    obtain ⟨tMS, g_MAX_SEATS⟩ := Ck.g_MAX_SEATS
    refine ⟨_, (pss_cons (ps_if (pt_cmpR (op_eqU (K := K) hu) (pe_callB (call_lenU (K := K)) (by rfl) T.b_len (by decide +kernel) (pa_cons (pv 0) pa_nil)) pe_int (nomark _)) (pss_one (ps_raise rfl (takes_of rfl rfl rfl rfl) (pmk_oex (N_E.O) N_E.iC N_E.tI G_init (hr.mono (by decide)) D_init_b .nil pass0 rfl N_E.g (pa_cons pe_int (pa_cons (pe_un un_neg pe_int) pa_nil))))) pss_nil)
      (pss_one (ps_for (passes_of rfl) rfl (pi_enumT (by rfl) T.b_enumerate (pa_cons (pv 0) pa_nil)) (pg_tup rfl (pgs_cons (pg_name (i := 1) sc_check_network.nd rfl (Or.inl rfl)) (pgs_cons (pg_name (i := 2) sc_check_network.nd rfl (Or.inl rfl)) pgs_nil))) (pss_cons (ps_if (PW.pt (pw_or (pt_cmpR (op_eqU (K := K) hu) (pv 1) (pe_glob (v := .int 40) rfl g_MAX_STATIONS ⟨_, rfl⟩) (nomark _)) (pw_or1 (pt_not (pt_chain (op_leU) (op_leU) pe_int (pe_callB (call_lenU (K := K)) (by rfl) T.b_len (by decide +kernel) (pa_cons (pv 2) pa_nil)) (pe_glob (v := .int 8) rfl g_MAX_SEATS ⟨_, rfl⟩)))))) (pss_one (ps_raise rfl (takes_of rfl rfl rfl rfl) (pmk_oex (N_E.O) N_E.iC N_E.tI G_init (hr.mono (by decide)) D_init_b .nil pass0 rfl N_E.g (pa_cons (pv 1) (pa_cons (pe_un un_neg pe_int) pa_nil))))) pss_nil)
      (pss_one (ps_for (passes_of rfl) rfl (pi_enumT (by rfl) T.b_enumerate (pa_cons (pv 2) pa_nil)) (pg_tup rfl (pgs_cons (pg_name (i := 3) sc_check_network.nd rfl (Or.inl rfl)) (pgs_cons (pg_name (i := 4) sc_check_network.nd rfl (Or.inl rfl)) pgs_nil))) (pss_one (ps_if (pt_not (pt_val (pe_call (G_is_place) (hr.mono (by decide)) rfl D_is_place.g D_is_place.F.kp D_is_place.b .nil pass0 (pa_cons (pv 4) (pa_cons (pv 1) (pa_cons (pe_callB (call_lenU (K := K)) (by rfl) T.b_len (by decide +kernel) (pa_cons (pv 0) pa_nil)) pa_nil)))))) (pss_one (ps_raise rfl (takes_of rfl rfl rfl rfl) (pmk_oex (N_E.O) N_E.iC N_E.tI G_init (hr.mono (by decide)) D_init_b .nil pass0 rfl N_E.g (pa_cons (pv 1) (pa_cons (pv 3) pa_nil))))) pss_nil)))))))), ?_⟩
    walk_at "run"
    obtain ⟨a, ts, rfl, hT, hts⟩ := hN.at
    have hl : ts.length = N.length := by rw [hts.len, List.length_map]
    refine x_lenT hT ?_
    rw [hl]
    walk_at "run"
    by_cases h0 : N.length = 0
    · rw [if_pos (by omega)]
      exact x_init fun d H' e hd h => k2 0 (-1) (if_pos h0) d H' e hd h
    rw [if_neg (by omega)]
    have hR : firstBad N = netBad N.length 0 N := if_neg h0
    refine ⟨_, _, rfl, hT, loop_it walk_enumT (fun i σ H' => ∃ u1 u2 u3 u4, σ = [some (.ref a), u1, u2, u3, u4] ∧ Ex H H' ∧ netBad N.length i (N.drop i) = netBad N.length 0 N) ⟨_, _, _, _, rfl, Ex.refl H, rfl⟩
      (fun i σ H' _ ⟨_, _, _, _, _, e, _⟩ => ex_t e hT) ?_ ?_⟩
    · rintro i v σ H1 H2 hi ⟨u1, u2, u3, u4, rfl, e1, hb⟩ ⟨T0, x, y, rfl, hT0, rfl, hx, hy⟩
      obtain rfl : V.int (i : Nat) = x := Option.some.inj hx
      have e2 : Ex H (upd H1 T0 (.tup [.int (i : Nat), y])) := e1.trans (Ex.new hT0)
      refine x_two (SqT.of upd_same) ?_
      generalize upd H1 T0 (.tup [.int (i : Nat), y]) = H2 at e2
      obtain ⟨sD, hs, hy2⟩ := hts.get' hy
      obtain ⟨s, hsN, rfl⟩ : ∃ s, N[i]? = some s ∧ stD s = sD := by simpa using hs
      obtain ⟨b, rfl, hB⟩ := StAt.at hy2
      have hm : s ∈ N := List.mem_of_getElem? hsN
      obtain ⟨s1, s2⟩ := hS.2 s hm
      have hd : N.drop i = s :: N.drop (i + 1) := by
        obtain ⟨q, e⟩ := List.getElem?_eq_some_iff.mp hsN
        rw [List.drop_eq_getElem_cons q, e]
      rw [hd] at hb
      have hb1 : (match stBad N.length i s with
        | some j => some ((i : Int), j)
        | none => netBad N.length (i + 1) (N.drop (i + 1))) = netBad N.length 0 N := hb
      have bad : ∀ j : Int, stBad N.length i s = some j → firstBad N = some ((i : Int), j) := fun j h => by
        rw [hR, ← hb1, h]
      have fine : stBad N.length i s = none → netBad N.length (i + 1) (N.drop (i + 1)) = netBad N.length 0 N := fun h => by
        rw [← hb1, h]
      walk_at "run"
      by_cases h40 : i = 40
      · rw [if_pos (by omega)]
        exact x_init fun d H' e hd h => k2 i (-1) (bad _ (if_pos (.inl h40))) d H' (e2.trans e) (fresh_back e2 hd) h
      rw [if_neg (by omega)]
      refine x_lenT (ex_t e2 hB) ?_
      rw [List.length_map]
      walk_at "run"
      have wrong : ¬ (1 ≤ s.length ∧ s.length ≤ 8) → rMk C (spInit C) [] [V.int (i : Nat), V.int (-1)] H2 fun cls d H' => E cls d H' := fun z =>
        x_init fun d H' e hd h => k2 i (-1) (bad _ (if_pos (.inr z))) d H' (e2.trans e) (fresh_back e2 hd) h
      by_cases g1 : 1 ≤ s.length
      · rw [if_pos (by omega)]
        by_cases g8 : s.length ≤ 8
        · rw [if_neg (by simp; omega)]
          have sb : stBad N.length i s = (seatBad i N.length 0 s).map (fun (j : Nat) => (j : Int)) := if_neg (fun z => z.elim h40 (fun h => h ⟨g1, g8⟩))
          refine ⟨_, _, rfl, ex_t e2 hB, loop_it walk_enumT (fun j σ H' => ∃ u3 u4, σ = [some (.ref a), some (.int i), some (.ref b), u3, u4] ∧ Ex H H' ∧ seatBad i N.length j (s.drop j) = seatBad i N.length 0 s) ⟨_, _, rfl, e2, rfl⟩
            (fun j σ H' _ ⟨_, _, _, e, _⟩ => ex_t e hB) ?_ ?_⟩
          · rintro j v σ H3 H4 hj ⟨u3, u4, rfl, e3, hb3⟩ ⟨T1, x, y, rfl, hT1, rfl, hx, hy⟩
            obtain rfl : V.int (j : Nat) = x := Option.some.inj hx
            have e4 : Ex H (upd H3 T1 (.tup [.int (j : Nat), y])) := e3.trans (Ex.new hT1)
            refine x_two (SqT.of upd_same) ?_
            generalize upd H3 T1 (.tup [.int (j : Nat), y]) = H4 at e4
            obtain ⟨p, hp, rfl⟩ : ∃ p, s[j]? = some p ∧ kV p = y := by simpa using hy
            have hd2 : s.drop j = p :: s.drop (j + 1) := by
              obtain ⟨q, e⟩ := List.getElem?_eq_some_iff.mp hp
              rw [List.drop_eq_getElem_cons q, e]
            rw [hd2] at hb3
            have hb4 : (if placeB i N.length p = true then seatBad i N.length (j + 1) (s.drop (j + 1)) else some j) = seatBad i N.length 0 s := hb3
            walk_at "run"
            refine x_lenT (ex_t e4 hT) ?_
            rw [hl]
            refine ⟨p, i, N.length, rfl, fun z hz => s2 p (List.mem_of_getElem? hp) z hz, fun H5 e5 => ⟨_, rfl, ?_⟩⟩
            have e6 := e4.trans e5
            by_cases hg : placeB i N.length p = true
            · rw [if_neg (by rw [hg]; decide)]
              rw [if_pos hg] at hb4
              exact ⟨_, _, rfl, e6, hb4⟩
            · rw [if_pos (by simpa using hg)]
              rw [if_neg hg] at hb4
              exact x_init fun d H' e hd h => k2 i j (bad _ (by rw [sb, ← hb4]; rfl)) d H' (e6.trans e) (fresh_back e6 hd) h
          · rintro σ H3 ⟨u3, u4, rfl, e3, hb3⟩
            refine ⟨_, _, _, _, rfl, e3, fine ?_⟩
            rw [sb, ← hb3, List.length_map, List.drop_length]
            rfl
        · rw [if_pos (by simp; omega)]
          exact wrong (fun z => g8 z.2)
      · rw [if_neg (by omega)]
        rw [if_pos (by decide)]
        exact wrong (fun z => g1 z.1)
    · rintro σ H1 ⟨u1, u2, u3, u4, rfl, e1, hb⟩
      refine k1 ?_ H1 e1
      rw [hR, ← hb, hl, List.drop_length]
      rfl
end
end K
set_option Elab.async false
set_option linter.all false
set_option maxRecDepth 100000
set_option maxHeartbeats 1000000
set_option exponentiation.threshold 20000
namespace K
open PySem PySem.Spec PyProof.Rows L2 Evl FB
local macro_rules | `(tactic| walk_at "run") => `(tactic| try simp only [tSeq, tAsg, tVar, tC, gName, L2.start, List.map_cons, List.map_nil, List.cons_append, List.nil_append, List.length_cons, List.length_nil, List.replicate, List.getElem?_cons_zero, List.getElem?_cons_succ, Option.some.injEq, exists_eq_left', List.set_cons_zero, List.set_cons_succ, V.ref.injEq, tRet, x_tLst, x_tTup, tCons, tCB, tNil, tOp, x_addI, x_mulI, x_rI, x_rI0, x_ltI, x_leI, x_ltS, x_leS, x_eqI, x_neI, x_eqS, x_eqB, x_neB, x_isiI, x_isiS, x_int, x_max, x_min, cxOf, tIfS, tNext, tTest, V.bl.injEq, decide_eq_true_eq, gSub, tAnd, tOr, tNot, tB, tDrop, tBM, x_tFor, iRng1, iList, iTup, x_tLc, tYes, tCall, tIf, tAndV, tOrV, tNotV, tChain, List.append_nil, tUn, if_true, wipe, true_and, x_never, iU, x_itS, kV, Nat.reduceAdd, Nat.reduceSub, List.replicate_zero, x_rU, x_tMkO, iEnumT, x_tDc, x_tDGet, x_tDGet2, x_sDPut, x_tDSetd, x_tDNewK, x_iItems, x_iZip, x_tSAddK, x_tLockV, x_tTupRg, x_tRg2, tPar, tPar3, tBM0, tSl, tNoPart, tPart, x_tSetAdd, x_tDIn, x_iKeys, x_iZipX, tWhile, x_iZip3, iRevR, tRg1])
/-! what is reached, as the law reckons it; reachable_stations, ports, initial_state, their errors too -/
def intsOf (s : List Key) : List Int := s.filterMap fun k => match k with | .inl i => some i | .inr _ => none
def strsOf (s : List Key) : List Str := s.filterMap fun k => match k with | .inl _ => none | .inr z => some z
theorem mem_intsOf {s : List Key} {i : Int} : i ∈ intsOf s ↔ (.inl i : Key) ∈ s := by
  unfold intsOf
  rw [List.mem_filterMap]
  constructor
  · rintro ⟨k, hk, e⟩
    cases k with
    | inl j => cases e; exact hk
    | inr z => cases e
  · intro h
    exact ⟨_, h, rfl⟩
theorem mem_strsOf {s : List Key} {z : Str} : z ∈ strsOf s ↔ (.inr z : Key) ∈ s := by
  unfold strsOf
  rw [List.mem_filterMap]
  constructor
  · rintro ⟨k, hk, e⟩
    cases k with
    | inl j => cases e
    | inr y => cases e; exact hk
  · intro h
    exact ⟨_, h, rfl⟩
def fnd (N : Net) : Nat → List Int
  | 0 => [0]
  | k + 1 => if (k : Int) ∈ fnd N k then fnd N k ++ intsOf (N.getD k []) else fnd N k
def nms (N : Net) : Nat → List Str
  | 0 => []
  | k + 1 => if (k : Int) ∈ fnd N k then nms N k ++ strsOf (N.getD k []) else nms N k
theorem intsOf_len (s : List Key) : (intsOf s).length ≤ s.length := List.length_filterMap_le _ _
theorem strsOf_len (s : List Key) : (strsOf s).length ≤ s.length := List.length_filterMap_le _ _
theorem fnd_len {N : Net} (h : ∀ k, (N.getD k []).length ≤ 8) : ∀ k, (fnd N k).length ≤ 1 + 8 * k
  | 0 => by show 1 ≤ _; omega
  | k + 1 => by
    have ih := fnd_len h k
    have := intsOf_len (N.getD k [])
    have := h k
    unfold fnd
    split
    · rw [List.length_append]; omega
    · omega
theorem nms_len {N : Net} (h : ∀ k, (N.getD k []).length ≤ 8) : ∀ k, (nms N k).length ≤ 8 * k
  | 0 => by show 0 ≤ _; omega
  | k + 1 => by
    have ih := nms_len h k
    have := strsOf_len (N.getD k [])
    have := h k
    unfold nms
    split
    · rw [List.length_append]; omega
    · omega
theorem ValidN.seats8 {N : Net} (h : ValidN N) (k : Nat) : (N.getD k []).length ≤ 8 := by
  rw [List.getD_eq_getElem?_getD]
  cases e : N[k]? with
  | none => simp
  | some s => exact (h.st k s e).2.1
theorem ValidN.fwd {N : Net} (h : ValidN N) {k : Nat} {i : Int} (hi : (.inl i : Key) ∈ N.getD k []) : (k : Int) < i ∧ i < N.length := by
  rw [List.getD_eq_getElem?_getD] at hi
  cases e : N[k]? with
  | none => rw [e] at hi; simp at hi
  | some s => rw [e] at hi; exact h.seat e hi
theorem fnd_nat {N : Net} (h : ValidN N) : ∀ k, ∀ i ∈ fnd N k, 0 ≤ i ∧ i < N.length
  | 0, i, hi => by
    have : i = 0 := by simpa [fnd] using hi
    have := h.pos
    omega
  | k + 1, i, hi => by
    unfold fnd at hi
    split at hi
    · rcases List.mem_append.mp hi with hi | hi
      · exact fnd_nat h k i hi
      · have := h.fwd (mem_intsOf.mp hi)
        omega
    · exact fnd_nat h k i hi
/-- what comes later lies behind -/
theorem fnd_later {N : Net} (h : ValidN N) (j : Nat) : ∀ d, ((j : Int) ∈ fnd N (j + d) ↔ (j : Int) ∈ fnd N j)
  | 0 => Iff.rfl
  | d + 1 => by
    rw [← fnd_later h j d]
    show (j : Int) ∈ (if ((j + d : Nat) : Int) ∈ fnd N (j + d) then fnd N (j + d) ++ intsOf (N.getD (j + d) []) else fnd N (j + d)) ↔ _
    split
    · rw [List.mem_append]
      refine ⟨fun z => z.elim id fun z => ?_, .inl⟩
      have := h.fwd (mem_intsOf.mp z)
      omega
    · exact Iff.rfl
theorem fnd_at {N : Net} (h : ValidN N) {j : Nat} (hj : j ≤ N.length) : (j : Int) ∈ fnd N N.length ↔ (j : Int) ∈ fnd N j := by
  have := fnd_later h j (N.length - j)
  rwa [show j + (N.length - j) = N.length by omega] at this
theorem mem_nms {N : Net} {z : Str} : ∀ k, z ∈ nms N k ↔ ∃ j : Nat, j < k ∧ (j : Int) ∈ fnd N j ∧ (.inr z : Key) ∈ N.getD j []
  | 0 => by simp [nms]
  | k + 1 => by
    have ih := mem_nms (N := N) (z := z) k
    unfold nms
    split
    · rename_i hk
      rw [List.mem_append, ih, mem_strsOf]
      constructor
      · rintro (⟨j, h1, h2⟩ | h)
        · exact ⟨j, by omega, h2⟩
        · exact ⟨k, by omega, hk, h⟩
      · rintro ⟨j, h1, h2, h3⟩
        by_cases e : j = k
        · subst e; exact .inr h3
        · exact .inl ⟨j, by omega, h2, h3⟩
    · rename_i hk
      rw [ih]
      constructor
      · rintro ⟨j, h1, h2⟩
        exact ⟨j, by omega, h2⟩
      · rintro ⟨j, h1, h2, h3⟩
        by_cases e : j = k
        · subst e; exact absurd h2 hk
        · exact ⟨j, by omega, h2, h3⟩
/-! a def that raises: by its calls that do not, and those that do -/
section
variable {P : Program} {w : World} {K : PySem.W.Frag} {mg : Str → Option Value} {base : Heap}
theorem fn_lift {CX : CXT} {k : Nat} {f : Addr} {fd : FuncData} {ps : List Str} {sp : Sp} (F : FnOk P w K mg base CX0 k f fd ps sp) : FnOk P w K mg base CX k f fd ps sp :=
  ⟨F.len, fun A outer s H args us vs Q E hr e0 hb r q => codeAny_mono (F.run A outer s H args us vs Q E hr e0 hb r q) fun res s' z => by
    cases res with
    | error e => exact (show False from z).elim
    | ok fl => cases fl <;> exact z⟩
theorem fn_or {CX : CXT} {k : Nat} {f : Addr} {fd : FuncData} {ps : List Str} {sp sp' : Sp} (F : FnOk P w K mg base CX k f fd ps sp) (G : FnOk P w K mg base CX k f fd ps sp') : FnOk P w K mg base CX k f fd ps (fun vs H Q E => sp vs H Q E ∨ sp' vs H Q E) :=
  ⟨fun vs H Q E q => q.elim (F.len vs H Q E) (G.len vs H Q E), fun A outer s H args us vs Q E hr e0 hb r q => q.elim (F.run A outer s H args us vs Q E hr e0 hb r) (G.run A outer s H args us vs Q E hr e0 hb r)⟩
/-- a network with a fault -/
def spBadN (K : PySem.W.Frag) (C : Addr) : Sp := fun vs H _ E => ∃ (v : V) (N : Net) (k j : Int), vs = [v] ∧ NetAt K H v N ∧ SmN N ∧ firstBad N = some (k, j) ∧ ∀ d H', Ex H H' → H d = none → H' d = some (.xd [("seat", .int j), ("station", .int k)]) → E (.ref C) (some d) H'
theorem seatBad_none {k n : Int} : ∀ {s : List Key} {j : Nat}, seatBad k n j s = none → ∀ p ∈ s, placeB k n p = true
  | [], _, _, p, hp => by simp at hp
  | q :: s, j, h, p, hp => by
    unfold seatBad at h
    split at h
    · rename_i hq
      rcases List.mem_cons.mp hp with e | e
      · rw [e]; exact hq
      · exact seatBad_none h p e
    · cases h
theorem netBad_none {n : Int} : ∀ {N : Net} {k : Nat}, netBad n k N = none → ∀ (i : Nat) s, N[i]? = some s → k + i ≠ 40 ∧ 1 ≤ s.length ∧ s.length ≤ 8 ∧ ∀ p ∈ s, placeB ((k + i : Nat) : Int) n p = true
  | [], k, _, i, s, e => by simp at e
  | t :: N, k, h, i, s, e => by
    unfold netBad at h
    cases hb : stBad n k t with
    | some j => rw [hb] at h; cases h
    | none =>
      rw [hb] at h
      cases i with
      | zero =>
        have e : t = s := by simpa using e
        subst e
        unfold stBad at hb
        split at hb
        · cases hb
        · rename_i hg
          have h1 : 1 ≤ t.length ∧ t.length ≤ 8 := Classical.not_not.mp fun z => hg (.inr z)
          refine ⟨fun z => hg (.inl z), h1.1, h1.2, ?_⟩
          have : seatBad k n 0 t = none := by
            cases q : seatBad k n 0 t with
            | none => rfl
            | some j => rw [q] at hb; cases hb
          exact seatBad_none this
      | succ i =>
        have r := netBad_none h i s (by simpa using e)
        rw [show k + 1 + i = k + (i + 1) by omega] at r
        exact r
/-- no fault: a valid network -/
theorem firstBad_none {N : Net} (h : firstBad N = none) : ValidN N := by
  unfold firstBad at h
  split at h
  · cases h
  · rename_i h0
    have hb : ∀ (i : Nat) s, N[i]? = some s → _ := fun i s e => netBad_none h i s e
    refine ⟨by omega, Classical.not_not.mp fun z => ?_, fun k s e => ?_⟩
    · have h40 : 40 < N.length := by omega
      exact (hb 40 N[40] (by simp [h40])).1 rfl
    · obtain ⟨_, h1, h2, h3⟩ := hb k s e
      refine ⟨h1, h2, fun p hp => ⟨by have := h3 p hp; rwa [Nat.zero_add] at this, fun z ez => ?_⟩⟩
      have := h3 p hp
      rw [ez] at this
      have : wordB z = true := this
      unfold wordB at this
      simp at this
      omega
abbrev s_reachable_stations : Stmt := top 18
theorem sc_reachable_stations : FnScope ["network", "reached", "station", "seats", "place"] ["network"] (defScope s_reachable_stations) := ⟨rfl, rfl, rfl, by decide +kernel, rfl, by decide +kernel, by decide +kernel⟩
/-- the stations that are reached, rising -/
def Rch (N : Net) (ns : List Int) : Prop := ns.Pairwise (· < ·) ∧ ∀ i : Int, i ∈ ns ↔ i ∈ fnd N N.length
def spReach (K : PySem.W.Frag) : Sp := fun vs H Q _ => ∃ (v : V) (N : Net), vs = [v] ∧ NetAt K H v N ∧ ValidN N ∧ ∀ H' l ns, Ex H H' → H l = none → H' l = some (.lst (ns.map V.int)) → Rch N ns → Q (.ref l) H'
theorem ok_reach_good {f f1 f2 f3 c : Addr} {fd fd1 fd2 fd3 : FuncData} (D : Df K mg "reachable_stations" s_reachable_stations ["network"] f fd) (hc : fd.code = .ref c) (hcd : PySem.W.kdsCode K (.ref c) = true) (T : Bt mg) (Ck : Ct K mg)
    (D_check_network : Df K mg "check_network" s_check_network ["network"] f1 fd1) (D_is_word : Df K mg "is_word" s_is_word ["text"] f2 fd2) (D_is_place : Df K mg "is_place" s_is_place ["place", "station", "stations"] f3 fd3) : FnOk P w K mg base CX0 5 f fd ["network"] (spReach K) := by
  have G_check_network : FnOk P w K mg base CX0 4 f1 fd1 _ _ := ok_check_network0 D_check_network T Ck D_is_word D_is_place
  refine okC D.F hc sc_reachable_stations (fun vs H Q E h => ?_) (fun A outer s H vs Q E hr h => ?_)
  · obtain ⟨v, N, rfl, _⟩ := h
    rfl
  · obtain ⟨v, N, rfl, hN, hV, q⟩ := h
    refine ⟨_, (pss_cons (ps_expr (pe_call (G_check_network) (hr.mono (by decide)) rfl D_check_network.g D_check_network.F.kp D_check_network.b .nil pass0 (pa_cons (pv 0) pa_nil)))
      (pss_cons (ps_set (i := 1) sc_reachable_stations.nd rfl (Or.inl rfl) (pe_set1 (P := P) (w := w) pe_int hcd))
      (pss_cons (ps_for PassesOwn.never rfl (pi_enumT (by rfl) T.b_enumerate (pa_cons (pv 0) pa_nil)) (pg_tup rfl (pgs_cons (pg_name (i := 2) sc_reachable_stations.nd rfl (Or.inl rfl)) (pgs_cons (pg_name (i := 3) sc_reachable_stations.nd rfl (Or.inl rfl)) pgs_nil))) (pss_one (ps_if (pt_cmpR (op_inM (P := P) (w := w)) (pv 2) (pv 1) (by rfl)) (pss_one (ps_for PassesOwn.never rfl (pi_U (K := K) (pv 3)) (pg_name (i := 4) sc_reachable_stations.nd rfl (Or.inl rfl)) (pss_one (ps_if (pt_not (pt_val (pe_callB (call_isiU (K := K)) (by rfl) T.b_isinstance (by decide +kernel) (pa_cons (pv 4) (pa_cons (pe_bltn (v := .ty "str") (by rfl) T.b_str (by decide +kernel) rfl) pa_nil))))) (pss_one (ps_expr (pe_setAdd (P := P) (w := w) (pv 1) (pa_cons (pv 4) pa_nil)))) pss_nil)))) pss_nil)))
      (pss_one (ps_ret (pe_callB (call_sortM (P := P) (w := w) rfl) (by rfl) T.b_sorted (by decide +kernel) (pa_cons (pv 1) pa_nil))))))), ?_⟩
    obtain ⟨na, ns, rfl, hNs, hns⟩ := hN.at
    have hnl : ns.length = N.length := by rw [hns.len, List.length_map]
    have h40 := hV.le
    have s8 := hV.seats8
    walk_at "run"
    refine ⟨.ref na, N, rfl, hN, hV, fun H1 e1 => x_tSet1I fun R H2 nR e2 hR => ?_⟩
    walk_at "run"
    have e02 := e1.trans e2
    have nR0 : H R = none := fresh_back e1 nR
    refine ⟨_, _, rfl, ex_t e02 hNs, loop_it walk_enumT (fun i σ H' => ∃ u2 u3 u4 S n, σ = [some (.ref na), some (.ref R), u2, u3, u4] ∧ Ex H H' ∧ H' R = some (SetM P w R S n) ∧ (∀ k, S k = true ↔ ∃ j : Int, k = .inl j ∧ j ∈ fnd N i) ∧ n ≤ 1 + 8 * i) ⟨_, _, _, _, 1, rfl, e02, hR, fun k => by simp [fnd], by omega⟩
      (fun i σ H' _ ⟨_, _, _, _, _, _, e, _⟩ => ex_t e hNs) ?_ ?_⟩
    · rintro i x σ H3 H4 hi ⟨u2, u3, u4, S, n, rfl, e3, hR3, RS, hn⟩ ⟨T0, x, y, rfl, hT0, rfl, hx, hy⟩
      obtain rfl : V.int (i : Nat) = x := Option.some.inj hx
      have e4 : Ex H3 (upd H3 T0 (.tup [.int (i : Nat), y])) := Ex.new hT0
      refine x_two (SqT.of upd_same) ?_
      generalize upd H3 T0 (.tup [.int (i : Nat), y]) = H4 at e4
      have hR4 := e4 _ _ hR3
      have e04 := e3.trans e4
      obtain ⟨sD, hs, hy2⟩ := hns.get' hy
      obtain ⟨s, hsN, rfl⟩ : ∃ s, N[i]? = some s ∧ stD s = sD := by simpa using hs
      obtain ⟨b, rfl, hb⟩ := StAt.at hy2
      have hiN : i < N.length := (List.getElem?_eq_some_iff.mp hsN).1
      have hg : N.getD i [] = s := by rw [List.getD_eq_getElem?_getD, hsN]; rfl
      have hs8 := s8 i
      rw [hg] at hs8
      walk_at "run"
      refine x_setIn (k := .inl (i : Int)) hR4 ?_
      rw [if_neg Bool.false_ne_true]
      have hSi : S (.inl (i : Int)) = true ↔ (i : Int) ∈ fnd N i := by
        rw [RS (.inl (i : Int))]
        constructor
        · rintro ⟨j, e, h⟩
          cases e
          exact h
        · exact fun h => ⟨_, rfl, h⟩
      have hstep : fnd N (i + 1) = if (i : Int) ∈ fnd N i then fnd N i ++ intsOf s else fnd N i := by rw [← hg]; rfl
      walk_at "run"
      cases hS : S (.inl (i : Int)) with
      | false =>
        rw [if_neg Bool.false_ne_true]
        have h0 : ¬ (i : Int) ∈ fnd N i := fun z => by rw [hSi.mpr z] at hS; cases hS
        rw [if_neg h0] at hstep
        exact ⟨_, _, _, S, n, rfl, e04, hR4, by rw [hstep]; exact RS, by omega⟩
      | true =>
        rw [if_pos rfl]
        rw [if_pos (hSi.mp hS)] at hstep
        refine x_itT (ex_t e04 hb) (loop_it walk_tup (fun k σ H' => ∃ u4 S n, σ = [some (.ref na), some (.ref R), some (.int (i : Nat)), some (.ref b), u4] ∧ Ex H H' ∧ H' R = some (SetM P w R S n) ∧ (∀ q, S q = true ↔ ∃ j : Int, q = .inl j ∧ j ∈ fnd N i ++ intsOf (s.take k)) ∧ n ≤ 1 + 8 * i + k) ⟨_, S, n, rfl, e04, hR4, by simpa [intsOf] using RS, by omega⟩ (fun k σ H' _ ⟨_, _, _, _, e, _⟩ => ex_t e hb) ?_ ?_)
        · rintro k x σ H5 H5' hk ⟨u4, S, n, rfl, e5, hR5, RS5, hn5⟩ ⟨eH, hx⟩
          subst eH
          obtain ⟨p, hpk, rfl⟩ : ∃ p, s[k]? = some p ∧ kV p = x := by simpa using hx
          have hks : k < s.length := (List.getElem?_eq_some_iff.mp hpk).1
          have htk : s.take (k + 1) = s.take k ++ [p] := by rw [List.take_add_one, hpk]; rfl
          cases p with
          | inr y =>
            walk_at "run"
            rw [if_neg (by simp)]
            refine ⟨_, S, n, rfl, e5, hR5, fun q => ?_, by omega⟩
            rw [RS5 q, htk]
            simp [intsOf]
          | inl j =>
            walk_at "run"
            rw [if_pos (by simp)]
            refine ⟨x_setIs hR5, x_setAdd (k := .inl j) hR5 (by omega) fun H6 e6 _ h6 => ?_⟩
            refine ⟨_, _, _, rfl, fun o u h => e6 _ _ (ne_of_none h nR0) (e5 _ _ h), h6, fun q => ?_, by split <;> omega⟩
            rw [Bool.or_eq_true, RS5 q, decide_eq_true_eq, htk]
            have e : intsOf (s.take k ++ [.inl j]) = intsOf (s.take k) ++ [j] := by simp [intsOf]
            rw [e, ← List.append_assoc]
            constructor
            · rintro (⟨i', e, h⟩ | rfl)
              · exact ⟨i', e, List.mem_append_left _ h⟩
              · exact ⟨j, rfl, List.mem_append_right _ (by simp)⟩
            · rintro ⟨i', e, h⟩
              rcases List.mem_append.mp h with h | h
              · exact .inl ⟨i', e, h⟩
              · exact .inr (by rw [e, List.mem_singleton.mp h])
        · rintro σ H5 ⟨u4, S, n, rfl, e5, hR5, RS5, hn5⟩
          rw [List.length_map] at RS5 hn5
          rw [List.take_length] at RS5
          exact ⟨_, _, _, S, n, rfl, e5, hR5, by rw [hstep]; exact RS5, by omega⟩
    · rintro σ H3 ⟨u2, u3, u4, S, n, rfl, e3, hR3, RS, hn⟩
      rw [hnl] at RS hn
      walk_at "run"
      refine x_sortMI hR3 (by omega) (fun k hk => ?_) fun ms p H4 hp hm hl np e4 h4 => q H4 p ms (e3.trans e4) (fresh_back e3 np) h4 ⟨hp, fun i => ?_⟩
      · obtain ⟨j, rfl, _⟩ := (RS k).mp hk
        exact ⟨_, rfl⟩
      · rw [hm, RS]
        constructor
        · rintro ⟨j, e, h⟩
          cases e
          exact h
        · exact fun h => ⟨_, rfl, h⟩
theorem ok_reach_bad {f f1 C c : Addr} {fd fd1 : FuncData} (D : Df K mg "reachable_stations" s_reachable_stations ["network"] f fd) (D_check_network : Df K mg "check_network" s_check_network ["network"] f1 fd1)
    (G_check_network : FnOk P w K mg base (L2.CX P w) 4 f1 fd1 ["network"] (spCheck K C)) : FnOk P w K mg base (L2.CX P w) 5 f fd ["network"] (spBadN K C) := by
  refine D.F.okX sc_reachable_stations (fun vs H Q E h => ?_) (fun cdv A outer s H vs Q E hr h => ?_)
  · obtain ⟨v, N, k, j, rfl, _⟩ := h
    rfl
  · obtain ⟨v, N, k, j, rfl, hN, hS, hb, q⟩ := h
    refine ⟨_, (pss_cons (ps_expr (pe_call (G_check_network) (hr.mono (by decide)) rfl D_check_network.g D_check_network.F.kp D_check_network.b .nil (passes_call (takes_of rfl rfl rfl rfl) fun _ _ _ _ h => h) (pa_cons (pv 0) pa_nil))) pss_never), ?_⟩
    walk_at "run"
    refine ⟨v, N, rfl, hN, hS, fun z => ?_, fun k' j' e => ?_⟩
    · rw [hb] at z; cases z
    · rw [hb] at e; cases e
      exact q
theorem ok_reachable_stations {f f1 f2 f3 C c : Addr} {fd fd1 fd2 fd3 : FuncData} (D : Df K mg "reachable_stations" s_reachable_stations ["network"] f fd) (hc : fd.code = .ref c) (hcd : PySem.W.kdsCode K (.ref c) = true) (T : Bt mg) (Ck : Ct K mg)
    (D_check_network : Df K mg "check_network" s_check_network ["network"] f1 fd1) (D_is_word : Df K mg "is_word" s_is_word ["text"] f2 fd2) (D_is_place : Df K mg "is_place" s_is_place ["place", "station", "stations"] f3 fd3)
    (G_check_network : FnOk P w K mg base (L2.CX P w) 4 f1 fd1 ["network"] (spCheck K C)) : FnOk P w K mg base (L2.CX P w) 5 f fd ["network"] (fun vs H Q E => spReach K vs H Q E ∨ spBadN K C vs H Q E) :=
  fn_or (fn_lift (ok_reach_good D hc hcd T Ck D_check_network D_is_word D_is_place)) (ok_reach_bad (c := c) D D_check_network G_check_network)
theorem Rch.len {N : Net} {ns : List Int} (h : Rch N ns) (hV : ValidN N) : ns.length ≤ 40 := by
  have hb : ∀ i ∈ ns, (0 : Int) ≤ i ∧ i < N.length := fun i hi => fnd_nat hV _ i ((h.2 i).mp hi)
  have key : ∀ (l : List Int) (lo : Int), l.Pairwise (· < ·) → (∀ i ∈ l, lo ≤ i ∧ i < N.length) → lo ≤ N.length → (l.length : Int) ≤ N.length - lo := by
    intro l
    induction l with
    | nil => intro lo _ _ h; simp; omega
    | cons x r ih =>
      intro lo p h hh
      obtain ⟨p1, p2⟩ := List.pairwise_cons.mp p
      have hx := h x (List.mem_cons_self ..)
      have := ih (x + 1) p2 (fun i hi => by
        have := p1 i hi
        have := h i (List.mem_cons_of_mem _ hi)
        omega) (by omega)
      rw [List.length_cons]
      omega
  have := key ns 0 h.1 hb (by omega)
  have := hV.le
  omega
abbrev s_ports : Stmt := top 19
theorem sc_ports : FnScope ["network", "names", "station", "place"] ["network"] (defScope s_ports) := ⟨rfl, rfl, rfl, by decide +kernel, rfl, by decide +kernel, by decide +kernel⟩
/-- the ports that are reached -/
def PortsOf (N : Net) (zs : List Str) : Prop := sortedS zs = true ∧ zs.Nodup ∧ ∀ z : Str, z ∈ zs ↔ z ∈ nms N N.length
def spPorts (K : PySem.W.Frag) : Sp := fun vs H Q _ => ∃ (v : V) (N : Net), vs = [v] ∧ NetAt K H v N ∧ ValidN N ∧ ∀ H' l zs, Ex H H' → H l = none → H' l = some (.lst (zs.map V.str)) → PortsOf N zs → Q (.ref l) H'
theorem ok_ports_good {f f1 : Addr} {fd fd1 : FuncData} (D : Df K mg "ports" s_ports ["network"] f fd) (T : Bt mg) (D_reachable_stations : Df K mg "reachable_stations" s_reachable_stations ["network"] f1 fd1)
    (G_reachable_stations : FnOk P w K mg base CX0 5 f1 fd1 ["network"] (spReach K)) : FnOk P w K mg base CX0 6 f fd ["network"] (spPorts K) := by
  refine D.F.ok sc_ports (fun vs H Q E h => ?_) (fun cdv A outer s H vs Q E hr h => ?_)
  · obtain ⟨v, N, rfl, _⟩ := h
    rfl
  · obtain ⟨v, N, rfl, hN, hV, q⟩ := h
    refine ⟨_, (pss_cons (ps_set (i := 1) sc_ports.nd rfl (Or.inl rfl) (pe_callTy0 (call_setM (P := P) (w := w)) (by rfl) T.b_set (by decide +kernel)))
      (pss_cons (ps_for PassesOwn.never rfl (pi_U (K := K) (pe_call (G_reachable_stations) (hr.mono (by decide)) rfl D_reachable_stations.g D_reachable_stations.F.kp D_reachable_stations.b .nil pass0 (pa_cons (pv 0) pa_nil))) (pg_name (i := 2) sc_ports.nd rfl (Or.inl rfl)) (pss_one (ps_for PassesOwn.never rfl (pi_U (K := K) (pe_ix (ix_U (K := K)) (pv 0) (pv 2) (fun _ _ => rfl))) (pg_name (i := 3) sc_ports.nd rfl (Or.inl rfl)) (pss_one (ps_if (pt_val (pe_callB (call_isiU (K := K)) (by rfl) T.b_isinstance (by decide +kernel) (pa_cons (pv 3) (pa_cons (pe_bltn (v := .ty "str") (by rfl) T.b_str (by decide +kernel) rfl) pa_nil)))) (pss_one (ps_expr (pe_setAdd (P := P) (w := w) (pv 1) (pa_cons (pv 3) pa_nil)))) pss_nil)))))
      (pss_one (ps_ret (pe_callB (call_sortM (P := P) (w := w) rfl) (by rfl) T.b_sorted (by decide +kernel) (pa_cons (pv 1) pa_nil)))))), ?_⟩
    obtain ⟨na, ns, rfl, hNs, hns⟩ := hN.at
    have hnl : ns.length = N.length := by rw [hns.len, List.length_map]
    have h40 := hV.le
    walk_at "run"
    refine x_setNew fun R H1 nR e1 hR => ?_
    walk_at "run"
    refine ⟨.ref na, N, rfl, Dp.ex e1 hN, hV, fun H2 l ms e2 nl hl hRc => ?_⟩
    have e02 := e1.trans e2
    have nlR : l ≠ R := fun z => by rw [z, hR] at nl; cases nl
    have hml := hRc.len hV
    refine x_itL (SqL.of hl) (loop_it walk_list (fun t σ H' => ∃ u2 u3 S n, σ = [some (.ref na), some (.ref R), u2, u3] ∧ Ex H H' ∧ H' l = some (.lst (ms.map V.int)) ∧ H' R = some (SetM P w R S n) ∧ (∀ k, S k = true ↔ ∃ z : Str, k = .inr z ∧ ∃ m ∈ ms.take t, (.inr z : Key) ∈ N.getD m.toNat []) ∧ n ≤ 8 * t) ⟨_, _, _, 0, rfl, e02, hl, e2 _ _ hR, fun k => by simp, by omega⟩
      (fun t σ H' _ ⟨_, _, _, _, _, _, h, _⟩ => SqL.of h) ?_ ?_)
    · rintro t x σ H3 H3' ht ⟨u2, u3, S, n, rfl, e3, hl3, hR3, PS3, hn⟩ ⟨eH, hx⟩
      subst eH
      rw [List.length_map] at ht
      obtain ⟨mi, hmi, rfl⟩ : ∃ m, ms[t]? = some m ∧ V.int m = x := by simpa using hx
      have hmb := fnd_nat hV _ mi ((hRc.2 mi).mp (List.mem_of_getElem? hmi))
      obtain ⟨i, rfl⟩ : ∃ i : Nat, mi = (i : Int) := ⟨mi.toNat, by omega⟩
      have hiN : i < N.length := by omega
      obtain ⟨sD, hsD, hy2⟩ := hns.get (show (N.map stD)[i]? = some (stD (N.getD i [])) by simp [List.getD_eq_getElem?_getD, hiN])
      obtain ⟨b, rfl, hb⟩ := StAt.at hy2
      have hs8 := hV.seats8 i
      walk_at "run"
      refine x_ixT (ex_t e3 hNs) (atI_nat hsD) (x_itT (ex_t e3 hb) (loop_it walk_tup (fun k σ H' => ∃ u3 S n, σ = [some (.ref na), some (.ref R), some (.int (i : Int)), u3] ∧ Ex H H' ∧ H' l = some (.lst (ms.map V.int)) ∧ H' R = some (SetM P w R S n) ∧ (∀ q, S q = true ↔ ∃ z : Str, q = .inr z ∧ ((∃ m ∈ ms.take t, (.inr z : Key) ∈ N.getD m.toNat []) ∨ (.inr z : Key) ∈ (N.getD i []).take k)) ∧ n ≤ 8 * t + k) ⟨_, S, n, rfl, e3, hl3, hR3, fun k => by rw [PS3 k]; simp, by omega⟩ (fun k σ H' _ ⟨_, _, _, _, e, _⟩ => ex_t e hb) ?_ ?_))
      · rintro k x σ H5 H5' hk ⟨u3, S, n, rfl, e5, hl5, hR5, PS5, hn5⟩ ⟨eH, hx⟩
        subst eH
        obtain ⟨p, hpk, rfl⟩ : ∃ p, (N.getD i [])[k]? = some p ∧ kV p = x := by simpa using hx
        have hks : k < (N.getD i []).length := (List.getElem?_eq_some_iff.mp hpk).1
        have htk : (N.getD i []).take (k + 1) = (N.getD i []).take k ++ [p] := by rw [List.take_add_one, hpk]; rfl
        cases p with
        | inl j =>
          walk_at "run"
          rw [if_neg Bool.false_ne_true]
          refine ⟨_, S, n, rfl, e5, hl5, hR5, fun q => ?_, by omega⟩
          rw [PS5 q, htk]
          simp
        | inr y =>
          walk_at "run"
          refine ⟨x_setIs hR5, x_setAdd (k := .inr y) hR5 (by omega) fun H6 e6 _ h6 => ?_⟩
          refine ⟨_, _, _, rfl, fun o u h => e6 _ _ (ne_of_none h nR) (e5 _ _ h), e6 _ _ nlR hl5, h6, fun q => ?_, by split <;> omega⟩
          rw [Bool.or_eq_true, PS5 q, decide_eq_true_eq, htk]
          constructor
          · rintro (⟨z, rfl, h⟩ | rfl)
            · exact ⟨z, rfl, h.imp id fun h => List.mem_append_left _ h⟩
            · exact ⟨y, rfl, .inr (List.mem_append_right _ (List.mem_singleton.mpr rfl))⟩
          · rintro ⟨z, rfl, h⟩
            rcases h with h | h
            · exact .inl ⟨z, rfl, .inl h⟩
            · rcases List.mem_append.mp h with h | h
              · exact .inl ⟨z, rfl, .inr h⟩
              · exact .inr (List.mem_singleton.mp h)
      · rintro σ H5 ⟨u3, S, n, rfl, e5, hl5, hR5, PS5, hn5⟩
        rw [List.length_map] at hn5
        refine ⟨_, _, S, n, rfl, e5, hl5, hR5, fun q => ?_, by omega⟩
        rw [PS5 q, List.length_map, List.take_length, List.take_add_one, hmi]
        constructor
        · rintro ⟨z, rfl, h⟩
          refine ⟨z, rfl, ?_⟩
          rcases h with ⟨m, hm, h⟩ | h
          · exact ⟨m, List.mem_append_left _ hm, h⟩
          · exact ⟨(i : Int), List.mem_append_right _ (by simp), by rw [Int.toNat_natCast]; exact h⟩
        · rintro ⟨z, rfl, m, hm, h⟩
          refine ⟨z, rfl, ?_⟩
          rcases List.mem_append.mp hm with hm | hm
          · exact .inl ⟨m, hm, h⟩
          · have : m = (i : Int) := by simpa using hm
            rw [this, Int.toNat_natCast] at h
            exact .inr h
    · rintro σ H3 ⟨u2, u3, S, n, rfl, e3, hl3, hR3, PS3, hn⟩
      rw [List.length_map] at PS3 hn
      rw [List.take_length] at PS3
      walk_at "run"
      refine x_sortMS hR3 (by omega) (fun k hk => (let ⟨z, e, _⟩ := (PS3 k).mp hk; ⟨z, e⟩)) fun zs p H4 h1 h2 h3 h4 np e4 h5 => q H4 p zs (e3.trans e4) (fresh_back e3 np) h5 ⟨h1, h2, fun z => ?_⟩
      rw [h3, PS3, mem_nms]
      constructor
      · rintro ⟨y, e, m, hm, h⟩
        cases e
        have hmF := (hRc.2 m).mp hm
        have hb := fnd_nat hV _ m hmF
        obtain ⟨j, rfl⟩ : ∃ j : Nat, m = (j : Int) := ⟨m.toNat, by omega⟩
        rw [Int.toNat_natCast] at h
        exact ⟨j, by omega, (fnd_at hV (by omega)).mp hmF, h⟩
      · rintro ⟨j, h1, h2, h3⟩
        exact ⟨z, rfl, (j : Int), (hRc.2 _).mpr ((fnd_at hV (by omega)).mpr h2), by rw [Int.toNat_natCast]; exact h3⟩
theorem ok_ports_bad {f f1 C : Addr} {fd fd1 : FuncData} (D : Df K mg "ports" s_ports ["network"] f fd) (T : Bt mg) (D_reachable_stations : Df K mg "reachable_stations" s_reachable_stations ["network"] f1 fd1)
    (G_reachable_stations : FnOk P w K mg base (L2.CX P w) 5 f1 fd1 ["network"] (spBadN K C)) : FnOk P w K mg base (L2.CX P w) 6 f fd ["network"] (spBadN K C) := by
  refine D.F.okX sc_ports (fun vs H Q E h => ?_) (fun cdv A outer s H vs Q E hr h => ?_)
  · obtain ⟨v, N, k, j, rfl, _⟩ := h
    rfl
  · obtain ⟨v, N, k, j, rfl, hN, hS, hb, q⟩ := h
    refine ⟨_, (pss_cons (ps_set (i := 1) sc_ports.nd rfl (Or.inl rfl) (pe_callTy0 (call_setM (P := P) (w := w)) (by rfl) T.b_set (by decide +kernel)))
      (pss_cons (ps_for (passes_of rfl) rfl (pi_U (K := K) (pe_call (G_reachable_stations) (hr.mono (by decide)) rfl D_reachable_stations.g D_reachable_stations.F.kp D_reachable_stations.b .nil (passes_call (takes_of rfl rfl rfl rfl) fun _ _ _ _ h => h) (pa_cons (pv 0) pa_nil))) (pg_name (i := 2) sc_ports.nd rfl (Or.inl rfl)) pss_never) pss_never)), ?_⟩
    walk_at "run"
    refine x_setNew fun R H1 nR e1 hR => ?_
    walk_at "run"
    exact ⟨v, N, k, j, rfl, Dp.ex e1 hN, hS, hb, fun d H' e hd h => q d H' (e1.trans e) (fresh_back e1 hd) h⟩
theorem ok_ports {f f1 f2 f3 f4 C c : Addr} {fd fd1 fd2 fd3 fd4 : FuncData} (D : Df K mg "ports" s_ports ["network"] f fd) (D_reach : Df K mg "reachable_stations" s_reachable_stations ["network"] f4 fd4) (hc : fd4.code = .ref c) (hcd : PySem.W.kdsCode K (.ref c) = true) (T : Bt mg) (Ck : Ct K mg)
    (D_check_network : Df K mg "check_network" s_check_network ["network"] f1 fd1) (D_is_word : Df K mg "is_word" s_is_word ["text"] f2 fd2) (D_is_place : Df K mg "is_place" s_is_place ["place", "station", "stations"] f3 fd3)
    (G_check_network : FnOk P w K mg base (L2.CX P w) 4 f1 fd1 ["network"] (spCheck K C)) : FnOk P w K mg base (L2.CX P w) 6 f fd ["network"] (fun vs H Q E => spPorts K vs H Q E ∨ spBadN K C vs H Q E) :=
  fn_or (fn_lift (ok_ports_good D T D_reach (ok_reach_good D_reach hc hcd T Ck D_check_network D_is_word D_is_place))) (ok_ports_bad D T D_reach (ok_reach_bad (c := c) D_reach D_check_network G_check_network))
end
end K
set_option Elab.async false
set_option linter.all false
set_option maxRecDepth 100000
set_option maxHeartbeats 1000000
set_option exponentiation.threshold 20000
namespace K
open PySem PySem.Spec PyProof.Rows L2 Evl FB
local macro_rules | `(tactic| walk_at "run") => `(tactic| try simp only [tSeq, tAsg, tVar, tC, gName, L2.start, List.map_cons, List.map_nil, List.cons_append, List.nil_append, List.length_cons, List.length_nil, List.replicate, List.getElem?_cons_zero, List.getElem?_cons_succ, Option.some.injEq, exists_eq_left', List.set_cons_zero, List.set_cons_succ, V.ref.injEq, tRet, x_tLst, x_tTup, tCons, tCB, tNil, tOp, x_addI, x_mulI, x_rI, x_rI0, x_ltI, x_leI, x_ltS, x_leS, x_eqI, x_neI, x_eqS, x_eqB, x_neB, x_isiI, x_isiS, x_int, x_max, x_min, cxOf, tIfS, tNext, tTest, V.bl.injEq, decide_eq_true_eq, gSub, tAnd, tOr, tNot, tB, tDrop, tBM, x_tFor, iRng1, iList, iTup, x_tLc, tYes, tCall, tIf, tAndV, tOrV, tNotV, tChain, List.append_nil, tUn, if_true, wipe, true_and, x_never, iU, x_itS, kV, Nat.reduceAdd, Nat.reduceSub, List.replicate_zero, x_rU, x_tMkO, iEnumT, x_tDc, x_tDGet, x_tDGet2, x_sDPut, x_tDSetd, x_tDNewK, x_iItems, x_iZip, x_tSAddK, x_tLockV, x_tTupRg, x_tRg2, tPar, tPar3, tBM0, tSl, tNoPart, tPart, x_tSetAdd, x_tDIn, x_iKeys, x_iZipX, x_iZip3, iRevR, tRg1, x_tFld, x_tMeth, x_sFld, x_tMake, tAug, x_ipI, x_tDNotIn, iRng2])
/-! whoever comes, comes by stations that are reached -/
section
variable {N : Net} {ls : List Int}
theorem toQ_some {f : Nat → Int} {q : Key} : ∀ {L : Seats}, 0 < toQ f q L → ∃ i, (i, q) ∈ L ∧ 0 < f i
  | [], h => absurd (show (0 : Int) < 0 from h) (by decide)
  | (i, p) :: r, h => by
    have h : 0 < (if p = q then f i else 0) + toQ f q r := h
    by_cases e : p = q
    · rw [if_pos e] at h
      by_cases h0 : 0 < f i
      · exact ⟨i, by rw [e]; exact List.mem_cons_self .., h0⟩
      · obtain ⟨j, hj, hf⟩ := toQ_some (f := f) (q := q) (L := r) (by omega)
        exact ⟨j, List.mem_cons_of_mem _ hj, hf⟩
    · rw [if_neg e] at h
      obtain ⟨j, hj, hf⟩ := toQ_some (f := f) (q := q) (L := r) (by omega)
      exact ⟨j, List.mem_cons_of_mem _ hj, hf⟩
theorem fnd_le (i : Int) : ∀ {a b : Nat}, a ≤ b → i ∈ fnd N a → i ∈ fnd N b
  | a, 0, h, hi => by
    have : a = 0 := by omega
    subst this
    exact hi
  | a, b + 1, h, hi => by
    by_cases e : a = b + 1
    · rw [← e]; exact hi
    · have := fnd_le i (a := a) (b := b) (by omega) hi
      unfold fnd
      split
      · exact List.mem_append_left _ this
      · exact this
theorem bt_fnd (hV : ValidN N) (fw : Fw N) (L : Lens N ls) {t : Int} : ∀ k, k < N.length → 0 < bt N ls t k → (k : Int) ∈ fnd N k := by
  refine jq_rec fw fun k hk ih hb => ?_
  have h1 := L.pos k hk
  have h2 := L.lt k hk
  have h3 := L.nn k hk
  have h4 := (boat_by fw L hk (t := t) 1).mp (by omega)
  by_cases h0 : k = 0
  · subst h0
    show ((0 : Nat) : Int) ∈ [(0 : Int)]
    simp
  · have hj : 0 < toQ (bt N ls t) (.inl (k : Int)) (seatsOf N N.length) := by
      unfold jq at h4
      rw [if_neg (by simp; omega)] at h4
      omega
    obtain ⟨i, hi, hf⟩ := toQ_some hj
    have hik := seat_lt fw hi
    have him := (mem_seatsOf.mp hi).2
    have hfi := ih i hik hf
    refine fnd_le _ (a := i + 1) (by omega) ?_
    unfold fnd
    rw [if_pos hfi]
    exact List.mem_append_right _ (mem_intsOf.mpr him)
/-- a port at which somebody finishes is one that is reached -/
theorem port_nms (hV : ValidN N) (fw : Fw N) (L : Lens N ls) {t : Int} {z : Str} (h : 0 < jq N ls t (.inr z)) : z ∈ nms N N.length ∧ PlIn N (.inr z) := by
  unfold jq at h
  rw [if_neg (by simp)] at h
  obtain ⟨i, hi, hf⟩ := toQ_some h
  obtain ⟨h1, h2⟩ := mem_seatsOf.mp hi
  exact ⟨(mem_nms _).mpr ⟨i, h1, bt_fnd hV fw L i h1 hf, h2⟩, .inr ⟨i, hi⟩⟩
end
/-! finisher -/
section
variable {P : Program} {w : World} {K : PySem.W.Frag} {mg : Str → Option Value} {base : Heap}
abbrev s_finisher : Stmt := top 35
theorem sc_finisher : FnScope ["network", "state", "port", "number", "table"] ["network", "state", "port", "number"] (defScope s_finisher) := ⟨rfl, rfl, rfl, by decide +kernel, rfl, by decide +kernel, by decide +kernel⟩
theorem inV_strs {z : Str} : ∀ {zs : List Str}, inV (.str z) (zs.map V.str) = decide (z ∈ zs) := by
  intro zs
  unfold inV
  induction zs with
  | nil => rfl
  | cons n r ih =>
    rw [List.map_cons, List.any_cons, ih]
    by_cases e : n = z
    · simp [eqV, e]
    · have : ¬ z = n := fun h => e h.symm
      simp [eqV, e, this]
/-- who finishes as the n-th at a port, and when, if by a time T0 somebody has -/
def spFinr (K : PySem.W.Frag) : Sp := fun vs H Q _ => ∃ (v u : V) (N : Net) (p : Int) (qs : Qs) (z : Str) (n T0 : Int), vs = [v, u, .str z, .int n] ∧ NetAt K H v N ∧ ValidN N ∧ N.length ≤ 8 ∧ Dp K H u (stateD p qs) ∧ StOk N p qs ∧ 1 ≤ n ∧ n ≤ 1000000000000000000 ∧ n ≤ jq N (lens qs) T0 (.inr z) ∧ 0 ≤ T0 ∧ T0 ≤ 1000000000000000000 ∧
  ∀ H' r (y t : Int), Ex H H' → H' r = some (.tup [.int y, .int t]) → PsgP N (lens qs) p qs z n y → 1 ≤ t → t ≤ T0 → jq N (lens qs) (t - 1) (.inr z) < n → n ≤ jq N (lens qs) t (.inr z) → Q (.ref r) H'
theorem ok_finisher {C f f1 f2 f3 f4 f5 f6 : Addr} {fd fd1 fd2 fd3 fd4 fd5 fd6 : FuncData} (D : Df K mg "finisher" s_finisher ["network", "state", "port", "number"] f fd) (T : Bt mg) (F : TF K C) (Cm0 : Cm mg) (D_check_state : Df K mg "check_state" s_check_state ["network", "state"] f1 fd1) (G_check_state : FnOk P w K mg base CX0 5 f1 fd1 ["network", "state"] (spState K))
    (D_check_count : Df K mg "check_count" s_check_count ["count", "least", "most"] f2 fd2) (D_ports : Df K mg "ports" s_ports ["network"] f6 fd6) (G_ports : FnOk P w K mg base CX0 6 f6 fd6 ["network"] (spPorts K)) (C_Timetable : Cf K mg "Timetable" "Timetable.__init__" C s_Timetable___init ["self", "network", "state"] f3 fd3) (G_Timetable : FnOk P w K mg base CX0 2 f3 fd3 ["self", "network", "state"] (spTmI K C))
    (M_time_of : Mf K C "time_of" "Timetable.time_of" s_Timetable_time_of ["self", "place", "number"] f4 fd4) (G_time_of : FnOk P w K mg base CX0 5 f4 fd4 ["self", "place", "number"] (spTime K C)) (M_passenger : Mf K C "passenger" "Timetable.passenger" s_Timetable_passenger ["self", "place", "number"] f5 fd5) (G_passenger : FnOk P w K mg base CX0 22 f5 fd5 ["self", "place", "number"] (spPsgPt K C)) :
    FnOk P w K mg base CX0 23 f fd ["network", "state", "port", "number"] (spFinr K) := by
  have G_check_count : FnOk P w K mg base CX0 1 f2 fd2 _ _ := ok_check_count D_check_count
  obtain ⟨tMC, g_MAX_COUNT⟩ := Cm0.g_MAX_COUNT
  refine D.F.ok sc_finisher (fun vs H Q E h => ?_) (fun cdv A outer s H vs Q E hr h => ?_)
  · obtain ⟨v, u, N, p, qs, z, n, T0, rfl, _⟩ := h
    rfl
  · obtain ⟨v, u, N, p, qs, z, n, T0, rfl, hN, hV, h8, hu, hS, hn1, hn2, hnT, hT0, hT1, q⟩ := h
    refine ⟨_, (pss_cons (ps_expr (pe_call (G_check_state) (hr.mono (by decide)) rfl D_check_state.g D_check_state.F.kp D_check_state.b .nil pass0 (pa_cons (pv 0) (pa_cons (pv 1) pa_nil))))
      (pss_cons (ps_expr (pe_call (G_check_count) (hr.mono (by decide)) rfl D_check_count.g D_check_count.F.kp D_check_count.b .nil pass0 (pa_cons (pv 3) (pa_cons pe_int (pa_cons (pe_glob (v := .int 1000000000000000000) rfl g_MAX_COUNT ⟨_, rfl⟩) pa_nil)))))
      (pss_cons (ps_if (pt_cmpR ((op_notInU (K := K) (P := P) (w := w))) (pv 2) (pe_call (G_ports) (hr.mono (by decide)) rfl D_ports.g D_ports.F.kp D_ports.b .nil pass0 (pa_cons (pv 0) pa_nil)) (by rfl)) (pss_one (ps_ret pe_non)) pss_nil)
      (pss_cons (ps_set (i := 4) sc_finisher.nd rfl (Or.inl rfl) (pe_make C_Timetable.mkK (G_Timetable) (hr.mono (by decide)) rfl C_Timetable.g C_Timetable.b .nil pass0 (pa_cons (pv 0) (pa_cons (pv 1) pa_nil))))
      (pss_one (ps_ret (pe_tup (pa_cons (pe_meth (pv 4) F.c M_passenger.m (G_passenger) (hr.mono (by decide)) M_passenger.b .nil pass0 (pa_cons (pv 2) (pa_cons (pv 3) pa_nil))) (pa_cons (pe_meth (pv 4) F.c M_time_of.m (G_time_of) (hr.mono (by decide)) M_time_of.b .nil pass0 (pa_cons (pv 2) (pa_cons (pv 3) pa_nil))) pa_nil))))))))), ?_⟩
    walk_at "run"
    refine ⟨v, u, N, p, qs, rfl, hN, hV, hu, hS, fun H1 e1 => ?_⟩
    walk_at "run"
    refine ⟨n, 1, 1000000000000000000, rfl, hn1, hn2, ?_⟩
    walk_at "run"
    have L := lensL hS
    have LQ := lensQ hS
    have J := jn_of hV
    have hC := hV.cnt
    have hp1 := hV.pos
    obtain ⟨hz, hpl⟩ := port_nms hV J.fw L (t := T0) (z := z) (by omega)
    refine ⟨v, N, rfl, Dp.ex e1 hN, hV, fun H2 l zs e2 _ hl hP => ?_⟩
    refine .inl ⟨l, _, rfl, .inl (SqL.of hl), rfl, by rw [List.all_map]; exact List.all_eq_true.mpr fun _ _ => rfl, ?_⟩
    rw [if_pos rfl, inV_strs, decide_eq_true ((hP.2.2 z).mpr hz)]
    refine ⟨_, rfl, ?_⟩
    rw [if_neg (by decide)]
    walk_at "run"
    refine x_make fun a dx H3 na e3 h3 => ?_
    have e03 := e1.trans (e2.trans e3)
    have hq8 : ∀ q ∈ qs, q.length ≤ 1000 := fun q hq => by
      obtain ⟨k, hk⟩ := List.mem_iff_getElem?.mp hq
      have hkl := (List.getElem?_eq_some_iff.mp hk).1
      have hkN : k < N.length := by rw [← hS.len]; exact hkl
      have h2 : N[k]? = some (N.getD k []) := by simp [List.getD_eq_getElem?_getD, hkN]
      have := hS.lt k _ _ hk h2
      have := (J.st k hkN).2
      omega
    refine ⟨N, p, qs, a, dx, v, u, rfl, h3, Dp.ex e03 hN, hC, Dp.ex e03 hu, by rw [hS.len]; omega, hq8, fun H4 M ea W e4 nK hKa => ⟨rfl, ?_⟩⟩
    subst ea
    walk_at "run"
    refine x_meth W.ins fs_passenger ?_
    refine ⟨N, lens qs, p, qs, M, 0, z, n, T0, rfl, W, hC, L, LQ, J, h8, hp1, by decide, hpl, hn1, hnT, hT0, hT1, fun H5 y W5 e5 hy => ?_⟩
    refine x_meth W5.ins fs_time_of ?_
    refine ⟨N, lens qs, p, qs, M, 2300, .inr z, n, T0, rfl, W5.le (by decide), hC, L, J.fw, by decide, hpl, hn1, hnT, hT0, hT1, fun H6 t W6 e6 ht1 htT hlo hhi => ?_⟩
    refine x_tup (by simp) fun r H7 n7 e7 h7 => ?_
    have na0 : H M.a = none := fresh_back (e1.trans e2) na
    have nK0 : H M.Kd = none := fresh_back e03 nK
    exact q H7 r y t (fun x o h => e7 _ _ (e6 _ _ (ne_of_none h nK0) (e5 _ _ (ne_of_none h nK0) (e4 _ _ (ne_of_none h na0) (e03 _ _ h))))) h7 hy ht1 htT hlo hhi
end
end K
set_option Elab.async false
set_option linter.all false
set_option maxRecDepth 100000
set_option maxHeartbeats 1000000
set_option exponentiation.threshold 20000
namespace K
open PySem PySem.Spec PyProof.Rows L2 Evl FB
local macro_rules | `(tactic| walk_at "run") => `(tactic| try simp only [tSeq, tAsg, tVar, tC, gName, L2.start, List.map_cons, List.map_nil, List.cons_append, List.nil_append, List.length_cons, List.length_nil, List.replicate, List.getElem?_cons_zero, List.getElem?_cons_succ, Option.some.injEq, exists_eq_left', List.set_cons_zero, List.set_cons_succ, V.ref.injEq, tRet, x_tLst, x_tTup, tCons, tCB, tNil, tOp, x_addI, x_mulI, x_rI, x_rI0, x_ltI, x_leI, x_ltS, x_leS, x_eqI, x_neI, x_eqS, x_eqB, x_neB, x_isiI, x_isiS, x_int, x_max, x_min, cxOf, tIfS, tNext, tTest, V.bl.injEq, decide_eq_true_eq, gSub, tAnd, tOr, tNot, tB, tDrop, tBM, x_tFor, iRng1, iList, iTup, x_tLc, tYes, tCall, tIf, tAndV, tOrV, tNotV, tChain, List.append_nil, tUn, if_true, wipe, true_and, x_never, iU, x_itS, kV, Nat.reduceAdd, Nat.reduceSub, List.replicate_zero, x_rU, x_tMkO, iEnumT, x_tDc, x_tDGet, x_tDGet2, x_sDPut, x_tDSetd, x_tDNewK, x_iItems, x_iZip, x_tSAddK, x_tLockV, x_tTupRg, x_tRg2, tPar, tPar3, tBM0, tSl, tNoPart, tPart, x_tSetAdd, x_tDIn, x_iKeys, x_iZipX, x_iZip3, iRevR, tRg1, x_tFld, x_tMeth, x_sFld, x_tMake, tAug, x_ipI, x_tDNotIn, iRng2])
/-! check_station; boat -/
section
variable {P : Program} {w : World} {K : PySem.W.Frag} {mg : Str → Option Value} {base : Heap}
theorem inV_int2 {z : Int} : ∀ {zs : List Int}, inV (.int z) (zs.map V.int) = decide (z ∈ zs) := by
  intro zs
  unfold inV
  induction zs with
  | nil => rfl
  | cons n r ih =>
    rw [List.map_cons, List.any_cons, ih]
    by_cases e : n = z
    · simp [eqV, e]
    · have : ¬ z = n := fun h => e h.symm
      simp [eqV, e, this]
abbrev s_check_station : Stmt := top 9
theorem sc_check_station : FnScope ["network", "station"] ["network", "station"] (defScope s_check_station) := ⟨rfl, rfl, rfl, by decide +kernel, rfl, by decide +kernel, by decide +kernel⟩
def spStat (K : PySem.W.Frag) : Sp := fun vs H Q _ => ∃ (v : V) (N : Net) (k : Nat), vs = [v, .int (k : Int)] ∧ NetAt K H v N ∧ k < N.length ∧ Q .non H
theorem ok_check_station0 {f : Addr} {fd : FuncData} (D : Df K mg "check_station" s_check_station ["network", "station"] f fd) (T : Bt mg) : FnOk P w K mg base CX0 1 f fd ["network", "station"] (spStat K) := by
  refine D.F.ok sc_check_station (fun vs H Q E h => ?_) (fun cdv A outer s H vs Q E hr h => ?_)
  · obtain ⟨v, N, k, rfl, _⟩ := h
    rfl
  · obtain ⟨v, N, k, rfl, hN, hk, q⟩ := h
    refine ⟨_, (pss_one (ps_if (pt_not (pt_chain (op_leU) (op_ltU) pe_int (pv 1) (pe_callB (call_lenU (K := K)) (by rfl) T.b_len (by decide +kernel) (pa_cons (pv 0) pa_nil)))) pss_never pss_nil)), ?_⟩
    walk_at "run"
    obtain ⟨na, ns, rfl, hNs, hns⟩ := hN.at
    have hnl : ns.length = N.length := by rw [hns.len, List.length_map]
    rw [if_pos (by omega)]
    refine x_lenT hNs ?_
    rw [hnl]
    walk_at "run"
    rw [if_neg (by simp; omega)]
    exact q
abbrev s_boat : Stmt := top 34
theorem sc_boat : FnScope ["network", "state", "station", "number", "table"] ["network", "state", "station", "number"] (defScope s_boat) := ⟨rfl, rfl, rfl, by decide +kernel, rfl, by decide +kernel, by decide +kernel⟩
/-- the n-th boat of a station, if by a time T0 it has departed -/
def spBoatG (K : PySem.W.Frag) : Sp := fun vs H Q _ => ∃ (v u : V) (N : Net) (p : Int) (qs : Qs) (k : Nat) (b T0 : Int), vs = [v, u, .int (k : Int), .int b] ∧ NetAt K H v N ∧ ValidN N ∧ N.length ≤ 8 ∧ Dp K H u (stateD p qs) ∧ StOk N p qs ∧ k < N.length ∧ 1 ≤ b ∧ b ≤ 1000000000000000000 ∧ b ≤ bt N (lens qs) T0 k ∧ 0 ≤ T0 ∧ T0 ≤ 1000000000000000000 ∧
  ∀ H' r l (zs : List Int) (t : Int), Ex H H' → H' r = some (.tup [.ref l, .int t]) → Dp K H' (.ref l) (qD zs) → zs.length = (N.getD k []).length → (∀ (i : Nat) z, zs[i]? = some z → PsgR N (lens qs) p qs k ((b - 1) * ((N.getD k []).length : Int) - (lens qs).getD k 0 + 1 + (i : Int)) z) → 1 ≤ t → t ≤ T0 → bt N (lens qs) (t - 1) k < b → b ≤ bt N (lens qs) t k → Q (.ref r) H'
theorem ok_boat {C f f1 f2 f3 f4 f5 f6 f7 : Addr} {fd fd1 fd2 fd3 fd4 fd5 fd6 fd7 : FuncData} (D : Df K mg "boat" s_boat ["network", "state", "station", "number"] f fd) (T : Bt mg) (F : TF K C) (Cm0 : Cm mg) (D_check_state : Df K mg "check_state" s_check_state ["network", "state"] f1 fd1) (G_check_state : FnOk P w K mg base CX0 5 f1 fd1 ["network", "state"] (spState K))
    (D_check_count : Df K mg "check_count" s_check_count ["count", "least", "most"] f2 fd2) (D_check_station : Df K mg "check_station" s_check_station ["network", "station"] f7 fd7) (D_reachable_stations : Df K mg "reachable_stations" s_reachable_stations ["network"] f6 fd6) (G_reachable_stations : FnOk P w K mg base CX0 5 f6 fd6 ["network"] (spReach K)) (C_Timetable : Cf K mg "Timetable" "Timetable.__init__" C s_Timetable___init ["self", "network", "state"] f3 fd3) (G_Timetable : FnOk P w K mg base CX0 2 f3 fd3 ["self", "network", "state"] (spTmI K C))
    (M_departure_time : Mf K C "departure_time" "Timetable.departure_time" s_Timetable_departure_time ["self", "station", "boat_number"] f4 fd4) (G_departure_time : FnOk P w K mg base CX0 6 f4 fd4 ["self", "station", "boat_number"] (spDpt K C)) (M_boat_passengers : Mf K C "boat_passengers" "Timetable.boat_passengers" s_Timetable_boat_passengers ["self", "station", "boat_number"] f5 fd5) (G_boat_passengers : FnOk P w K mg base CX0 23 f5 fd5 ["self", "station", "boat_number"] (spBtP K C)) :
    FnOk P w K mg base CX0 24 f fd ["network", "state", "station", "number"] (spBoatG K) := by
  have G_check_count : FnOk P w K mg base CX0 1 f2 fd2 _ _ := ok_check_count D_check_count
  have G_check_station : FnOk P w K mg base CX0 1 f7 fd7 _ _ := ok_check_station0 D_check_station T
  obtain ⟨tMC, g_MAX_COUNT⟩ := Cm0.g_MAX_COUNT
  refine D.F.ok sc_boat (fun vs H Q E h => ?_) (fun cdv A outer s H vs Q E hr h => ?_)
  · obtain ⟨v, u, N, p, qs, k, b, T0, rfl, _⟩ := h
    rfl
  · obtain ⟨v, u, N, p, qs, k, b, T0, rfl, hN, hV, h8, hu, hS, hk, hb1, hb2, hbT, hT0, hT1, q⟩ := h
    refine ⟨_, (pss_cons (ps_expr (pe_call (G_check_state) (hr.mono (by decide)) rfl D_check_state.g D_check_state.F.kp D_check_state.b .nil pass0 (pa_cons (pv 0) (pa_cons (pv 1) pa_nil))))
      (pss_cons (ps_expr (pe_call (G_check_station) (hr.mono (by decide)) rfl D_check_station.g D_check_station.F.kp D_check_station.b .nil pass0 (pa_cons (pv 0) (pa_cons (pv 2) pa_nil))))
      (pss_cons (ps_expr (pe_call (G_check_count) (hr.mono (by decide)) rfl D_check_count.g D_check_count.F.kp D_check_count.b .nil pass0 (pa_cons (pv 3) (pa_cons pe_int (pa_cons (pe_glob (v := .int 1000000000000000000) rfl g_MAX_COUNT ⟨_, rfl⟩) pa_nil)))))
      (pss_cons (ps_if (pt_cmpR ((op_notInU (K := K) (P := P) (w := w))) (pv 2) (pe_call (G_reachable_stations) (hr.mono (by decide)) rfl D_reachable_stations.g D_reachable_stations.F.kp D_reachable_stations.b .nil pass0 (pa_cons (pv 0) pa_nil)) (by rfl)) (pss_one (ps_ret pe_non)) pss_nil)
      (pss_cons (ps_set (i := 4) sc_boat.nd rfl (Or.inl rfl) (pe_make C_Timetable.mkK (G_Timetable) (hr.mono (by decide)) rfl C_Timetable.g C_Timetable.b .nil pass0 (pa_cons (pv 0) (pa_cons (pv 1) pa_nil))))
      (pss_one (ps_ret (pe_tup (pa_cons (pe_meth (pv 4) F.c M_boat_passengers.m (G_boat_passengers) (hr.mono (by decide)) M_boat_passengers.b .nil pass0 (pa_cons (pv 2) (pa_cons (pv 3) pa_nil))) (pa_cons (pe_meth (pv 4) F.c M_departure_time.m (G_departure_time) (hr.mono (by decide)) M_departure_time.b .nil pass0 (pa_cons (pv 2) (pa_cons (pv 3) pa_nil))) pa_nil)))))))))), ?_⟩
    walk_at "run"
    refine ⟨v, u, N, p, qs, rfl, hN, hV, hu, hS, fun H1 e1 => ?_⟩
    walk_at "run"
    refine ⟨v, N, k, rfl, Dp.ex e1 hN, hk, ?_⟩
    walk_at "run"
    refine ⟨b, 1, 1000000000000000000, rfl, hb1, hb2, ?_⟩
    walk_at "run"
    have L := lensL hS
    have LQ := lensQ hS
    have J := jn_of hV
    have hC := hV.cnt
    have hp1 := hV.pos
    have hfk := fnd_le (N := N) (k : Int) (show k ≤ N.length by omega) (bt_fnd hV J.fw L (t := T0) k hk (by omega))
    refine ⟨v, N, rfl, Dp.ex e1 hN, hV, fun H2 l ns e2 _ hl hR => ?_⟩
    refine .inl ⟨l, _, rfl, .inl (SqL.of hl), rfl, by rw [List.all_map]; exact List.all_eq_true.mpr fun _ _ => rfl, ?_⟩
    rw [if_pos rfl, inV_int2, decide_eq_true ((hR.2 _).mpr hfk)]
    refine ⟨_, rfl, ?_⟩
    rw [if_neg (by decide)]
    walk_at "run"
    refine x_make fun a dx H3 na e3 h3 => ?_
    have e03 := e1.trans (e2.trans e3)
    have hq8 : ∀ q ∈ qs, q.length ≤ 1000 := fun q hq => by
      obtain ⟨j, hj⟩ := List.mem_iff_getElem?.mp hq
      have hjl := (List.getElem?_eq_some_iff.mp hj).1
      have hjN : j < N.length := by rw [← hS.len]; exact hjl
      have h2 : N[j]? = some (N.getD j []) := by simp [List.getD_eq_getElem?_getD, hjN]
      have := hS.lt j _ _ hj h2
      have := (J.st j hjN).2
      omega
    refine ⟨N, p, qs, a, dx, v, u, rfl, h3, Dp.ex e03 hN, hC, Dp.ex e03 hu, by rw [hS.len]; omega, hq8, fun H4 M ea W e4 nK hKa => ⟨rfl, ?_⟩⟩
    subst ea
    walk_at "run"
    refine x_meth W.ins fs_boat_passengers ?_
    refine ⟨N, lens qs, p, qs, M, 0, k, b, T0, rfl, W, hC, L, LQ, J, h8, by decide, hk, hb1, hbT, hT0, hT1, fun H5 lz zs W5 e5 hz hzl hps => ?_⟩
    refine x_meth W5.ins fs_departure_time ?_
    refine ⟨N, lens qs, p, qs, M, 20000, k, b, T0, rfl, W5.le (by decide), hC, L, J.fw, by decide, hk, hb1, hbT, hT0, hT1, fun H6 t W6 e6 ht1 htT hlo hhi => ?_⟩
    refine x_tup (by simp) fun r H7 n7 e7 h7 => ?_
    have na0 : H M.a = none := fresh_back (e1.trans e2) na
    have nK0 : H M.Kd = none := fresh_back e03 nK
    have t56 := W5.tx e6
    exact q H7 r lz zs t (fun x o h => e7 _ _ (e6 _ _ (ne_of_none h nK0) (e5 _ _ (ne_of_none h nK0) (e4 _ _ (ne_of_none h na0) (e03 _ _ h))))) h7 (Dp.tx (t56.trans (TX.of e7)) hz (qD_t zs)) hzl hps ht1 htT hlo hhi
end
end K
set_option Elab.async false
set_option linter.all false
set_option maxRecDepth 100000
set_option maxHeartbeats 4000000
namespace K
open PySem PySem.Spec PyProof.Rows L2 Evl FB
local macro_rules | `(tactic| walk_at "run") => `(tactic| try simp only [tSeq, tAsg, tVar, tC, gName, L2.start, List.map_cons, List.map_nil, List.cons_append, List.nil_append, List.length_cons, List.length_nil, List.replicate, List.getElem?_cons_zero, List.getElem?_cons_succ, Option.some.injEq, exists_eq_left', List.set_cons_zero, List.set_cons_succ, V.ref.injEq, tRet, x_tLst, x_tTup, tCons, tCB, tNil, tOp, x_addI, x_mulI, x_rI, x_rI0, x_ltI, x_leI, x_ltS, x_leS, x_eqI, x_neI, x_eqS, x_eqB, x_neB, x_isiI, x_isiS, x_int, x_max, x_min, cxOf, tIfS, tNext, tTest, V.bl.injEq, decide_eq_true_eq, gSub, tAnd, tOr, tNot, tB, tDrop, tBM, x_tFor, iRng1, iList, iTup, x_tLc, tYes, tCall, tIf, tAndV, tOrV, tNotV, tChain, List.append_nil, tUn, if_true, wipe, true_and, x_never, iU, x_itS, kV, Nat.reduceAdd, Nat.reduceSub, List.replicate_zero, x_rU, x_tMkO, iEnumT, x_tDc, x_tDGet, x_tDGet2, x_sDPut, x_tDSetd, x_tDNewK, x_iItems, x_iZip, x_tSAddK, x_tLockV, x_tTupRg, x_tRg2, tPar, tPar3, tBM0])
theorem Drawn.jn {N : Net} {most : Int} (D : Drawn N most) (h : most ≤ 40) : JN N where
  le := by have := D.le; omega
  st := fun k hk => by
    have e : N[k]? = some (N.getD k []) := by simp [List.getD_eq_getElem?_getD, hk]
    have := D.st k _ e
    exact ⟨this.1, this.2.1⟩
  fw := fun i hi j hj => by
    have e : N[i]? = some (N.getD i []) := by simp [List.getD_eq_getElem?_getD, hi]
    exact (D.st i _ e).2.2 _ hj
/-- a state while it is drawn -/
structure LS (K : PySem.W.Frag) (H0 H : Hp) (N : Net) (h b Qa Fa : Addr) (as : List Addr) (qs : Qs) (fs : List (Str × Int)) (p : Int) (i : Nat) : Prop where
  gen : Gen H h b
  q : QsAt K H Qa as qs
  f : FinAt K H Fa fs
  sh : Short N qs
  nd : qs.flatten.Nodup
  rg : ∀ x ∈ qs.flatten, 1 ≤ x ∧ x < p
  pos : 1 ≤ p
  le : fs.length + qs.flatten.length ≤ i
  ex : Ex2 h b H0 H
/-- the lists of the state are new -/
structure Nw (H0 : Hp) (h b Qa Fa : Addr) (as : List Addr) : Prop where
  g : Gen H0 h b
  q : H0 Qa = none
  f : H0 Fa = none
  a : ∀ a ∈ as, H0 a = none
  fq : Fa ≠ Qa
  fa : Fa ∉ as
section
variable {K : PySem.W.Frag} {H0 H H2 : Hp} {N : Net} {h b Qa Fa : Addr} {as : List Addr} {qs qs' : Qs} {fs fs' : List (Str × Int)} {p p' : Int} {i i' : Nat}
theorem LS.ex1 (W : LS K H0 H N h b Qa Fa as qs fs p i) (e : Ex H H2) : LS K H0 H2 N h b Qa Fa as qs fs p i :=
  { W with gen := W.gen.ex e, q := W.q.ex e, f := W.f.e e, ex := W.ex.ex e }
theorem LS.dr (W : LS K H0 H N h b Qa Fa as qs fs p i) (n : Nw H0 h b Qa Fa as) (g : Gen H2 h b) (e : Ex2 h b H H2) : LS K H0 H2 N h b Qa Fa as qs fs p i :=
  { W with gen := g, q := W.q.ex2 e ⟨n.g.na n.q, n.g.nb n.q⟩ (fun a ha => ⟨n.g.na (n.a a ha), n.g.nb (n.a a ha)⟩), f := W.f.tx (W.gen.tx e) (fun o ho => e _ _ ho (n.g.na n.f) (n.g.nb n.f)), ex := W.ex.trans e }
theorem LS.more (W : LS K H0 H N h b Qa Fa as qs fs p i) (hi : i ≤ i') : LS K H0 H N h b Qa Fa as qs fs p i' := { W with le := by have := W.le; omega }
/-- the queues and the list of who finished are others now -/
theorem LS.put (W : LS K H0 H N h b Qa Fa as qs fs p i) (n : Nw H0 h b Qa Fa as) (e : Ex3 as Fa H H2) (q2 : QsAt K H2 Qa as qs') (f2 : FinAt K H2 Fa fs') (sh : Short N qs') (nd : qs'.flatten.Nodup) (rg : ∀ x ∈ qs'.flatten, 1 ≤ x ∧ x < p') (pos : 1 ≤ p') (le : fs'.length + qs'.flatten.length ≤ i') :
    LS K H0 H2 N h b Qa Fa as qs' fs' p' i' := by
  have no : ∀ x o, H0 x = some o → x ≠ Fa ∧ x ∉ as := fun x o hx => ⟨ne_of_none hx n.f, fun z => ne_of_none hx (n.a x z) rfl⟩
  obtain ⟨m, c, ns, g1, g2, g3⟩ := n.g
  obtain ⟨m2, c2, ns2, k1, k2, k3⟩ := W.gen
  refine ⟨⟨m2, c2, ns2, e _ _ k1 (no _ _ g1).1 (no _ _ g1).2, e _ _ k2 (no _ _ g2).1 (no _ _ g2).2, k3⟩, q2, f2, sh, nd, rg, pos, le, fun x o hx ha hb => e _ _ (W.ex x o hx ha hb) (no _ _ hx).1 (no _ _ hx).2⟩
end
theorem MeetsSeq_idx {k n : Nat} (h : k < n) : seqIndex? (k : Int) n = some k := by
  unfold seqIndex?
  have h1 : ¬ (k : Int) < 0 := by omega
  rw [if_neg h1]
  have h2 : (decide (0 ≤ (k : Int)) && decide ((k : Int) < (n : Int))) = true := by
    rw [Bool.and_eq_true, decide_eq_true_eq, decide_eq_true_eq]; omega
  show (if (decide (0 ≤ (k : Int)) && decide ((k : Int) < (n : Int))) = true then some ((k : Int)).toNat else none) = some k
  rw [if_pos h2]
  rfl
theorem eraseIdx_mapV : ∀ {l : List Int} {k : Nat}, (l.map V.int).eraseIdx k = (l.eraseIdx k).map V.int
  | [], _ => by simp
  | a :: r, 0 => rfl
  | a :: r, k + 1 => by
    show V.int a :: (r.map V.int).eraseIdx k = V.int a :: (r.eraseIdx k).map V.int
    rw [eraseIdx_mapV]
theorem sub_of_pm {a b c : List Int} (h : (a ++ b).Perm c) : (c.Nodup → a.Nodup) ∧ ∀ x ∈ a, x ∈ c :=
  ⟨fun n => (List.nodup_append.mp (h.nodup_iff.mpr n)).1, fun x hx => h.mem_iff.mp (List.mem_append_left _ hx)⟩
/-- a passenger put into a queue, or an arrival -/
def tThird (K : PySem.W.Frag) : TS := tIfS (tAnd (tTest (tOp (rEqU K) (tVar 8) (tC (V.int 2)))) (tTest (tOp rLtU (tOp (rAddU K) (tCB (rLenU K) (tCons (tOp (rIx K) (tVar 4) (tVar 3)) tNil)) (tC (V.int 1))) (tCB (rLenU K) (tCons (tOp (rIx K) (tVar 1) (tVar 3)) tNil)))))
    (tSeq (tDrop (tBM K "list" rAppend (tOp (rIx K) (tVar 4) (tVar 3)) (tCons (tVar 5) tNil))) (tAsg (tOp (rAddU K) (tVar 5) (tC (V.int 1))) (gName 5)))
    (tSeq (tDrop (tCall (spJoinL K 8) [] E0 (tCons (tVar 1) (tCons (tVar 4) (tCons (tC (V.int 0)) (tCons (tVar 5) (tCons (tVar 6) tNil))))))) (tAsg (tOp (rAddU K) (tVar 5) (tC (V.int 1))) (gName 5)))
def tSecond (K : PySem.W.Frag) : TS := tIfS (tAnd (tTest (tOp (rEqU K) (tVar 8) (tC (V.int 1)))) (tTest (tOp (rNeU K) (tOp (rIx K) (tVar 4) (tVar 3)) (tLst tNil))))
    (tDrop (tBM K "list" rPopAt (tOp (rIx K) (tVar 4) (tVar 3)) (tCons (tCall spNext [] E0 (tCons (tVar 0) (tCons (tCB (rLenU K) (tCons (tOp (rIx K) (tVar 4) (tVar 3)) tNil)) tNil))) tNil))) (tThird K)
def tFirst (K : PySem.W.Frag) : TS := tIfS (tAnd (tTest (tOp (rEqU K) (tVar 8) (tC (V.int 0)))) (tTest (tOp (rNeU K) (tOp (rIx K) (tVar 4) (tVar 3)) (tLst tNil))))
    (tDrop (tCall (spDepartL K 8) [] E0 (tCons (tVar 1) (tCons (tVar 4) (tCons (tVar 3) (tCons (tVar 6) tNil)))))) (tSecond K)
section
variable {K : PySem.W.Frag} {H0 H : Hp} {N : Net} {h b Qa Fa vn : Addr} {us : List V} {as : List Addr} {qs : Qs} {fs : List (Str × Int)} {p most kd : Int} {i st : Nat} {u7 u9 : Option V} {D : Ends}
theorem LS.total (W : LS K H0 H N h b Qa Fa as qs fs p i) : qs.length = N.length := W.sh.len
theorem state_third (hJ : JN N) (hD8 : N.length ≤ 8) (h0 : 1 ≤ N.length) (hU : SqT K H0 vn us) (hus : DpAll K H0 us (N.map stD)) (n : Nw H0 h b Qa Fa as) (hst : st < N.length) (hi : i ≤ 1000) (W : LS K H0 H N h b Qa Fa as qs fs p i) (nx : ∀ p' qs' fs' H1, LS K H0 H1 N h b Qa Fa as qs' fs' p' (i + 1) → D.nx [some (.ref h), some (.ref vn), some (.int most), some (.int (st : Nat)), some (.ref Qa), some (.int p'), some (.ref Fa), u7, some (.int kd), u9] H1) : tThird K D [some (.ref h), some (.ref vn), some (.int most), some (.int (st : Nat)), some (.ref Qa), some (.int p), some (.ref Fa), u7, some (.int kd), u9] H := by
  have t := n.g.tx W.ex
  have hsq : st < qs.length := by rw [W.total]; exact hst
  have hle := W.le
  have join : spJoinL K 8 [.ref vn, .ref Qa, .int 0, .int p, .ref Fa] H (fun _ H1 => D.nx [some (.ref h), some (.ref vn), some (.int most), some (.int (st : Nat)), some (.ref Qa), some (.int (p + 1)), some (.ref Fa), u7, some (.int kd), u9] H1) E0 := by
    have h0q : 0 < qs.length := by rw [W.total]; omega
    obtain ⟨jl, jp⟩ := joinW_pm (departW_pm hJ.fw 8) (p := p) h0q W.total
    obtain ⟨j1, _⟩ := joinW_ok (fun k hk => (hJ.st k hk).1) (departW_ok (fun k hk => (hJ.st k hk).1) hJ.fw 8) (p := p) W.sh (j := 0) (by omega) (by omega)
    have hlen := jp.length_eq
    rw [List.length_append, List.length_append, List.length_map, show [p].length = 1 from rfl] at hlen
    have hsub := sub_of_pm jp
    refine ⟨_, N, Qa, Fa, as, qs, fs, 0, p, rfl, .tup (t.t hU) (DpAll.tx t hus (netD_t N).all), hJ, W.q, W.f, n.fq, n.fa, W.sh, by omega, by omega, by omega, fun H1 e1 q1 f1 => nx _ _ _ _ (W.put n e1 q1 f1 j1 ?_ ?_ (by have := W.pos; omega) ?_)⟩
    · refine hsub.1 ?_
      rw [List.nodup_append]
      refine ⟨W.nd, by simp, fun a ha b hb e => ?_⟩
      rw [List.mem_singleton.mp hb] at e
      have := (W.rg a ha).2
      omega
    · intro x hx
      rcases List.mem_append.mp (hsub.2 x hx) with h | h
      · have := W.rg x h; omega
      · rw [List.mem_singleton.mp h]; have := W.pos; omega
    · rw [List.length_append]
      omega
  unfold tThird
  walk_at "run"
  by_cases h2 : kd = 2
  · rw [if_pos h2]
    obtain ⟨a, ha, hHa, ham⟩ := W.q.get hsq
    have haj : (as.map V.ref)[st]? = some (.ref a) := by simp [ha]
    obtain ⟨sv, hsv, hsd⟩ := hus.get (show (N.map stD)[st]? = some (stD (N.getD st [])) by simp [List.getD_eq_getElem?_getD, hst])
    obtain ⟨bs, rfl, hbs⟩ := StAt.at hsd
    obtain ⟨h1s, h8s⟩ := hJ.st st hst
    refine x_ixL (SqL.of W.q.at_) (atI_nat haj) (x_lenL (SqL.of hHa) ?_)
    walk_at "run"
    refine x_ixT (t.t hU) (atI_nat hsv) (x_lenT (t.t hbs) ?_)
    rw [List.length_map, List.length_map]
    walk_at "run"
    by_cases hlt : (qs.getD st []).length + 1 < (N.getD st []).length
    · rw [if_pos (by omega)]
      refine x_ixL (SqL.of W.q.at_) (atI_nat haj) ⟨x_tyL (SqL.of hHa), x_append hHa (by rw [List.length_map]; omega) fun H1 e1 h1 => ?_⟩
      have hQ1 : QsAt K H1 Qa as (qs.set st (qs.getD st [] ++ [p])) := W.q.set ha e1 (by rw [h1, List.map_append]; rfl)
      have hFa : a ≠ Fa := fun z => n.fa (by rw [← z]; exact ham)
      have hpm := set_perm (p := p) hsq
      have hlen := hpm.length_eq
      rw [List.length_append, show [p].length = 1 from rfl] at hlen
      refine nx _ _ _ _ (W.put n (fun x o hx h1 h2 => e1 x o (fun z => h2 (by rw [z]; exact ham)) hx) hQ1 (W.f.tx (TX.but hHa e1) fun o ho => e1 _ _ hFa.symm ho) ⟨by rw [List.length_set]; exact W.total, fun k hk => ?_⟩ ?_ (fun x hx => ?_) (by have := W.pos; omega) (by omega))
      · rw [getD_set' hsq]
        split
        · rename_i e; subst e; rw [List.length_append, show [p].length = 1 from rfl]; exact hlt
        · exact W.sh.lt k hk
      · rw [hpm.nodup_iff, List.nodup_append]
        refine ⟨W.nd, by simp, fun a ha b hb e => ?_⟩
        rw [List.mem_singleton.mp hb] at e
        have := (W.rg a ha).2
        omega
      · rcases List.mem_append.mp (hpm.mem_iff.mp hx) with h | h
        · have := W.rg x h; omega
        · rw [List.mem_singleton.mp h]; have := W.pos; omega
    · rw [if_neg (by omega)]
      exact join
  · rw [if_neg h2, if_neg Bool.false_ne_true]
    exact join
theorem state_second (hJ : JN N) (hD8 : N.length ≤ 8) (h0 : 1 ≤ N.length) (hU : SqT K H0 vn us) (hus : DpAll K H0 us (N.map stD)) (n : Nw H0 h b Qa Fa as) (hst : st < N.length) (hi : i ≤ 1000) (W : LS K H0 H N h b Qa Fa as qs fs p i) (nx : ∀ p' qs' fs' H1, LS K H0 H1 N h b Qa Fa as qs' fs' p' (i + 1) → D.nx [some (.ref h), some (.ref vn), some (.int most), some (.int (st : Nat)), some (.ref Qa), some (.int p'), some (.ref Fa), u7, some (.int kd), u9] H1) : tSecond K D [some (.ref h), some (.ref vn), some (.int most), some (.int (st : Nat)), some (.ref Qa), some (.int p), some (.ref Fa), u7, some (.int kd), u9] H := by
  have t := n.g.tx W.ex
  have hsq : st < qs.length := by rw [W.total]; exact hst
  have hle := W.le
  unfold tSecond
  walk_at "run"
  by_cases h1 : kd = 1
  · rw [if_pos h1]
    obtain ⟨a, ha, hHa, ham⟩ := W.q.get hsq
    have haj : (as.map V.ref)[st]? = some (.ref a) := by simp [ha]
    refine x_ixL (SqL.of W.q.at_) (atI_nat haj) (x_neEmpty hHa fun H1 e1 => ⟨_, rfl, ?_⟩)
    have W1 := W.ex1 e1
    by_cases hq : qs.getD st [] = []
    · rw [if_neg (by rw [decide_eq_true hq]; decide)]
      exact state_third hJ hD8 h0 hU hus n hst hi W1 nx
    · rw [if_pos (by rw [decide_eq_false hq]; rfl)]
      have hql : 0 < (qs.getD st []).length := List.length_pos_iff.mpr hq
      obtain ⟨_, h8s⟩ := hJ.st st hst
      have hlt := W.sh.lt st hst
      refine x_ixL (SqL.of W1.q.at_) (atI_nat haj) ⟨x_tyL (SqL.of (e1 _ _ hHa)), x_ixL (SqL.of W1.q.at_) (atI_nat haj) (x_lenL (SqL.of (e1 _ _ hHa)) ?_)⟩
      rw [List.length_map]
      refine x_next W1.gen (by omega) (by omega) fun r H2 r0 r1 g2 e2 => ?_
      have W2 := W1.dr n g2 e2
      obtain ⟨k, rfl⟩ : ∃ k : Nat, r = (k : Int) := ⟨r.toNat, by omega⟩
      have hk : k < (qs.getD st []).length := by omega
      have hHa2 := W2.q.q st a ha
      refine ⟨a, _, (k : Int), k, .int ((qs.getD st [])[k]), rfl, rfl, hHa2, by omega, by omega, by rw [List.length_map]; exact MeetsSeq_idx hk, by rw [List.getElem?_map, List.getElem?_eq_getElem hk]; rfl, ?_⟩
      generalize hH3 : upd H2 a (.lst (((qs.getD st []).map V.int).eraseIdx k)) = H3
      have e3 : ∀ x o, x ≠ a → H2 x = some o → H3 x = some o := fun x o hx h => by rw [← hH3, upd_ne hx]; exact h
      have h3 : H3 a = some (.lst (((qs.getD st []).eraseIdx k).map V.int)) := by rw [← hH3, upd_same, eraseIdx_mapV]
      have hQ3 : QsAt K H3 Qa as (qs.set st ((qs.getD st []).eraseIdx k)) := W2.q.set ha e3 h3
      have hFa : a ≠ Fa := fun z => n.fa (by rw [← z]; exact ham)
      obtain ⟨u, v, k1, k2⟩ := flat_set (y := (qs.getD st []).eraseIdx k) (getD_some hsq)
      have hsl : (qs.set st ((qs.getD st []).eraseIdx k)).flatten.Sublist qs.flatten := by
        rw [k1, k2]
        exact ((List.Sublist.refl u).append (List.eraseIdx_sublist ..)).append (List.Sublist.refl v)
      refine nx _ _ _ _ (W2.put n (fun x o hx h1 h2 => e3 x o (fun z => h2 (by rw [z]; exact ham)) hx) hQ3 (W2.f.tx (TX.but hHa2 e3) fun o ho => e3 _ _ hFa.symm ho) ⟨by rw [List.length_set]; exact W.total, fun j hj => ?_⟩ (W.nd.sublist hsl) (fun x hx => W.rg x (hsl.subset hx)) W.pos (by have := hsl.length_le; omega))
      rw [getD_set' hsq]
      split
      · rename_i e; subst e
        have := (List.eraseIdx_sublist (qs.getD j []) k).length_le
        omega
      · exact W.sh.lt j hj
  · rw [if_neg h1, if_neg Bool.false_ne_true]
    exact state_third hJ hD8 h0 hU hus n hst hi W nx
theorem state_first (hJ : JN N) (hD8 : N.length ≤ 8) (h0 : 1 ≤ N.length) (hU : SqT K H0 vn us) (hus : DpAll K H0 us (N.map stD)) (n : Nw H0 h b Qa Fa as) (hst : st < N.length) (hi : i ≤ 1000) (W : LS K H0 H N h b Qa Fa as qs fs p i) (nx : ∀ p' qs' fs' H1, LS K H0 H1 N h b Qa Fa as qs' fs' p' (i + 1) → D.nx [some (.ref h), some (.ref vn), some (.int most), some (.int (st : Nat)), some (.ref Qa), some (.int p'), some (.ref Fa), u7, some (.int kd), u9] H1) : tFirst K D [some (.ref h), some (.ref vn), some (.int most), some (.int (st : Nat)), some (.ref Qa), some (.int p), some (.ref Fa), u7, some (.int kd), u9] H := by
  have t := n.g.tx W.ex
  have hsq : st < qs.length := by rw [W.total]; exact hst
  have hle := W.le
  unfold tFirst
  walk_at "run"
  by_cases h1 : kd = 0
  · rw [if_pos h1]
    obtain ⟨a, ha, hHa, ham⟩ := W.q.get hsq
    have haj : (as.map V.ref)[st]? = some (.ref a) := by simp [ha]
    refine x_ixL (SqL.of W.q.at_) (atI_nat haj) (x_neEmpty hHa fun H1 e1 => ⟨_, rfl, ?_⟩)
    have W1 := W.ex1 e1
    by_cases hq : qs.getD st [] = []
    · rw [if_neg (by rw [decide_eq_true hq]; decide)]
      exact state_second hJ hD8 h0 hU hus n hst hi W1 nx
    · rw [if_pos (by rw [decide_eq_false hq]; rfl)]
      have hlt := W.sh.lt st hst
      obtain ⟨dl, dp⟩ := departW_pm hJ.fw 8 qs st hsq W.total (by omega)
      obtain ⟨d1, _⟩ := departW_ok (fun k hk => (hJ.st k hk).1) hJ.fw 8 qs st (by omega) hst W.total (fun k hk _ => W.sh.lt k hk) (by omega) (hJ.st st hst).1
      have hlen := dp.length_eq
      rw [List.length_append, List.length_map] at hlen
      have hsub := sub_of_pm dp
      have t1 := n.g.tx W1.ex
      refine ⟨_, N, Qa, Fa, as, qs, fs, st, rfl, .tup (t1.t hU) (DpAll.tx t1 hus (netD_t N).all), hJ, W1.q, W1.f, n.fq, n.fa, W.total, fun k hk _ => W.sh.lt k hk, by omega, hst, by omega, by omega, fun H2 e2 q2 f2 => nx _ _ _ _ (W1.put n e2 q2 f2 d1 (hsub.1 W.nd) (fun x hx => W.rg x (hsub.2 x hx)) W.pos ?_)⟩
      rw [List.length_append]
      omega
  · rw [if_neg h1, if_neg Bool.false_ne_true]
    exact state_second hJ hD8 h0 hU hus n hst hi W nx
end
section
variable {P : Program} {w : World} {K : PySem.W.Frag} {mg : Str → Option Value} {base : Heap}
theorem ok_l_pair {f g : Addr} {fd gd : FuncData} (D_l_join : Df K mg "_law_join" s_l_join ["_law_network_here", "_law_queues", "_law_station", "_law_passenger", "_law_finished"] f fd) (T : Bt mg) (D_l_depart : Df K mg "_law_depart" s_l_depart ["_law_network_here", "_law_queues", "_law_station", "_law_finished"] g gd) : ∀ n : Nat,
    FnOk P w K mg base CX0 (2 * n) g gd ["_law_network_here", "_law_queues", "_law_station", "_law_finished"] (spDepartL K n) ∧ FnOk P w K mg base CX0 (2 * n + 1) f fd ["_law_network_here", "_law_queues", "_law_station", "_law_passenger", "_law_finished"] (spJoinL K n)
  | 0 => by
    have h0 : FnOk P w K mg base CX0 (2 * 0) g gd ["_law_network_here", "_law_queues", "_law_station", "_law_finished"] (spDepartL K 0) := FnOk.absurd fun vs H Q E ⟨_, _, _, _, _, _, _, _, _, _, _, _, _, _, _, _, _, _, h1, h2, _⟩ => by omega
    exact ⟨h0, ok_l_join D_l_join T D_l_depart h0⟩
  | n + 1 => by
    have h0 : FnOk P w K mg base CX0 (2 * (n + 1)) g gd ["_law_network_here", "_law_queues", "_law_station", "_law_finished"] (spDepartL K (n + 1)) := ok_l_depart D_l_depart T D_l_join (ok_l_pair D_l_join T D_l_depart n).2
    exact ⟨h0, ok_l_join D_l_join T D_l_depart h0⟩
abbrev s_l_state : Stmt := top 44
theorem sc_l_state : FnScope ["_law_h", "_law_network_here", "_law_most", "_law_station", "_law_queues", "_law_number", "_law_finished", "_law_k", "_law_kind", "_law_queue"] ["_law_h", "_law_network_here", "_law_most"] (defScope s_l_state) := ⟨rfl, rfl, rfl, by decide +kernel, rfl, by decide +kernel, by decide +kernel⟩
def spStateL (K : PySem.W.Frag) : Sp := fun vs H Q _ => ∃ (h b : Addr) (v : V) (N : Net) (most : Int), vs = [.ref h, v, .int most] ∧ Gen H h b ∧ NetAt K H v N ∧ Drawn N 8 ∧ 1 ≤ most ∧ most ≤ 1000 ∧
  ∀ (u : V) (p : Int) (qs : Qs) (H' : Hp), StOk N p qs → Dp K H' u (stateD p qs) → Gen H' h b → Ex2 h b H H' → Q u H'
theorem ok_l_state {f f1 f2 f3 : Addr} {fd fd1 fd2 fd3 : FuncData} (D : Df K mg "_law_state" s_l_state ["_law_h", "_law_network_here", "_law_most"] f fd) (T : Bt mg) (D_l_next : Df K mg "_law_next" s_l_next ["_law_h", "_law_limit"] f1 fd1)
    (D_l_join : Df K mg "_law_join" s_l_join ["_law_network_here", "_law_queues", "_law_station", "_law_passenger", "_law_finished"] f2 fd2) (D_l_depart : Df K mg "_law_depart" s_l_depart ["_law_network_here", "_law_queues", "_law_station", "_law_finished"] f3 fd3) : FnOk P w K mg base CX0 18 f fd ["_law_h", "_law_network_here", "_law_most"] (spStateL K) := by
  have G_l_next : FnOk P w K mg base CX0 1 f1 fd1 _ _ := ok_l_next D_l_next T
  have G_l_depart : FnOk P w K mg base CX0 16 f3 fd3 _ _ := (ok_l_pair D_l_join T D_l_depart 8).1
  have G_l_join : FnOk P w K mg base CX0 17 f2 fd2 _ _ := (ok_l_pair D_l_join T D_l_depart 8).2
  refine D.F.ok sc_l_state (fun vs H Q E h => ?_) (fun cdv A outer s H vs Q E hr h => ?_)
  · obtain ⟨a, b, v, N, most, rfl, _⟩ := h
    rfl
  · obtain ⟨h, b, v, N, most, rfl, g0, hN, hD, m0, m1, q⟩ := h
    have hu := hr.units
    refine ⟨_, (pss_cons (ps_par3 (i := 4) (j := 5) (l := 6) rfl sc_l_state.nd rfl rfl rfl (by decide) (by decide) (by decide) rfl rfl rfl (pa_cons (pe_lc (own := [("_law_station", 3)]) (g := gName 3) (tt := tYes) rfl sc_l_state.nd (pi_U (K := K) (pv 1)) (blkOk_by (own := [("_law_station", 3)]) (N := ["_law_h", "_law_network_here", "_law_most", "_law_station", "_law_queues", "_law_number", "_law_finished", "_law_k", "_law_kind", "_law_queue"]) (sc := defScope s_l_state) (by decide +kernel)) (fun _ _ _ _ _ => (pg_name (i := 3) sc_l_state.nd rfl (Or.inl rfl))) (fun _ _ _ _ _ => pts_nil) (fun _ _ _ _ _ => (pe_lst pa_nil))) (pa_cons (pe_op (op_addU (K := K)) pe_int (pe_call (G_l_next) (hr.mono (by decide)) rfl D_l_next.g D_l_next.F.kp D_l_next.b .nil pass0 (pa_cons (pv 0) (pa_cons pe_int pa_nil)))) (pa_cons (pe_lst pa_nil) pa_nil))) (by rfl))
      (pss_cons (ps_for PassesOwn.never rfl (pi_range1 (by rfl) T.b_range (pa_cons (pe_call (G_l_next) (hr.mono (by decide)) rfl D_l_next.g D_l_next.F.kp D_l_next.b .nil pass0 (pa_cons (pv 0) (pa_cons (pv 2) pa_nil))) pa_nil)) (pg_name (i := 7) sc_l_state.nd rfl (Or.inl rfl)) (pss_cons (ps_par (i := 8) (j := 3) (by rfl) sc_l_state.nd rfl rfl (by decide) rfl rfl (pa_cons (pe_call (G_l_next) (hr.mono (by decide)) rfl D_l_next.g D_l_next.F.kp D_l_next.b .nil pass0 (pa_cons (pv 0) (pa_cons pe_int pa_nil))) (pa_cons (pe_call (G_l_next) (hr.mono (by decide)) rfl D_l_next.g D_l_next.F.kp D_l_next.b .nil pass0 (pa_cons (pv 0) (pa_cons (pe_callB (call_lenU (K := K)) (by rfl) T.b_len (by decide +kernel) (pa_cons (pv 1) pa_nil)) pa_nil))) pa_nil)) (by rfl))
      (pss_one (ps_if (PW.pt (pw_and (pt_cmpR (op_eqU (K := K) hu) (pv 8) pe_int (nomark _)) (pw_and1 (pt_cmpR (op_neU (K := K) hu) (pe_ix (ix_U (K := K)) (pv 4) (pv 3) (fun _ _ => rfl)) (pe_lst pa_nil) (nomark _))))) (pss_one (ps_expr (pe_call (G_l_depart) (hr.mono (by decide)) rfl D_l_depart.g D_l_depart.F.kp D_l_depart.b .nil pass0 (pa_cons (pv 1) (pa_cons (pv 4) (pa_cons (pv 3) (pa_cons (pv 6) pa_nil))))))) (pss_one (ps_if (PW.pt (pw_and (pt_cmpR (op_eqU (K := K) hu) (pv 8) pe_int (nomark _)) (pw_and1 (pt_cmpR (op_neU (K := K) hu) (pe_ix (ix_U (K := K)) (pv 4) (pv 3) (fun _ _ => rfl)) (pe_lst pa_nil) (nomark _))))) (pss_one (ps_expr (pe_bm PySem.F.plainAttrs_list PySem.F.slot_list_pop PySem.F.type_list_pop mt_popAt (pe_ix (ix_U (K := K)) (pv 4) (pv 3) (fun _ _ => rfl)) (pa_cons (pe_call (G_l_next) (hr.mono (by decide)) rfl D_l_next.g D_l_next.F.kp D_l_next.b .nil pass0 (pa_cons (pv 0) (pa_cons (pe_callB (call_lenU (K := K)) (by rfl) T.b_len (by decide +kernel) (pa_cons (pe_ix (ix_U (K := K)) (pv 4) (pv 3) (fun _ _ => rfl)) pa_nil)) pa_nil))) pa_nil)))) (pss_one (ps_if (PW.pt (pw_and (pt_cmpR (op_eqU (K := K) hu) (pv 8) pe_int (nomark _)) (pw_and1 (pt_cmpR (op_ltU) (pe_op (op_addU (K := K)) (pe_callB (call_lenU (K := K)) (by rfl) T.b_len (by decide +kernel) (pa_cons (pe_ix (ix_U (K := K)) (pv 4) (pv 3) (fun _ _ => rfl)) pa_nil)) pe_int) (pe_callB (call_lenU (K := K)) (by rfl) T.b_len (by decide +kernel) (pa_cons (pe_ix (ix_U (K := K)) (pv 1) (pv 3) (fun _ _ => rfl)) pa_nil)) (nomark _))))) (pss_cons (ps_expr (pe_bm PySem.F.plainAttrs_list PySem.F.slot_list_append PySem.F.type_list_append mt_append (pe_ix (ix_U (K := K)) (pv 4) (pv 3) (fun _ _ => rfl)) (pa_cons (pv 5) pa_nil)))
      (pss_one (ps_set (i := 5) sc_l_state.nd rfl (Or.inl rfl) (pe_op (op_addU (K := K)) (pv 5) pe_int)))) (pss_cons (ps_expr (pe_call (G_l_join) (hr.mono (by decide)) rfl D_l_join.g D_l_join.F.kp D_l_join.b .nil pass0 (pa_cons (pv 1) (pa_cons (pv 4) (pa_cons pe_int (pa_cons (pv 5) (pa_cons (pv 6) pa_nil)))))))
      (pss_one (ps_set (i := 5) sc_l_state.nd rfl (Or.inl rfl) (pe_op (op_addU (K := K)) (pv 5) pe_int))))))))))))
      (pss_one (ps_ret (pe_tup (pa_cons (pv 5) (pa_cons (pe_callTy (call_tupU (K := K)) (by rfl) T.b_tuple (by decide +kernel) (pa_cons (pe_lc (own := [("_law_queue", 9)]) (g := gName 9) (tt := tYes) rfl sc_l_state.nd (pi_U (K := K) (pv 4)) (blkOk_by (own := [("_law_queue", 9)]) (N := ["_law_h", "_law_network_here", "_law_most", "_law_station", "_law_queues", "_law_number", "_law_finished", "_law_k", "_law_kind", "_law_queue"]) (sc := defScope s_l_state) (by decide +kernel)) (fun _ _ _ _ _ => (pg_name (i := 9) sc_l_state.nd rfl (Or.inl rfl))) (fun _ _ _ _ _ => pts_nil) (fun _ _ _ _ _ => (pe_callTy (call_tupU (K := K)) (by rfl) T.b_tuple (by decide +kernel) (pa_cons (pv 9) pa_nil)))) pa_nil)) pa_nil))))))), ?_⟩
    walk_at "run"
    obtain ⟨vn, us, rfl, hU, hus⟩ := hN.at
    have hlu : us.length = N.length := by rw [hus.len, List.length_map]
    have hN1 := hD.pos
    have hN8 := hD.le
    have hJ : JN N := hD.jn (by decide)
    refine x_itT hU (lcl_it walk_tup (fun D i H' => ∃ as : List Addr, H' D = some (.lst (as.map V.ref)) ∧ as.length = i ∧ as.Nodup ∧ D ∉ as ∧ (∀ a ∈ as, H a = none ∧ H' a = some (.lst [])) ∧ Ex H H') (fun D H' hD e h => ⟨[], h, rfl, List.nodup_nil, by simp, by simp, e⟩) (fun D i H' _ ⟨_, _, _, _, _, _, e⟩ => ex_t e hU) ?_ ?_)
    · rintro D i x H2 H2' hDn hi ⟨as, hA, hl, nd, nm, has, e2⟩ ⟨eH, hx⟩
      subst eH
      walk_at "run"
      refine x_lst (by simp) fun t H3 nt e3 ht => x_push (e3 _ _ hA) (by rw [List.length_map]; omega) fun H4 e4 h4 => ?_
      have hDt : D ≠ t := ne_of_none hA nt
      have hta : t ∉ as := fun z => ne_of_none (has t z).2 nt rfl
      refine ⟨as ++ [t], by rw [h4, List.map_append]; rfl, by simp [hl], ?_, ?_, fun a ha => ?_, fun x o hx => e4 _ _ (ne_of_none hx hDn) (e3 _ _ (e2 _ _ hx))⟩
      · exact nd_snoc nd hta
      · simp [nm, hDt]
      · rcases List.mem_append.mp ha with ha | ha
        · exact ⟨(has a ha).1, e4 _ _ (fun z => nm (by rw [← z]; exact ha)) (e3 _ _ (has a ha).2)⟩
        · rw [List.mem_singleton.mp ha]
          exact ⟨fresh_back e2 nt, e4 _ _ hDt.symm ht⟩
    · rintro Qa H1 nQ ⟨as, hA, hl, nd, nm, has, e1⟩
      rw [hlu] at hl
      refine x_next (g0.ex e1) (by decide) (by decide) fun r H2 r0 r1 g2 e2 => ?_
      walk_at "run"
      refine x_lst (by simp) fun Fa H3 nF e3 hF3 => ⟨_, _, _, rfl, ?_⟩
      have nQh : Qa ≠ h ∧ Qa ≠ b := ⟨g0.na nQ, g0.nb nQ⟩
      have nah : ∀ a ∈ as, a ≠ h ∧ a ≠ b := fun a ha => ⟨g0.na (has a ha).1, g0.nb (has a ha).1⟩
      have hQ1 : QsAt K H1 Qa as (List.replicate N.length []) := ⟨hA, by rw [List.length_replicate]; exact hl, nd, nm, fun i a ha => by
        rw [(has a (List.mem_of_getElem? ha)).2, List.getD_eq_getElem?_getD]
        cases e : (List.replicate N.length ([] : List Int))[i]? with
        | none => rfl
        | some y => rw [List.eq_of_mem_replicate (List.mem_of_getElem? e)]; rfl⟩
      have hQ2 := (hQ1.ex2 e2 nQh nah).ex e3
      have ex3 : Ex2 h b H H3 := ((Ex2.of e1).trans e2).ex e3
      have hF0 : H Fa = none := fresh_back e1 (by
        cases e : H1 Fa with
        | none => rfl
        | some o =>
          by_cases z1 : Fa = h
          · obtain ⟨_, _, _, k1, _⟩ := g2
            rw [← z1, nF] at k1; cases k1
          · by_cases z2 : Fa = b
            · obtain ⟨_, _, _, _, k2, _⟩ := g2
              rw [← z2, nF] at k2; cases k2
            · have := e2 _ _ e z1 z2
              rw [nF] at this; cases this)
      have hQ2' := hQ1.ex2 e2 nQh nah
      have nw : Nw H h b Qa Fa as := ⟨g0, nQ, hF0, fun a ha => (has a ha).1, fun z => ne_of_none hQ2'.at_ nF z.symm, fun z => by
        obtain ⟨i, hi⟩ := List.mem_iff_getElem?.mp z
        exact ne_of_none (hQ2'.q i Fa hi) nF rfl⟩
      have flr : (List.replicate N.length ([] : List Int)).flatten = [] := by
        generalize N.length = n
        induction n with
        | zero => rfl
        | succ n ih => rw [List.replicate_succ, List.flatten_cons, ih]; rfl
      have W0 : LS K H H3 N h b Qa Fa as (List.replicate N.length []) [] (1 + r) 0 := ⟨g2.ex e3, hQ2, ⟨[], hF3, .nil⟩, ⟨List.length_replicate .., fun k hk => by
          have := (hJ.st k hk).1
          rw [List.getD_eq_getElem?_getD, List.getElem?_replicate, if_pos hk]
          show 0 < _
          omega⟩, by rw [flr]; exact List.nodup_nil, by rw [flr]; simp, by omega, by rw [flr]; simp, ex3⟩
      refine x_next W0.gen (by omega) (by omega) fun r2 H4 r20 r21 g4 e4 => ⟨_, rfl, by omega, by omega, ?_⟩
      refine loop_it walk_range (fun i σ H' => ∃ u3 u7 u8 u9 qs fs p, σ = [some (.ref h), some (.ref vn), some (.int most), u3, some (.ref Qa), some (.int p), some (.ref Fa), u7, u8, u9] ∧ LS K H H' N h b Qa Fa as qs fs p i) ⟨_, _, _, _, _, _, _, rfl, W0.dr nw g4 e4⟩ (fun _ _ _ _ _ => trivial) ?_ ?_
      · rintro i x σ H5 H5' hi ⟨u3, u7, u8, u9, qs, fs, p, rfl, W⟩ ⟨eH, rfl⟩
        subst eH
        have hi : i < 1000 := by omega
        show tSeq (tPar 8 3 _) (tFirst K) _ _ _
        walk_at "run"
        refine x_next W.gen (by decide) (by decide) fun kd H6 kd0 kd1 g6 e6 => ?_
        have W6 := W.dr nw g6 e6
        have t6 := nw.g.tx W6.ex
        refine x_lenT (t6.t hU) ?_
        rw [hlu]
        refine x_next W6.gen (by omega) (by omega) fun st H7 st0 st1 g7 e7 => ?_
        have W7 := W6.dr nw g7 e7
        obtain ⟨st, rfl⟩ : ∃ k : Nat, st = (k : Int) := ⟨st.toNat, by omega⟩
        refine ⟨_, _, rfl, ?_⟩
        exact state_first hJ (by omega) hN1 hU hus nw (by omega) (by omega) W7 fun p' qs' fs' H1 W' => ⟨_, _, _, _, _, _, _, rfl, W'⟩
      · rintro σ H5 ⟨u3, u7, u8, u9, qs, fs, p, rfl, W⟩
        walk_at "run"
        have hal : (as.map V.ref).length = as.length := List.length_map ..
        refine x_itL (SqL.of W.q.at_) (lcl_it walk_list (fun D i H' => ∃ ts, H' D = some (.lst ts) ∧ DpAll K H' ts ((qs.take i).map qD) ∧ Ex H5 H') (fun D H' hD e hd => ⟨[], hd, by simpa using DpAll.nil, e⟩) (fun D i H' _ ⟨_, _, _, e⟩ => ex_l e (SqL.of W.q.at_)) ?_ ?_)
        · rintro D i x H6 H6' hDn hi ⟨ts, hd, hts, e6⟩ ⟨eH, hx⟩
          subst eH
          have hia : i < as.length := by rw [List.length_map] at hi; exact hi
          have hiq : i < qs.length := by rw [← W.q.len]; exact hia
          obtain ⟨a, ha, hHa, _⟩ := W.q.get hiq
          obtain rfl : x = .ref a := by
            have : (as.map V.ref)[i]? = some (.ref a) := by simp only [List.getElem?_map, ha]; rfl
            rw [hx] at this
            exact Option.some.inj this
          walk_at "run"
          refine x_tupL (SqL.of (e6 _ _ hHa)) fun t H7 nt e7 ht => ?_
          have htl := hts.len
          rw [List.length_map, List.length_take] at htl
          have hql : qs.length = N.length := W.sh.len
          refine x_push (e7 _ _ hd) (by omega) fun H8 e8 h8 => ⟨_, h8, ?_, fun x o hx => e8 _ _ (ne_of_none hx hDn) (e7 _ _ (e6 _ _ hx))⟩
          have hDt : D ≠ t := ne_of_none hd nt
          have t8 : TX H6' H8 := (TX.of e7).trans (TX.but (e7 _ _ hd) e8)
          have htk : qs.take (i + 1) = qs.take i ++ [qs.getD i []] := by rw [List.take_add_one, getD_some hiq]; rfl
          rw [htk, List.map_append]
          refine DpAll.append (DpAll.tx t8 hts fun d hd => ?_) (.cons (.tup (SqT.of (e8 _ _ hDt.symm ht)) (ints_dp _)) .nil)
          obtain ⟨y, _, rfl⟩ := List.mem_map.mp hd
          exact qD_t y
        · rintro D H6 hDn ⟨ts, hd, hts, e6⟩
          have hql : qs.length = N.length := W.sh.len
          have hlq : qs.take (as.map V.ref).length = qs := by rw [hal, W.q.len, List.take_length]
          rw [hlq] at hts
          refine x_tupL (SqL.of hd) fun t H7 nt e7 ht => x_tup (by simp) fun t2 H8 nt2 e8 ht2 => ?_
          have e58 := (e6.trans e7).trans e8
          refine q _ p qs H8 ⟨W.pos, hql, fun k q' s h1 h2 => ?_, W.nd, W.rg⟩ (.tup (SqT.of ht2) (.cons (.int p) (.cons (.tup (SqT.of (e8 _ _ ht)) (DpAll.ex (e7.trans e8) hts)) .nil))) (W.gen.ex e58) (W.ex.ex e58)
          have hk := (List.getElem?_eq_some_iff.mp h2).1
          have := W.sh.lt k hk
          rw [List.getD_eq_getElem?_getD, h1, List.getD_eq_getElem?_getD, h2] at this
          exact this
end
end K
set_option Elab.async false
set_option linter.all false
set_option maxRecDepth 100000
set_option maxHeartbeats 1000000
set_option exponentiation.threshold 20000
namespace K
open PySem PySem.Spec PyProof.Rows L2 Evl FB
local macro_rules | `(tactic| walk_at "run") => `(tactic| try simp only [tSeq, tAsg, tVar, tC, gName, L2.start, List.map_cons, List.map_nil, List.cons_append, List.nil_append, List.length_cons, List.length_nil, List.replicate, List.getElem?_cons_zero, List.getElem?_cons_succ, Option.some.injEq, exists_eq_left', List.set_cons_zero, List.set_cons_succ, V.ref.injEq, tRet, x_tLst, x_tTup, tCons, tCB, tNil, tOp, x_addI, x_mulI, x_rI, x_rI0, x_ltI, x_leI, x_ltS, x_leS, x_eqI, x_neI, x_eqS, x_eqB, x_neB, x_isiI, x_isiS, x_int, x_max, x_min, cxOf, tIfS, tNext, tTest, V.bl.injEq, decide_eq_true_eq, gSub, tAnd, tOr, tNot, tB, tDrop, tBM, x_tFor, iRng1, iList, iTup, x_tLc, tYes, tCall, tIf, tAndV, tOrV, tNotV, tChain, List.append_nil, tUn, if_true, wipe, true_and, x_never, iU, x_itS, kV, Nat.reduceAdd, Nat.reduceSub, List.replicate_zero, x_rU, x_tMkO, iEnumT, x_tDc, x_tDGet, x_tDGet2, x_sDPut, x_tDSetd, x_tDNewK, x_iItems, x_iZip, x_tSAddK, x_tLockV, x_tTupRg, x_tRg2, tPar, tPar3, tBM0, tSl, tNoPart, tPart, x_tSetAdd, x_tDIn, x_iKeys, x_iZipX, x_iZip3, iRevR, tRg1, x_tFld, x_tMeth, x_sFld, x_tMake, tAug, x_ipI, x_tDNotIn, iRng2])
/-! _law_run -/
section
variable {P : Program} {w : World} {K : PySem.W.Frag} {mg : Str → Option Value} {base : Heap}
theorem x_four4 {KF : PySem.W.Frag} {H : Hp} {σ : L2.St} {n i j m l : Nat} {T : Addr} {x y z u : V} {Q : L2.St → Hp → Prop} (h : SqT KF H T [x, y, z, u]) (k : Q ((((σ.set i (some x)).set j (some y)).set m (some z)).set l (some u)) H) (hn : n = 4) :
    gTup KF n (gCons (gName i) (gCons (gName j) (gCons (gName m) (gCons (gName l) gNil)))) (.ref T) σ H Q := by
  subst hn
  exact ⟨T, _, rfl, h, rfl, x, [y, z, u], rfl, y, [z, u], rfl, z, [u], rfl, u, [], rfl, rfl, k⟩
theorem runI_short {N : Net} {qs : Qs} {p : Int} (hV : ValidN N) (h8 : N.length ≤ 8) (S : Short N qs) : ∀ t, Short N (runI N qs p t)
  | 0 => S
  | t + 1 => (joinW_ok (fun k hk => ((jn_of hV).st k hk).1) (departW_ok (fun k hk => ((jn_of hV).st k hk).1) (jn_of hV).fw 8) (runI_short hV h8 S t) hV.pos (by omega)).1
theorem flatS {N : Net} {qs : Qs} (hV : ValidN N) (h8 : N.length ≤ 8) (S : Short N qs) : qs.flatten.length ≤ 64 := by
  have h := flat8 (qs := qs) fun x hx => by
    obtain ⟨k, hk⟩ := List.mem_iff_getElem?.mp hx
    have hkl := (List.getElem?_eq_some_iff.mp hk).1
    have hkN : k < N.length := by rw [← S.len]; exact hkl
    have h1 := S.lt k hkN
    have h2 := ((jn_of hV).st k hkN).2
    rw [List.getD_eq_getElem?_getD, hk] at h1
    have h1 : x.length < _ := h1
    omega
  rw [S.len] at h
  omega
end
end K
set_option Elab.async false
set_option linter.all false
set_option maxRecDepth 100000
set_option maxHeartbeats 4000000
namespace K
open PySem PySem.Spec PyProof.Rows L2 Evl FB
local macro_rules | `(tactic| walk_at "run") => `(tactic| try simp only [tSeq, tAsg, tVar, tC, gName, L2.start, List.map_cons, List.map_nil, List.cons_append, List.nil_append, List.length_cons, List.length_nil, List.replicate, List.getElem?_cons_zero, List.getElem?_cons_succ, Option.some.injEq, exists_eq_left', List.set_cons_zero, List.set_cons_succ, V.ref.injEq, tRet, x_tLst, x_tTup, tCons, tCB, tNil, tOp, x_addI, x_mulI, x_rI, x_rI0, x_ltI, x_leI, x_ltS, x_leS, x_eqI, x_neI, x_eqS, x_eqB, x_neB, x_isiI, x_isiS, x_int, x_max, x_min, cxOf, tIfS, tNext, tTest, V.bl.injEq, decide_eq_true_eq, gSub, tAnd, tOr, tNot, tB, tDrop, tBM, x_tFor, iRng1, iList, iTup, x_tLc, tYes, tCall, tIf, tAndV, tOrV, tNotV, tChain, List.append_nil, tUn, if_true, wipe, true_and, x_never, iU, x_itS, kV, Nat.reduceAdd, Nat.reduceSub, List.replicate_zero, x_rU, x_tMkO, iEnumT, x_tDc, x_tDGet, x_tDGet2, x_sDPut, x_tDSetd, x_tDNewK, x_iItems, x_iZip, x_tSAddK, x_tLockV])
theorem shaped_ints (ns : List Int) : SeqAt.shaped (.list (ns.map PyData.int)) = true ∧ (PyData.list (ns.map PyData.int)).depth ≤ 3 := by
  have h1 : PyData.canLayAll0 (ns.map PyData.int) = true := layAll fun d hd => by
    obtain ⟨i, _, rfl⟩ := List.mem_map.mp hd; rfl
  have h2 : PyData.depthAll (ns.map PyData.int) ≤ 1 := depthAll_le fun d hd => by
    obtain ⟨i, _, rfl⟩ := List.mem_map.mp hd; simp [PyData.depth]
  have h3 : (PyData.list (ns.map PyData.int)).depth ≤ 3 := by rw [PyData.depth]; omega
  exact ⟨shaped_mk (by rw [PyData.canLay0]; exact h1) (by omega), h3⟩
theorem shaped_strs (ns : List Str) (h : ∀ z ∈ ns, (PyData.str z).canLay0 = true) : SeqAt.shaped (.list (ns.map PyData.str)) = true ∧ (PyData.list (ns.map PyData.str)).depth ≤ 3 := by
  have h1 : PyData.canLayAll0 (ns.map PyData.str) = true := layAll fun d hd => by
    obtain ⟨i, hi, rfl⟩ := List.mem_map.mp hd; exact h i hi
  have h2 : PyData.depthAll (ns.map PyData.str) ≤ 1 := depthAll_le fun d hd => by
    obtain ⟨i, _, rfl⟩ := List.mem_map.mp hd; simp [PyData.depth]
  have h3 : (PyData.list (ns.map PyData.str)).depth ≤ 3 := by rw [PyData.depth]; omega
  exact ⟨shaped_mk (by rw [PyData.canLay0]; exact h1) (by omega), h3⟩
theorem sm_ints {ns : List Int} (h : ns.length ≤ 1000000) : SmD (.list (ns.map PyData.int)) := .lst (by simpa using h) fun d hd => by
  obtain ⟨i, _, rfl⟩ := List.mem_map.mp hd; exact .int i
theorem sm_strs {ns : List Str} (h : ns.length ≤ 1000000) : SmD (.list (ns.map PyData.str)) := .lst (by simpa using h) fun d hd => by
  obtain ⟨i, _, rfl⟩ := List.mem_map.mp hd; exact .str i
/-- the keys as texts -/
theorem Fin.keys {T : Str → Int} {kvs : List (Key × V)} (F : Fin T kvs) : ∃ ks : List Str, kvs.map (·.1) = ks.map Sum.inr ∧ ks.Nodup ∧ ∀ z, z ∈ ks ↔ 0 < T z := by
  have : ∀ {l : List (Key × V)}, (∀ p ∈ l, ∃ z, p.1 = .inr z) → ∃ ks : List Str, l.map (·.1) = ks.map Sum.inr := fun {l} => by
    induction l with
    | nil => exact fun _ => ⟨[], rfl⟩
    | cons p r ih =>
      intro h
      obtain ⟨ks, hk⟩ := ih fun q hq => h q (List.mem_cons_of_mem _ hq)
      obtain ⟨z, hz⟩ := h p (List.mem_cons_self ..)
      exact ⟨z :: ks, by rw [List.map_cons, List.map_cons, hk, hz]⟩
  obtain ⟨ks, hk⟩ := this F.str
  have nd := F.nd
  rw [hk] at nd
  refine ⟨ks, hk, (List.pairwise_map.mp nd).imp fun h e => h (by rw [e]), fun z => ?_⟩
  have hm : z ∈ ks ↔ (Sum.inr z : Key) ∈ kvs.map (·.1) := by
    rw [hk]
    simp
  rw [hm]
  have hv := F.val z
  constructor
  · intro h
    obtain ⟨⟨k, v⟩, hp, rfl⟩ := List.mem_map.mp h
    have := val_of_mem F.nd hp
    rw [this] at hv
    by_cases e : 0 < T z
    · exact e
    · rw [if_neg e] at hv; cases hv
  · intro h
    rw [if_pos h] at hv
    exact valV_in hv
theorem Fin.same {T : Str → Int} {ka kb : List (Key × V)} (A : Fin T ka) (B : Fin T kb) : ka.length = kb.length ∧ ∀ p ∈ ka, valV kb p.1 = some p.2 ∧ flatB p.2 = true := by
  obtain ⟨ks, h1, n1, m1⟩ := A.keys
  obtain ⟨ls, h2, n2, m2⟩ := B.keys
  have hp : ks.Perm ls := (List.perm_ext_iff_of_nodup n1 n2).mpr fun z => by rw [m1, m2]
  refine ⟨?_, fun p hp => ?_⟩
  · have e1 := congrArg List.length h1
    have e2 := congrArg List.length h2
    rw [List.length_map, List.length_map] at e1 e2
    rw [e1, e2]; exact hp.length_eq
  · obtain ⟨z, hz⟩ := A.str p hp
    have hv := val_of_mem (k := p.1) (v := p.2) A.nd hp
    rw [hz] at hv ⊢
    rw [A.val] at hv
    rw [B.val, hv]
    by_cases e : 0 < T z
    · rw [if_pos e] at hv
      rw [← Option.some.inj hv]
      exact ⟨rfl, rfl⟩
    · rw [if_neg e] at hv; cases hv
section
variable {P : Program} {w : World} {K : PySem.W.Frag} {mg : Str → Option Value} {base : Heap}
/-- the same numbers by ports on both sides -/
def spAlikeD : Sp := fun vs H Q _ => ∃ (a b : Addr) (T : Str → Int) (ka kb : List (Key × V)), vs = [.ref a, .ref b] ∧ H a = some (.dK ka) ∧ H b = some (.dK kb) ∧ Fin T ka ∧ Fin T kb ∧ kb.length < 64 ∧ (∀ z, 0 < T z → (PyData.str z).canLay0 = true) ∧ ∀ H', Ex H H' → Q (.bl true) H'
theorem ok_l_alikeD {f : Addr} {fd : FuncData} (D : Df K mg "_law_alike" s_l_alike ["_law_found", "_law_due"] f fd) (T : Bt mg) : FnOk P w K mg base CX0 5 f fd ["_law_found", "_law_due"] spAlikeD := by
  have D_l_alike := D
  have G_l_alike : FnOk P w K mg base CX0 4 f fd _ _ := ok_l_alike D T 4
  refine D.F.ok sc_l_alike (fun vs H Q E h => ?_) (fun cdv A outer s H vs Q E hr h => ?_)
  · obtain ⟨a, b, n, ka, kb, rfl, _⟩ := h
    rfl
  · obtain ⟨a, b, TT, ka, kb, rfl, ha, hb, FA, FB, hl, hok, q⟩ := h
    have hu := hr.units
    have hu2 := Nat.lt_of_le_of_lt (Nat.le_add_right _ 64) hu
    refine ⟨_, (pss_cons (ps_if (pt_val (pe_callB (call_isiU (K := K)) (by rfl) T.b_isinstance (by decide +kernel) (pa_cons (pv 1) (pa_cons (pe_bltn (v := .ty "dict") (by rfl) T.b_dict (by decide +kernel) rfl) pa_nil)))) (pss_one (ps_ret (pe_and (pe_callB (call_isiU (K := K)) (by rfl) T.b_isinstance (by decide +kernel) (pa_cons (pv 0) (pa_cons (pe_bltn (v := .ty "dict") (by rfl) T.b_dict (by decide +kernel) rfl) pa_nil))) (pe_and (pe_call (G_l_alike) (hr.mono (by decide)) rfl D_l_alike.g D_l_alike.F.kp D_l_alike.b .nil pass0 (pa_cons (pe_callB (call_sortD rfl) (by rfl) T.b_sorted (by decide +kernel) (pa_cons (pv 0) pa_nil)) (pa_cons (pe_callB (call_sortD rfl) (by rfl) T.b_sorted (by decide +kernel) (pa_cons (pv 1) pa_nil)) pa_nil))) (pe_one (pe_cmpR (op_eq_dictA hu2) (pv 0) (pv 1) (nomark _))))))) pss_nil)
      pss_never), ?_⟩
    walk_at "run"
    refine x_isDict hb ⟨_, rfl, ?_⟩
    rw [if_pos rfl]
    refine x_isDict ha ⟨_, rfl, ?_⟩
    rw [if_pos rfl]
    obtain ⟨ks, h1, n1, m1⟩ := FA.keys
    obtain ⟨ls, h2, n2, m2⟩ := FB.keys
    obtain ⟨s1, s2⟩ := FA.same FB
    have hpm : ks.Perm ls := (List.perm_ext_iff_of_nodup n1 n2).mpr fun z => by rw [m1, m2]
    have e1 := congrArg List.length h1
    have e2 := congrArg List.length h2
    rw [List.length_map, List.length_map] at e1 e2
    refine x_sortD ha h1 (by omega) fun ys p H1 p1 so1 np x1 hp => ?_
    refine x_sortD (x1 _ _ hb) h2 (by omega) fun zs p2 H2 p2' so2 np2 x2 hp2 => ?_
    obtain rfl : ys = zs := sorted_same ((p1.trans hpm).trans p2'.symm) so1 so2
    have hoy : ∀ z ∈ ys, (PyData.str z).canLay0 = true := fun z hz => hok z ((m1 z).mp (p1.mem_iff.mp hz))
    have hyl : ys.length ≤ 1000000 := by have := p1.length_eq; omega
    refine ⟨_, _, .list (ys.map PyData.str), rfl, .lst (SqL.of (x2 _ _ hp)) (strs_dp ys), .lst (SqL.of hp2) (strs_dp ys), (shaped_strs ys hoy).1, (shaped_strs ys hoy).2, sm_strs hyl, fun H3 x3 => ⟨_, rfl, ?_⟩⟩
    rw [if_pos rfl]
    have x03 := (x1.trans x2).trans x3
    exact x_eqDA (x03 _ _ ha) (x03 _ _ hb) s1 s2 (q H3 x03)
end
end K
set_option Elab.async false
set_option linter.all false
set_option maxRecDepth 100000
set_option maxHeartbeats 1000000
set_option exponentiation.threshold 20000
namespace K
open PySem PySem.Spec PyProof.Rows L2 Evl FB
local macro_rules | `(tactic| walk_at "run") => `(tactic| try simp only [tSeq, tAsg, tVar, tC, gName, L2.start, List.map_cons, List.map_nil, List.cons_append, List.nil_append, List.length_cons, List.length_nil, List.replicate, List.getElem?_cons_zero, List.getElem?_cons_succ, Option.some.injEq, exists_eq_left', List.set_cons_zero, List.set_cons_succ, V.ref.injEq, tRet, x_tLst, x_tTup, tCons, tCB, tNil, tOp, x_addI, x_mulI, x_rI, x_rI0, x_ltI, x_leI, x_ltS, x_leS, x_eqI, x_neI, x_eqS, x_eqB, x_neB, x_isiI, x_isiS, x_int, x_max, x_min, cxOf, tIfS, tNext, tTest, V.bl.injEq, decide_eq_true_eq, gSub, tAnd, tOr, tNot, tB, tDrop, tBM, x_tFor, iRng1, iList, iTup, x_tLc, tYes, tCall, tIf, tAndV, tOrV, tNotV, tChain, List.append_nil, tUn, if_true, wipe, true_and, x_never, iU, x_itS, kV, Nat.reduceAdd, Nat.reduceSub, List.replicate_zero, x_rU, x_tMkO, iEnumT, x_tDc, x_tDGet, x_tDGet2, x_sDPut, x_tDSetd, x_tDNewK, x_iItems, x_iZip, x_tSAddK, x_tLockV, x_tTupRg, x_tRg2, tPar, tPar3, tBM0, tSl, tNoPart, tPart, x_tSetAdd, x_tDIn, x_iKeys, x_iZipX, x_iZip3, iRevR, tRg1, x_tFld, x_tMeth, x_sFld, x_tMake, tAug, x_ipI, x_tDNotIn, iRng2])
/-! who finishes in a run, by port; data that can be compared -/
section
variable {α : Type} [Inhabited α]
/-- whoever finishes is told alone -/
def One (es : EvsA α) : Prop := ∀ e ∈ es, ∀ z, e.1 = .inr z → ∃ p, e.2 = [p]
theorem One.nil : One ([] : EvsA α) := fun _ h => by cases h
theorem One.cons {e : Key × List α} {es : EvsA α} (h1 : ∀ z, e.1 = .inr z → ∃ p, e.2 = [p]) (h2 : One es) : One (e :: es) := fun x h => by
  rcases List.mem_cons.mp h with rfl | h
  · exact h1
  · exact h2 x h
theorem One.append {a b : EvsA α} (h1 : One a) (h2 : One b) : One (a ++ b) := fun x h => (List.mem_append.mp h).elim (h1 x) (h2 x)
def DepO (dep : Dep α) : Prop := ∀ qs st, One (dep qs st).2
theorem joinW_o {N : Net} {dep : Dep α} (h : DepO dep) (qs : QsA α) (j : Nat) (p : α) : One (joinW N dep qs j p).2 := by
  unfold joinW
  split
  · exact h _ _
  · exact One.nil
theorem moveW_o {N : Net} {dep : Dep α} (h : DepO dep) : ∀ (ms : List (Key × α)) (qs : QsA α), One (moveW N dep ms qs).2
  | [], _ => One.nil
  | (.inr z, p) :: r, qs => One.cons (fun _ _ => ⟨p, rfl⟩) (moveW_o h r qs)
  | (.inl j, p) :: r, qs => One.append (joinW_o h qs j.toNat p) (moveW_o h r _)
theorem departW_o {N : Net} : ∀ f, DepO (departW (α := α) N f)
  | 0 => fun _ _ => One.nil
  | f + 1 => fun qs st => One.cons (fun z e => nomatch e) (moveW_o (departW_o f) ((N.getD st []).zip (qs.getD st [])) (qs.set st []))
/-- those of a port -/
def ofP (z : Str) (l : List (Str × α)) : List α := (l.filter fun x => decide (x.1 = z)).map (·.2)
theorem ofP_nil (z : Str) : ofP z ([] : List (Str × α)) = [] := rfl
theorem ofP_cons (z : Str) (x : Str × α) (l : List (Str × α)) : ofP z (x :: l) = (if x.1 = z then [x.2] else []) ++ ofP z l := by
  unfold ofP
  by_cases h : x.1 = z
  · rw [List.filter_cons_of_pos (by simpa using h), if_pos h]; rfl
  · rw [List.filter_cons_of_neg (by simpa using h), if_neg h]; rfl
theorem ofP_append (z : Str) (a b : List (Str × α)) : ofP z (a ++ b) = ofP z a ++ ofP z b := by
  unfold ofP
  rw [List.filter_append, List.map_append]
theorem fin_ev {z : Str} : ∀ {es : EvsA α}, One es → ofP z (finOf es) = evP es (.inr z)
  | [], _ => rfl
  | (.inl j, ps) :: r, h => by
    show ofP z (finOf r) = (if (.inl j : Key) = .inr z then ps else []) ++ evP r (.inr z)
    rw [if_neg (by simp), fin_ev (es := r) fun e he => h e (List.mem_cons_of_mem _ he)]; rfl
  | (.inr y, ps) :: r, h => by
    obtain ⟨p, hp⟩ := h (.inr y, ps) (List.mem_cons_self ..) y rfl
    obtain rfl : ps = [p] := hp
    show ofP z ((y, p) :: finOf r) = (if (.inr y : Key) = .inr z then [p] else []) ++ evP r (.inr z)
    rw [ofP_cons, fin_ev (es := r) fun e he => h e (List.mem_cons_of_mem _ he)]
    by_cases e : y = z
    · subst e; rw [if_pos rfl, if_pos rfl]
    · rw [if_neg e, if_neg (fun h => e (Sum.inr.inj h))]
theorem fin_pos : ∀ {l : List (Str × α)} {j : Nat} {x : Str × α}, l[j]? = some x → (ofP x.1 l)[(ofP x.1 (l.take j)).length]? = some x.2
  | [], j, x, h => by cases h
  | y :: r, 0, x, h => by
    obtain rfl : y = x := by simpa using h
    rw [List.take_zero, ofP_cons, if_pos rfl]; rfl
  | y :: r, j + 1, x, h => by
    have ih := fin_pos (l := r) (j := j) (x := x) (by simpa using h)
    rw [List.take_succ_cons, ofP_cons, ofP_cons]
    split
    · rw [List.length_append, List.length_singleton, Nat.add_comm, List.singleton_append, List.getElem?_cons_succ]; exact ih
    · simpa using ih
theorem ofP_take {z : Str} {l : List (Str × α)} {j : Nat} : (ofP z (l.take j)).length ≤ (ofP z l).length := by
  have h : (ofP z (l.take j ++ l.drop j)).length = (ofP z l).length := by rw [List.take_append_drop]
  rw [ofP_append, List.length_append] at h
  omega
end
section
variable {N : Net} {ls : List Int}
/-- who finishes at the arrival t of a run -/
def finT (N : Net) (qs : Qs) (p : Int) (t : Nat) : List (Str × Int) := finOf (arrI N (runI N qs p t) (p + (t : Int))).2
theorem finT_ev {qs : Qs} {p : Int} {t : Nat} {z : Str} : ofP z (finT N qs p t) = evP (arrI N (runI N qs p t) (p + (t : Int))).2 (.inr z) := fin_ev (joinW_o (departW_o 8) _ _ _)
theorem finT_len (J : JN N) (L : Lens N ls) (h8 : N.length ≤ 8) (hp1 : 1 ≤ N.length) {p : Int} {qs : Qs} (LQ : LenQ N ls qs) (t : Nat) (z : Str) : ((ofP z (finT N qs p t)).length : Int) = jq N ls ((t : Int) + 1) (.inr z) - jq N ls (t : Int) (.inr z) := by
  rw [finT_ev, arr_labs J L h8 hp1 LQ t]
  rw [evP_map, List.length_map]
  have lp := line_port J L h8 hp1 (show (1 : Int) ≤ (t : Int) + 1 by omega) z
  rw [Int.add_sub_cancel] at lp
  exact lp.2.1
/-- how many finished at a port by the arrival t, and j of that arrival -/
def tf (N : Net) (ls : List Int) (qs : Qs) (p : Int) (t j : Nat) (z : Str) : Int := jq N ls (t : Int) (.inr z) + ((ofP z ((finT N qs p t).take j)).length : Int)
theorem tf_nn (J : JN N) (L : Lens N ls) {p : Int} {qs : Qs} {t j : Nat} {z : Str} : 0 ≤ tf N ls qs p t j z := by
  have h1 := jq_mono (ls := ls) J.fw L.pos (show (0 : Int) ≤ (t : Int) by omega) (.inr z)
  rw [jq_zero J.fw L] at h1
  unfold tf
  omega
theorem tf_le (J : JN N) (L : Lens N ls) (h8 : N.length ≤ 8) (hp1 : 1 ≤ N.length) {p : Int} {qs : Qs} (LQ : LenQ N ls qs) {t j : Nat} {z : Str} : tf N ls qs p t j z ≤ jq N ls ((t : Int) + 1) (.inr z) := by
  have h1 := finT_len J L h8 hp1 (p := p) LQ t z
  have h2 := ofP_take (z := z) (l := finT N qs p t) (j := j)
  unfold tf
  omega
theorem tf_zero (J : JN N) (L : Lens N ls) {p : Int} {qs : Qs} {z : Str} : tf N ls qs p 0 0 z = 0 := by
  have h := jq_zero J.fw L (.inr z)
  unfold tf
  rw [List.take_zero, ofP_nil]
  show jq N ls 0 (.inr z) + 0 = 0
  omega
theorem tf_end (J : JN N) (L : Lens N ls) (h8 : N.length ≤ 8) (hp1 : 1 ≤ N.length) {p : Int} {qs : Qs} (LQ : LenQ N ls qs) {t : Nat} {z : Str} : tf N ls qs p t (finT N qs p t).length z = tf N ls qs p (t + 1) 0 z := by
  have h1 := finT_len J L h8 hp1 (p := p) LQ t z
  unfold tf
  rw [List.take_length, List.take_zero, ofP_nil, Int.natCast_add]
  show _ = jq N ls ((t : Int) + 1) (.inr z) + 0
  omega
theorem tf_step {p : Int} {qs : Qs} {t j : Nat} {x : Str × Int} (h : (finT N qs p t)[j]? = some x) (z : Str) : tf N ls qs p t (j + 1) z = tf N ls qs p t j z + if x.1 = z then 1 else 0 := by
  unfold tf
  rw [List.take_add_one, h, Option.toList_some, ofP_append, List.length_append, ofP_cons, ofP_nil, List.append_nil]
  split
  · rw [List.length_singleton]; omega
  · rw [List.length_nil]; omega
/-- the next one who finishes is the finisher with that number -/
theorem tf_at (J : JN N) (L : Lens N ls) (h8 : N.length ≤ 8) (hp1 : 1 ≤ N.length) {p : Int} {qs : Qs} (LQ : LenQ N ls qs) {t j : Nat} {x : Str × Int} (h : (finT N qs p t)[j]? = some x) :
    jq N ls (t : Int) (.inr x.1) < tf N ls qs p t j x.1 + 1 ∧ tf N ls qs p t j x.1 + 1 ≤ jq N ls ((t : Int) + 1) (.inr x.1) ∧ ∀ y, PsgP N ls p qs x.1 (tf N ls qs p t j x.1 + 1) y → y = x.2 := by
  have h1 := fin_pos h
  have h2 := finT_len J L h8 hp1 (p := p) LQ t x.1
  have h3 := (List.getElem?_eq_some_iff.mp h1).1
  have a1 : jq N ls (t : Int) (.inr x.1) < tf N ls qs p t j x.1 + 1 := by unfold tf; omega
  have a2 : tf N ls qs p t j x.1 + 1 ≤ jq N ls ((t : Int) + 1) (.inr x.1) := by unfold tf; omega
  refine ⟨a1, a2, fun y hy => ?_⟩
  have h4 := (fin_at J L h8 hp1 LQ hy a1 a2).2
  rw [← finT_ev, show (tf N ls qs p t j x.1 + 1 - jq N ls (t : Int) (.inr x.1) - 1).toNat = (ofP x.1 ((finT N qs p t).take j)).length by unfold tf; omega, h1] at h4
  exact (Option.some.inj h4).symm
end
/-- one port gets b more -/
theorem Fin.add {T T2 : Str → Int} {kvs : List (Key × V)} {z : Str} {b : Int} (F : Fin T kvs) (hb : 0 < b) (h0 : 0 ≤ T z) (h1 : T2 z = T z + b) (h2 : ∀ y, y ≠ z → T2 y = T y) : Fin T2 (putK kvs (.inr z) (.int (T z + b))) where
  nd := putK_keys F.nd
  str := fun p hp => by
    unfold putK at hp
    split at hp
    · obtain ⟨p', hp', rfl⟩ := List.mem_map.mp hp
      split
      · exact F.str p' hp'
      · exact F.str p' hp'
    · rcases List.mem_append.mp hp with hp | hp
      · exact F.str p hp
      · rw [List.mem_singleton.mp hp]; exact ⟨z, rfl⟩
  val := fun y => by
    rw [valV_put]
    by_cases e : (Sum.inr y : Key) = .inr z
    · cases e
      rw [if_pos rfl, if_pos (by omega), h1]
    · rw [if_neg e, F.val, h2 y (fun z => e (by rw [z]))]
theorem Fin.get {T : Str → Int} {kvs : List (Key × V)} {z : Str} (F : Fin T kvs) (h0 : 0 ≤ T z) : (valV kvs (.inr z)).getD (.int 0) = .int (T z) := by
  rw [F.val]
  split
  · rfl
  · have : T z = 0 := by omega
    rw [this]; rfl
theorem Fin.congr {T T2 : Str → Int} {kvs : List (Key × V)} (F : Fin T kvs) (h : ∀ z, T2 z = T z) : Fin T2 kvs := by
  obtain rfl : T2 = T := funext h
  exact F
theorem Fin.nil : Fin (fun _ => 0) [] := ⟨List.nodup_nil, fun _ h => (by simp at h), fun _ => rfl⟩
theorem W4_ok {z : Str} (h : z ∈ W4) : (PyData.str z).canLay0 = true := by
  unfold W4 at h
  simp only [List.mem_cons, List.not_mem_nil, or_false] at h
  rcases h with rfl | rfl | rfl | rfl <;> (rw [PyData.canLay0]; decide +kernel)
theorem Fin.short {T : Str → Int} {kvs : List (Key × V)} (F : Fin T kvs) (h : ∀ z, 0 < T z → z ∈ W4) : kvs.length ≤ 4 := by
  obtain ⟨ks, h1, n1, m1⟩ := F.keys
  have e := congrArg List.length h1
  rw [List.length_map, List.length_map] at e
  have := n1.length_le_of_subset (l₂ := W4) fun z hz => h z ((m1 z).mp hz)
  rw [e]
  exact this
theorem jq_W4 {N : Net} {most : Int} (hD : Drawn N most) {ls : List Int} {t : Int} {z : Str} (h : 0 < jq N ls t (.inr z)) : z ∈ W4 := by
  unfold jq at h
  rw [if_neg (by simp)] at h
  obtain ⟨i, hi, _⟩ := toQ_some h
  obtain ⟨h1, h2⟩ := mem_seatsOf.mp hi
  have e3 : N[i]? = some (N.getD i []) := by simp [List.getD_eq_getElem?_getD, h1]
  exact (hD.st i _ e3).2.2 (.inr z) h2
/-- data that can be compared, not deep, not long -/
structure Fine (n : Nat) (d : PyData) : Prop where
  lay : d.canLay0 = true
  dep : d.depth ≤ n
  sm : SmD d
theorem fine_int (i : Int) : Fine 1 (.int i) := ⟨rfl, by simp [PyData.depth], .int i⟩
theorem fine_str {z : Str} (h : PyData.strOk z = true) : Fine 1 (.str z) := ⟨by rw [PyData.canLay0]; exact h, by simp [PyData.depth], .str z⟩
theorem fine_tup {n : Nat} {ds : List PyData} (hl : ds.length ≤ 1000000) (h : ∀ d ∈ ds, Fine n d) : Fine (n + 1) (.tuple ds) :=
  ⟨by rw [PyData.canLay0]; exact layAll fun d hd => (h d hd).lay, by rw [PyData.depth]; have := depthAll_le fun d hd => (h d hd).dep; omega, .tup hl fun d hd => (h d hd).sm⟩
theorem fine_lst {n : Nat} {ds : List PyData} (hl : ds.length ≤ 1000000) (h : ∀ d ∈ ds, Fine n d) : Fine (n + 1) (.list ds) :=
  ⟨by rw [PyData.canLay0]; exact layAll fun d hd => (h d hd).lay, by rw [PyData.depth]; have := depthAll_le fun d hd => (h d hd).dep; omega, .lst hl fun d hd => (h d hd).sm⟩
theorem Fine.mono {n m : Nat} {d : PyData} (h : Fine n d) (e : n ≤ m) : Fine m d := ⟨h.lay, Nat.le_trans h.dep e, h.sm⟩
theorem Fine.shaped {n : Nat} {d : PyData} (h : Fine n d) (e : n ≤ 64) : SeqAt.shaped d = true := shaped_mk h.lay (Nat.le_trans h.dep e)
theorem fine_state {p : Int} {qs : Qs} (h1 : qs.length ≤ 1000000) (h2 : ∀ q ∈ qs, q.length ≤ 1000000) : Fine 4 (stateD p qs) := by
  refine fine_tup (by simp) fun d hd => ?_
  simp only [List.mem_cons, List.not_mem_nil, or_false] at hd
  rcases hd with rfl | rfl
  · exact (fine_int p).mono (by decide)
  · refine fine_tup (by rw [List.length_map]; exact h1) fun d hd => ?_
    obtain ⟨q, hq, rfl⟩ := List.mem_map.mp hd
    refine fine_tup (by rw [List.length_map]; exact h2 q hq) fun d hd => ?_
    obtain ⟨i, _, rfl⟩ := List.mem_map.mp hd
    exact fine_int i
theorem fine_short {N : Net} {p : Int} {qs : Qs} (h8 : N.length ≤ 8) (J : JN N) (S : Short N qs) : Fine 4 (stateD p qs) := by
  refine fine_state (by rw [S.len]; omega) fun q hq => ?_
  obtain ⟨k, hk⟩ := List.mem_iff_getElem?.mp hq
  have hkl := (List.getElem?_eq_some_iff.mp hk).1
  have hkN : k < N.length := by rw [← S.len]; exact hkl
  have h1 := S.lt k hkN
  have h2 := (J.st k hkN).2
  rw [List.getD_eq_getElem?_getD, hk] at h1
  have h1 : q.length < _ := h1
  omega
def finD (fs : List (Str × Int)) : PyData := .list (fs.map fpD)
theorem fine_fin {fs : List (Str × Int)} (h3 : fs.length ≤ 1000000) (h4 : ∀ x ∈ fs, PyData.strOk x.1 = true) : Fine 3 (finD fs) := by
  refine fine_lst (n := 2) (by rw [List.length_map]; exact h3) fun d hd => ?_
  obtain ⟨x, hx, rfl⟩ := List.mem_map.mp hd
  refine fine_tup (by simp) fun d hd => ?_
  simp only [List.mem_cons, List.not_mem_nil, or_false] at hd
  rcases hd with rfl | rfl
  · exact fine_str (h4 x hx)
  · exact fine_int x.2
theorem ok_W4 : ∀ z ∈ W4, PyData.strOk z = true := by decide +kernel
theorem Drawn.fin {N : Net} {most : Int} {α : Type} [Inhabited α] {es : EvsA α} (D : Drawn N most) (h : FinS N es) : ∀ x ∈ finOf es, PyData.strOk x.1 = true := fun x hx => by
  obtain ⟨k, hk⟩ := h x hx
  rw [List.getD_eq_getElem?_getD] at hk
  cases e : N[k]? with
  | none => rw [e] at hk; cases hk
  | some s =>
    rw [e] at hk
    exact ok_W4 _ ((D.st k s e).2.2 _ hk)
theorem Drawn.more {N : Net} {a b : Int} (D : Drawn N a) (h : a ≤ b) : Drawn N b := ⟨D.pos, by have := D.le; omega, D.st⟩
theorem st_short {N : Net} {p : Int} {qs : Qs} (hS : StOk N p qs) : Short N qs := ⟨hS.len, fun k hk => by
  have hql := hS.len
  have h1 : qs[k]? = some (qs.getD k []) := by simp [List.getD_eq_getElem?_getD, hql, hk]
  have h2 : N[k]? = some (N.getD k []) := by simp [List.getD_eq_getElem?_getD, hk]
  exact hS.lt k _ _ h1 h2⟩
theorem run_pm {N : Net} {qs : Qs} {p : Int} (hV : ValidN N) (h8 : N.length ≤ 8) (S : Short N qs) (t : Nat) : ((runI N qs p (t + 1)).flatten ++ (finT N qs p t).map (·.2)).Perm ((runI N qs p t).flatten ++ [p + (t : Int)]) := by
  have Sh := runI_short (p := p) hV h8 S t
  have hp := hV.pos
  exact (joinW_pm (departW_pm (jn_of hV).fw 8) (p := p + (t : Int)) (by rw [Sh.len]; omega) Sh.len).2
theorem run_st {N : Net} {qs : Qs} {p : Int} (hV : ValidN N) (h8 : N.length ≤ 8) (hO : StOk N p qs) : ∀ t : Nat, StOk N (p + (t : Int)) (runI N qs p t)
  | 0 => by
    show StOk N (p + ((0 : Nat) : Int)) qs
    rw [show p + ((0 : Nat) : Int) = p by omega]
    exact hO
  | t + 1 => by
    have I := run_st hV h8 hO t
    have Sh := runI_short (p := p) hV h8 (st_short hO) (t + 1)
    have pm := run_pm hV h8 (p := p) (st_short hO) t
    have n1 : ((runI N qs p t).flatten ++ [p + (t : Int)]).Nodup := by
      refine List.nodup_append.mpr ⟨I.nd, by simp, fun a ha b hb => ?_⟩
      have := (I.rng a ha).2
      have := List.mem_singleton.mp hb
      omega
    have n2 := pm.nodup_iff.mpr n1
    refine ⟨by have := hO.pos; omega, Sh.len, fun k q s h1 h2 => ?_, (List.nodup_append.mp n2).1, fun x hx => ?_⟩
    · have hk := (List.getElem?_eq_some_iff.mp h2).1
      have := Sh.lt k hk
      rw [List.getD_eq_getElem?_getD, List.getD_eq_getElem?_getD, h1, h2] at this
      exact this
    · have := pm.mem_iff.mp (List.mem_append_left _ hx)
      rcases List.mem_append.mp this with h | h
      · have := I.rng x h
        omega
      · have := List.mem_singleton.mp h
        have := hO.pos
        omega
theorem finT_short {N : Net} {qs : Qs} {p : Int} (hV : ValidN N) (h8 : N.length ≤ 8) (S : Short N qs) (t : Nat) : (finT N qs p t).length ≤ 65 := by
  have h := (run_pm hV h8 (p := p) S t).length_eq
  have := flatS hV h8 (runI_short (p := p) hV h8 S t)
  rw [List.length_append, List.length_append, List.length_map, List.length_singleton] at h
  omega
theorem finT_ok {N : Net} {most : Int} (D : Drawn N most) {qs : Qs} {p : Int} {t : Nat} : ∀ x ∈ finT N qs p t, PyData.strOk x.1 = true := fun x hx => by
  have hF : FinS N (joinW N (departW N 8) (runI N qs p t) 0 (p + (t : Int))).2 := joinW_s (departW_s 8) (runI N qs p t) 0 (p + (t : Int))
  have h := D.fin hF
  unfold finT arrI at hx
  exact h x hx
theorem fp_at {K : PySem.W.Frag} {H : Hp} {v : V} {x : Str × Int} (h : Dp K H v (fpD x)) : ∃ a, v = .ref a ∧ SqT K H a [.str x.1, .int x.2] := by
  obtain ⟨a, xs, rfl, h1, h2⟩ := h.tup_inv
  cases h2 with
  | cons a1 a2 =>
    cases a2 with
    | cons a3 a4 =>
      cases a4
      cases a1
      cases a3
      exact ⟨a, rfl, h1⟩
theorem bt_le {N : Net} {ls : List Int} (J : JN N) (L : Lens N ls) {t : Int} (ht : 0 ≤ t) {k : Nat} (hk : k < N.length) : bt N ls t k ≤ t + 8 * ((k : Int) + 1) := by
  have h1 := jq_le J.fw L ht hk
  have h2 := (lsum_le L (fun k hk => (J.st k hk).2) k (by omega)).2
  have h3 := L.lt k hk
  have h4 := (J.st k hk).2
  have h5 := L.pos k hk
  have h6 := L.nn k hk
  have h0 : 0 ≤ jq N ls t (.inl (k : Int)) := by
    have := jq_mono (ls := ls) J.fw L.pos ht (.inl (k : Int))
    rw [jq_zero J.fw L] at this
    exact this
  rw [bt_eq J.fw hk, Int.fdiv_eq_ediv_of_nonneg _ (by omega)]
  have := Int.ediv_le_self (a := ls.getD k 0 + jq N ls t (.inl (k : Int))) (((N.getD k []).length : Nat) : Int) (by omega)
  omega
def pairD (y t : Int) : PyData := .tuple [.int y, .int t]
theorem fine_pair (y t : Int) : Fine 2 (pairD y t) := fine_tup (by simp) fun d hd => by
  simp only [List.mem_cons, List.not_mem_nil, or_false] at hd
  rcases hd with rfl | rfl <;> exact fine_int _
end K
set_option Elab.async false
set_option linter.all false
set_option maxRecDepth 100000
set_option maxHeartbeats 1000000
set_option exponentiation.threshold 20000
namespace K
open PySem PySem.Spec PyProof.Rows L2 Evl FB
local macro_rules | `(tactic| walk_at "run") => `(tactic| try simp only [tSeq, tAsg, tVar, tC, gName, L2.start, List.map_cons, List.map_nil, List.cons_append, List.nil_append, List.length_cons, List.length_nil, List.replicate, List.getElem?_cons_zero, List.getElem?_cons_succ, Option.some.injEq, exists_eq_left', List.set_cons_zero, List.set_cons_succ, V.ref.injEq, tRet, x_tLst, x_tTup, tCons, tCB, tNil, tOp, x_addI, x_mulI, x_rI, x_rI0, x_ltI, x_leI, x_ltS, x_leS, x_eqI, x_neI, x_eqS, x_eqB, x_neB, x_isiI, x_isiS, x_int, x_max, x_min, cxOf, tIfS, tNext, tTest, V.bl.injEq, decide_eq_true_eq, gSub, tAnd, tOr, tNot, tB, tDrop, tBM, x_tFor, iRng1, iList, iTup, x_tLc, tYes, tCall, tIf, tAndV, tOrV, tNotV, tChain, List.append_nil, tUn, if_true, wipe, true_and, x_never, iU, x_itS, kV, Nat.reduceAdd, Nat.reduceSub, List.replicate_zero, x_rU, x_tMkO, iEnumT, x_tDc, x_tDGet, x_tDGet2, x_sDPut, x_tDSetd, x_tDNewK, x_iItems, x_iZip, x_tSAddK, x_tLockV, x_tTupRg, x_tRg2, tPar, tPar3, tBM0, tSl, tNoPart, tPart, x_tSetAdd, x_tDIn, x_iKeys, x_iZipX, x_iZip3, iRevR, tRg1, x_tFld, x_tMeth, x_sFld, x_tMake, tAug, x_ipI, x_tDNotIn, iRng2])
/-! boats told; _law_enter -/
section
variable {P : Program} {w : World} {K : PySem.W.Frag} {mg : Str → Option Value} {base : Heap}
/-- the boats told: (station, list of passengers), in lists of which S holds -/
structure BtAt (K : PySem.W.Frag) (H : Hp) (Ba : Addr) (S : Addr → Prop) (bs : List (Nat × List Int)) : Prop where
  ex : ∃ ts : List Addr, H Ba = some (.lst (ts.map V.ref)) ∧ ts.length = bs.length ∧ ∀ (t : Nat) (b : Nat × List Int), bs[t]? = some b → ∃ a l, ts[t]? = some a ∧ S l ∧ SqT K H a [.int (b.1 : Int), .ref l] ∧ H l = some (.lst (b.2.map V.int))
/-- all but fr stands -/
def ExF (fr : List Addr) (H H' : Hp) : Prop := ∀ x o, H x = some o → x ∉ fr → H' x = some o
theorem ExF.back {fr : List Addr} {H H2 : Hp} (e : ExF fr H H2) (h : ∀ x ∈ fr, H2 x ≠ none) {x : Addr} (n : H2 x = none) : H x = none := by
  cases z : H x with
  | none => rfl
  | some o =>
    by_cases m : x ∈ fr
    · exact absurd n (h x m)
    · rw [e _ _ z m] at n; cases n
theorem BtAt.keep {H H2 : Hp} {Ba : Addr} {fr : List Addr} {S : Addr → Prop} {bs : List (Nat × List Int)} (W : BtAt K H Ba S bs) (h : ∀ o, H Ba = some o → H2 Ba = some o) (t : TX H H2) (e : ExF fr H H2) (s : ∀ x ∈ fr, ¬ S x) : BtAt K H2 Ba S bs := by
  obtain ⟨ts, h1, h2, h3⟩ := W.ex
  exact ⟨⟨ts, h _ h1, h2, fun i b hb => by
    obtain ⟨a, l, a1, a2, a3, a4⟩ := h3 i b hb
    exact ⟨a, l, a1, a2, t.t a3, e _ _ a4 fun z => s l z a2⟩⟩⟩
theorem BtAt.ex1 {H H2 : Hp} {Ba : Addr} {S : Addr → Prop} {bs : List (Nat × List Int)} (W : BtAt K H Ba S bs) (e : Ex H H2) : BtAt K H2 Ba S bs := W.keep (fr := []) (fun _ h => e _ _ h) (TX.of e) (fun _ _ h _ => e _ _ h) (by simp)
theorem BtAt.push {H H2 : Hp} {Ba : Addr} {fr : List Addr} {S : Addr → Prop} {bs : List (Nat × List Int)} {b : Nat × List Int} {xs : List V} {a l : Addr} (W : BtAt K H Ba S bs) (h0 : H Ba = some (.lst xs)) (h : H2 Ba = some (.lst (xs ++ [.ref a]))) (t : TX H H2) (e : ExF fr H H2) (s : ∀ x ∈ fr, ¬ S x) (hl : S l) (ha : SqT K H2 a [.int (b.1 : Int), .ref l]) (hb : H2 l = some (.lst (b.2.map V.int))) : BtAt K H2 Ba S (bs ++ [b]) := by
  obtain ⟨ts, h1, h2, h3⟩ := W.ex
  rw [h0] at h1
  cases h1
  refine ⟨⟨ts ++ [a], by rw [h, List.map_append]; rfl, by simp [h2], fun i c hc => ?_⟩⟩
  by_cases hi : i < bs.length
  · rw [List.getElem?_append_left hi] at hc
    obtain ⟨a', l', a1, a2, a3, a4⟩ := h3 i c hc
    exact ⟨a', l', by rw [List.getElem?_append_left (by omega)]; exact a1, a2, t.t a3, e _ _ a4 fun z => s l' z a2⟩
  · rw [List.getElem?_append_right (by omega)] at hc
    obtain ⟨z1, z2⟩ := List.getElem?_eq_some_iff.mp hc
    have hi2 : i = bs.length := by simp at z1; omega
    have hcb : b = c := by simpa using z2
    subst hi2 hcb
    exact ⟨a, l, by rw [List.getElem?_append_right (by omega), h2]; simp, hl, ha, hb⟩
/-- the boats of what happens -/
def btsOf : Evs → List (Nat × List Int)
  | [] => []
  | (.inl k, ps) :: r => (k.toNat, ps) :: btsOf r
  | (.inr _, _) :: r => btsOf r
theorem btsOf_append : ∀ {a b : Evs}, btsOf (a ++ b) = btsOf a ++ btsOf b
  | [], _ => rfl
  | (.inl k, ps) :: r, b => congrArg ((k.toNat, ps) :: ·) (btsOf_append (a := r))
  | (.inr _, _) :: r, b => btsOf_append (a := r)
theorem btsOf_len : ∀ {a : Evs}, (btsOf a).length ≤ a.length
  | [] => Nat.le_refl _
  | (.inl _, _) :: r => Nat.succ_le_succ (btsOf_len (a := r))
  | (.inr _, _) :: r => Nat.le_succ_of_le (btsOf_len (a := r))
def wK (Qa Ba Fa : Addr) : List (Key × V) := [(.inr ("queues" : Str), .ref Qa), (.inr ("boats" : Str), .ref Ba), (.inr ("finished" : Str), .ref Fa)]
theorem wk1 : ¬ ("queues" : Str) = "boats" := by decide +kernel
theorem wk2 : ¬ ("queues" : Str) = "finished" := by decide +kernel
theorem wk3 : ¬ ("boats" : Str) = "finished" := by decide +kernel
theorem w_queues {Qa Ba Fa : Addr} : valV (wK Qa Ba Fa) (.inr ("queues" : Str)) = some (.ref Qa) := valV_pos rfl
theorem w_boats {Qa Ba Fa : Addr} : valV (wK Qa Ba Fa) (.inr ("boats" : Str)) = some (.ref Ba) := (valV_neg fun h => wk1 (Sum.inr.inj h)).trans (valV_pos rfl)
theorem w_finished {Qa Ba Fa : Addr} : valV (wK Qa Ba Fa) (.inr ("finished" : Str)) = some (.ref Fa) := (valV_neg fun h => wk2 (Sum.inr.inj h)).trans ((valV_neg fun h => wk3 (Sum.inr.inj h)).trans (valV_pos rfl))
abbrev s_l_enter : Stmt := top 45
theorem sc_l_enter : FnScope ["_law_network_here", "_law_w", "_law_station", "_law_passenger", "_law_passengers", "_law_seat", "_law_place_here"] ["_law_network_here", "_law_w", "_law_station", "_law_passenger"] (defScope s_l_enter) := ⟨rfl, rfl, rfl, by decide +kernel, rfl, by decide +kernel, by decide +kernel⟩
structure Wat (K : PySem.W.Frag) (H : Hp) (Wa Qa Ba Fa : Addr) (as : List Addr) (S : Addr → Prop) (qs : Qs) (fs : List (Str × Int)) (bs : List (Nat × List Int)) : Prop where
  w : H Wa = some (.dK (wK Qa Ba Fa))
  q : QsAt K H Qa as qs
  f : FinAt K H Fa fs
  b : BtAt K H Ba S bs
  s1 : ∀ x, H x = none → S x
  s2 : ∀ x ∈ Ba :: Fa :: as, ¬ S x
  fq : Fa ≠ Qa
  fa : Fa ∉ as
  bq : Ba ≠ Qa
  ba : Ba ∉ as
  bf : Ba ≠ Fa
theorem fr_some {H : Hp} {Qa Ba Fa : Addr} {as : List Addr} {S : Addr → Prop} {qs : Qs} {fs : List (Str × Int)} {bs : List (Nat × List Int)} (q : QsAt K H Qa as qs) (f : FinAt K H Fa fs) (b : BtAt K H Ba S bs) : ∀ x ∈ Ba :: Fa :: as, H x ≠ none := fun x hx n => by
  rcases List.mem_cons.mp hx with z | hx
  · obtain ⟨ts, h1, _⟩ := b.ex
    rw [← z, n] at h1; cases h1
  · rcases List.mem_cons.mp hx with z | hx
    · obtain ⟨ts, h1, _⟩ := f.ex
      rw [← z, n] at h1; cases h1
    · obtain ⟨i, hi⟩ := List.mem_iff_getElem?.mp hx
      rw [q.q i _ hi] at n; cases n
def spEnter (K : PySem.W.Frag) (f : Nat) : Sp := fun vs H Q _ => ∃ (v : V) (N : Net) (Wa Qa Ba Fa : Addr) (as : List Addr) (S : Addr → Prop) (qs : Qs) (fs : List (Str × Int)) (bs : List (Nat × List Int)) (j : Nat) (p : Int), vs = [v, .ref Wa, .int (j : Int), .int p] ∧ NetAt K H v N ∧ JN N ∧ Wat K H Wa Qa Ba Fa as S qs fs bs ∧
  Short N qs ∧ j < N.length ∧ N.length ≤ j + f ∧ fs.length + qs.flatten.length + 1 ≤ 100000 ∧ bs.length + wayW N.length 0 qs + 2 * (N.length - j) ≤ 100000 ∧
  ∀ H', ExF (Ba :: Fa :: as) H H' → TX H H' → Wat K H' Wa Qa Ba Fa as S (joinW N (departW N f) qs j p).1 (fs ++ finOf (joinW N (departW N f) qs j p).2) (bs ++ btsOf (joinW N (departW N f) qs j p).2) → Q .non H'
theorem ok_l_enter1 {f : Addr} {fd : FuncData} {l n : Nat} (D_l_enter : Df K mg "_law_enter" s_l_enter ["_law_network_here", "_law_w", "_law_station", "_law_passenger"] f fd) (T : Bt mg)
    (G_l_enter : FnOk P w K mg base CX0 l f fd ["_law_network_here", "_law_w", "_law_station", "_law_passenger"] (spEnter K n)) : FnOk P w K mg base CX0 (l + 1) f fd ["_law_network_here", "_law_w", "_law_station", "_law_passenger"] (spEnter K (n + 1)) := by
  refine D_l_enter.F.ok sc_l_enter (fun vs H Q E h => ?_) (fun cdv A outer s H vs Q E hr h => ?_)
  · obtain ⟨v, N, Wa, Qa, Ba, Fa, as, Sp0, qs, fs, bs, j, p, rfl, _⟩ := h
    rfl
  · obtain ⟨v, N, Wa, Qa, Ba, Fa, as, Sp0, qs, fs, bs, j, p, rfl, hN, hJ, W, S, hj, hf, hb, hbb, q⟩ := h
    have hu := hr.units
    have hu1 := hu_of hr
    refine ⟨_, (pss_cons (ps_expr (pe_bm PySem.F.plainAttrs_list PySem.F.slot_list_append PySem.F.type_list_append mt_append (pe_ix (ix_U (K := K)) (pe_dget hu1 (pv 1) pe_str (fun _ _ => rfl)) (pv 2) (fun _ _ => rfl)) (pa_cons (pv 3) pa_nil)))
      (pss_one (ps_if (pt_cmpR (op_eqU (K := K) hu) (pe_callB (call_lenU (K := K)) (by rfl) T.b_len (by decide +kernel) (pa_cons (pe_ix (ix_U (K := K)) (pe_dget hu1 (pv 1) pe_str (fun _ _ => rfl)) (pv 2) (fun _ _ => rfl)) pa_nil)) (pe_callB (call_lenU (K := K)) (by rfl) T.b_len (by decide +kernel) (pa_cons (pe_ix (ix_U (K := K)) (pv 0) (pv 2) (fun _ _ => rfl)) pa_nil)) (nomark _)) (pss_cons (ps_set (i := 4) sc_l_enter.nd rfl (Or.inl rfl) (pe_callTy (call_listU (K := K)) (by rfl) T.b_list (by decide +kernel) (pa_cons (pe_ix (ix_U (K := K)) (pe_dget hu1 (pv 1) pe_str (fun _ _ => rfl)) (pv 2) (fun _ _ => rfl)) pa_nil)))
      (pss_cons (ps_expr (pe_bm0 PySem.F.plainAttrs_list PySem.F.slot_list_clear PySem.F.type_list_clear mt_clear (pe_ix (ix_U (K := K)) (pe_dget hu1 (pv 1) pe_str (fun _ _ => rfl)) (pv 2) (fun _ _ => rfl))))
      (pss_cons (ps_expr (pe_bm PySem.F.plainAttrs_list PySem.F.slot_list_append PySem.F.type_list_append mt_append (pe_dget hu1 (pv 1) pe_str (fun _ _ => rfl)) (pa_cons (pe_tup (pa_cons (pv 2) (pa_cons (pv 4) pa_nil))) pa_nil)))
      (pss_one (ps_for PassesOwn.never rfl (pi_range1 (by rfl) T.b_range (pa_cons (pe_callB (call_lenU (K := K)) (by rfl) T.b_len (by decide +kernel) (pa_cons (pv 4) pa_nil)) pa_nil)) (pg_name (i := 5) sc_l_enter.nd rfl (Or.inl rfl)) (pss_cons (ps_set (i := 6) sc_l_enter.nd rfl (Or.inl rfl) (pe_ix (ix_U (K := K)) (pe_ix (ix_U (K := K)) (pv 0) (pv 2) (fun _ _ => rfl)) (pv 5) (fun _ _ => rfl)))
      (pss_one (ps_if (pt_val (pe_callB (call_isiU (K := K)) (by rfl) T.b_isinstance (by decide +kernel) (pa_cons (pv 6) (pa_cons (pe_bltn (v := .ty "str") (by rfl) T.b_str (by decide +kernel) rfl) pa_nil)))) (pss_one (ps_expr (pe_bm PySem.F.plainAttrs_list PySem.F.slot_list_append PySem.F.type_list_append mt_append (pe_dget hu1 (pv 1) pe_str (fun _ _ => rfl)) (pa_cons (pe_tup (pa_cons (pv 6) (pa_cons (pe_ix (ix_U (K := K)) (pv 4) (pv 5) (fun _ _ => rfl)) pa_nil))) pa_nil)))) (pss_one (ps_expr (pe_call (G_l_enter) hr rfl D_l_enter.g D_l_enter.F.kp D_l_enter.b .nil pass0 (pa_cons (pv 0) (pa_cons (pv 1) (pa_cons (pv 6) (pa_cons (pe_ix (ix_U (K := K)) (pv 4) (pv 5) (fun _ _ => rfl)) pa_nil))))))))))))))) pss_nil))), ?_⟩
    walk_at "run"
    have hjq : j < qs.length := by rw [S.len]; exact hj
    obtain ⟨a, ha, hHa, ham⟩ := W.q.get hjq
    obtain ⟨vn, us, rfl, hU, hus⟩ := hN.at
    obtain ⟨h1s, h8s⟩ := hJ.st j hj
    have hlt := S.lt j hj
    have haj : (as.map V.ref)[j]? = some (.ref a) := by simp [ha]
    obtain ⟨fr, hfr⟩ : ∃ fr, fr = Ba :: Fa :: as := ⟨_, rfl⟩
    have fra : ∀ {x}, x ∈ as → x ∈ fr := fun h => by rw [hfr]; exact List.mem_cons_of_mem _ (List.mem_cons_of_mem _ h)
    have frB : Ba ∈ fr := by rw [hfr]; exact List.mem_cons_self ..
    have frF : Fa ∈ fr := by rw [hfr]; exact List.mem_cons_of_mem _ (List.mem_cons_self ..)
    have frx : ∀ {x}, x ≠ Ba → x ≠ Fa → x ∉ as → x ∉ fr := fun h1 h2 h3 h => by
      rw [hfr] at h
      rcases List.mem_cons.mp h with h | h
      · exact h1 h
      · rcases List.mem_cons.mp h with h | h
        · exact h2 h
        · exact h3 h
    have frn : ∀ {x}, H x = none → x ∉ fr := fun h => by
      refine frx (fun z => ?_) (fun z => ?_) fun z => ?_
      · obtain ⟨ts, h1, _⟩ := W.b.ex
        rw [z, h1] at h; cases h
      · obtain ⟨ts, h1, _⟩ := W.f.ex
        rw [z, h1] at h; cases h
      · obtain ⟨i, hi⟩ := List.mem_iff_getElem?.mp z
        rw [W.q.q i _ hi] at h; cases h
    have Wfr : Wa ∉ fr := frx (fun z => ?_) (fun z => ?_) (fun z => ?_)
    rotate_left
    · obtain ⟨ts, h1, _⟩ := W.b.ex
      have := W.w
      rw [z, h1] at this; cases this
    · obtain ⟨ts, h1, _⟩ := W.f.ex
      have := W.w
      rw [z, h1] at this; cases this
    · obtain ⟨i, hi⟩ := List.mem_iff_getElem?.mp z
      have := W.w
      rw [W.q.q i _ hi] at this; cases this
    have Qfr : Qa ∉ fr := frx W.bq.symm W.fq.symm W.q.ne
    have hFa : a ≠ Fa := fun z => W.fa (by rw [← z]; exact ham)
    have hBa : a ≠ Ba := fun z => W.ba (by rw [← z]; exact ham)
    rw [← hfr] at q
    have WB : BtAt K H Ba Sp0 bs := W.b
    have sfr : ∀ x ∈ fr, ¬ Sp0 x := by rw [hfr]; exact W.s2
    have back : ∀ {H2 : Hp} {qs2 : Qs} {fs2 : List (Str × Int)} {bs2 : List (Nat × List Int)}, ExF fr H H2 → QsAt K H2 Qa as qs2 → FinAt K H2 Fa fs2 → BtAt K H2 Ba Sp0 bs2 → ∀ x, H2 x = none → Sp0 x := fun e a b c x n => W.s1 x (ExF.back e (hfr ▸ fr_some a b c) n)
    refine x_dget (k := .inr ("queues" : Str)) W.w w_queues (x_ixL (SqL.of W.q.at_) (atI_nat haj) ⟨x_tyL (SqL.of hHa), x_append hHa (by rw [List.length_map]; omega) fun H1 e1 h1 => ?_⟩)
    obtain ⟨q1, hq1⟩ : ∃ q1, q1 = qs.getD j [] ++ [p] := ⟨_, rfl⟩
    have hq1l : q1.length = (qs.getD j []).length + 1 := by rw [hq1]; simp
    have h1 : H1 a = some (.lst (q1.map V.int)) := by rw [h1, hq1, List.map_append]; rfl
    have hQ1 : QsAt K H1 Qa as (qs.set j q1) := W.q.set ha e1 h1
    have t1 : TX H H1 := TX.but hHa e1
    have E1 : ExF fr H H1 := fun x o h n => e1 x o (fun z => n (by rw [z]; exact fra ham)) h
    have w1 := E1 _ _ W.w Wfr
    have hF1 : FinAt K H1 Fa fs := W.f.tx t1 fun o h => e1 _ _ hFa.symm h
    have hB1 : BtAt K H1 Ba Sp0 bs := WB.keep (fun o h => e1 _ _ hBa.symm h) t1 E1 sfr
    refine x_dget (k := .inr ("queues" : Str)) w1 w_queues (x_ixL (SqL.of hQ1.at_) (atI_nat haj) (x_lenL (SqL.of h1) ?_))
    obtain ⟨sv, hsv, hsd⟩ := hus.get (show (N.map stD)[j]? = some (stD (N.getD j [])) by simp [List.getD_eq_getElem?_getD, hj])
    obtain ⟨b, rfl, hbs⟩ := StAt.at hsd
    refine x_ixT (t1.t hU) (atI_nat hsv) (x_lenT (t1.t hbs) ?_)
    rw [List.length_map, List.length_map]
    walk_at "run"
    by_cases e : q1.length = (N.getD j []).length
    · rw [if_pos (by omega)]
      have hjw : joinW N (departW N (n + 1)) qs j p = departW N (n + 1) (qs.set j q1) j := by unfold joinW; rw [← hq1, if_pos e]
      have hgq : (qs.set j q1).getD j [] = q1 := by rw [getD_set' hjq, if_pos rfl]
      have hss : (qs.set j q1).set j [] = qs.set j [] := List.set_set ..
      have hdw : departW N (n + 1) (qs.set j q1) j = ((moveW N (departW N n) ((N.getD j []).zip q1) (qs.set j [])).1, (.inl (j : Int), q1) :: (moveW N (departW N n) ((N.getD j []).zip q1) (qs.set j [])).2) := by
        show ((moveW N (departW N n) ((N.getD j []).zip ((qs.set j q1).getD j [])) ((qs.set j q1).set j [])).1, ((.inl (j : Int), (qs.set j q1).getD j []) : Key × List Int) :: (moveW N (departW N n) ((N.getD j []).zip ((qs.set j q1).getD j [])) ((qs.set j q1).set j [])).2) = _
        rw [hgq, hss]
      rw [hjw, hdw] at q
      refine x_dget (k := .inr ("queues" : Str)) w1 w_queues (x_ixL (SqL.of hQ1.at_) (atI_nat haj) (x_listL (SqL.of h1) fun pl H2 npl e2 h2 => ?_))
      refine x_dget (k := .inr ("queues" : Str)) (e2 _ _ w1) w_queues (x_ixL (SqL.of (e2 _ _ hQ1.at_)) (atI_nat haj) ⟨x_tyL (SqL.of (e2 _ _ h1)), a, _, rfl, rfl, e2 _ _ h1, ?_⟩)
      generalize hH3 : upd H2 a (.lst []) = H3
      have e3 : ∀ x o, x ≠ a → H2 x = some o → H3 x = some o := fun x o hx h => by rw [← hH3, upd_ne hx]; exact h
      have h3 : H3 a = some (.lst []) := by rw [← hH3, upd_same]
      have hpa : pl ≠ a := (ne_of_none h1 npl).symm
      have t13 : TX H1 H3 := (TX.of e2).trans (TX.but (e2 _ _ h1) e3)
      have E3 : ExF fr H1 H3 := fun x o h n => e3 x o (fun z => n (by rw [z]; exact fra ham)) (e2 _ _ h)
      have hQ3 : QsAt K H3 Qa as (qs.set j []) := by
        have := (hQ1.ex e2).set (y := []) ha e3 h3
        rw [hss] at this
        exact this
      have hF3 : FinAt K H3 Fa fs := hF1.tx t13 fun o h => e3 _ _ hFa.symm (e2 _ _ h)
      have hB3 : BtAt K H3 Ba Sp0 bs := hB1.keep (fun o h => e3 _ _ hBa.symm (e2 _ _ h)) t13 E3 sfr
      have w3 := E3 _ _ w1 Wfr
      have hpl3 := e3 _ _ hpa h2
      have nplH : H pl = none := by
        cases z : H pl with
        | none => rfl
        | some o =>
          by_cases zf : pl ∈ fr
          · exfalso
            rw [hfr] at zf
            rcases List.mem_cons.mp zf with zf | zf
            · obtain ⟨ts, z1, _⟩ := hB1.ex
              rw [zf, z1] at npl; cases npl
            · rcases List.mem_cons.mp zf with zf | zf
              · obtain ⟨ts, z1, _⟩ := hF1.ex
                rw [zf, z1] at npl; cases npl
              · obtain ⟨i, hi⟩ := List.mem_iff_getElem?.mp zf
                rw [hQ1.q i _ hi] at npl; cases npl
          · rw [E1 _ _ z zf] at npl; cases npl
      have hplf : pl ∉ fr := frn nplH
      obtain ⟨tsB, hBl, hBlen, _⟩ := hB3.ex
      refine x_dget (k := .inr ("boats" : Str)) w3 w_boats ⟨x_tyL (SqL.of hBl), x_tup (by simp) fun tp H4 ntp e4 h4 => ?_⟩
      refine x_append (e4 _ _ hBl) (by rw [List.length_map, hBlen]; omega) fun H5 e5 h5 => ?_
      have t35 : TX H3 H5 := (TX.of e4).trans (TX.but (e4 _ _ hBl) e5)
      have E5 : ExF fr H3 H5 := fun x o h n => e5 x o (fun z => n (by rw [z]; exact frB)) (e4 _ _ h)
      have hBt : Ba ≠ tp := ne_of_none hBl ntp
      have hplB : pl ≠ Ba := fun z => hplf (by rw [z]; exact frB)
      have hpl5 := e5 _ _ hplB (e4 _ _ hpl3)
      have hB5 : BtAt K H5 Ba Sp0 (bs ++ [(j, q1)]) := hB3.push hBl h5 t35 E5 sfr (W.s1 _ nplH) (SqT.of (e5 _ _ hBt.symm h4)) hpl5
      have hQ5 : QsAt K H5 Qa as (qs.set j []) := (hQ3.ex e4).but e5 W.bq.symm W.ba
      have hF5 : FinAt K H5 Fa fs := hF3.tx t35 fun o h => e5 _ _ W.bf.symm (e4 _ _ h)
      have w5 := E5 _ _ w3 Wfr
      have E05 : ExF fr H H5 := fun x o h n => E5 _ _ (E3 _ _ (E1 _ _ h n) n) n
      have t05 : TX H H5 := t1.trans (t13.trans t35)
      have W5 : Wat K H5 Wa Qa Ba Fa as Sp0 (qs.set j []) fs (bs ++ [(j, q1)]) := ⟨w5, hQ5, hF5, hB5, back E05 hQ5 hF5 hB5, W.s2, W.fq, W.fa, W.bq, W.ba, W.bf⟩
      refine x_lenL (SqL.of hpl5) ⟨_, rfl, by rw [List.length_map]; omega, by rw [List.length_map]; omega, ?_⟩
      rw [List.length_map, Int.toNat_natCast]
      have h1k : ∀ k, k < N.length → 1 ≤ (N.getD k []).length := fun k hk => (hJ.st k hk).1
      have S0 : Short N (qs.set j []) := ⟨by rw [List.length_set]; exact S.len, fun k hk => by
        rw [getD_set' hjq]
        split
        · rename_i e; subst e; exact h1s
        · exact S.lt k hk⟩
      have hdep := departW_ok (α := Int) h1k hJ.fw n
      have hpm := departW_pm (α := Int) hJ.fw n
      have hway := departW_way (α := Int) hJ.fw n
      have hzl : ((N.getD j []).zip q1).length = q1.length := by rw [List.length_zip]; omega
      have hmem : ∀ i, ∀ m ∈ ((N.getD j []).zip q1).take i, ∀ j2 : Int, m.1 = .inl j2 → (j : Int) < j2 ∧ j2 < N.length := fun i m hm j2 e =>
        hJ.fw j hj j2 (by rw [← e]; exact (List.of_mem_zip (List.mem_of_mem_take hm)).1)
      have hfl0 : (qs.set j []).flatten.length + (qs.getD j []).length = qs.flatten.length := by
        obtain ⟨u, w, z1, z2⟩ := flat_set (y := []) (getD_some hjq)
        rw [z1, z2]
        simp only [List.append_nil, List.length_append]
        omega
      have hw0 := wayW_set (n := N.length) (qs := qs) (k := 0) (j := j) (q := []) hjq
      rw [Nat.zero_add, List.length_nil, Nat.zero_mul] at hw0
      refine loop_it walk_range (fun i σ H' => ∃ u5 u6, σ = [some (.ref vn), some (.ref Wa), some (.int (j : Int)), some (.int p), some (.ref pl), u5, u6] ∧ ExF fr H H' ∧ TX H H' ∧ H' pl = some (.lst (q1.map V.int)) ∧
        Wat K H' Wa Qa Ba Fa as Sp0 (moveW N (departW N n) (((N.getD j []).zip q1).take i) (qs.set j [])).1 (fs ++ finOf (moveW N (departW N n) (((N.getD j []).zip q1).take i) (qs.set j [])).2) ((bs ++ [(j, q1)]) ++ btsOf (moveW N (departW N n) (((N.getD j []).zip q1).take i) (qs.set j [])).2))
        ⟨_, _, rfl, E05, t05, hpl5, by simpa [moveW, finOf, btsOf] using W5⟩ (fun _ _ _ _ _ => trivial) ?_ ?_
      · rintro i x σ H6 H6' hi ⟨u5, u6, rfl, E6, t6, hpl6, W6⟩ ⟨eH, rfl⟩
        subst eH
        have hz : (0 : Int) + i = (i : Int) := by omega
        obtain ⟨S3, K3⟩ := moveW_ok h1k hdep (st := j) (by omega) (ms := ((N.getD j []).zip q1).take i) (hmem i) S0
        obtain ⟨L3, P3⟩ := moveW_pm hpm (ms := ((N.getD j []).zip q1).take i) (qs := qs.set j []) (fun m hm j2 e => by
          have := hmem i m hm j2 e
          rw [List.length_set]; have := S.len; omega) (by rw [List.length_set]; exact S.len)
        obtain ⟨wy, _⟩ := moveW_way hway (st := j) (by omega) hj (ms := ((N.getD j []).zip q1).take i) (qs := qs.set j []) (hmem i) (by rw [List.length_set]; exact S.len)
        have hlen3 := P3.length_eq
        have htl : (((N.getD j []).zip q1).take i).length = i := by rw [List.length_take, hzl]; omega
        rw [htl] at wy
        rw [List.length_append, List.length_append, List.length_map, List.length_map, htl] at hlen3
        obtain ⟨k, hk⟩ : ∃ k, (N.getD j [])[i]? = some k := ⟨(N.getD j [])[i]'(by omega), List.getElem?_eq_getElem (by omega)⟩
        obtain ⟨y, hp⟩ : ∃ y, q1[i]? = some y := ⟨q1[i]'(by omega), List.getElem?_eq_getElem (by omega)⟩
        have hzi : ((N.getD j []).zip q1)[i]? = some (k, y) := by
          rw [List.getElem?_zip_eq_some]
          exact ⟨hk, hp⟩
        have htk : ((N.getD j []).zip q1).take (i + 1) = ((N.getD j []).zip q1).take i ++ [(k, y)] := by rw [List.take_add_one, hzi]; rfl
        rw [htk, moveW_snoc]
        generalize hR : moveW N (departW N n) (((N.getD j []).zip q1).take i) (qs.set j []) = R at W6 S3 K3 L3 hlen3 wy
        have hbl := btsOf_len (a := R.2)
        walk_at "run"
        rw [hz]
        have hpi : (q1.map V.int)[i]? = some (.int y) := by simp only [List.getElem?_map, hp]; rfl
        have hki : ((N.getD j []).map kV)[i]? = some (kV k) := by simp only [List.getElem?_map, hk]; rfl
        refine x_ixT (t6.t hU) (atI_nat hsv) (x_ixT (t6.t hbs) (atI_nat hki) ?_)
        cases k with
        | inl j2 =>
          have hj2 := hJ.fw j hj j2 (List.mem_of_getElem? hk)
          obtain ⟨j', rfl⟩ : ∃ j' : Nat, j2 = (j' : Int) := ⟨j2.toNat, by omega⟩
          walk_at "run"
          rw [if_neg Bool.false_ne_true]
          refine x_ixL (SqL.of hpl6) (atI_nat hpi) ?_
          have hjo := move_one_l (N := N) (dep := departW N n) (j := (j' : Int)) (p := y) (qs := R.1)
          rw [Int.toNat_natCast] at hjo
          rw [hjo]
          refine ⟨_, N, Wa, Qa, Ba, Fa, as, Sp0, R.1, _, _, j', y, rfl, hN.tx t6, hJ, W6, S3, by omega, by omega, ?_, ?_, fun H7 E7 t7 W7 => ?_⟩
          · rw [List.length_append]; omega
          · have hi1 : i + 1 ≤ q1.length := by omega
            have hX : (i + 1) * (2 * (N.length - j)) ≤ q1.length * (2 * (N.length - j)) := Nat.mul_le_mul_right _ hi1
            rw [Nat.add_mul, Nat.one_mul] at hX
            have hX2 : q1.length * (2 * (N.length - j)) = (qs.getD j []).length * (2 * (N.length - j)) + 2 * (N.length - j) := by rw [hq1l, Nat.add_mul, Nat.one_mul]
            rw [List.length_append, List.length_append, List.length_singleton]
            generalize i * (2 * (N.length - j)) = A at *
            generalize (qs.getD j []).length * (2 * (N.length - j)) = B at *
            generalize q1.length * (2 * (N.length - j)) = C at *
            omega
          · rw [← hfr] at E7
            refine ⟨_, _, rfl, fun x o h n => E7 _ _ (E6 _ _ h n) n, t6.trans t7, E7 _ _ hpl6 hplf, ?_⟩
            rw [finOf_append, btsOf_append, ← List.append_assoc, ← List.append_assoc]
            exact W7
        | inr z =>
          walk_at "run"
          obtain ⟨ts, hF6, hts⟩ := W6.f.ex
          refine x_dget (k := .inr ("finished" : Str)) W6.w w_finished ⟨x_tyL (SqL.of hF6), x_ixL (SqL.of hpl6) (atI_nat hpi) ?_⟩
          refine x_tup (by simp) fun tq H7 ntq e7 h7 => ?_
          have htl2 := hts.len
          rw [List.length_map, List.length_append] at htl2
          refine x_append (e7 _ _ hF6) (by rw [htl2]; omega) fun H8 e8 h8 => ?_
          have hFt : Fa ≠ tq := ne_of_none hF6 ntq
          have t68 : TX H6' H8 := (TX.of e7).trans (TX.but (e7 _ _ hF6) e8)
          have E8 : ExF fr H6' H8 := fun x o h n => e8 x o (fun z => n (by rw [z]; exact frF)) (e7 _ _ h)
          have hB6 := W6.b
          rw [move_one_r]
          have hQ8 : QsAt K H8 Qa as R.1 := (W6.q.ex e7).but e8 W.fq.symm W.fa
          have hF8 : FinAt K H8 Fa (fs ++ finOf (R.2 ++ [(.inr z, [y])])) := by
            refine ⟨_, h8, ?_⟩
            rw [finOf_append, ← List.append_assoc, List.map_append]
            refine DpAll.append (DpAll.tx t68 hts fun d hd => ?_) (.cons (.tup (SqT.of (e8 _ _ hFt.symm h7)) (.cons (.str z) (.cons (.int y) .nil))) .nil)
            obtain ⟨y2, _, rfl⟩ := List.mem_map.mp hd
            exact fpD_t y2
          have hB8 : BtAt K H8 Ba Sp0 (bs ++ [(j, q1)] ++ btsOf (R.2 ++ [(.inr z, [y])])) := by
            rw [btsOf_append]
            show BtAt K H8 Ba Sp0 (bs ++ [(j, q1)] ++ (btsOf R.2 ++ []))
            rw [List.append_nil]
            exact hB6.keep (fun o h => e8 _ _ W.bf (e7 _ _ h)) t68 E8 sfr
          have E08 : ExF fr H H8 := fun x o h n => E8 _ _ (E6 _ _ h n) n
          exact ⟨_, _, rfl, E08, t6.trans t68, E8 _ _ hpl6 hplf, E8 _ _ W6.w Wfr, hQ8, hF8, hB8, back E08 hQ8 hF8 hB8, W.s2, W.fq, W.fa, W.bq, W.ba, W.bf⟩
      · rintro σ H6 ⟨u5, u6, rfl, E6, t6, hpl6, W6⟩
        have ht : ((N.getD j []).zip q1).take q1.length = (N.getD j []).zip q1 := List.take_of_length_le (by omega)
        rw [ht] at W6
        refine q H6 E6 t6 ?_
        have : bs ++ btsOf ((.inl (j : Int), q1) :: (moveW N (departW N n) ((N.getD j []).zip q1) (qs.set j [])).2) = bs ++ [(j, q1)] ++ btsOf (moveW N (departW N n) ((N.getD j []).zip q1) (qs.set j [])).2 := by
          show bs ++ ((j : Int).toNat, q1) :: _ = _
          rw [Int.toNat_natCast, List.append_assoc]; rfl
        rw [this]
        exact W6
    · rw [if_neg (by omega)]
      have hjw : joinW N (departW N (n + 1)) qs j p = (qs.set j q1, []) := by unfold joinW; rw [← hq1, if_neg e]
      rw [hjw] at q
      exact q H1 E1 t1 ⟨w1, hQ1, by simpa [finOf] using hF1, by simpa [btsOf] using hB1, back E1 hQ1 hF1 hB1, W.s2, W.fq, W.fa, W.bq, W.ba, W.bf⟩
theorem ok_l_enter {f : Addr} {fd : FuncData} (D_l_enter : Df K mg "_law_enter" s_l_enter ["_law_network_here", "_law_w", "_law_station", "_law_passenger"] f fd) (T : Bt mg) : ∀ n : Nat, FnOk P w K mg base CX0 n f fd ["_law_network_here", "_law_w", "_law_station", "_law_passenger"] (spEnter K n)
  | 0 => FnOk.absurd fun vs H Q E h => by
    obtain ⟨v, N, Wa, Qa, Ba, Fa, as, Sp0, qs, fs, bs, j, p, rfl, hN, hJ, W, S, hj, hf, _⟩ := h
    omega
  | n + 1 => ok_l_enter1 D_l_enter T (ok_l_enter D_l_enter T n)
end
end K
set_option Elab.async false
set_option linter.all false
set_option maxRecDepth 100000
set_option maxHeartbeats 1000000
set_option exponentiation.threshold 20000
namespace K
open PySem PySem.Spec PyProof.Rows L2 Evl FB
local macro_rules | `(tactic| walk_at "run") => `(tactic| try simp only [tSeq, tAsg, tVar, tC, gName, L2.start, List.map_cons, List.map_nil, List.cons_append, List.nil_append, List.length_cons, List.length_nil, List.replicate, List.getElem?_cons_zero, List.getElem?_cons_succ, Option.some.injEq, exists_eq_left', List.set_cons_zero, List.set_cons_succ, V.ref.injEq, tRet, x_tLst, x_tTup, tCons, tCB, tNil, tOp, x_addI, x_mulI, x_rI, x_rI0, x_ltI, x_leI, x_ltS, x_leS, x_eqI, x_neI, x_eqS, x_eqB, x_neB, x_isiI, x_isiS, x_int, x_max, x_min, cxOf, tIfS, tNext, tTest, V.bl.injEq, decide_eq_true_eq, gSub, tAnd, tOr, tNot, tB, tDrop, tBM, x_tFor, iRng1, iList, iTup, x_tLc, tYes, tCall, tIf, tAndV, tOrV, tNotV, tChain, List.append_nil, tUn, if_true, wipe, true_and, x_never, iU, x_itS, kV, Nat.reduceAdd, Nat.reduceSub, List.replicate_zero, x_rU, x_tMkO, iEnumT, x_tDc, x_tDGet, x_tDGet2, x_sDPut, x_tDSetd, x_tDNewK, x_iItems, x_iZip, x_tSAddK, x_tLockV, x_tTupRg, x_tRg2, tPar, tPar3, tBM0, tSl, tNoPart, tPart, x_tSetAdd, x_tDIn, x_iKeys, x_iZipX, x_iZip3, iRevR, tRg1, x_tFld, x_tMeth, x_sFld, x_tMake, tAug, x_ipI, x_tDNotIn, iRng2])
/-! _law_log -/
section
variable {P : Program} {w : World} {K : PySem.W.Frag} {mg : Str → Option Value} {base : Heap}
abbrev s_l_log : Stmt := top 46
theorem sc_l_log : FnScope ["_law_network_here", "_law_state_here", "_law_count", "_law_w", "_law_boats", "_law_finished", "_law_time", "_law_queue", "_law_station", "_law_passengers", "_law_port", "_law_passenger"] ["_law_network_here", "_law_state_here", "_law_count"] (defScope s_l_log) := ⟨rfl, rfl, rfl, by decide +kernel, rfl, by decide +kernel, by decide +kernel⟩
/-- the boats of a run, with their times -/
def allB (N : Net) (qs : Qs) (p : Int) : Nat → List (Nat × List Int × Int)
  | 0 => []
  | t + 1 => allB N qs p t ++ (btsOf (arrI N (runI N qs p t) (p + (t : Int))).2).map fun b => (b.1, b.2, (t : Int) + 1)
/-- who finishes in a run, with the times -/
def allF (N : Net) (qs : Qs) (p : Int) : Nat → List (Str × Int × Int)
  | 0 => []
  | t + 1 => allF N qs p t ++ (finT N qs p t).map fun f => (f.1, f.2, (t : Int) + 1)
def ftD (f : Str × Int × Int) : PyData := .tuple [.str f.1, .int f.2.1, .int f.2.2]
theorem ftD_t (f : Str × Int × Int) : TupD (ftD f) := .tup fun d hd => by
  simp only [List.mem_cons, List.not_mem_nil, or_false] at hd
  rcases hd with rfl | rfl | rfl
  · exact .str _
  · exact .int _
  · exact .int _
/-- boats told with times -/
structure BlAt (K : PySem.W.Frag) (H : Hp) (Ba : Addr) (S : Addr → Prop) (bs : List (Nat × List Int × Int)) : Prop where
  ex : ∃ ts : List Addr, H Ba = some (.lst (ts.map V.ref)) ∧ ts.length = bs.length ∧ ∀ (t : Nat) (b : Nat × List Int × Int), bs[t]? = some b → ∃ a l, ts[t]? = some a ∧ S l ∧ SqT K H a [.int (b.1 : Int), .ref l, .int b.2.2] ∧ H l = some (.lst (b.2.1.map V.int))
theorem BlAt.keep {H H2 : Hp} {Ba : Addr} {fr : List Addr} {S : Addr → Prop} {bs : List (Nat × List Int × Int)} (W : BlAt K H Ba S bs) (h : ∀ o, H Ba = some o → H2 Ba = some o) (t : TX H H2) (e : ExF fr H H2) (s : ∀ x ∈ fr, ¬ S x) : BlAt K H2 Ba S bs := by
  obtain ⟨ts, h1, h2, h3⟩ := W.ex
  exact ⟨⟨ts, h _ h1, h2, fun i b hb => by
    obtain ⟨a, l, a1, a2, a3, a4⟩ := h3 i b hb
    exact ⟨a, l, a1, a2, t.t a3, e _ _ a4 fun z => s l z a2⟩⟩⟩
theorem BlAt.imp {H : Hp} {Ba : Addr} {S S' : Addr → Prop} {bs : List (Nat × List Int × Int)} (W : BlAt K H Ba S bs) (h : ∀ l zs, S l → H l = some (.lst zs) → S' l) : BlAt K H Ba S' bs := by
  obtain ⟨ts, h1, h2, h3⟩ := W.ex
  exact ⟨⟨ts, h1, h2, fun i b hb => by
    obtain ⟨a, l, a1, a2, a3, a4⟩ := h3 i b hb
    exact ⟨a, l, a1, h l _ a2 a4, a3, a4⟩⟩⟩
theorem BlAt.extend {H H2 : Hp} {La : Addr} {S : Addr → Prop} {bs cs : List (Nat × List Int × Int)} {xs : List V} {us : List Addr} (W : BlAt K H La S bs) (h0 : H La = some (.lst xs)) (h : H2 La = some (.lst (xs ++ us.map V.ref))) (t : TX H H2) (e : ExF [La] H H2) (s : ¬ S La) (hl : us.length = cs.length)
    (new : ∀ (t : Nat) (b : Nat × List Int × Int), cs[t]? = some b → ∃ a l, us[t]? = some a ∧ S l ∧ SqT K H2 a [.int (b.1 : Int), .ref l, .int b.2.2] ∧ H2 l = some (.lst (b.2.1.map V.int))) : BlAt K H2 La S (bs ++ cs) := by
  obtain ⟨ts, h1, h2, h3⟩ := W.ex
  rw [h0] at h1
  cases h1
  refine ⟨⟨ts ++ us, by rw [h, List.map_append], by simp [h2, hl], fun i c hc => ?_⟩⟩
  by_cases hi : i < bs.length
  · rw [List.getElem?_append_left hi] at hc
    obtain ⟨a', l', a1, a2, a3, a4⟩ := h3 i c hc
    exact ⟨a', l', by rw [List.getElem?_append_left (by omega)]; exact a1, a2, t.t a3, e _ _ a4 fun z => s (by rw [← List.mem_singleton.mp z]; exact a2)⟩
  · rw [List.getElem?_append_right (by omega)] at hc
    obtain ⟨a, l, a1, a2, a3, a4⟩ := new _ _ hc
    exact ⟨a, l, by rw [List.getElem?_append_right (by omega), h2]; exact a1, a2, a3, a4⟩
theorem merge_wK {Qa Ba Fa : Addr} : mergeK [] (wK Qa Ba Fa) = wK Qa Ba Fa := by
  unfold mergeK wK
  simp [putK, wk1, wk2, wk3]
theorem put_boats {Qa Ba Fa B2 : Addr} : putK (wK Qa Ba Fa) (.inr ("boats" : Str)) (.ref B2) = wK Qa B2 Fa := by
  unfold wK
  have h : ¬ ("finished" : Str) = "boats" := fun h => wk3 h.symm
  simp [putK, wk1, wk3, h]
theorem put_finished {Qa Ba Fa F2 : Addr} : putK (wK Qa Ba Fa) (.inr ("finished" : Str)) (.ref F2) = wK Qa Ba F2 := by
  unfold wK
  simp [putK, wk2, wk3]
theorem way_le {N : Net} {qs : Qs} (hV : ValidN N) (h8 : N.length ≤ 8) (S : Short N qs) : wayW N.length 0 qs + 2 * (N.length - 0) ≤ 1040 := by
  have h1 := wayW_le (n := N.length) (qs := qs) (k := 0)
  have h2 := flatS hV h8 S
  have h3 : qs.flatten.length * (2 * N.length) ≤ 64 * (2 * 8) := Nat.mul_le_mul h2 (by omega)
  omega
theorem arr_len {N : Net} {qs : Qs} {p : Int} (hV : ValidN N) (h8 : N.length ≤ 8) (S : Short N qs) (t : Nat) : (arrI N (runI N qs p t) (p + (t : Int))).2.length ≤ 1040 := by
  have Sh := runI_short (p := p) hV h8 S t
  have hp := hV.pos
  have h := (joinW_way (departW_way (jn_of hV).fw 8) (qs := runI N qs p t) (j := 0) (p := p + (t : Int)) Sh.len (by omega) (by omega)).1
  have := way_le hV h8 Sh
  show (joinW N (departW N 8) (runI N qs p t) 0 (p + (t : Int))).2.length ≤ 1040
  omega
theorem allB_len {N : Net} {qs : Qs} {p : Int} (hV : ValidN N) (h8 : N.length ≤ 8) (S : Short N qs) : ∀ t, (allB N qs p t).length ≤ 1040 * t
  | 0 => Nat.le_refl _
  | t + 1 => by
    have ih := allB_len hV h8 S (p := p) t
    have h1 := arr_len hV h8 S (p := p) t
    have h2 := btsOf_len (a := (arrI N (runI N qs p t) (p + (t : Int))).2)
    show (allB N qs p t ++ _).length ≤ _
    rw [List.length_append, List.length_map]
    omega
theorem allF_len {N : Net} {qs : Qs} {p : Int} (hV : ValidN N) (h8 : N.length ≤ 8) (S : Short N qs) : ∀ t, (allF N qs p t).length ≤ 65 * t
  | 0 => Nat.le_refl _
  | t + 1 => by
    have ih := allF_len hV h8 S (p := p) t
    have h1 := finT_short hV h8 S (p := p) t
    show (allF N qs p t ++ _).length ≤ _
    rw [List.length_append, List.length_map]
    omega
def spLog (K : PySem.W.Frag) : Sp := fun vs H Q _ => ∃ (v u : V) (N : Net) (p : Int) (qs : Qs) (c : Nat), vs = [v, u, .int (c : Int)] ∧ NetAt K H v N ∧ ValidN N ∧ N.length ≤ 8 ∧ Dp K H u (stateD p qs) ∧ StOk N p qs ∧ c ≤ 200 ∧
  ∀ H' r Lb Lf Qa as, Ex H H' → H' r = some (.tup [.ref Lb, .ref Lf, .ref Qa]) → H Lb = none → H Lf = none → H Qa = none → (∀ a ∈ as, H a = none) → BlAt K H' Lb (fun l => H l = none) (allB N qs p c) → LsAt K H' Lf ((allF N qs p c).map ftD) → QsAt K H' Qa as (runI N qs p c) → Q (.ref r) H'
theorem ok_l_log {f f1 : Addr} {fd fd1 : FuncData} (D : Df K mg "_law_log" s_l_log ["_law_network_here", "_law_state_here", "_law_count"] f fd) (T : Bt mg) (D_l_enter : Df K mg "_law_enter" s_l_enter ["_law_network_here", "_law_w", "_law_station", "_law_passenger"] f1 fd1) :
    FnOk P w K mg base CX0 9 f fd ["_law_network_here", "_law_state_here", "_law_count"] (spLog K) := by
  have G_l_enter : FnOk P w K mg base CX0 8 f1 fd1 _ _ := ok_l_enter D_l_enter T 8
  refine D.F.ok sc_l_log (fun vs H Q E h => ?_) (fun cdv A outer s H vs Q E hr h => ?_)
  · obtain ⟨v, u, N, p, qs, c, rfl, _⟩ := h
    rfl
  · obtain ⟨v, u, N, p, qs, c, rfl, hN, hV, h8, hu0, hS, hc, q⟩ := h
    have hu1 := hu_of hr
    refine ⟨_, (pss_cons (ps_set (i := 3) sc_l_log.nd rfl (Or.inl rfl) (pe_disp (pps_cons pe_str (pe_lc (own := [("_law_queue", 7)]) (g := gName 7) (tt := tYes) rfl sc_l_log.nd (pi_U (K := K) (pe_ix (ix_U (K := K)) (pv 1) pe_int (fun _ _ => rfl))) (blkOk_by (own := [("_law_queue", 7)]) (N := ["_law_network_here", "_law_state_here", "_law_count", "_law_w", "_law_boats", "_law_finished", "_law_time", "_law_queue", "_law_station", "_law_passengers", "_law_port", "_law_passenger"]) (sc := defScope s_l_log) (by decide +kernel)) (fun _ _ _ _ _ => (pg_name (i := 7) sc_l_log.nd rfl (Or.inl rfl))) (fun _ _ _ _ _ => pts_nil) (fun _ _ _ _ _ => (pe_callTy (call_listU (K := K)) (by rfl) T.b_list (by decide +kernel) (pa_cons (pv 7) pa_nil)))) (pps_cons pe_str (pe_lst pa_nil) (pps_cons pe_str (pe_lst pa_nil) pps_nil))) (by rfl) (by rfl) (fun z => by cases z) (by decide)))
      (pss_cons (ps_par (i := 4) (j := 5) (by rfl) sc_l_log.nd rfl rfl (by decide) rfl rfl (pa_cons (pe_lst pa_nil) (pa_cons (pe_lst pa_nil) pa_nil)) (by rfl))
      (pss_cons (ps_for PassesOwn.never rfl (pi_range2 (by rfl) T.b_range (pa_cons pe_int (pa_cons (pe_op (op_addU (K := K)) (pv 2) pe_int) pa_nil))) (pg_name (i := 6) sc_l_log.nd rfl (Or.inr rfl)) (pss_cons (ps_asg (pe_tup (pa_cons (pe_lst pa_nil) (pa_cons (pe_lst pa_nil) pa_nil))) (pg_tup rfl (pgs_cons (pg_sub (pv 3) pe_str (set_dict hu1)) (pgs_cons (pg_sub (pv 3) pe_str (set_dict hu1)) pgs_nil))))
      (pss_cons (ps_expr (pe_call (G_l_enter) (hr.mono (by decide)) rfl D_l_enter.g D_l_enter.F.kp D_l_enter.b .nil pass0 (pa_cons (pv 0) (pa_cons (pv 3) (pa_cons pe_int (pa_cons (pe_op op_sub (pe_op (op_addU (K := K)) (pe_ix (ix_U (K := K)) (pv 1) pe_int (fun _ _ => rfl)) (pv 6)) pe_int) pa_nil))))))
      (pss_cons (ps_expr (pe_bm PySem.F.plainAttrs_list PySem.F.slot_list_extend PySem.F.type_list_extend mt_extend (pv 4) (pa_cons (pe_lc (own := [("_law_station", 8), ("_law_passengers", 9)]) (g := (gTup K 2 (gCons (gName 8) (gCons (gName 9) gNil)))) (tt := tYes) rfl sc_l_log.nd (pi_U (K := K) (pe_dget hu1 (pv 3) pe_str (fun _ _ => rfl))) (blkOk_by (own := [("_law_station", 8), ("_law_passengers", 9)]) (N := ["_law_network_here", "_law_state_here", "_law_count", "_law_w", "_law_boats", "_law_finished", "_law_time", "_law_queue", "_law_station", "_law_passengers", "_law_port", "_law_passenger"]) (sc := defScope s_l_log) (by decide +kernel)) (fun _ _ _ _ _ => (pg_tup rfl (pgs_cons (pg_name (i := 8) sc_l_log.nd rfl (Or.inl rfl)) (pgs_cons (pg_name (i := 9) sc_l_log.nd rfl (Or.inl rfl)) pgs_nil)))) (fun _ _ _ _ _ => pts_nil) (fun _ _ _ _ _ => (pe_tup (pa_cons (pv 8) (pa_cons (pv 9) (pa_cons (pv 6) pa_nil)))))) pa_nil)))
      (pss_one (ps_expr (pe_bm PySem.F.plainAttrs_list PySem.F.slot_list_extend PySem.F.type_list_extend mt_extend (pv 5) (pa_cons (pe_lc (own := [("_law_port", 10), ("_law_passenger", 11)]) (g := (gTup K 2 (gCons (gName 10) (gCons (gName 11) gNil)))) (tt := tYes) rfl sc_l_log.nd (pi_U (K := K) (pe_dget hu1 (pv 3) pe_str (fun _ _ => rfl))) (blkOk_by (own := [("_law_port", 10), ("_law_passenger", 11)]) (N := ["_law_network_here", "_law_state_here", "_law_count", "_law_w", "_law_boats", "_law_finished", "_law_time", "_law_queue", "_law_station", "_law_passengers", "_law_port", "_law_passenger"]) (sc := defScope s_l_log) (by decide +kernel)) (fun _ _ _ _ _ => (pg_tup rfl (pgs_cons (pg_name (i := 10) sc_l_log.nd rfl (Or.inl rfl)) (pgs_cons (pg_name (i := 11) sc_l_log.nd rfl (Or.inl rfl)) pgs_nil)))) (fun _ _ _ _ _ => pts_nil) (fun _ _ _ _ _ => (pe_tup (pa_cons (pv 10) (pa_cons (pv 11) (pa_cons (pv 6) pa_nil)))))) pa_nil))))))))
      (pss_one (ps_ret (pe_tup (pa_cons (pv 4) (pa_cons (pv 5) (pa_cons (pe_dget hu1 (pv 3) pe_str (fun _ _ => rfl)) pa_nil))))))))), ?_⟩
    walk_at "run"
    have Sh := st_short hS
    have hql := hS.len
    have J := jn_of hV
    obtain ⟨ua, y, rfl, hSa, hy⟩ := state_at hu0
    obtain ⟨ub, ts, rfl, hT, hts⟩ := qs_at hy
    have htl : ts.length = qs.length := by rw [hts.len, List.length_map]
    intro Wa nW
    have e0 : Ex H (upd H Wa (.dK [])) := Ex.new nW
    have w0 : (upd H Wa (.dK [])) Wa = some (.dK []) := upd_same
    generalize upd H Wa (.dK []) = H0 at e0 w0
    simp only [tPairs]
    walk_at "run"
    refine x_ixT (ex_t e0 hSa) (v := .ref ub) rfl (x_itT (ex_t e0 hT) ?_)
    refine lcl_it walk_tup (fun D i H' => ∃ as : List Addr, H' D = some (.lst (as.map V.ref)) ∧ as.length = i ∧ as.Nodup ∧ D ∉ as ∧ (∀ (m : Nat) a, as[m]? = some a → H0 a = none ∧ H' a = some (.lst ((qs.getD m []).map V.int))) ∧ Ex H0 H') (fun D H' hD e h => ⟨[], h, rfl, List.nodup_nil, by simp, by simp, e⟩) (fun D i H' _ ⟨_, _, _, _, _, _, e⟩ => ex_t (e0.trans e) hT) ?_ ?_
    · rintro D i x H11 H11' hDn hi ⟨as, hA, hl, nd, nm, has, e11⟩ ⟨eH, hx⟩
      subst eH
      obtain ⟨d, hd, hz⟩ := hts.get' hx
      obtain ⟨qi, hq, rfl⟩ : ∃ qi, qs[i]? = some qi ∧ qD qi = d := by simpa using hd
      obtain ⟨c1, rfl, hC⟩ := q_at hz
      walk_at "run"
      refine x_listT (ex_t (e0.trans e11) hC) fun t H12 nt e12 ht => x_push (e12 _ _ hA) (by rw [List.length_map]; omega) fun H13 e13 h13 => ?_
      have hDt : D ≠ t := ne_of_none hA nt
      have hta : t ∉ as := fun z => by
        obtain ⟨m, hm⟩ := List.mem_iff_getElem?.mp z
        exact ne_of_none (has m t hm).2 nt rfl
      refine ⟨as ++ [t], by rw [h13, List.map_append]; rfl, by simp [hl], nd_snoc nd hta, by simp [nm, hDt], fun m a ha => ?_, fun x o hx => e13 _ _ (ne_of_none hx hDn) (e12 _ _ (e11 _ _ hx))⟩
      by_cases hm : m < as.length
      · rw [List.getElem?_append_left hm] at ha
        exact ⟨(has m a ha).1, e13 _ _ (fun z => nm (by rw [← z]; exact List.mem_of_getElem? ha)) (e12 _ _ (has m a ha).2)⟩
      · rw [List.getElem?_append_right (by omega)] at ha
        obtain ⟨z1, z2⟩ := List.getElem?_eq_some_iff.mp ha
        have hmi : m = i := by simp at z1; omega
        have hta2 : t = a := by simpa using z2
        subst hmi hta2
        refine ⟨fresh_back e11 nt, e13 _ _ hDt.symm ?_⟩
        rw [ht, List.getD_eq_getElem?_getD, hq]; rfl
    · rintro Qa H1 nQ ⟨as, hA, hl, nd, nm, has, e1⟩
      rw [htl] at hl
      have hQ1 : QsAt K H1 Qa as qs := ⟨hA, hl, nd, nm, fun m a h => (has m a h).2⟩
      have nas0 : ∀ a ∈ as, H0 a = none := fun a ha => by
        obtain ⟨m, hm⟩ := List.mem_iff_getElem?.mp ha
        exact (has m a hm).1
      refine x_lst (by simp) fun Ba H2 nB e2 hB => ?_
      refine x_lst (by simp) fun Fa H3 nF e3 hF => ?_
      have e03 := e1.trans (e2.trans e3)
      refine ⟨e03 _ _ w0, wK Qa Ba Fa, rfl, by show 3 ≤ 15; decide, ?_⟩
      rw [merge_wK]
      have e4 : ∀ x o, x ≠ Wa → H3 x = some o → (upd H3 Wa (.dK (wK Qa Ba Fa))) x = some o := fun x o hx h => by rw [upd_ne hx]; exact h
      have w4 : (upd H3 Wa (.dK (wK Qa Ba Fa))) Wa = some (.dK (wK Qa Ba Fa)) := upd_same
      generalize upd H3 Wa (.dK (wK Qa Ba Fa)) = H4 at e4 w4
      have hE4 : Ex H H4 := fun x o h => e4 _ _ (ne_of_none h nW) (e03 _ _ (e0 _ _ h))
      have hWas : Wa ∉ as := fun z => by have := nas0 _ z; rw [w0] at this; cases this
      have hWQ : Qa ≠ Wa := fun z => by rw [z] at nQ; rw [w0] at nQ; cases nQ
      have hQ4 : QsAt K H4 Qa as qs := (hQ1.ex (e2.trans e3)).but e4 hWQ hWas
      have nas : ∀ a ∈ as, H a = none := fun a ha => fresh_back e0 (nas0 a ha)
      have nQ0 : H Qa = none := fresh_back e0 nQ
      refine x_lst (by simp) fun Lb H5 nLb e5 hLb => x_lst (by simp) fun Lf H6 nLf e6 hLf => ⟨_, _, rfl, ?_⟩
      have nLb0 : H Lb = none := fresh_back hE4 nLb
      have nLf0 : H Lf = none := fresh_back (hE4.trans e5) nLf
      have hLbf : Lb ≠ Lf := ne_of_none hLb nLf
      have hQLb : Qa ≠ Lb := ne_of_none hQ4.at_ nLb
      have hQLf : Qa ≠ Lf := ne_of_none (e5 _ _ hQ4.at_) nLf
      have hLbas : Lb ∉ as := fun z => by
        obtain ⟨m, hm⟩ := List.mem_iff_getElem?.mp z
        exact ne_of_none (hQ4.q m _ hm) nLb rfl
      have hLfas : Lf ∉ as := fun z => by
        obtain ⟨m, hm⟩ := List.mem_iff_getElem?.mp z
        exact ne_of_none (e5 _ _ (hQ4.q m _ hm)) nLf rfl
      have hWLb : Wa ≠ Lb := ne_of_none w4 nLb
      have hWLf : Wa ≠ Lf := ne_of_none (e5 _ _ w4) nLf
      obtain ⟨S, hS'⟩ : ∃ S : Addr → Prop, S = fun l => H l = none ∧ l ≠ Lb ∧ l ≠ Lf ∧ l ∉ as := ⟨_, rfl⟩
      have hp0 : p + ((0 : Nat) : Int) = p := by omega
      refine ⟨1, (c : Int) + 1, rfl, ⟨by decide, by decide, by omega, by omega⟩, ?_⟩
      rw [show ((c : Int) + 1 - 1).toNat = c by omega]
      refine loop_it walk_range (fun i σ H' => ∃ Ba Fa u6 u7 u8 u9 u10 u11, σ = [some v, some (.ref ua), some (.int (c : Int)), some (.ref Wa), some (.ref Lb), some (.ref Lf), u6, u7, u8, u9, u10, u11] ∧ Ex H H' ∧ H' Wa = some (.dK (wK Qa Ba Fa)) ∧ QsAt K H' Qa as (runI N qs p i) ∧ BlAt K H' Lb S (allB N qs p i) ∧ LsAt K H' Lf ((allF N qs p i).map ftD))
        ⟨Ba, Fa, _, _, _, _, _, _, rfl, hE4.trans (e5.trans e6), e6 _ _ (e5 _ _ w4), hQ4.ex (e5.trans e6), ⟨⟨[], e6 _ _ hLb, rfl, by simp [allB]⟩⟩, ⟨⟨[], hLf, .nil⟩⟩⟩ (fun _ _ _ _ _ => trivial) ?_ ?_
      · rintro i x σ H7 H7' hi ⟨B0, F0, u6, u7, u8, u9, u10, u11, rfl, e7, w7, hQ7, hL7, hM7⟩ ⟨eH, rfl⟩
        subst eH
        walk_at "run"
        refine x_lst (by simp) fun B1 H8 nB1 e8 hB1 => x_lst (by simp) fun F1 H9 nF1 e9 hF1 => x_tup (by simp) fun T1 H10 nT1 e10 hT1 => ?_
        have e710 := e8.trans (e9.trans e10)
        have k3 : (wK Qa B0 F0).length < sizeLine := by show 3 < sizeLine; decide
        refine ⟨T1, _, rfl, SqT.of hT1, rfl, _, _, rfl, ?_⟩
        walk_at "run"
        refine ⟨Wa, _, rfl, DPut.k (k := .inr ("boats" : Str)) (e710 _ _ w7) k3, ?_⟩
        rw [put_boats]
        have e11 : ∀ x o, x ≠ Wa → H10 x = some o → (upd H10 Wa (.dK (wK Qa B1 F0))) x = some o := fun x o hx h => by rw [upd_ne hx]; exact h
        have w11 : (upd H10 Wa (.dK (wK Qa B1 F0))) Wa = some (.dK (wK Qa B1 F0)) := upd_same
        generalize upd H10 Wa (.dK (wK Qa B1 F0)) = H11 at e11 w11
        refine ⟨_, _, rfl, ?_⟩
        walk_at "run"
        refine ⟨Wa, _, rfl, DPut.k (k := .inr ("finished" : Str)) w11 k3, ?_⟩
        rw [put_finished]
        have e12 : ∀ x o, x ≠ Wa → H11 x = some o → (upd H11 Wa (.dK (wK Qa B1 F1))) x = some o := fun x o hx h => by rw [upd_ne hx]; exact h
        have w12 : (upd H11 Wa (.dK (wK Qa B1 F1))) Wa = some (.dK (wK Qa B1 F1)) := upd_same
        generalize upd H11 Wa (.dK (wK Qa B1 F1)) = H12 at e12 w12
        refine ⟨rfl, ?_⟩
        have e712 : ∀ x o, x ≠ Wa → H7' x = some o → H12 x = some o := fun x o hx h => e12 _ _ hx (e11 _ _ hx (e710 _ _ h))
        have eH12 : Ex H H12 := fun x o h => e712 _ _ (ne_of_none h nW) (e7 _ _ h)
        have t712 : TX H7' H12 := fun x o h cc => e712 x o (fun z => by rw [z, w7] at h; cases h; exact cc) h
        have hB12 : H12 B1 = some (.lst []) := by
          have hne : B1 ≠ Wa := (ne_of_none w7 nB1).symm
          exact e12 _ _ hne (e11 _ _ hne (e10 _ _ (e9 _ _ hB1)))
        have hF12 : H12 F1 = some (.lst []) := by
          have hne : F1 ≠ Wa := (ne_of_none (e8 _ _ w7) nF1).symm
          exact e12 _ _ hne (e11 _ _ hne (e10 _ _ hF1))
        have hQ12 : QsAt K H12 Qa as (runI N qs p i) := hQ7.but e712 hWQ hWas
        have nF1' := fresh_back e8 nF1
        have hBF : B1 ≠ F1 := ne_of_none hB1 nF1
        have hnas : ∀ {x}, H7' x = none → x ∉ as := fun n z => by
          obtain ⟨m, hm⟩ := List.mem_iff_getElem?.mp z
          exact ne_of_none (hQ7.q m _ hm) n rfl
        have S7 := runI_short (p := p) hV h8 Sh i
        have hfl := flatS hV h8 S7
        have hwl := way_le hV h8 S7
        have hpos := hV.pos
        walk_at "run"
        refine x_ixT (t712.t (ex_t e7 hSa)) (v := .int p) rfl ?_
        walk_at "run"
        rw [show p + (1 + (i : Int)) - 1 = p + (i : Int) by omega]
        refine ⟨v, N, Wa, Qa, B1, F1, as, fun x => H12 x = none, runI N qs p i, [], [], 0, p + (i : Int), rfl, Dp.tx t712 (Dp.ex e7 hN) (netD_t N), J, ⟨w12, hQ12, ⟨⟨[], hF12, .nil⟩⟩, ⟨⟨[], hB12, rfl, by simp⟩⟩, fun x n => n, fun x hx n => ?_, fun z => ?_, hnas nF1', fun z => ?_, hnas nB1, hBF⟩, S7, by omega, by omega, by rw [List.length_nil]; omega, by rw [List.length_nil]; omega, fun H13 E13 t13 W13 => ?_⟩
        · exact fr_some (K := K) (S := fun _ => True) (qs := runI N qs p i) (fs := []) (bs := []) hQ12 ⟨⟨[], hF12, .nil⟩⟩ ⟨⟨[], hB12, rfl, by simp⟩⟩ x hx n
        · exact ne_of_none hQ7.at_ nF1' z.symm
        · exact ne_of_none hQ7.at_ nB1 z.symm
        rw [List.nil_append, List.nil_append] at W13
        have hW13q : QsAt K H13 Qa as (runI N qs p (i + 1)) := W13.q
        have frLb : Lb ∉ B1 :: F1 :: as := fun z => by
          obtain ⟨_, z1, _⟩ := hL7.ex
          rcases List.mem_cons.mp z with z | z
          · exact ne_of_none z1 nB1 z
          · rcases List.mem_cons.mp z with z | z
            · exact ne_of_none z1 nF1' z
            · exact hLbas z
        have frLf : Lf ∉ B1 :: F1 :: as := fun z => by
          obtain ⟨_, z1, _⟩ := hM7.ex
          rcases List.mem_cons.mp z with z | z
          · exact ne_of_none z1 nB1 z
          · rcases List.mem_cons.mp z with z | z
            · exact ne_of_none z1 nF1' z
            · exact hLfas z
        have hfrn : ∀ {x}, H x = none → x ≠ B1 → x ≠ F1 → x ∉ as → x ∉ B1 :: F1 :: as := fun _ h1 h2 h3 z => by
          rcases List.mem_cons.mp z with z | z
          · exact h1 z
          · rcases List.mem_cons.mp z with z | z
            · exact h2 z
            · exact h3 z
        have hfrs : ∀ {x o}, H x = some o → x ∉ B1 :: F1 :: as := fun h z => by
          rcases List.mem_cons.mp z with z | z
          · exact ne_of_none (e7 _ _ h) nB1 z
          · rcases List.mem_cons.mp z with z | z
            · exact ne_of_none (e7 _ _ h) nF1' z
            · exact ne_of_none h (nas _ z) rfl
        have eH13 : Ex H H13 := fun x o h => E13 _ _ (eH12 _ _ h) (hfrs h)
        have t713 := t712.trans t13
        have hL13 : BlAt K H13 Lb S (allB N qs p i) := by
          have a1 : BlAt K H7' Lb (fun l => S l ∧ l ≠ B1 ∧ l ≠ F1 ∧ l ≠ Wa) (allB N qs p i) := hL7.imp fun l zs hl hn => ⟨hl, ne_of_none hn nB1, ne_of_none hn nF1', fun z => by rw [z, w7] at hn; cases hn⟩
          have a2 : BlAt K H12 Lb (fun l => S l ∧ l ≠ B1 ∧ l ≠ F1 ∧ l ≠ Wa) (allB N qs p i) := a1.keep (fr := [Wa]) (fun o h => e712 _ _ hWLb.symm h) t712 (fun x o h n => e712 x o (fun z => n (by rw [z]; simp)) h) (fun x hx h => h.2.2.2 (List.mem_singleton.mp hx))
          refine (a2.keep (fr := B1 :: F1 :: as) (fun o h => E13 _ _ h frLb) t13 E13 fun x hx h => ?_).imp fun l _ hl _ => hl.1
          rw [hS'] at h
          exact hfrn h.1.1 h.2.1 h.2.2.1 h.1.2.2.2 hx
        have hM13 : LsAt K H13 Lf ((allF N qs p i).map ftD) := hM7.tx (fun d hd => by
          obtain ⟨z, _, rfl⟩ := List.mem_map.mp hd
          exact ftD_t z) t713 fun o h => E13 _ _ (e712 _ _ hWLf.symm h) frLf
        obtain ⟨E, hE⟩ : ∃ E, E = btsOf (arrI N (runI N qs p i) (p + (i : Int))).2 := ⟨_, rfl⟩
        have hEl : E.length ≤ 1040 := by
          rw [hE]
          exact Nat.le_trans btsOf_len (arr_len hV h8 Sh i)
        have hWb : BtAt K H13 B1 (fun x => H12 x = none) E := by rw [hE]; exact W13.b
        have hWf : FinAt K H13 F1 (finT N qs p i) := W13.f
        have w13 := W13.w
        have nB1F := W13.bf
        have hLb12 : ∃ o, H12 Lb = some o := by
          obtain ⟨_, z1, _⟩ := hL7.ex
          exact ⟨_, e712 _ _ hWLb.symm z1⟩
        have hLf12 : ∃ o, H12 Lf = some o := by
          obtain ⟨_, z1, _⟩ := hM7.ex
          exact ⟨_, e712 _ _ hWLf.symm z1⟩
        have hF1Lb : F1 ≠ Lb := fun z => frLb (by rw [← z]; simp)
        have hF1Lf : F1 ≠ Lf := fun z => frLf (by rw [← z]; simp)
        clear W13 E13 t13 hL7 hM7 e712 e12 e11 e10 e9 e8 e710
        obtain ⟨tb, hb1, hb2, hb3⟩ := hWb.ex
        obtain ⟨xb, hxb, hxl, _⟩ := hL13.ex
        have hal := allB_len hV h8 Sh (p := p) i
        refine ⟨x_tyL (SqL.of hxb), x_dget (k := .inr ("boats" : Str)) w13 w_boats (x_itL (SqL.of hb1) (lcl_it walk_list (fun D j H' => Ex H13 H' ∧ ∃ us : List Addr, H' D = some (.lst (us.map V.ref)) ∧ us.length = j ∧ ∀ (t : Nat) (b : Nat × List Int), t < j → E[t]? = some b → ∃ a l, us[t]? = some a ∧ H12 l = none ∧ SqT K H' a [.int (b.1 : Int), .ref l, .int (1 + (i : Int))] ∧ H' l = some (.lst (b.2.map V.int)))
          (fun D H' hD e h => ⟨e, [], h, rfl, fun t b h => absurd h (by omega)⟩) (fun D j H' _ ⟨e, _⟩ => SqL.of (e _ _ hb1)) ?_ ?_))⟩
        · rintro D j x H14 H14' hD hj ⟨e14, us, hus, hul, hun⟩ ⟨eH, hx⟩
          subst eH
          obtain ⟨a, ha, rfl⟩ : ∃ a, tb[j]? = some a ∧ V.ref a = x := by simpa using hx
          have hja := (List.getElem?_eq_some_iff.mp ha).1
          obtain ⟨b, hb⟩ : ∃ b, E[j]? = some b := ⟨E[j]'(by omega), by simp [show j < E.length by omega]⟩
          obtain ⟨a', l, ha', hl, hsq, hli⟩ := hb3 j b hb
          obtain rfl : a = a' := by rw [ha] at ha'; exact Option.some.inj ha'
          refine x_two (ex_t e14 hsq) ?_
          walk_at "run"
          refine x_tup (by simp) fun T2 H15 n15 e15 h15 => x_push (e15 _ _ hus) (by rw [List.length_map]; omega) fun H16 e16 h16 => ?_
          have hDT : D ≠ T2 := ne_of_none hus n15
          have t16 : TX H15 H16 := TX.but (e15 _ _ hus) e16
          have hlD : ∀ {l}, H12 l = none → ∀ {zs}, H13 l = some (.lst zs) → l ≠ D := fun _ _ h2 => ne_of_none h2 hD
          refine ⟨fun x o h => e16 _ _ (ne_of_none h hD) (e15 _ _ (e14 _ _ h)), us ++ [T2], by rw [h16, List.map_append]; rfl, by simp [hul], fun t b2 ht hb2' => ?_⟩
          by_cases htj : t < j
          · obtain ⟨a2, l2, z1, z2, z3, z4⟩ := hun t b2 htj hb2'
            obtain ⟨_, l2', _, _, _, y4⟩ := hb3 t b2 hb2'
            refine ⟨a2, l2, by rw [List.getElem?_append_left (by omega)]; exact z1, z2, t16.t (ex_t e15 z3), e16 _ _ (fun z => ?_) (e15 _ _ z4)⟩
            rw [z, hus] at z4
            have : us.map V.ref = b2.2.map V.int := by simpa using z4
            cases us with
            | nil => simp at hul; omega
            | cons u us =>
              cases hb3' : b2.2 with
              | nil => rw [hb3'] at this; simp at this
              | cons c cs => rw [hb3'] at this; simp at this
          · have htj2 : t = j := by omega
            subst htj2
            rw [hb] at hb2'
            cases hb2'
            exact ⟨T2, l, by rw [List.getElem?_append_right (by omega), hul]; simp, hl, SqT.of (e16 _ _ hDT.symm h15), e16 _ _ (hlD hl hli) (e15 _ _ (e14 _ _ hli))⟩
        · rintro D H14 hD ⟨e14, us, hus, hul, hun⟩
          rw [List.length_map] at hul hun
          walk_at "run"
          refine x_extend (e14 _ _ hxb) hus (by rw [List.length_map, List.length_map]; omega) fun H15 e15 h15 => ?_
          have t15 : TX H14 H15 := TX.but (e14 _ _ hxb) e15
          have hDLb : D ≠ Lb := (ne_of_none hxb hD).symm
          have hS12 : ∀ {l}, H12 l = none → S l := fun {l} n => by
            rw [hS']
            refine ⟨fresh_back eH12 n, fun z => ?_, fun z => ?_, fun z => ?_⟩
            · obtain ⟨o, h⟩ := hLb12
              rw [z, h] at n; cases n
            · obtain ⟨o, h⟩ := hLf12
              rw [z, h] at n; cases n
            · obtain ⟨m, hm⟩ := List.mem_iff_getElem?.mp z
              exact ne_of_none (hQ12.q m _ hm) n rfl
          have hsLb : ¬ S Lb := by rw [hS']; exact fun h => h.2.1 rfl
          have hL15 : BlAt K H15 Lb S (allB N qs p (i + 1)) := by
            show BlAt K H15 Lb S (allB N qs p i ++ _)
            rw [← hE]
            refine (hL13.keep (fr := []) (fun _ h => e14 _ _ h) (TX.of e14) (fun _ _ h _ => e14 _ _ h) (by simp)).extend (us := us) (e14 _ _ hxb) h15 t15 (fun x o h n => e15 x o (fun z => n (by rw [z]; simp)) h) hsLb (by rw [List.length_map, hul, hb2]) fun t b hb => ?_
            obtain ⟨b0, hb0, rfl⟩ : ∃ b0, E[t]? = some b0 ∧ (b0.1, b0.2, (i : Int) + 1) = b := by simpa using hb
            obtain ⟨a, l, z1, z2, z3, z4⟩ := hun t b0 (by have := (List.getElem?_eq_some_iff.mp hb0).1; omega) hb0
            have hs := hS12 z2
            refine ⟨a, l, z1, hs, ?_, e15 _ _ (fun z => hsLb (by rw [← z]; exact hs)) z4⟩
            rw [show (i : Int) + 1 = 1 + (i : Int) by omega]
            exact t15.t z3
          have w15 := e15 _ _ hWLb (e14 _ _ w13)
          have hM14 : LsAt K H14 Lf ((allF N qs p i).map ftD) := hM13.ex2 e14
          have tdF : ∀ d ∈ (allF N qs p i).map ftD, TupD d := fun d hd => by
            obtain ⟨z, _, rfl⟩ := List.mem_map.mp hd
            exact ftD_t z
          have hM15 : LsAt K H15 Lf ((allF N qs p i).map ftD) := hM14.tx tdF t15 fun o h => e15 _ _ hLbf.symm h
          have eH15 : Ex H H15 := fun x o h => e15 _ _ (fun z => by rw [z, nLb0] at h; cases h) (e14 _ _ (eH13 _ _ h))
          have hQ15 : QsAt K H15 Qa as (runI N qs p (i + 1)) := (hW13q.ex e14).but e15 hQLb hLbas
          obtain ⟨tf, hf1, hf2⟩ := hWf.ex
          have t1315 : TX H13 H15 := (TX.of e14).trans t15
          have hf1' := e15 _ _ hF1Lb (e14 _ _ hf1)
          have hf2' : DpAll K H15 tf ((finT N qs p i).map fpD) := DpAll.tx t1315 hf2 fun d hd => by
            obtain ⟨z, _, rfl⟩ := List.mem_map.mp hd
            exact fpD_t z
          obtain ⟨xf, hxf, hxfd⟩ := hM15.ex
          have htfl : tf.length = (finT N qs p i).length := by rw [hf2.len, List.length_map]
          have hfl65 := finT_short hV h8 Sh (p := p) i
          have hafl := allF_len hV h8 Sh (p := p) i
          refine ⟨x_tyL (SqL.of hxf), x_dget (k := .inr ("finished" : Str)) w15 w_finished (x_itL (SqL.of hf1') (lcl_it walk_list (fun D j H' => Ex H15 H' ∧ ∃ ws, H' D = some (.lst ws) ∧ DpAll K H' ws (((finT N qs p i).take j).map fun f => ftD (f.1, f.2, (i : Int) + 1)))
            (fun D H' hD e h => ⟨e, [], h, .nil⟩) (fun D j H' _ ⟨e, _⟩ => SqL.of (e _ _ hf1')) ?_ ?_))⟩
          · rintro D2 j x H16 H16' hD2 hj ⟨e16, ws, hws, hwd⟩ ⟨eH, hx⟩
            subst eH
            obtain ⟨d, hd, hz⟩ := hf2'.get' hx
            obtain ⟨f, hfj, rfl⟩ : ∃ f, (finT N qs p i)[j]? = some f ∧ fpD f = d := by simpa using hd
            obtain ⟨fa, rfl, hfa⟩ := fp_at hz
            refine x_two (ex_t e16 hfa) ?_
            walk_at "run"
            have hwl2 : ws.length ≤ j := by rw [hwd.len, List.length_map, List.length_take]; omega
            refine x_tup (by simp) fun T3 H17 n17 e17 h17 => x_push (e17 _ _ hws) (by omega) fun H18 e18 h18 => ⟨fun x o h => e18 _ _ (ne_of_none h hD2) (e17 _ _ (e16 _ _ h)), _, h18, ?_⟩
            have t18 : TX H17 H18 := TX.but (e17 _ _ hws) e18
            have hDT : D2 ≠ T3 := ne_of_none hws n17
            rw [List.take_add_one, hfj, Option.toList_some, List.map_append]
            refine DpAll.append (DpAll.tx t18 (DpAll.ex e17 hwd) fun d hd => ?_) (.cons ?_ .nil)
            · obtain ⟨z, _, rfl⟩ := List.mem_map.mp hd
              exact ftD_t _
            · rw [show (i : Int) + 1 = 1 + (i : Int) by omega]
              exact .tup (SqT.of (e18 _ _ hDT.symm h17)) (.cons (.str _) (.cons (.int _) (.cons (.int _) .nil)))
          · rintro D2 H16 hD2 ⟨e16, ws, hws, hwd⟩
            walk_at "run"
            have hwl2 : ws.length ≤ 65 := by rw [hwd.len, List.length_map, List.length_take]; omega
            have hxfl : xf.length = (allF N qs p i).length := by rw [hxfd.len, List.length_map]
            refine x_extend (e16 _ _ hxf) hws (by omega) fun H17 e17 h17 => ?_
            have t17 : TX H16 H17 := TX.but (e16 _ _ hxf) e17
            have hsLf : ¬ S Lf := by rw [hS']; exact fun h => h.2.2.1 rfl
            refine ⟨B1, F1, _, _, _, _, _, _, rfl, fun x o h => e17 _ _ (fun z => by rw [z, nLf0] at h; cases h) (e16 _ _ (eH15 _ _ h)), e17 _ _ hWLf (e16 _ _ w15), (hQ15.ex e16).but e17 hQLf hLfas, ?_, ⟨_, h17, ?_⟩⟩
            · exact (hL15.keep (fr := []) (fun _ h => e16 _ _ h) (TX.of e16) (fun _ _ h _ => e16 _ _ h) (by simp)).keep (fr := [Lf]) (fun o h => e17 _ _ hLbf h) t17 (fun x o h n => e17 x o (fun z => n (by rw [z]; simp)) h) (fun x hx => by rw [List.mem_singleton.mp hx]; exact hsLf)
            · show DpAll K H17 (xf ++ ws) ((allF N qs p i ++ (finT N qs p i).map fun f => (f.1, f.2, (i : Int) + 1)).map ftD)
              rw [List.map_append, List.map_map]
              refine DpAll.append (DpAll.tx t17 (DpAll.ex e16 hxfd) tdF) (DpAll.tx t17 ?_ fun d hd => ?_)
              · rw [List.take_of_length_le (by omega)] at hwd
                exact hwd
              · obtain ⟨z, _, rfl⟩ := List.mem_map.mp hd
                exact ftD_t _
      · rintro σ H7 ⟨B0, F0, u6, u7, u8, u9, u10, u11, rfl, e7, w7, hQ7, hL7, hM7⟩
        walk_at "run"
        refine x_dget (k := .inr ("queues" : Str)) w7 w_queues (x_tup (by simp) fun r H8 n8 e8 h8 => ?_)
        obtain ⟨tm, z1, z2⟩ := hM7.ex
        refine q H8 r Lb Lf Qa as (e7.trans e8) h8 nLb0 nLf0 nQ0 nas ?_ (hM7.ex2 e8) (hQ7.ex e8)
        refine (hL7.keep (fr := []) (fun _ h => e8 _ _ h) (TX.of e8) (fun _ _ h _ => e8 _ _ h) (by simp)).imp fun l _ hl _ => ?_
        rw [hS'] at hl
        exact hl.1
end
end K
set_option Elab.async false
set_option linter.all false
set_option maxRecDepth 100000
set_option maxHeartbeats 1000000
set_option exponentiation.threshold 20000
namespace K
open PySem PySem.Spec PyProof.Rows L2 Evl FB
local macro_rules | `(tactic| walk_at "run") => `(tactic| try simp only [tSeq, tAsg, tVar, tC, gName, L2.start, List.map_cons, List.map_nil, List.cons_append, List.nil_append, List.length_cons, List.length_nil, List.replicate, List.getElem?_cons_zero, List.getElem?_cons_succ, Option.some.injEq, exists_eq_left', List.set_cons_zero, List.set_cons_succ, V.ref.injEq, tRet, x_tLst, x_tTup, tCons, tCB, tNil, tOp, x_addI, x_mulI, x_rI, x_rI0, x_ltI, x_leI, x_ltS, x_leS, x_eqI, x_neI, x_eqS, x_eqB, x_neB, x_isiI, x_isiS, x_int, x_max, x_min, cxOf, tIfS, tNext, tTest, V.bl.injEq, decide_eq_true_eq, gSub, tAnd, tOr, tNot, tB, tDrop, tBM, x_tFor, iRng1, iList, iTup, x_tLc, tYes, tCall, tIf, tAndV, tOrV, tNotV, tChain, List.append_nil, tUn, if_true, wipe, true_and, x_never, iU, x_itS, kV, Nat.reduceAdd, Nat.reduceSub, List.replicate_zero, x_rU, x_tMkO, iEnumT, x_tDc, x_tDGet, x_tDGet2, x_sDPut, x_tDSetd, x_tDNewK, x_iItems, x_iZip, x_tSAddK, x_tLockV, x_tTupRg, x_tRg2, tPar, tPar3, tBM0, tSl, tNoPart, tPart, x_tSetAdd, x_tDIn, x_iKeys, x_iZipX, x_iZip3, iRevR, tRg1, x_tFld, x_tMeth, x_sFld, x_tMake, tAug, x_ipI, x_tDNotIn, iRng2])
/-! the boats of a run: full ones, with the passengers of their numbers -/
section
variable {α : Type} [Inhabited α]
/-- boats depart full, from stations that there are -/
def FullB (N : Net) (es : EvsA α) : Prop := ∀ e ∈ es, ∀ k : Int, e.1 = .inl k → ∃ j : Nat, k = (j : Int) ∧ j < N.length ∧ e.2.length = (N.getD j []).length
theorem FullB.nil {N : Net} : FullB N ([] : EvsA α) := fun _ h => by cases h
theorem FullB.append {N : Net} {a b : EvsA α} (h1 : FullB N a) (h2 : FullB N b) : FullB N (a ++ b) := fun x h => (List.mem_append.mp h).elim (h1 x) (h2 x)
def DepB (N : Net) (dep : Dep α) : Prop := ∀ qs st, qs.length = N.length → st < N.length → (qs.getD st []).length = (N.getD st []).length → FullB N (dep qs st).2 ∧ (dep qs st).1.length = qs.length
theorem joinW_b {N : Net} {dep : Dep α} (h : DepB N dep) {qs : QsA α} {j : Nat} {p : α} (hl : qs.length = N.length) (hj : j < N.length) : FullB N (joinW N dep qs j p).2 ∧ (joinW N dep qs j p).1.length = qs.length := by
  unfold joinW
  split
  · rename_i e
    obtain ⟨a, b⟩ := h (qs.set j (qs.getD j [] ++ [p])) j (by rw [List.length_set]; exact hl) hj (by rw [getD_set' (by omega), if_pos rfl]; exact e)
    exact ⟨a, by rw [b, List.length_set]⟩
  · exact ⟨FullB.nil, by rw [List.length_set]⟩
theorem moveW_b {N : Net} {dep : Dep α} (h : DepB N dep) : ∀ (ms : List (Key × α)) (qs : QsA α), qs.length = N.length → (∀ m ∈ ms, ∀ j : Int, m.1 = .inl j → 0 ≤ j ∧ j < N.length) → FullB N (moveW N dep ms qs).2 ∧ (moveW N dep ms qs).1.length = qs.length
  | [], qs, _, _ => ⟨FullB.nil, rfl⟩
  | (.inr z, p) :: r, qs, hl, hm => by
    obtain ⟨a, b⟩ := moveW_b h r qs hl fun m h => hm m (List.mem_cons_of_mem _ h)
    refine ⟨fun e he k hk => ?_, b⟩
    rcases List.mem_cons.mp he with rfl | he
    · cases hk
    · exact a e he k hk
  | (.inl j, p) :: r, qs, hl, hm => by
    obtain ⟨j1, j2⟩ := hm _ (List.mem_cons_self ..) j rfl
    obtain ⟨a1, b1⟩ := joinW_b h (qs := qs) (j := j.toNat) (p := p) hl (by omega)
    obtain ⟨a2, b2⟩ := moveW_b h r (joinW N dep qs j.toNat p).1 (b1.trans hl) fun m h => hm m (List.mem_cons_of_mem _ h)
    exact ⟨FullB.append a1 a2, b2.trans b1⟩
theorem departW_b {N : Net} (fw : Fw N) : ∀ f, DepB N (departW (α := α) N f)
  | 0 => fun qs st _ _ _ => ⟨FullB.nil, rfl⟩
  | f + 1 => fun qs st hl hst hf => by
    obtain ⟨a, b⟩ := moveW_b (departW_b fw f) ((N.getD st []).zip (qs.getD st [])) (qs.set st []) (by rw [List.length_set]; exact hl) fun m hm j e => by
      have := fw st hst j (by rw [← e]; exact (List.of_mem_zip hm).1)
      omega
    refine ⟨fun e he k hk => ?_, b.trans (List.length_set ..)⟩
    rcases List.mem_cons.mp he with rfl | he
    · have hk : (.inl (st : Int) : Key) = .inl k := hk
      exact ⟨st, (Sum.inl.inj hk).symm, hst, hf⟩
    · exact a e he k hk
theorem dn_map {β : Type} {f : α → β} {k : Nat} : ∀ {es : EvsA α}, dn (mapE f es) k = dn es k
  | [] => rfl
  | e :: r => by
    show (if e.1 = .inl (k : Int) then (1 : Int) else 0) + dn (mapE f r) k = (if e.1 = .inl (k : Int) then (1 : Int) else 0) + dn r k
    rw [dn_map]
end
/-- the boats of a station -/
def ofB (k : Nat) (l : List (Nat × List Int)) : List (List Int) := (l.filter fun b => decide (b.1 = k)).map (·.2)
theorem ofB_nil (k : Nat) : ofB k [] = [] := rfl
theorem ofB_cons (k : Nat) (x : Nat × List Int) (l : List (Nat × List Int)) : ofB k (x :: l) = (if x.1 = k then [x.2] else []) ++ ofB k l := by
  unfold ofB
  by_cases h : x.1 = k
  · rw [List.filter_cons_of_pos (by simpa using h), if_pos h]; rfl
  · rw [List.filter_cons_of_neg (by simpa using h), if_neg h]; rfl
theorem ofB_append (k : Nat) (a b : List (Nat × List Int)) : ofB k (a ++ b) = ofB k a ++ ofB k b := by
  unfold ofB
  rw [List.filter_append, List.map_append]
theorem ofB_pos : ∀ {l : List (Nat × List Int)} {j : Nat} {x : Nat × List Int}, l[j]? = some x → (ofB x.1 l)[(ofB x.1 (l.take j)).length]? = some x.2
  | [], j, x, h => by cases h
  | y :: r, 0, x, h => by
    obtain rfl : y = x := by simpa using h
    rw [List.take_zero, ofB_cons, if_pos rfl]; rfl
  | y :: r, j + 1, x, h => by
    have ih := ofB_pos (l := r) (j := j) (x := x) (by simpa using h)
    rw [List.take_succ_cons, ofB_cons, ofB_cons]
    split
    · rw [List.length_append, List.length_singleton, Nat.add_comm, List.singleton_append, List.getElem?_cons_succ]; exact ih
    · simpa using ih
theorem ofB_ev {N : Net} {k : Nat} : ∀ {es : Evs}, FullB N es → (ofB k (btsOf es)).flatten = evP es (.inl (k : Int)) ∧ ((ofB k (btsOf es)).length : Int) = dn es k ∧ ∀ x ∈ ofB k (btsOf es), x.length = (N.getD k []).length
  | [], _ => ⟨rfl, rfl, fun _ h => by cases h⟩
  | (.inr z, ps) :: r, h => by
    obtain ⟨a, b, c⟩ := ofB_ev (k := k) (es := r) fun e he => h e (List.mem_cons_of_mem _ he)
    refine ⟨?_, ?_, c⟩
    · show (ofB k (btsOf r)).flatten = (if (.inr z : Key) = .inl (k : Int) then ps else []) ++ evP r _
      rw [if_neg (by simp), a]; rfl
    · show ((ofB k (btsOf r)).length : Int) = (if (.inr z : Key) = .inl (k : Int) then (1 : Int) else 0) + dn r k
      rw [if_neg (by simp), b, Int.zero_add]
  | (.inl j, ps) :: r, h => by
    obtain ⟨a, b, c⟩ := ofB_ev (k := k) (es := r) fun e he => h e (List.mem_cons_of_mem _ he)
    obtain ⟨j', rfl, hj, hl⟩ := h _ (List.mem_cons_self ..) j rfl
    have e0 : btsOf ((.inl (j' : Int), ps) :: r) = (j', ps) :: btsOf r := by
      show ((j' : Int).toNat, ps) :: btsOf r = _
      rw [Int.toNat_natCast]
    rw [e0, ofB_cons]
    have e1 : evP ((.inl (j' : Int), ps) :: r) (.inl (k : Int)) = (if (.inl (j' : Int) : Key) = .inl (k : Int) then ps else []) ++ evP r (.inl (k : Int)) := rfl
    have e2 : dn ((.inl (j' : Int), ps) :: r) k = (if (.inl (j' : Int) : Key) = .inl (k : Int) then (1 : Int) else 0) + dn r k := rfl
    rw [e1, e2]
    by_cases e : j' = k
    · subst e
      rw [if_pos rfl, if_pos rfl, if_pos rfl]
      refine ⟨by rw [List.flatten_append, a]; simp, by rw [List.length_append, List.length_singleton]; omega, fun x hx => ?_⟩
      rcases List.mem_append.mp hx with hx | hx
      · rw [List.mem_singleton.mp hx]; exact hl
      · exact c x hx
    · have hne : ¬ (.inl (j' : Int) : Key) = .inl (k : Int) := fun h => e (by have := Sum.inl.inj h; omega)
      rw [if_neg e, if_neg hne, if_neg hne]
      exact ⟨by simpa using a, by simpa using b, by simpa using c⟩
theorem flat_get {s : Nat} : ∀ {L : List (List Int)} {c i : Nat} {x : List Int}, (∀ y ∈ L, y.length = s) → L[c]? = some x → i < s → L.flatten[c * s + i]? = x[i]?
  | [], c, i, x, _, h, _ => by cases h
  | y :: r, 0, i, x, hl, h, hi => by
    obtain rfl : y = x := by simpa using h
    have := hl y (List.mem_cons_self ..)
    rw [List.flatten_cons, Nat.zero_mul, Nat.zero_add, List.getElem?_append_left (by omega)]
  | y :: r, c + 1, i, x, hl, h, hi => by
    have := hl y (List.mem_cons_self ..)
    rw [List.flatten_cons, Nat.add_mul, Nat.one_mul, List.getElem?_append_right (by omega), show c * s + s + i - y.length = c * s + i by omega]
    exact flat_get (fun z hz => hl z (List.mem_cons_of_mem _ hz)) (by simpa using h) hi
section
variable {N : Net} {ls : List Int}
theorem line_psg (J : JN N) (L : Lens N ls) (h8 : N.length ≤ 8) (hp1 : 1 ≤ N.length) {p : Int} {qs : Qs} (LQ : LenQ N ls qs) (t : Nat) {k : Nat} (hk : k < N.length) {i : Nat} {x : Int × Int}
    (hx : (evP (arrL N (labs N ls (t : Int)) (0, (t : Int) + 1)).2 (.inl (k : Int)) ++ (arrL N (labs N ls (t : Int)) (0, (t : Int) + 1)).1.getD k [])[i]? = some x) : PsgR N ls p qs k (bt N ls (t : Int) k * ((N.getD k []).length : Int) - ls.getD k 0 + 1 + (i : Int)) (psi N ls p qs x) := by
  obtain ⟨ihE, _⟩ := run_labs J L h8 hp1 LQ (p := p) t
  have hT1 : (1 : Int) ≤ (t : Int) + 1 := by omega
  have hTT : (t : Int) + 1 - 1 = (t : Int) := by omega
  have hj0 : ∀ u : Int, jq N ls u (.inl ((0 : Nat) : Int)) = u := fun u => by
    unfold jq
    rw [if_pos (by rfl)]
  have newP : PsgR N ls p qs 0 ((t : Int) + 1) (p + (t : Int)) := .new rfl (by omega) (by omega)
  have hp0 : psi N ls p qs (0, (t : Int) + 1) = p + (t : Int) := psi_eq J L newP
  have la := line_all J L h8 hT1 hk
  rw [hTT] at la
  obtain ⟨_, hrl, hrw, js, hline, hjs, hjo⟩ := la
  have hi := (List.getElem?_eq_some_iff.mp hx).1
  rw [hline] at hx
  have hl0 := lab_len (t := (t : Int)) J.fw L hk
  have u1 : wt N ls (t : Int) k = ls.getD k 0 + jq N ls (t : Int) (.inl (k : Int)) - bt N ls (t : Int) k * ((N.getD k []).length : Int) := rfl
  have hle := congrArg List.length hline
  rw [List.length_append] at hi
  rw [List.length_append, List.length_append] at hle
  obtain ⟨m, hm⟩ : ∃ m, m = bt N ls (t : Int) k * ((N.getD k []).length : Int) - ls.getD k 0 + 1 + (i : Int) := ⟨_, rfl⟩
  rw [← hm]
  by_cases hil : i < (lab N ls (t : Int) k).length
  · rw [List.getElem?_append_left hil, lab_get hil, ← hm] at hx
    have ex : ((k : Int), m) = x := Option.some.inj hx
    obtain ⟨z, hz⟩ := ihE k hk x (by rw [← ex, hm]; exact List.mem_of_getElem? (lab_get hil))
    rw [← ex] at hz ⊢
    rw [psi_eq J L hz]
    exact hz
  · have hxl := hx
    rw [List.getElem?_append_right (by omega)] at hx
    obtain ⟨h1, h2⟩ := hjo x (List.mem_of_getElem? hx)
    obtain ⟨k2, hk2, ek2, _, _⟩ := LabN.r J L hT1 hp1 h1
    have hj1 := jq_mono (ls := ls) J.fw L.pos (show (0 : Int) ≤ (t : Int) by omega) (.inl (k : Int))
    rw [jq_zero J.fw L] at hj1
    have hmle : m ≤ jq N ls ((t : Int) + 1) (.inl (k : Int)) := by omega
    by_cases h0 : k = 0
    · subst h0
      have ex : x = (0, (t : Int) + 1) := h2.elim (fun h => by
        have : (0 : Int) ≤ x.1 := by omega
        omega) fun h => h.2
      rw [hj0] at hmle u1
      have em : m = (t : Int) + 1 := by omega
      subst ex
      rw [em, hp0]
      exact newP
    · have hlt : x.1 < (k : Int) := h2.elim id fun h => absurd h.1 h0
      obtain ⟨z, hz⟩ : ∃ z, PsgR N ls p qs k2 x.2 z := by
        rcases h1 with rfl | ⟨k', hk', hx'⟩
        · have : k2 = 0 := by
            have : (0 : Int) = (k2 : Int) := ek2
            omega
          subst this
          exact ⟨_, newP⟩
        · rw [hTT] at hx'
          obtain ⟨e1, _, _⟩ := lab_ok J.fw L (by omega) hk' x hx'
          have : k2 = k' := by omega
          subst this
          exact ihE k2 hk2 x hx'
      have ex : x = ((k2 : Int), x.2) := by rw [← ek2]
      have hsrc : Src N ls k m ((k2 : Int), x.2) := by
        refine ⟨(t : Int) + 1, hT1, by rw [hTT]; omega, hmle, ?_⟩
        unfold lineW
        rw [hTT, hline, List.length_append, ← ex]
        rw [show (((lab N ls (t : Int) k).length + js.length : Nat) : Int) + (m - jq N ls ((t : Int) + 1) (.inl (k : Int)) - 1) = (i : Int) by omega, Int.toNat_natCast]
        exact hxl
      rw [ex, psi_eq J L hz]
      exact .step (by omega) (by omega) hsrc hz
/-- the boats of the arrival t of a run -/
def btT (N : Net) (qs : Qs) (p : Int) (t : Nat) : List (Nat × List Int) := btsOf (arrI N (runI N qs p t) (p + (t : Int))).2
theorem btT_full (hV : ValidN N) (h8 : N.length ≤ 8) {qs : Qs} (S : Short N qs) {p : Int} (t : Nat) : FullB N (arrI N (runI N qs p t) (p + (t : Int))).2 :=
  (joinW_b (departW_b (jn_of hV).fw 8) (runI_short (p := p) hV h8 S t).len hV.pos).1
theorem btT_cnt (hV : ValidN N) (L : Lens N ls) (h8 : N.length ≤ 8) {p : Int} {qs : Qs} (LQ : LenQ N ls qs) (S : Short N qs) (t : Nat) {k : Nat} (hk : k < N.length) : ((ofB k (btT N qs p t)).length : Int) = bt N ls ((t : Int) + 1) k - bt N ls (t : Int) k := by
  have J := jn_of hV
  have fw := J.fw
  have hp := hV.pos
  have S0 := labs_short (t := (t : Int)) fw L
  have F : Flow N (labs N ls (t : Int)) (at1 0) (arrL N (labs N ls (t : Int)) (0, (t : Int) + 1)) := joinW_flow (departW_flow fw 8) labs_len hp (by omega)
  have S1 : Short N (arrL N (labs N ls (t : Int)) (0, (t : Int) + 1)).1 := (joinW_ok L.pos (departW_ok L.pos fw 8) S0 hp (by omega)).1
  have hq : ∀ j, j < N.length → (((labs N ls (t : Int)).getD j []).length : Int) = wt N ls (t : Int) j := fun j hj => by rw [labs_at hj]; exact lab_len fw L hj
  have dd := step_all fw L hq F S1 k hk
  rw [← dd]
  unfold btT
  rw [(ofB_ev (btT_full hV h8 S t)).2.1, arr_labs J L h8 hp LQ t]
  exact dn_map
/-- a boat of a run: its number, and who sits in it -/
theorem btT_at (hV : ValidN N) (L : Lens N ls) (h8 : N.length ≤ 8) {p : Int} {qs : Qs} (LQ : LenQ N ls qs) (S : Short N qs) {t j : Nat} {b : Nat × List Int} (h : (btT N qs p t)[j]? = some b) :
    b.1 < N.length ∧ b.2.length = (N.getD b.1 []).length ∧ bt N ls (t : Int) b.1 + ((ofB b.1 ((btT N qs p t).take j)).length : Int) + 1 ≤ bt N ls ((t : Int) + 1) b.1 ∧
    ∀ (i : Nat) z, b.2[i]? = some z → PsgR N ls p qs b.1 ((bt N ls (t : Int) b.1 + ((ofB b.1 ((btT N qs p t).take j)).length : Int)) * ((N.getD b.1 []).length : Int) - ls.getD b.1 0 + 1 + (i : Int)) z := by
  have J := jn_of hV
  have hp := hV.pos
  have full := btT_full hV h8 S (p := p) t
  obtain ⟨f1, f2, f3⟩ := ofB_ev (k := b.1) full
  have hpos := ofB_pos h
  have hc := (List.getElem?_eq_some_iff.mp hpos).1
  have hb1 : b.1 < N.length := by
    have hm := List.mem_of_getElem? h
    have aux : ∀ {es : Evs}, FullB N es → ∀ b ∈ btsOf es, b.1 < N.length := fun {es} => by
      induction es with
      | nil => intro _ b hb; cases hb
      | cons e r ih =>
        intro hf b hb
        match e, hf, hb with
        | (.inr z, ps), hf, hb => exact ih (fun e he => hf e (List.mem_cons_of_mem _ he)) b hb
        | (.inl k, ps), hf, hb =>
          obtain ⟨j, rfl, hj, _⟩ := hf _ (List.mem_cons_self ..) k rfl
          rcases List.mem_cons.mp hb with rfl | hb
          · show (j : Int).toNat < N.length
            omega
          · exact ih (fun e he => hf e (List.mem_cons_of_mem _ he)) b hb
    exact aux full b hm
  have hl : b.2.length = (N.getD b.1 []).length := f3 _ (List.mem_of_getElem? hpos)
  have hcn := btT_cnt hV L h8 LQ S (p := p) t hb1
  refine ⟨hb1, hl, by omega, fun i z hz => ?_⟩
  have hi := (List.getElem?_eq_some_iff.mp hz).1
  have hfl := flat_get f3 hpos (show i < _ by omega)
  have f1 : (ofB b.1 (btT N qs p t)).flatten = _ := f1
  have hfl : (ofB b.1 (btT N qs p t)).flatten[(ofB b.1 ((btT N qs p t).take j)).length * (N.getD b.1 []).length + i]? = b.2[i]? := hfl
  rw [f1, hz, arr_labs J L h8 hp LQ t] at hfl
  have hfl : (evP (mapE (psi N ls p qs) (arrL N (labs N ls (t : Int)) (0, (t : Int) + 1)).2) (.inl (b.1 : Int)))[(ofB b.1 ((btT N qs p t).take j)).length * (N.getD b.1 []).length + i]? = some z := hfl
  rw [evP_map, List.getElem?_map] at hfl
  cases ex : (evP (arrL N (labs N ls (t : Int)) (0, (t : Int) + 1)).2 (.inl (b.1 : Int)))[(ofB b.1 ((btT N qs p t).take j)).length * (N.getD b.1 []).length + i]? with
  | none => rw [ex] at hfl; cases hfl
  | some x =>
    rw [ex] at hfl
    have hzx : psi N ls p qs x = z := Option.some.inj hfl
    have := line_psg J L h8 hp LQ (p := p) t hb1 (i := (ofB b.1 ((btT N qs p t).take j)).length * (N.getD b.1 []).length + i) (x := x) (by
      rw [List.getElem?_append_left (List.getElem?_eq_some_iff.mp ex).1]; exact ex)
    rw [hzx] at this
    rw [Int.add_mul]
    have e : ((((ofB b.1 ((btT N qs p t).take j)).length * (N.getD b.1 []).length + i : Nat)) : Int) = ((ofB b.1 ((btT N qs p t).take j)).length : Int) * ((N.getD b.1 []).length : Int) + (i : Int) := by
      rw [Int.natCast_add, Int.natCast_mul]
    rw [e] at this
    rw [show bt N ls (t : Int) b.1 * ((N.getD b.1 []).length : Int) + ((ofB b.1 ((btT N qs p t).take j)).length : Int) * ((N.getD b.1 []).length : Int) - ls.getD b.1 0 + 1 + (i : Int) = bt N ls (t : Int) b.1 * ((N.getD b.1 []).length : Int) - ls.getD b.1 0 + 1 + (((ofB b.1 ((btT N qs p t).take j)).length : Int) * ((N.getD b.1 []).length : Int) + (i : Int)) by omega]
    exact this
end
end K
set_option Elab.async false
set_option linter.all false
set_option maxRecDepth 100000
set_option maxHeartbeats 1000000
set_option exponentiation.threshold 20000
namespace K
open PySem PySem.Spec PyProof.Rows L2 Evl FB
local macro_rules | `(tactic| walk_at "run") => `(tactic| try simp only [tSeq, tAsg, tVar, tC, gName, L2.start, List.map_cons, List.map_nil, List.cons_append, List.nil_append, List.length_cons, List.length_nil, List.replicate, List.getElem?_cons_zero, List.getElem?_cons_succ, Option.some.injEq, exists_eq_left', List.set_cons_zero, List.set_cons_succ, V.ref.injEq, tRet, x_tLst, x_tTup, tCons, tCB, tNil, tOp, x_addI, x_mulI, x_rI, x_rI0, x_ltI, x_leI, x_ltS, x_leS, x_eqI, x_neI, x_eqS, x_eqB, x_neB, x_isiI, x_isiS, x_int, x_max, x_min, cxOf, tIfS, tNext, tTest, V.bl.injEq, decide_eq_true_eq, gSub, tAnd, tOr, tNot, tB, tDrop, tBM, x_tFor, iRng1, iList, iTup, x_tLc, tYes, tCall, tIf, tAndV, tOrV, tNotV, tChain, List.append_nil, tUn, if_true, wipe, true_and, x_never, iU, x_itS, kV, Nat.reduceAdd, Nat.reduceSub, List.replicate_zero, x_rU, x_tMkO, iEnumT, x_tDc, x_tDGet, x_tDGet2, x_sDPut, x_tDSetd, x_tDNewK, x_iItems, x_iZip, x_tSAddK, x_tLockV, x_tTupRg, x_tRg2, tPar, tPar3, tBM0, tSl, tNoPart, tPart, x_tSetAdd, x_tDIn, x_iKeys, x_iZipX, x_iZip3, iRevR, tRg1, x_tFld, x_tMeth, x_sFld, x_tMake, tAug, x_ipI, x_tDNotIn, iRng2])
/-! all boats and all who finish, in one list; finisher of a port that nobody reaches -/
def cntB (l : List (Nat × List Int × Int)) (k : Nat) : Nat := (l.filter fun b => decide (b.1 = k)).length
def cntF (l : List (Str × Int × Int)) (z : Str) : Nat := (l.filter fun b => decide (b.1 = z)).length
theorem cntB_append {a b : List (Nat × List Int × Int)} {k : Nat} : cntB (a ++ b) k = cntB a k + cntB b k := by
  unfold cntB; rw [List.filter_append, List.length_append]
theorem cntF_append {a b : List (Str × Int × Int)} {z : Str} : cntF (a ++ b) z = cntF a z + cntF b z := by
  unfold cntF; rw [List.filter_append, List.length_append]
theorem cntB_one {x : Nat × List Int × Int} {k : Nat} : cntB [x] k = if x.1 = k then 1 else 0 := by
  unfold cntB
  by_cases h : x.1 = k
  · rw [List.filter_cons_of_pos (by simpa using h), if_pos h]; rfl
  · rw [List.filter_cons_of_neg (by simpa using h), if_neg h]; rfl
theorem cntF_one {x : Str × Int × Int} {k : Str} : cntF [x] k = if x.1 = k then 1 else 0 := by
  unfold cntF
  by_cases h : x.1 = k
  · rw [List.filter_cons_of_pos (by simpa using h), if_pos h]; rfl
  · rw [List.filter_cons_of_neg (by simpa using h), if_neg h]; rfl
theorem cntB_map {t : Int} {k : Nat} : ∀ {l : List (Nat × List Int)}, cntB (l.map fun b => (b.1, b.2, t)) k = (ofB k l).length
  | [] => rfl
  | x :: r => by
    have ih := cntB_map (t := t) (k := k) (l := r)
    show cntB ([(x.1, x.2, t)] ++ r.map fun b => (b.1, b.2, t)) k = _
    rw [cntB_append, cntB_one, ih, ofB_cons, List.length_append]
    split <;> rfl
theorem cntF_map {t : Int} {z : Str} : ∀ {l : List (Str × Int)}, cntF (l.map fun b => (b.1, b.2, t)) z = (ofP z l).length
  | [] => rfl
  | x :: r => by
    have ih := cntF_map (t := t) (z := z) (l := r)
    show cntF ([(x.1, x.2, t)] ++ r.map fun b => (b.1, b.2, t)) z = _
    rw [cntF_append, cntF_one, ih, ofP_cons, List.length_append]
    split <;> rfl
section
variable {N : Net} {ls : List Int}
theorem allB_cnt (hV : ValidN N) (L : Lens N ls) (h8 : N.length ≤ 8) {p : Int} {qs : Qs} (LQ : LenQ N ls qs) (S : Short N qs) {k : Nat} (hk : k < N.length) : ∀ c : Nat, (cntB (allB N qs p c) k : Int) = bt N ls (c : Int) k
  | 0 => (bt_zero (jn_of hV).fw L k hk).symm
  | c + 1 => by
    have ih := allB_cnt hV L h8 LQ S (p := p) hk c
    have h := btT_cnt hV L h8 LQ S (p := p) c hk
    show ((cntB (allB N qs p c ++ (btT N qs p c).map fun b => (b.1, b.2, (c : Int) + 1)) k : Nat) : Int) = _
    rw [cntB_append, cntB_map, Int.natCast_add, Int.natCast_add, ih, h]
    show bt N ls (c : Int) k + (bt N ls ((c : Int) + 1) k - bt N ls (c : Int) k) = bt N ls ((c : Int) + 1) k
    omega
theorem allF_cnt (hV : ValidN N) (L : Lens N ls) (h8 : N.length ≤ 8) {p : Int} {qs : Qs} (LQ : LenQ N ls qs) {z : Str} : ∀ c : Nat, (cntF (allF N qs p c) z : Int) = jq N ls (c : Int) (.inr z)
  | 0 => (jq_zero (jn_of hV).fw L (.inr z)).symm
  | c + 1 => by
    have ih := allF_cnt hV L h8 LQ (p := p) (z := z) c
    have h := finT_len (jn_of hV) L h8 hV.pos LQ (p := p) c z
    show ((cntF (allF N qs p c ++ (finT N qs p c).map fun b => (b.1, b.2, (c : Int) + 1)) z : Nat) : Int) = _
    rw [cntF_append, cntF_map, Int.natCast_add, Int.natCast_add, ih, h]
    show jq N ls (c : Int) (.inr z) + (jq N ls ((c : Int) + 1) (.inr z) - jq N ls (c : Int) (.inr z)) = jq N ls ((c : Int) + 1) (.inr z)
    omega
theorem allB_at (hV : ValidN N) (L : Lens N ls) (h8 : N.length ≤ 8) {p : Int} {qs : Qs} (LQ : LenQ N ls qs) (S : Short N qs) : ∀ {c J : Nat} {b : Nat × List Int × Int}, (allB N qs p c)[J]? = some b →
    b.1 < N.length ∧ 1 ≤ b.2.2 ∧ b.2.2 ≤ (c : Int) ∧ bt N ls (b.2.2 - 1) b.1 < (cntB ((allB N qs p c).take J) b.1 : Int) + 1 ∧ (cntB ((allB N qs p c).take J) b.1 : Int) + 1 ≤ bt N ls b.2.2 b.1 ∧ b.2.1.length = (N.getD b.1 []).length ∧
    ∀ (i : Nat) z, b.2.1[i]? = some z → PsgR N ls p qs b.1 ((cntB ((allB N qs p c).take J) b.1 : Int) * ((N.getD b.1 []).length : Int) - ls.getD b.1 0 + 1 + (i : Int)) z
  | 0, J, b, h => by cases h
  | c + 1, J, b, h => by
    have e0 : allB N qs p (c + 1) = allB N qs p c ++ (btT N qs p c).map fun b => (b.1, b.2, (c : Int) + 1) := rfl
    rw [e0] at h ⊢
    by_cases hJ : J < (allB N qs p c).length
    · rw [List.getElem?_append_left hJ] at h
      rw [List.take_append_of_le_length (by omega)]
      obtain ⟨a1, a2, a3, a4⟩ := allB_at hV L h8 LQ S (c := c) h
      exact ⟨a1, a2, by omega, a4⟩
    · rw [List.getElem?_append_right (by omega)] at h
      obtain ⟨x, hx, rfl⟩ : ∃ x, (btT N qs p c)[J - (allB N qs p c).length]? = some x ∧ (x.1, x.2, (c : Int) + 1) = b := by simpa using h
      obtain ⟨b1, b2, b3, b4⟩ := btT_at hV L h8 LQ S hx
      have hc := allB_cnt hV L h8 LQ S (p := p) b1 c
      have ht : (cntB ((allB N qs p c ++ (btT N qs p c).map fun b => (b.1, b.2, (c : Int) + 1)).take J) x.1 : Int) = bt N ls (c : Int) x.1 + ((ofB x.1 ((btT N qs p c).take (J - (allB N qs p c).length))).length : Int) := by
        rw [List.take_append, List.take_of_length_le (show (allB N qs p c).length ≤ J by omega), cntB_append, ← List.map_take, cntB_map, Int.natCast_add, hc]
      dsimp only
      rw [ht]
      refine ⟨b1, by omega, by omega, by rw [Int.add_sub_cancel]; omega, b3, b2, b4⟩
theorem allF_at (hV : ValidN N) (L : Lens N ls) (h8 : N.length ≤ 8) {p : Int} {qs : Qs} (LQ : LenQ N ls qs) : ∀ {c J : Nat} {b : Str × Int × Int}, (allF N qs p c)[J]? = some b →
    1 ≤ b.2.2 ∧ b.2.2 ≤ (c : Int) ∧ jq N ls (b.2.2 - 1) (.inr b.1) < (cntF ((allF N qs p c).take J) b.1 : Int) + 1 ∧ (cntF ((allF N qs p c).take J) b.1 : Int) + 1 ≤ jq N ls b.2.2 (.inr b.1) ∧
    ∀ y, PsgP N ls p qs b.1 ((cntF ((allF N qs p c).take J) b.1 : Int) + 1) y → y = b.2.1
  | 0, J, b, h => by cases h
  | c + 1, J, b, h => by
    have e0 : allF N qs p (c + 1) = allF N qs p c ++ (finT N qs p c).map fun b => (b.1, b.2, (c : Int) + 1) := rfl
    rw [e0] at h ⊢
    by_cases hJ : J < (allF N qs p c).length
    · rw [List.getElem?_append_left hJ] at h
      rw [List.take_append_of_le_length (by omega)]
      obtain ⟨a2, a3, a4⟩ := allF_at hV L h8 LQ (c := c) h
      exact ⟨a2, by omega, a4⟩
    · rw [List.getElem?_append_right (by omega)] at h
      obtain ⟨x, hx, rfl⟩ : ∃ x, (finT N qs p c)[J - (allF N qs p c).length]? = some x ∧ (x.1, x.2, (c : Int) + 1) = b := by simpa using h
      obtain ⟨b1, b2, b3⟩ := tf_at (jn_of hV) L h8 hV.pos LQ hx
      have hc := allF_cnt hV L h8 LQ (p := p) (z := x.1) c
      have ht : (cntF ((allF N qs p c ++ (finT N qs p c).map fun b => (b.1, b.2, (c : Int) + 1)).take J) x.1 : Int) = tf N ls qs p c (J - (allF N qs p c).length) x.1 := by
        unfold tf
        rw [List.take_append, List.take_of_length_le (show (allF N qs p c).length ≤ J by omega), cntF_append, ← List.map_take, cntF_map, Int.natCast_add, hc]
      dsimp only
      rw [ht]
      exact ⟨by omega, by omega, by rw [Int.add_sub_cancel]; exact b1, b2, b3⟩
end
/-- a dict holds how many boats each station sent -/
structure FinB (T : Nat → Int) (kvs : List (Key × V)) : Prop where
  val : ∀ k : Nat, valV kvs (.inl (k : Int)) = if 0 < T k then some (.int (T k)) else none
theorem FinB.nil : FinB (fun _ => 0) [] := ⟨fun _ => rfl⟩
theorem FinB.get {T : Nat → Int} {kvs : List (Key × V)} {k : Nat} (F : FinB T kvs) (h0 : 0 ≤ T k) : (valV kvs (.inl (k : Int))).getD (.int 0) = .int (T k) := by
  rw [F.val]
  split
  · rfl
  · have : T k = 0 := by omega
    rw [this]; rfl
theorem FinB.add {T T2 : Nat → Int} {kvs : List (Key × V)} {k : Nat} (F : FinB T kvs) (h0 : 0 ≤ T k) (h1 : T2 k = T k + 1) (h2 : ∀ j, j ≠ k → T2 j = T j) : FinB T2 (putK kvs (.inl (k : Int)) (.int (T k + 1))) := ⟨fun j => by
  rw [valV_put]
  by_cases e : j = k
  · subst e
    rw [if_pos rfl, if_pos (by omega), h1]
  · rw [if_neg (fun h => e (by have := Sum.inl.inj h; omega)), F.val, h2 j e]⟩
theorem putK_len {kvs : List (Key × V)} {k : Key} {v : V} : (putK kvs k v).length ≤ kvs.length + 1 := by
  unfold putK
  split
  · rw [List.length_map]; omega
  · rw [List.length_append]; exact Nat.le_refl _
section
variable {P : Program} {w : World} {K : PySem.W.Frag} {mg : Str → Option Value} {base : Heap}
/-- finisher of a port that no seat leads to -/
def spFinN (K : PySem.W.Frag) : Sp := fun vs H Q _ => ∃ (v u : V) (N : Net) (p : Int) (qs : Qs) (z : Str) (n : Int), vs = [v, u, .str z, .int n] ∧ NetAt K H v N ∧ ValidN N ∧ Dp K H u (stateD p qs) ∧ StOk N p qs ∧ 1 ≤ n ∧ n ≤ 1000000000000000000 ∧ ¬ z ∈ nms N N.length ∧
  ∀ H', Ex H H' → Q .non H'
theorem ok_finisherN {C f f1 f2 f3 f4 f5 f6 : Addr} {fd fd1 fd2 fd3 fd4 fd5 fd6 : FuncData} (D : Df K mg "finisher" s_finisher ["network", "state", "port", "number"] f fd) (T : Bt mg) (F : TF K C) (Cm0 : Cm mg) (D_check_state : Df K mg "check_state" s_check_state ["network", "state"] f1 fd1) (G_check_state : FnOk P w K mg base CX0 5 f1 fd1 ["network", "state"] (spState K))
    (D_check_count : Df K mg "check_count" s_check_count ["count", "least", "most"] f2 fd2) (D_ports : Df K mg "ports" s_ports ["network"] f6 fd6) (G_ports : FnOk P w K mg base CX0 6 f6 fd6 ["network"] (spPorts K)) (C_Timetable : Cf K mg "Timetable" "Timetable.__init__" C s_Timetable___init ["self", "network", "state"] f3 fd3) (G_Timetable : FnOk P w K mg base CX0 2 f3 fd3 ["self", "network", "state"] (spTmI K C))
    (M_time_of : Mf K C "time_of" "Timetable.time_of" s_Timetable_time_of ["self", "place", "number"] f4 fd4) (G_time_of : FnOk P w K mg base CX0 5 f4 fd4 ["self", "place", "number"] (spTime K C)) (M_passenger : Mf K C "passenger" "Timetable.passenger" s_Timetable_passenger ["self", "place", "number"] f5 fd5) (G_passenger : FnOk P w K mg base CX0 22 f5 fd5 ["self", "place", "number"] (spPsgPt K C)) :
    FnOk P w K mg base CX0 23 f fd ["network", "state", "port", "number"] (spFinN K) := by
  have G_check_count : FnOk P w K mg base CX0 1 f2 fd2 _ _ := ok_check_count D_check_count
  obtain ⟨tMC, g_MAX_COUNT⟩ := Cm0.g_MAX_COUNT
  refine D.F.ok sc_finisher (fun vs H Q E h => ?_) (fun cdv A outer s H vs Q E hr h => ?_)
  · obtain ⟨v, u, N, p, qs, z, n, rfl, _⟩ := h
    rfl
  · obtain ⟨v, u, N, p, qs, z, n, rfl, hN, hV, hu, hS, hn1, hn2, hz, q⟩ := h
    refine ⟨_, (pss_cons (ps_expr (pe_call (G_check_state) (hr.mono (by decide)) rfl D_check_state.g D_check_state.F.kp D_check_state.b .nil pass0 (pa_cons (pv 0) (pa_cons (pv 1) pa_nil))))
      (pss_cons (ps_expr (pe_call (G_check_count) (hr.mono (by decide)) rfl D_check_count.g D_check_count.F.kp D_check_count.b .nil pass0 (pa_cons (pv 3) (pa_cons pe_int (pa_cons (pe_glob (v := .int 1000000000000000000) rfl g_MAX_COUNT ⟨_, rfl⟩) pa_nil)))))
      (pss_cons (ps_if (pt_cmpR ((op_notInU (K := K) (P := P) (w := w))) (pv 2) (pe_call (G_ports) (hr.mono (by decide)) rfl D_ports.g D_ports.F.kp D_ports.b .nil pass0 (pa_cons (pv 0) pa_nil)) (by rfl)) (pss_one (ps_ret pe_non)) pss_nil)
      (pss_cons (ps_set (i := 4) sc_finisher.nd rfl (Or.inl rfl) (pe_make C_Timetable.mkK (G_Timetable) (hr.mono (by decide)) rfl C_Timetable.g C_Timetable.b .nil pass0 (pa_cons (pv 0) (pa_cons (pv 1) pa_nil))))
      (pss_one (ps_ret (pe_tup (pa_cons (pe_meth (pv 4) F.c M_passenger.m (G_passenger) (hr.mono (by decide)) M_passenger.b .nil pass0 (pa_cons (pv 2) (pa_cons (pv 3) pa_nil))) (pa_cons (pe_meth (pv 4) F.c M_time_of.m (G_time_of) (hr.mono (by decide)) M_time_of.b .nil pass0 (pa_cons (pv 2) (pa_cons (pv 3) pa_nil))) pa_nil))))))))), ?_⟩
    walk_at "run"
    refine ⟨v, u, N, p, qs, rfl, hN, hV, hu, hS, fun H1 e1 => ?_⟩
    walk_at "run"
    refine ⟨n, 1, 1000000000000000000, rfl, hn1, hn2, ?_⟩
    walk_at "run"
    refine ⟨v, N, rfl, Dp.ex e1 hN, hV, fun H2 l zs e2 _ hl hP => ?_⟩
    refine .inl ⟨l, _, rfl, .inl (SqL.of hl), rfl, by rw [List.all_map]; exact List.all_eq_true.mpr fun _ _ => rfl, ?_⟩
    rw [if_pos rfl, inV_strs, decide_eq_false (fun h => hz ((hP.2.2 z).mp h))]
    refine ⟨_, rfl, ?_⟩
    rw [if_pos (by decide)]
    walk_at "run"
    exact q H2 (e1.trans e2)
end
end K
set_option Elab.async false
set_option linter.all false
set_option maxRecDepth 100000
set_option maxHeartbeats 1000000
set_option exponentiation.threshold 20000
namespace K
open PySem PySem.Spec PyProof.Rows L2 Evl FB
local macro_rules | `(tactic| walk_at "run") => `(tactic| try simp only [tSeq, tAsg, tVar, tC, gName, L2.start, List.map_cons, List.map_nil, List.cons_append, List.nil_append, List.length_cons, List.length_nil, List.replicate, List.getElem?_cons_zero, List.getElem?_cons_succ, Option.some.injEq, exists_eq_left', List.set_cons_zero, List.set_cons_succ, V.ref.injEq, tRet, x_tLst, x_tTup, tCons, tCB, tNil, tOp, x_addI, x_mulI, x_rI, x_rI0, x_ltI, x_leI, x_ltS, x_leS, x_eqI, x_neI, x_eqS, x_eqB, x_neB, x_isiI, x_isiS, x_int, x_max, x_min, cxOf, tIfS, tNext, tTest, V.bl.injEq, decide_eq_true_eq, gSub, tAnd, tOr, tNot, tB, tDrop, tBM, x_tFor, iRng1, iList, iTup, x_tLc, tYes, tCall, tIf, tAndV, tOrV, tNotV, tChain, List.append_nil, tUn, if_true, wipe, true_and, x_never, iU, x_itS, kV, Nat.reduceAdd, Nat.reduceSub, List.replicate_zero, x_rU, x_tMkO, iEnumT, x_tDc, x_tDGet, x_tDGet2, x_sDPut, x_tDSetd, x_tDNewK, x_iItems, x_iZip, x_tSAddK, x_tLockV, x_tTupRg, x_tRg2, tPar, tPar3, tBM0, tSl, tNoPart, tPart, x_tSetAdd, x_tDIn, x_iKeys, x_iZipX, x_iZip3, iRevR, tRg1, x_tFld, x_tMeth, x_sFld, x_tMake, tAug, x_ipI, x_tDNotIn, iRng2])
/-! the law -/
section
variable {P : Program} {w : World} {K : PySem.W.Frag} {mg : Str → Option Value} {base : Heap}
abbrev s_law : Stmt := top 47
theorem sc_law : FnScope ["_law_script", "_law_h", "_law_turn", "_law_network_here", "_law_state_here", "_law_count", "_law_boats", "_law_finished", "_law_queues", "_law_numbers", "_law_station", "_law_passengers", "_law_time", "_law_told", "_law_port", "_law_passenger"] ["_law_script"] (defScope s_law) := ⟨rfl, rfl, rfl, by decide +kernel, rfl, by decide +kernel, by decide +kernel⟩
theorem ft_at {v : V} {H : Hp} {x : Str × Int × Int} (h : Dp K H v (ftD x)) : ∃ a, v = .ref a ∧ SqT K H a [.str x.1, .int x.2.1, .int x.2.2] := by
  obtain ⟨a, xs, rfl, h1, h2⟩ := h.tup_inv
  cases h2 with
  | cons a1 a2 =>
    cases a2 with
    | cons a3 a4 =>
      cases a4 with
      | cons a5 a6 =>
        cases a6
        cases a1
        cases a3
        cases a5
        exact ⟨a, rfl, h1⟩
theorem nowhere_W4 : ¬ ("nowhere" : Str) ∈ W4 := by decide +kernel
def spLaw (K : PySem.W.Frag) : Sp := fun vs H Q _ => ∃ (a : Addr) (ns : List Int), vs = [.ref a] ∧ SqL K H a (ns.map V.int) ∧ ns.length ≤ 63 ∧ ∀ H', Q (.bl true) H'
theorem ok_law {f g1 g2 g3 g4 g5 g6 f3 f4 : Addr} {fd gd1 gd2 gd3 gd4 gd5 gd6 fd3 fd4 : FuncData} (F : Fun K "law" "law" s_law f fd) (T : Bt mg) (D_l_mix : Df K mg "_law_mix" s_l_mix ["_law_script", "_law_seed"] g1 gd1) (D_l_next : Df K mg "_law_next" s_l_next ["_law_h", "_law_limit"] g2 gd2)
    (D_l_network : Df K mg "_law_network" s_l_network ["_law_h", "_law_most"] g3 gd3) (G_l_network : FnOk P w K mg base CX0 3 g3 gd3 ["_law_h", "_law_most"] (spNetwork K)) (D_l_state : Df K mg "_law_state" s_l_state ["_law_h", "_law_network_here", "_law_most"] g4 gd4) (G_l_state : FnOk P w K mg base CX0 18 g4 gd4 ["_law_h", "_law_network_here", "_law_most"] (spStateL K))
    (D_l_log : Df K mg "_law_log" s_l_log ["_law_network_here", "_law_state_here", "_law_count"] g5 gd5) (G_l_log : FnOk P w K mg base CX0 9 g5 gd5 ["_law_network_here", "_law_state_here", "_law_count"] (spLog K)) (D_l_alike : Df K mg "_law_alike" s_l_alike ["_law_found", "_law_due"] g6 gd6)
    (D_finisher : Df K mg "finisher" s_finisher ["network", "state", "port", "number"] f3 fd3) (G_finisher : FnOk P w K mg base CX0 23 f3 fd3 ["network", "state", "port", "number"] (spFinr K)) (G_finisherN : FnOk P w K mg base CX0 23 f3 fd3 ["network", "state", "port", "number"] (spFinN K)) (D_boat : Df K mg "boat" s_boat ["network", "state", "station", "number"] f4 fd4) (G_boat : FnOk P w K mg base CX0 24 f4 fd4 ["network", "state", "station", "number"] (spBoatG K)) :
    FnOk P w K mg base CX0 25 f fd ["_law_script"] (spLaw K) := by
  have G_l_mix : FnOk P w K mg base CX0 1 g1 gd1 _ _ := ok_l_mix D_l_mix T
  have G_l_next : FnOk P w K mg base CX0 1 g2 gd2 _ _ := ok_l_next D_l_next T
  have G_l_alike : FnOk P w K mg base CX0 8 g6 gd6 _ _ := ok_l_alike D_l_alike T 8
  refine F.ok sc_law (fun vs H Q E h => ?_) (fun cdv A outer s H vs Q E hr h => ?_)
  · obtain ⟨a, ns, rfl, _⟩ := h
    rfl
  · obtain ⟨a, ns, rfl, hS, hl, q⟩ := h
    have hu := hr.units
    have hu1 := hu_of hr
    refine ⟨_, (pss_cons (ps_set (i := 1) sc_law.nd rfl (Or.inl rfl) (pe_call (G_l_mix) (hr.mono (by decide)) rfl D_l_mix.g D_l_mix.F.kp D_l_mix.b .nil pass0 (pa_cons (pv 0) (pa_cons pe_int pa_nil))))
      (pss_cons (ps_for PassesOwn.never rfl (pi_range1 (by rfl) T.b_range (pa_cons pe_int pa_nil)) (pg_name (i := 2) sc_law.nd rfl (Or.inl rfl)) (pss_cons (ps_set (i := 3) sc_law.nd rfl (Or.inl rfl) (pe_call (G_l_network) (hr.mono (by decide)) rfl D_l_network.g D_l_network.F.kp D_l_network.b .nil pass0 (pa_cons (pv 1) (pa_cons pe_int pa_nil))))
      (pss_cons (ps_par (i := 4) (j := 5) (by rfl) sc_law.nd rfl rfl (by decide) rfl rfl (pa_cons (pe_call (G_l_state) (hr.mono (by decide)) rfl D_l_state.g D_l_state.F.kp D_l_state.b .nil pass0 (pa_cons (pv 1) (pa_cons (pv 3) (pa_cons pe_int pa_nil)))) (pa_cons (pe_call (G_l_next) (hr.mono (by decide)) rfl D_l_next.g D_l_next.F.kp D_l_next.b .nil pass0 (pa_cons (pv 1) (pa_cons pe_int pa_nil))) pa_nil)) (by rfl))
      (pss_cons (ps_asg (pe_call (G_l_log) (hr.mono (by decide)) rfl D_l_log.g D_l_log.F.kp D_l_log.b .nil pass0 (pa_cons (pv 3) (pa_cons (pv 4) (pa_cons (pv 5) pa_nil)))) (pg_tup rfl (pgs_cons (pg_name (i := 6) sc_law.nd rfl (Or.inl rfl)) (pgs_cons (pg_name (i := 7) sc_law.nd rfl (Or.inl rfl)) (pgs_cons (pg_name (i := 8) sc_law.nd rfl (Or.inl rfl)) pgs_nil)))))
      (pss_cons (ps_set (i := 9) sc_law.nd rfl (Or.inl rfl) pe_dnewK)
      (pss_cons (ps_for PassesOwn.never rfl (pi_U (K := K) (pv 6)) (pg_tup rfl (pgs_cons (pg_name (i := 10) sc_law.nd rfl (Or.inl rfl)) (pgs_cons (pg_name (i := 11) sc_law.nd rfl (Or.inl rfl)) (pgs_cons (pg_name (i := 12) sc_law.nd rfl (Or.inl rfl)) pgs_nil)))) (pss_cons (ps_dput hu1 (pv 9) (pv 10) (pe_op (op_addU (K := K)) (pe_dget2 hu1 (pv 9) (pv 10) pe_int ⟨rfl, rfl, rfl, rfl⟩) pe_int) rfl)
      (pss_one (ps_if (PW.pt (pw_or (pt_cmpR (op_ltU) (pe_dget hu1 (pv 9) (pv 10) (fun _ _ => rfl)) pe_int (nomark _)) (pw_or1 (pt_cmpR (op_gtU) (pv 12) (pe_op op_sub (pv 5) pe_int) (nomark _))))) (pss_one (ps_if (pt_not (pt_val (pe_call (G_l_alike) (hr.mono (by decide)) rfl D_l_alike.g D_l_alike.F.kp D_l_alike.b .nil pass0 (pa_cons (pe_call (G_boat) (hr.mono (by decide)) rfl D_boat.g D_boat.F.kp D_boat.b .nil pass0 (pa_cons (pv 3) (pa_cons (pv 4) (pa_cons (pv 10) (pa_cons (pe_dget hu1 (pv 9) (pv 10) (fun _ _ => rfl)) pa_nil))))) (pa_cons (pe_tup (pa_cons (pe_callTy (call_tupU (K := K)) (by rfl) T.b_tuple (by decide +kernel) (pa_cons (pv 11) pa_nil)) (pa_cons (pv 12) pa_nil))) pa_nil))))) (pss_one (ps_ret pe_bl)) pss_nil)) pss_nil))))
      (pss_cons (ps_set (i := 13) sc_law.nd rfl (Or.inl rfl) pe_dnewK)
      (pss_cons (ps_for PassesOwn.never rfl (pi_U (K := K) (pv 7)) (pg_tup rfl (pgs_cons (pg_name (i := 14) sc_law.nd rfl (Or.inl rfl)) (pgs_cons (pg_name (i := 15) sc_law.nd rfl (Or.inl rfl)) (pgs_cons (pg_name (i := 12) sc_law.nd rfl (Or.inl rfl)) pgs_nil)))) (pss_cons (ps_dput hu1 (pv 13) (pv 14) (pe_op (op_addU (K := K)) (pe_dget2 hu1 (pv 13) (pv 14) pe_int ⟨rfl, rfl, rfl, rfl⟩) pe_int) rfl)
      (pss_one (ps_if (PW.pt (pw_or (pt_cmpR (op_ltU) (pe_dget hu1 (pv 13) (pv 14) (fun _ _ => rfl)) pe_int (nomark _)) (pw_or1 (pt_cmpR (op_gtU) (pv 12) (pe_op op_sub (pv 5) pe_int) (nomark _))))) (pss_one (ps_if (pt_not (pt_val (pe_call (G_l_alike) (hr.mono (by decide)) rfl D_l_alike.g D_l_alike.F.kp D_l_alike.b .nil pass0 (pa_cons (pe_call (G_finisher) (hr.mono (by decide)) rfl D_finisher.g D_finisher.F.kp D_finisher.b .nil pass0 (pa_cons (pv 3) (pa_cons (pv 4) (pa_cons (pv 14) (pa_cons (pe_dget hu1 (pv 13) (pv 14) (fun _ _ => rfl)) pa_nil))))) (pa_cons (pe_tup (pa_cons (pv 15) (pa_cons (pv 12) pa_nil))) pa_nil))))) (pss_one (ps_ret pe_bl)) pss_nil)) pss_nil))))
      (pss_one (ps_if (pt_cmpR op_notN (pe_call (G_finisherN) (hr.mono (by decide)) rfl D_finisher.g D_finisher.F.kp D_finisher.b .nil pass0 (pa_cons (pv 3) (pa_cons (pv 4) (pa_cons pe_str (pa_cons pe_int pa_nil))))) pe_non (nomark _)) (pss_one (ps_ret pe_bl)) pss_nil))))))))))
      (pss_one (ps_ret pe_bl)))), ?_⟩
    walk_at "run"
    refine ⟨a, ns, 4, rfl, hS, hl, fun h b H1 e1 _ _ g1 => ?_⟩
    walk_at "run"
    refine ⟨2, rfl, by decide, by decide, loop_it walk_range (fun i σ H' => ∃ u2 u3 u4 u5 u6 u7 u8 u9 u10 u11 u12 u13 u14 u15, σ = [some (.ref a), some (.ref h), u2, u3, u4, u5, u6, u7, u8, u9, u10, u11, u12, u13, u14, u15] ∧ Gen H' h b) ⟨_, _, _, _, _, _, _, _, _, _, _, _, _, _, rfl, g1⟩ (fun _ _ _ _ _ => trivial) ?_ ?_⟩
    · rintro i0 x σ H2 H2' hi0 ⟨u2, u3, u4, u5, u6, u7, u8, u9, u10, u11, u12, u13, u14, u15, rfl, g2⟩ ⟨eH, rfl⟩
      subst eH
      walk_at "run"
      refine ⟨h, b, 6, rfl, g2, by decide, by decide, fun v N H3 hD hN g3 e3 => ?_⟩
      have hD8 : Drawn N 8 := hD.more (by decide)
      have hV : ValidN N := hD.valid (by decide)
      have h8 : N.length ≤ 8 := by have := hD.le; omega
      have J := jn_of hV
      walk_at "run"
      refine ⟨h, b, v, N, 30, rfl, g3, hN, hD8, by decide, by decide, fun u p qs H4 hO hu4 g4 e4 => ?_⟩
      refine x_next g4 (by decide) (by decide) fun r H5 r0 r1 g5 e5 => ?_
      obtain ⟨c, rfl⟩ : ∃ c : Nat, r = (c : Int) := ⟨r.toNat, by omega⟩
      have hN5 : NetAt K H5 v N := Dp.tx ((g3.tx e4).trans (g4.tx e5)) hN (netD_t N)
      have hu5 : Dp K H5 u (stateD p qs) := Dp.tx (g4.tx e5) hu4 (stateD_t p qs)
      have L : Lens N (lens qs) := lensL hO
      have LQ := lensQ hO
      have S0 := st_short hO
      refine ⟨_, _, rfl, ?_⟩
      walk_at "run"
      refine ⟨v, u, N, p, qs, c, rfl, hN5, hV, h8, hu5, hO, by omega, fun H6 r6 Lb Lf Qa as e6 hr6 nLb nLf nQa nas hB6 hF6 hQ6 => ?_⟩
      refine x_three (SqT.of hr6) ?_
      walk_at "run"
      have hN6 : NetAt K H6 v N := Dp.ex e6 hN5
      have hu6 : Dp K H6 u (stateD p qs) := Dp.ex e6 hu5
      have g6 : Gen H6 h b := g5.ex e6
      clear hN hN5 hu5 hu4 g3 g4 g2 e3 e4 e5 e6 nLb nLf nQa nas hQ6 hr6
      refine x_dnew fun Ta H7 nTa e7 hTa => ?_
      have nTa6 := nTa
      obtain ⟨tb, hb1, hb2, hb3⟩ := hB6.ex
      have hbl := allB_len hV h8 S0 (p := p) c
      have hfl := allF_len hV h8 S0 (p := p) c
      refine x_itL (SqL.of (e7 _ _ hb1)) ?_
      refine loop_it walk_list (fun j σ H' => ∃ u10 u11 u12 kvs, σ = [some (.ref a), some (.ref h), some (.int (0 + (i0 : Nat))), some v, some u, some (.int (c : Int)), some (.ref Lb), some (.ref Lf), some (.ref Qa), some (.ref Ta), u10, u11, u12, u13, u14, u15] ∧ Ex H6 H' ∧ H' Ta = some (.dK kvs) ∧ FinB (fun k => (cntB ((allB N qs p c).take j) k : Int)) kvs ∧ kvs.length ≤ j)
        ⟨_, _, _, [], rfl, e7, hTa, FinB.nil, Nat.le_refl _⟩ (fun j σ H' _ ⟨_, _, _, _, _, e, _⟩ => SqL.of (e _ _ hb1)) ?_ ?_
      · rintro j x σ H8 H8' hj ⟨u10, u11, u12, kvs, rfl, e8, hT8, hF8, hk8⟩ ⟨eH, hx⟩
        subst eH
        obtain ⟨ta, hta, rfl⟩ : ∃ ta, tb[j]? = some ta ∧ V.ref ta = x := by simpa using hx
        have hjt := (List.getElem?_eq_some_iff.mp hta).1
        obtain ⟨B, hB⟩ : ∃ B, (allB N qs p c)[j]? = some B := ⟨(allB N qs p c)[j]'(by omega), by simp [show j < (allB N qs p c).length by omega]⟩
        obtain ⟨ta', l, ha', _, hsq, hli⟩ := hb3 j B hB
        obtain rfl : ta = ta' := by rw [hta] at ha'; exact Option.some.inj ha'
        refine x_three (ex_t e8 hsq) ?_
        walk_at "run"
        obtain ⟨c0, hc0⟩ : ∃ c0 : Nat, c0 = cntB ((allB N qs p c).take j) B.1 := ⟨_, rfl⟩
        obtain ⟨a1, a2, a3, a4, a5, a6, a7⟩ := allB_at hV L h8 LQ S0 hB
        rw [← hc0] at a4 a5 a7
        refine ⟨isD_k hT8, x_dget2 (k := .inl (B.1 : Int)) hT8 ?_⟩
        rw [FinB.get hF8 (by omega)]
        walk_at "run"
        rw [← hc0]
        refine x_dput (k := .inl (B.1 : Int)) hT8 (by omega) fun H9 e9 _ h9 => ?_
        have E9 : Ex H6 H9 := fun x o h => e9 _ _ (ne_of_none h nTa6) (e8 _ _ h)
        walk_at "run"
        have hv9 : valV (putK kvs (.inl (B.1 : Int)) (.int ((c0 : Int) + 1))) (.inl (B.1 : Int)) = some (.int ((c0 : Int) + 1)) := by rw [valV_put, if_pos rfl]
        have htk : (allB N qs p c).take (j + 1) = (allB N qs p c).take j ++ [B] := by rw [List.take_add_one, hB]; rfl
        have hF9 : FinB (fun k => (cntB ((allB N qs p c).take (j + 1)) k : Int)) (putK kvs (.inl (B.1 : Int)) (.int ((c0 : Int) + 1))) := by
          have := hF8.add (k := B.1) (T2 := fun k => (cntB ((allB N qs p c).take (j + 1)) k : Int)) (by omega) (by rw [htk, cntB_append, cntB_one, if_pos rfl]; omega) fun j2 hj2 => by
            rw [htk, cntB_append, cntB_one, if_neg (fun h => hj2 h.symm)]; rfl
          rw [← hc0] at this
          exact this
        have hk9 : (putK kvs (.inl (B.1 : Int)) (.int ((c0 : Int) + 1))).length ≤ j + 1 := Nat.le_trans putK_len (by omega)
        refine x_dget (k := .inl (B.1 : Int)) h9 hv9 ?_
        walk_at "run"
        have fin : ∀ H', Ex H9 H' → ∃ u10 u11 u12 kvs, [some (V.ref a), some (V.ref h), some (V.int (0 + (i0 : Nat))), some v, some u, some (V.int (c : Int)), some (V.ref Lb), some (V.ref Lf), some (V.ref Qa), some (V.ref Ta), some (V.int (B.1 : Int)), some (V.ref l), some (V.int B.2.2), u13, u14, u15] = [some (.ref a), some (.ref h), some (.int (0 + (i0 : Nat))), some v, some u, some (.int (c : Int)), some (.ref Lb), some (.ref Lf), some (.ref Qa), some (.ref Ta), u10, u11, u12, u13, u14, u15] ∧ Ex H6 H' ∧ H' Ta = some (.dK kvs) ∧ FinB (fun k => (cntB ((allB N qs p c).take (j + 1)) k : Int)) kvs ∧ kvs.length ≤ j + 1 := fun H' e => ⟨_, _, _, _, rfl, E9.trans e, e _ _ h9, hF9, hk9⟩
        have cmp : ∀ (R : Hp → Prop), (∀ H', Ex H9 H' → R H') → rDGet (.ref Ta) (kV (.inl (B.1 : Int))) H9 (fun x H1 => spBoatG K [v, u, .int (B.1 : Int), x] H1 (fun x H1 => rTupU K [.ref l] H1 fun x_1 H1 => rTup [x_1, .int B.2.2] H1 fun x_2 H1 => spAlike K 8 [x, x_2] H1 (fun x H1 => ∃ c_1, x = .bl c_1 ∧ if (!c_1) = true then Q (.bl false) H1 else R H1) E0) E0) := fun R hR => by
          refine x_dget (k := .inl (B.1 : Int)) h9 hv9 ?_
          have hbb := bt_le (ls := lens qs) J L (t := B.2.2) (by omega) a1
          refine ⟨v, u, N, p, qs, B.1, (c0 : Int) + 1, B.2.2, rfl, Dp.ex E9 hN6, hV, h8, Dp.ex E9 hu6, hO, a1, by omega, by omega, a5, by omega, by omega, fun H10 r l2 zs t e10 hr hl2 hzl hzs ht1 ht2 hb1 hb2 => ?_⟩
          have hl2d : Dp K H10 (.ref l2) (qD B.2.1) := by
            have ez : zs = B.2.1 := by
              refine List.ext_getElem? fun i => ?_
              by_cases hi : i < zs.length
              · obtain ⟨y, hy⟩ : ∃ y, B.2.1[i]? = some y := ⟨B.2.1[i]'(by omega), by simp [show i < B.2.1.length by omega]⟩
                rw [hy, List.getElem?_eq_getElem hi]
                have h1 := hzs i _ (List.getElem?_eq_getElem hi)
                have h2 := a7 i y hy
                rw [Int.add_sub_cancel] at h1
                exact congrArg some (PsgR.same J L h1 h2)
              · rw [List.getElem?_eq_none (by omega), List.getElem?_eq_none (by omega)]
            rw [← ez]
            exact hl2
          have et : t = B.2.2 := by
            by_cases h : t ≤ B.2.2 - 1
            · have := bt_mono (ls := lens qs) J.fw L.pos h B.1 a1
              omega
            · omega
          subst et
          refine x_tupL (SqL.of (e10 _ _ (E9 _ _ hli))) fun tq H11 n11 e11 h11 => x_tup (by simp) fun tr H12 n12 e12 h12 => ?_
          have fine : Fine 3 (.tuple [qD B.2.1, .int B.2.2]) := fine_tup (by simp) fun d hd => by
            simp only [List.mem_cons, List.not_mem_nil, or_false] at hd
            rcases hd with rfl | rfl
            · refine fine_tup (by rw [List.length_map]; have := (J.st B.1 a1).2; omega) fun d hd => ?_
              obtain ⟨i, _, rfl⟩ := List.mem_map.mp hd
              exact fine_int i
            · exact (fine_int _).mono (by decide)
          refine ⟨.ref r, .ref tr, _, rfl, .tup (SqT.of ((e11.trans e12) _ _ hr)) (.cons (Dp.ex (e11.trans e12) hl2d) (.cons (.int _) .nil)), .tup (SqT.of h12) (.cons (.tup (SqT.of (e12 _ _ h11)) (ints_dp _)) (.cons (.int _) .nil)), fine.shaped (by decide), Nat.le_trans fine.dep (by decide), fine.sm, fun H13 e13 => ⟨_, rfl, ?_⟩⟩
          rw [if_neg (by simp)]
          exact hR H13 (e10.trans (e11.trans (e12.trans e13)))
        split
        · exact cmp _ fin
        · split
          · exact cmp _ fin
          · exact fin H9 (Ex.refl _)
      · rintro σ H8 ⟨u10, u11, u12, kvs, rfl, e8, hT8, hF8, hk8⟩
        walk_at "run"
        clear hT8 hF8 hk8 hTa nTa
        obtain ⟨tf, hf1, hf2⟩ := hF6.ex
        refine x_dnew fun Tb H9 nTb e9 hTb => ?_
        have nTb6 : H6 Tb = none := fresh_back e8 nTb
        have e69 := e8.trans e9
        refine x_itL (SqL.of (e69 _ _ hf1)) ?_
        refine loop_it walk_list (fun j σ H' => ∃ u14 u15 u12 kvs, σ = [some (.ref a), some (.ref h), some (.int (0 + (i0 : Nat))), some v, some u, some (.int (c : Int)), some (.ref Lb), some (.ref Lf), some (.ref Qa), some (.ref Ta), u10, u11, u12, some (.ref Tb), u14, u15] ∧ Ex H6 H' ∧ H' Tb = some (.dK kvs) ∧ Fin (fun z => (cntF ((allF N qs p c).take j) z : Int)) kvs)
          ⟨_, _, _, [], rfl, e69, hTb, Fin.nil⟩ (fun j σ H' _ ⟨_, _, _, _, _, e, _⟩ => SqL.of (e _ _ hf1)) ?_ ?_
        · rintro j x σ H10 H10' hj ⟨u14, u15, u12, kvs, rfl, e10, hT10, hF10⟩ ⟨eH, hx⟩
          subst eH
          obtain ⟨d, hd, hz⟩ := hf2.get' hx
          obtain ⟨B, hB, rfl⟩ : ∃ y, (allF N qs p c)[j]? = some y ∧ ftD y = d := by simpa using hd
          obtain ⟨fa, rfl, hfa⟩ := ft_at hz
          refine x_three (ex_t e10 hfa) ?_
          walk_at "run"
          obtain ⟨c0, hc0⟩ : ∃ c0 : Nat, c0 = cntF ((allF N qs p c).take j) B.1 := ⟨_, rfl⟩
          obtain ⟨a2, a3, a4, a5, a7⟩ := allF_at hV L h8 LQ hB
          rw [← hc0] at a4 a5 a7
          have hjf := (List.getElem?_eq_some_iff.mp hB).1
          have hc0j : c0 ≤ j := by
            rw [hc0]
            unfold cntF
            refine Nat.le_trans (List.length_filter_le ..) ?_
            rw [List.length_take]
            omega
          have hsh : kvs.length ≤ 4 := hF10.short fun z hz => by
            have h1 : cntF ((allF N qs p c).take j) z ≤ cntF (allF N qs p c) z := by
              have h : cntF ((allF N qs p c).take j ++ (allF N qs p c).drop j) z = cntF (allF N qs p c) z := by rw [List.take_append_drop]
              rw [cntF_append] at h
              omega
            have h2 := allF_cnt hV L h8 LQ (p := p) (z := z) c
            exact jq_W4 hD (t := (c : Int)) (ls := lens qs) (by omega)
          refine ⟨isD_k hT10, x_dget2 (k := .inr B.1) hT10 ?_⟩
          rw [Fin.get hF10 (by omega)]
          walk_at "run"
          rw [← hc0]
          refine x_dput (k := .inr B.1) hT10 (by omega) fun H11 e11 _ h11 => ?_
          have E11 : Ex H6 H11 := fun x o h => e11 _ _ (ne_of_none h nTb6) (e10 _ _ h)
          walk_at "run"
          have hv11 : valV (putK kvs (.inr B.1) (.int ((c0 : Int) + 1))) (.inr B.1) = some (.int ((c0 : Int) + 1)) := by rw [valV_put, if_pos rfl]
          have htk : (allF N qs p c).take (j + 1) = (allF N qs p c).take j ++ [B] := by rw [List.take_add_one, hB]; rfl
          have hF11 : Fin (fun k => (cntF ((allF N qs p c).take (j + 1)) k : Int)) (putK kvs (.inr B.1) (.int ((c0 : Int) + 1))) := by
            have := Fin.add (z := B.1) (b := 1) (T2 := fun k => (cntF ((allF N qs p c).take (j + 1)) k : Int)) hF10 (by decide) (by omega) (by rw [htk, cntF_append, cntF_one, if_pos rfl]; omega) fun j2 hj2 => by
              rw [htk, cntF_append, cntF_one, if_neg (fun h => hj2 h.symm)]; rfl
            rw [← hc0] at this
            exact this
          refine x_dget (k := .inr B.1) h11 hv11 ?_
          walk_at "run"
          have fin : ∀ H', Ex H11 H' → ∃ u14 u15 u12 kvs, [some (V.ref a), some (V.ref h), some (V.int (0 + (i0 : Nat))), some v, some u, some (V.int (c : Int)), some (V.ref Lb), some (V.ref Lf), some (V.ref Qa), some (V.ref Ta), u10, u11, some (V.int B.2.2), some (V.ref Tb), some (V.str B.1), some (V.int B.2.1)] = [some (.ref a), some (.ref h), some (.int (0 + (i0 : Nat))), some v, some u, some (.int (c : Int)), some (.ref Lb), some (.ref Lf), some (.ref Qa), some (.ref Ta), u10, u11, u12, some (.ref Tb), u14, u15] ∧ Ex H6 H' ∧ H' Tb = some (.dK kvs) ∧ Fin (fun k => (cntF ((allF N qs p c).take (j + 1)) k : Int)) kvs := fun H' e => ⟨_, _, _, _, rfl, E11.trans e, e _ _ h11, hF11⟩
          have cmp : ∀ (R : Hp → Prop), (∀ H', Ex H11 H' → R H') → rDGet (.ref Tb) (kV (.inr B.1)) H11 (fun x H1 => spFinr K [v, u, .str B.1, x] H1 (fun x H1 => rTup [.int B.2.1, .int B.2.2] H1 fun x_2 H1 => spAlike K 8 [x, x_2] H1 (fun x H1 => ∃ c_1, x = .bl c_1 ∧ if (!c_1) = true then Q (.bl false) H1 else R H1) E0) E0) := fun R hR => by
            refine x_dget (k := .inr B.1) h11 hv11 ?_
            refine ⟨v, u, N, p, qs, B.1, (c0 : Int) + 1, B.2.2, rfl, Dp.ex E11 hN6, hV, h8, Dp.ex E11 hu6, hO, by omega, by omega, a5, by omega, by omega, fun H12 r y t e12 hr hP ht1 ht2 hb1 hb2 => ?_⟩
            have ey := a7 y hP
            have et : t = B.2.2 := by
              by_cases h : t ≤ B.2.2 - 1
              · have := jq_mono (ls := lens qs) J.fw L.pos h (.inr B.1)
                omega
              · omega
            subst ey et
            refine x_tup (by simp) fun tr H13 n13 e13 h13 => ?_
            have fine := fine_pair B.2.1 B.2.2
            refine ⟨.ref r, .ref tr, _, rfl, .tup (SqT.of (e13 _ _ hr)) (.cons (.int _) (.cons (.int _) .nil)), .tup (SqT.of h13) (.cons (.int _) (.cons (.int _) .nil)), fine.shaped (by decide), Nat.le_trans fine.dep (by decide), fine.sm, fun H14 e14 => ⟨_, rfl, ?_⟩⟩
            rw [if_neg (by simp)]
            exact hR H14 (e12.trans (e13.trans e14))
          split
          · exact cmp _ fin
          · split
            · exact cmp _ fin
            · exact fin H11 (Ex.refl _)
        · rintro σ H10 ⟨u14, u15, u12, kvs, rfl, e10, hT10, hF10⟩
          walk_at "run"
          refine ⟨v, u, N, p, qs, _, 1, rfl, Dp.ex e10 hN6, hV, Dp.ex e10 hu6, hO, by decide, by decide, fun hz => ?_, fun H11 e11 => ?_⟩
          · obtain ⟨i, h1, _, h2⟩ := (mem_nms _).mp hz
            have e3 : N[i]? = some (N.getD i []) := by simp [List.getD_eq_getElem?_getD, h1]
            exact nowhere_W4 ((hD.st i _ e3).2.2 (.inr _) h2)
          · show if (!decide (V.non = V.non)) = true then _ else _
            rw [if_neg (by simp)]
            exact ⟨_, _, _, _, _, _, _, _, _, _, _, _, _, _, rfl, (g6.ex e10).ex e11⟩
    · rintro σ H2 ⟨u2, u3, u4, u5, u6, u7, u8, u9, u10, u11, u12, u13, u14, u15, rfl, g2⟩
      walk_at "run"
      exact q H2
end
end K
set_option Elab.async false
set_option linter.all false
set_option maxRecDepth 100000
set_option maxHeartbeats 4000000
namespace K
open PySem PySem.Spec PyProof.Rows L2 Evl FB
theorem all_mk {l : PySem.W.OpenLaw} {w : World} {K : PySem.W.Frag} {h : Heap} {mg : Str → Option Value} {fa : Addr} (X : K.In h) (G : h.Ns mainGlobals mg) (hfa : mg "law" = some (.ref fa))
    {f0 : Addr} {od0 an0 : Option Addr} {sl0 : Array (Option Value)} {oc0 kV0 dc0 pm0 ct0 : Value} {cd0 : Value}
    (a0 : PySem.W.nsIn K mainGlobals "check_count" = some (some (.ref f0)))
    (l0 : K.lookup f0 = some ⟨oc0, od0, .func (PySem.W.fnOf "check_count" "check_count" (defArgs s_check_count) (defBody s_check_count) (defScope s_check_count) .none kV0 dc0 pm0 an0 cd0 ct0), sl0⟩)
    (c0 : PySem.W.codeIn K cd0 "check_count" = true)
    (k0 : PySem.W.keepIn K (.ref f0) = true)
    {f1 : Addr} {od1 an1 : Option Addr} {sl1 : Array (Option Value)} {oc1 kV1 dc1 pm1 ct1 : Value} {cd1 : Value}
    (a1 : PySem.W.nsIn K mainGlobals "check_station" = some (some (.ref f1)))
    (l1 : K.lookup f1 = some ⟨oc1, od1, .func (PySem.W.fnOf "check_station" "check_station" (defArgs s_check_station) (defBody s_check_station) (defScope s_check_station) .none kV1 dc1 pm1 an1 cd1 ct1), sl1⟩)
    (c1 : PySem.W.codeIn K cd1 "check_station" = true)
    (k1 : PySem.W.keepIn K (.ref f1) = true)
    {f2 : Addr} {od2 an2 : Option Addr} {sl2 : Array (Option Value)} {oc2 kV2 dc2 pm2 ct2 : Value} {cd2 : Value}
    (a2 : PySem.W.nsIn K mainGlobals "is_letters" = some (some (.ref f2)))
    (l2 : K.lookup f2 = some ⟨oc2, od2, .func (PySem.W.fnOf "is_letters" "is_letters" (defArgs s_is_letters) (defBody s_is_letters) (defScope s_is_letters) .none kV2 dc2 pm2 an2 cd2 ct2), sl2⟩)
    (c2 : PySem.W.codeIn K cd2 "is_letters" = true)
    (k2 : PySem.W.keepIn K (.ref f2) = true)
    {f3 : Addr} {od3 an3 : Option Addr} {sl3 : Array (Option Value)} {oc3 kV3 dc3 pm3 ct3 : Value} {cd3 : Value}
    (a3 : PySem.W.nsIn K mainGlobals "is_word" = some (some (.ref f3)))
    (l3 : K.lookup f3 = some ⟨oc3, od3, .func (PySem.W.fnOf "is_word" "is_word" (defArgs s_is_word) (defBody s_is_word) (defScope s_is_word) .none kV3 dc3 pm3 an3 cd3 ct3), sl3⟩)
    (c3 : PySem.W.codeIn K cd3 "is_word" = true)
    (k3 : PySem.W.keepIn K (.ref f3) = true)
    {f4 : Addr} {od4 an4 : Option Addr} {sl4 : Array (Option Value)} {oc4 kV4 dc4 pm4 ct4 : Value} {cd4 : Value}
    (a4 : PySem.W.nsIn K mainGlobals "is_place" = some (some (.ref f4)))
    (l4 : K.lookup f4 = some ⟨oc4, od4, .func (PySem.W.fnOf "is_place" "is_place" (defArgs s_is_place) (defBody s_is_place) (defScope s_is_place) .none kV4 dc4 pm4 an4 cd4 ct4), sl4⟩)
    (c4 : PySem.W.codeIn K cd4 "is_place" = true)
    (k4 : PySem.W.keepIn K (.ref f4) = true)
    {f5 : Addr} {od5 an5 : Option Addr} {sl5 : Array (Option Value)} {oc5 kV5 dc5 pm5 ct5 : Value} {cd5 : Value}
    (a5 : PySem.W.nsIn K mainGlobals "check_network" = some (some (.ref f5)))
    (l5 : K.lookup f5 = some ⟨oc5, od5, .func (PySem.W.fnOf "check_network" "check_network" (defArgs s_check_network) (defBody s_check_network) (defScope s_check_network) .none kV5 dc5 pm5 an5 cd5 ct5), sl5⟩)
    (c5 : PySem.W.codeIn K cd5 "check_network" = true)
    (k5 : PySem.W.keepIn K (.ref f5) = true)
    {f6 : Addr} {od6 an6 : Option Addr} {sl6 : Array (Option Value)} {oc6 kV6 dc6 pm6 ct6 : Value} {c_reachable_stations : Addr}
    (a6 : PySem.W.nsIn K mainGlobals "reachable_stations" = some (some (.ref f6)))
    (l6 : K.lookup f6 = some ⟨oc6, od6, .func (PySem.W.fnOf "reachable_stations" "reachable_stations" (defArgs s_reachable_stations) (defBody s_reachable_stations) (defScope s_reachable_stations) .none kV6 dc6 pm6 an6 (.ref c_reachable_stations) ct6), sl6⟩)
    (c6 : PySem.W.codeIn K (.ref c_reachable_stations) "reachable_stations" = true)
    (k6 : PySem.W.keepIn K (.ref f6) = true)
    (kd_reachable_stations : PySem.W.kdsCode K (.ref c_reachable_stations) = true)
    {f7 : Addr} {od7 an7 : Option Addr} {sl7 : Array (Option Value)} {oc7 kV7 dc7 pm7 ct7 : Value} {c_ports : Addr}
    (a7 : PySem.W.nsIn K mainGlobals "ports" = some (some (.ref f7)))
    (l7 : K.lookup f7 = some ⟨oc7, od7, .func (PySem.W.fnOf "ports" "ports" (defArgs s_ports) (defBody s_ports) (defScope s_ports) .none kV7 dc7 pm7 an7 (.ref c_ports) ct7), sl7⟩)
    (c7 : PySem.W.codeIn K (.ref c_ports) "ports" = true)
    (k7 : PySem.W.keepIn K (.ref f7) = true)
    (kd_ports : PySem.W.kdsCode K (.ref c_ports) = true)
    {f8 : Addr} {od8 an8 : Option Addr} {sl8 : Array (Option Value)} {oc8 kV8 dc8 pm8 ct8 : Value} {cd8 : Value}
    (a8 : PySem.W.nsIn K mainGlobals "check_state" = some (some (.ref f8)))
    (l8 : K.lookup f8 = some ⟨oc8, od8, .func (PySem.W.fnOf "check_state" "check_state" (defArgs s_check_state) (defBody s_check_state) (defScope s_check_state) .none kV8 dc8 pm8 an8 cd8 ct8), sl8⟩)
    (c8 : PySem.W.codeIn K cd8 "check_state" = true)
    (k8 : PySem.W.keepIn K (.ref f8) = true)
    {f9 : Addr} {od9 an9 : Option Addr} {sl9 : Array (Option Value)} {oc9 kV9 dc9 pm9 ct9 : Value} {cd9 : Value}
    (a9 : PySem.W.nsIn K mainGlobals "check_passengers" = some (some (.ref f9)))
    (l9 : K.lookup f9 = some ⟨oc9, od9, .func (PySem.W.fnOf "check_passengers" "check_passengers" (defArgs s_check_passengers) (defBody s_check_passengers) (defScope s_check_passengers) .none kV9 dc9 pm9 an9 cd9 ct9), sl9⟩)
    (c9 : PySem.W.codeIn K cd9 "check_passengers" = true)
    (k9 : PySem.W.keepIn K (.ref f9) = true)
    {f10 : Addr} {od10 an10 : Option Addr} {sl10 : Array (Option Value)} {oc10 kV10 dc10 pm10 ct10 : Value} {cd10 : Value}
    (a10 : PySem.W.nsIn K mainGlobals "queue_lengths" = some (some (.ref f10)))
    (l10 : K.lookup f10 = some ⟨oc10, od10, .func (PySem.W.fnOf "queue_lengths" "queue_lengths" (defArgs s_queue_lengths) (defBody s_queue_lengths) (defScope s_queue_lengths) .none kV10 dc10 pm10 an10 cd10 ct10), sl10⟩)
    (c10 : PySem.W.codeIn K cd10 "queue_lengths" = true)
    (k10 : PySem.W.keepIn K (.ref f10) = true)
    {f11 : Addr} {od11 an11 : Option Addr} {sl11 : Array (Option Value)} {oc11 kV11 dc11 pm11 ct11 : Value} {cd11 : Value}
    (a11 : PySem.W.nsIn K mainGlobals "join_queue" = some (some (.ref f11)))
    (l11 : K.lookup f11 = some ⟨oc11, od11, .func (PySem.W.fnOf "join_queue" "join_queue" (defArgs s_join_queue) (defBody s_join_queue) (defScope s_join_queue) .none kV11 dc11 pm11 an11 cd11 ct11), sl11⟩)
    (c11 : PySem.W.codeIn K cd11 "join_queue" = true)
    (k11 : PySem.W.keepIn K (.ref f11) = true)
    {f12 : Addr} {od12 an12 : Option Addr} {sl12 : Array (Option Value)} {oc12 kV12 dc12 pm12 ct12 : Value} {cd12 : Value}
    (a12 : PySem.W.nsIn K mainGlobals "depart" = some (some (.ref f12)))
    (l12 : K.lookup f12 = some ⟨oc12, od12, .func (PySem.W.fnOf "depart" "depart" (defArgs s_depart) (defBody s_depart) (defScope s_depart) .none kV12 dc12 pm12 an12 cd12 ct12), sl12⟩)
    (c12 : PySem.W.codeIn K cd12 "depart" = true)
    (k12 : PySem.W.keepIn K (.ref f12) = true)
    {f13 : Addr} {od13 an13 : Option Addr} {sl13 : Array (Option Value)} {oc13 kV13 dc13 pm13 ct13 : Value} {cd13 : Value}
    (a13 : PySem.W.nsIn K mainGlobals "find_feeders" = some (some (.ref f13)))
    (l13 : K.lookup f13 = some ⟨oc13, od13, .func (PySem.W.fnOf "find_feeders" "find_feeders" (defArgs s_find_feeders) (defBody s_find_feeders) (defScope s_find_feeders) .none kV13 dc13 pm13 an13 cd13 ct13), sl13⟩)
    (c13 : PySem.W.codeIn K cd13 "find_feeders" = true)
    (k13 : PySem.W.keepIn K (.ref f13) = true)
    {f14 : Addr} {od14 an14 : Option Addr} {sl14 : Array (Option Value)} {oc14 kV14 dc14 pm14 ct14 : Value} {cd14 : Value}
    (a14 : PySem.W.nsIn K mainGlobals "count_brought" = some (some (.ref f14)))
    (l14 : K.lookup f14 = some ⟨oc14, od14, .func (PySem.W.fnOf "count_brought" "count_brought" (defArgs s_count_brought) (defBody s_count_brought) (defScope s_count_brought) .none kV14 dc14 pm14 an14 cd14 ct14), sl14⟩)
    (c14 : PySem.W.codeIn K cd14 "count_brought" = true)
    (k14 : PySem.W.keepIn K (.ref f14) = true)
    {f15 : Addr} {od15 an15 : Option Addr} {sl15 : Array (Option Value)} {oc15 kV15 dc15 pm15 ct15 : Value} {cd15 : Value}
    (a15 : PySem.W.nsIn K mainGlobals "count_departures" = some (some (.ref f15)))
    (l15 : K.lookup f15 = some ⟨oc15, od15, .func (PySem.W.fnOf "count_departures" "count_departures" (defArgs s_count_departures) (defBody s_count_departures) (defScope s_count_departures) .none kV15 dc15 pm15 an15 cd15 ct15), sl15⟩)
    (c15 : PySem.W.codeIn K cd15 "count_departures" = true)
    (k15 : PySem.W.keepIn K (.ref f15) = true)
    {f16 : Addr} {od16 an16 : Option Addr} {sl16 : Array (Option Value)} {oc16 kV16 dc16 pm16 ct16 : Value} {cd16 : Value}
    (a16 : PySem.W.nsIn K mainGlobals "boat" = some (some (.ref f16)))
    (l16 : K.lookup f16 = some ⟨oc16, od16, .func (PySem.W.fnOf "boat" "boat" (defArgs s_boat) (defBody s_boat) (defScope s_boat) .none kV16 dc16 pm16 an16 cd16 ct16), sl16⟩)
    (c16 : PySem.W.codeIn K cd16 "boat" = true)
    (k16 : PySem.W.keepIn K (.ref f16) = true)
    {f17 : Addr} {od17 an17 : Option Addr} {sl17 : Array (Option Value)} {oc17 kV17 dc17 pm17 ct17 : Value} {cd17 : Value}
    (a17 : PySem.W.nsIn K mainGlobals "finisher" = some (some (.ref f17)))
    (l17 : K.lookup f17 = some ⟨oc17, od17, .func (PySem.W.fnOf "finisher" "finisher" (defArgs s_finisher) (defBody s_finisher) (defScope s_finisher) .none kV17 dc17 pm17 an17 cd17 ct17), sl17⟩)
    (c17 : PySem.W.codeIn K cd17 "finisher" = true)
    (k17 : PySem.W.keepIn K (.ref f17) = true)
    {f18 : Addr} {od18 an18 : Option Addr} {sl18 : Array (Option Value)} {oc18 kV18 dc18 pm18 ct18 : Value} {cd18 : Value}
    (a18 : PySem.W.nsIn K mainGlobals "_law_mix" = some (some (.ref f18)))
    (l18 : K.lookup f18 = some ⟨oc18, od18, .func (PySem.W.fnOf "_law_mix" "_law_mix" (defArgs s_l_mix) (defBody s_l_mix) (defScope s_l_mix) .none kV18 dc18 pm18 an18 cd18 ct18), sl18⟩)
    (c18 : PySem.W.codeIn K cd18 "_law_mix" = true)
    (k18 : PySem.W.keepIn K (.ref f18) = true)
    {f19 : Addr} {od19 an19 : Option Addr} {sl19 : Array (Option Value)} {oc19 kV19 dc19 pm19 ct19 : Value} {cd19 : Value}
    (a19 : PySem.W.nsIn K mainGlobals "_law_next" = some (some (.ref f19)))
    (l19 : K.lookup f19 = some ⟨oc19, od19, .func (PySem.W.fnOf "_law_next" "_law_next" (defArgs s_l_next) (defBody s_l_next) (defScope s_l_next) .none kV19 dc19 pm19 an19 cd19 ct19), sl19⟩)
    (c19 : PySem.W.codeIn K cd19 "_law_next" = true)
    (k19 : PySem.W.keepIn K (.ref f19) = true)
    {f20 : Addr} {od20 an20 : Option Addr} {sl20 : Array (Option Value)} {oc20 kV20 dc20 pm20 ct20 : Value} {cd20 : Value}
    (a20 : PySem.W.nsIn K mainGlobals "_law_alike" = some (some (.ref f20)))
    (l20 : K.lookup f20 = some ⟨oc20, od20, .func (PySem.W.fnOf "_law_alike" "_law_alike" (defArgs s_l_alike) (defBody s_l_alike) (defScope s_l_alike) .none kV20 dc20 pm20 an20 cd20 ct20), sl20⟩)
    (c20 : PySem.W.codeIn K cd20 "_law_alike" = true)
    (k20 : PySem.W.keepIn K (.ref f20) = true)
    {f21 : Addr} {od21 an21 : Option Addr} {sl21 : Array (Option Value)} {oc21 kV21 dc21 pm21 ct21 : Value} {cd21 : Value}
    (a21 : PySem.W.nsIn K mainGlobals "_law_place" = some (some (.ref f21)))
    (l21 : K.lookup f21 = some ⟨oc21, od21, .func (PySem.W.fnOf "_law_place" "_law_place" (defArgs s_l_place) (defBody s_l_place) (defScope s_l_place) .none kV21 dc21 pm21 an21 cd21 ct21), sl21⟩)
    (c21 : PySem.W.codeIn K cd21 "_law_place" = true)
    (k21 : PySem.W.keepIn K (.ref f21) = true)
    {f22 : Addr} {od22 an22 : Option Addr} {sl22 : Array (Option Value)} {oc22 kV22 dc22 pm22 ct22 : Value} {cd22 : Value}
    (a22 : PySem.W.nsIn K mainGlobals "_law_network" = some (some (.ref f22)))
    (l22 : K.lookup f22 = some ⟨oc22, od22, .func (PySem.W.fnOf "_law_network" "_law_network" (defArgs s_l_network) (defBody s_l_network) (defScope s_l_network) .none kV22 dc22 pm22 an22 cd22 ct22), sl22⟩)
    (c22 : PySem.W.codeIn K cd22 "_law_network" = true)
    (k22 : PySem.W.keepIn K (.ref f22) = true)
    {f23 : Addr} {od23 an23 : Option Addr} {sl23 : Array (Option Value)} {oc23 kV23 dc23 pm23 ct23 : Value} {cd23 : Value}
    (a23 : PySem.W.nsIn K mainGlobals "_law_join" = some (some (.ref f23)))
    (l23 : K.lookup f23 = some ⟨oc23, od23, .func (PySem.W.fnOf "_law_join" "_law_join" (defArgs s_l_join) (defBody s_l_join) (defScope s_l_join) .none kV23 dc23 pm23 an23 cd23 ct23), sl23⟩)
    (c23 : PySem.W.codeIn K cd23 "_law_join" = true)
    (k23 : PySem.W.keepIn K (.ref f23) = true)
    {f24 : Addr} {od24 an24 : Option Addr} {sl24 : Array (Option Value)} {oc24 kV24 dc24 pm24 ct24 : Value} {cd24 : Value}
    (a24 : PySem.W.nsIn K mainGlobals "_law_depart" = some (some (.ref f24)))
    (l24 : K.lookup f24 = some ⟨oc24, od24, .func (PySem.W.fnOf "_law_depart" "_law_depart" (defArgs s_l_depart) (defBody s_l_depart) (defScope s_l_depart) .none kV24 dc24 pm24 an24 cd24 ct24), sl24⟩)
    (c24 : PySem.W.codeIn K cd24 "_law_depart" = true)
    (k24 : PySem.W.keepIn K (.ref f24) = true)
    {f25 : Addr} {od25 an25 : Option Addr} {sl25 : Array (Option Value)} {oc25 kV25 dc25 pm25 ct25 : Value} {cd25 : Value}
    (a25 : PySem.W.nsIn K mainGlobals "_law_state" = some (some (.ref f25)))
    (l25 : K.lookup f25 = some ⟨oc25, od25, .func (PySem.W.fnOf "_law_state" "_law_state" (defArgs s_l_state) (defBody s_l_state) (defScope s_l_state) .none kV25 dc25 pm25 an25 cd25 ct25), sl25⟩)
    (c25 : PySem.W.codeIn K cd25 "_law_state" = true)
    (k25 : PySem.W.keepIn K (.ref f25) = true)
    {f26 : Addr} {od26 an26 : Option Addr} {sl26 : Array (Option Value)} {oc26 kV26 dc26 pm26 ct26 : Value} {cd26 : Value}
    (a26 : PySem.W.nsIn K mainGlobals "_law_enter" = some (some (.ref f26)))
    (l26 : K.lookup f26 = some ⟨oc26, od26, .func (PySem.W.fnOf "_law_enter" "_law_enter" (defArgs s_l_enter) (defBody s_l_enter) (defScope s_l_enter) .none kV26 dc26 pm26 an26 cd26 ct26), sl26⟩)
    (c26 : PySem.W.codeIn K cd26 "_law_enter" = true)
    (k26 : PySem.W.keepIn K (.ref f26) = true)
    {f27 : Addr} {od27 an27 : Option Addr} {sl27 : Array (Option Value)} {oc27 kV27 dc27 pm27 ct27 : Value} {cd27 : Value}
    (a27 : PySem.W.nsIn K mainGlobals "_law_log" = some (some (.ref f27)))
    (l27 : K.lookup f27 = some ⟨oc27, od27, .func (PySem.W.fnOf "_law_log" "_law_log" (defArgs s_l_log) (defBody s_l_log) (defScope s_l_log) .none kV27 dc27 pm27 an27 cd27 ct27), sl27⟩)
    (c27 : PySem.W.codeIn K cd27 "_law_log" = true)
    (k27 : PySem.W.keepIn K (.ref f27) = true)
    {f28 : Addr} {od28 an28 : Option Addr} {sl28 : Array (Option Value)} {oc28 kV28 dc28 pm28 ct28 : Value} {cd28 : Value}
    (a28 : PySem.W.nsIn K mainGlobals "law" = some (some (.ref f28)))
    (l28 : K.lookup f28 = some ⟨oc28, od28, .func (PySem.W.fnOf "law" "law" (defArgs s_law) (defBody s_law) (defScope s_law) .none kV28 dc28 pm28 an28 cd28 ct28), sl28⟩)
    (c28 : PySem.W.codeIn K cd28 "law" = true)
    (k28 : PySem.W.keepIn K (.ref f28) = true)
    {CArrival : Addr}
    (gArrival : PySem.W.nsIn K mainGlobals "Arrival" = some (some (.ref CArrival)))
    (pgArrival : PySem.W.plainGet K CArrival Str.empty = true)
    (hdArrival : PySem.W.hasDictIn K CArrival = true)
    (poArrival : PySem.W.plainOver K CArrival = true)
    (saArrival : PySem.W.findIn K (.ref CArrival) "__setattr__" = some (some (.builtin "object.__setattr__")))
    (mkArrival : PySem.W.makesIn K CArrival = true)
    (kpArrival : PySem.W.keepIn K (.ref CArrival) = true)
    (nArrival_events : PySem.W.findIn K (.ref CArrival) "events" = some none)
    (nArrival_queues : PySem.W.findIn K (.ref CArrival) "queues" = some none)
    {f_Arrival_init : Addr} {od_Arrival_init an_Arrival_init : Option Addr} {sl_Arrival_init : Array (Option Value)} {oc_Arrival_init kV_Arrival_init dc_Arrival_init pm_Arrival_init ct_Arrival_init cd_Arrival_init : Value}
    (a_Arrival_init : PySem.W.findIn K (.ref CArrival) "__init__" = some (some (.ref f_Arrival_init)))
    (i_Arrival_init : PySem.W.isFn K (.ref f_Arrival_init) = true)
    (l_Arrival_init : K.lookup f_Arrival_init = some ⟨oc_Arrival_init, od_Arrival_init, .func (PySem.W.fnOf "__init__" "Arrival.__init__" (defArgs s_Arrival___init) (defBody s_Arrival___init) (defScope s_Arrival___init) .none kV_Arrival_init dc_Arrival_init pm_Arrival_init an_Arrival_init cd_Arrival_init ct_Arrival_init), sl_Arrival_init⟩)
    (c_Arrival_init : PySem.W.codeIn K cd_Arrival_init "Arrival.__init__" = true)
    (k_Arrival_init : PySem.W.keepIn K (.ref f_Arrival_init) = true)
    {f_Arrival_line : Addr} {od_Arrival_line an_Arrival_line : Option Addr} {sl_Arrival_line : Array (Option Value)} {oc_Arrival_line kV_Arrival_line dc_Arrival_line pm_Arrival_line ct_Arrival_line cd_Arrival_line : Value}
    (a_Arrival_line : PySem.W.findIn K (.ref CArrival) "line" = some (some (.ref f_Arrival_line)))
    (i_Arrival_line : PySem.W.isFn K (.ref f_Arrival_line) = true)
    (l_Arrival_line : K.lookup f_Arrival_line = some ⟨oc_Arrival_line, od_Arrival_line, .func (PySem.W.fnOf "line" "Arrival.line" (defArgs s_Arrival_line) (defBody s_Arrival_line) (defScope s_Arrival_line) .none kV_Arrival_line dc_Arrival_line pm_Arrival_line an_Arrival_line cd_Arrival_line ct_Arrival_line), sl_Arrival_line⟩)
    (c_Arrival_line : PySem.W.codeIn K cd_Arrival_line "Arrival.line" = true)
    (k_Arrival_line : PySem.W.keepIn K (.ref f_Arrival_line) = true)
    {CTimetable : Addr}
    (gTimetable : PySem.W.nsIn K mainGlobals "Timetable" = some (some (.ref CTimetable)))
    (pgTimetable : PySem.W.plainGet K CTimetable Str.empty = true)
    (hdTimetable : PySem.W.hasDictIn K CTimetable = true)
    (poTimetable : PySem.W.plainOver K CTimetable = true)
    (saTimetable : PySem.W.findIn K (.ref CTimetable) "__setattr__" = some (some (.builtin "object.__setattr__")))
    (mkTimetable : PySem.W.makesIn K CTimetable = true)
    (kpTimetable : PySem.W.keepIn K (.ref CTimetable) = true)
    (nTimetable_network : PySem.W.findIn K (.ref CTimetable) "network" = some none)
    (nTimetable_next_passenger : PySem.W.findIn K (.ref CTimetable) "next_passenger" = some none)
    (nTimetable_waiting : PySem.W.findIn K (.ref CTimetable) "waiting" = some none)
    (nTimetable_lengths : PySem.W.findIn K (.ref CTimetable) "lengths" = some none)
    (nTimetable_feeders : PySem.W.findIn K (.ref CTimetable) "feeders" = some none)
    (nTimetable_known_boats : PySem.W.findIn K (.ref CTimetable) "known_boats" = some none)
    {f_Timetable_init : Addr} {od_Timetable_init an_Timetable_init : Option Addr} {sl_Timetable_init : Array (Option Value)} {oc_Timetable_init kV_Timetable_init dc_Timetable_init pm_Timetable_init ct_Timetable_init cd_Timetable_init : Value}
    (a_Timetable_init : PySem.W.findIn K (.ref CTimetable) "__init__" = some (some (.ref f_Timetable_init)))
    (i_Timetable_init : PySem.W.isFn K (.ref f_Timetable_init) = true)
    (l_Timetable_init : K.lookup f_Timetable_init = some ⟨oc_Timetable_init, od_Timetable_init, .func (PySem.W.fnOf "__init__" "Timetable.__init__" (defArgs s_Timetable___init) (defBody s_Timetable___init) (defScope s_Timetable___init) .none kV_Timetable_init dc_Timetable_init pm_Timetable_init an_Timetable_init cd_Timetable_init ct_Timetable_init), sl_Timetable_init⟩)
    (c_Timetable_init : PySem.W.codeIn K cd_Timetable_init "Timetable.__init__" = true)
    (k_Timetable_init : PySem.W.keepIn K (.ref f_Timetable_init) = true)
    {f_Timetable_boats_by : Addr} {od_Timetable_boats_by an_Timetable_boats_by : Option Addr} {sl_Timetable_boats_by : Array (Option Value)} {oc_Timetable_boats_by kV_Timetable_boats_by dc_Timetable_boats_by pm_Timetable_boats_by ct_Timetable_boats_by cd_Timetable_boats_by : Value}
    (a_Timetable_boats_by : PySem.W.findIn K (.ref CTimetable) "boats_by" = some (some (.ref f_Timetable_boats_by)))
    (i_Timetable_boats_by : PySem.W.isFn K (.ref f_Timetable_boats_by) = true)
    (l_Timetable_boats_by : K.lookup f_Timetable_boats_by = some ⟨oc_Timetable_boats_by, od_Timetable_boats_by, .func (PySem.W.fnOf "boats_by" "Timetable.boats_by" (defArgs s_Timetable_boats_by) (defBody s_Timetable_boats_by) (defScope s_Timetable_boats_by) .none kV_Timetable_boats_by dc_Timetable_boats_by pm_Timetable_boats_by an_Timetable_boats_by cd_Timetable_boats_by ct_Timetable_boats_by), sl_Timetable_boats_by⟩)
    (c_Timetable_boats_by : PySem.W.codeIn K cd_Timetable_boats_by "Timetable.boats_by" = true)
    (k_Timetable_boats_by : PySem.W.keepIn K (.ref f_Timetable_boats_by) = true)
    {f_Timetable_joined_by : Addr} {od_Timetable_joined_by an_Timetable_joined_by : Option Addr} {sl_Timetable_joined_by : Array (Option Value)} {oc_Timetable_joined_by kV_Timetable_joined_by dc_Timetable_joined_by pm_Timetable_joined_by ct_Timetable_joined_by cd_Timetable_joined_by : Value}
    (a_Timetable_joined_by : PySem.W.findIn K (.ref CTimetable) "joined_by" = some (some (.ref f_Timetable_joined_by)))
    (i_Timetable_joined_by : PySem.W.isFn K (.ref f_Timetable_joined_by) = true)
    (l_Timetable_joined_by : K.lookup f_Timetable_joined_by = some ⟨oc_Timetable_joined_by, od_Timetable_joined_by, .func (PySem.W.fnOf "joined_by" "Timetable.joined_by" (defArgs s_Timetable_joined_by) (defBody s_Timetable_joined_by) (defScope s_Timetable_joined_by) .none kV_Timetable_joined_by dc_Timetable_joined_by pm_Timetable_joined_by an_Timetable_joined_by cd_Timetable_joined_by ct_Timetable_joined_by), sl_Timetable_joined_by⟩)
    (c_Timetable_joined_by : PySem.W.codeIn K cd_Timetable_joined_by "Timetable.joined_by" = true)
    (k_Timetable_joined_by : PySem.W.keepIn K (.ref f_Timetable_joined_by) = true)
    {f_Timetable_time_of : Addr} {od_Timetable_time_of an_Timetable_time_of : Option Addr} {sl_Timetable_time_of : Array (Option Value)} {oc_Timetable_time_of kV_Timetable_time_of dc_Timetable_time_of pm_Timetable_time_of ct_Timetable_time_of cd_Timetable_time_of : Value}
    (a_Timetable_time_of : PySem.W.findIn K (.ref CTimetable) "time_of" = some (some (.ref f_Timetable_time_of)))
    (i_Timetable_time_of : PySem.W.isFn K (.ref f_Timetable_time_of) = true)
    (l_Timetable_time_of : K.lookup f_Timetable_time_of = some ⟨oc_Timetable_time_of, od_Timetable_time_of, .func (PySem.W.fnOf "time_of" "Timetable.time_of" (defArgs s_Timetable_time_of) (defBody s_Timetable_time_of) (defScope s_Timetable_time_of) .none kV_Timetable_time_of dc_Timetable_time_of pm_Timetable_time_of an_Timetable_time_of cd_Timetable_time_of ct_Timetable_time_of), sl_Timetable_time_of⟩)
    (c_Timetable_time_of : PySem.W.codeIn K cd_Timetable_time_of "Timetable.time_of" = true)
    (k_Timetable_time_of : PySem.W.keepIn K (.ref f_Timetable_time_of) = true)
    {f_Timetable_first_number : Addr} {od_Timetable_first_number an_Timetable_first_number : Option Addr} {sl_Timetable_first_number : Array (Option Value)} {oc_Timetable_first_number kV_Timetable_first_number dc_Timetable_first_number pm_Timetable_first_number ct_Timetable_first_number cd_Timetable_first_number : Value}
    (a_Timetable_first_number : PySem.W.findIn K (.ref CTimetable) "first_number" = some (some (.ref f_Timetable_first_number)))
    (i_Timetable_first_number : PySem.W.isFn K (.ref f_Timetable_first_number) = true)
    (l_Timetable_first_number : K.lookup f_Timetable_first_number = some ⟨oc_Timetable_first_number, od_Timetable_first_number, .func (PySem.W.fnOf "first_number" "Timetable.first_number" (defArgs s_Timetable_first_number) (defBody s_Timetable_first_number) (defScope s_Timetable_first_number) .none kV_Timetable_first_number dc_Timetable_first_number pm_Timetable_first_number an_Timetable_first_number cd_Timetable_first_number ct_Timetable_first_number), sl_Timetable_first_number⟩)
    (c_Timetable_first_number : PySem.W.codeIn K cd_Timetable_first_number "Timetable.first_number" = true)
    (k_Timetable_first_number : PySem.W.keepIn K (.ref f_Timetable_first_number) = true)
    {f_Timetable_departure_time : Addr} {od_Timetable_departure_time an_Timetable_departure_time : Option Addr} {sl_Timetable_departure_time : Array (Option Value)} {oc_Timetable_departure_time kV_Timetable_departure_time dc_Timetable_departure_time pm_Timetable_departure_time ct_Timetable_departure_time cd_Timetable_departure_time : Value}
    (a_Timetable_departure_time : PySem.W.findIn K (.ref CTimetable) "departure_time" = some (some (.ref f_Timetable_departure_time)))
    (i_Timetable_departure_time : PySem.W.isFn K (.ref f_Timetable_departure_time) = true)
    (l_Timetable_departure_time : K.lookup f_Timetable_departure_time = some ⟨oc_Timetable_departure_time, od_Timetable_departure_time, .func (PySem.W.fnOf "departure_time" "Timetable.departure_time" (defArgs s_Timetable_departure_time) (defBody s_Timetable_departure_time) (defScope s_Timetable_departure_time) .none kV_Timetable_departure_time dc_Timetable_departure_time pm_Timetable_departure_time an_Timetable_departure_time cd_Timetable_departure_time ct_Timetable_departure_time), sl_Timetable_departure_time⟩)
    (c_Timetable_departure_time : PySem.W.codeIn K cd_Timetable_departure_time "Timetable.departure_time" = true)
    (k_Timetable_departure_time : PySem.W.keepIn K (.ref f_Timetable_departure_time) = true)
    {f_Timetable_labels : Addr} {od_Timetable_labels an_Timetable_labels : Option Addr} {sl_Timetable_labels : Array (Option Value)} {oc_Timetable_labels kV_Timetable_labels dc_Timetable_labels pm_Timetable_labels ct_Timetable_labels cd_Timetable_labels : Value}
    (a_Timetable_labels : PySem.W.findIn K (.ref CTimetable) "labels" = some (some (.ref f_Timetable_labels)))
    (i_Timetable_labels : PySem.W.isFn K (.ref f_Timetable_labels) = true)
    (l_Timetable_labels : K.lookup f_Timetable_labels = some ⟨oc_Timetable_labels, od_Timetable_labels, .func (PySem.W.fnOf "labels" "Timetable.labels" (defArgs s_Timetable_labels) (defBody s_Timetable_labels) (defScope s_Timetable_labels) .none kV_Timetable_labels dc_Timetable_labels pm_Timetable_labels an_Timetable_labels cd_Timetable_labels ct_Timetable_labels), sl_Timetable_labels⟩)
    (c_Timetable_labels : PySem.W.codeIn K cd_Timetable_labels "Timetable.labels" = true)
    (k_Timetable_labels : PySem.W.keepIn K (.ref f_Timetable_labels) = true)
    {f_Timetable_arrival_at : Addr} {od_Timetable_arrival_at an_Timetable_arrival_at : Option Addr} {sl_Timetable_arrival_at : Array (Option Value)} {oc_Timetable_arrival_at kV_Timetable_arrival_at dc_Timetable_arrival_at pm_Timetable_arrival_at ct_Timetable_arrival_at cd_Timetable_arrival_at : Value}
    (a_Timetable_arrival_at : PySem.W.findIn K (.ref CTimetable) "arrival_at" = some (some (.ref f_Timetable_arrival_at)))
    (i_Timetable_arrival_at : PySem.W.isFn K (.ref f_Timetable_arrival_at) = true)
    (l_Timetable_arrival_at : K.lookup f_Timetable_arrival_at = some ⟨oc_Timetable_arrival_at, od_Timetable_arrival_at, .func (PySem.W.fnOf "arrival_at" "Timetable.arrival_at" (defArgs s_Timetable_arrival_at) (defBody s_Timetable_arrival_at) (defScope s_Timetable_arrival_at) .none kV_Timetable_arrival_at dc_Timetable_arrival_at pm_Timetable_arrival_at an_Timetable_arrival_at cd_Timetable_arrival_at ct_Timetable_arrival_at), sl_Timetable_arrival_at⟩)
    (c_Timetable_arrival_at : PySem.W.codeIn K cd_Timetable_arrival_at "Timetable.arrival_at" = true)
    (k_Timetable_arrival_at : PySem.W.keepIn K (.ref f_Timetable_arrival_at) = true)
    {f_Timetable_source : Addr} {od_Timetable_source an_Timetable_source : Option Addr} {sl_Timetable_source : Array (Option Value)} {oc_Timetable_source kV_Timetable_source dc_Timetable_source pm_Timetable_source ct_Timetable_source cd_Timetable_source : Value}
    (a_Timetable_source : PySem.W.findIn K (.ref CTimetable) "source" = some (some (.ref f_Timetable_source)))
    (i_Timetable_source : PySem.W.isFn K (.ref f_Timetable_source) = true)
    (l_Timetable_source : K.lookup f_Timetable_source = some ⟨oc_Timetable_source, od_Timetable_source, .func (PySem.W.fnOf "source" "Timetable.source" (defArgs s_Timetable_source) (defBody s_Timetable_source) (defScope s_Timetable_source) .none kV_Timetable_source dc_Timetable_source pm_Timetable_source an_Timetable_source cd_Timetable_source ct_Timetable_source), sl_Timetable_source⟩)
    (c_Timetable_source : PySem.W.codeIn K cd_Timetable_source "Timetable.source" = true)
    (k_Timetable_source : PySem.W.keepIn K (.ref f_Timetable_source) = true)
    {f_Timetable_passenger : Addr} {od_Timetable_passenger an_Timetable_passenger : Option Addr} {sl_Timetable_passenger : Array (Option Value)} {oc_Timetable_passenger kV_Timetable_passenger dc_Timetable_passenger pm_Timetable_passenger ct_Timetable_passenger cd_Timetable_passenger : Value}
    (a_Timetable_passenger : PySem.W.findIn K (.ref CTimetable) "passenger" = some (some (.ref f_Timetable_passenger)))
    (i_Timetable_passenger : PySem.W.isFn K (.ref f_Timetable_passenger) = true)
    (l_Timetable_passenger : K.lookup f_Timetable_passenger = some ⟨oc_Timetable_passenger, od_Timetable_passenger, .func (PySem.W.fnOf "passenger" "Timetable.passenger" (defArgs s_Timetable_passenger) (defBody s_Timetable_passenger) (defScope s_Timetable_passenger) .none kV_Timetable_passenger dc_Timetable_passenger pm_Timetable_passenger an_Timetable_passenger cd_Timetable_passenger ct_Timetable_passenger), sl_Timetable_passenger⟩)
    (c_Timetable_passenger : PySem.W.codeIn K cd_Timetable_passenger "Timetable.passenger" = true)
    (k_Timetable_passenger : PySem.W.keepIn K (.ref f_Timetable_passenger) = true)
    {f_Timetable_boat_passengers : Addr} {od_Timetable_boat_passengers an_Timetable_boat_passengers : Option Addr} {sl_Timetable_boat_passengers : Array (Option Value)} {oc_Timetable_boat_passengers kV_Timetable_boat_passengers dc_Timetable_boat_passengers pm_Timetable_boat_passengers ct_Timetable_boat_passengers cd_Timetable_boat_passengers : Value}
    (a_Timetable_boat_passengers : PySem.W.findIn K (.ref CTimetable) "boat_passengers" = some (some (.ref f_Timetable_boat_passengers)))
    (i_Timetable_boat_passengers : PySem.W.isFn K (.ref f_Timetable_boat_passengers) = true)
    (l_Timetable_boat_passengers : K.lookup f_Timetable_boat_passengers = some ⟨oc_Timetable_boat_passengers, od_Timetable_boat_passengers, .func (PySem.W.fnOf "boat_passengers" "Timetable.boat_passengers" (defArgs s_Timetable_boat_passengers) (defBody s_Timetable_boat_passengers) (defScope s_Timetable_boat_passengers) .none kV_Timetable_boat_passengers dc_Timetable_boat_passengers pm_Timetable_boat_passengers an_Timetable_boat_passengers cd_Timetable_boat_passengers ct_Timetable_boat_passengers), sl_Timetable_boat_passengers⟩)
    (c_Timetable_boat_passengers : PySem.W.codeIn K cd_Timetable_boat_passengers "Timetable.boat_passengers" = true)
    (k_Timetable_boat_passengers : PySem.W.keepIn K (.ref f_Timetable_boat_passengers) = true)
    {t0 : Nat}
    (m0 : PySem.W.nsIn K mainGlobals "MAX_COUNT" = some (some (.int 1000000000000000000 t0)))
    {t1 : Nat}
    (m1 : PySem.W.nsIn K mainGlobals "MAX_STATIONS" = some (some (.int 40 t1)))
    {t2 : Nat}
    (m2 : PySem.W.nsIn K mainGlobals "MAX_SEATS" = some (some (.int 8 t2)))
    {t3 : Nat}
    (m3 : PySem.W.nsIn K mainGlobals "MAX_LETTERS" = some (some (.int 8 t3)))
    (z0 : PySem.W.nsIn K mainGlobals "range" = some none)
    (z1 : PySem.W.nsIn K mainGlobals "tuple" = some none)
    (z2 : PySem.W.nsIn K mainGlobals "min" = some none)
    (z3 : PySem.W.nsIn K mainGlobals "isinstance" = some none)
    (z4 : PySem.W.nsIn K mainGlobals "str" = some none)
    (z5 : PySem.W.nsIn K mainGlobals "dict" = some none)
    (z6 : PySem.W.nsIn K mainGlobals "bool" = some none)
    (z7 : PySem.W.nsIn K mainGlobals "sorted" = some none)
    (z8 : PySem.W.nsIn K mainGlobals "set" = some none)
    (z9 : PySem.W.nsIn K mainGlobals "enumerate" = some none)
    (z10 : PySem.W.nsIn K mainGlobals "all" = some none)
    (z11 : PySem.W.nsIn K mainGlobals "len" = some none)
    (z12 : PySem.W.nsIn K mainGlobals "list" = some none)
    (z13 : PySem.W.nsIn K mainGlobals "int" = some none)
    (z14 : PySem.W.nsIn K mainGlobals "max" = some none)
    (z15 : PySem.W.nsIn K mainGlobals "sum" = some none)
    (z16 : PySem.W.nsIn K mainGlobals "zip" = some none)
    (z17 : PySem.W.nsIn K mainGlobals "abs" = some none)
    (z18 : PySem.W.nsIn K mainGlobals "reversed" = some none)
    (z19 : PySem.W.nsIn K mainGlobals "any" = some none)
    : ∃ fd : FuncData, (∀ (s : Shared) (v : Value), BindsTo s fd ⟨[v], []⟩ [("_law_script", v)]) ∧ ∀ base : Heap, K.In base → base.Ns mainGlobals mg → FnOk l.prog w K mg base CX0 25 fa fd ["_law_script"] (spLaw K) := by
  have e := hfa.symm.trans (PySem.W.mg_of X G a28)
  cases e
  have F0 := fun_mk (st := s_check_count) l0 c0 k0
  have D_check_count : Df K mg "check_count" s_check_count ["count", "least", "most"] f0 _ := ⟨F0, PySem.W.mg_of X G a0, F0.binds (ps := ["count", "least", "most"]) fun _ _ _ _ _ _ us hl => match us, hl with | [_, _, _], _ => rfl⟩
  have F1 := fun_mk (st := s_check_station) l1 c1 k1
  have D_check_station : Df K mg "check_station" s_check_station ["network", "station"] f1 _ := ⟨F1, PySem.W.mg_of X G a1, F1.binds (ps := ["network", "station"]) fun _ _ _ _ _ _ us hl => match us, hl with | [_, _], _ => rfl⟩
  have F2 := fun_mk (st := s_is_letters) l2 c2 k2
  have D_is_letters : Df K mg "is_letters" s_is_letters ["text"] f2 _ := ⟨F2, PySem.W.mg_of X G a2, F2.binds (ps := ["text"]) fun _ _ _ _ _ _ us hl => match us, hl with | [_], _ => rfl⟩
  have F3 := fun_mk (st := s_is_word) l3 c3 k3
  have D_is_word : Df K mg "is_word" s_is_word ["text"] f3 _ := ⟨F3, PySem.W.mg_of X G a3, F3.binds (ps := ["text"]) fun _ _ _ _ _ _ us hl => match us, hl with | [_], _ => rfl⟩
  have F4 := fun_mk (st := s_is_place) l4 c4 k4
  have D_is_place : Df K mg "is_place" s_is_place ["place", "station", "stations"] f4 _ := ⟨F4, PySem.W.mg_of X G a4, F4.binds (ps := ["place", "station", "stations"]) fun _ _ _ _ _ _ us hl => match us, hl with | [_, _, _], _ => rfl⟩
  have F5 := fun_mk (st := s_check_network) l5 c5 k5
  have D_check_network : Df K mg "check_network" s_check_network ["network"] f5 _ := ⟨F5, PySem.W.mg_of X G a5, F5.binds (ps := ["network"]) fun _ _ _ _ _ _ us hl => match us, hl with | [_], _ => rfl⟩
  have F6 := fun_mk (st := s_reachable_stations) l6 c6 k6
  have D_reachable_stations : Df K mg "reachable_stations" s_reachable_stations ["network"] f6 _ := ⟨F6, PySem.W.mg_of X G a6, F6.binds (ps := ["network"]) fun _ _ _ _ _ _ us hl => match us, hl with | [_], _ => rfl⟩
  have F7 := fun_mk (st := s_ports) l7 c7 k7
  have D_ports : Df K mg "ports" s_ports ["network"] f7 _ := ⟨F7, PySem.W.mg_of X G a7, F7.binds (ps := ["network"]) fun _ _ _ _ _ _ us hl => match us, hl with | [_], _ => rfl⟩
  have F8 := fun_mk (st := s_check_state) l8 c8 k8
  have D_check_state : Df K mg "check_state" s_check_state ["network", "state"] f8 _ := ⟨F8, PySem.W.mg_of X G a8, F8.binds (ps := ["network", "state"]) fun _ _ _ _ _ _ us hl => match us, hl with | [_, _], _ => rfl⟩
  have F9 := fun_mk (st := s_check_passengers) l9 c9 k9
  have D_check_passengers : Df K mg "check_passengers" s_check_passengers ["next_passenger", "queues"] f9 _ := ⟨F9, PySem.W.mg_of X G a9, F9.binds (ps := ["next_passenger", "queues"]) fun _ _ _ _ _ _ us hl => match us, hl with | [_, _], _ => rfl⟩
  have F10 := fun_mk (st := s_queue_lengths) l10 c10 k10
  have D_queue_lengths : Df K mg "queue_lengths" s_queue_lengths ["state"] f10 _ := ⟨F10, PySem.W.mg_of X G a10, F10.binds (ps := ["state"]) fun _ _ _ _ _ _ us hl => match us, hl with | [_], _ => rfl⟩
  have F11 := fun_mk (st := s_join_queue) l11 c11 k11
  have D_join_queue : Df K mg "join_queue" s_join_queue ["network", "queues", "station", "passenger", "events"] f11 _ := ⟨F11, PySem.W.mg_of X G a11, F11.binds (ps := ["network", "queues", "station", "passenger", "events"]) fun _ _ _ _ _ _ us hl => match us, hl with | [_, _, _, _, _], _ => rfl⟩
  have F12 := fun_mk (st := s_depart) l12 c12 k12
  have D_depart : Df K mg "depart" s_depart ["network", "queues", "station", "events"] f12 _ := ⟨F12, PySem.W.mg_of X G a12, F12.binds (ps := ["network", "queues", "station", "events"]) fun _ _ _ _ _ _ us hl => match us, hl with | [_, _, _, _], _ => rfl⟩
  have F13 := fun_mk (st := s_find_feeders) l13 c13 k13
  have D_find_feeders : Df K mg "find_feeders" s_find_feeders ["network"] f13 _ := ⟨F13, PySem.W.mg_of X G a13, F13.binds (ps := ["network"]) fun _ _ _ _ _ _ us hl => match us, hl with | [_], _ => rfl⟩
  have F14 := fun_mk (st := s_count_brought) l14 c14 k14
  have D_count_brought : Df K mg "count_brought" s_count_brought ["sources", "boats"] f14 _ := ⟨F14, PySem.W.mg_of X G a14, F14.binds (ps := ["sources", "boats"]) fun _ _ _ _ _ _ us hl => match us, hl with | [_, _], _ => rfl⟩
  have F15 := fun_mk (st := s_count_departures) l15 c15 k15
  have D_count_departures : Df K mg "count_departures" s_count_departures ["network", "feeders", "lengths", "arrivals"] f15 _ := ⟨F15, PySem.W.mg_of X G a15, F15.binds (ps := ["network", "feeders", "lengths", "arrivals"]) fun _ _ _ _ _ _ us hl => match us, hl with | [_, _, _, _], _ => rfl⟩
  have F16 := fun_mk (st := s_boat) l16 c16 k16
  have D_boat : Df K mg "boat" s_boat ["network", "state", "station", "number"] f16 _ := ⟨F16, PySem.W.mg_of X G a16, F16.binds (ps := ["network", "state", "station", "number"]) fun _ _ _ _ _ _ us hl => match us, hl with | [_, _, _, _], _ => rfl⟩
  have F17 := fun_mk (st := s_finisher) l17 c17 k17
  have D_finisher : Df K mg "finisher" s_finisher ["network", "state", "port", "number"] f17 _ := ⟨F17, PySem.W.mg_of X G a17, F17.binds (ps := ["network", "state", "port", "number"]) fun _ _ _ _ _ _ us hl => match us, hl with | [_, _, _, _], _ => rfl⟩
  have F18 := fun_mk (st := s_l_mix) l18 c18 k18
  have D_l_mix : Df K mg "_law_mix" s_l_mix ["_law_script", "_law_seed"] f18 _ := ⟨F18, PySem.W.mg_of X G a18, F18.binds (ps := ["_law_script", "_law_seed"]) fun _ _ _ _ _ _ us hl => match us, hl with | [_, _], _ => rfl⟩
  have F19 := fun_mk (st := s_l_next) l19 c19 k19
  have D_l_next : Df K mg "_law_next" s_l_next ["_law_h", "_law_limit"] f19 _ := ⟨F19, PySem.W.mg_of X G a19, F19.binds (ps := ["_law_h", "_law_limit"]) fun _ _ _ _ _ _ us hl => match us, hl with | [_, _], _ => rfl⟩
  have F20 := fun_mk (st := s_l_alike) l20 c20 k20
  have D_l_alike : Df K mg "_law_alike" s_l_alike ["_law_found", "_law_due"] f20 _ := ⟨F20, PySem.W.mg_of X G a20, F20.binds (ps := ["_law_found", "_law_due"]) fun _ _ _ _ _ _ us hl => match us, hl with | [_, _], _ => rfl⟩
  have F21 := fun_mk (st := s_l_place) l21 c21 k21
  have D_l_place : Df K mg "_law_place" s_l_place ["_law_h", "_law_station", "_law_count"] f21 _ := ⟨F21, PySem.W.mg_of X G a21, F21.binds (ps := ["_law_h", "_law_station", "_law_count"]) fun _ _ _ _ _ _ us hl => match us, hl with | [_, _, _], _ => rfl⟩
  have F22 := fun_mk (st := s_l_network) l22 c22 k22
  have D_l_network : Df K mg "_law_network" s_l_network ["_law_h", "_law_most"] f22 _ := ⟨F22, PySem.W.mg_of X G a22, F22.binds (ps := ["_law_h", "_law_most"]) fun _ _ _ _ _ _ us hl => match us, hl with | [_, _], _ => rfl⟩
  have F23 := fun_mk (st := s_l_join) l23 c23 k23
  have D_l_join : Df K mg "_law_join" s_l_join ["_law_network_here", "_law_queues", "_law_station", "_law_passenger", "_law_finished"] f23 _ := ⟨F23, PySem.W.mg_of X G a23, F23.binds (ps := ["_law_network_here", "_law_queues", "_law_station", "_law_passenger", "_law_finished"]) fun _ _ _ _ _ _ us hl => match us, hl with | [_, _, _, _, _], _ => rfl⟩
  have F24 := fun_mk (st := s_l_depart) l24 c24 k24
  have D_l_depart : Df K mg "_law_depart" s_l_depart ["_law_network_here", "_law_queues", "_law_station", "_law_finished"] f24 _ := ⟨F24, PySem.W.mg_of X G a24, F24.binds (ps := ["_law_network_here", "_law_queues", "_law_station", "_law_finished"]) fun _ _ _ _ _ _ us hl => match us, hl with | [_, _, _, _], _ => rfl⟩
  have F25 := fun_mk (st := s_l_state) l25 c25 k25
  have D_l_state : Df K mg "_law_state" s_l_state ["_law_h", "_law_network_here", "_law_most"] f25 _ := ⟨F25, PySem.W.mg_of X G a25, F25.binds (ps := ["_law_h", "_law_network_here", "_law_most"]) fun _ _ _ _ _ _ us hl => match us, hl with | [_, _, _], _ => rfl⟩
  have F26 := fun_mk (st := s_l_enter) l26 c26 k26
  have D_l_enter : Df K mg "_law_enter" s_l_enter ["_law_network_here", "_law_w", "_law_station", "_law_passenger"] f26 _ := ⟨F26, PySem.W.mg_of X G a26, F26.binds (ps := ["_law_network_here", "_law_w", "_law_station", "_law_passenger"]) fun _ _ _ _ _ _ us hl => match us, hl with | [_, _, _, _], _ => rfl⟩
  have F27 := fun_mk (st := s_l_log) l27 c27 k27
  have D_l_log : Df K mg "_law_log" s_l_log ["_law_network_here", "_law_state_here", "_law_count"] f27 _ := ⟨F27, PySem.W.mg_of X G a27, F27.binds (ps := ["_law_network_here", "_law_state_here", "_law_count"]) fun _ _ _ _ _ _ us hl => match us, hl with | [_, _, _], _ => rfl⟩
  have F28 := fun_mk (st := s_law) l28 c28 k28
  have clsArrival : Cls K CArrival := ⟨pgArrival, hdArrival, poArrival, saArrival⟩
  have FArrival : AF K CArrival := ⟨clsArrival, nArrival_events, nArrival_queues⟩
  have F_Arrival_init := fun_mk (st := s_Arrival___init) l_Arrival_init c_Arrival_init k_Arrival_init
  have b_Arrival_init := F_Arrival_init.binds (ps := ["self", "network", "queues", "newcomer"]) fun _ _ _ _ _ _ us hl => match us, hl with | [_, _, _, _], _ => rfl
  have C_Arrival : Cf K mg "Arrival" "Arrival.__init__" CArrival s_Arrival___init ["self", "network", "queues", "newcomer"] f_Arrival_init _ := ⟨F_Arrival_init, ⟨mkArrival, a_Arrival_init, i_Arrival_init, kpArrival⟩, PySem.W.mg_of X G gArrival, b_Arrival_init, clsArrival⟩
  have F_Arrival_line := fun_mk (st := s_Arrival_line) l_Arrival_line c_Arrival_line k_Arrival_line
  have b_Arrival_line := F_Arrival_line.binds (ps := ["self", "place"]) fun _ _ _ _ _ _ us hl => match us, hl with | [_, _], _ => rfl
  have M_line : Mf K CArrival "line" "Arrival.line" s_Arrival_line ["self", "place"] f_Arrival_line _ := ⟨F_Arrival_line, ⟨a_Arrival_line, i_Arrival_line, k_Arrival_line⟩, b_Arrival_line⟩
  have clsTimetable : Cls K CTimetable := ⟨pgTimetable, hdTimetable, poTimetable, saTimetable⟩
  have FTimetable : TF K CTimetable := ⟨clsTimetable, nTimetable_network, nTimetable_next_passenger, nTimetable_waiting, nTimetable_lengths, nTimetable_feeders, nTimetable_known_boats⟩
  have F_Timetable_init := fun_mk (st := s_Timetable___init) l_Timetable_init c_Timetable_init k_Timetable_init
  have b_Timetable_init := F_Timetable_init.binds (ps := ["self", "network", "state"]) fun _ _ _ _ _ _ us hl => match us, hl with | [_, _, _], _ => rfl
  have C_Timetable : Cf K mg "Timetable" "Timetable.__init__" CTimetable s_Timetable___init ["self", "network", "state"] f_Timetable_init _ := ⟨F_Timetable_init, ⟨mkTimetable, a_Timetable_init, i_Timetable_init, kpTimetable⟩, PySem.W.mg_of X G gTimetable, b_Timetable_init, clsTimetable⟩
  have F_Timetable_boats_by := fun_mk (st := s_Timetable_boats_by) l_Timetable_boats_by c_Timetable_boats_by k_Timetable_boats_by
  have b_Timetable_boats_by := F_Timetable_boats_by.binds (ps := ["self", "time"]) fun _ _ _ _ _ _ us hl => match us, hl with | [_, _], _ => rfl
  have M_boats_by : Mf K CTimetable "boats_by" "Timetable.boats_by" s_Timetable_boats_by ["self", "time"] f_Timetable_boats_by _ := ⟨F_Timetable_boats_by, ⟨a_Timetable_boats_by, i_Timetable_boats_by, k_Timetable_boats_by⟩, b_Timetable_boats_by⟩
  have F_Timetable_joined_by := fun_mk (st := s_Timetable_joined_by) l_Timetable_joined_by c_Timetable_joined_by k_Timetable_joined_by
  have b_Timetable_joined_by := F_Timetable_joined_by.binds (ps := ["self", "place", "time"]) fun _ _ _ _ _ _ us hl => match us, hl with | [_, _, _], _ => rfl
  have M_joined_by : Mf K CTimetable "joined_by" "Timetable.joined_by" s_Timetable_joined_by ["self", "place", "time"] f_Timetable_joined_by _ := ⟨F_Timetable_joined_by, ⟨a_Timetable_joined_by, i_Timetable_joined_by, k_Timetable_joined_by⟩, b_Timetable_joined_by⟩
  have F_Timetable_time_of := fun_mk (st := s_Timetable_time_of) l_Timetable_time_of c_Timetable_time_of k_Timetable_time_of
  have b_Timetable_time_of := F_Timetable_time_of.binds (ps := ["self", "place", "number"]) fun _ _ _ _ _ _ us hl => match us, hl with | [_, _, _], _ => rfl
  have M_time_of : Mf K CTimetable "time_of" "Timetable.time_of" s_Timetable_time_of ["self", "place", "number"] f_Timetable_time_of _ := ⟨F_Timetable_time_of, ⟨a_Timetable_time_of, i_Timetable_time_of, k_Timetable_time_of⟩, b_Timetable_time_of⟩
  have F_Timetable_first_number := fun_mk (st := s_Timetable_first_number) l_Timetable_first_number c_Timetable_first_number k_Timetable_first_number
  have b_Timetable_first_number := F_Timetable_first_number.binds (ps := ["self", "station", "boat_number"]) fun _ _ _ _ _ _ us hl => match us, hl with | [_, _, _], _ => rfl
  have M_first_number : Mf K CTimetable "first_number" "Timetable.first_number" s_Timetable_first_number ["self", "station", "boat_number"] f_Timetable_first_number _ := ⟨F_Timetable_first_number, ⟨a_Timetable_first_number, i_Timetable_first_number, k_Timetable_first_number⟩, b_Timetable_first_number⟩
  have F_Timetable_departure_time := fun_mk (st := s_Timetable_departure_time) l_Timetable_departure_time c_Timetable_departure_time k_Timetable_departure_time
  have b_Timetable_departure_time := F_Timetable_departure_time.binds (ps := ["self", "station", "boat_number"]) fun _ _ _ _ _ _ us hl => match us, hl with | [_, _, _], _ => rfl
  have M_departure_time : Mf K CTimetable "departure_time" "Timetable.departure_time" s_Timetable_departure_time ["self", "station", "boat_number"] f_Timetable_departure_time _ := ⟨F_Timetable_departure_time, ⟨a_Timetable_departure_time, i_Timetable_departure_time, k_Timetable_departure_time⟩, b_Timetable_departure_time⟩
  have F_Timetable_labels := fun_mk (st := s_Timetable_labels) l_Timetable_labels c_Timetable_labels k_Timetable_labels
  have b_Timetable_labels := F_Timetable_labels.binds (ps := ["self", "station", "time"]) fun _ _ _ _ _ _ us hl => match us, hl with | [_, _, _], _ => rfl
  have M_labels : Mf K CTimetable "labels" "Timetable.labels" s_Timetable_labels ["self", "station", "time"] f_Timetable_labels _ := ⟨F_Timetable_labels, ⟨a_Timetable_labels, i_Timetable_labels, k_Timetable_labels⟩, b_Timetable_labels⟩
  have F_Timetable_arrival_at := fun_mk (st := s_Timetable_arrival_at) l_Timetable_arrival_at c_Timetable_arrival_at k_Timetable_arrival_at
  have b_Timetable_arrival_at := F_Timetable_arrival_at.binds (ps := ["self", "time"]) fun _ _ _ _ _ _ us hl => match us, hl with | [_, _], _ => rfl
  have M_arrival_at : Mf K CTimetable "arrival_at" "Timetable.arrival_at" s_Timetable_arrival_at ["self", "time"] f_Timetable_arrival_at _ := ⟨F_Timetable_arrival_at, ⟨a_Timetable_arrival_at, i_Timetable_arrival_at, k_Timetable_arrival_at⟩, b_Timetable_arrival_at⟩
  have F_Timetable_source := fun_mk (st := s_Timetable_source) l_Timetable_source c_Timetable_source k_Timetable_source
  have b_Timetable_source := F_Timetable_source.binds (ps := ["self", "place", "number"]) fun _ _ _ _ _ _ us hl => match us, hl with | [_, _, _], _ => rfl
  have M_source : Mf K CTimetable "source" "Timetable.source" s_Timetable_source ["self", "place", "number"] f_Timetable_source _ := ⟨F_Timetable_source, ⟨a_Timetable_source, i_Timetable_source, k_Timetable_source⟩, b_Timetable_source⟩
  have F_Timetable_passenger := fun_mk (st := s_Timetable_passenger) l_Timetable_passenger c_Timetable_passenger k_Timetable_passenger
  have b_Timetable_passenger := F_Timetable_passenger.binds (ps := ["self", "place", "number"]) fun _ _ _ _ _ _ us hl => match us, hl with | [_, _, _], _ => rfl
  have M_passenger : Mf K CTimetable "passenger" "Timetable.passenger" s_Timetable_passenger ["self", "place", "number"] f_Timetable_passenger _ := ⟨F_Timetable_passenger, ⟨a_Timetable_passenger, i_Timetable_passenger, k_Timetable_passenger⟩, b_Timetable_passenger⟩
  have F_Timetable_boat_passengers := fun_mk (st := s_Timetable_boat_passengers) l_Timetable_boat_passengers c_Timetable_boat_passengers k_Timetable_boat_passengers
  have b_Timetable_boat_passengers := F_Timetable_boat_passengers.binds (ps := ["self", "station", "boat_number"]) fun _ _ _ _ _ _ us hl => match us, hl with | [_, _, _], _ => rfl
  have M_boat_passengers : Mf K CTimetable "boat_passengers" "Timetable.boat_passengers" s_Timetable_boat_passengers ["self", "station", "boat_number"] f_Timetable_boat_passengers _ := ⟨F_Timetable_boat_passengers, ⟨a_Timetable_boat_passengers, i_Timetable_boat_passengers, k_Timetable_boat_passengers⟩, b_Timetable_boat_passengers⟩
  have g_MAX_COUNT : ∃ t, mg "MAX_COUNT" = some (.int 1000000000000000000 t) := ⟨_, PySem.W.mg_of X G m0⟩
  have g_MAX_STATIONS : ∃ t, mg "MAX_STATIONS" = some (.int 40 t) := ⟨_, PySem.W.mg_of X G m1⟩
  have g_MAX_SEATS : ∃ t, mg "MAX_SEATS" = some (.int 8 t) := ⟨_, PySem.W.mg_of X G m2⟩
  have g_MAX_LETTERS : ∃ t, mg "MAX_LETTERS" = some (.int 8 t) := ⟨_, PySem.W.mg_of X G m3⟩
  have T : Bt mg := ⟨PySem.W.mg_none_of X G z0, PySem.W.mg_none_of X G z1, PySem.W.mg_none_of X G z2, PySem.W.mg_none_of X G z3, PySem.W.mg_none_of X G z4, PySem.W.mg_none_of X G z5, PySem.W.mg_none_of X G z6, PySem.W.mg_none_of X G z7, PySem.W.mg_none_of X G z8, PySem.W.mg_none_of X G z9, PySem.W.mg_none_of X G z10, PySem.W.mg_none_of X G z11, PySem.W.mg_none_of X G z12, PySem.W.mg_none_of X G z13, PySem.W.mg_none_of X G z14, PySem.W.mg_none_of X G z15, PySem.W.mg_none_of X G z16, PySem.W.mg_none_of X G z17, PySem.W.mg_none_of X G z18, PySem.W.mg_none_of X G z19⟩
  refine ⟨PySem.W.fnOf "law" "law" (defArgs s_law) (defBody s_law) (defScope s_law) .none kV28 dc28 pm28 an28 cd28 ct28, fun s v => .of_eq rfl, fun base _ _ => ?_⟩
  have F_law := F28
  have Ck : Ct K mg := ⟨g_MAX_LETTERS, g_MAX_SEATS, g_MAX_STATIONS, ⟨_, _, D_is_letters⟩⟩
  have Cm0 : Cm mg := ⟨g_MAX_COUNT⟩
  have G_reach : FnOk l.prog w K mg base CX0 5 _ _ ["network"] (spReach K) := ok_reach_good D_reachable_stations rfl kd_reachable_stations T Ck D_check_network D_is_word D_is_place
  have G_ports : FnOk l.prog w K mg base CX0 6 _ _ ["network"] (spPorts K) := ok_ports_good D_ports T D_reachable_stations G_reach
  have G_state : FnOk l.prog w K mg base CX0 5 _ _ ["network", "state"] (spState K) := ok_check_state D_check_state T Ck D_check_network D_check_passengers D_is_word D_is_place
  have G_dep : FnOk l.prog w K mg base CX0 2 _ _ ["network", "feeders", "lengths", "arrivals"] (spDep K) := ok_count_departures D_count_departures T D_count_brought
  have G_by : FnOk l.prog w K mg base CX0 3 _ _ ["self", "time"] (spBy K CTimetable) := ok_boats_by M_boats_by FTimetable D_count_departures G_dep
  have G_jd : FnOk l.prog w K mg base CX0 4 _ _ ["self", "place", "time"] (spJd K CTimetable) := ok_joined_by M_joined_by T FTimetable M_boats_by G_by D_count_brought
  have G_tm : FnOk l.prog w K mg base CX0 5 _ _ ["self", "place", "number"] (spTime K CTimetable) := ok_time_of M_time_of FTimetable M_joined_by G_jd
  have G_lab : FnOk l.prog w K mg base CX0 5 _ _ ["self", "station", "time"] (spLab K CTimetable) := ok_labels M_labels T FTimetable M_boats_by G_by M_joined_by G_jd M_first_number
  have G_at : FnOk l.prog w K mg base CX0 20 _ _ ["self", "time"] (spAt K CTimetable CArrival) := ok_arrival_at M_arrival_at T FTimetable FArrival M_labels G_lab C_Arrival D_join_queue D_depart
  have G_src : FnOk l.prog w K mg base CX0 21 _ _ ["self", "place", "number"] (spSrc K CTimetable) := ok_source M_source T FTimetable FArrival M_time_of G_tm M_arrival_at G_at M_line M_joined_by G_jd
  have G_srcP : FnOk l.prog w K mg base CX0 21 _ _ ["self", "place", "number"] (spSrcP K CTimetable) := ok_sourceP M_source T FTimetable FArrival M_time_of G_tm M_arrival_at G_at M_line M_joined_by G_jd
  have G_psg : FnOk l.prog w K mg base CX0 22 _ _ ["self", "place", "number"] (spPsg K CTimetable) := ok_passenger M_passenger T FTimetable M_source G_src
  have G_psgP : FnOk l.prog w K mg base CX0 22 _ _ ["self", "place", "number"] (spPsgPt K CTimetable) := ok_passengerP M_passenger T FTimetable M_source G_src G_srcP
  have G_tmi : FnOk l.prog w K mg base CX0 2 _ _ ["self", "network", "state"] (spTmI K CTimetable) := ok_Timetable_init C_Timetable T FTimetable D_queue_lengths D_find_feeders
  have G_dpt : FnOk l.prog w K mg base CX0 6 _ _ ["self", "station", "boat_number"] (spDpt K CTimetable) := ok_departure_time M_departure_time T FTimetable M_time_of G_tm M_first_number
  have G_btp : FnOk l.prog w K mg base CX0 23 _ _ ["self", "station", "boat_number"] (spBtP K CTimetable) := ok_boat_passengers M_boat_passengers T FTimetable M_passenger G_psg M_first_number
  have G_boat : FnOk l.prog w K mg base CX0 24 _ _ ["network", "state", "station", "number"] (spBoatG K) := ok_boat D_boat T FTimetable Cm0 D_check_state G_state D_check_count D_check_station D_reachable_stations G_reach C_Timetable G_tmi M_departure_time G_dpt M_boat_passengers G_btp
  have G_finr : FnOk l.prog w K mg base CX0 23 _ _ ["network", "state", "port", "number"] (spFinr K) := ok_finisher D_finisher T FTimetable Cm0 D_check_state G_state D_check_count D_ports G_ports C_Timetable G_tmi M_time_of G_tm M_passenger G_psgP
  have G_finrN : FnOk l.prog w K mg base CX0 23 _ _ ["network", "state", "port", "number"] (spFinN K) := ok_finisherN D_finisher T FTimetable Cm0 D_check_state G_state D_check_count D_ports G_ports C_Timetable G_tmi M_time_of G_tm M_passenger G_psgP
  exact ok_law F_law T D_l_mix D_l_next D_l_network (ok_l_network D_l_network T D_l_next D_l_place) D_l_state (ok_l_state D_l_state T D_l_next D_l_join D_l_depart) D_l_log (ok_l_log D_l_log T D_l_enter) D_l_alike D_finisher G_finr G_finrN D_boat G_boat
end K
open PySem PySem.W PyProof.Rows
set_option maxRecDepth 100000 in
set_option maxHeartbeats 0 in
theorem PySem.Challenge.cw_fullboats_k04_whole_boats_and_passengers_holds : PySem.Challenge.rw_fullboats_k04_whole_boats_and_passengers.Holds := by
  w_on; o_law; k_head; (case hw => w_witness2)
  k_fill
  refine L2.walk_of (l := PySem.Challenge.rw_fullboats_k04_whole_boats_and_passengers) (n := 63) (k := 25) (x := "_law_script") (CX := fun _ => L2.CX0) (sp := fun w => K.spLaw _) rfl (by decide) rfl ⟨rfl, by decide, by decide⟩ (fun w h Y => PySem.W.kIn_of Y) ?F (fun _ _ a ns hl _ hS => ⟨a, ns, rfl, hS, hl, fun _ => rfl⟩) (fun _ _ _ _ _ h => h)
  case F =>
    intro w mg fa h KX G hmg
    refine' K.all_mk KX G hmg ?a0 ?l0 ?c0 ?k0 ?a1 ?l1 ?c1 ?k1 ?a2 ?l2 ?c2 ?k2 ?a3 ?l3 ?c3 ?k3 ?a4 ?l4 ?c4 ?k4 ?a5 ?l5 ?c5 ?k5 ?a6 ?l6 ?c6 ?k6 ?kd_reachable_stations ?a7 ?l7 ?c7 ?k7 ?kd_ports ?a8 ?l8 ?c8 ?k8 ?a9 ?l9 ?c9 ?k9 ?a10 ?l10 ?c10 ?k10 ?a11 ?l11 ?c11 ?k11 ?a12 ?l12 ?c12 ?k12 ?a13 ?l13 ?c13 ?k13 ?a14 ?l14 ?c14 ?k14 ?a15 ?l15 ?c15 ?k15 ?a16 ?l16 ?c16 ?k16 ?a17 ?l17 ?c17 ?k17 ?a18 ?l18 ?c18 ?k18 ?a19 ?l19 ?c19 ?k19 ?a20 ?l20 ?c20 ?k20 ?a21 ?l21 ?c21 ?k21 ?a22 ?l22 ?c22 ?k22 ?a23 ?l23 ?c23 ?k23 ?a24 ?l24 ?c24 ?k24 ?a25 ?l25 ?c25 ?k25 ?a26 ?l26 ?c26 ?k26 ?a27 ?l27 ?c27 ?k27 ?a28 ?l28 ?c28 ?k28 ?gArrival ?pgArrival ?hdArrival ?poArrival ?saArrival ?mkArrival ?kpArrival ?nArrival_events ?nArrival_queues ?a_Arrival_init ?i_Arrival_init ?l_Arrival_init ?c_Arrival_init ?k_Arrival_init ?a_Arrival_line ?i_Arrival_line ?l_Arrival_line ?c_Arrival_line ?k_Arrival_line ?gTimetable ?pgTimetable ?hdTimetable ?poTimetable ?saTimetable ?mkTimetable ?kpTimetable ?nTimetable_network ?nTimetable_next_passenger ?nTimetable_waiting ?nTimetable_lengths ?nTimetable_feeders ?nTimetable_known_boats ?a_Timetable_init ?i_Timetable_init ?l_Timetable_init ?c_Timetable_init ?k_Timetable_init ?a_Timetable_boats_by ?i_Timetable_boats_by ?l_Timetable_boats_by ?c_Timetable_boats_by ?k_Timetable_boats_by ?a_Timetable_joined_by ?i_Timetable_joined_by ?l_Timetable_joined_by ?c_Timetable_joined_by ?k_Timetable_joined_by ?a_Timetable_time_of ?i_Timetable_time_of ?l_Timetable_time_of ?c_Timetable_time_of ?k_Timetable_time_of ?a_Timetable_first_number ?i_Timetable_first_number ?l_Timetable_first_number ?c_Timetable_first_number ?k_Timetable_first_number ?a_Timetable_departure_time ?i_Timetable_departure_time ?l_Timetable_departure_time ?c_Timetable_departure_time ?k_Timetable_departure_time ?a_Timetable_labels ?i_Timetable_labels ?l_Timetable_labels ?c_Timetable_labels ?k_Timetable_labels ?a_Timetable_arrival_at ?i_Timetable_arrival_at ?l_Timetable_arrival_at ?c_Timetable_arrival_at ?k_Timetable_arrival_at ?a_Timetable_source ?i_Timetable_source ?l_Timetable_source ?c_Timetable_source ?k_Timetable_source ?a_Timetable_passenger ?i_Timetable_passenger ?l_Timetable_passenger ?c_Timetable_passenger ?k_Timetable_passenger ?a_Timetable_boat_passengers ?i_Timetable_boat_passengers ?l_Timetable_boat_passengers ?c_Timetable_boat_passengers ?k_Timetable_boat_passengers ?m0 ?m1 ?m2 ?m3 ?z0 ?z1 ?z2 ?z3 ?z4 ?z5 ?z6 ?z7 ?z8 ?z9 ?z10 ?z11 ?z12 ?z13 ?z14 ?z15 ?z16 ?z17 ?z18 ?z19
    (case a0 => k_is)
    (case l0 => k_is)
    (case c0 => k_is)
    (case k0 => k_is)
    (case a1 => k_is)
    (case l1 => k_is)
    (case c1 => k_is)
    (case k1 => k_is)
    (case a2 => k_is)
    (case l2 => k_is)
    (case c2 => k_is)
    (case k2 => k_is)
    (case a3 => k_is)
    (case l3 => k_is)
    (case c3 => k_is)
    (case k3 => k_is)
    (case a4 => k_is)
    (case l4 => k_is)
    (case c4 => k_is)
    (case k4 => k_is)
    (case a5 => k_is)
    (case l5 => k_is)
    (case c5 => k_is)
    (case k5 => k_is)
    (case a6 => k_is)
    (case l6 => k_is)
    (case c6 => k_is)
    (case k6 => k_is)
    (case kd_reachable_stations => first | k_is | rfl | kernel_rfl | decide +kernel)
    (case a7 => k_is)
    (case l7 => k_is)
    (case c7 => k_is)
    (case k7 => k_is)
    (case kd_ports => first | k_is | rfl | kernel_rfl | decide +kernel)
    (case a8 => k_is)
    (case l8 => k_is)
    (case c8 => k_is)
    (case k8 => k_is)
    (case a9 => k_is)
    (case l9 => k_is)
    (case c9 => k_is)
    (case k9 => k_is)
    (case a10 => k_is)
    (case l10 => k_is)
    (case c10 => k_is)
    (case k10 => k_is)
    (case a11 => k_is)
    (case l11 => k_is)
    (case c11 => k_is)
    (case k11 => k_is)
    (case a12 => k_is)
    (case l12 => k_is)
    (case c12 => k_is)
    (case k12 => k_is)
    (case a13 => k_is)
    (case l13 => k_is)
    (case c13 => k_is)
    (case k13 => k_is)
    (case a14 => k_is)
    (case l14 => k_is)
    (case c14 => k_is)
    (case k14 => k_is)
    (case a15 => k_is)
    (case l15 => k_is)
    (case c15 => k_is)
    (case k15 => k_is)
    (case a16 => k_is)
    (case l16 => k_is)
    (case c16 => k_is)
    (case k16 => k_is)
    (case a17 => k_is)
    (case l17 => k_is)
    (case c17 => k_is)
    (case k17 => k_is)
    (case a18 => k_is)
    (case l18 => k_is)
    (case c18 => k_is)
    (case k18 => k_is)
    (case a19 => k_is)
    (case l19 => k_is)
    (case c19 => k_is)
    (case k19 => k_is)
    (case a20 => k_is)
    (case l20 => k_is)
    (case c20 => k_is)
    (case k20 => k_is)
    (case a21 => k_is)
    (case l21 => k_is)
    (case c21 => k_is)
    (case k21 => k_is)
    (case a22 => k_is)
    (case l22 => k_is)
    (case c22 => k_is)
    (case k22 => k_is)
    (case a23 => k_is)
    (case l23 => k_is)
    (case c23 => k_is)
    (case k23 => k_is)
    (case a24 => k_is)
    (case l24 => k_is)
    (case c24 => k_is)
    (case k24 => k_is)
    (case a25 => k_is)
    (case l25 => k_is)
    (case c25 => k_is)
    (case k25 => k_is)
    (case a26 => k_is)
    (case l26 => k_is)
    (case c26 => k_is)
    (case k26 => k_is)
    (case a27 => k_is)
    (case l27 => k_is)
    (case c27 => k_is)
    (case k27 => k_is)
    (case a28 => k_is)
    (case l28 => k_is)
    (case c28 => k_is)
    (case k28 => k_is)
    (case gArrival => k_is)
    (case pgArrival => k_is)
    (case hdArrival => k_is)
    (case poArrival => k_is)
    (case saArrival => k_is)
    (case mkArrival => k_is)
    (case kpArrival => k_is)
    (case nArrival_events => k_is)
    (case nArrival_queues => k_is)
    (case a_Arrival_init => k_is)
    (case i_Arrival_init => k_is)
    (case l_Arrival_init => k_is)
    (case c_Arrival_init => k_is)
    (case k_Arrival_init => k_is)
    (case a_Arrival_line => k_is)
    (case i_Arrival_line => k_is)
    (case l_Arrival_line => k_is)
    (case c_Arrival_line => k_is)
    (case k_Arrival_line => k_is)
    (case gTimetable => k_is)
    (case pgTimetable => k_is)
    (case hdTimetable => k_is)
    (case poTimetable => k_is)
    (case saTimetable => k_is)
    (case mkTimetable => k_is)
    (case kpTimetable => k_is)
    (case nTimetable_network => k_is)
    (case nTimetable_next_passenger => k_is)
    (case nTimetable_waiting => k_is)
    (case nTimetable_lengths => k_is)
    (case nTimetable_feeders => k_is)
    (case nTimetable_known_boats => k_is)
    (case a_Timetable_init => k_is)
    (case i_Timetable_init => k_is)
    (case l_Timetable_init => k_is)
    (case c_Timetable_init => k_is)
    (case k_Timetable_init => k_is)
    (case a_Timetable_boats_by => k_is)
    (case i_Timetable_boats_by => k_is)
    (case l_Timetable_boats_by => k_is)
    (case c_Timetable_boats_by => k_is)
    (case k_Timetable_boats_by => k_is)
    (case a_Timetable_joined_by => k_is)
    (case i_Timetable_joined_by => k_is)
    (case l_Timetable_joined_by => k_is)
    (case c_Timetable_joined_by => k_is)
    (case k_Timetable_joined_by => k_is)
    (case a_Timetable_time_of => k_is)
    (case i_Timetable_time_of => k_is)
    (case l_Timetable_time_of => k_is)
    (case c_Timetable_time_of => k_is)
    (case k_Timetable_time_of => k_is)
    (case a_Timetable_first_number => k_is)
    (case i_Timetable_first_number => k_is)
    (case l_Timetable_first_number => k_is)
    (case c_Timetable_first_number => k_is)
    (case k_Timetable_first_number => k_is)
    (case a_Timetable_departure_time => k_is)
    (case i_Timetable_departure_time => k_is)
    (case l_Timetable_departure_time => k_is)
    (case c_Timetable_departure_time => k_is)
    (case k_Timetable_departure_time => k_is)
    (case a_Timetable_labels => k_is)
    (case i_Timetable_labels => k_is)
    (case l_Timetable_labels => k_is)
    (case c_Timetable_labels => k_is)
    (case k_Timetable_labels => k_is)
    (case a_Timetable_arrival_at => k_is)
    (case i_Timetable_arrival_at => k_is)
    (case l_Timetable_arrival_at => k_is)
    (case c_Timetable_arrival_at => k_is)
    (case k_Timetable_arrival_at => k_is)
    (case a_Timetable_source => k_is)
    (case i_Timetable_source => k_is)
    (case l_Timetable_source => k_is)
    (case c_Timetable_source => k_is)
    (case k_Timetable_source => k_is)
    (case a_Timetable_passenger => k_is)
    (case i_Timetable_passenger => k_is)
    (case l_Timetable_passenger => k_is)
    (case c_Timetable_passenger => k_is)
    (case k_Timetable_passenger => k_is)
    (case a_Timetable_boat_passengers => k_is)
    (case i_Timetable_boat_passengers => k_is)
    (case l_Timetable_boat_passengers => k_is)
    (case c_Timetable_boat_passengers => k_is)
    (case k_Timetable_boat_passengers => k_is)
    (case m0 => k_is)
    (case m1 => k_is)
    (case m2 => k_is)
    (case m3 => k_is)
    (case z0 => k_is)
    (case z1 => k_is)
    (case z2 => k_is)
    (case z3 => k_is)
    (case z4 => k_is)
    (case z5 => k_is)
    (case z6 => k_is)
    (case z7 => k_is)
    (case z8 => k_is)
    (case z9 => k_is)
    (case z10 => k_is)
    (case z11 => k_is)
    (case z12 => k_is)
    (case z13 => k_is)
    (case z14 => k_is)
    (case z15 => k_is)
    (case z16 => k_is)
    (case z17 => k_is)
    (case z18 => k_is)
    (case z19 => k_is)
