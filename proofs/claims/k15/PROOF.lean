import PyProof.Rows.All
import Wide.All
import OpenK.AllK
import Wide.FinOn
import HandS.ForMost
import HandS.Codes
import HandS.More
import HandS.SetFor
import HandS.Style
import HandS.CallLocal
import HandS.DictComp
import HandS.Rev
import HandS.Conv
import HandS.WrittenGet
import KE.LtData
import PySem.Challenge.RW_escaperow_k15_whole_ranks_keep_order
set_option Elab.async false
set_option linter.all false
set_option maxRecDepth 100000
set_option synthInstance.maxSize 100000
set_option synthInstance.maxHeartbeats 4000000
/-! Steps of readings, found by their heads; heaps that only grow. -/
namespace Esc
open PySem PySem.Spec PyProof.Rows L2

/-- to show p, show q -/
class Step (p : Prop) (q : outParam Prop) : Prop where
  h : q → p
class Steps (p : Prop) (q : outParam Prop) : Prop where
  h : q → p
instance (priority := low) Steps.refl {p : Prop} : Steps p p := ⟨id⟩
instance Steps.cons {p q r : Prop} [a : Step p q] [b : Steps q r] : Steps p r := ⟨fun x => a.h (b.h x)⟩
/-- what a slot holds -/
class Lk (i : Nat) (σ : L2.St) (v : outParam V) : Prop where
  h : σ[i]? = some (some v)
instance Lk.z {v : V} {r : L2.St} : Lk 0 (some v :: r) v := ⟨rfl⟩
instance Lk.s {i : Nat} {x : Option V} {v : V} {r : L2.St} [a : Lk i r v] : Lk (i + 1) (x :: r) v := ⟨a.h⟩
class Pu (i : Nat) (v : V) (σ : L2.St) (σ' : outParam L2.St) : Prop where
  h : σ.set i (some v) = σ'
instance Pu.z {v : V} {x : Option V} {r : L2.St} : Pu 0 v (x :: r) (some v :: r) := ⟨rfl⟩
instance Pu.s {i : Nat} {x : Option V} {v : V} {r r' : L2.St} [a : Pu i v r r'] : Pu (i + 1) v (x :: r) (x :: r') := ⟨by rw [List.set_cons_succ, a.h]⟩

/-! ### what is done with a value -/
section
variable (r r' : R2) (ta tb tc te : TE) (tr : TA) (t u : TT) (Q : VK) (QT : Bool → Hp → Prop) (QV : List V → Hp → Prop) (σ : L2.St) (x y : V) (K : PySem.W.Frag)
def kOp1 : VK := fun x H => tb σ H fun y H2 => r x y H2 Q
def kOp2 : VK := fun y H => r x y H Q
def kUn (r : V → Hp → VK → Prop) : VK := fun x H => r x H Q
def kBool : VK := fun x H => ∃ k, x = .bl k ∧ QT k H
def kAnd : Bool → Hp → Prop := fun c H => if c = true then u σ H QT else QT false H
def kOr : Bool → Hp → Prop := fun c H => if c = true then QT true H else u σ H QT
def kNot : Bool → Hp → Prop := fun c H => QT (!c) H
def kAndV : VK := fun x H => ∃ c, x = .bl c ∧ if c = true then tb σ H Q else Q (.bl false) H
def kAndB : Bool → Hp → Prop := fun c H => if c = true then tb σ H Q else Q (.bl false) H
def kOrV : VK := fun x H => ∃ c, x = .bl c ∧ if c = true then Q (.bl true) H else tb σ H Q
def kOrB : Bool → Hp → Prop := fun c H => if c = true then Q (.bl true) H else tb σ H Q
def kNotV : VK := fun x H => ∃ c, x = .bl c ∧ Q (.bl (!c)) H
def kNotB : Bool → Hp → Prop := fun c H => Q (.bl (!c)) H
def kIf : Bool → Hp → Prop := fun c H => if c = true then ta σ H Q else tb σ H Q
def kCh1 : VK := fun x H1 => tb σ H1 fun y H2 => r x y H2 fun z H3 => ∃ k, z = .bl k ∧ (if k = true then tc σ H3 fun z H4 => r' y z H4 Q else Q (.bl false) H3)
def kCh2 : VK := fun y H2 => r x y H2 fun z H3 => ∃ k, z = .bl k ∧ (if k = true then tc σ H3 fun z H4 => r' y z H4 Q else Q (.bl false) H3)
def kCh3 : VK := fun z H3 => ∃ k, z = .bl k ∧ (if k = true then tc σ H3 fun z H4 => r' y z H4 Q else Q (.bl false) H3)
def kCh4 : Bool → Hp → Prop := fun k H3 => if k = true then tc σ H3 fun z H4 => r' y z H4 Q else Q (.bl false) H3
def kCons : VK := fun x H => tr σ H fun xs H2 => QV (x :: xs) H2
def kPre : List V → Hp → Prop := fun xs H => QV (x :: xs) H
def kCB (r : List V → Hp → VK → Prop) : List V → Hp → Prop := fun vs H => r vs H Q
def kCall (sp : Sp) (E : XK) : List V → Hp → Prop := fun vs H => sp vs H Q E
def kBM (T : String) (r : V → List V → Hp → VK → Prop) : VK := fun x H => tyV K T x H ∧ tr σ H fun xs H2 => r x xs H2 Q
def kBM0 (T : String) (r : V → List V → Hp → VK → Prop) : VK := fun x H => tyV K T x H ∧ r x [] H Q
def kRv (r : V → List V → Hp → VK → Prop) : List V → Hp → Prop := fun xs H => r x xs H Q
def kLst : List V → Hp → Prop := fun xs H => xs.length ≤ sizeLine ∧ ∀ p, H p = none → Q (.ref p) (upd H p (.lst xs))
def kTup : List V → Hp → Prop := fun xs H => xs.length ≤ sizeLine ∧ ∀ p, H p = none → Q (.ref p) (upd H p (.tup xs))
def kSl1 (r : V → Option Int → Option Int → Hp → VK → Prop) (tl th : TO) : VK := fun x H1 => tl σ H1 fun l H2 => th σ H2 fun u H3 => r x l u H3 Q
def kSl2 (r : V → Option Int → Option Int → Hp → VK → Prop) (th : TO) : Option Int → Hp → Prop := fun l H2 => th σ H2 fun u H3 => r x l u H3 Q
def kSl3 (r : V → Option Int → Option Int → Hp → VK → Prop) (l : Option Int) : Option Int → Hp → Prop := fun u H3 => r x l u H3 Q
def kPart (QO : Option Int → Hp → Prop) : VK := fun x H => ∃ i, x = .int i ∧ QO (some i) H
def kLstRg : VK := fun x H => ∃ n, x = .int n ∧ RgOk 0 n ∧ ∀ q, H q = none → Q (.ref q) (upd H q (.lst (rgV 0 n)))
def kRev : VK := fun x H1 => ∃ a xs, x = .ref a ∧ SqL K H1 a xs ∧ ∀ p, H1 p = none → Q (.ref p) (upd H1 p (.lst xs.reverse))
def kDGet1 (ty : TE) : VK := fun x H1 => ty σ H1 fun y H2 => ∃ a v, x = .ref a ∧ DGet H2 a y (some v) ∧ Q v H2
def kDGet2 : VK := fun y H2 => ∃ a v, x = .ref a ∧ DGet H2 a y (some v) ∧ Q v H2
def kDIn1 (td : TE) : VK := fun y H1 => td σ H1 fun x H2 => ∃ a o, x = .ref a ∧ DGet H2 a y o ∧ Q (.bl o.isSome) H2
def kDIn2 : VK := fun x H2 => ∃ a o, x = .ref a ∧ DGet H2 a y o ∧ Q (.bl o.isSome) H2
def kCallA (sp : Sp) : List V → Hp → Prop := fun vs H1 => sp vs H1 Q (fun _ _ _ => False)
/-- behind a statement -/
def kAsg (g : TG) (nx : L2.St → Hp → Prop) : VK := fun x H => g x σ H nx
def kDrop (nx : L2.St → Hp → Prop) : VK := fun _ H => nx σ H
def kIfS (t u : TS) (D : Ends) : Bool → Hp → Prop := fun b H => if b = true then t D σ H else u D σ H
def kG (u : TGs) (vs : List V) (QS : L2.St → Hp → Prop) : L2.St → Hp → Prop := fun σ H => u vs σ H QS
def kGs1 (ti : TE) (t : TSet) (v : V) (QS : L2.St → Hp → Prop) : VK := fun o H1 => ti σ H1 fun i H2 => t o i v H2 fun H3 => QS σ H3
def kGs2 (t : TSet) (o v : V) (QS : L2.St → Hp → Prop) : VK := fun i H2 => t o i v H2 fun H3 => QS σ H3
def kPar (i j : Nat) (nx : L2.St → Hp → Prop) : List V → Hp → Prop := fun vs H => ∃ v w, vs = [v, w] ∧ nx ((σ.set i (some v)).set j (some w)) H
def kAug (i : Nat) (ti : TIp) (nx : L2.St → Hp → Prop) : VK := fun y H1 => ti x y H1 fun z H2 => nx (σ.set i (some z)) H2
def kPut (i : Nat) (nx : L2.St → Hp → Prop) : VK := fun z H => nx (σ.set i (some z)) H
end

/-! ### rules under names of their own -/
def rLen (K : PySem.W.Frag) : List V → Hp → VK → Prop := fun xs H Q => ∃ p ys, xs = [.ref p] ∧ (SqL K H p ys ∨ SqT K H p ys) ∧ Q (.int (ys.length : Nat)) H
def rAbs : List V → Hp → VK → Prop := fun xs H Q => ∃ i, xs = [.int i] ∧ Q (.int (if i < 0 then -i else i)) H
def rListOf (K : PySem.W.Frag) : List V → Hp → VK → Prop := fun xs H Q => ∃ p ys, xs = [.ref p] ∧ (SqL K H p ys ∨ SqT K H p ys) ∧ ∀ l, H l = none → Q (.ref l) (upd H l (.lst ys))
def rTupOf (K : PySem.W.Frag) : List V → Hp → VK → Prop := fun xs H Q => ∃ p ys, xs = [.ref p] ∧ ((SqL K H p ys ∧ ∀ l, H l = none → Q (.ref l) (upd H l (.tup ys))) ∨ (SqT K H p ys ∧ Q (.ref p) H))
def rIsN : R2 := fun x y H Q => y = .non ∧ Q (.bl (decide (x = .non))) H
def rNotN : R2 := fun x y H Q => y = .non ∧ Q (.bl (!decide (x = .non))) H
def rIsTy : R2 := fun x y H Q => ∃ a b, x = .ty a ∧ y = .ty b ∧ Q (.bl (decide (a = b))) H
def rInsert : V → List V → Hp → VK → Prop := fun x vs H Q => ∃ (l : Addr) (xs : List V) (i : Int) (y : V), x = .ref l ∧ vs = [.int i, y] ∧ H l = some (.lst xs) ∧ xs.length < sizeLine ∧ 0 ≤ i ∧ i < 2 ^ 63 ∧ Q .non (upd H l (.lst (xs.take i.toNat ++ [y] ++ xs.drop i.toNat)))
def rMin2 : List V → Hp → VK → Prop := fun xs H Q => ∃ i j, xs = [.int i, .int j] ∧ Q (.int (if j < i then j else i)) H
def rMax2 : List V → Hp → VK → Prop := fun xs H Q => ∃ i j, xs = [.int i, .int j] ∧ Q (.int (if j > i then j else i)) H
section
variable {X : Cx}
theorem k_len : CallR X (.builtin "len") (rLen X.K) := call_len_seq
theorem k_abs : CallR X (.builtin "abs") rAbs := call_abs
theorem k_listOf : CallR X (.type "list") (rListOf X.K) := call_list_of
theorem k_tupOf : CallR X (.type "tuple") (rTupOf X.K) := call_tuple_of
theorem k_isN : OpR X (compareOp .Is) rIsN := op_isN
theorem k_notN : OpR X (compareOp .IsNot) rNotN := op_notN
theorem k_isTy : OpR X (compareOp .Is) rIsTy := op_isTyB
theorem k_insert : MtR X "list.insert" rInsert := mt_insert
theorem k_min2 (hc : X.calm = true) : CallR X (.builtin "min") rMin2 := call_min2 hc
theorem k_max2 (hc : X.calm = true) : CallR X (.builtin "max") rMax2 := call_max2 hc
end
theorem dec_int (a b : Int) : decide (V.int a = V.int b) = decide (a = b) := by
  by_cases h : a = b
  · rw [decide_eq_true h, h, decide_eq_true rfl]
  · rw [decide_eq_false h, decide_eq_false fun z => h (V.int.inj z)]
theorem dec_str (a b : Str) : decide (V.str a = V.str b) = decide (a = b) := by
  by_cases h : a = b
  · rw [decide_eq_true h, h, decide_eq_true rfl]
  · rw [decide_eq_false h, decide_eq_false fun z => h (V.str.inj z)]
theorem dec_bl (a b : Bool) : decide (V.bl a = V.bl b) = decide (a = b) := by
  by_cases h : a = b
  · rw [decide_eq_true h, h, decide_eq_true rfl]
  · rw [decide_eq_false h, decide_eq_false fun z => h (V.bl.inj z)]

/-! ### the steps -/
section
variable {r r' : R2} {ta tb tc te ti : TE} {tr : TA} {t u : TT} {Q : VK} {QT : Bool → Hp → Prop} {QV : List V → Hp → Prop} {QS : L2.St → Hp → Prop} {σ σ' σ2 : L2.St} {v w x y : V} {K : PySem.W.Frag} {H : Hp} {i j : Nat} {b : Bool} {a c : Int}
  {ts us : TS} {nx : L2.St → Hp → Prop} {rt : VK} {bk ct : L2.St → Hp → Prop} {D : Ends} {g : TG} {gs : TGs} {vs xs : List V}
instance : Step (tSeq ts us ⟨nx, rt, bk, ct⟩ σ H) (ts ⟨us ⟨nx, rt, bk, ct⟩, rt, bk, ct⟩ σ H) := ⟨fun h => h⟩
instance : Step (tNext ⟨nx, rt, bk, ct⟩ σ H) (nx σ H) := ⟨fun h => h⟩
instance : Step (tBreak ⟨nx, rt, bk, ct⟩ σ H) (bk σ H) := ⟨fun h => h⟩
instance : Step (tCont ⟨nx, rt, bk, ct⟩ σ H) (ct σ H) := ⟨fun h => h⟩
instance : Step (tAsg te g ⟨nx, rt, bk, ct⟩ σ H) (te σ H (kAsg σ g nx)) := ⟨fun h => h⟩
instance : Step (kAsg σ g nx x H) (g x σ H nx) := ⟨fun h => h⟩
instance : Step (tDrop te ⟨nx, rt, bk, ct⟩ σ H) (te σ H (kDrop σ nx)) := ⟨fun h => h⟩
instance : Step (kDrop σ nx x H) (nx σ H) := ⟨fun h => h⟩
instance : Step (tRet te ⟨nx, rt, bk, ct⟩ σ H) (te σ H rt) := ⟨fun h => h⟩
instance : Step (tRetN ⟨nx, rt, bk, ct⟩ σ H) (rt .non H) := ⟨fun h => h⟩
instance : Step (tIfS t ts us D σ H) (t σ H (kIfS σ ts us D)) := ⟨fun h => h⟩
instance : Step (kIfS σ ts us D true H) (ts D σ H) := ⟨fun h => iteT h⟩
instance : Step (kIfS σ ts us D false H) (us D σ H) := ⟨fun h => iteF h⟩
instance [e : Pu i v σ σ'] : Step (gName i v σ H QS) (QS σ' H) := ⟨fun h => by show QS (σ.set i (some v)) H; rw [e.h]; exact h⟩
instance : Step (gCons g gs (v :: vs) σ H QS) (g v σ H (kG gs vs QS)) := ⟨fun h => ⟨v, vs, rfl, h⟩⟩
instance : Step (kG gs vs QS σ H) (gs vs σ H QS) := ⟨fun h => h⟩
instance : Step (gNil [] σ H QS) (QS σ H) := ⟨fun h => ⟨rfl, h⟩⟩
instance {tset : TSet} : Step (gSub te ti tset v σ H QS) (te σ H (kGs1 σ ti tset v QS)) := ⟨fun h => h⟩
instance {tset : TSet} : Step (kGs1 σ ti tset v QS x H) (ti σ H (kGs2 σ tset x v QS)) := ⟨fun h => h⟩
instance {tset : TSet} : Step (kGs2 σ tset x v QS y H) (tset x y v H (QS σ)) := ⟨fun h => h⟩
instance : Step (tPar i j tr ⟨nx, rt, bk, ct⟩ σ H) (tr σ H (kPar σ i j nx)) := ⟨fun h => h⟩
instance [e : Pu i v σ σ'] [f : Pu j w σ' σ2] : Step (kPar σ i j nx [v, w] H) (nx σ2 H) := ⟨fun h => ⟨v, w, rfl, by rw [e.h, f.h]; exact h⟩⟩
instance {ti : TIp} [e : Lk i σ x] : Step (tAug i te ti ⟨nx, rt, bk, ct⟩ σ H) (te σ H (kAug σ x i ti nx)) := ⟨fun h => ⟨x, e.h, h⟩⟩
instance {f : Int → Int → Int} : Step (kAug σ (.int a) i (ipI f) nx (.int c) H) (kPut σ i nx (.int (f a c)) H) := ⟨fun h => ⟨a, c, rfl, rfl, h⟩⟩
instance [e : Pu i v σ σ'] : Step (kPut σ i nx v H) (nx σ' H) := ⟨fun h => by show nx (σ.set i (some v)) H; rw [e.h]; exact h⟩
instance [e : Lk i σ v] : Step (tVar i σ H Q) (Q v H) := ⟨fun h => ⟨v, e.h, h⟩⟩
instance : Step (tC v σ H Q) (Q v H) := ⟨fun h => h⟩
instance : Step (tOp r ta tb σ H Q) (ta σ H (kOp1 r tb Q σ)) := ⟨fun h => h⟩
instance : Step (kOp1 r tb Q σ x H) (tb σ H (kOp2 r Q x)) := ⟨fun h => h⟩
instance : Step (kOp2 r Q x y H) (r x y H Q) := ⟨fun h => h⟩
instance {ru : V → Hp → VK → Prop} : Step (tUn ru ta σ H Q) (ta σ H (kUn Q ru)) := ⟨fun h => h⟩
instance {ru : V → Hp → VK → Prop} : Step (kUn Q ru x H) (ru x H Q) := ⟨fun h => h⟩
instance {gu : Int → V} : Step (rU gu (.int a) H Q) (Q (gu a) H) := ⟨fun h => ⟨a, rfl, h⟩⟩
instance {gi : Int → Int → V} : Step (rI0 gi (.int a) (.int c) H Q) (Q (gi a c) H) := ⟨fun h => ⟨a, c, rfl, rfl, h⟩⟩
instance : Step (rEq (.int a) (.int c) H Q) (Q (.bl (decide (a = c))) H) := ⟨fun h => ⟨rfl, by rw [dec_int]; exact h⟩⟩
instance : Step (rNe (.int a) (.int c) H Q) (Q (.bl (!decide (a = c))) H) := ⟨fun h => ⟨rfl, by rw [dec_int]; exact h⟩⟩
instance {a c : Str} : Step (rEq (.str a) (.str c) H Q) (Q (.bl (decide (a = c))) H) := ⟨fun h => ⟨rfl, by rw [dec_str]; exact h⟩⟩
instance {a c : Str} : Step (rNe (.str a) (.str c) H Q) (Q (.bl (!decide (a = c))) H) := ⟨fun h => ⟨rfl, by rw [dec_str]; exact h⟩⟩
instance {a c : Bool} : Step (rEq (.bl a) (.bl c) H Q) (Q (.bl (decide (a = c))) H) := ⟨fun h => ⟨rfl, by rw [dec_bl]; exact h⟩⟩
instance {a c : Bool} : Step (rNe (.bl a) (.bl c) H Q) (Q (.bl (!decide (a = c))) H) := ⟨fun h => ⟨rfl, by rw [dec_bl]; exact h⟩⟩
instance : Step (rIsN v .non H Q) (Q (.bl (decide (v = .non))) H) := ⟨fun h => ⟨rfl, h⟩⟩
instance : Step (rNotN v .non H Q) (Q (.bl (!decide (v = .non))) H) := ⟨fun h => ⟨rfl, h⟩⟩
instance {s s' : String} : Step (rIsTy (.ty s) (.ty s') H Q) (Q (.bl (decide (s = s'))) H) := ⟨fun h => ⟨s, s', rfl, rfl, h⟩⟩
instance : Step (rTyp K [.int a] H Q) (Q (.ty "int") H) := ⟨fun h => ⟨.int a, "int", rfl, .int a, h⟩⟩
instance : Step (tTest te σ H QT) (te σ H (kBool QT)) := ⟨fun h => h⟩
instance : Step (tB te σ H QT) (te σ H (kBool QT)) := ⟨fun h => h⟩
instance : Step (kBool QT (.bl b) H) (QT b H) := ⟨fun h => ⟨b, rfl, h⟩⟩
instance : Step (tAnd t u σ H QT) (t σ H (kAnd u QT σ)) := ⟨fun h => h⟩
instance : Step (kAnd u QT σ true H) (u σ H QT) := ⟨fun h => iteT h⟩
instance : Step (kAnd u QT σ false H) (QT false H) := ⟨fun h => iteF h⟩
instance : Step (tOr t u σ H QT) (t σ H (kOr u QT σ)) := ⟨fun h => h⟩
instance : Step (kOr u QT σ true H) (QT true H) := ⟨fun h => iteT h⟩
instance : Step (kOr u QT σ false H) (u σ H QT) := ⟨fun h => iteF h⟩
instance : Step (tNot t σ H QT) (t σ H (kNot QT)) := ⟨fun h => h⟩
instance : Step (kNot QT true H) (QT false H) := ⟨fun h => h⟩
instance : Step (kNot QT false H) (QT true H) := ⟨fun h => h⟩
instance : Step (tAndV ta tb σ H Q) (ta σ H (kAndV tb Q σ)) := ⟨fun h => h⟩
instance : Step (kAndV tb Q σ (.bl b) H) (kAndB tb Q σ b H) := ⟨fun h => ⟨b, rfl, h⟩⟩
instance : Step (kAndB tb Q σ true H) (tb σ H Q) := ⟨fun h => iteT h⟩
instance : Step (kAndB tb Q σ false H) (Q (.bl false) H) := ⟨fun h => iteF h⟩
instance : Step (tOrV ta tb σ H Q) (ta σ H (kOrV tb Q σ)) := ⟨fun h => h⟩
instance : Step (kOrV tb Q σ (.bl b) H) (kOrB tb Q σ b H) := ⟨fun h => ⟨b, rfl, h⟩⟩
instance : Step (kOrB tb Q σ true H) (Q (.bl true) H) := ⟨fun h => iteT h⟩
instance : Step (kOrB tb Q σ false H) (tb σ H Q) := ⟨fun h => iteF h⟩
instance : Step (tNotV ta σ H Q) (ta σ H (kNotV Q)) := ⟨fun h => h⟩
instance : Step (kNotV Q (.bl b) H) (kNotB Q b H) := ⟨fun h => ⟨b, rfl, h⟩⟩
instance : Step (kNotB Q true H) (Q (.bl false) H) := ⟨fun h => h⟩
instance : Step (kNotB Q false H) (Q (.bl true) H) := ⟨fun h => h⟩
instance : Step (tIf t ta tb σ H Q) (t σ H (kIf ta tb Q σ)) := ⟨fun h => h⟩
instance : Step (kIf ta tb Q σ true H) (ta σ H Q) := ⟨fun h => iteT h⟩
instance : Step (kIf ta tb Q σ false H) (tb σ H Q) := ⟨fun h => iteF h⟩
instance : Step (tChain r r' ta tb tc σ H Q) (ta σ H (kCh1 r r' tb tc Q σ)) := ⟨fun h => h⟩
instance : Step (kCh1 r r' tb tc Q σ x H) (tb σ H (kCh2 r r' tc Q σ x)) := ⟨fun h => h⟩
instance : Step (kCh2 r r' tc Q σ x y H) (r x y H (kCh3 r' tc Q σ y)) := ⟨fun h => h⟩
instance : Step (kCh3 r' tc Q σ y (.bl b) H) (kCh4 r' tc Q σ y b H) := ⟨fun h => ⟨b, rfl, h⟩⟩
instance : Step (kCh4 r' tc Q σ y true H) (tc σ H (kOp2 r' Q y)) := ⟨fun h => iteT h⟩
instance : Step (kCh4 r' tc Q σ y false H) (Q (.bl false) H) := ⟨fun h => iteF h⟩
instance : Step (tNil σ H QV) (QV [] H) := ⟨fun h => h⟩
instance : Step (tCons ta tr σ H QV) (ta σ H (kCons tr QV σ)) := ⟨fun h => h⟩
instance : Step (kCons tr QV σ x H) (tr σ H (kPre QV x)) := ⟨fun h => h⟩
instance : Step (kPre QV x xs H) (QV (x :: xs) H) := ⟨fun h => h⟩
instance {rc : List V → Hp → VK → Prop} : Step (tCB rc tr σ H Q) (tr σ H (kCB Q rc)) := ⟨fun h => h⟩
instance {rc : List V → Hp → VK → Prop} : Step (kCB Q rc xs H) (rc xs H Q) := ⟨fun h => h⟩
instance : Step (rAbs [.int a] H Q) (Q (.int (if a < 0 then -a else a)) H) := ⟨fun h => ⟨a, rfl, h⟩⟩
instance : Step (rMin2 [.int a, .int c] H Q) (Q (.int (if c < a then c else a)) H) := ⟨fun h => ⟨a, c, rfl, h⟩⟩
instance : Step (rMax2 [.int a, .int c] H Q) (Q (.int (if c > a then c else a)) H) := ⟨fun h => ⟨a, c, rfl, h⟩⟩
theorem call_nil {sp : Sp} {E : XK} (h : tr σ H (kCall Q sp E)) : tCall sp [] E tr σ H Q := by
  have e0 : (fun (vs : List V) (H1 : Hp) => sp (vs ++ []) H1 Q E) = kCall Q sp E := by
    funext vs H1
    rw [List.append_nil]
    rfl
  show tr σ H (fun vs H1 => sp (vs ++ []) H1 Q E)
  rw [e0]
  exact h
instance {sp : Sp} {E : XK} : Step (tCall sp [] E tr σ H Q) (tr σ H (kCall Q sp E)) := ⟨call_nil⟩
instance {sp : Sp} {E : XK} : Step (kCall Q sp E xs H) (sp xs H Q E) := ⟨fun h => h⟩
instance {T : String} {rm : V → List V → Hp → VK → Prop} : Step (tBM K T rm te tr σ H Q) (te σ H (kBM tr Q σ K T rm)) := ⟨fun h => h⟩
instance {T : String} {rm : V → List V → Hp → VK → Prop} : Step (tBM0 K T rm te σ H Q) (te σ H (kBM0 Q K T rm)) := ⟨fun h => h⟩
instance {rm : V → List V → Hp → VK → Prop} : Step (kRv Q x rm xs H) (rm x xs H Q) := ⟨fun h => h⟩
instance : Step (tLst tr σ H Q) (tr σ H (kLst Q)) := ⟨fun h => h⟩
instance : Step (tTup tr σ H Q) (tr σ H (kTup Q)) := ⟨fun h => h⟩
instance {QO : Option Int → Hp → Prop} : Step (tNoPart σ H QO) (QO none H) := ⟨fun h => h⟩
instance {QO : Option Int → Hp → Prop} : Step (tPart ta σ H QO) (ta σ H (kPart QO)) := ⟨fun h => h⟩
instance {QO : Option Int → Hp → Prop} : Step (kPart QO (.int a) H) (QO (some a) H) := ⟨fun h => ⟨a, rfl, h⟩⟩
instance {rs : V → Option Int → Option Int → Hp → VK → Prop} {tl th : TO} : Step (tSl rs te tl th σ H Q) (te σ H (kSl1 Q σ rs tl th)) := ⟨fun h => h⟩
instance {rs : V → Option Int → Option Int → Hp → VK → Prop} {tl th : TO} : Step (kSl1 Q σ rs tl th x H) (tl σ H (kSl2 Q σ x rs th)) := ⟨fun h => h⟩
instance {rs : V → Option Int → Option Int → Hp → VK → Prop} {th : TO} {l : Option Int} : Step (kSl2 Q σ x rs th l H) (th σ H (kSl3 Q x rs l)) := ⟨fun h => h⟩
instance {rs : V → Option Int → Option Int → Hp → VK → Prop} {l o : Option Int} : Step (kSl3 Q x rs l o H) (rs x l o H Q) := ⟨fun h => h⟩
instance : Step (tLstRg (tRg1 ta) σ H Q) (ta σ H (kLstRg Q)) := ⟨fun h => h⟩
instance : Step (tRevL K ta σ H Q) (ta σ H (kRev Q K)) := ⟨fun h => h⟩
instance : Step (tDGet ta tb σ H Q) (ta σ H (kDGet1 Q σ tb)) := ⟨fun h => h⟩
instance : Step (kDGet1 Q σ tb x H) (tb σ H (kDGet2 Q x)) := ⟨fun h => h⟩
instance : Step (tDIn ta tb σ H Q) (ta σ H (kDIn1 Q σ tb)) := ⟨fun h => h⟩
instance : Step (kDIn1 Q σ tb y H) (tb σ H (kDIn2 Q y)) := ⟨fun h => h⟩
instance {sp : Sp} : Step (kCallA Q sp xs H) (sp xs H Q (fun _ _ _ => False)) := ⟨fun h => h⟩
end

/-! ### steps that ask something -/
section
variable {K : PySem.W.Frag} {H : Hp} {Q : VK} {xs ys zs : List V} {a l b p : Addr} {x y z v : V} {σ : L2.St} {tr : TA} {QS : L2.St → Hp → Prop}
theorem i_start {t : TS} {D : Ends} {σ σ' : L2.St} {H : Hp} (e : σ = σ') (q : t D σ' H) : t D σ H := by
  rw [e]
  exact q
/-- by cases on a test -/
theorem i_br {F : Bool → Hp → Prop} {c : Prop} [Decidable c] (h1 : c → F true H) (h2 : ¬ c → F false H) : F (decide c) H := by
  by_cases h : c
  · rw [decide_eq_true h]
    exact h1 h
  · rw [decide_eq_false h]
    exact h2 h
theorem i_nbr {F : Bool → Hp → Prop} {c : Prop} [Decidable c] (h1 : c → F false H) (h2 : ¬ c → F true H) : F (!decide c) H := by
  by_cases h : c
  · rw [decide_eq_true h]
    exact h1 h
  · rw [decide_eq_false h]
    exact h2 h
theorem i_yes {F : Bool → Hp → Prop} {c : Prop} [Decidable c] (h : c) (q : F true H) : F (decide c) H := by
  rw [decide_eq_true h]
  exact q
theorem i_no {F : Bool → Hp → Prop} {c : Prop} [Decidable c] (h : ¬ c) (q : F false H) : F (decide c) H := by
  rw [decide_eq_false h]
  exact q
theorem i_nyes {F : Bool → Hp → Prop} {c : Prop} [Decidable c] (h : c) (q : F false H) : F (!decide c) H := by
  rw [decide_eq_true h]
  exact q
theorem i_nno {F : Bool → Hp → Prop} {c : Prop} [Decidable c] (h : ¬ c) (q : F true H) : F (!decide c) H := by
  rw [decide_eq_false h]
  exact q
theorem i_bool {F : Bool → Hp → Prop} {c : Bool} (h1 : c = true → F true H) (h2 : c = false → F false H) : F c H := by
  cases c with
  | true => exact h1 rfl
  | false => exact h2 rfl
theorem i_I {C : Int → Int → Prop} {g : Int → Int → V} {i j : Int} (c : C i j) (q : Q (g i j) H) : rI C g (.int i) (.int j) H Q := ⟨i, j, rfl, rfl, c, q⟩
theorem i_ixL {i : Int} (h : SqL K H p xs) (e : atI xs i = some v) (q : Q v H) : rIxL K (.ref p) (.int i) H Q := ⟨p, xs, i, v, rfl, rfl, h, e, q⟩
theorem i_ixT {i : Int} (h : SqT K H p xs) (e : atI xs i = some v) (q : Q v H) : rIxT K (.ref p) (.int i) H Q := ⟨p, xs, i, v, rfl, rfl, h, e, q⟩
theorem i_setL {k : Int} {j : Nat} {w : V} {Q : Hp → Prop} (h : H l = some (.lst xs)) (e : ixN xs.length k = some j) (q : Q (upd H l (.lst (xs.set j w)))) : rSetL (.ref l) (.int k) w H Q := ⟨l, xs, k, j, rfl, rfl, h, e, q⟩
theorem i_gtup {n : Nat} {t : TGs} (h : SqT K H a xs) (e : xs.length = n) (q : t xs σ H QS) : gTup K n t (.ref a) σ H QS := ⟨a, xs, rfl, h, e, q⟩
theorem i_bm {r : V → List V → Hp → VK → Prop} (h : SqL K H a xs) (q : tr σ H (kRv Q (.ref a) r)) : kBM tr Q σ K "list" r (.ref a) H := ⟨.inl ⟨rfl, _, h⟩, q⟩
theorem i_bm0 {r : V → List V → Hp → VK → Prop} (h : SqL K H a xs) (q : r (.ref a) [] H Q) : kBM0 Q K "list" r (.ref a) H := ⟨.inl ⟨rfl, _, h⟩, q⟩
theorem i_len (h : SqL K H a xs) (q : Q (.int (xs.length : Nat)) H) : rLen K [.ref a] H Q := ⟨a, xs, rfl, .inl h, q⟩
theorem i_lenI {ns : List Int} (h : SqL K H a (ns.map V.int)) (q : Q (.int (ns.length : Nat)) H) : rLen K [.ref a] H Q := ⟨a, _, rfl, .inl h, by rw [List.length_map]; exact q⟩
theorem i_lenT (h : SqT K H a xs) (q : Q (.int (xs.length : Nat)) H) : rLen K [.ref a] H Q := ⟨a, xs, rfl, .inr h, q⟩
theorem i_append (h : H l = some (.lst xs)) (hz : xs.length < sizeLine) (q : Q .non (upd H l (.lst (xs ++ [y])))) : rAppend (.ref l) [y] H Q := ⟨l, xs, y, rfl, rfl, h, hz, q⟩
theorem i_extend (h : H l = some (.lst xs)) (h' : H b = some (.lst zs)) (hz : xs.length + zs.length ≤ sizeLine) (q : Q .non (upd H l (.lst (xs ++ zs)))) : rExtend (.ref l) [.ref b] H Q := ⟨l, b, xs, zs, rfl, rfl, h, h', hz, q⟩
theorem i_pop (h : H l = some (.lst xs)) (hy : xs[xs.length - 1]? = some y) (q : Q y (upd H l (.lst xs.dropLast))) : rPop (.ref l) [] H Q := ⟨l, xs, y, rfl, rfl, h, hy, q⟩
theorem ixN_of {n j : Nat} {i : Int} (e : i = (j : Int)) (hj : j < n) : ixN n i = some j := by
  subst e
  unfold ixN
  rw [if_pos (by omega), if_pos (by omega)]
  simp
theorem at_of {j : Nat} {i : Int} (e : i = (j : Int)) (h : xs[j]? = some v) : atI xs i = some v := by
  subst e
  exact atI_nat h
theorem i_popAt {j : Nat} {i : Int} (h : H l = some (.lst xs)) (e : i = (j : Int)) (hj : xs[j]? = some y) (hl : xs.length ≤ 100000) (q : Q y (upd H l (.lst (xs.eraseIdx j)))) : rPopAt (.ref l) [.int i] H Q := by
  have hlt : j < xs.length := (List.getElem?_eq_some_iff.mp hj).1
  have e1 : ixN xs.length (j : Int) = some j := ixN_of rfl hlt
  subst e
  exact ⟨l, xs, (j : Int), j, y, rfl, rfl, h, by omega, by omega, (ixN_seq e1).1, hj, q⟩
theorem i_insert0 (h : H l = some (.lst xs)) (hz : xs.length < sizeLine) (q : Q .non (upd H l (.lst (y :: xs)))) : rInsert (.ref l) [.int 0, y] H Q := ⟨l, xs, 0, y, rfl, rfl, h, hz, by decide, by decide, q⟩
/-- a new object: the heap behind it is one that grew -/
theorem i_lst (hz : xs.length ≤ sizeLine) (q : ∀ p H', H p = none → Same H H' → H' p = some (.lst xs) → Q (.ref p) H') : kLst Q xs H := ⟨hz, fun p hp => q p _ hp (fun b x e => by rw [upd_ne (ne_of_none e hp)]; exact e) upd_same⟩
theorem i_tup (hz : xs.length ≤ sizeLine) (q : ∀ p H', H p = none → Same H H' → H' p = some (.tup xs) → Q (.ref p) H') : kTup Q xs H := ⟨hz, fun p hp => q p _ hp (fun b x e => by rw [upd_ne (ne_of_none e hp)]; exact e) upd_same⟩
theorem grow {o : HO} (q : ∀ p H', H p = none → Same H H' → H' p = some o → Q (.ref p) H') : ∀ p, H p = none → Q (.ref p) (upd H p o) := fun p hp => q p _ hp (fun b x e => by rw [upd_ne (ne_of_none e hp)]; exact e) upd_same
theorem i_cat (h1 : H l = some (.lst xs)) (h' : H b = some (.lst zs)) (hz : xs.length + zs.length ≤ sizeLine) (q : ∀ p H', H p = none → Same H H' → H' p = some (.lst (xs ++ zs)) → Q (.ref p) H') : rCat (.ref l) (.ref b) H Q := ⟨l, b, xs, zs, rfl, rfl, h1, h', hz, grow q⟩
theorem i_slL {lo hi : Option Int} (h : SqL K H a xs) (q : ∀ p H', H p = none → Same H H' → H' p = some (.lst (cutV xs lo hi)) → Q (.ref p) H') : rSlL K (.ref a) lo hi H Q := ⟨a, xs, rfl, h, grow q⟩
theorem i_listOf (h : SqL K H a xs) (q : ∀ p H', H p = none → Same H H' → H' p = some (.lst xs) → Q (.ref p) H') : rListOf K [.ref a] H Q := ⟨a, xs, rfl, .inl h, grow q⟩
theorem i_listOfT (h : SqT K H a xs) (q : ∀ p H', H p = none → Same H H' → H' p = some (.lst xs) → Q (.ref p) H') : rListOf K [.ref a] H Q := ⟨a, xs, rfl, .inr h, grow q⟩
theorem i_tupOf (h : SqL K H a xs) (q : ∀ p H', H p = none → Same H H' → H' p = some (.tup xs) → Q (.ref p) H') : rTupOf K [.ref a] H Q := ⟨a, xs, rfl, .inl ⟨h, grow q⟩⟩
theorem i_lstRg {n : Int} (hn : 0 ≤ n ∧ n ≤ 16777216) (q : ∀ p H', H p = none → Same H H' → H' p = some (.lst (rgV 0 n)) → Q (.ref p) H') : kLstRg Q (.int n) H := ⟨n, rfl, RgOk.of_le (Int.le_refl 0) hn.2 (by decide) hn.1, grow q⟩
theorem i_rev (h : SqL K H a xs) (q : ∀ p H', H p = none → Same H H' → H' p = some (.lst xs.reverse) → Q (.ref p) H') : kRev Q K (.ref a) H := ⟨a, xs, rfl, h, grow q⟩
theorem i_cut {t u : TS} {nx : L2.St → Hp → Prop} {rt : VK} {bk ct : L2.St → Hp → Prop} {σ : L2.St} (Mid : L2.St → Hp → Prop) (h1 : t ⟨Mid, rt, bk, ct⟩ σ H) (h2 : ∀ σ' H', Mid σ' H' → u ⟨nx, rt, bk, ct⟩ σ' H') : C8.tCut t u ⟨nx, rt, bk, ct⟩ σ H := ⟨Mid, h1, h2⟩
end

/-! ### heaps -/
theorem upd_at {H : Hp} {a b : Addr} {o u : HO} (n : b ≠ a) (h : H b = some u) : upd H a o b = some u := (upd_ne n).trans h
theorem mut_at {H H' : Hp} {a p : Addr} {o u : HO} (s : Same H H') (n : H p = none) (h : H a = some u) : upd H' p o a = some u := by
  rw [upd_ne (ne_of_none h n)]
  exact s a u h
theorem same_at {H H' : Hp} {a : Addr} {o : HO} (s : Same H H') (h : H a = some o) : H' a = some o := s a o h
theorem same_new {H : Hp} {p : Addr} {o : HO} (h : H p = none) : Same H (upd H p o) := fun b x e => by
  rw [upd_ne (ne_of_none e h)]
  exact e
/-- what the first heap doesn't know may change -/
theorem smut {H H' : Hp} {p : Addr} {o : HO} (s : Same H H') (h : H p = none) : Same H (upd H' p o) := fun b x e => by
  rw [upd_ne (ne_of_none e h)]
  exact s b x e
theorem stup {K : PySem.W.Frag} {H H' : Hp} {a : Addr} {xs : List V} (e : Same H H') (h : SqT K H a xs) : SqT K H' a xs := by
  rcases h with (h | ⟨o, h⟩) | h
  · exact .inl (.inl (e _ _ h))
  · exact .inl (.inr ⟨o, e _ _ h⟩)
  · exact .inr h
theorem mut_l {K : PySem.W.Frag} {H H' : Hp} {a p : Addr} {o : HO} {xs : List V} (s : Same H H') (n : H p = none) (h : SqL K H a xs) : SqL K (upd H' p o) a xs := (smut s n).seq h
theorem mut_t {K : PySem.W.Frag} {H H' : Hp} {a p : Addr} {o : HO} {xs : List V} (s : Same H H') (n : H p = none) (h : SqT K H a xs) : SqT K (upd H' p o) a xs := stup (smut s n) h
/-- the heap without what stands at d -/
def hide (d : Addr) (H : Hp) : Hp := fun a => if a = d then none else H a
theorem hide_d {d : Addr} {H : Hp} : hide d H d = none := by
  unfold hide
  rw [if_pos rfl]
theorem hide_ne {d a : Addr} {H : Hp} (h : a ≠ d) : hide d H a = H a := by
  unfold hide
  rw [if_neg h]
theorem hide_same {d : Addr} {H : Hp} : Same (hide d H) H := fun b o e => by
  by_cases h : b = d
  · rw [h, hide_d] at e
    cases e
  · rw [hide_ne h] at e
    exact e
theorem hide_of {d : Addr} {H0 H : Hp} (n : H0 d = none) (s : Same H0 H) : Same H0 (hide d H) := fun b o e => by
  rw [hide_ne (ne_of_none e n)]
  exact s b o e
theorem hide_tr {d : Addr} {H H1 H2 : Hp} (s : Same (hide d H) H1) (t : Same (hide d H1) H2) : Same (hide d H) H2 := fun b o e => by
  have nb : b ≠ d := fun y => by
    rw [y, hide_d] at e
    cases e
  exact t b o ((hide_ne nb).trans (s b o e))
theorem hide_mut {d : Addr} {H : Hp} {o : HO} : Same (hide d H) (upd H d o) := smut hide_same hide_d
theorem sl_of {K : PySem.W.Frag} {H : Hp} {a : Addr} {xs : List V} (h : H a = some (.lst xs)) : SqL K H a xs := .inl (.inl h)
theorem st_of {K : PySem.W.Frag} {H : Hp} {a : Addr} {xs : List V} (h : H a = some (.tup xs)) : SqT K H a xs := .inl (.inl h)
theorem sz {n : Nat} (h : n ≤ 100000) : n ≤ sizeLine := Nat.le_trans h (by decide)
theorem szl {n : Nat} (h : n < 100000) : n < sizeLine := Nat.lt_of_lt_of_le h (by decide)

/-! ### a def of the module with its parameters -/
structure Dd (K : PySem.W.Frag) (mg : Str → Option Value) (x : Str) (st : Stmt) (ps : List Str) : Prop where
  ex : ∃ f fd, C8.Def K mg x st f fd ∧ Binds K fd ps []
section
variable {P : Program} {w : World} {K : PySem.W.Frag} {mg : Str → Option Value} {base : Heap}
theorem Dd.cal {x : Str} {st : Stmt} {N ps : List Str} {k : Nat} {sp : Sp} (d : Dd K mg x st ps) (S : FnScope N ps (C8.fnScope st)) (len : ∀ vs H Q E, sp vs H Q E → vs.length = ps.length)
    (hbody : ∀ (f : Addr) (cdv : Value) (A : Around) (outer : List Env) (s : Shared) (H : Hp) (vs : List V) (Q : VK) (E : XK), Room k (A.deeper (envOfC x (C8.fnScope st) s.heap.objs.size f cdv)) → sp vs H Q E →
      ∃ t, PSs (cxOf C8.CX0 P w K mg base N x (C8.fnScope st) f cdv A outer s H E).nox (C8.fnBody st) t ∧ t { nx := fun _ H' => Q .non H', rt := Q } (start N vs) H) : C8.Cal P w K mg base (k + 1) x sp [] := by
  obtain ⟨f, fd, F, b⟩ := d.ex
  exact C8.cal0 F b .nil S len fun cdv A outer s H vs Q E hr h => hbody f cdv A outer s H vs Q E hr h
end
end Esc

/-! Loops and comprehensions. -/
namespace Esc
open PySem PySem.Spec PyProof.Rows L2

/-! ### slots forgotten -/
class Pn (i : Nat) (σ : L2.St) (σ' : outParam L2.St) : Prop where
  h : σ.set i none = σ'
instance Pn.z {x : Option V} {r : L2.St} : Pn 0 (x :: r) (none :: r) := ⟨rfl⟩
instance Pn.s {i : Nat} {x : Option V} {r r' : L2.St} [a : Pn i r r'] : Pn (i + 1) (x :: r) (x :: r') := ⟨by rw [List.set_cons_succ, a.h]⟩
class Wp (vs : List Nat) (σ : L2.St) (σ' : outParam L2.St) : Prop where
  h : wipe σ vs = σ'
instance Wp.nil {σ : L2.St} : Wp [] σ σ := ⟨rfl⟩
instance Wp.mnil {σ : L2.St} : Wp (List.map (fun (x : Str × Nat) => x.snd) []) σ σ := ⟨rfl⟩
instance Wp.mcons {y : Str} {v : Nat} {r : List (Str × Nat)} {σ σ1 σ2 : L2.St} [a : Wp (List.map (fun (x : Str × Nat) => x.snd) r) σ σ1] [b : Pn v σ1 σ2] : Wp (List.map (fun (x : Str × Nat) => x.snd) ((y, v) :: r)) σ σ2 := ⟨by
  show (wipe σ (List.map (fun (x : Str × Nat) => x.snd) r)).set v none = σ2
  rw [a.h, b.h]⟩
instance Wp.cons {v : Nat} {vs : List Nat} {σ σ1 σ2 : L2.St} [a : Wp vs σ σ1] [b : Pn v σ1 σ2] : Wp (v :: vs) σ σ2 := ⟨by
  show (wipe σ vs).set v none = σ2
  rw [a.h, b.h]⟩

/-! ### for -/
def Loop (J : It) (g : TG) (tb : TS) (D : Ends) (σ : L2.St) (H1 : Hp) : Prop := ∃ W : Nat → Nat → L2.St → Hp → Prop, (∃ m, W 0 m σ H1) ∧ ∀ i m σ H, W i m σ H →
  (J.stop i H ∧ D.nx σ H) ∨ (J.go i H ∧ ∃ N : L2.St → Hp → Prop, (∀ σ' H', N σ' H' → ∃ m', m' < m ∧ W (i + 1) m' σ' H') ∧ ∀ x H', J.yld i H x H' → g x σ H' fun σ2 H2 => tb { D with nx := N, ct := N, bk := D.nx } σ2 H2)
section
variable {K : PySem.W.Frag} {H : Hp} {g : TG} {tb : TS} {nx : L2.St → Hp → Prop} {rt : VK} {bk ct : L2.St → Hp → Prop} {σ : L2.St} {D : Ends} {te : TE} {ta : TA} {a : Addr} {xs : List V}
def kFor (K : PySem.W.Frag) (g : TG) (tb : TS) (D : Ends) (σ : L2.St) : VK := fun x H1 => ∃ a, x = .ref a ∧ (∃ xs, SqL K H1 a xs) ∧ Loop (Itl K a) g tb D σ H1
def kForT (K : PySem.W.Frag) (g : TG) (tb : TS) (D : Ends) (σ : L2.St) : VK := fun x H1 => ∃ a, x = .ref a ∧ (∃ xs, SqT K H1 a xs) ∧ Loop (Itt K a) g tb D σ H1
def kRng (g : TG) (tb : TS) (D : Ends) (σ : L2.St) : List V → Hp → Prop := fun vs H1 => ∃ j : Int, vs = [.int j] ∧ -(2 ^ 62) ≤ j ∧ j < 2 ^ 62 ∧ Loop (Itr 0 j.toNat) g tb D σ H1
def kEnm (K : PySem.W.Frag) (g : TG) (tb : TS) (D : Ends) (σ : L2.St) : List V → Hp → Prop := fun vs H1 => ∃ a xs, vs = [.ref a] ∧ SqL K H1 a xs ∧ Loop (Ite K a) g tb D σ H1
def kRvs (K : PySem.W.Frag) (g : TG) (tb : TS) (D : Ends) (σ : L2.St) : List V → Hp → Prop := fun vs H1 => ∃ (a : Addr) (xs : List V), vs = [.ref a] ∧ SqL K H1 a xs ∧ Loop (Itv K a xs.length) g tb D σ H1
instance : Step (tFor (iList K te) g tb D σ H) (te σ H (kFor K g tb D σ)) := ⟨fun h => h⟩
instance : Step (tFor (iTup K te) g tb D σ H) (te σ H (kForT K g tb D σ)) := ⟨fun h => h⟩
instance : Step (tFor (iRng1 ta) g tb D σ H) (ta σ H (kRng g tb D σ)) := ⟨fun h => h⟩
instance : Step (tFor (iEnum K ta) g tb D σ H) (ta σ H (kEnm K g tb D σ)) := ⟨fun h => h⟩
instance : Step (tFor (iRev K ta) g tb D σ H) (ta σ H (kRvs K g tb D σ)) := ⟨fun h => h⟩
theorem i_for (hx : SqL K H a xs) (Pv : Nat → L2.St → Hp → Prop) (h0 : Pv 0 σ H) (hl : ∀ i σ H, i ≤ xs.length → Pv i σ H → SqL K H a xs)
    (hs : ∀ i x σ H, xs[i]? = some x → Pv i σ H → g x σ H (tb ⟨Pv (i + 1), rt, nx, Pv (i + 1)⟩)) (hd : ∀ σ H, Pv xs.length σ H → nx σ H) : kFor K g tb ⟨nx, rt, bk, ct⟩ σ (.ref a) H :=
  ⟨a, rfl, ⟨xs, hx⟩, for_list (D := ⟨nx, rt, bk, ct⟩) (xs := xs) Pv h0 hl hs hd⟩
theorem i_forT (hx : SqT K H a xs) (Pv : Nat → L2.St → Hp → Prop) (h0 : Pv 0 σ H) (hl : ∀ i σ H, i ≤ xs.length → Pv i σ H → SqT K H a xs)
    (hs : ∀ i x σ H, xs[i]? = some x → Pv i σ H → g x σ H (tb ⟨Pv (i + 1), rt, nx, Pv (i + 1)⟩)) (hd : ∀ σ H, Pv xs.length σ H → nx σ H) : kForT K g tb ⟨nx, rt, bk, ct⟩ σ (.ref a) H :=
  ⟨a, rfl, ⟨xs, hx⟩, for_tup (D := ⟨nx, rt, bk, ct⟩) (xs := xs) Pv h0 hl hs hd⟩
theorem i_rng {n : Int} (hn : 0 ≤ n ∧ n ≤ 1000000) (Pv : Nat → L2.St → Hp → Prop) (h0 : Pv 0 σ H)
    (hs : ∀ (i : Nat) σ H, (i : Int) < n → Pv i σ H → g (.int (i : Int)) σ H (tb ⟨Pv (i + 1), rt, nx, Pv (i + 1)⟩)) (hd : ∀ σ H, Pv n.toNat σ H → nx σ H) : kRng g tb ⟨nx, rt, bk, ct⟩ σ [.int n] H :=
  ⟨n, rfl, by omega, by omega, for_range (D := ⟨nx, rt, bk, ct⟩) (lo := 0) (n := n.toNat) Pv h0 (fun i σ' H' hi p => by
    have e0 : (0 : Int) + (i : Int) = (i : Int) := Int.zero_add _
    rw [e0]
    exact hs i σ' H' (by omega) p) hd⟩
theorem i_enum (hx : SqL K H a xs) (Pv : Nat → L2.St → Hp → Prop) (h0 : Pv 0 σ H) (hl : ∀ i σ H, i ≤ xs.length → Pv i σ H → SqL K H a xs)
    (hs : ∀ i x σ H T H', xs[i]? = some x → Pv i σ H → H T = none → Same H H' → H' T = some (.tup [.int (i : Nat), x]) → g (.ref T) σ H' (tb ⟨Pv (i + 1), rt, nx, Pv (i + 1)⟩)) (hd : ∀ σ H, Pv xs.length σ H → nx σ H) :
    kEnm K g tb ⟨nx, rt, bk, ct⟩ σ [.ref a] H := by
  refine ⟨a, xs, rfl, hx, fun i m σ H => m = xs.length - i ∧ i ≤ xs.length ∧ Pv i σ H, ⟨xs.length, by simp, Nat.zero_le _, h0⟩, ?_⟩
  rintro i m σ H ⟨rfl, hi, p⟩
  have q := hl i σ H hi p
  by_cases hlt : i < xs.length
  · refine .inr ⟨⟨xs, xs[i], q, by simp [hlt]⟩, Pv (i + 1), fun σ' H' p' => ⟨xs.length - (i + 1), by omega, rfl, hlt, p'⟩, fun x H' y => ?_⟩
    obtain ⟨T, x, rfl, nT, rfl, y⟩ := y
    exact hs i x σ H T _ (y xs q) p nT (same_new nT) upd_same
  · have e : i = xs.length := by omega
    subst e
    exact .inl ⟨⟨xs, q, Nat.le_refl _⟩, hd σ H p⟩
theorem i_rvs (hx : SqL K H a xs) (Pv : Nat → L2.St → Hp → Prop) (h0 : Pv 0 σ H) (hl : ∀ i σ H, i ≤ xs.length → Pv i σ H → SqL K H a xs)
    (hs : ∀ i x σ H, i < xs.length → xs[xs.length - 1 - i]? = some x → Pv i σ H → g x σ H (tb ⟨Pv (i + 1), rt, nx, Pv (i + 1)⟩)) (hd : ∀ σ H, Pv xs.length σ H → nx σ H) :
    kRvs K g tb ⟨nx, rt, bk, ct⟩ σ [.ref a] H := by
  refine ⟨a, xs, rfl, hx, fun i m σ H => m = xs.length - i ∧ i ≤ xs.length ∧ Pv i σ H, ⟨xs.length, by simp, Nat.zero_le _, h0⟩, ?_⟩
  rintro i m σ H ⟨rfl, hi, p⟩
  have q := hl i σ H hi p
  by_cases hlt : i < xs.length
  · refine .inr ⟨⟨hlt, xs, xs[xs.length - 1 - i], q, List.getElem?_eq_getElem (by omega)⟩, Pv (i + 1), fun σ' H' p' => ⟨xs.length - (i + 1), by omega, rfl, hlt, p'⟩, fun x H' y => ?_⟩
    obtain ⟨e, y⟩ := y
    subst e
    exact hs i x σ _ hlt (y xs q) p
  · have e : i = xs.length := by omega
    subst e
    exact .inl ⟨Nat.le_refl _, hd σ H p⟩
end

/-! ### while -/
def kLess (W : Nat → L2.St → Hp → Prop) (m : Nat) : L2.St → Hp → Prop := fun σ H => ∃ m', m' < m ∧ W m' σ H
def kWh (tb : TS) (W : Nat → L2.St → Hp → Prop) (m : Nat) (nx : L2.St → Hp → Prop) (rt : VK) (σ : L2.St) : Bool → Hp → Prop := fun b H1 =>
  if b = true then ∃ N : L2.St → Hp → Prop, (∀ σ' H', N σ' H' → ∃ m', m' < m ∧ W m' σ' H') ∧ tb ⟨N, rt, nx, N⟩ σ H1 else nx σ H1
section
variable {H : Hp} {tb : TS} {tc : TT} {nx : L2.St → Hp → Prop} {rt : VK} {bk ct : L2.St → Hp → Prop} {σ : L2.St} {W : Nat → L2.St → Hp → Prop} {m : Nat}
instance : Step (kWh tb W m nx rt σ true H) (tb ⟨kLess W m, rt, nx, kLess W m⟩ σ H) := ⟨fun h => iteT ⟨kLess W m, fun _ _ q => q, h⟩⟩
instance : Step (kWh tb W m nx rt σ false H) (nx σ H) := ⟨fun h => iteF h⟩
theorem i_while (W : Nat → L2.St → Hp → Prop) (m0 : Nat) (h0 : W m0 σ H) (hs : ∀ m σ H, W m σ H → tc σ H (kWh tb W m nx rt σ)) : tWhile tc tb ⟨nx, rt, bk, ct⟩ σ H := ⟨W, ⟨m0, h0⟩, hs⟩
end

/-! ### comprehensions -/
def LcLoop (J : It) (g : TG) (tt : TT) (te : TE) (vs : List Nat) (σ : L2.St) (Q : VK) (H1 : Hp) : Prop := ∀ D, H1 D = none → ∃ W : Nat → Nat → Hp → Prop, (∃ m, W 0 m (upd H1 D (.lst []))) ∧ ∀ i m H, W i m H →
  (J.stop i H ∧ Q (.ref D) H) ∨ (J.go i H ∧ ∃ Nx : Hp → Prop, (∀ H', Nx H' → ∃ m', m' < m ∧ W (i + 1) m' H') ∧ ∀ x H', J.yld i H x H' → g x (wipe σ vs) H' fun σ2 H2 => wipe σ2 vs = wipe σ vs ∧ tt σ2 H2 fun b H3 =>
    if b = true then te σ2 H3 fun y H4 => ∃ acc, H4 D = some (.lst acc) ∧ acc.length < sizeLine ∧ Nx (upd H4 D (.lst (acc ++ [y]))) else Nx H3)
def kLc (te : TE) (QN : Hp → Prop) (QY : VK) (σ : L2.St) : Bool → Hp → Prop := fun b H => if b = true then te σ H QY else QN H
def kLcB (σ0 : L2.St) (vs : List Nat) (tt : TT) (te : TE) (QN : Hp → Prop) (QY : VK) : L2.St → Hp → Prop := fun σ2 H2 => wipe σ2 vs = σ0 ∧ tt σ2 H2 (kLc te QN QY σ2)
def kLcL (K : PySem.W.Frag) (g : TG) (tt : TT) (te : TE) (vs : List Nat) (σ : L2.St) (Q : VK) : VK := fun x H1 => ∃ a, x = .ref a ∧ (∃ xs, SqL K H1 a xs) ∧ LcLoop (Itl K a) g tt te vs σ Q H1
def kLcT (K : PySem.W.Frag) (g : TG) (tt : TT) (te : TE) (vs : List Nat) (σ : L2.St) (Q : VK) : VK := fun x H1 => ∃ a, x = .ref a ∧ (∃ xs, SqT K H1 a xs) ∧ LcLoop (Itt K a) g tt te vs σ Q H1
def kLcR (g : TG) (tt : TT) (te : TE) (vs : List Nat) (σ : L2.St) (Q : VK) : List V → Hp → Prop := fun us H1 => ∃ j : Int, us = [.int j] ∧ -(2 ^ 62) ≤ j ∧ j < 2 ^ 62 ∧ LcLoop (Itr 0 j.toNat) g tt te vs σ Q H1
section
variable {K : PySem.W.Frag} {H : Hp} {g : TG} {tt : TT} {te tl : TE} {ta : TA} {vs : List Nat} {σ σ0 σ2 : L2.St} {Q : VK} {a : Addr} {xs : List V} {QN : Hp → Prop} {QY : VK} {QT : Bool → Hp → Prop}
instance : Step (tLc (iList K tl) g tt te vs σ H Q) (tl σ H (kLcL K g tt te vs σ Q)) := ⟨fun h => h⟩
instance : Step (tLc (iTup K tl) g tt te vs σ H Q) (tl σ H (kLcT K g tt te vs σ Q)) := ⟨fun h => h⟩
instance : Step (tLc (iRng1 ta) g tt te vs σ H Q) (ta σ H (kLcR g tt te vs σ Q)) := ⟨fun h => h⟩
instance : Step (tYes σ H QT) (QT true H) := ⟨fun h => h⟩
instance : Step (kLc te QN QY σ true H) (te σ H QY) := ⟨fun h => iteT h⟩
instance : Step (kLc te QN QY σ false H) (QN H) := ⟨fun h => iteF h⟩
instance [w : Wp vs σ2 σ0] : Step (kLcB σ0 vs tt te QN QY σ2 H) (tt σ2 H (kLc te QN QY σ2)) := ⟨fun h => ⟨w.h, h⟩⟩
theorem fm_take {α β : Type} (F : α → Option β) {l : List α} {i : Nat} {x : α} (h : l[i]? = some x) : (l.take (i + 1)).filterMap F = (l.take i).filterMap F ++ (F x).toList := by
  rw [List.take_add_one, h, List.filterMap_append]
  cases e : F x <;> simp [List.filterMap, e]
theorem fm_len {α β : Type} (F : α → Option β) (l : List α) (i : Nat) : ((l.take i).filterMap F).length ≤ l.length :=
  Nat.le_trans (List.length_filterMap_le _ _) (by rw [List.length_take]; exact Nat.min_le_right _ _)
/-- a comprehension whose turns change nothing: F x is what x gives, none if it is left out -/
theorem i_lcL [w : Wp vs σ σ0] (F : V → Option V) (hx : SqL K H a xs) (hz : xs.length < 100000)
    (hs : ∀ x ∈ xs, ∀ H1, Same H H1 → ∀ (QN : Hp → Prop) (QY : VK), (F x = none → ∀ H2, Same H1 H2 → QN H2) → (∀ y, F x = some y → ∀ H2, Same H1 H2 → QY y H2) → g x σ0 H1 (kLcB σ0 vs tt te QN QY))
    (q : ∀ p H', H p = none → Same H H' → H' p = some (.lst (xs.filterMap F)) → Q (.ref p) H') : kLcL K g tt te vs σ Q (.ref a) H := by
  have w' := w.h
  subst w'
  refine ⟨a, rfl, ⟨xs, hx⟩, fun D hD => lc_list (xs := xs) (fun i H' => Same H H' ∧ H' D = some (.lst ((xs.take i).filterMap F))) ⟨same_new hD, upd_same⟩ (fun i H' _ p => p.1.seq hx) (fun i x H' hi p => ?_) (fun H' p => ?_)⟩
  · obtain ⟨s, e⟩ := p
    refine hs x (List.mem_of_getElem? hi) H' s (fun H2 => Same H H2 ∧ H2 D = some (.lst ((xs.take (i + 1)).filterMap F))) _ (fun hn H2 s2 => ⟨s.trans s2, ?_⟩) (fun y hy H2 s2 => ⟨_, s2 _ _ e, szl (Nat.lt_of_le_of_lt (fm_len F xs i) hz), smut (s.trans s2) hD, ?_⟩)
    · rw [fm_take F hi, hn]
      show H2 D = some (.lst (_ ++ []))
      rw [List.append_nil]
      exact s2 _ _ e
    · rw [fm_take F hi, hy]
      exact upd_same
  · rw [List.take_of_length_le (Nat.le_refl _)] at p
    exact q D H' hD p.1 p.2
theorem i_lcT [w : Wp vs σ σ0] (F : V → Option V) (hx : SqT K H a xs) (hz : xs.length < 100000)
    (hs : ∀ x ∈ xs, ∀ H1, Same H H1 → ∀ (QN : Hp → Prop) (QY : VK), (F x = none → ∀ H2, Same H1 H2 → QN H2) → (∀ y, F x = some y → ∀ H2, Same H1 H2 → QY y H2) → g x σ0 H1 (kLcB σ0 vs tt te QN QY))
    (q : ∀ p H', H p = none → Same H H' → H' p = some (.lst (xs.filterMap F)) → Q (.ref p) H') : kLcT K g tt te vs σ Q (.ref a) H := by
  have w' := w.h
  subst w'
  refine ⟨a, rfl, ⟨xs, hx⟩, fun D hD => lc_tup (xs := xs) (fun i H' => Same H H' ∧ H' D = some (.lst ((xs.take i).filterMap F))) ⟨same_new hD, upd_same⟩ (fun i H' _ p => stup p.1 hx) (fun i x H' hi p => ?_) (fun H' p => ?_)⟩
  · obtain ⟨s, e⟩ := p
    refine hs x (List.mem_of_getElem? hi) H' s (fun H2 => Same H H2 ∧ H2 D = some (.lst ((xs.take (i + 1)).filterMap F))) _ (fun hn H2 s2 => ⟨s.trans s2, ?_⟩) (fun y hy H2 s2 => ⟨_, s2 _ _ e, szl (Nat.lt_of_le_of_lt (fm_len F xs i) hz), smut (s.trans s2) hD, ?_⟩)
    · rw [fm_take F hi, hn]
      show H2 D = some (.lst (_ ++ []))
      rw [List.append_nil]
      exact s2 _ _ e
    · rw [fm_take F hi, hy]
      exact upd_same
  · rw [List.take_of_length_le (Nat.le_refl _)] at p
    exact q D H' hD p.1 p.2
/-- .. over range(n) -/
theorem i_lcR [w : Wp vs σ σ0] {n : Int} (F : Nat → Option V) (hn : 0 ≤ n ∧ n < 100000)
    (hs : ∀ i : Nat, (i : Int) < n → ∀ H1, Same H H1 → ∀ (QN : Hp → Prop) (QY : VK), (F i = none → ∀ H2, Same H1 H2 → QN H2) → (∀ y, F i = some y → ∀ H2, Same H1 H2 → QY y H2) → g (.int (i : Int)) σ0 H1 (kLcB σ0 vs tt te QN QY))
    (q : ∀ p H', H p = none → Same H H' → H' p = some (.lst ((List.range n.toNat).filterMap F)) → Q (.ref p) H') : kLcR g tt te vs σ Q [.int n] H := by
  have w' := w.h
  subst w'
  have fr : ∀ i, (List.range (i + 1)).filterMap F = (List.range i).filterMap F ++ (F i).toList := fun i => by
    rw [List.range_succ, List.filterMap_append]
    cases e : F i <;> simp [List.filterMap, e]
  refine ⟨n, rfl, by omega, by omega, fun D hD => lc_range (lo := 0) (n := n.toNat) (fun i H' => Same H H' ∧ H' D = some (.lst ((List.range i).filterMap F))) ⟨same_new hD, upd_same⟩ (fun i H' hi p => ?_) (fun H' p => q D H' hD p.1 p.2)⟩
  obtain ⟨s, e⟩ := p
  have e0 : (0 : Int) + (i : Int) = (i : Int) := Int.zero_add _
  rw [e0]
  refine hs i (by omega) H' s (fun H2 => Same H H2 ∧ H2 D = some (.lst ((List.range (i + 1)).filterMap F))) _ (fun hn H2 s2 => ⟨s.trans s2, ?_⟩) (fun y hy H2 s2 => ⟨_, s2 _ _ e, szl (Nat.lt_of_le_of_lt (Nat.le_trans (List.length_filterMap_le _ _) (by rw [List.length_range]; exact Nat.le_of_lt hi)) (by omega)), smut (s.trans s2) hD, ?_⟩)
  · rw [fr, hn]
    show H2 D = some (.lst (_ ++ []))
    rw [List.append_nil]
    exact s2 _ _ e
  · rw [fr, hy]
    exact upd_same
/-- .. whose turns may change what stands: an invariant over the turn's number, the items so far and the heap -/
def kN (Pv : Addr → Nat → List V → Hp → Prop) (D : Addr) (i : Nat) : Hp → Prop := fun H => ∃ acc, acc.length ≤ i + 1 ∧ Pv D (i + 1) acc H
def kY (Pv : Addr → Nat → List V → Hp → Prop) (D : Addr) (i : Nat) : VK := fun y H => ∃ acc, H D = some (.lst acc) ∧ acc.length < sizeLine ∧ kN Pv D i (upd H D (.lst (acc ++ [y])))
theorem kN_of {Pv : Addr → Nat → List V → Hp → Prop} {D : Addr} {i : Nat} {acc : List V} (hl : acc.length ≤ i) (p : Pv D (i + 1) acc H) : kN Pv D i H := ⟨acc, by omega, p⟩
theorem kY_of {Pv : Addr → Nat → List V → Hp → Prop} {D : Addr} {i : Nat} {acc : List V} {y : V} (h : H D = some (.lst acc)) (hl : acc.length ≤ i) (hi : i < 100000) (p : Pv D (i + 1) (acc ++ [y]) (upd H D (.lst (acc ++ [y])))) : kY Pv D i y H :=
  ⟨acc, h, szl (by omega), acc ++ [y], by rw [List.length_append, List.length_singleton]; omega, p⟩
theorem i_lcLI [w : Wp vs σ σ0] (Pv : Addr → Nat → List V → Hp → Prop) (hx0 : SqL K H a xs) (h0 : ∀ D, H D = none → Pv D 0 [] (upd H D (.lst []))) (hx : ∀ D i acc H', H D = none → Pv D i acc H' → SqL K H' a xs)
    (hs : ∀ D i x acc H', H D = none → xs[i]? = some x → acc.length ≤ i → Pv D i acc H' → g x σ0 H' (kLcB σ0 vs tt te (kN Pv D i) (kY Pv D i)))
    (q : ∀ D acc H', H D = none → Pv D xs.length acc H' → Q (.ref D) H') : kLcL K g tt te vs σ Q (.ref a) H := by
  have w' := w.h
  subst w'
  exact ⟨a, rfl, ⟨xs, hx0⟩, fun D hD => lc_list (xs := xs) (fun i H' => ∃ acc, acc.length ≤ i ∧ Pv D i acc H') ⟨[], Nat.le_refl _, h0 D hD⟩ (fun i H' _ ⟨acc, _, p⟩ => hx D i acc H' hD p) (fun i x H' hi ⟨acc, hl, p⟩ => hs D i x acc H' hD hi hl p) (fun H' ⟨acc, _, p⟩ => q D acc H' hD p)⟩
theorem i_lcRI [w : Wp vs σ σ0] {n : Int} (Pv : Addr → Nat → List V → Hp → Prop) (hn : 0 ≤ n ∧ n < 100000) (h0 : ∀ D, H D = none → Pv D 0 [] (upd H D (.lst [])))
    (hs : ∀ D (i : Nat) acc H', H D = none → (i : Int) < n → acc.length ≤ i → Pv D i acc H' → g (.int (i : Int)) σ0 H' (kLcB σ0 vs tt te (kN Pv D i) (kY Pv D i)))
    (q : ∀ D acc H', H D = none → Pv D n.toNat acc H' → Q (.ref D) H') : kLcR g tt te vs σ Q [.int n] H := by
  have w' := w.h
  subst w'
  refine ⟨n, rfl, by omega, by omega, fun D hD => lc_range (lo := 0) (n := n.toNat) (fun i H' => ∃ acc, acc.length ≤ i ∧ Pv D i acc H') ⟨[], Nat.le_refl _, h0 D hD⟩ (fun i H' hi ⟨acc, hl, p⟩ => ?_) (fun H' ⟨acc, _, p⟩ => q D acc H' hD p)⟩
  have e0 : (0 : Int) + (i : Int) = (i : Int) := Int.zero_add _
  rw [e0]
  exact hs D i acc H' hD (by omega) hl p
end

/-! ### dict comprehensions over enumerate -/
def kDcB (σ0 : L2.St) (vs : List Nat) (tt : TT) (tk tv : TE) (D : Addr) (Nx : Hp → Prop) : L2.St → Hp → Prop := fun σ2 H2 => wipe σ2 vs = σ0 ∧ tt σ2 H2 fun b H3 =>
    if b = true then tk σ2 H3 fun y H4 => tv σ2 H4 fun z H5 => ∃ kvs k, y = kV k ∧ H5 D = some (.dK kvs) ∧ kvs.length < sizeLine ∧ Nx (upd H5 D (.dK (putK kvs k z))) else Nx H3
def kDc (tk tv : TE) (D : Addr) (Nx : Hp → Prop) (σ2 : L2.St) : Bool → Hp → Prop := fun b H3 => if b = true then tk σ2 H3 fun y H4 => tv σ2 H4 fun z H5 => ∃ kvs k, y = kV k ∧ H5 D = some (.dK kvs) ∧ kvs.length < sizeLine ∧ Nx (upd H5 D (.dK (putK kvs k z))) else Nx H3
def kDc1 (tv : TE) (D : Addr) (Nx : Hp → Prop) (σ2 : L2.St) : VK := fun y H4 => tv σ2 H4 fun z H5 => ∃ kvs k, y = kV k ∧ H5 D = some (.dK kvs) ∧ kvs.length < sizeLine ∧ Nx (upd H5 D (.dK (putK kvs k z)))
def kDc2 (D : Addr) (Nx : Hp → Prop) (y : V) : VK := fun z H5 => ∃ kvs k, y = kV k ∧ H5 D = some (.dK kvs) ∧ kvs.length < sizeLine ∧ Nx (upd H5 D (.dK (putK kvs k z)))
def DcLoop (J : It) (g : TG) (tt : TT) (tk tv : TE) (vs : List Nat) (σ : L2.St) (Q : VK) (H1 : Hp) : Prop := ∀ D, H1 D = none → ∃ W : Nat → Nat → Hp → Prop, (∃ m, W 0 m (upd H1 D (.dK []))) ∧ ∀ i m H, W i m H →
  (J.stop i H ∧ Q (.ref D) H) ∨ (J.go i H ∧ ∃ Nx : Hp → Prop, (∀ H', Nx H' → ∃ m', m' < m ∧ W (i + 1) m' H') ∧ ∀ x H', J.yld i H x H' → g x (wipe σ vs) H' fun σ2 H2 => wipe σ2 vs = wipe σ vs ∧ tt σ2 H2 fun b H3 =>
    if b = true then tk σ2 H3 fun y H4 => tv σ2 H4 fun z H5 => ∃ kvs k, y = kV k ∧ H5 D = some (.dK kvs) ∧ kvs.length < sizeLine ∧ Nx (upd H5 D (.dK (putK kvs k z))) else Nx H3)
def kDcE (K : PySem.W.Frag) (g : TG) (tt : TT) (tk tv : TE) (vs : List Nat) (σ : L2.St) (Q : VK) : List V → Hp → Prop := fun us H1 => ∃ a xs, us = [.ref a] ∧ SqL K H1 a xs ∧ DcLoop (Ite K a) g tt tk tv vs σ Q H1
section
variable {K : PySem.W.Frag} {H : Hp} {g : TG} {tt : TT} {tk tv : TE} {ta : TA} {vs : List Nat} {σ σ0 σ2 : L2.St} {Q : VK} {a D : Addr} {xs : List V} {Nx : Hp → Prop} {y z : V}
instance : Step (tDc (iEnum K ta) g tt tk tv vs σ H Q) (ta σ H (kDcE K g tt tk tv vs σ Q)) := ⟨fun h => h⟩
instance [w : Wp vs σ2 σ0] : Step (kDcB σ0 vs tt tk tv D Nx σ2 H) (tt σ2 H (kDc tk tv D Nx σ2)) := ⟨fun h => ⟨w.h, h⟩⟩
instance : Step (kDc tk tv D Nx σ2 true H) (tk σ2 H (kDc1 tv D Nx σ2)) := ⟨fun h => iteT h⟩
instance : Step (kDc tk tv D Nx σ2 false H) (Nx H) := ⟨fun h => iteF h⟩
instance : Step (kDc1 tv D Nx σ2 y H) (tv σ2 H (kDc2 D Nx y)) := ⟨fun h => h⟩
theorem i_dcE [w : Wp vs σ σ0] (E : Nat → List (Key × V)) (e0 : E 0 = []) (hE : ∀ i, (E i).length ≤ i) (hx : SqL K H a xs) (hz : xs.length < 100000)
    (hs : ∀ D i x T H1, H D = none → xs[i]? = some x → Same H H1 → H1 D = some (.dK (E i)) → H1 T = some (.tup [.int (i : Nat), x]) → T ≠ D → ∀ Nx : Hp → Prop, (∀ H2, Same H H2 → H2 D = some (.dK (E (i + 1))) → Nx H2) → g (.ref T) σ0 H1 (kDcB σ0 vs tt tk tv D Nx))
    (q : ∀ p H', H p = none → Same H H' → H' p = some (.dK (E xs.length)) → Q (.ref p) H') : kDcE K g tt tk tv vs σ Q [.ref a] H := by
  have w' := w.h
  subst w'
  refine ⟨a, xs, rfl, hx, fun D hD => ⟨fun i m H' => m = xs.length - i ∧ i ≤ xs.length ∧ Same H H' ∧ H' D = some (.dK (E i)), ⟨xs.length, by simp, Nat.zero_le _, same_new hD, by rw [e0]; exact upd_same⟩, ?_⟩⟩
  rintro i m H' ⟨rfl, hi, s, e⟩
  have hq := s.seq hx
  by_cases hlt : i < xs.length
  · refine .inr ⟨⟨xs, xs[i], hq, by simp [hlt]⟩, fun H2 => Same H H2 ∧ H2 D = some (.dK (E (i + 1))), fun H2 p' => ⟨xs.length - (i + 1), by omega, rfl, hlt, p'⟩, fun x H2 y => ?_⟩
    obtain ⟨T, x, rfl, nT, rfl, y⟩ := y
    have nTD : T ≠ D := (ne_of_none e nT).symm
    exact hs D i x T _ hD (y xs hq) (s.trans (same_new nT)) (by rw [upd_ne nTD.symm]; exact e) upd_same nTD _ fun H2 s2 e2 => ⟨s2, e2⟩
  · have ei : i = xs.length := by omega
    subst ei
    exact .inl ⟨⟨xs, hq, Nat.le_refl _⟩, q D H' hD s e⟩
end
/-! ### a dict comprehension that is given to a name -/
section
variable {X : Cx}
theorem sw_dc {kx vx : Expr} {cs : List Comprehension} {sc : Scope} {p py : Pos} {y : Str} {ln : Nat} {ev : Env} (hk : ev.scope.kind = .function) (hy : ev.scope.names.lookup y = some .local) (hl : (py.line == p.line) = true)
    (hn : (sc.names.any fun (n, k) => n == y && (k == .local || k == .cell)) = false) : swapsWith (.DictComp kx vx cs sc p) (some (.Name y py)) ln ev = pure true := by
  have k1 : ev.kindOf y = some .local := hy
  have k2 : ev.blockKind = .function := by unfold Env.blockKind; rw [hk]; rfl
  unfold swapsWith
  simp only [k2, k1, hn, Expr.pos, hl]
  rfl
theorem ps_setDc {i : Nat} {y : Str} {py : Pos} {kx vx tg it : Expr} {ifs : List Expr} {sc : Scope} {own : List (Str × Nat)} {p sp : Pos} {wi : TI} {g : TG} {tt : TT} {tk tv : TE} (hc : X.calm = true) (hN : X.N.Nodup) (hy : X.N[i]? = some y) (hl : X.env.scope.names.lookup y = some .local)
    (hw : swapsWith (.DictComp kx vx [⟨tg, it, ifs, 0⟩] sc p) (some (.Name y py)) sp.line X.env = pure true) (hi : PI X tg it wi) (ok : BlkOk X.N X.env.scope sc own)
    (hg : ∀ (s : Shared) (H : Hp) (C : Addr) (cl : List (Str × Addr)) (fp : List Addr), PG (X.blk s H sc (compEnvC sc cl C X.env) fp) tg g) (ht : ∀ (s : Shared) (H : Hp) (C : Addr) (cl : List (Str × Addr)) (fp : List Addr), PTs (X.blk s H sc (compEnvC sc cl C X.env) fp) ifs tt)
    (hk : ∀ (s : Shared) (H : Hp) (C : Addr) (cl : List (Str × Addr)) (fp : List Addr), PE (X.blk s H sc (compEnvC sc cl C X.env) fp) kx tk)
    (hv : ∀ (s : Shared) (H : Hp) (C : Addr) (cl : List (Str × Addr)) (fp : List Addr), PE (X.blk s H sc (compEnvC sc cl C X.env) fp) vx tv) (hs : ∀ x, foldedSetIterable it X.env x = pure x := by intro _; rfl) :
    PS X (.Assign [.Name y py] (.DictComp kx vx [⟨tg, it, ifs, 0⟩] sc p) sp) (tAsg (tDc wi g tt tk tv (own.map (·.2))) (gName i)) := by
  refine ⟨fun pn s σ H D J q => ?_⟩
  rw [exec_Assign_Name_used _ _ _ _ hw]
  refine wpAny_bind (wpAny_standAt (wpAny_bind ?_))
  show wpAny _ X.A (do let _ ← comprehension (.DictComp kx vx [⟨tg, it, ifs, 0⟩] sc p) sc X.env (firstIterPos [⟨tg, it, ifs, 0⟩] p) newDict false (eval it X.env) (some (assign (.Name y py) X.env))) _ _ s
  have q0 : tDc wi g tt tk tv (own.map (·.2)) σ H (fun x H1 => gName i x σ H1 D.nx) := q
  refine wpAny_bind (thn (dc_core (Qf := fun _ z => SP X pn D .next z) hc hN J hi ok hg ht hk hv hs q0 fun L C z m H' J' q1 nC f => ?_) fun _ z hz => wpAny_pure (wpAny_pure hz))
  show wpAny _ _ (assign (.Name y py) X.env (.ref L)) _ _ _
  refine wpAny_assign_Name (store_ok2 (v := V.ref L) J' hN hy (.inl hl) rfl (fun z2 J2 ⟨a, sb, ha⟩ => ?_) (.inr hl))
  obtain ⟨a0, a1, a2, a3, a4, a5⟩ := f
  have nCa : C ≠ a := by
    rcases ha with e | e
    · rw [e]; exact a1
    · exact fun e' => a4 y a e e'.symm
  refine ⟨m, nC.sameBut sb nCa, fun h3 sb3 => ?_⟩
  exact ⟨_, H', J2.turned (t' := z2.toks) (fun b o hb e => (sb3.2 b hb).trans e) a0 a1 a3 a4 a5, q1⟩
end
end Esc

/-! Rows of digits and their numbers. -/
namespace Esc
theorem mem_dl {α : Type} {l : List α} {x : α} (h : x ∈ l.dropLast) : x ∈ l := List.dropLast_subset l h
def rankD (n : Nat) (ds : List Nat) : Nat := ds.foldl (fun r d => r * n + d + 1) 0
theorem rankD_snoc (n : Nat) (ds : List Nat) (d : Nat) : rankD n (ds ++ [d]) = rankD n ds * n + d + 1 := by
  unfold rankD
  rw [List.foldl_append]
  rfl
def rowD (n r : Nat) : List Nat := if h : r = 0 then [] else rowD n ((r - 1) / n) ++ [(r - 1) % n]
termination_by r
decreasing_by exact Nat.lt_of_le_of_lt (Nat.div_le_self _ _) (by omega)
theorem rowD_zero (n : Nat) : rowD n 0 = [] := by
  rw [rowD]
  exact dif_pos rfl
theorem rowD_pos {n r : Nat} (h : r ≠ 0) : rowD n r = rowD n ((r - 1) / n) ++ [(r - 1) % n] := by
  rw [rowD]
  exact dif_neg h
theorem div_lt' {n r : Nat} (h : r ≠ 0) : (r - 1) / n < r := Nat.lt_of_le_of_lt (Nat.div_le_self _ _) (by omega)
theorem rank_row {n : Nat} : ∀ r : Nat, rankD n (rowD n r) = r := fun r => by
  induction r using Nat.strongRecOn with
  | _ r ih =>
    by_cases h : r = 0
    · rw [h, rowD_zero]
      rfl
    · rw [rowD_pos h, rankD_snoc, ih _ (div_lt' h)]
      have e := Nat.div_add_mod (r - 1) n
      rw [Nat.mul_comm] at e
      omega
theorem row_rank {n : Nat} (hn : 0 < n) : ∀ (k : Nat) (ds : List Nat), ds.length = k → (∀ d ∈ ds, d < n) → rowD n (rankD n ds) = ds
  | 0, [], _, _ => rowD_zero n
  | k + 1, ds, hk, h => by
    have hne : ds ≠ [] := fun e => by
      rw [e] at hk
      cases hk
    have e := List.dropLast_concat_getLast hne
    have hd : ds.getLast hne < n := h _ (List.getLast_mem hne)
    have ih := row_rank hn k ds.dropLast (by rw [List.length_dropLast, hk]; rfl) (fun d m => h d (mem_dl m))
    rw [← e, rankD_snoc, rowD_pos (by omega)]
    have e1 : rankD n ds.dropLast * n + ds.getLast hne + 1 - 1 = ds.getLast hne + n * rankD n ds.dropLast := by
      rw [Nat.mul_comm]
      omega
    rw [e1, Nat.add_mul_div_left _ _ hn, Nat.div_eq_of_lt hd, Nat.zero_add, ih, Nat.add_mul_mod_self_left, Nat.mod_eq_of_lt hd]
theorem row_lt {n : Nat} (hn : 0 < n) : ∀ (r : Nat), ∀ d ∈ rowD n r, d < n := fun r => by
  induction r using Nat.strongRecOn with
  | _ r ih =>
    intro d hd
    by_cases h : r = 0
    · rw [h, rowD_zero] at hd
      cases hd
    · rw [rowD_pos h] at hd
      rcases List.mem_append.mp hd with hd | hd
      · exact ih _ (div_lt' h) d hd
      · rw [List.mem_singleton.mp hd]
        exact Nat.mod_lt _ hn
theorem row_len_mono {m n : Nat} (hm : 0 < m) (hmn : m ≤ n) : ∀ (s r : Nat), r ≤ s → (rowD n r).length ≤ (rowD m s).length := fun s => by
  induction s using Nat.strongRecOn with
  | _ s ih =>
    intro r hr
    by_cases h : r = 0
    · rw [h, rowD_zero]
      exact Nat.zero_le _
    · have hs : s ≠ 0 := by omega
      rw [rowD_pos h, rowD_pos hs, List.length_append, List.length_append]
      have e : (r - 1) / n ≤ (s - 1) / m := Nat.le_trans (Nat.div_le_div_left hmn hm) (Nat.div_le_div_right (by omega))
      exact Nat.add_le_add_right (ih _ (div_lt' hs) _ e) _
/-- shorter rows have lesser numbers -/
theorem rank_short {n : Nat} (hn : 0 < n) : ∀ (k : Nat) (a b : List Nat), b.length = k → a.length < b.length → (∀ d ∈ a, d < n) → rankD n a < rankD n b
  | 0, a, b, hk, h, _ => by omega
  | k + 1, a, b, hk, h, ha => by
    have hb : b ≠ [] := fun e => by
      rw [e] at hk
      cases hk
    have e := List.dropLast_concat_getLast hb
    rw [← e, rankD_snoc]
    by_cases hz : a = []
    · rw [hz]
      show 0 < _
      omega
    · have e2 := List.dropLast_concat_getLast hz
      have hd : a.getLast hz < n := ha _ (List.getLast_mem hz)
      have l1 : a.length = a.dropLast.length + 1 := by
        rw [List.length_dropLast]
        have : a.length ≠ 0 := fun q => hz (List.length_eq_zero_iff.mp q)
        omega
      have l2 : b.dropLast.length = k := by
        rw [List.length_dropLast, hk]
        rfl
      have ih := rank_short hn k a.dropLast b.dropLast l2 (by omega) (fun d m => ha d (mem_dl m))
      have r1 : rankD n a = rankD n a.dropLast * n + a.getLast hz + 1 := by
        have z := rankD_snoc n a.dropLast (a.getLast hz)
        rw [e2] at z
        exact z
      have m1 : (rankD n a.dropLast + 1) * n ≤ rankD n b.dropLast * n := Nat.mul_le_mul_right _ ih
      rw [Nat.add_mul, Nat.one_mul] at m1
      rw [r1]
      omega
/-- a list ahead of another one, sign by sign -/
def lexN : List Nat → List Nat → Bool
  | [], [] => false
  | [], _ :: _ => true
  | _ :: _, [] => false
  | a :: x, b :: y => if a = b then lexN x y else decide (a < b)
theorem lexN_snoc : ∀ (x y : List Nat) (a b : Nat), x.length = y.length → lexN (x ++ [a]) (y ++ [b]) = (lexN x y || (decide (x = y) && decide (a < b)))
  | [], [], a, b, _ => by
    show (if a = b then false else decide (a < b)) = _
    by_cases h : a = b
    · rw [if_pos h, h]
      simp [lexN]
    · rw [if_neg h]
      simp [lexN]
  | [], _ :: _, _, _, h => by simp at h
  | _ :: _, [], _, _, h => by simp at h
  | p :: x, q :: y, a, b, h => by
    show (if p = q then lexN (x ++ [a]) (y ++ [b]) else decide (p < q)) = ((if p = q then lexN x y else decide (p < q)) || _)
    by_cases e : p = q
    · rw [if_pos e, if_pos e, lexN_snoc x y a b (by simpa using h), e]
      simp
    · rw [if_neg e, if_neg e]
      simp [e]
theorem rank_lex {n : Nat} (hn : 0 < n) : ∀ (k : Nat) (a b : List Nat), a.length = k → b.length = k → (∀ d ∈ a, d < n) → (∀ d ∈ b, d < n) → decide (rankD n a < rankD n b) = lexN a b
  | 0, [], [], _, _, _, _ => rfl
  | k + 1, a, b, h1, h2, ha, hb => by
    have na : a ≠ [] := fun e => by
      rw [e] at h1
      cases h1
    have nb : b ≠ [] := fun e => by
      rw [e] at h2
      cases h2
    have ea := List.dropLast_concat_getLast na
    have eb := List.dropLast_concat_getLast nb
    have la : a.dropLast.length = k := by
      rw [List.length_dropLast, h1]
      rfl
    have lb : b.dropLast.length = k := by
      rw [List.length_dropLast, h2]
      rfl
    have ha' : ∀ d ∈ a.dropLast, d < n := fun d m => ha d (mem_dl m)
    have hb' : ∀ d ∈ b.dropLast, d < n := fun d m => hb d (mem_dl m)
    have ih := rank_lex hn k a.dropLast b.dropLast la lb ha' hb'
    have da : a.getLast na < n := ha _ (List.getLast_mem na)
    have db : b.getLast nb < n := hb _ (List.getLast_mem nb)
    rw [← ea, ← eb, lexN_snoc _ _ _ _ (la.trans lb.symm), rankD_snoc, rankD_snoc, ← ih]
    generalize hA : rankD n a.dropLast = A
    generalize hB : rankD n b.dropLast = B
    generalize a.getLast na = x at da
    generalize b.getLast nb = y at db
    have hAB : (a.dropLast = b.dropLast) ↔ A = B := ⟨fun e => by rw [← hA, ← hB, e], fun e => by
      rw [← row_rank hn k _ la ha', ← row_rank hn k _ lb hb', hA, hB, e]⟩
    rw [show decide (a.dropLast = b.dropLast) = decide (A = B) from decide_eq_decide.mpr hAB]
    by_cases c1 : A < B
    · have m1 : (A + 1) * n ≤ B * n := Nat.mul_le_mul_right _ c1
      rw [Nat.add_mul, Nat.one_mul] at m1
      rw [decide_eq_true c1, decide_eq_true (by omega)]
      rfl
    · by_cases c2 : A = B
      · rw [c2]
        simp
      · have m1 : (B + 1) * n ≤ A * n := Nat.mul_le_mul_right _ (by omega)
        rw [Nat.add_mul, Nat.one_mul] at m1
        rw [decide_eq_false c1, decide_eq_false c2, decide_eq_false (by omega)]
        rfl
/-- fewer signs first, of as many those that are less -/
def lessD (a b : List Nat) : Bool := decide (a.length < b.length) || (decide (a.length = b.length) && lexN a b)
theorem rank_less {n : Nat} (hn : 0 < n) {a b : List Nat} (ha : ∀ d ∈ a, d < n) (hb : ∀ d ∈ b, d < n) : lessD a b = decide (rankD n a < rankD n b) := by
  unfold lessD
  by_cases c1 : a.length < b.length
  · rw [decide_eq_true c1, decide_eq_true (rank_short hn _ a b rfl c1 ha)]
    rfl
  · by_cases c2 : a.length = b.length
    · rw [decide_eq_false c1, decide_eq_true c2, rank_lex hn b.length a b c2 rfl ha hb]
      simp
    · have z := rank_short hn _ b a rfl (by omega) hb
      rw [decide_eq_false c1, decide_eq_false c2, decide_eq_false (by omega)]
      rfl
/-- a longer number than that of a row has at most one sign more -/
theorem row_next_len {n : Nat} (hn : 0 < n) (ds : List Nat) (h : ∀ d ∈ ds, d < n) : (rowD n (rankD n ds + 1)).length ≤ ds.length + 1 := by
  have h1 := row_lt hn (rankD n ds + 1)
  by_cases c : (rowD n (rankD n ds + 1)).length ≤ ds.length + 1
  · exact c
  · exfalso
    have hz : ∀ d ∈ List.replicate (ds.length + 1) 0, d < n := fun d m => by
      rw [(List.mem_replicate.mp m).2]
      exact hn
    have z1 := rank_short hn _ ds (List.replicate (ds.length + 1) 0) rfl (by simp) h
    have z2 := rank_short hn _ (List.replicate (ds.length + 1) 0) (rowD n (rankD n ds + 1)) rfl (by rw [List.length_replicate]; omega) hz
    rw [rank_row] at z2
    omega
/-- the number by places: what the signs are worth, and the shorter lists -/
def numD (m : Nat) (ds : List Nat) : Nat × Nat × Nat := ds.foldl (fun (s : Nat × Nat × Nat) d => (s.1 * m + d, s.2.1 + s.2.2, s.2.2 * m)) (0, 0, 1)
theorem numD_snoc (m : Nat) (ds : List Nat) (d : Nat) : numD m (ds ++ [d]) = ((numD m ds).1 * m + d, (numD m ds).2.1 + (numD m ds).2.2, (numD m ds).2.2 * m) := by
  unfold numD
  rw [List.foldl_append]
  rfl
theorem num_inv (m : Nat) (hm : 0 < m) : ∀ (k : Nat) (ds : List Nat), ds.length = k → (numD m ds).2.2 + (numD m ds).2.1 = (numD m ds).2.1 * m + 1 ∧ (numD m ds).1 + (numD m ds).2.1 = rankD m ds ∧ (numD m ds).2.2 = m ^ k
  | 0, [], _ => by
    refine ⟨?_, rfl, rfl⟩
    show 1 + 0 = 0 * m + 1
    omega
  | k + 1, ds, hk => by
    have hne : ds ≠ [] := fun e => by
      rw [e] at hk
      cases hk
    have e := List.dropLast_concat_getLast hne
    have ih := num_inv m hm k ds.dropLast (by rw [List.length_dropLast, hk]; rfl)
    rw [← e, numD_snoc, rankD_snoc]
    generalize numD m ds.dropLast = s at ih
    obtain ⟨v, a, l⟩ := s
    obtain ⟨i1, i2, i3⟩ := ih
    dsimp only at i1 i2 i3 ⊢
    have z : (l + a) * m = (a * m + 1) * m := by rw [i1]
    rw [Nat.add_mul, Nat.add_mul, Nat.one_mul] at z
    refine ⟨?_, ?_, ?_⟩
    · rw [Nat.add_mul]
      omega
    · rw [← i2, Nat.add_mul]
      omega
    · rw [i3]
      rfl
/-! ### what the signs are worth, how many shorter rows there are -/
def valD (m : Nat) (ds : List Nat) : Nat := ds.foldl (fun r d => r * m + d) 0
theorem valD_snoc (m : Nat) (ds : List Nat) (d : Nat) : valD m (ds ++ [d]) = valD m ds * m + d := by
  unfold valD
  rw [List.foldl_append]
  rfl
def aheadD (m : Nat) : Nat → Nat
  | 0 => 0
  | k + 1 => aheadD m k + m ^ k
theorem ahead_mul (m : Nat) : ∀ k : Nat, aheadD m k * m + 1 = aheadD m k + m ^ k
  | 0 => by
    show 0 * m + 1 = 0 + 1
    omega
  | k + 1 => by
    have ih := ahead_mul m k
    show (aheadD m k + m ^ k) * m + 1 = (aheadD m k + m ^ k) + m ^ (k + 1)
    rw [Nat.add_mul, Nat.pow_succ]
    omega
theorem rank_val (m : Nat) : ∀ (k : Nat) (ds : List Nat), ds.length = k → rankD m ds = valD m ds + aheadD m k
  | 0, [], _ => rfl
  | k + 1, ds, hk => by
    have hne : ds ≠ [] := fun e => by
      rw [e] at hk
      cases hk
    have e := List.dropLast_concat_getLast hne
    have ih := rank_val m k ds.dropLast (by rw [List.length_dropLast, hk]; rfl)
    rw [← e, rankD_snoc, valD_snoc, ih, Nat.add_mul]
    have z := ahead_mul m k
    show _ = _ + (aheadD m k + m ^ k)
    omega
theorem val_lt {m : Nat} : ∀ (k : Nat) (ds : List Nat), ds.length = k → (∀ d ∈ ds, d < m) → valD m ds < m ^ k
  | 0, [], _, _ => Nat.one_pos
  | k + 1, ds, hk, h => by
    have hne : ds ≠ [] := fun e => by
      rw [e] at hk
      cases hk
    have e := List.dropLast_concat_getLast hne
    have hd : ds.getLast hne < m := h _ (List.getLast_mem hne)
    have ih := val_lt k ds.dropLast (by rw [List.length_dropLast, hk]; rfl) (fun d z => h d (mem_dl z))
    rw [← e, valD_snoc]
    have m1 : (valD m ds.dropLast + 1) * m ≤ m ^ k * m := Nat.mul_le_mul_right _ ih
    rw [Nat.add_mul, Nat.one_mul] at m1
    rw [Nat.pow_succ]
    omega
theorem ahead_mono (m : Nat) : ∀ {j k : Nat}, j ≤ k → aheadD m j ≤ aheadD m k := fun {j k} h => by
  induction k with
  | zero =>
    rw [Nat.le_zero.mp h]
    exact Nat.le_refl _
  | succ k ih =>
    rcases Nat.lt_or_ge j (k + 1) with c | c
    · exact Nat.le_trans (ih (by omega)) (Nat.le_add_right _ _)
    · rw [show j = k + 1 by omega]
      exact Nat.le_refl _
/-! ### how long rows are -/
theorem rank_up {n : Nat} : ∀ (k : Nat) (ds : List Nat), ds.length = k → (∀ d ∈ ds, d < n) → rankD n ds + 1 ≤ (n + 1) ^ k
  | 0, [], _, _ => Nat.le_refl _
  | k + 1, ds, hk, h => by
    have hne : ds ≠ [] := fun e => by
      rw [e] at hk
      cases hk
    have e := List.dropLast_concat_getLast hne
    have hd : ds.getLast hne < n := h _ (List.getLast_mem hne)
    have ih := rank_up k ds.dropLast (by rw [List.length_dropLast, hk]; rfl) (fun d z => h d (mem_dl z))
    rw [← e, rankD_snoc, Nat.pow_succ]
    have m1 : (rankD n ds.dropLast + 1) * (n + 1) ≤ (n + 1) ^ k * (n + 1) := Nat.mul_le_mul_right _ ih
    rw [Nat.add_mul, Nat.mul_add, Nat.mul_one, Nat.one_mul] at m1
    omega
theorem rank_down {m : Nat} (hm : 2 ≤ m) : ∀ (k : Nat) (ds : List Nat), ds.length = k → 2 ^ k ≤ rankD m ds + 1
  | 0, [], _ => Nat.le_refl _
  | k + 1, ds, hk => by
    have hne : ds ≠ [] := fun e => by
      rw [e] at hk
      cases hk
    have e := List.dropLast_concat_getLast hne
    have ih := rank_down hm k ds.dropLast (by rw [List.length_dropLast, hk]; rfl)
    rw [← e, rankD_snoc, Nat.pow_succ]
    have m1 : rankD m ds.dropLast * 2 ≤ rankD m ds.dropLast * m := Nat.mul_le_mul_left _ hm
    omega
theorem row_short {m n : Nat} (hm : 2 ≤ m) (hn : n ≤ 31) {ds : List Nat} (h : ∀ d ∈ ds, d < n) : (rowD m (rankD n ds)).length ≤ 5 * ds.length := by
  have a := rank_up ds.length ds rfl h
  have b := rank_down hm (rowD m (rankD n ds)).length (rowD m (rankD n ds)) rfl
  rw [rank_row] at b
  have c : (n + 1) ^ ds.length ≤ 32 ^ ds.length := Nat.pow_le_pow_left (by omega) _
  have d : (32 : Nat) ^ ds.length = 2 ^ (5 * ds.length) := by
    rw [Nat.pow_mul]
  rw [d] at c
  exact (Nat.pow_le_pow_iff_right (by decide : 1 < 2)).mp (Nat.le_trans b (Nat.le_trans a c))
end Esc

/-! More steps: slices, dicts of the module, defs held by names, data compared. -/
namespace Esc
open PySem PySem.Spec PyProof.Rows L2
section
variable {K : PySem.W.Frag} {w : World} {H : Hp} {Q : VK} {xs ys zs : List V} {a l b p : Addr} {x y z v : V} {σ : L2.St} {t : TA} {i : Nat}
theorem i_slT {lo hi : Option Int} (h : SqT K H a xs) (n : ¬ (HT.sIx xs.length 0 lo = 0 ∧ HT.sIx xs.length xs.length hi = xs.length)) (q : ∀ p H', H p = none → Same H H' → H' p = some (.tup (cutV xs lo hi)) → Q (.ref p) H') : rSlT K (.ref a) lo hi H Q := ⟨a, xs, rfl, h, n, grow q⟩
theorem cut_to (xs : List V) (k : Nat) : cutV xs none (some (k : Int)) = xs.take k := by
  unfold cutV
  rw [HT.sIx_none, HT.sIx_nat, Nat.sub_zero, List.drop_zero]
  rcases Nat.lt_or_ge k xs.length with h | h
  · rw [Nat.min_eq_left (Nat.le_of_lt h)]
  · rw [Nat.min_eq_right h, List.take_length, List.take_of_length_le h]
theorem cut_from (xs : List V) (k : Nat) : cutV xs (some (k : Int)) none = xs.drop k := by
  unfold cutV
  rw [HT.sIx_none, HT.sIx_nat]
  rcases Nat.lt_or_ge k xs.length with h | h
  · rw [Nat.min_eq_left (Nat.le_of_lt h), List.take_of_length_le (by rw [List.length_drop]; exact Nat.le_refl _)]
  · rw [Nat.min_eq_right h, Nat.sub_self, List.drop_of_length_le h]
    rfl
theorem cut_butlast (xs : List V) (v : V) : cutV (xs ++ [v]) none (some (-1)) = xs := by
  unfold cutV
  rw [HT.sIx_none, Nat.sub_zero, List.drop_zero]
  have e : HT.sIx (xs ++ [v]).length (xs ++ [v]).length (some (-1)) = xs.length := by
    show (if (-1 : Int) < 0 then ((-1 : Int) + ((xs ++ [v]).length : Int)).toNat else min (-1 : Int).toNat (xs ++ [v]).length) = _
    rw [if_pos (by decide), List.length_append, List.length_singleton]
    omega
  rw [e, List.take_left]
theorem i_count {ns : List Int} {k : Int} (h : SqL K H a (ns.map V.int)) (q : Q (.int (ns.count k : Nat)) H) : rCntI K (.ref a) [.int k] H Q := ⟨a, ns, k, rfl, rfl, h, q⟩
theorem i_all {bs : List Bool} (h : SqL K H a (bs.map V.bl)) (q : Q (.bl (bs.all id)) H) : rAll K [.ref a] H Q := ⟨a, bs, rfl, h, q⟩
theorem i_callA {S : Addr → Option Sp} {f : Addr} {sp : Sp} [e : Lk i σ (.ref f)] (hS : S f = some sp) (h : t σ H (kCallA Q sp)) : tCallA i S t σ H Q := ⟨f, sp, e.h, hS, h⟩
theorem i_kd {z : Str} (h : KDct K w p z v) (q : Q v H) : rIxD K w (.ref p) (.str z) H Q := ⟨p, z, v, rfl, rfl, h, q⟩
end
theorem held_of {P : Program} {w : World} {K : PySem.W.Frag} {mg : Str → Option Value} {base : Heap} {k j : Nat} {x : Str} {sp : Sp} {f : Addr} (c : C8.Cal P w K mg base k x sp []) (hm : mg x = some (.ref f)) (h : k ≤ j) : Held P w K mg base j f sp := by
  obtain ⟨f', fd, ps, ds, F, m, kp, b, d⟩ := c.ex
  have e := m.symm.trans hm
  cases e
  cases d
  exact ⟨fd, ps, F.mono h, kp, b⟩
/-! ### data -/
def intsD (ns : List Int) : PyData := .list (ns.map PyData.int)
theorem eqvAll_ints : ∀ xs ys : List Int, PyData.eqvAll (xs.map PyData.int) (ys.map PyData.int) = decide (xs = ys)
  | [], [] => by simp [PyData.eqvAll]
  | [], _ :: _ => by simp [PyData.eqvAll]
  | _ :: _, [] => by simp [PyData.eqvAll]
  | x :: xs, y :: ys => by
    rw [List.map_cons, List.map_cons, PyData.eqvAll, eqvAll_ints xs ys]
    by_cases h : x = y
    · rw [h]
      simp [PyData.eqv]
    · simp [PyData.eqv, h]
theorem eqv_ints (xs ys : List Int) : PyData.eqv (intsD xs) (intsD ys) = decide (xs = ys) := by
  unfold intsD
  rw [PyData.eqv]
  exact eqvAll_ints xs ys
theorem lay_ints : ∀ xs : List Int, PyData.canLayAll0 (xs.map PyData.int) = true
  | [] => by simp [PyData.canLayAll0]
  | x :: xs => by
    rw [List.map_cons, PyData.canLayAll0, lay_ints xs]
    simp [PyData.canLay0]
theorem depth_ints : ∀ xs : List Int, PyData.depthAll (xs.map PyData.int) = 0
  | [] => by simp [PyData.depthAll]
  | x :: xs => by
    rw [List.map_cons, PyData.depthAll, depth_ints xs]
    simp [PyData.depth]
theorem shaped_ints (xs : List Int) : SeqAt.shaped (intsD xs) = true := by
  unfold SeqAt.shaped intsD
  rw [PyData.canLay0, lay_ints, PyData.depth, depth_ints]
  rfl
theorem dpa_ints {K : PySem.W.Frag} {H : Hp} : ∀ xs : List Int, DpAll K H (xs.map V.int) (xs.map PyData.int)
  | [] => .nil
  | x :: xs => .cons (.int x) (dpa_ints xs)
theorem dp_ints {K : PySem.W.Frag} {H : Hp} {a : Addr} {xs : List Int} (h : SqL K H a (xs.map V.int)) : Dp K H (.ref a) (intsD xs) := .lst h (dpa_ints xs)
theorem i_eqL {K : PySem.W.Frag} {H : Hp} {Q : VK} {a b : Addr} {xs ys : List Int} (h : SqL K H a (xs.map V.int)) (h' : SqL K H b (ys.map V.int)) (q : Q (.bl (decide (xs = ys))) H) : rEqD K (.ref a) (.ref b) H Q :=
  ⟨_, _, dp_ints h, dp_ints h', shaped_ints xs, shaped_ints ys, by rw [eqv_ints]; exact q⟩
theorem i_neL {K : PySem.W.Frag} {H : Hp} {Q : VK} {a b : Addr} {xs ys : List Int} (h : SqL K H a (xs.map V.int)) (h' : SqL K H b (ys.map V.int)) (q : Q (.bl (!decide (xs = ys))) H) : rNeD K (.ref a) (.ref b) H Q :=
  ⟨_, _, dp_ints h, dp_ints h', shaped_ints xs, shaped_ints ys, by rw [eqv_ints]; exact q⟩
/-! ### a < b of data -/
def rLtD (K : PySem.W.Frag) : R2 := fun x y H Q => ∃ d e, Dp K H x d ∧ Dp K H y e ∧ PySem.W.alike d e = true ∧ d ≠ .none ∧ d.depth ≤ 64 ∧ Q (.bl (PySem.W.dataLt d e)) H
theorem op_ltD {X : Cx} (hu : X.A.units + 64 < cLine) : OpR X (compareOp .Lt) (rLtD X.K) := by
  intro pn s σ H x y v u Q J rx ry h
  obtain ⟨d, e, hd, he, al, nn, dd, q⟩ := h
  obtain ⟨as, r1⟩ := Dp.reads J d x v hd rx
  obtain ⟨bs, r2⟩ := Dp.reads J e y u he ry
  have hm : min d.depth e.depth ≤ d.depth := Nat.min_le_left _ _
  exact PySem.W.rcLt_alike d e X.A s v u as bs r1 r2 al nn (by omega) X.prog X.w X.xe _ ⟨.bl _, H, J, rfl, q⟩
def lexI : List Int → List Int → Bool
  | [], [] => false
  | [], _ :: _ => true
  | _ :: _, [] => false
  | a :: x, b :: y => if a = b then lexI x y else decide (a < b)
theorem alike_ints : ∀ xs ys : List Int, PySem.W.alikeAll (xs.map PyData.int) (ys.map PyData.int) = true
  | [], _ => by simp [PySem.W.alikeAll]
  | _ :: _, [] => by simp [PySem.W.alikeAll]
  | x :: xs, y :: ys => by
    rw [List.map_cons, List.map_cons, PySem.W.alikeAll, alike_ints xs ys]
    simp [PySem.W.alike]
theorem toks_nil : PySem.W.keyToksAll [] = [.inl 0] := by rw [PySem.W.keyToksAll]
theorem toks_int (x : Int) : PySem.W.keyToks (.int x) = [.inl x] := by rw [PySem.W.keyToks]
theorem lex_ints : ∀ xs ys : List Int, PyProof.Rows.lexLt PyProof.Rows.itemOrd (PySem.W.keyToksAll (xs.map PyData.int)) (PySem.W.keyToksAll (ys.map PyData.int)) = lexI xs ys
  | [], [] => by
    rw [List.map_nil, toks_nil, PyProof.Rows.lex_self]
    rfl
  | [], y :: ys => by
    rw [List.map_nil, toks_nil, List.map_cons, PySem.W.toks_all_cons, PyProof.Rows.lex_diff (by simp)]
    rfl
  | x :: xs, [] => by
    rw [List.map_nil, toks_nil, List.map_cons, PySem.W.toks_all_cons, PyProof.Rows.lex_diff (by simp)]
    rfl
  | x :: xs, y :: ys => by
    rw [List.map_cons, List.map_cons, PySem.W.toks_all_cons, PySem.W.toks_all_cons, PyProof.Rows.lex_self, toks_int, toks_int]
    show PyProof.Rows.lexLt PyProof.Rows.itemOrd (.inl x :: _) (.inl y :: _) = if x = y then lexI xs ys else decide (x < y)
    by_cases h : x = y
    · rw [h, if_pos rfl]
      show PyProof.Rows.lexLt PyProof.Rows.itemOrd (.inl y :: ([] ++ _)) (.inl y :: ([] ++ _)) = _
      rw [PyProof.Rows.lex_self]
      exact lex_ints xs ys
    · rw [if_neg h, PyProof.Rows.lex_diff (by simpa using h)]
      rfl
theorem lexI_self : ∀ xs : List Int, lexI xs xs = false
  | [] => rfl
  | x :: xs => by
    show (if x = x then lexI xs xs else _) = false
    rw [if_pos rfl, lexI_self xs]
/-- (n, xs) < (m, ys) -/
def pairD (n : Int) (xs : List Int) : PyData := .tuple [.int n, intsD xs]
theorem lt_pair (n m : Int) (xs ys : List Int) : PySem.W.dataLt (pairD n xs) (pairD m ys) = if n = m then lexI xs ys else decide (n < m) := by
  unfold pairD
  by_cases h : n = m
  · rw [if_pos h, PySem.W.dataLt_tuple, PySem.W.dataLt_all_yes (by rw [PySem.W.alike]) (by rw [h]; simp [PyData.eqv])]
    by_cases e : xs = ys
    · rw [e, PySem.W.dataLt_all_yes (by unfold intsD; rw [PySem.W.alike]; exact alike_ints ys ys) (by rw [eqv_ints]; simp), toks_nil, PyProof.Rows.lex_self, lexI_self]
      rfl
    · rw [PySem.W.dataLt_all_no (by unfold intsD; rw [PySem.W.alike]; exact alike_ints xs ys) (by rw [eqv_ints]; simpa using e)]
      unfold intsD
      rw [PySem.W.dataLt_list, lex_ints]
  · rw [if_neg h, PySem.W.dataLt_tuple, PySem.W.dataLt_all_no (by rw [PySem.W.alike]) (by simp [PyData.eqv, h]), PySem.W.dataLt_int]
theorem dp_pair {K : PySem.W.Frag} {H : Hp} {p a : Addr} {n : Int} {xs : List Int} (h : SqT K H p [.int n, .ref a]) (h' : SqL K H a (xs.map V.int)) : Dp K H (.ref p) (pairD n xs) := .tup h (.cons (.int n) (.cons (dp_ints h') .nil))
theorem i_ltP {K : PySem.W.Frag} {H : Hp} {Q : VK} {p q a b : Addr} {n m : Int} {xs ys : List Int} (h1 : SqT K H p [.int n, .ref a]) (h2 : SqL K H a (xs.map V.int)) (h3 : SqT K H q [.int m, .ref b]) (h4 : SqL K H b (ys.map V.int))
    (k : Q (.bl (if n = m then lexI xs ys else decide (n < m))) H) : rLtD K (.ref p) (.ref q) H Q := by
  refine ⟨_, _, dp_pair h1 h2, dp_pair h3 h4, ?_, (fun z => by cases z), ?_, by rw [lt_pair]; exact k⟩
  · unfold pairD intsD
    simp only [PySem.W.alike, PySem.W.alikeAll, alike_ints]
    rfl
  · unfold pairD intsD
    simp [PyData.depth, PyData.depthAll, depth_ints]
end Esc

namespace Esc
open PySem PySem.Spec PyProof.Rows L2
theorem eqV_int (a b : Int) : eqV (.int a) (.int b) = decide (a = b) := by
  unfold eqV
  by_cases h : a = b <;> simp [h]
theorem flat_ints (ls : List Int) : (ls.map V.int).all flatV = true := by
  rw [List.all_eq_true]
  intro x hx
  obtain ⟨n, _, rfl⟩ := List.mem_map.mp hx
  rfl
theorem i_indexI {K : PySem.W.Frag} {H : Hp} {Q : VK} {a : Addr} {ls : List Int} {x : Int} (h : SqL K H a (ls.map V.int)) (m : x ∈ ls) (q : Q (.int ((ls.idxOf x : Nat) : Int)) H) : rIndex K (.ref a) [.int x] H Q := by
  have hi := List.idxOf_lt_length_of_mem m
  refine ⟨a, _, .int x, ls.idxOf x, .int x, rfl, rfl, h, rfl, flat_ints ls, ?_, by rw [eqV_int]; simp, fun j z hj hz => ?_, q⟩
  · rw [List.getElem?_map, List.getElem?_eq_getElem hi, List.getElem_idxOf hi]
    rfl
  · rw [List.getElem?_map] at hz
    have hj' : j < ls.length := by omega
    rw [List.getElem?_eq_getElem hj'] at hz
    cases hz
    rw [eqV_int]
    have z := List.not_of_lt_findIdx (p := fun y => y == x) hj
    simpa using z
/-! ### order -/
theorem lexI_letters {ls : List Int} (pw : ls.Pairwise (· < ·)) : ∀ (x y : List Nat), (∀ d ∈ x, d < ls.length) → (∀ d ∈ y, d < ls.length) → lexI (x.map fun d => ls.getD d 0) (y.map fun d => ls.getD d 0) = lexN x y
  | [], [], _, _ => rfl
  | [], _ :: _, _, _ => rfl
  | _ :: _, [], _, _ => rfl
  | a :: x, b :: y, hx, hy => by
    have ha := hx a List.mem_cons_self
    have hb := hy b List.mem_cons_self
    have ih := lexI_letters pw x y (fun d m => hx d (List.mem_cons_of_mem _ m)) (fun d m => hy d (List.mem_cons_of_mem _ m))
    have g : ∀ {i : Nat} (h : i < ls.length), ls.getD i 0 = ls[i] := fun {i} h => by
      rw [List.getD_eq_getElem?_getD, List.getElem?_eq_getElem h]
      rfl
    have mono : ∀ {i j : Nat} (hi : i < ls.length) (hj : j < ls.length), i < j → ls[i] < ls[j] := fun {i j} hi hj h => List.pairwise_iff_getElem.mp pw i j hi hj h
    show (if ls.getD a 0 = ls.getD b 0 then lexI (x.map _) (y.map _) else decide (ls.getD a 0 < ls.getD b 0)) = if a = b then lexN x y else decide (a < b)
    rw [g ha, g hb]
    rcases Nat.lt_trichotomy a b with h | h | h
    · have z := mono ha hb h
      rw [if_neg (by omega), if_neg (by omega), decide_eq_true z, decide_eq_true h]
    · subst h
      rw [if_pos rfl, if_pos rfl]
      exact ih
    · have z := mono hb ha h
      rw [if_neg (by omega), if_neg (by omega), decide_eq_false (by omega), decide_eq_false (by omega)]
def lessI (k : Nat) (a b : List Int) : Bool := if ((a.length + k : Nat) : Int) = ((b.length + k : Nat) : Int) then lexI a b else decide (((a.length + k : Nat) : Int) < ((b.length + k : Nat) : Int))
theorem lessI_letters {k : Nat} {ls : List Int} (pw : ls.Pairwise (· < ·)) {x y : List Nat} (hx : ∀ d ∈ x, d < ls.length) (hy : ∀ d ∈ y, d < ls.length) : lessI k (x.map fun d => ls.getD d 0) (y.map fun d => ls.getD d 0) = lessD x y := by
  unfold lessI lessD
  rw [List.length_map, List.length_map, lexI_letters pw x y hx hy]
  by_cases h : x.length = y.length
  · rw [h, if_pos rfl]
    simp
  · rw [if_neg (by omega), decide_eq_false h]
    by_cases c : x.length < y.length
    · rw [decide_eq_true c, decide_eq_true (by omega)]
      rfl
    · rw [decide_eq_false c, decide_eq_false (by omega)]
      rfl
end Esc

local macro_rules | `(tactic| walk_at "hp") => `(tactic| first
  | assumption
  | (with_reducible exact L2.upd_same)
  | ((with_reducible apply Esc.mut_at); (focus assumption); (focus assumption); (focus (walk_at "hp")))
  | ((with_reducible apply Esc.upd_at); (focus (first | assumption | exact Ne.symm (by assumption))); (focus (walk_at "hp")))
  | ((with_reducible apply Esc.same_at); (focus assumption); (focus (walk_at "hp"))))
local macro_rules | `(tactic| walk_at "sq") => `(tactic| first
  | assumption
  | ((with_reducible apply Esc.sl_of); (focus (walk_at "hp")))
  | ((with_reducible apply Esc.st_of); (focus (walk_at "hp")))
  | ((with_reducible apply Esc.mut_l); (focus assumption); (focus assumption); (focus (walk_at "sq")))
  | ((with_reducible apply Esc.mut_t); (focus assumption); (focus assumption); (focus (walk_at "sq")))
  | ((with_reducible apply L2.Same.seq); (focus assumption); (focus (walk_at "sq")))
  | ((with_reducible apply Esc.stup); (focus assumption); (focus (walk_at "sq"))))
local macro_rules | `(tactic| walk_at "at") => `(tactic| first
  | assumption
  | exact L2.atI_nat (j := 0) rfl | exact L2.atI_nat (j := 1) rfl | exact L2.atI_nat (j := 2) rfl | exact L2.atI_nat (j := 3) rfl | exact L2.atI_nat (j := 4) rfl)
local macro_rules | `(tactic| walk_at "num") => `(tactic| first
  | assumption | omega
  | exact ⟨by omega, by omega⟩
  | exact Or.inl ⟨by omega, by omega⟩ | exact Or.inr ⟨by omega, by omega⟩)
local macro_rules | `(tactic| walk_at "sz") => `(tactic| first
  | assumption
  | exact Esc.szl (by simp only [List.length_append, List.length_map, List.length_cons, List.length_nil, List.length_singleton]; omega)
  | exact Esc.sz (by simp only [List.length_append, List.length_map, List.length_cons, List.length_nil, List.length_singleton]; omega))
local macro_rules | `(tactic| walk_at "r") => `(tactic| (refine Esc.Steps.h ?_; repeat' (first
  | ((with_reducible apply Esc.i_ixL); (focus (walk_at "sq")); (focus (walk_at "at")); refine Esc.Steps.h ?_)
  | ((with_reducible apply Esc.i_I); (focus (walk_at "num")); refine Esc.Steps.h ?_)
  | ((with_reducible apply Esc.i_ixT); (focus (walk_at "sq")); (focus (walk_at "at")); refine Esc.Steps.h ?_)
  | ((with_reducible apply Esc.i_bm); (focus (walk_at "sq")); refine Esc.Steps.h ?_)
  | ((with_reducible apply Esc.i_bm0); (focus (walk_at "sq")); refine Esc.Steps.h ?_)
  | ((with_reducible apply Esc.i_lenI); (focus (walk_at "sq")); refine Esc.Steps.h ?_)
  | ((with_reducible apply Esc.i_len); (focus (walk_at "sq")); refine Esc.Steps.h ?_)
  | ((with_reducible apply Esc.i_lenT); (focus (walk_at "sq")); refine Esc.Steps.h ?_)
  | ((with_reducible apply Esc.i_gtup); (focus (walk_at "sq")); (focus rfl); refine Esc.Steps.h ?_)
  | ((with_reducible apply Esc.i_append); (focus (walk_at "hp")); (focus (walk_at "sz")); refine Esc.Steps.h ?_)
  | ((with_reducible apply Esc.i_insert0); (focus (walk_at "hp")); (focus (walk_at "sz")); refine Esc.Steps.h ?_))))
local macro_rules | `(tactic| walk_at "go") => `(tactic| (try dsimp only [L2.cxOf, L2.Cx.nox, L2.Cx.wish, List.map_cons, List.map_nil]))

namespace Esc
open PySem PySem.Spec PyProof.Rows L2
def topS (i : Nat) : Stmt := PySem.Challenge.pw_escaperow_k15_whole_ranks_keep_order.main.body.getD i (.Pass ⟨0, 0, 0, 0⟩)
abbrev s_rank_of : Stmt := topS 6
abbrev N_rank_of : List Str := ["row", "letters", "places", "rank", "letter", "at"]
abbrev P_rank_of : List Str := ["row", "letters"]
theorem sc_rank_of : FnScope N_rank_of P_rank_of (C8.fnScope s_rank_of) := C8.fnScope_by (by decide +kernel)

abbrev s_row_of : Stmt := topS 7
abbrev N_row_of : List Str := ["rank", "letters", "many", "row", "left"]
abbrev P_row_of : List Str := ["rank", "letters"]
theorem sc_row_of : FnScope N_row_of P_row_of (C8.fnScope s_row_of) := C8.fnScope_by (by decide +kernel)

abbrev s_need_way : Stmt := topS 13
abbrev N_need_way : List Str := ["way", "why"]
abbrev P_need_way : List Str := ["way"]
theorem sc_need_way : FnScope N_need_way P_need_way (C8.fnScope s_need_way) := C8.fnScope_by (by decide +kernel)

abbrev s_fault_of : Stmt := topS 14
abbrev N_fault_of : List Str := ["way", "turnings", "inner", "top", "end", "find_fault", "why", "signs"]
abbrev P_fault_of : List Str := ["way"]
theorem sc_fault_of : FnScope N_fault_of P_fault_of (C8.fnScope s_fault_of) := C8.fnScope_by (by decide +kernel)

abbrev s_unturned : Stmt := topS 15
abbrev N_unturned : List Str := ["way", "turnings", "inner"]
abbrev P_unturned : List Str := ["way"]
theorem sc_unturned : FnScope N_unturned P_unturned (C8.fnScope s_unturned) := C8.fnScope_by (by decide +kernel)

abbrev s_plain_signs : Stmt := topS 16
abbrev N_plain_signs : List Str := ["top", "end", "sign"]
abbrev P_plain_signs : List Str := ["top", "end"]
theorem sc_plain_signs : FnScope N_plain_signs P_plain_signs (C8.fnScope s_plain_signs) := C8.fnScope_by (by decide +kernel)

abbrev s_first_unsigned : Stmt := topS 17
abbrev N_first_unsigned : List Str := ["signs", "top", "at", "sign"]
abbrev P_first_unsigned : List Str := ["signs", "top"]
theorem sc_first_unsigned : FnScope N_first_unsigned P_first_unsigned (C8.fnScope s_first_unsigned) := C8.fnScope_by (by decide +kernel)

abbrev s_is_whole : Stmt := topS 18
abbrev N_is_whole : List Str := ["number"]
abbrev P_is_whole : List Str := ["number"]
theorem sc_is_whole : FnScope N_is_whole P_is_whole (C8.fnScope s_is_whole) := C8.fnScope_by (by decide +kernel)

abbrev s_is_top : Stmt := topS 19
abbrev N_is_top : List Str := ["number"]
abbrev P_is_top : List Str := ["number"]
theorem sc_is_top : FnScope N_is_top P_is_top (C8.fnScope s_is_top) := C8.fnScope_by (by decide +kernel)

abbrev s_is_sign : Stmt := topS 20
abbrev N_is_sign : List Str := ["number", "top"]
abbrev P_is_sign : List Str := ["number", "top"]
theorem sc_is_sign : FnScope N_is_sign P_is_sign (C8.fnScope s_is_sign) := C8.fnScope_by (by decide +kernel)

abbrev s_is_plain : Stmt := topS 21
abbrev N_is_plain : List Str := ["number", "top", "end"]
abbrev P_is_plain : List Str := ["number", "top", "end"]
theorem sc_is_plain : FnScope N_is_plain P_is_plain (C8.fnScope s_is_plain) := C8.fnScope_by (by decide +kernel)

abbrev s_is_turning : Stmt := topS 22
abbrev N_is_turning : List Str := ["signs", "top"]
abbrev P_is_turning : List Str := ["signs", "top"]
theorem sc_is_turning : FnScope N_is_turning P_is_turning (C8.fnScope s_is_turning) := C8.fnScope_by (by decide +kernel)

abbrev s_codes_fault : Stmt := topS 23
abbrev N_codes_fault : List Str := ["way", "_", "top", "end", "codes", "code"]
abbrev P_codes_fault : List Str := ["way"]
theorem sc_codes_fault : FnScope N_codes_fault P_codes_fault (C8.fnScope s_codes_fault) := C8.fnScope_by (by decide +kernel)

abbrev s_is_code : Stmt := topS 24
abbrev N_is_code : List Str := ["code", "top", "end", "sign"]
abbrev P_is_code : List Str := ["code", "top", "end"]
theorem sc_is_code : FnScope N_is_code P_is_code (C8.fnScope s_is_code) := C8.fnScope_by (by decide +kernel)

abbrev s_stand_apart : Stmt := topS 25
abbrev N_stand_apart : List Str := ["codes", "at", "code", "other", "shared"]
abbrev P_stand_apart : List Str := ["codes"]
theorem sc_stand_apart : FnScope N_stand_apart P_stand_apart (C8.fnScope s_stand_apart) := C8.fnScope_by (by decide +kernel)

abbrev s_escapes_fault : Stmt := topS 26
abbrev N_escapes_fault : List Str := ["way", "_", "top", "end", "mark", "pairs", "signs", "codes", "code", "sign"]
abbrev P_escapes_fault : List Str := ["way"]
theorem sc_escapes_fault : FnScope N_escapes_fault P_escapes_fault (C8.fnScope s_escapes_fault) := C8.fnScope_by (by decide +kernel)

abbrev s_counts_fault : Stmt := topS 27
abbrev N_counts_fault : List Str := ["way", "_", "top", "end", "limit"]
abbrev P_counts_fault : List Str := ["way"]
theorem sc_counts_fault : FnScope N_counts_fault P_counts_fault (C8.fnScope s_counts_fault) := C8.fnScope_by (by decide +kernel)

abbrev s_ranks_fault : Stmt := topS 28
abbrev N_ranks_fault : List Str := ["way"]
abbrev P_ranks_fault : List Str := ["way"]
theorem sc_ranks_fault : FnScope N_ranks_fault P_ranks_fault (C8.fnScope s_ranks_fault) := C8.fnScope_by (by decide +kernel)

abbrev s_framed : Stmt := topS 34
abbrev N_framed : List Str := ["way", "body"]
abbrev P_framed : List Str := ["way", "body"]
theorem sc_framed : FnScope N_framed P_framed (C8.fnScope s_framed) := C8.fnScope_by (by decide +kernel)

abbrev s_body_of : Stmt := topS 35
abbrev N_body_of : List Str := ["way", "signs"]
abbrev P_body_of : List Str := ["way", "signs"]
theorem sc_body_of : FnScope N_body_of P_body_of (C8.fnScope s_body_of) := C8.fnScope_by (by decide +kernel)

abbrev s_need_body : Stmt := topS 36
abbrev N_need_body : List Str := ["way", "body", "at"]
abbrev P_need_body : List Str := ["way", "body"]
theorem sc_need_body : FnScope N_need_body P_need_body (C8.fnScope s_need_body) := C8.fnScope_by (by decide +kernel)

abbrev s_need_signs : Stmt := topS 37
abbrev N_need_signs : List Str := ["way", "signs", "at"]
abbrev P_need_signs : List Str := ["way", "signs"]
theorem sc_need_signs : FnScope N_need_signs P_need_signs (C8.fnScope s_need_signs) := C8.fnScope_by (by decide +kernel)

abbrev s_top_of : Stmt := topS 38
abbrev N_top_of : List Str := ["way", "inner"]
abbrev P_top_of : List Str := ["way"]
theorem sc_top_of : FnScope N_top_of P_top_of (C8.fnScope s_top_of) := C8.fnScope_by (by decide +kernel)

abbrev s_frame_of : Stmt := topS 39
abbrev N_frame_of : List Str := ["way", "body", "turnings", "inner", "put_together"]
abbrev P_frame_of : List Str := ["way", "body"]
theorem sc_frame_of : FnScope N_frame_of P_frame_of (C8.fnScope s_frame_of) := C8.fnScope_by (by decide +kernel)

abbrev s_exchanged : Stmt := topS 40
abbrev N_exchanged : List Str := ["turnings", "body", "turned", "signs", "sign"]
abbrev P_exchanged : List Str := ["turnings", "body"]
theorem sc_exchanged : FnScope N_exchanged P_exchanged (C8.fnScope s_exchanged) := C8.fnScope_by (by decide +kernel)

abbrev s_taken_out : Stmt := topS 41
abbrev N_taken_out : List Str := ["way", "signs", "turnings", "inner", "end", "take_apart", "body", "turning", "sign"]
abbrev P_taken_out : List Str := ["way", "signs"]
theorem sc_taken_out : FnScope N_taken_out P_taken_out (C8.fnScope s_taken_out) := C8.fnScope_by (by decide +kernel)

abbrev s_by_codes : Stmt := topS 42
abbrev N_by_codes : List Str := ["way", "body", "codes", "letter", "sign"]
abbrev P_by_codes : List Str := ["way", "body"]
theorem sc_by_codes : FnScope N_by_codes P_by_codes (C8.fnScope s_by_codes) := C8.fnScope_by (by decide +kernel)

abbrev s_from_codes : Stmt := topS 43
abbrev N_from_codes : List Str := ["way", "row", "letters", "body", "begun", "sign", "code", "letter"]
abbrev P_from_codes : List Str := ["way", "row"]
theorem sc_from_codes : FnScope N_from_codes P_from_codes (C8.fnScope s_from_codes) := C8.fnScope_by (by decide +kernel)

abbrev s_by_escapes : Stmt := topS 44
abbrev N_by_escapes : List Str := ["way", "body", "mark", "pairs", "codes", "frame", "sign", "code"]
abbrev P_by_escapes : List Str := ["way", "body"]
theorem sc_by_escapes : FnScope N_by_escapes P_by_escapes (C8.fnScope s_by_escapes) := C8.fnScope_by (by decide +kernel)

abbrev s_from_escapes : Stmt := topS 45
abbrev N_from_escapes : List Str := ["way", "row", "mark", "pairs", "signs", "body", "marked", "sign", "code"]
abbrev P_from_escapes : List Str := ["way", "row"]
theorem sc_from_escapes : FnScope N_from_escapes P_from_escapes (C8.fnScope s_from_escapes) := C8.fnScope_by (by decide +kernel)

abbrev s_by_counts : Stmt := topS 46
abbrev N_by_counts : List Str := ["way", "body", "_", "top", "end", "limit", "counts", "rows", "frame", "row", "last"]
abbrev P_by_counts : List Str := ["way", "body"]
theorem sc_by_counts : FnScope N_by_counts P_by_counts (C8.fnScope s_by_counts) := C8.fnScope_by (by decide +kernel)

abbrev s_rows_between : Stmt := topS 47
abbrev N_rows_between : List Str := ["body", "end", "rows", "sign"]
abbrev P_rows_between : List Str := ["body", "end"]
theorem sc_rows_between : FnScope N_rows_between P_rows_between (C8.fnScope s_rows_between) := C8.fnScope_by (by decide +kernel)

abbrev s_grouped : Stmt := topS 48
abbrev N_grouped : List Str := ["row", "counts", "whole", "groups", "left"]
abbrev P_grouped : List Str := ["row", "counts"]
theorem sc_grouped : FnScope N_grouped P_grouped (C8.fnScope s_grouped) := C8.fnScope_by (by decide +kernel)

abbrev s_from_counts : Stmt := topS 49
abbrev N_from_counts : List Str := ["way", "row", "_", "top", "end", "limit", "plain", "body", "at", "row_is_over", "count"]
abbrev P_from_counts : List Str := ["way", "row"]
theorem sc_from_counts : FnScope N_from_counts P_from_counts (C8.fnScope s_from_counts) := C8.fnScope_by (by decide +kernel)

abbrev s_by_ranks : Stmt := topS 50
abbrev N_by_ranks : List Str := ["way", "body", "_", "top", "end"]
abbrev P_by_ranks : List Str := ["way", "body"]
theorem sc_by_ranks : FnScope N_by_ranks P_by_ranks (C8.fnScope s_by_ranks) := C8.fnScope_by (by decide +kernel)

abbrev s_from_ranks : Stmt := topS 51
abbrev N_from_ranks : List Str := ["way", "row", "_", "top", "end"]
abbrev P_from_ranks : List Str := ["way", "row"]
theorem sc_from_ranks : FnScope N_from_ranks P_from_ranks (C8.fnScope s_from_ranks) := C8.fnScope_by (by decide +kernel)

abbrev s__law_dice : Stmt := topS 55
abbrev N__law_dice : List Str := ["_law_script", "_law_k", "_law_found", "_law_cell"]
abbrev P__law_dice : List Str := ["_law_script", "_law_k"]
theorem sc__law_dice : FnScope N__law_dice P__law_dice (C8.fnScope s__law_dice) := C8.fnScope_by (by decide +kernel)

abbrev s__law_off : Stmt := topS 56
abbrev N__law_off : List Str := ["_law_d", "_law_most", "_law_found"]
abbrev P__law_off : List Str := ["_law_d", "_law_most"]
theorem sc__law_off : FnScope N__law_off P__law_off (C8.fnScope s__law_off) := C8.fnScope_by (by decide +kernel)

abbrev s__law_plain : Stmt := topS 57
abbrev N__law_plain : List Str := ["_law_top", "_law_end", "_law_sign"]
abbrev P__law_plain : List Str := ["_law_top", "_law_end"]
theorem sc__law_plain : FnScope N__law_plain P__law_plain (C8.fnScope s__law_plain) := C8.fnScope_by (by decide +kernel)

abbrev s__law_size : Stmt := topS 58
abbrev N__law_size : List Str := ["_law_d"]
abbrev P__law_size : List Str := ["_law_d"]
theorem sc__law_size : FnScope N__law_size P__law_size (C8.fnScope s__law_size) := C8.fnScope_by (by decide +kernel)

abbrev s__law_body : Stmt := topS 59
abbrev N__law_body : List Str := ["_law_d", "_law_top", "_law_end", "_law_most", "_law_size_here", "_law_kind", "_law_one", "_law_found", "_law_k"]
abbrev P__law_body : List Str := ["_law_d", "_law_top", "_law_end", "_law_most"]
theorem sc__law_body : FnScope N__law_body P__law_body (C8.fnScope s__law_body) := C8.fnScope_by (by decide +kernel)

abbrev s__law_number : Stmt := topS 60
abbrev N__law_number : List Str := ["_law_row", "_law_many", "_law_found", "_law_ahead", "_law_lists", "_law_sign"]
abbrev P__law_number : List Str := ["_law_row", "_law_many"]
theorem sc__law_number : FnScope N__law_number P__law_number (C8.fnScope s__law_number) := C8.fnScope_by (by decide +kernel)

abbrev s__law_list : Stmt := topS 61
abbrev N__law_list : List Str := ["_law_number_here", "_law_many", "_law_size_here", "_law_lists", "_law_found", "_law_turn"]
abbrev P__law_list : List Str := ["_law_number_here", "_law_many"]
theorem sc__law_list : FnScope N__law_list P__law_list (C8.fnScope s__law_list) := C8.fnScope_by (by decide +kernel)

abbrev s_law : Stmt := topS 62
abbrev N_law : List Str := ["_law_script", "_law_d", "_law_top", "_law_end", "_law_way", "_law_plain_here", "_law_known", "_law_turn", "_law_body_here", "_law_number_here", "_law_frame", "_law_found", "_law_size_here", "_law_many", "_law_other", "_law_there", "_law_sign"]
abbrev P_law : List Str := ["_law_script"]
theorem sc_law : FnScope N_law P_law (C8.fnScope s_law) := C8.fnScope_by (by decide +kernel)

/-- the built-in names that the text leaves alone -/
structure Blt (mg : Str → Option Value) : Prop where
  abs_ : mg "abs" = none
  all_ : mg "all" = none
  enumerate_ : mg "enumerate" = none
  int_ : mg "int" = none
  len_ : mg "len" = none
  list_ : mg "list" = none
  min_ : mg "min" = none
  range_ : mg "range" = none
  reversed_ : mg "reversed" = none
  set_ : mg "set" = none
  sorted_ : mg "sorted" = none
  type_ : mg "type" = none
end Esc

namespace Esc
open PySem PySem.Spec PyProof.Rows L2
def spNever : Sp := fun vs H Q _ => False
section
variable {P : Program} {w : World} {K : PySem.W.Frag} {mg : Str → Option Value} {base : Heap}
theorem c_never {x : Str} {st : Stmt} {ps : List Str} {k : Nat} (d : Dd K mg x st ps) : C8.Cal P w K mg base k x spNever [] := by
  obtain ⟨f, fd, F, b⟩ := d.ex
  exact ⟨f, fd, ps, [], ⟨fun _ _ _ _ z => z.elim, fun _ _ _ _ _ _ _ _ _ _ _ _ _ z => z.elim⟩, F.mgf, F.kp, b, .nil⟩
end
end Esc

namespace Esc
open PySem PySem.Spec PyProof.Rows L2
/-- a row of draws -/
def DiceAt (H : Hp) (d : Addr) : Prop := ∃ (x c : Int) (r : List Int), H d = some (.lst (V.int x :: V.int c :: r.map V.int)) ∧ 0 ≤ x ∧ 0 ≤ c ∧ (∀ y ∈ r, 0 ≤ y) ∧ r.length ≤ 63
theorem DiceAt.mk {H : Hp} {d : Addr} {x c : Int} {r : List Int} (h : H d = some (.lst (V.int x :: V.int c :: r.map V.int))) (hx : 0 ≤ x) (hc : 0 ≤ c) (hr : ∀ y ∈ r, 0 ≤ y) (hl : r.length ≤ 63) : DiceAt H d := ⟨x, c, r, h, hx, hc, hr, hl⟩
def spOff : Sp := fun vs H Q _ => ∃ (d : Addr) (m : Int), vs = [.ref d, .int m] ∧ 1 ≤ m ∧ m < 1073741824 ∧ DiceAt H d ∧ ∀ (H' : Hp) (n : Int), Same (hide d H) H' → DiceAt H' d → 0 ≤ n → n < m → Q (.int n) H'
section
variable {P : Program} {w : World} {K : PySem.W.Frag} {mg : Str → Option Value} {base : Heap}
theorem c_off (Z : Blt mg) (d : Dd K mg "_law_off" s__law_off P__law_off) : C8.Cal P w K mg base 1 "_law_off" spOff [] := by
  refine d.cal sc__law_off (fun vs H Q E h => ?_) (fun f cdv A outer s H vs Q E hr h => ?_)
  · obtain ⟨d, m, rfl, _⟩ := h
    rfl
  · obtain ⟨d, m, rfl, hm1, hm2, ⟨x, c, r, hd, hx, hc, hr0, hl⟩, q⟩ := h
    have nd := sc__law_off.nd
    refine ⟨_, (C8.pss_cut (ps_if (PW.pt (pw_and (pt_cmpR op_eq (pe_ix ix_list (pv 0) pe_int (fun _ _ => rfl)) pe_int (nomark _)) (pw_and1 (pt_cmpR op_gt (pe_callB k_len (by rfl) Z.len_ (by decide +kernel) (pa_cons (pv 0) pa_nil)) pe_int (nomark _))))) (pss_one (ps_asg (pe_bm PySem.F.plainAttrs_list PySem.F.slot_list_pop PySem.F.type_list_pop mt_popAt (pv 0) (pa_cons pe_int pa_nil)) (pg_sub (pv 0) pe_int set_list))) pss_nil)
  (pss_cons (ps_if (pt_cmpR op_gt (pe_ix ix_list (pv 0) pe_int (fun _ _ => rfl)) pe_int (nomark _)) (pss_cons (ps_set (i := 2) nd rfl (Or.inl rfl) (pe_op op_mod (pe_ix ix_list (pv 0) pe_int (fun _ _ => rfl)) (pv 1)))
  (pss_cons (ps_asg (pe_op op_fdiv (pe_ix ix_list (pv 0) pe_int (fun _ _ => rfl)) (pv 1)) (pg_sub (pv 0) pe_int set_list))
  (pss_one (ps_ret (pv 2))))) pss_nil)
  (pss_cons (ps_asg (pe_op op_mod (pe_op op_add (pe_op op_mul (pe_ix ix_list (pv 0) pe_int (fun _ _ => rfl)) pe_int) pe_int) pe_int) (pg_sub (pv 0) pe_int set_list))
  (pss_one (ps_ret (pe_op op_mod (pe_op op_fdiv (pe_ix ix_list (pv 0) pe_int (fun _ _ => rfl)) pe_int) (pv 1))))))), ?_⟩
    refine i_start (σ' := [some (.ref d), some (.int m), none]) rfl ?_
    walk_at "go"
    refine i_cut (fun σ' H' => σ' = [some (.ref d), some (.int m), none] ∧ Same (hide d H) H' ∧ DiceAt H' d) ?_ ?_
    · walk_at "r"
      have no : ∀ p : Prop, Same (hide d H) H ∧ DiceAt H d := fun _ => ⟨hide_same, .mk hd hx hc hr0 hl⟩
      refine i_br (fun hc0 => ?_) (fun _ => ?_)
      · walk_at "r"
        refine i_br (fun hlen => ?_) (fun _ => ?_)
        · walk_at "r"
          match r, hr0, hl, hd, hlen with
          | [], hr0, hl, hd, hlen => simp at hlen
          | y :: r, hr0, hl, hd, hlen =>
            refine i_popAt (j := 2) hd rfl rfl (by simp at hl ⊢; omega) ?_
            walk_at "r"
            refine i_setL (j := 1) upd_same (ixN_of rfl (by simp)) ?_
            rw [upd_upd]
            exact ⟨rfl, hide_mut, .mk (c := y) (r := r) upd_same hx (hr0 y List.mem_cons_self) (fun z hz => hr0 z (List.mem_cons_of_mem _ hz)) (by simp at hl; omega)⟩
        · walk_at "r"
          exact ⟨rfl, no True⟩
      · walk_at "r"
        exact ⟨rfl, no True⟩
    · rintro σ1 H1 ⟨rfl, s1, x, c, r, hd, hx, hc, hr0, hl⟩
      have s2 : ∀ {o : HO}, Same (hide d H) (upd H1 d o) := smut s1 hide_d
      walk_at "r"
      refine i_br (fun hc0 => ?_) (fun _ => ?_)
      · walk_at "r"
        refine i_setL (j := 1) hd (ixN_of rfl (by simp)) ?_
        walk_at "r"
        exact q _ _ s2 (.mk (c := c / m) (r := r) upd_same hx (Int.ediv_nonneg hc (by omega)) hr0 hl) (Int.emod_nonneg _ (by omega)) (Int.emod_lt_of_pos _ (by omega))
      · walk_at "r"
        refine i_setL (j := 0) hd (ixN_of rfl (by simp)) ?_
        walk_at "r"
        exact q _ _ s2 (.mk (c := c) (r := r) upd_same (Int.emod_nonneg _ (by decide)) hc hr0 hl) (Int.emod_nonneg _ (by omega)) (Int.emod_lt_of_pos _ (by omega))
end
end Esc

namespace Esc
open PySem PySem.Spec PyProof.Rows L2
section
variable {P : Program} {w : World} {K : PySem.W.Frag} {mg : Str → Option Value} {base : Heap}
/-! ### is_whole, is_sign, is_top: of whole numbers -/
def spWholeI : Sp := fun vs H Q _ => ∃ n : Int, vs = [.int n] ∧ Q (.bl true) H
theorem c_is_whole (Z : Blt mg) (d : Dd K mg "is_whole" s_is_whole P_is_whole) : C8.Cal P w K mg base 1 "is_whole" spWholeI [] := by
  refine d.cal sc_is_whole (fun vs H Q E h => ?_) (fun f cdv A outer s H vs Q E hr h => ?_)
  · obtain ⟨n, rfl, _⟩ := h
    rfl
  · obtain ⟨n, rfl, q⟩ := h
    have nd := sc_is_whole.nd
    refine ⟨_, (pss_one (ps_ret (pe_cmpR k_isTy (pe_callTy call_type1 (by rfl) Z.type_ (by decide +kernel) (pa_cons (pv 0) pa_nil)) (pe_bltn (v := .ty "int") (u := .type "int") (by rfl) Z.int_ (by decide +kernel) rfl) (nomark _)))), ?_⟩
    refine i_start (σ' := [some (.int n)]) rfl ?_
    walk_at "go"
    walk_at "r"
    rw [decide_eq_true rfl]
    exact q
def spSignI : Sp := fun vs H Q _ => ∃ n t : Int, vs = [.int n, .int t] ∧ Q (.bl (decide (0 ≤ n ∧ n < t))) H
theorem c_is_sign (Z : Blt mg) (c_is_whole : C8.Cal P w K mg base 1 "is_whole" spWholeI []) (d : Dd K mg "is_sign" s_is_sign P_is_sign) : C8.Cal P w K mg base 2 "is_sign" spSignI [] := by
  refine d.cal sc_is_sign (fun vs H Q E h => ?_) (fun f cdv A outer s H vs Q E hr h => ?_)
  · obtain ⟨n, t, rfl, _⟩ := h
    rfl
  · obtain ⟨n, t, rfl, q⟩ := h
    have nd := sc_is_sign.nd
    refine ⟨_, (pss_one (ps_ret (pe_and (C8.pe_c c_is_whole hr (by decide) (by rfl) (pa_cons (pv 0) pa_nil)) (pe_one (pe_chain op_le op_lt pe_int (pv 0) (pv 1)))))), ?_⟩
    refine i_start (σ' := [some (.int n), some (.int t)]) rfl ?_
    walk_at "go"
    walk_at "r"
    refine ⟨n, rfl, ?_⟩
    walk_at "r"
    refine i_br (fun h1 => ?_) (fun h1 => ?_)
    · walk_at "r"
      rw [show decide (n < t) = decide (0 ≤ n ∧ n < t) from decide_eq_decide.mpr ⟨fun h => ⟨h1, h⟩, fun h => h.2⟩]
      exact q
    · walk_at "r"
      rw [decide_eq_false (fun h => h1 h.1)] at q
      exact q
def spTopI : Sp := fun vs H Q _ => ∃ n : Int, vs = [.int n] ∧ Q (.bl (decide (3 ≤ n ∧ n ≤ 16))) H
theorem c_is_top (Z : Blt mg) (c_is_whole : C8.Cal P w K mg base 1 "is_whole" spWholeI []) (m_LEAST_TOP : ∃ u, mg "LEAST_TOP" = some u ∧ RelV (.int 3) u) (m_MOST_TOP : ∃ u, mg "MOST_TOP" = some u ∧ RelV (.int 16) u)
    (d : Dd K mg "is_top" s_is_top P_is_top) : C8.Cal P w K mg base 2 "is_top" spTopI [] := by
  refine d.cal sc_is_top (fun vs H Q E h => ?_) (fun f cdv A outer s H vs Q E hr h => ?_)
  · obtain ⟨n, rfl, _⟩ := h
    rfl
  · obtain ⟨n, rfl, q⟩ := h
    have nd := sc_is_top.nd
    refine ⟨_, (pss_one (ps_ret (pe_and (C8.pe_c c_is_whole hr (by decide) (by rfl) (pa_cons (pv 0) pa_nil)) (pe_one (pe_chain op_le op_le (C8.pe_gc rfl m_LEAST_TOP) (pv 0) (C8.pe_gc rfl m_MOST_TOP)))))), ?_⟩
    refine i_start (σ' := [some (.int n)]) rfl ?_
    walk_at "go"
    walk_at "r"
    refine ⟨n, rfl, ?_⟩
    walk_at "r"
    refine i_br (fun h1 => ?_) (fun h1 => ?_)
    · walk_at "r"
      rw [show decide (n ≤ 16) = decide (3 ≤ n ∧ n ≤ 16) from decide_eq_decide.mpr ⟨fun h => ⟨h1, h⟩, fun h => h.2⟩]
      exact q
    · walk_at "r"
      rw [decide_eq_false (fun h => h1 h.1)] at q
      exact q
/-! ### plain signs -/
def plainL (t e : Int) : List Int := (List.range t.toNat).filterMap fun (i : Nat) => if (i : Int) = e then none else some (i : Int)
theorem plainL_map (t e : Int) : (List.range t.toNat).filterMap (fun (i : Nat) => if (i : Int) = e then none else some (V.int (i : Int))) = (plainL t e).map V.int := by
  unfold plainL
  rw [List.map_filterMap]
  congr 1
  funext i
  by_cases h : (i : Int) = e
  · rw [if_pos h, if_pos h]
    rfl
  · rw [if_neg h, if_neg h]
    rfl
def spPlain : Sp := fun vs H Q _ => ∃ t e : Int, vs = [.int t, .int e] ∧ 0 ≤ t ∧ t < 1000 ∧ ∀ p H', H p = none → Same H H' → H' p = some (.lst ((plainL t e).map V.int)) → Q (.ref p) H'
theorem c_plain_signs (Z : Blt mg) (d : Dd K mg "plain_signs" s_plain_signs P_plain_signs) : C8.Cal P w K mg base 1 "plain_signs" spPlain [] := by
  refine d.cal sc_plain_signs (fun vs H Q E h => ?_) (fun f cdv A outer s H vs Q E hr h => ?_)
  · obtain ⟨t, e, rfl, _⟩ := h
    rfl
  · obtain ⟨t, e, rfl, h1, h2, q⟩ := h
    have nd := sc_plain_signs.nd
    refine ⟨_, (pss_one (ps_ret (pe_lc (own := [("sign", 2)]) (g := gName 2) rfl nd (pi_range1 rfl Z.range_ (pa_cons (pv 0) pa_nil)) (blkOk_by (N := N_plain_signs) (sc := C8.fnScope s_plain_signs) (own := [("sign", 2)]) (by decide +kernel)) (fun _ _ _ _ _ => (pg_name (i := 2) nd rfl (Or.inl rfl))) (fun _ _ _ _ _ => pts_one (pt_cmpR op_ne (pv 2) (pv 1) (nomark _))) (fun _ _ _ _ _ => (pv 2))))), ?_⟩
    refine i_start (σ' := [some (.int t), some (.int e), none]) rfl ?_
    walk_at "go"
    walk_at "r"
    refine i_lcR (F := fun (i : Nat) => if (i : Int) = e then none else some (V.int (i : Int))) ⟨h1, by omega⟩ (fun i hi H1 s1 QN QY hN hY => ?_) (by rw [plainL_map]; exact q)
    walk_at "r"
    refine i_nbr (fun h => ?_) (fun h => ?_)
    · walk_at "r"
      exact hN (if_pos h) _ (Same.refl _)
    · walk_at "r"
      exact hY _ (if_neg h) _ (Same.refl _)
/-! ### first_unsigned: None of signs, else some place -/
def spFirst (K : PySem.W.Frag) : Sp := fun vs H Q _ => ∃ (a : Addr) (ns : List Int) (t : Int), vs = [.ref a, .int t] ∧ SqL K H a (ns.map V.int) ∧ (∀ n ∈ ns, 0 ≤ n ∧ n < t) ∧ ∀ H', Same H H' → Q .non H'
theorem c_first_unsigned (Z : Blt mg) (c_is_sign : C8.Cal P w K mg base 2 "is_sign" spSignI []) (d : Dd K mg "first_unsigned" s_first_unsigned P_first_unsigned) : C8.Cal P w K mg base 3 "first_unsigned" (spFirst K) [] := by
  refine d.cal sc_first_unsigned (fun vs H Q E h => ?_) (fun f cdv A outer s H vs Q E hr h => ?_)
  · obtain ⟨a, ns, t, rfl, _⟩ := h
    rfl
  · obtain ⟨a, ns, t, rfl, ha, hn, q⟩ := h
    have nd := sc_first_unsigned.nd
    refine ⟨_, (pss_cons (ps_for PassesOwn.never rfl (pi_enum rfl Z.enumerate_ (pa_cons (pv 0) pa_nil)) (pg_tup rfl (pgs_cons (pg_name (i := 2) nd rfl (Or.inl rfl)) (pgs_cons (pg_name (i := 3) nd rfl (Or.inl rfl)) pgs_nil)))
    (pss_one (ps_if (pt_not (pt_val (C8.pe_c c_is_sign hr (by decide) (by rfl) (pa_cons (pv 3) (pa_cons (pv 1) pa_nil))))) (pss_one (ps_ret (pv 2))) pss_nil)))
  (pss_one (ps_ret pe_non))), ?_⟩
    refine i_start (σ' := [some (.ref a), some (.int t), none, none]) rfl ?_
    walk_at "go"
    walk_at "r"
    refine i_enum ha (fun i σ' H' => ∃ x y, σ' = [some (.ref a), some (.int t), x, y] ∧ Same H H') ⟨_, _, rfl, Same.refl _⟩ (fun i σ' H' _ ⟨_, _, _, s1⟩ => s1.seq ha) (fun i x σ' H1 T H2 hi p hT s2 eT => ?_) (fun σ' H1 p => ?_)
    · obtain ⟨y1, y2, rfl, s1⟩ := p
      obtain ⟨n, hn1, rfl⟩ := List.mem_map.mp (List.mem_of_getElem? hi)
      walk_at "r"
      refine ⟨n, t, rfl, ?_⟩
      rw [decide_eq_true (hn n hn1)]
      walk_at "r"
      exact ⟨_, _, rfl, s1.trans s2⟩
    · obtain ⟨y1, y2, rfl, s1⟩ := p
      walk_at "r"
      exact q _ s1
def spRanksFault : Sp := fun vs H Q _ => ∃ v, vs = [v] ∧ Q .non H
theorem c_ranks_fault (d : Dd K mg "ranks_fault" s_ranks_fault P_ranks_fault) : C8.Cal P w K mg base 1 "ranks_fault" spRanksFault [] := by
  refine d.cal sc_ranks_fault (fun vs H Q E h => ?_) (fun f cdv A outer s H vs Q E hr h => ?_)
  · obtain ⟨v, rfl, _⟩ := h
    rfl
  · obtain ⟨v, rfl, q⟩ := h
    have nd := sc_ranks_fault.nd
    refine ⟨_, (pss_one (ps_ret pe_non)), ?_⟩
    refine i_start (σ' := [some v]) rfl ?_
    walk_at "go"
    walk_at "r"
    exact q
/-! ### the number of a row -/
def pk : Nat → List Int → List (Key × V)
  | _, [] => []
  | n, l :: r => (Sum.inl l, V.int (n : Int)) :: pk (n + 1) r
theorem pk_snoc : ∀ (r : List Int) (n : Nat) (l : Int), pk n (r ++ [l]) = pk n r ++ [(Sum.inl l, V.int ((n + r.length : Nat) : Int))]
  | [], n, l => rfl
  | x :: r, n, l => by
    show _ :: pk (n + 1) (r ++ [l]) = _
    rw [pk_snoc r (n + 1) l]
    show _ = _ :: (pk (n + 1) r ++ _)
    rw [List.length_cons, show n + 1 + r.length = n + (r.length + 1) by omega]
theorem pk_len : ∀ (r : List Int) (n : Nat), (pk n r).length = r.length
  | [], _ => rfl
  | x :: r, n => by
    show (pk (n + 1) r).length + 1 = r.length + 1
    rw [pk_len r (n + 1)]
theorem pk_none : ∀ (r : List Int) (n : Nat) (x : Int), x ∉ r → valV (pk n r) (Sum.inl x) = none
  | [], _, _, _ => rfl
  | y :: r, n, x, h => by
    show valV ((Sum.inl y, V.int (n : Int)) :: pk (n + 1) r) _ = _
    rw [valV_neg (fun e => h (by rw [Sum.inl.inj e]; exact List.mem_cons_self)), pk_none r (n + 1) x fun m => h (List.mem_cons_of_mem _ m)]
theorem pk_some : ∀ (r : List Int) (n : Nat) (x : Int), x ∈ r → valV (pk n r) (Sum.inl x) = some (V.int ((n + r.idxOf x : Nat) : Int))
  | y :: r, n, x, h => by
    show valV ((Sum.inl y, V.int (n : Int)) :: pk (n + 1) r) _ = _
    by_cases e : y = x
    · rw [valV_pos (by rw [e]), e, List.idxOf_cons_self]
      rfl
    · have m : x ∈ r := by
        rcases List.mem_cons.mp h with q | q
        · exact absurd q.symm e
        · exact q
      rw [valV_neg (fun q => e (Sum.inl.inj q)), pk_some r (n + 1) x m, List.idxOf_cons, show (y == x) = false from beq_false_of_ne e, cond_false, show n + 1 + r.idxOf x = n + (r.idxOf x + 1) by omega]
theorem map_get {ns : List Int} {i : Nat} {x : V} (h : (ns.map V.int)[i]? = some x) : ∃ n, ns[i]? = some n ∧ x = .int n := by
  rw [List.getElem?_map] at h
  cases e : ns[i]? with
  | none =>
    rw [e] at h
    cases h
  | some n =>
    rw [e] at h
    exact ⟨n, rfl, (Option.some.inj h).symm⟩
theorem take_succ' {α : Type} {l : List α} {i : Nat} {x : α} (h : l[i]? = some x) : l.take (i + 1) = l.take i ++ [x] := by
  rw [List.take_add_one, h]
  rfl
theorem nodup_take {α : Type} [DecidableEq α] {l : List α} {i : Nat} {x : α} (hn : l.Nodup) (h : l[i]? = some x) : x ∉ l.take i := fun m => by
  obtain ⟨j, hj, e⟩ := List.getElem_of_mem m
  rw [List.length_take] at hj
  obtain ⟨hi, e2⟩ := List.getElem?_eq_some_iff.mp h
  rw [List.getElem_take] at e
  have := (List.getElem_inj hn).mp (e.trans e2.symm)
  omega
def spRankOf (K : PySem.W.Frag) : Sp := fun vs H Q _ => ∃ (a b : Addr) (row ls : List Int), vs = [.ref a, .ref b] ∧ SqL K H a (row.map V.int) ∧ SqL K H b (ls.map V.int) ∧ ls.Nodup ∧ (∀ x ∈ row, x ∈ ls) ∧ ls.length ≤ 1000 ∧
  ∀ H', Same H H' → Q (.int ((rankD ls.length (row.map fun x => ls.idxOf x) : Nat) : Int)) H'
theorem c_rank_of (Z : Blt mg) (d : Dd K mg "rank_of" s_rank_of P_rank_of) : C8.Cal P w K mg base 1 "rank_of" (spRankOf K) [] := by
  refine d.cal sc_rank_of (fun vs H Q E h => ?_) (fun f cdv A outer s H vs Q E hr h => ?_)
  · obtain ⟨a, b, row, ls, rfl, _⟩ := h
    rfl
  · obtain ⟨a, b, row, ls, rfl, ha, hb, hnd, hin, hlen, q⟩ := h
    have nd := sc_rank_of.nd
    refine ⟨_, (pss_cons (ps_setDc (i := 2) (own := [("at", 5), ("letter", 4)]) (g := gTup K 2 (gCons (gName 5) (gCons (gName 4) gNil))) (tt := tYes) rfl nd rfl rfl (sw_dc rfl rfl rfl (by decide +kernel)) (pi_enum rfl Z.enumerate_ (pa_cons (pv 1) pa_nil)) (blkOk_by (N := N_rank_of) (sc := C8.fnScope s_rank_of) (own := [("at", 5), ("letter", 4)]) (by decide +kernel)) (fun _ _ _ _ _ => (pg_tup rfl (pgs_cons (pg_name (i := 5) nd rfl (Or.inl rfl)) (pgs_cons (pg_name (i := 4) nd rfl (Or.inl rfl)) pgs_nil)))) (fun _ _ _ _ _ => pts_nil) (fun _ _ _ _ _ => (pv 4)) (fun _ _ _ _ _ => (pv 5)))
  (pss_cons (ps_set (i := 3) nd rfl (Or.inl rfl) pe_int)
  (pss_cons (ps_for PassesOwn.never rfl (pi_list (pv 0)) (pg_name (i := 4) nd rfl (Or.inl rfl))
    (pss_one (ps_set (i := 3) nd rfl (Or.inl rfl) (pe_op op_add (pe_op op_add (pe_op op_mul (pv 3) (pe_callB k_len (by rfl) Z.len_ (by decide +kernel) (pa_cons (pv 1) pa_nil))) (pe_dget (hu_of hr) (pv 2) (pv 4) (fun _ _ => rfl))) pe_int))))
  (pss_one (ps_ret (pv 3)))))), ?_⟩
    refine i_start (σ' := [some (.ref a), some (.ref b), none, none, none, none]) rfl ?_
    walk_at "go"
    walk_at "r"
    refine i_dcE (fun i => pk 0 (ls.take i)) rfl (fun i => by rw [pk_len, List.length_take]; exact Nat.min_le_left _ _) hb (by rw [List.length_map]; omega) (fun D i x T H1 hD hi s1 eD eT nTD Nx hN => ?_) (fun p H1 hp s1 e1 => ?_)
    · obtain ⟨n, hn, rfl⟩ := map_get hi
      walk_at "r"
      have e1 : valV (pk 0 (ls.take i)) (Sum.inl n) = none := pk_none _ _ _ (nodup_take hnd hn)
      have il : i < ls.length := (List.getElem?_eq_some_iff.mp hn).1
      refine ⟨_, Sum.inl n, rfl, eD, szl (by rw [pk_len, List.length_take]; omega), hN _ (smut s1 hD) ?_⟩
      rw [upd_same, putK_new _ e1, take_succ' hn, pk_snoc, Nat.zero_add, List.length_take, Nat.min_eq_left (by omega)]
    · rw [List.length_map, List.take_length] at e1
      walk_at "r"
      refine i_for (s1.seq ha) (fun i σ' H' => ∃ y z, σ' = [some (.ref a), some (.ref b), some (.ref p), some (.int ((rankD ls.length ((row.take i).map fun x => ls.idxOf x) : Nat) : Int)), y, z] ∧ Same H1 H') ⟨_, _, rfl, Same.refl _⟩ (fun i σ' H' _ ⟨_, _, _, s2⟩ => s2.seq (s1.seq ha)) (fun i x σ' H2 hi pv => ?_) (fun σ' H2 pv => ?_)
      · obtain ⟨y, z, rfl, s2⟩ := pv
        obtain ⟨n, hn, rfl⟩ := map_get hi
        have hb2 := s2.seq (s1.seq hb)
        have ep := s2 _ _ e1
        walk_at "r"
        have hv := pk_some ls 0 n (hin n (List.mem_of_getElem? hn))
        have hg : DGet H2 p (.int n) (some (V.int ((0 + ls.idxOf n : Nat) : Int))) := by
          rw [← hv]
          exact DGet.k (k := Sum.inl n) ep
        refine ⟨p, _, rfl, hg, ?_⟩
        walk_at "r"
        refine ⟨some (.int n), z, ?_, s2⟩
        rw [take_succ' hn, List.map_append, List.map_singleton, rankD_snoc, Nat.zero_add]
        push_cast
        rfl
      · obtain ⟨y, z, rfl, s2⟩ := pv
        rw [List.length_map, List.take_length]
        walk_at "r"
        exact q _ (s1.trans s2)
/-! ### the row of a number -/
def spRowOf (K : PySem.W.Frag) : Sp := fun vs H Q _ => ∃ (r : Nat) (b : Addr) (ls : List Int), vs = [.int (r : Int), .ref b] ∧ SqL K H b (ls.map V.int) ∧ 0 < ls.length ∧ ls.length ≤ 1000 ∧ (rowD ls.length r).length ≤ 1000 ∧
  ∀ p H', H p = none → Same H H' → H' p = some (.lst ((rowD ls.length r).map fun d => V.int (ls.getD d 0))) → Q (.ref p) H'
theorem c_row_of (Z : Blt mg) (d : Dd K mg "row_of" s_row_of P_row_of) : C8.Cal P w K mg base 1 "row_of" (spRowOf K) [] := by
  refine d.cal sc_row_of (fun vs H Q E h => ?_) (fun f cdv A outer s H vs Q E hr h => ?_)
  · obtain ⟨r, b, ls, rfl, _⟩ := h
    rfl
  · obtain ⟨r, b, ls, rfl, hb, h0, hlen, hrow, q⟩ := h
    have nd := sc_row_of.nd
    refine ⟨_, (pss_cons (ps_set (i := 2) nd rfl (Or.inl rfl) (pe_callB k_len (by rfl) Z.len_ (by decide +kernel) (pa_cons (pv 1) pa_nil)))
  (pss_cons (ps_set (i := 3) nd rfl (Or.inl rfl) (pe_lst pa_nil))
  (pss_cons (ps_set (i := 4) nd rfl (Or.inl rfl) (pv 0))
  (pss_cons (ps_while PassesOwn.never (pt_cmpR op_gt (pv 4) pe_int (nomark _))
    (pss_cons (ps_expr (pe_bm PySem.F.plainAttrs_list PySem.F.slot_list_append PySem.F.type_list_append mt_append (pv 3) (pa_cons (pe_ix ix_list (pv 1) (pe_op op_mod (pe_op op_sub (pv 4) pe_int) (pv 2)) (fun _ _ => rfl)) pa_nil)))
  (pss_one (ps_set (i := 4) nd rfl (Or.inl rfl) (pe_op op_fdiv (pe_op op_sub (pv 4) pe_int) (pv 2))))))
  (pss_one (ps_ret (pe_revL (pv 3)))))))), ?_⟩
    refine i_start (σ' := [some (.int r), some (.ref b), none, none, none]) rfl ?_
    walk_at "go"
    walk_at "r"
    refine i_lst (Nat.zero_le _) (fun p H1 hp s1 e1 => ?_)
    walk_at "r"
    refine i_while (fun m σ' H' => ∃ acc : List Nat, σ' = [some (.int r), some (.ref b), some (.int ls.length), some (.ref p), some (.int (m : Nat))] ∧ Same H H' ∧ H' p = some (.lst (acc.map fun d => V.int (ls.getD d 0))) ∧ rowD ls.length m ++ acc.reverse = rowD ls.length r) r ⟨[], rfl, s1, e1, by simp⟩ (fun m σ' H' pv => ?_)
    obtain ⟨acc, rfl, s2, e2, ea⟩ := pv
    have hb2 := s2.seq hb
    have lacc : acc.length ≤ 1000 := by
      have z := congrArg List.length ea
      rw [List.length_append, List.length_reverse] at z
      omega
    walk_at "r"
    refine i_br (fun h => ?_) (fun h => ?_)
    · have hm : m ≠ 0 := by omega
      have em : (m : Int) - 1 = ((m - 1 : Nat) : Int) := by omega
      walk_at "r"
      refine i_ixL hb2 (v := .int (ls.getD ((m - 1) % ls.length) 0)) ?_ ?_
      · rw [em, ← Int.natCast_emod]
        have hlt : (m - 1) % ls.length < ls.length := Nat.mod_lt _ h0
        refine atI_nat ?_
        rw [List.getElem?_map, List.getElem?_eq_getElem hlt, List.getD_eq_getElem?_getD, List.getElem?_eq_getElem hlt]
        rfl
      · walk_at "r"
        refine ⟨(m - 1) / ls.length, div_lt' hm, acc ++ [(m - 1) % ls.length], ?_, smut s2 hp, ?_, ?_⟩
        · rw [em, ← Int.natCast_ediv]
        · rw [upd_same, List.map_append]
          rfl
        · rw [List.reverse_append, ← ea, rowD_pos hm, List.append_assoc]
          rfl
    · have hm : m = 0 := by omega
      subst hm
      walk_at "r"
      refine i_rev (sl_of e2) (fun p2 H2 hp2 s3 e3 => ?_)
      rw [rowD_zero, List.nil_append] at ea
      rw [← List.map_reverse, ea] at e3
      exact q p2 H2 (s2.free hp2) (s2.trans s3) e3
/-! ### a way without its turned ones -/
/-- v is turned by each of ts (at its address), the outermost first; u stands within -/
def TurnAt (K : PySem.W.Frag) (H : Hp) : List (Addr × List Int) → V → V → Prop
  | [], v, u => v = u
  | (a, t) :: r, v, u => ∃ p x, v = .ref p ∧ SqT K H p [.str "turned", .ref a, x] ∧ SqT K H a (t.map V.int) ∧ TurnAt K H r x u
theorem TurnAt.same {K : PySem.W.Frag} {H H' : Hp} (s : Same H H') : ∀ {ts : List (Addr × List Int)} {v u : V}, TurnAt K H ts v u → TurnAt K H' ts v u
  | [], _, _, h => h
  | (_, _) :: _, _, _, ⟨p, x, e, h1, h2, h3⟩ => ⟨p, x, e, stup s h1, stup s h2, h3.same s⟩
def spUnturned (K : PySem.W.Frag) : Sp := fun vs H Q _ => ∃ (v : V) (ts : List (Addr × List Int)) (p : Addr) (k : Str) (xs : List V), vs = [v] ∧ TurnAt K H ts v (.ref p) ∧ SqT K H p (.str k :: xs) ∧ k ≠ "turned" ∧ ts.length ≤ 1000 ∧
  ∀ q l H', H q = none → H l = none → Same H H' → H' q = some (.tup [.ref l, .ref p]) → H' l = some (.lst (ts.map fun t => V.ref t.1)) → Q (.ref q) H'
theorem c_unturned (d : Dd K mg "unturned" s_unturned P_unturned) : C8.Cal P w K mg base 1 "unturned" (spUnturned K) [] := by
  refine d.cal sc_unturned (fun vs H Q E h => ?_) (fun f cdv A outer s H vs Q E hr h => ?_)
  · obtain ⟨v, ts, p, k, xs, rfl, _⟩ := h
    rfl
  · obtain ⟨v, ts, pi, k, xs, rfl, ht, hk, hne, hlen, q⟩ := h
    have nd := sc_unturned.nd
    refine ⟨_, (pss_cons (ps_set (i := 1) nd rfl (Or.inl rfl) (pe_lst pa_nil))
  (pss_cons (ps_set (i := 2) nd rfl (Or.inl rfl) (pv 0))
  (pss_cons (ps_while PassesOwn.never (pt_cmpR op_eq (pe_ix ix_tup (pv 2) pe_int (fun _ _ => rfl)) pe_str (nomark _))
    (pss_cons (ps_expr (pe_bm PySem.F.plainAttrs_list PySem.F.slot_list_append PySem.F.type_list_append mt_append (pv 1) (pa_cons (pe_ix ix_tup (pv 2) pe_int (fun _ _ => rfl)) pa_nil)))
  (pss_one (ps_set (i := 2) nd rfl (Or.inl rfl) (pe_ix ix_tup (pv 2) pe_int (fun _ _ => rfl))))))
  (pss_one (ps_ret (pe_tup (pa_cons (pv 1) (pa_cons (pv 2) pa_nil)))))))), ?_⟩
    refine i_start (σ' := [some v, none, none]) rfl ?_
    walk_at "go"
    walk_at "r"
    refine i_lst (Nat.zero_le _) (fun p H1 hp s1 e1 => ?_)
    walk_at "r"
    refine i_while (fun m σ' H' => ∃ ds r x, ts = ds ++ r ∧ m = r.length ∧ σ' = [some v, some (.ref p), some x] ∧ Same H H' ∧ H' p = some (.lst (ds.map fun t => V.ref t.1)) ∧ TurnAt K H r x (.ref pi)) ts.length ⟨[], ts, v, rfl, rfl, rfl, s1, e1, ht⟩ (fun m σ' H' pv => ?_)
    obtain ⟨ds, r, x, rfl, rfl, rfl, s2, e2, hr2⟩ := pv
    cases r with
    | nil =>
      cases hr2
      have hk2 := stup s2 hk
      walk_at "r"
      refine i_no hne ?_
      walk_at "r"
      refine i_tup (by show 2 ≤ sizeLine; decide) (fun p2 H2 hp2 s3 e3 => ?_)
      rw [List.append_nil] at q
      exact q p2 p H2 (s2.free hp2) hp (s2.trans s3) e3 (s3 _ _ e2)
    | cons t r =>
      obtain ⟨a, t⟩ := t
      obtain ⟨p2, y, rfl, h1, h2, h3⟩ := hr2
      have h1' := stup s2 h1
      rw [List.length_append, List.length_cons] at hlen
      walk_at "r"
      refine i_yes rfl ?_
      walk_at "r"
      refine ⟨r.length, by show r.length < r.length + 1; omega, ds ++ [(a, t)], r, y, by rw [List.append_assoc]; rfl, rfl, rfl, smut s2 hp, ?_, h3⟩
      rw [upd_same, List.map_append]
      rfl
end
end Esc

namespace Esc
open PySem PySem.Spec PyProof.Rows L2
section
variable {P : Program} {w : World} {K : PySem.W.Frag} {mg : Str → Option Value} {base : Heap}
/-! ### draws -/
def spDice (K : PySem.W.Frag) : Sp := fun vs H Q _ => ∃ (a : Addr) (ns : List Int) (k : Int), vs = [.ref a, .int k] ∧ SqL K H a (ns.map V.int) ∧ 0 ≤ k ∧ k < 1000000 ∧ ns.length ≤ 63 ∧ ∀ p H', H p = none → Same H H' → DiceAt H' p → Q (.ref p) H'
theorem c_dice (Z : Blt mg) (d : Dd K mg "_law_dice" s__law_dice P__law_dice) : C8.Cal P w K mg base 1 "_law_dice" (spDice K) [] := by
  refine d.cal sc__law_dice (fun vs H Q E h => ?_) (fun f cdv A outer s H vs Q E hr h => ?_)
  · obtain ⟨a, ns, k, rfl, _⟩ := h
    rfl
  · obtain ⟨a, ns, k, rfl, ha, hk0, hk1, hlen, q⟩ := h
    have nd := sc__law_dice.nd
    refine ⟨_, (pss_cons (ps_set (i := 2) nd rfl (Or.inl rfl) (pv 1))
  (pss_cons (ps_for PassesOwn.never rfl (pi_list (pv 0)) (pg_name (i := 3) nd rfl (Or.inl rfl))
    (pss_one (ps_set (i := 2) nd rfl (Or.inl rfl) (pe_op op_mod (pe_op op_add (pe_op op_mul (pv 2) pe_int) (pe_callB k_abs (by rfl) Z.abs_ (by decide +kernel) (pa_cons (pv 3) pa_nil))) pe_int))))
  (pss_one (ps_ret (pe_op op_cat (pe_lst (pa_cons (pv 2) (pa_cons pe_int pa_nil))) (pe_lc (own := [("_law_cell", 3)]) (g := gName 3) rfl nd (pi_list (pv 0)) (blkOk_by (N := N__law_dice) (sc := C8.fnScope s__law_dice) (own := [("_law_cell", 3)]) (by decide +kernel)) (fun _ _ _ _ _ => (pg_name (i := 3) nd rfl (Or.inl rfl))) (fun _ _ _ _ _ => pts_one (pt_cmpR op_ge (pv 3) (pe_op op_pow pe_int pe_int) (nomark _))) (fun _ _ _ _ _ => (pv 3)))))))), ?_⟩
    refine i_start (σ' := [some (.ref a), some (.int k), none, none]) rfl ?_
    walk_at "go"
    walk_at "r"
    refine i_for ha (fun i σ' H' => ∃ x y, σ' = [some (.ref a), some (.int k), some (.int x), y] ∧ Same H H' ∧ 0 ≤ x ∧ x < 2147483647) ⟨k, none, rfl, Same.refl _, hk0, by omega⟩ (fun i σ' H' _ ⟨_, _, _, s1, _⟩ => s1.seq ha) (fun i x σ' H' hi pv => ?_) (fun σ' H' pv => ?_)
    · obtain ⟨x, y, rfl, s1, hx0, hx1⟩ := pv
      obtain ⟨n, hn, rfl⟩ := map_get hi
      walk_at "r"
      exact ⟨_, _, rfl, s1, Int.emod_nonneg _ (by decide), Int.emod_lt_of_pos _ (by decide)⟩
    · obtain ⟨x, y, rfl, s1, hx0, hx1⟩ := pv
      have ha' := s1.seq ha
      walk_at "r"
      refine i_lst (by show 2 ≤ sizeLine; decide) (fun p1 H1 hp1 s2 e1 => ?_)
      walk_at "r"
      refine i_lcL (F := fun v => match v with | .int n => if 10 ^ 18 ≤ n then some (.int n) else none | _ => none) (s2.seq ha') (by rw [List.length_map]; omega) (fun v hv H2 s3 QN QY hN hY => ?_) (fun p2 H2 hp2 s3 e2 => ?_)
      · obtain ⟨n, hn, rfl⟩ := List.mem_map.mp hv
        walk_at "r"
        refine i_br (fun h => ?_) (fun h => ?_)
        · walk_at "r"
          exact hY _ (if_pos (show (10 : Int) ^ 18 ≤ n from h)) _ (Same.refl _)
        · walk_at "r"
          exact hN (if_neg (show ¬ (10 : Int) ^ 18 ≤ n from h)) _ (Same.refl _)
      · have e3 : ∀ l : List Int, (l.map V.int).filterMap (fun v => match v with | .int n => if 10 ^ 18 ≤ n then some (V.int n) else none | _ => none) = (l.filter fun n => decide ((10 : Int) ^ 18 ≤ n)).map V.int := fun l => by
          induction l with
          | nil => rfl
          | cons n r ih =>
            rw [List.map_cons, List.filterMap_cons, List.filter_cons, ih]
            by_cases h : (10 : Int) ^ 18 ≤ n
            · rw [decide_eq_true h, if_pos rfl]
              dsimp only
              rw [if_pos h]
              rfl
            · rw [decide_eq_false h, if_neg Bool.false_ne_true]
              dsimp only
              rw [if_neg h]
        rw [e3] at e2
        have lf : (ns.filter fun n => decide ((10 : Int) ^ 18 ≤ n)).length ≤ ns.length := List.length_filter_le _ _
        walk_at "r"
        have e1' := s3 _ _ e1
        refine i_cat e1' e2 (sz (by rw [List.length_map, List.length_cons, List.length_cons, List.length_nil]; omega)) (fun p3 H3 hp3 s4 e4 => ?_)
        refine q p3 H3 (s1.free (s2.free (s3.free hp3))) (s1.trans (s2.trans (s3.trans s4))) (.mk (x := x) (c := 0) (r := ns.filter fun n => decide ((10 : Int) ^ 18 ≤ n)) e4 hx0 (Int.le_refl _) ?_ (by omega))
        intro y hy
        have z := of_decide_eq_true (List.mem_filter.mp hy).2
        exact Int.le_trans (by decide) z
/-! ### plain signs, by the law's own -/
theorem c_law_plain (Z : Blt mg) (d : Dd K mg "_law_plain" s__law_plain P__law_plain) : C8.Cal P w K mg base 1 "_law_plain" spPlain [] := by
  refine d.cal sc__law_plain (fun vs H Q E h => ?_) (fun f cdv A outer s H vs Q E hr h => ?_)
  · obtain ⟨t, e, rfl, _⟩ := h
    rfl
  · obtain ⟨t, e, rfl, h1, h2, q⟩ := h
    have nd := sc__law_plain.nd
    refine ⟨_, (pss_one (ps_ret (pe_lc (own := [("_law_sign", 2)]) (g := gName 2) rfl nd (pi_range1 rfl Z.range_ (pa_cons (pv 0) pa_nil)) (blkOk_by (N := N__law_plain) (sc := C8.fnScope s__law_plain) (own := [("_law_sign", 2)]) (by decide +kernel)) (fun _ _ _ _ _ => (pg_name (i := 2) nd rfl (Or.inl rfl))) (fun _ _ _ _ _ => pts_one (pt_cmpR op_ne (pv 2) (pv 1) (nomark _))) (fun _ _ _ _ _ => (pv 2))))), ?_⟩
    refine i_start (σ' := [some (.int t), some (.int e), none]) rfl ?_
    walk_at "go"
    walk_at "r"
    refine i_lcR (F := fun (i : Nat) => if (i : Int) = e then none else some (V.int (i : Int))) ⟨h1, by omega⟩ (fun i hi H1 s1 QN QY hN hY => ?_) (by rw [plainL_map]; exact q)
    walk_at "r"
    refine i_nbr (fun h => ?_) (fun h => ?_)
    · walk_at "r"
      exact hN (if_pos h) _ (Same.refl _)
    · walk_at "r"
      exact hY _ (if_neg h) _ (Same.refl _)
/-! ### a top -/
def spSize : Sp := fun vs H Q _ => ∃ d : Addr, vs = [.ref d] ∧ DiceAt H d ∧ ∀ (H' : Hp) (n : Int), Same (hide d H) H' → DiceAt H' d → 3 ≤ n → n ≤ 16 → Q (.int n) H'
theorem c_law_size (c__law_off : C8.Cal P w K mg base 1 "_law_off" spOff []) (d : Dd K mg "_law_size" s__law_size P__law_size) : C8.Cal P w K mg base 2 "_law_size" spSize [] := by
  refine d.cal sc__law_size (fun vs H Q E h => ?_) (fun f cdv A outer s H vs Q E hr h => ?_)
  · obtain ⟨a, rfl, _⟩ := h
    rfl
  · obtain ⟨a, rfl, ⟨x, c, r, hd, hx, hc, hr0, hl⟩, q⟩ := h
    have nd := sc__law_size.nd
    refine ⟨_, (pss_one (ps_ret (pe_ix ix_list (pe_lst (pa_cons pe_int (pa_cons pe_int (pa_cons pe_int (pa_cons pe_int (pa_cons pe_int (pa_cons (pe_op op_add pe_int (pe_op op_mod (pe_op op_fdiv (pe_ix ix_list (pv 0) pe_int (fun _ _ => rfl)) pe_int) pe_int)) (pa_cons pe_int (pa_cons pe_int pa_nil))))))))) (C8.pe_c c__law_off hr (by decide) (by rfl) (pa_cons (pv 0) (pa_cons pe_int pa_nil))) (fun _ _ => rfl)))), ?_⟩
    refine i_start (σ' := [some (.ref a)]) rfl ?_
    walk_at "go"
    walk_at "r"
    have ho := Int.emod_nonneg (x / 7) (show (14 : Int) ≠ 0 by decide)
    have ho2 := Int.emod_lt_of_pos (x / 7) (show (0 : Int) < 14 by decide)
    refine i_lst (by show 8 ≤ sizeLine; decide) (fun p H1 hp s1 e1 => ?_)
    walk_at "r"
    refine ⟨a, 8, rfl, by decide, by decide, .mk (s1 _ _ hd) hx hc hr0 hl, fun H2 n s2 d2 hn0 hn8 => ?_⟩
    have npa : p ≠ a := (ne_of_none hd hp).symm
    have e2 := s2 _ _ ((hide_ne npa).trans e1)
    have s3 : Same (hide a H) H2 := fun b o e => s2 _ _ (by
      have nb : b ≠ a := fun z => by rw [z, hide_d] at e; cases e
      rw [hide_ne nb] at e ⊢
      exact s1 _ _ e)
    walk_at "r"
    have hn : n = 0 ∨ n = 1 ∨ n = 2 ∨ n = 3 ∨ n = 4 ∨ n = 5 ∨ n = 6 ∨ n = 7 := by omega
    rcases hn with rfl | rfl | rfl | rfl | rfl | rfl | rfl | rfl
    · exact i_ixL (sl_of e2) (atI_nat (j := 0) rfl) (q _ _ s3 d2 (by decide) (by decide))
    · exact i_ixL (sl_of e2) (atI_nat (j := 1) rfl) (q _ _ s3 d2 (by decide) (by decide))
    · exact i_ixL (sl_of e2) (atI_nat (j := 2) rfl) (q _ _ s3 d2 (by decide) (by decide))
    · exact i_ixL (sl_of e2) (atI_nat (j := 3) rfl) (q _ _ s3 d2 (by decide) (by decide))
    · exact i_ixL (sl_of e2) (atI_nat (j := 4) rfl) (q _ _ s3 d2 (by decide) (by decide))
    · exact i_ixL (sl_of e2) (atI_nat (j := 5) rfl) (q _ _ s3 d2 (by omega) (by omega))
    · exact i_ixL (sl_of e2) (atI_nat (j := 6) rfl) (q _ _ s3 d2 (by decide) (by decide))
    · exact i_ixL (sl_of e2) (atI_nat (j := 7) rfl) (q _ _ s3 d2 (by decide) (by decide))
/-! ### a body -/
def spBody : Sp := fun vs H Q _ => ∃ (d : Addr) (t e m : Int), vs = [.ref d, .int t, .int e, .int m] ∧ DiceAt H d ∧ 1 ≤ t ∧ t ≤ 16 ∧ 0 ≤ e ∧ e < t ∧ 0 ≤ m ∧ m ≤ 1000 ∧
  ∀ (p : Addr) (H' : Hp) (ns : List Int), H p = none → Same (hide d H) H' → DiceAt H' d → H' p = some (.lst (ns.map V.int)) → (∀ n ∈ ns, 0 ≤ n ∧ n < t) → (ns.length : Int) ≤ m → Q (.ref p) H'
theorem c_law_body (Z : Blt mg) (c__law_off : C8.Cal P w K mg base 1 "_law_off" spOff []) (d : Dd K mg "_law_body" s__law_body P__law_body) : C8.Cal P w K mg base 2 "_law_body" spBody [] := by
  refine d.cal sc__law_body (fun vs H Q E h => ?_) (fun f cdv A outer s H vs Q E hr h => ?_)
  · obtain ⟨a, t, e, m, rfl, _⟩ := h
    rfl
  · obtain ⟨a, t, e, m, rfl, hd, ht1, ht2, he0, het, hm0, hm1, q⟩ := h
    have nd := sc__law_body.nd
    refine ⟨_, (pss_cons (ps_set (i := 4) nd rfl (Or.inl rfl) (C8.pe_c c__law_off hr (by decide) (by rfl) (pa_cons (pv 0) (pa_cons (pe_op op_add (pv 3) pe_int) pa_nil))))
  (pss_cons (ps_set (i := 5) nd rfl (Or.inl rfl) (C8.pe_c c__law_off hr (by decide) (by rfl) (pa_cons (pv 0) (pa_cons pe_int pa_nil))))
  (pss_cons (ps_set (i := 6) nd rfl (Or.inl rfl) (C8.pe_c c__law_off hr (by decide) (by rfl) (pa_cons (pv 0) (pa_cons (pv 1) pa_nil))))
  (pss_cons (ps_set (i := 7) nd rfl (Or.inl rfl) (pe_lst pa_nil))
  (pss_cons (ps_for PassesOwn.never rfl (pi_range1 rfl Z.range_ (pa_cons (pv 4) pa_nil)) (pg_name (i := 8) nd rfl (Or.inl rfl))
    (pss_one (ps_if (PW.pt (pw_or (pt_cmpR op_eq (pv 5) pe_int (nomark _)) (pw_or1 (pt_cmpR op_eq (C8.pe_c c__law_off hr (by decide) (by rfl) (pa_cons (pv 0) (pa_cons pe_int pa_nil))) pe_int (nomark _))))) (pss_one (ps_expr (pe_bm PySem.F.plainAttrs_list PySem.F.slot_list_append PySem.F.type_list_append mt_append (pv 7) (pa_cons (C8.pe_c c__law_off hr (by decide) (by rfl) (pa_cons (pv 0) (pa_cons (pv 1) pa_nil))) pa_nil)))) (pss_one (ps_expr (pe_bm PySem.F.plainAttrs_list PySem.F.slot_list_append PySem.F.type_list_append mt_append (pv 7) (pa_cons (pe_ix ix_list (pe_lst (pa_cons (pv 6) (pa_cons (pv 2) (pa_cons (pv 6) pa_nil)))) (pe_op op_sub (pv 5) pe_int) (fun _ _ => rfl)) pa_nil)))))))
  (pss_one (ps_ret (pv 7)))))))), ?_⟩
    refine i_start (σ' := [some (.ref a), some (.int t), some (.int e), some (.int m), none, none, none, none, none]) rfl ?_
    walk_at "go"
    walk_at "r"
    refine ⟨a, m + 1, rfl, by omega, by omega, hd, fun H1 size s1 d1 hs0 hs1 => ?_⟩
    walk_at "r"
    refine ⟨a, 4, rfl, by omega, by omega, d1, fun H2 kind s2 d2 hk0 hk1 => ?_⟩
    walk_at "r"
    refine ⟨a, t, rfl, by omega, by omega, d2, fun H3 one s3 d3 ho0 ho1 => ?_⟩
    walk_at "r"
    refine i_lst (Nat.zero_le _) (fun p H4 hp s4 e4 => ?_)
    obtain ⟨x3, c3, r3, dd3, dr3⟩ := d3
    have npa : p ≠ a := (ne_of_none dd3 hp).symm
    have h13 : Same (hide a H) H3 := hide_tr (hide_tr s1 s2) s3
    have hpa : hide a H p = none := h13.free hp
    rw [hide_ne npa] at hpa
    walk_at "r"
    refine i_rng ⟨hs0, by omega⟩ (fun i σ' H' => ∃ (y : Option V) (ns : List Int), σ' = [some (.ref a), some (.int t), some (.int e), some (.int m), some (.int size), some (.int kind), some (.int one), some (.ref p), y] ∧ Same (hide a H) H' ∧ DiceAt H' a ∧ H' p = some (.lst (ns.map V.int)) ∧ (∀ n ∈ ns, 0 ≤ n ∧ n < t) ∧ ns.length = i)
      ⟨none, [], rfl, fun b o z => s4 _ _ (h13 _ _ z), ⟨x3, c3, r3, s4 _ _ dd3, dr3⟩, e4, by simp, rfl⟩ (fun i σ' H' hi pv => ?_) (fun σ' H' pv => ?_)
    · obtain ⟨y, ns, rfl, sH, dH, eH, hns, hl⟩ := pv
      have app : ∀ (n : Int) (H5 : Hp), 0 ≤ n → n < t → Same (hide a H) H5 → DiceAt H5 a → H5 p = some (.lst (ns.map V.int)) → ∃ (y' : Option V) (ns' : List Int), [some (V.ref a), some (.int t), some (.int e), some (.int m), some (.int size), some (.int kind), some (.int one), some (.ref p), some (.int (i : Int))] = [some (.ref a), some (.int t), some (.int e), some (.int m), some (.int size), some (.int kind), some (.int one), some (.ref p), y'] ∧ Same (hide a H) (upd H5 p (.lst (ns.map V.int ++ [.int n]))) ∧ DiceAt (upd H5 p (.lst (ns.map V.int ++ [.int n]))) a ∧ (upd H5 p (.lst (ns.map V.int ++ [.int n]))) p = some (.lst (ns'.map V.int)) ∧ (∀ n ∈ ns', 0 ≤ n ∧ n < t) ∧ ns'.length = i + 1 := by
        intro n H5 h1 h2 h3 h4 h5
        obtain ⟨x5, c5, r5, dd5, dr5⟩ := h4
        refine ⟨some (.int (i : Int)), ns ++ [n], rfl, smut h3 (by rw [hide_ne npa]; exact hpa), ⟨x5, c5, r5, by rw [upd_ne npa.symm]; exact dd5, dr5⟩, by rw [upd_same, List.map_append]; rfl, fun k hk => ?_, by rw [List.length_append, hl]; rfl⟩
        rcases List.mem_append.mp hk with hk | hk
        · exact hns k hk
        · rw [List.mem_singleton.mp hk]
          exact ⟨h1, h2⟩
      have lns : ns.length < 100000 := by omega
      have szp : (ns.map V.int).length < sizeLine := szl (by rw [List.length_map]; exact lns)
      walk_at "r"
      refine i_br (fun hk => ?_) (fun hk => ?_)
      · walk_at "r"
        refine ⟨a, t, rfl, by omega, by omega, dH, fun H5 n s5 d5 h1 h2 => ?_⟩
        have e5 := s5 _ _ ((hide_ne npa).trans eH)
        walk_at "r"
        exact app n H5 h1 h2 (hide_tr sH s5) d5 e5
      · walk_at "r"
        refine ⟨a, 6, rfl, by decide, by decide, dH, fun H5 n6 s5 d5 h1 h2 => ?_⟩
        have e5 := s5 _ _ ((hide_ne npa).trans eH)
        have s05 := hide_tr sH s5
        walk_at "r"
        refine i_br (fun _ => ?_) (fun _ => ?_)
        · walk_at "r"
          refine ⟨a, t, rfl, by omega, by omega, d5, fun H6 n s6 d6 h1 h2 => ?_⟩
          have e6 := s6 _ _ ((hide_ne npa).trans e5)
          walk_at "r"
          exact app n H6 h1 h2 (hide_tr s05 s6) d6 e6
        · walk_at "r"
          refine i_lst (by show 3 ≤ sizeLine; decide) (fun p6 H6 hp6 s6 e6 => ?_)
          have e7 := s6 _ _ e5
          obtain ⟨x5, c5, r5, dd5, dr5⟩ := d5
          have d6 : DiceAt H6 a := ⟨x5, c5, r5, s6 _ _ dd5, dr5⟩
          have s06 : Same (hide a H) H6 := s05.trans s6
          walk_at "r"
          have hn : kind = 1 ∨ kind = 2 ∨ kind = 3 := by omega
          rcases hn with rfl | rfl | rfl
          · refine i_ixL (sl_of e6) (atI_nat (j := 0) rfl) ?_
            walk_at "r"
            exact app one H6 ho0 ho1 s06 d6 e7
          · refine i_ixL (sl_of e6) (atI_nat (j := 1) rfl) ?_
            walk_at "r"
            exact app e H6 he0 het s06 d6 e7
          · refine i_ixL (sl_of e6) (atI_nat (j := 2) rfl) ?_
            walk_at "r"
            exact app one H6 ho0 ho1 s06 d6 e7
    · obtain ⟨y, ns, rfl, sH, dH, eH, hns, hl⟩ := pv
      walk_at "r"
      exact q p H' ns hpa sH dH eH hns (by omega)
end
end Esc

namespace Esc
open PySem PySem.Spec PyProof.Rows L2
section
variable {P : Program} {w : World} {K : PySem.W.Frag} {mg : Str → Option Value} {base : Heap}
theorem mapD_get {ds : List Nat} {i : Nat} {x : V} (h : (ds.map fun d => V.int ((d : Nat) : Int))[i]? = some x) : ∃ d, ds[i]? = some d ∧ x = .int ((d : Nat) : Int) := by
  rw [List.getElem?_map] at h
  cases e : ds[i]? with
  | none =>
    rw [e] at h
    cases h
  | some n =>
    rw [e] at h
    exact ⟨n, rfl, (Option.some.inj h).symm⟩
def spNumber (K : PySem.W.Frag) : Sp := fun vs H Q _ => ∃ (a : Addr) (ds : List Nat) (m : Nat), vs = [.ref a, .int (m : Int)] ∧ SqL K H a (ds.map fun d => V.int ((d : Nat) : Int)) ∧ 0 < m ∧ m ≤ 1000 ∧ ∀ H', Same H H' → Q (.int ((rankD m ds : Nat) : Int)) H'
theorem c_law_number (d : Dd K mg "_law_number" s__law_number P__law_number) : C8.Cal P w K mg base 1 "_law_number" (spNumber K) [] := by
  refine d.cal sc__law_number (fun vs H Q E h => ?_) (fun f cdv A outer s H vs Q E hr h => ?_)
  · obtain ⟨a, ds, m, rfl, _⟩ := h
    rfl
  · obtain ⟨a, ds, m, rfl, ha, hm0, hm1, q⟩ := h
    have nd := sc__law_number.nd
    refine ⟨_, (pss_cons (ps_set (i := 2) nd rfl (Or.inl rfl) pe_int)
  (pss_cons (ps_set (i := 3) nd rfl (Or.inl rfl) pe_int)
  (pss_cons (ps_set (i := 4) nd rfl (Or.inl rfl) pe_int)
  (pss_cons (ps_for PassesOwn.never rfl (pi_list (pv 0)) (pg_name (i := 5) nd rfl (Or.inl rfl))
    (pss_cons (ps_set (i := 2) nd rfl (Or.inl rfl) (pe_op op_add (pe_op op_mul (pv 2) (pv 1)) (pv 5)))
  (pss_cons (ps_set (i := 3) nd rfl (Or.inl rfl) (pe_op op_add (pv 3) (pv 4)))
  (pss_one (ps_set (i := 4) nd rfl (Or.inl rfl) (pe_op op_mul (pv 4) (pv 1)))))))
  (pss_one (ps_ret (pe_op op_add (pv 2) (pv 3)))))))), ?_⟩
    refine i_start (σ' := [some (.ref a), some (.int m), none, none, none, none]) rfl ?_
    walk_at "go"
    walk_at "r"
    refine i_for ha (fun i σ' H' => ∃ y, σ' = [some (.ref a), some (.int m), some (.int ((numD m (ds.take i)).1 : Nat)), some (.int ((numD m (ds.take i)).2.1 : Nat)), some (.int ((numD m (ds.take i)).2.2 : Nat)), y] ∧ Same H H') ⟨none, rfl, Same.refl _⟩ (fun i σ' H' _ ⟨_, _, s1⟩ => s1.seq ha) (fun i x σ' H' hi pv => ?_) (fun σ' H' pv => ?_)
    · obtain ⟨y, rfl, s1⟩ := pv
      obtain ⟨n, hn, rfl⟩ := mapD_get hi
      walk_at "r"
      refine ⟨some (.int ((n : Nat) : Int)), ?_, s1⟩
      rw [take_succ' hn, numD_snoc]
      push_cast
      rfl
    · obtain ⟨y, rfl, s1⟩ := pv
      walk_at "r"
      rw [List.length_map, List.take_length, ← Int.natCast_add, (num_inv m hm0 ds.length ds rfl).2.1]
      exact q _ s1
def spList : Sp := fun vs H Q _ => ∃ (r m : Nat), vs = [.int (r : Int), .int (m : Int)] ∧ 0 < m ∧ m ≤ 1000 ∧ (rowD m r).length ≤ 1000 ∧ ∀ p H', H p = none → Same H H' → H' p = some (.lst ((rowD m r).map fun d => V.int ((d : Nat) : Int))) → Q (.ref p) H'
theorem c_law_list (Z : Blt mg) (d : Dd K mg "_law_list" s__law_list P__law_list) : C8.Cal P w K mg base 1 "_law_list" spList [] := by
  refine d.cal sc__law_list (fun vs H Q E h => ?_) (fun f cdv A outer s H vs Q E hr h => ?_)
  · obtain ⟨r, m, rfl, _⟩ := h
    rfl
  · obtain ⟨r, m, rfl, hm0, hm1, hl, q⟩ := h
    have nd := sc__law_list.nd
    refine ⟨_, (pss_cons (ps_set (i := 2) nd rfl (Or.inl rfl) pe_int)
  (pss_cons (ps_set (i := 3) nd rfl (Or.inl rfl) pe_int)
  (pss_cons (ps_while PassesOwn.never (pt_cmpR op_ge (pv 0) (pv 3) (nomark _))
    (pss_cons (ps_set (i := 0) nd rfl (Or.inl rfl) (pe_op op_sub (pv 0) (pv 3)))
  (pss_cons (ps_set (i := 3) nd rfl (Or.inl rfl) (pe_op op_mul (pv 3) (pv 1)))
  (pss_one (ps_set (i := 2) nd rfl (Or.inl rfl) (pe_op op_add (pv 2) pe_int))))))
  (pss_cons (ps_set (i := 4) nd rfl (Or.inl rfl) (pe_lst pa_nil))
  (pss_cons (ps_for PassesOwn.never rfl (pi_range1 rfl Z.range_ (pa_cons (pv 2) pa_nil)) (pg_name (i := 5) nd rfl (Or.inl rfl))
    (pss_cons (ps_expr (pe_bm PySem.F.plainAttrs_list PySem.F.slot_list_insert PySem.F.type_list_insert k_insert (pv 4) (pa_cons pe_int (pa_cons (pe_op op_mod (pv 0) (pv 1)) pa_nil))))
  (pss_one (ps_set (i := 0) nd rfl (Or.inl rfl) (pe_op op_fdiv (pv 0) (pv 1))))))
  (pss_one (ps_ret (pv 4)))))))), ?_⟩
    refine i_start (σ' := [some (.int r), some (.int m), none, none, none, none]) rfl ?_
    walk_at "go"
    walk_at "r"
    have hrk := rank_val m (rowD m r).length (rowD m r) rfl
    rw [rank_row] at hrk
    have hv := val_lt (rowD m r).length (rowD m r) rfl (row_lt hm0 r)
    generalize hk : (rowD m r).length = k at hrk hv hl
    refine i_while (fun n σ' H' => ∃ j, n = k - j ∧ j ≤ k ∧ σ' = [some (.int ((r - aheadD m j : Nat) : Int)), some (.int m), some (.int (j : Int)), some (.int ((m ^ j : Nat) : Int)), none, none] ∧ Same H H') k ⟨0, rfl, Nat.zero_le _, rfl, Same.refl _⟩ (fun n σ' H' pv => ?_)
    obtain ⟨j, rfl, hj, rfl, s0⟩ := pv
    have hS : aheadD m j ≤ r := by
      have z := ahead_mono m hj
      omega
    walk_at "r"
    refine i_br (fun h => ?_) (fun h => ?_)
    · have hlt : j < k := by
        rcases Nat.lt_or_ge j k with c | c
        · exact c
        · exfalso
          have e : j = k := by omega
          subst e
          omega
      have hS1 : aheadD m (j + 1) ≤ r := by
        have z := ahead_mono m (show j + 1 ≤ k from hlt)
        exact Nat.le_trans z (by omega)
      walk_at "r"
      refine ⟨k - (j + 1), by omega, j + 1, rfl, hlt, ?_, s0⟩
      have e1 : ((r - aheadD m j : Nat) : Int) - ((m ^ j : Nat) : Int) = ((r - aheadD m (j + 1) : Nat) : Int) := by
        have z : aheadD m (j + 1) = aheadD m j + m ^ j := rfl
        omega
      rw [e1, Nat.pow_succ]
      push_cast
      rfl
    · have ej : j = k := by
        rcases Nat.lt_or_ge j k with c | c
        · exfalso
          have z := ahead_mono m (show j + 1 ≤ k from c)
          have z2 : aheadD m (j + 1) = aheadD m j + m ^ j := rfl
          have z3 : m ^ j ≤ r - aheadD m j := by omega
          exact h (Int.ofNat_le.mpr z3)
        · omega
      subst ej
      walk_at "r"
      refine i_lst (Nat.zero_le _) (fun p H1 hp s1 e1 => ?_)
      walk_at "r"
      have erow : (rowD m r).take j = rowD m r := List.take_of_length_le (by omega)
      have eval : r - aheadD m j = valD m (rowD m r) := by omega
      refine i_rng ⟨by omega, by omega⟩ (fun i σ' H' => ∃ y, σ' = [some (.int ((valD m ((rowD m r).take (j - i)) : Nat) : Int)), some (.int m), some (.int (j : Int)), some (.int ((m ^ j : Nat) : Int)), some (.ref p), y] ∧ Same H H' ∧ H' p = some (.lst (((rowD m r).drop (j - i)).map fun d => V.int ((d : Nat) : Int))))
        ⟨none, by rw [Nat.sub_zero, erow, eval], s0.trans s1, by rw [Nat.sub_zero, List.drop_of_length_le (by omega)]; exact e1⟩ (fun i σ' H' hi pv => ?_) (fun σ' H' pv => ?_)
      · obtain ⟨y, rfl, s2, e2⟩ := pv
        have hi' : i < j := by omega
        have hlt : j - (i + 1) < (rowD m r).length := by omega
        have et : (rowD m r).take (j - i) = (rowD m r).take (j - (i + 1)) ++ [(rowD m r)[j - (i + 1)]] := by
          rw [show j - i = j - (i + 1) + 1 by omega]
          exact take_succ' (List.getElem?_eq_getElem hlt)
        have edr : (rowD m r).drop (j - (i + 1)) = (rowD m r)[j - (i + 1)] :: (rowD m r).drop (j - i) := by
          rw [List.drop_eq_getElem_cons hlt, show j - (i + 1) + 1 = j - i by omega]
        have hdm : (rowD m r)[j - (i + 1)] < m := row_lt hm0 r _ (List.getElem_mem hlt)
        rw [et, valD_snoc]
        have hz : (((rowD m r).drop (j - i)).map fun d => V.int ((d : Nat) : Int)).length < sizeLine := szl (by rw [List.length_map, List.length_drop]; omega)
        generalize (rowD m r)[j - (i + 1)] = dd at edr hdm
        generalize valD m ((rowD m r).take (j - (i + 1))) = vv
        have em : (vv * m + dd) % m = dd := by rw [Nat.mul_comm, Nat.mul_add_mod, Nat.mod_eq_of_lt hdm]
        have ed : (vv * m + dd) / m = vv := by rw [Nat.mul_comm, Nat.mul_add_div hm0, Nat.div_eq_of_lt hdm, Nat.add_zero]
        walk_at "r"
        rw [← Int.natCast_emod, em, ← Int.natCast_ediv, ed]
        refine ⟨some (.int (i : Int)), rfl, smut s2 (s0.free hp), ?_⟩
        rw [upd_same, edr]
        rfl
      · obtain ⟨y, rfl, s2, e2⟩ := pv
        walk_at "r"
        rw [Int.toNat_natCast, Nat.sub_self, List.drop_zero] at e2
        exact q p H' (s0.free hp) s2 e2
end
end Esc

namespace Esc
open PySem PySem.Spec PyProof.Rows L2
abbrev GI (mg : Str → Option Value) (x : Str) (i : Int) : Prop := ∃ u, mg x = some u ∧ RelV (.int i) u
abbrev GR (mg : Str → Option Value) (x : Str) (a : Addr) : Prop := ∃ u, mg x = some u ∧ RelV (.ref a) u
section
variable {P : Program} {w : World} {K : PySem.W.Frag} {mg : Str → Option Value} {base : Heap}
/-- a way by ranks -/
def RankAt (K : PySem.W.Frag) (H : Hp) (p : Addr) (t e : Int) : Prop := SqT K H p [.str "ranks", .int t, .int e] ∧ 3 ≤ t ∧ t ≤ 16 ∧ 0 ≤ e ∧ e < t
theorem RankAt.same {H H' : Hp} {p : Addr} {t e : Int} (s : Same H H') (h : RankAt K H p t e) : RankAt K H' p t e := ⟨stup s h.1, h.2⟩
theorem ranks_ne : ("ranks" : Str) ≠ "turned" := by decide +kernel
theorem wayCut (s : Str) (t e : Int) : cutV [.str s, .int t, .int e] (some 1) (some 3) = [.int t, .int e] := rfl
def S1 (f : Addr) (sp : Sp) : Addr → Option Sp := fun g => if g = f then some sp else none
theorem S1_self {f : Addr} {sp : Sp} : S1 f sp f = some sp := if_pos rfl
theorem S1_held {j : Nat} {f : Addr} {sp : Sp} (h : Held P w K mg base j f sp) : ∀ g sp', S1 f sp g = some sp' → Held P w K mg base j g sp' := fun g sp' e => by
  unfold S1 at e
  by_cases c : g = f
  · rw [if_pos c] at e
    cases e
    rw [c]
    exact h
  · rw [if_neg c] at e
    cases e
def spNeed (K : PySem.W.Frag) : Sp := fun vs H Q _ => ∃ (p : Addr) (t e : Int), vs = [.ref p] ∧ RankAt K H p t e ∧ ∀ H', Same H H' → Q .non H'
theorem c_fault_of (Z : Blt mg) {fR pF : Addr} (m_ranks_fault : mg "ranks_fault" = some (.ref fR)) (m_MOST_TURNED : GI mg "MOST_TURNED" 3) (m_FAULTS : GR mg "FAULTS" pF) (hF : KDct K w pF "ranks" (.ref fR))
    (c_ranks_fault : C8.Cal P w K mg base 1 "ranks_fault" spRanksFault []) (c_unturned : C8.Cal P w K mg base 1 "unturned" (spUnturned K) []) (c_is_top : C8.Cal P w K mg base 2 "is_top" spTopI []) (c_is_sign : C8.Cal P w K mg base 2 "is_sign" spSignI [])
    {spT : Sp} (c_is_turning : C8.Cal P w K mg base 4 "is_turning" spT []) (d : Dd K mg "fault_of" s_fault_of P_fault_of) : C8.Cal P w K mg base 5 "fault_of" (spNeed K) [] := by
  refine d.cal sc_fault_of (fun vs H Q E h => ?_) (fun f cdv A outer s H vs Q E hr h => ?_)
  · obtain ⟨p, t, e, rfl, _⟩ := h
    rfl
  · obtain ⟨p, t, e, rfl, ⟨hw, ht1, ht2, he1, he2⟩, q⟩ := h
    have nd := sc_fault_of.nd
    have A_find_fault := S1_held (held_of c_ranks_fault m_ranks_fault (show 1 ≤ 4 by decide))
    refine ⟨_, (pss_cons (ps_asg (C8.pe_c c_unturned hr (by decide) (by rfl) (pa_cons (pv 0) pa_nil)) (pg_tup rfl (pgs_cons (pg_name (i := 1) nd rfl (Or.inl rfl)) (pgs_cons (pg_name (i := 2) nd rfl (Or.inl rfl)) pgs_nil))))
  (pss_cons (ps_if (pt_cmpR op_gt (pe_callB k_len (by rfl) Z.len_ (by decide +kernel) (pa_cons (pv 1) pa_nil)) (C8.pe_gc rfl m_MOST_TURNED) (nomark _)) (pss_one (ps_ret pe_str)) pss_nil)
  (pss_cons (ps_asg (pe_slice sl_tup (pv 2) (po_some pe_int) (po_some pe_int)) (pg_tup rfl (pgs_cons (pg_name (i := 3) nd rfl (Or.inr rfl)) (pgs_cons (pg_name (i := 4) nd rfl (Or.inl rfl)) pgs_nil))))
  (pss_cons (ps_if (pt_not (pt_val (C8.pe_c c_is_top hr (by decide) (by rfl) (pa_cons (pv 3) pa_nil)))) (pss_one (ps_ret pe_str)) pss_nil)
  (pss_cons (ps_if (pt_not (pt_val (C8.pe_c c_is_sign hr (by decide) (by rfl) (pa_cons (pv 4) (pa_cons (pv 3) pa_nil))))) (pss_one (ps_ret pe_str)) pss_nil)
  (pss_cons (ps_set (i := 5) nd rfl (Or.inl rfl) (pe_ix ix_kdict (C8.pe_gc rfl m_FAULTS) (pe_ix ix_tup (pv 2) pe_int (fun _ _ => rfl)) (fun _ _ => rfl)))
  (pss_cons (ps_set (i := 6) nd rfl (Or.inl rfl) (pe_callA A_find_fault hr (x := "find_fault") (i := 5) rfl (by first | exact Or.inl rfl | exact Or.inr (Or.inl rfl) | exact Or.inr (Or.inr rfl)) (pa_cons (pv 2) pa_nil)))
  (pss_cons (ps_if (PW.pt (pw_and (pt_cmpR k_isN (pv 6) pe_non (nomark _)) (pw_and1 (pt_not (pt_val (pe_callB (cr_all rfl) (by rfl) Z.all_ (by decide +kernel) (pa_cons (pe_lc (own := [("signs", 7)]) (g := gName 7) (tt := tYes) rfl nd (pi_list (pv 1)) (blkOk_by (N := N_fault_of) (sc := C8.fnScope s_fault_of) (own := [("signs", 7)]) (by decide +kernel)) (fun _ _ _ _ _ => (pg_name (i := 7) nd rfl (Or.inl rfl))) (fun _ _ _ _ _ => pts_nil) (fun _ _ _ _ _ => (C8.pe_c c_is_turning hr (by decide) (by rfl) (pa_cons (pv 7) (pa_cons (pv 3) pa_nil))))) pa_nil))))))) (pss_one (ps_ret pe_str)) pss_nil)
  (pss_one (ps_ret (pv 6))))))))))), ?_⟩
    refine i_start (σ' := [some (.ref p), none, none, none, none, none, none, none]) rfl ?_
    walk_at "go"
    walk_at "r"
    refine ⟨.ref p, [], p, "ranks", [.int t, .int e], rfl, rfl, hw, ranks_ne, Nat.zero_le _, fun q1 l H1 _ hl s1 e1 el => ?_⟩
    have hw1 := stup s1 hw
    walk_at "r"
    refine i_no (by show ¬ (3 : Int) < ((([] : List V).length : Nat) : Int); decide) ?_
    walk_at "r"
    refine i_slT hw1 (fun z => absurd z.1 (by show ¬ (1 : Nat) = 0; decide)) (fun q2 H2 _ s2 e2 => ?_)
    rw [wayCut] at e2
    have hw2 := stup s2 hw1
    have el2 := s2 _ _ el
    walk_at "r"
    refine ⟨t, rfl, ?_⟩
    walk_at "r"
    refine i_yes ⟨ht1, ht2⟩ ?_
    walk_at "r"
    refine ⟨e, t, rfl, ?_⟩
    walk_at "r"
    refine i_yes ⟨he1, he2⟩ ?_
    walk_at "r"
    refine i_kd hF ?_
    walk_at "r"
    refine i_callA S1_self ?_
    walk_at "r"
    refine ⟨.ref p, rfl, ?_⟩
    walk_at "r"
    refine i_yes rfl ?_
    walk_at "r"
    refine i_lcL (F := fun _ => none) (sl_of el2) (by show 0 < 100000; decide) (fun x hx => by cases hx) (fun p3 H3 hp3 s3 e3 => ?_)
    walk_at "r"
    refine i_all (bs := []) (sl_of e3) ?_
    rw [List.all_nil]
    walk_at "r"
    exact q _ (s1.trans (s2.trans s3))
theorem c_need_way (c_fault_of : C8.Cal P w K mg base 5 "fault_of" (spNeed K) []) (d : Dd K mg "need_way" s_need_way P_need_way) : C8.Cal P w K mg base 6 "need_way" (spNeed K) [] := by
  refine d.cal sc_need_way (fun vs H Q E h => ?_) (fun f cdv A outer s H vs Q E hr h => ?_)
  · obtain ⟨p, t, e, rfl, _⟩ := h
    rfl
  · obtain ⟨p, t, e, rfl, hw, q⟩ := h
    have nd := sc_need_way.nd
    refine ⟨_, (pss_cons (ps_set (i := 1) nd rfl (Or.inl rfl) (C8.pe_c c_fault_of hr (by decide) (by rfl) (pa_cons (pv 0) pa_nil)))
  (pss_one (ps_if (pt_cmpR k_notN (pv 1) pe_non (nomark _)) (pss_one ps_never) pss_nil))), ?_⟩
    refine i_start (σ' := [some (.ref p), none]) rfl ?_
    walk_at "go"
    walk_at "r"
    refine ⟨p, t, e, rfl, hw, fun H1 s1 => ?_⟩
    walk_at "r"
    refine i_nyes rfl ?_
    walk_at "r"
    exact q _ s1
def spTop (K : PySem.W.Frag) : Sp := fun vs H Q _ => ∃ (p : Addr) (t e : Int), vs = [.ref p] ∧ RankAt K H p t e ∧ ∀ H', Same H H' → Q (.int t) H'
theorem c_top_of (c_unturned : C8.Cal P w K mg base 1 "unturned" (spUnturned K) []) (d : Dd K mg "top_of" s_top_of P_top_of) : C8.Cal P w K mg base 2 "top_of" (spTop K) [] := by
  refine d.cal sc_top_of (fun vs H Q E h => ?_) (fun f cdv A outer s H vs Q E hr h => ?_)
  · obtain ⟨p, t, e, rfl, _⟩ := h
    rfl
  · obtain ⟨p, t, e, rfl, ⟨hw, ht1, ht2, he1, he2⟩, q⟩ := h
    have nd := sc_top_of.nd
    refine ⟨_, (pss_cons (ps_set (i := 1) nd rfl (Or.inl rfl) (pe_ix ix_tup (C8.pe_c c_unturned hr (by decide) (by rfl) (pa_cons (pv 0) pa_nil)) pe_int (fun _ _ => rfl)))
  (pss_one (ps_ret (pe_ix ix_tup (pv 1) pe_int (fun _ _ => rfl))))), ?_⟩
    refine i_start (σ' := [some (.ref p), none]) rfl ?_
    walk_at "go"
    walk_at "r"
    refine ⟨.ref p, [], p, "ranks", [.int t, .int e], rfl, rfl, hw, ranks_ne, Nat.zero_le _, fun q1 l H1 _ hl s1 e1 el => ?_⟩
    have hw1 := stup s1 hw
    walk_at "r"
    exact q _ s1
def spNeedBody (K : PySem.W.Frag) : Sp := fun vs H Q _ => ∃ (p a : Addr) (t e : Int) (ns : List Int), vs = [.ref p, .ref a] ∧ RankAt K H p t e ∧ SqL K H a (ns.map V.int) ∧ (∀ n ∈ ns, 0 ≤ n ∧ n < t) ∧ ns.length ≤ 60 ∧ ∀ H', Same H H' → Q .non H'
theorem c_need_body (Z : Blt mg) (m_MOST_BODY : GI mg "MOST_BODY" 60) (c_top_of : C8.Cal P w K mg base 2 "top_of" (spTop K) []) (c_first_unsigned : C8.Cal P w K mg base 3 "first_unsigned" (spFirst K) []) (d : Dd K mg "need_body" s_need_body P_need_body) : C8.Cal P w K mg base 4 "need_body" (spNeedBody K) [] := by
  refine d.cal sc_need_body (fun vs H Q E h => ?_) (fun f cdv A outer s H vs Q E hr h => ?_)
  · obtain ⟨p, a, t, e, ns, rfl, _⟩ := h
    rfl
  · obtain ⟨p, a, t, e, ns, rfl, hw, ha, hns, hl, q⟩ := h
    have nd := sc_need_body.nd
    refine ⟨_, (pss_cons (ps_if (pt_cmpR op_gt (pe_callB k_len (by rfl) Z.len_ (by decide +kernel) (pa_cons (pv 1) pa_nil)) (C8.pe_gc rfl m_MOST_BODY) (nomark _)) (pss_one ps_never) pss_nil)
  (pss_cons (ps_set (i := 2) nd rfl (Or.inl rfl) (C8.pe_c c_first_unsigned hr (by decide) (by rfl) (pa_cons (pv 1) (pa_cons (C8.pe_c c_top_of hr (by decide) (by rfl) (pa_cons (pv 0) pa_nil)) pa_nil))))
  (pss_one (ps_if (pt_cmpR k_notN (pv 2) pe_non (nomark _)) (pss_one ps_never) pss_nil)))), ?_⟩
    refine i_start (σ' := [some (.ref p), some (.ref a), none]) rfl ?_
    walk_at "go"
    walk_at "r"
    refine i_no (by omega) ?_
    walk_at "r"
    refine ⟨p, t, e, rfl, hw, fun H1 s1 => ?_⟩
    have ha1 := s1.seq ha
    walk_at "r"
    refine ⟨a, ns, t, rfl, ha1, hns, fun H2 s2 => ?_⟩
    walk_at "r"
    refine i_nyes rfl ?_
    walk_at "r"
    exact q _ (s1.trans s2)
def spNeedSigns (K : PySem.W.Frag) : Sp := fun vs H Q _ => ∃ (p a : Addr) (t e : Int) (ns : List Int), vs = [.ref p, .ref a] ∧ RankAt K H p t e ∧ SqL K H a (ns.map V.int) ∧ (∀ n ∈ ns, 0 ≤ n ∧ n < t) ∧ ns.length ≤ 400 ∧ ∀ H', Same H H' → Q .non H'
theorem c_need_signs (Z : Blt mg) (m_MOST_SIGNS : GI mg "MOST_SIGNS" 400) (c_top_of : C8.Cal P w K mg base 2 "top_of" (spTop K) []) (c_first_unsigned : C8.Cal P w K mg base 3 "first_unsigned" (spFirst K) []) (d : Dd K mg "need_signs" s_need_signs P_need_signs) : C8.Cal P w K mg base 4 "need_signs" (spNeedSigns K) [] := by
  refine d.cal sc_need_signs (fun vs H Q E h => ?_) (fun f cdv A outer s H vs Q E hr h => ?_)
  · obtain ⟨p, a, t, e, ns, rfl, _⟩ := h
    rfl
  · obtain ⟨p, a, t, e, ns, rfl, hw, ha, hns, hl, q⟩ := h
    have nd := sc_need_signs.nd
    refine ⟨_, (pss_cons (ps_set (i := 2) nd rfl (Or.inl rfl) (C8.pe_c c_first_unsigned hr (by decide) (by rfl) (pa_cons (pe_slice sl_list (pv 1) po_none (po_some (C8.pe_gc rfl m_MOST_SIGNS))) (pa_cons (C8.pe_c c_top_of hr (by decide) (by rfl) (pa_cons (pv 0) pa_nil)) pa_nil))))
  (pss_cons (ps_if (pt_cmpR k_notN (pv 2) pe_non (nomark _)) (pss_one ps_never) pss_nil)
  (pss_one (ps_if (pt_cmpR op_gt (pe_callB k_len (by rfl) Z.len_ (by decide +kernel) (pa_cons (pv 1) pa_nil)) (C8.pe_gc rfl m_MOST_SIGNS) (nomark _)) (pss_one ps_never) pss_nil)))), ?_⟩
    refine i_start (σ' := [some (.ref p), some (.ref a), none]) rfl ?_
    walk_at "go"
    walk_at "r"
    refine i_slL ha (fun p1 H1 hp1 s1 e1 => ?_)
    rw [show ((400 : Int)) = ((400 : Nat) : Int) from rfl, cut_to, List.take_of_length_le (by rw [List.length_map]; exact hl)] at e1
    have ha1 := s1.seq ha
    walk_at "r"
    refine ⟨p, t, e, rfl, hw.same s1, fun H2 s2 => ?_⟩
    have ha2 := s2.seq ha1
    walk_at "r"
    refine ⟨p1, ns, t, rfl, sl_of (s2 _ _ e1), hns, fun H3 s3 => ?_⟩
    have ha3 := s3.seq ha2
    walk_at "r"
    refine i_nyes rfl ?_
    walk_at "r"
    refine i_no (by omega) ?_
    walk_at "r"
    exact q _ (s1.trans (s2.trans s3))
/-! ### ranks -/
theorem plain_mem {t e x : Int} : x ∈ plainL t e ↔ 0 ≤ x ∧ x < t ∧ x ≠ e := by
  unfold plainL
  rw [List.mem_filterMap]
  constructor
  · rintro ⟨i, hi, h⟩
    rw [List.mem_range] at hi
    by_cases c : (i : Int) = e
    · rw [if_pos c] at h
      cases h
    · rw [if_neg c] at h
      cases h
      exact ⟨by omega, by omega, c⟩
  · rintro ⟨h1, h2, h3⟩
    refine ⟨x.toNat, by rw [List.mem_range]; omega, ?_⟩
    rw [Int.toNat_of_nonneg h1, if_neg h3]
def countL (t : Int) : List Int := (List.range t.toNat).map fun (i : Nat) => (i : Int)
theorem rg_count (t : Int) : rgV 0 t = (countL t).map V.int := by
  unfold rgV countL
  rw [List.map_map, Int.sub_zero]
  congr 1
  funext i
  show V.int (0 + (i : Int)) = V.int (i : Int)
  rw [Int.zero_add]
theorem count_len {t : Int} : (countL t).length = t.toNat := by
  unfold countL
  rw [List.length_map, List.length_range]
theorem count_mem {t x : Int} : x ∈ countL t ↔ 0 ≤ x ∧ x < t := by
  unfold countL
  rw [List.mem_map]
  constructor
  · rintro ⟨i, hi, rfl⟩
    rw [List.mem_range] at hi
    exact ⟨by omega, by omega⟩
  · rintro ⟨h1, h2⟩
    exact ⟨x.toNat, by rw [List.mem_range]; omega, Int.toNat_of_nonneg h1⟩
theorem count_nodup (t : Int) : (countL t).Nodup := by
  unfold countL
  exact List.Pairwise.map _ (fun a b (h : a ≠ b) z => h (Int.ofNat.inj z)) List.nodup_range
theorem plain_pw (t e : Int) : (plainL t e).Pairwise (· < ·) := by
  unfold plainL
  refine List.Pairwise.filterMap _ ?_ List.pairwise_lt_range
  intro a b hab x hx y hy
  by_cases c : (a : Int) = e
  · rw [if_pos c] at hx
    cases hx
  · by_cases c2 : (b : Int) = e
    · rw [if_pos c2] at hy
      cases hy
    · rw [if_neg c] at hx
      rw [if_neg c2] at hy
      cases hx
      cases hy
      omega
theorem plain_nodup (t e : Int) : (plainL t e).Nodup := (plain_pw t e).imp fun h => by omega
theorem range_filter_len (e : Nat) : ∀ n : Nat, e < n → ((List.range n).filterMap fun (i : Nat) => if (i : Int) = (e : Int) then none else some (i : Int)).length + 1 = n
  | 0, h => by omega
  | n + 1, h => by
    rw [List.range_succ, List.filterMap_append, List.length_append]
    by_cases c : e < n
    · have ih := range_filter_len e n c
      have q : ¬ ((n : Nat) : Int) = (e : Int) := by omega
      have z : (List.filterMap (fun (i : Nat) => if (i : Int) = (e : Int) then none else some (i : Int)) [n]).length = 1 := by
        rw [List.filterMap_cons, if_neg q]
        rfl
      omega
    · have en : e = n := by omega
      subst en
      have z : (List.filterMap (fun (i : Nat) => if (i : Int) = (e : Int) then none else some (i : Int)) [e]).length = 0 := by
        rw [List.filterMap_cons, if_pos rfl]
        rfl
      have z2 : (List.filterMap (fun (i : Nat) => if (i : Int) = (e : Int) then none else some (i : Int)) (List.range e)).length = e := by
        have : ∀ l : List Nat, (∀ i ∈ l, i < e) → (List.filterMap (fun (i : Nat) => if (i : Int) = (e : Int) then none else some (i : Int)) l).length = l.length := fun l => by
          induction l with
          | nil => intro _; rfl
          | cons a r ih =>
            intro hl
            have ha := hl a List.mem_cons_self
            rw [List.filterMap_cons, if_neg (by omega)]
            show _ + 1 = _ + 1
            rw [ih fun i hi => hl i (List.mem_cons_of_mem _ hi)]
        rw [this _ fun i hi => List.mem_range.mp hi, List.length_range]
      omega
theorem plain_len {t e : Int} (h0 : 0 ≤ e) (h1 : e < t) : (plainL t e).length + 1 = t.toNat := by
  have z := range_filter_len e.toNat t.toNat (by omega)
  rw [Int.toNat_of_nonneg h0] at z
  exact z
/-- the digits of a row of letters -/
def digits (ls : List Int) (row : List Int) : List Nat := row.map fun x => ls.idxOf x
def letters (ls : List Int) (ds : List Nat) : List Int := ds.map fun d => ls.getD d 0
theorem digits_lt {ls row : List Int} (h : ∀ x ∈ row, x ∈ ls) : ∀ d ∈ digits ls row, d < ls.length := fun d hd => by
  obtain ⟨x, hx, rfl⟩ := List.mem_map.mp hd
  exact List.idxOf_lt_length_of_mem (h x hx)
theorem letters_digits {ls row : List Int} (h : ∀ x ∈ row, x ∈ ls) : letters ls (digits ls row) = row := by
  unfold letters digits
  rw [List.map_map]
  conv => rhs; rw [← List.map_id row]
  refine List.map_congr_left fun x hx => ?_
  have hi := List.idxOf_lt_length_of_mem (h x hx)
  show ls.getD (ls.idxOf x) 0 = x
  rw [List.getD_eq_getElem?_getD, List.getElem?_eq_getElem hi, List.getElem_idxOf hi]
  rfl
theorem digits_letters {ls : List Int} (hn : ls.Nodup) {ds : List Nat} (h : ∀ d ∈ ds, d < ls.length) : digits ls (letters ls ds) = ds := by
  unfold letters digits
  rw [List.map_map]
  conv => rhs; rw [← List.map_id ds]
  refine List.map_congr_left fun d hd => ?_
  show ls.idxOf (ls.getD d 0) = d
  rw [List.getD_eq_getElem?_getD, List.getElem?_eq_getElem (h d hd)]
  exact List.Nodup.idxOf_getElem hn d (h d hd)
theorem letters_mem {ls : List Int} {ds : List Nat} (h : ∀ d ∈ ds, d < ls.length) : ∀ x ∈ letters ls ds, x ∈ ls := fun x hx => by
  obtain ⟨d, hd, rfl⟩ := List.mem_map.mp hx
  rw [List.getD_eq_getElem?_getD, List.getElem?_eq_getElem (h d hd)]
  exact List.getElem_mem (h d hd)
end
end Esc

namespace Esc
open PySem PySem.Spec PyProof.Rows L2
section
variable {P : Program} {w : World} {K : PySem.W.Frag} {mg : Str → Option Value} {base : Heap}
/-- the frame of a body without its end, by ranks -/
def rowR (t e : Int) (body : List Int) : List Int := letters (plainL t e) (rowD (plainL t e).length (rankD t.toNat (digits (countL t) body)))
def bodyR (t e : Int) (row : List Int) : List Int := letters (countL t) (rowD t.toNat (rankD (plainL t e).length (digits (plainL t e) row)))
theorem let_map (ls : List Int) (ds : List Nat) : ds.map (fun d => V.int (ls.getD d 0)) = (letters ls ds).map V.int := by
  unfold letters
  rw [List.map_map]
  rfl
theorem bodyR_len {t e : Int} (h3 : 3 ≤ t) (h0 : 0 ≤ e) (h1 : e < t) {row : List Int} (h : ∀ x ∈ row, x ∈ plainL t e) : (bodyR t e row).length ≤ row.length := by
  have z := plain_len h0 h1
  unfold bodyR letters
  rw [List.length_map]
  have a := row_len_mono (m := (plainL t e).length) (n := t.toNat) (by omega) (by omega) (rankD (plainL t e).length (digits (plainL t e) row)) _ (Nat.le_refl _)
  rw [row_rank (by omega) _ (digits (plainL t e) row) rfl (digits_lt h)] at a
  have b : (digits (plainL t e) row).length = row.length := List.length_map _
  omega
theorem bodyR_mem {t e : Int} (h3 : 3 ≤ t) (row : List Int) : ∀ n ∈ bodyR t e row, 0 ≤ n ∧ n < t := fun n hn => by
  refine count_mem.mp (letters_mem (fun d hd => ?_) n hn)
  rw [count_len]
  exact row_lt (by omega) _ d hd
theorem rowR_bodyR {t e : Int} (h3 : 3 ≤ t) (h0 : 0 ≤ e) (h1 : e < t) {row : List Int} (h : ∀ x ∈ row, x ∈ plainL t e) : rowR t e (bodyR t e row) = row := by
  have z := plain_len h0 h1
  unfold rowR bodyR
  rw [digits_letters (count_nodup t) (fun d hd => by rw [count_len]; exact row_lt (by omega) _ d hd), rank_row, row_rank (by omega) _ _ rfl (digits_lt h), letters_digits h]
theorem rowR_mem {t e : Int} (h3 : 3 ≤ t) (h0 : 0 ≤ e) (h1 : e < t) (body : List Int) : ∀ x ∈ rowR t e body, x ∈ plainL t e := by
  have z := plain_len h0 h1
  exact letters_mem (row_lt (by omega) _)
theorem rowR_len {t e : Int} (h3 : 3 ≤ t) (h16 : t ≤ 16) (h0 : 0 ≤ e) (h1 : e < t) {body : List Int} (h : ∀ n ∈ body, 0 ≤ n ∧ n < t) : (rowR t e body).length ≤ 5 * body.length := by
  have z := plain_len h0 h1
  unfold rowR letters
  rw [List.length_map]
  have a := row_short (m := (plainL t e).length) (n := t.toNat) (by omega) (by omega) (ds := digits (countL t) body) (fun d hd => by
    rw [← count_len (t := t)]
    exact digits_lt (fun x hx => count_mem.mpr (h x hx)) d hd)
  have b : (digits (countL t) body).length = body.length := List.length_map _
  omega
def spByRanks (K : PySem.W.Frag) : Sp := fun vs H Q _ => ∃ (p a : Addr) (t e : Int) (ns : List Int), vs = [.ref p, .ref a] ∧ RankAt K H p t e ∧ SqL K H a (ns.map V.int) ∧ (∀ n ∈ ns, 0 ≤ n ∧ n < t) ∧ ns.length ≤ 60 ∧
  ∀ q H', H q = none → Same H H' → H' q = some (.lst ((rowR t e ns).map V.int)) → Q (.ref q) H'
theorem c_by_ranks (Z : Blt mg) (c_row_of : C8.Cal P w K mg base 1 "row_of" (spRowOf K) []) (c_rank_of : C8.Cal P w K mg base 1 "rank_of" (spRankOf K) []) (c_plain_signs : C8.Cal P w K mg base 1 "plain_signs" spPlain [])
    (d : Dd K mg "by_ranks" s_by_ranks P_by_ranks) : C8.Cal P w K mg base 2 "by_ranks" (spByRanks K) [] := by
  refine d.cal sc_by_ranks (fun vs H Q E h => ?_) (fun f cdv A outer s H vs Q E hr h => ?_)
  · obtain ⟨p, a, t, e, ns, rfl, _⟩ := h
    rfl
  · obtain ⟨p, a, t, e, ns, rfl, ⟨hw, ht1, ht2, he1, he2⟩, ha, hns, hl, q⟩ := h
    have nd := sc_by_ranks.nd
    refine ⟨_, (pss_cons (ps_asg (pv 0) (pg_tup rfl (pgs_cons (pg_name (i := 2) nd rfl (Or.inl rfl)) (pgs_cons (pg_name (i := 3) nd rfl (Or.inl rfl)) (pgs_cons (pg_name (i := 4) nd rfl (Or.inl rfl)) pgs_nil)))))
  (pss_one (ps_ret (C8.pe_c c_row_of hr (by decide) (by rfl) (pa_cons (C8.pe_c c_rank_of hr (by decide) (by rfl) (pa_cons (pv 1) (pa_cons (pe_listRg rfl rfl Z.list_ (prg_1 rfl Z.range_ (pv 3))) pa_nil))) (pa_cons (C8.pe_c c_plain_signs hr (by decide) (by rfl) (pa_cons (pv 3) (pa_cons (pv 4) pa_nil))) pa_nil)))))), ?_⟩
    refine i_start (σ' := [some (.ref p), some (.ref a), none, none, none]) rfl ?_
    walk_at "go"
    walk_at "r"
    refine i_lstRg ⟨by omega, by omega⟩ (fun p1 H1 hp1 s1 e1 => ?_)
    rw [rg_count] at e1
    walk_at "r"
    refine ⟨a, p1, ns, countL t, rfl, s1.seq ha, sl_of e1, count_nodup t, fun x hx => count_mem.mpr (hns x hx), by rw [count_len]; omega, fun H2 s2 => ?_⟩
    walk_at "r"
    refine ⟨t, e, rfl, by omega, by omega, fun p3 H3 hp3 s3 e3 => ?_⟩
    walk_at "r"
    have z := plain_len he1 he2
    have hrl := rowR_len ht1 ht2 he1 he2 hns
    unfold rowR letters at hrl
    rw [List.length_map] at hrl
    rw [count_len]
    refine ⟨_, p3, plainL t e, rfl, sl_of e3, by omega, by omega, by unfold digits at hrl; omega, fun p4 H4 hp4 s4 e4 => ?_⟩
    rw [let_map] at e4
    exact q p4 H4 (s1.free (s2.free (s3.free hp4))) (s1.trans (s2.trans (s3.trans s4))) e4
def spFromRanks (K : PySem.W.Frag) : Sp := fun vs H Q _ => ∃ (p a : Addr) (t e : Int) (ns : List Int), vs = [.ref p, .ref a] ∧ RankAt K H p t e ∧ SqL K H a (ns.map V.int) ∧ (∀ n ∈ ns, n ∈ plainL t e) ∧ ns.length ≤ 500 ∧
  ∀ q H', H q = none → Same H H' → H' q = some (.lst ((bodyR t e ns).map V.int)) → Q (.ref q) H'
theorem c_from_ranks (Z : Blt mg) (c_row_of : C8.Cal P w K mg base 1 "row_of" (spRowOf K) []) (c_rank_of : C8.Cal P w K mg base 1 "rank_of" (spRankOf K) []) (c_plain_signs : C8.Cal P w K mg base 1 "plain_signs" spPlain [])
    (d : Dd K mg "from_ranks" s_from_ranks P_from_ranks) : C8.Cal P w K mg base 2 "from_ranks" (spFromRanks K) [] := by
  refine d.cal sc_from_ranks (fun vs H Q E h => ?_) (fun f cdv A outer s H vs Q E hr h => ?_)
  · obtain ⟨p, a, t, e, ns, rfl, _⟩ := h
    rfl
  · obtain ⟨p, a, t, e, ns, rfl, ⟨hw, ht1, ht2, he1, he2⟩, ha, hns, hl, q⟩ := h
    have nd := sc_from_ranks.nd
    refine ⟨_, (pss_cons (ps_asg (pv 0) (pg_tup rfl (pgs_cons (pg_name (i := 2) nd rfl (Or.inl rfl)) (pgs_cons (pg_name (i := 3) nd rfl (Or.inl rfl)) (pgs_cons (pg_name (i := 4) nd rfl (Or.inl rfl)) pgs_nil)))))
  (pss_one (ps_ret (C8.pe_c c_row_of hr (by decide) (by rfl) (pa_cons (C8.pe_c c_rank_of hr (by decide) (by rfl) (pa_cons (pv 1) (pa_cons (C8.pe_c c_plain_signs hr (by decide) (by rfl) (pa_cons (pv 3) (pa_cons (pv 4) pa_nil))) pa_nil))) (pa_cons (pe_listRg rfl rfl Z.list_ (prg_1 rfl Z.range_ (pv 3))) pa_nil)))))), ?_⟩
    refine i_start (σ' := [some (.ref p), some (.ref a), none, none, none]) rfl ?_
    walk_at "go"
    walk_at "r"
    refine ⟨t, e, rfl, by omega, by omega, fun p1 H1 hp1 s1 e1 => ?_⟩
    walk_at "r"
    have z := plain_len he1 he2
    refine ⟨a, p1, ns, plainL t e, rfl, s1.seq ha, sl_of e1, plain_nodup t e, hns, by omega, fun H2 s2 => ?_⟩
    walk_at "r"
    refine i_lstRg ⟨by omega, by omega⟩ (fun p3 H3 hp3 s3 e3 => ?_)
    rw [rg_count] at e3
    walk_at "r"
    have hbl := bodyR_len ht1 he1 he2 hns
    unfold bodyR letters at hbl
    rw [List.length_map] at hbl
    refine ⟨_, p3, countL t, rfl, sl_of e3, by rw [count_len]; omega, by rw [count_len]; omega, by rw [count_len]; unfold digits at hbl; omega, fun p4 H4 hp4 s4 e4 => ?_⟩
    rw [let_map, count_len] at e4
    exact q p4 H4 (s1.free (s2.free (s3.free hp4))) (s1.trans (s2.trans (s3.trans s4))) e4
end
end Esc

namespace Esc
open PySem PySem.Spec PyProof.Rows L2
section
variable {P : Program} {w : World} {K : PySem.W.Frag} {mg : Str → Option Value} {base : Heap}
def frameR (t e : Int) (body : List Int) : List Int := rowR t e body ++ [e]
def spFrame (K : PySem.W.Frag) : Sp := fun vs H Q _ => ∃ (p a : Addr) (t e : Int) (ns : List Int), vs = [.ref p, .ref a] ∧ RankAt K H p t e ∧ SqL K H a (ns.map V.int) ∧ (∀ n ∈ ns, 0 ≤ n ∧ n < t) ∧ ns.length ≤ 60 ∧
  ∀ q H', H q = none → Same H H' → H' q = some (.lst ((frameR t e ns).map V.int)) → Q (.ref q) H'
def spExch0 (K : PySem.W.Frag) : Sp := fun vs H Q _ => ∃ (l b : Addr), vs = [.ref l, .ref b] ∧ H l = some (.lst []) ∧ Q (.ref b) H
theorem c_exchanged (d : Dd K mg "exchanged" s_exchanged P_exchanged) : C8.Cal P w K mg base 1 "exchanged" (spExch0 K) [] := by
  refine d.cal sc_exchanged (fun vs H Q E h => ?_) (fun f cdv A outer s H vs Q E hr h => ?_)
  · obtain ⟨l, b, rfl, _⟩ := h
    rfl
  · obtain ⟨l, b, rfl, el, q⟩ := h
    have nd := sc_exchanged.nd
    refine ⟨_, (pss_cons (ps_set (i := 2) nd rfl (Or.inl rfl) (pv 1))
  (pss_cons (ps_for PassesOwn.never rfl (pi_list (pv 0)) (pg_name (i := 3) nd rfl (Or.inr rfl))
    (pss_one (ps_setLc (i := 2) (own := [("sign", 4)]) (g := gName 4) (tt := tYes) rfl nd rfl rfl (sw_true rfl rfl rfl (by decide +kernel)) (pi_list (pv 2)) (blkOk_by (N := N_exchanged) (sc := C8.fnScope s_exchanged) (own := [("sign", 4)]) (by decide +kernel)) (fun _ _ _ _ _ => (pg_name (i := 4) nd rfl (Or.inl rfl))) (fun _ _ _ _ _ => pts_nil) (fun _ _ _ _ _ => (pe_ix (show IxR _ (rIxT K) from ix_tup) (pv 3) (pv 4) (fun _ _ => rfl))))))
  (pss_one (ps_ret (pv 2))))), ?_⟩
    refine i_start (σ' := [some (.ref l), some (.ref b), none, none, none]) rfl ?_
    walk_at "go"
    walk_at "r"
    refine i_for (xs := []) (sl_of el) (fun i σ' H' => σ' = [some (.ref l), some (.ref b), some (.ref b), none, none] ∧ H' = H) ⟨rfl, rfl⟩ (fun i σ' H' _ pv => by rw [pv.2]; exact sl_of el) (fun i x σ' H' hi _ => by simp at hi) (fun σ' H' pv => ?_)
    obtain ⟨rfl, rfl⟩ := pv
    walk_at "r"
    exact q
theorem c_frame_of {fB pF : Addr} (m_by_ranks : mg "by_ranks" = some (.ref fB)) (m_FRAMERS : GR mg "FRAMERS" pF) (hF : KDct K w pF "ranks" (.ref fB)) (c_by_ranks : C8.Cal P w K mg base 2 "by_ranks" (spByRanks K) [])
    (c_unturned : C8.Cal P w K mg base 1 "unturned" (spUnturned K) []) (c_exchanged : C8.Cal P w K mg base 1 "exchanged" (spExch0 K) []) (d : Dd K mg "frame_of" s_frame_of P_frame_of) : C8.Cal P w K mg base 3 "frame_of" (spFrame K) [] := by
  refine d.cal sc_frame_of (fun vs H Q E h => ?_) (fun f cdv A outer s H vs Q E hr h => ?_)
  · obtain ⟨p, a, t, e, ns, rfl, _⟩ := h
    rfl
  · obtain ⟨p, a, t, e, ns, rfl, ⟨hw, ht1, ht2, he1, he2⟩, ha, hns, hl, q⟩ := h
    have nd := sc_frame_of.nd
    have A_put_together := S1_held (held_of c_by_ranks m_by_ranks (show 2 ≤ 2 by decide))
    refine ⟨_, (pss_cons (ps_asg (C8.pe_c c_unturned hr (by decide) (by rfl) (pa_cons (pv 0) pa_nil)) (pg_tup rfl (pgs_cons (pg_name (i := 2) nd rfl (Or.inl rfl)) (pgs_cons (pg_name (i := 3) nd rfl (Or.inl rfl)) pgs_nil))))
  (pss_cons (ps_set (i := 4) nd rfl (Or.inl rfl) (pe_ix ix_kdict (C8.pe_gc rfl m_FRAMERS) (pe_ix ix_tup (pv 3) pe_int (fun _ _ => rfl)) (fun _ _ => rfl)))
  (pss_one (ps_ret (pe_op op_cat (pe_callA A_put_together hr (x := "put_together") (i := 4) rfl (by first | exact Or.inl rfl | exact Or.inr (Or.inl rfl) | exact Or.inr (Or.inr rfl)) (pa_cons (pv 3) (pa_cons (C8.pe_c c_exchanged hr (by decide) (by rfl) (pa_cons (pv 2) (pa_cons (pv 1) pa_nil))) pa_nil))) (pe_lst (pa_cons (pe_ix ix_tup (pv 3) pe_int (fun _ _ => rfl)) pa_nil))))))), ?_⟩
    refine i_start (σ' := [some (.ref p), some (.ref a), none, none, none]) rfl ?_
    walk_at "go"
    walk_at "r"
    refine ⟨.ref p, [], p, "ranks", [.int t, .int e], rfl, rfl, hw, ranks_ne, Nat.zero_le _, fun q1 l H1 _ hl1 s1 e1 el => ?_⟩
    have hw1 := stup s1 hw
    have ha1 := s1.seq ha
    walk_at "r"
    refine i_kd hF ?_
    walk_at "r"
    refine i_callA S1_self ?_
    walk_at "r"
    refine ⟨l, a, rfl, el, ?_⟩
    walk_at "r"
    refine ⟨p, a, t, e, ns, rfl, ⟨hw1, ht1, ht2, he1, he2⟩, ha1, hns, hl, fun p2 H2 hp2 s2 e2 => ?_⟩
    have hw2 := stup s2 hw1
    walk_at "r"
    refine i_lst (by show 1 ≤ sizeLine; decide) (fun p3 H3 hp3 s3 e3 => ?_)
    walk_at "r"
    have hrl := rowR_len ht1 ht2 he1 he2 hns
    refine i_cat (s3 _ _ e2) e3 (sz (by rw [List.length_map, List.length_singleton]; omega)) (fun p4 H4 hp4 s4 e4 => ?_)
    refine q p4 H4 (s1.free (s2.free (s3.free hp4))) (s1.trans (s2.trans (s3.trans s4))) ?_
    unfold frameR
    rw [List.map_append]
    exact e4
def spTaken (K : PySem.W.Frag) : Sp := fun vs H Q _ => ∃ (p a : Addr) (t e : Int) (ns : List Int), vs = [.ref p, .ref a] ∧ RankAt K H p t e ∧ SqL K H a ((ns ++ [e]).map V.int) ∧ (∀ n ∈ ns, n ∈ plainL t e) ∧ ns.length ≤ 60 ∧
  ∀ q H', H q = none → Same H H' → H' q = some (.lst ((bodyR t e ns).map V.int)) → Q (.ref q) H'
theorem c_taken_out (Z : Blt mg) {fR pR : Addr} (m_from_ranks : mg "from_ranks" = some (.ref fR)) (m_READERS : GR mg "READERS" pR) (hR : KDct K w pR "ranks" (.ref fR)) (c_from_ranks : C8.Cal P w K mg base 2 "from_ranks" (spFromRanks K) [])
    (m_MOST_BODY : GI mg "MOST_BODY" 60) (m_LONGEST_FRAME : GI mg "LONGEST_FRAME" 241) (c_frame_of : C8.Cal P w K mg base 3 "frame_of" (spFrame K) [])
    (c_unturned : C8.Cal P w K mg base 1 "unturned" (spUnturned K) []) (d : Dd K mg "taken_out" s_taken_out P_taken_out) : C8.Cal P w K mg base 4 "taken_out" (spTaken K) [] := by
  refine d.cal sc_taken_out (fun vs H Q E h => ?_) (fun f cdv A outer s H vs Q E hr h => ?_)
  · obtain ⟨p, a, t, e, ns, rfl, _⟩ := h
    rfl
  · obtain ⟨p, a, t, e, ns, rfl, ⟨hw, ht1, ht2, he1, he2⟩, ha, hns, hl, q⟩ := h
    have nd := sc_taken_out.nd
    have A_take_apart := S1_held (held_of c_from_ranks m_from_ranks (show 2 ≤ 3 by decide))
    refine ⟨_, (pss_cons (ps_asg (C8.pe_c c_unturned hr (by decide) (by rfl) (pa_cons (pv 0) pa_nil)) (pg_tup rfl (pgs_cons (pg_name (i := 2) nd rfl (Or.inl rfl)) (pgs_cons (pg_name (i := 3) nd rfl (Or.inl rfl)) pgs_nil))))
  (pss_cons (ps_set (i := 4) nd rfl (Or.inl rfl) (pe_ix ix_tup (pv 3) pe_int (fun _ _ => rfl)))
  (pss_cons (ps_if (PW.pt (pw_or (pt_cmpR op_gt (pe_callB k_len (by rfl) Z.len_ (by decide +kernel) (pa_cons (pv 1) pa_nil)) (C8.pe_gc rfl m_LONGEST_FRAME) (nomark _)) (pw_or (pt_cmpR op_ne (pe_bm PySem.F.plainAttrs_list PySem.F.slot_list_count PySem.F.type_list_count mt_lcount (pv 1) (pa_cons (pv 4) pa_nil)) pe_int (nomark _)) (pw_or1 (pt_cmpR op_ne (pe_ix ix_list (pv 1) (pe_un un_neg pe_int) (fun _ _ => rfl)) (pv 4) (nomark _)))))) (pss_one (ps_ret pe_non)) pss_nil)
  (pss_cons (ps_set (i := 5) nd rfl (Or.inl rfl) (pe_ix ix_kdict (C8.pe_gc rfl m_READERS) (pe_ix ix_tup (pv 3) pe_int (fun _ _ => rfl)) (fun _ _ => rfl)))
  (pss_cons (ps_set (i := 6) nd rfl (Or.inl rfl) (pe_callA A_take_apart hr (x := "take_apart") (i := 5) rfl (by first | exact Or.inl rfl | exact Or.inr (Or.inl rfl) | exact Or.inr (Or.inr rfl)) (pa_cons (pv 3) (pa_cons (pe_slice sl_list (pv 1) po_none (po_some (pe_un un_neg pe_int))) pa_nil))))
  (pss_cons (ps_if (PW.pt (pw_or (pt_cmpR k_isN (pv 6) pe_non (nomark _)) (pw_or1 (pt_cmpR op_gt (pe_callB k_len (by rfl) Z.len_ (by decide +kernel) (pa_cons (pv 6) pa_nil)) (C8.pe_gc rfl m_MOST_BODY) (nomark _))))) (pss_one (ps_ret pe_non)) pss_nil)
  (pss_cons (ps_for PassesOwn.never rfl (pi_reversed rfl Z.reversed_ (pa_cons (pv 2) pa_nil)) (pg_name (i := 7) nd rfl (Or.inr rfl))
    pss_never)
  (pss_one (ps_ret (pe_ifExp (pt_cmpR (op_eqD hr.units) (C8.pe_c c_frame_of hr (by decide) (by rfl) (pa_cons (pv 0) (pa_cons (pv 6) pa_nil))) (pv 1) (nomark _)) (pv 6) pe_non)))))))))), ?_⟩
    refine i_start (σ' := [some (.ref p), some (.ref a), none, none, none, none, none, none, none]) rfl ?_
    walk_at "go"
    walk_at "r"
    refine ⟨.ref p, [], p, "ranks", [.int t, .int e], rfl, rfl, hw, ranks_ne, Nat.zero_le _, fun q1 l H1 _ hl1 s1 e1 el => ?_⟩
    have hw1 := stup s1 hw
    have ha1 := s1.seq ha
    walk_at "r"
    refine i_no (by rw [List.length_append, List.length_singleton]; omega) ?_
    walk_at "r"
    refine i_count ha1 ?_
    have hc : (ns ++ [e]).count e = 1 := by
      rw [List.count_append, List.count_eq_zero_of_not_mem (fun m => (plain_mem.mp (hns e m)).2.2 rfl)]
      simp
    rw [hc]
    walk_at "r"
    refine i_nyes rfl ?_
    walk_at "r"
    refine i_ixL (xs := ns.map V.int ++ [.int e]) (v := .int e) (by rw [List.map_append] at ha1; exact ha1) (atI_last _ _) ?_
    walk_at "r"
    refine i_nyes rfl ?_
    walk_at "r"
    refine i_kd hR ?_
    walk_at "r"
    refine i_callA S1_self ?_
    walk_at "r"
    refine i_slL ha1 (fun p2 H2 hp2 s2 e2 => ?_)
    rw [List.map_append, show List.map V.int [e] = [V.int e] from rfl, cut_butlast] at e2
    walk_at "r"
    refine ⟨p, p2, t, e, ns, rfl, ⟨stup s2 hw1, ht1, ht2, he1, he2⟩, sl_of e2, hns, by omega, fun p3 H3 hp3 s3 e3 => ?_⟩
    have hbl := bodyR_len ht1 he1 he2 hns
    walk_at "r"
    refine i_no (by intro z; cases z) ?_
    walk_at "r"
    refine i_no (by omega) ?_
    have el3 := s3 _ _ (s2 _ _ el)
    walk_at "r"
    refine i_rvs (xs := []) (sl_of el3) (fun i σ' H' => σ' = [some (.ref p), some (.ref a), some (.ref l), some (.ref p), some (.int e), some (.ref fR), some (.ref p3), none, none] ∧ H' = H3) ⟨rfl, rfl⟩ (fun i σ' H' _ pv => by rw [pv.2]; exact sl_of el3) (fun i x σ' H' hi _ _ => by simp at hi) (fun σ' H' pv => ?_)
    obtain ⟨rfl, rfl⟩ := pv
    have ha3 := s3.seq (s2.seq ha1)
    walk_at "r"
    refine ⟨p, p3, t, e, _, rfl, ⟨stup s3 (stup s2 hw1), ht1, ht2, he1, he2⟩, sl_of e3, bodyR_mem ht1 ns, by omega, fun p4 H4 hp4 s4 e4 => ?_⟩
    have ha4 := s4.seq ha3
    walk_at "r"
    refine i_eqL (sl_of e4) ha4 ?_
    walk_at "r"
    unfold frameR
    rw [rowR_bodyR ht1 he1 he2 hns]
    refine i_yes rfl ?_
    walk_at "r"
    exact q p3 _ (s1.free (s2.free hp3)) (s1.trans (s2.trans (s3.trans s4))) (s4 _ _ e3)
theorem c_framed (c_need_way : C8.Cal P w K mg base 6 "need_way" (spNeed K) []) (c_need_body : C8.Cal P w K mg base 4 "need_body" (spNeedBody K) []) (c_frame_of : C8.Cal P w K mg base 3 "frame_of" (spFrame K) []) (d : Dd K mg "framed" s_framed P_framed) : C8.Cal P w K mg base 7 "framed" (spFrame K) [] := by
  refine d.cal sc_framed (fun vs H Q E h => ?_) (fun f cdv A outer s H vs Q E hr h => ?_)
  · obtain ⟨p, a, t, e, ns, rfl, _⟩ := h
    rfl
  · obtain ⟨p, a, t, e, ns, rfl, hw, ha, hns, hl, q⟩ := h
    have nd := sc_framed.nd
    refine ⟨_, (pss_cons (ps_expr (C8.pe_c c_need_way hr (by decide) (by rfl) (pa_cons (pv 0) pa_nil)))
  (pss_cons (ps_expr (C8.pe_c c_need_body hr (by decide) (by rfl) (pa_cons (pv 0) (pa_cons (pv 1) pa_nil))))
  (pss_one (ps_ret (C8.pe_c c_frame_of hr (by decide) (by rfl) (pa_cons (pv 0) (pa_cons (pv 1) pa_nil))))))), ?_⟩
    refine i_start (σ' := [some (.ref p), some (.ref a)]) rfl ?_
    walk_at "go"
    walk_at "r"
    refine ⟨p, t, e, rfl, hw, fun H1 s1 => ?_⟩
    walk_at "r"
    refine ⟨p, a, t, e, ns, rfl, hw.same s1, s1.seq ha, hns, hl, fun H2 s2 => ?_⟩
    walk_at "r"
    exact ⟨p, a, t, e, ns, rfl, (hw.same s1).same s2, s2.seq (s1.seq ha), hns, hl, fun p3 H3 hp3 s3 e3 => q p3 H3 (s1.free (s2.free hp3)) (s1.trans (s2.trans s3)) e3⟩
theorem c_body_of (c_need_way : C8.Cal P w K mg base 6 "need_way" (spNeed K) []) (c_need_signs : C8.Cal P w K mg base 4 "need_signs" (spNeedSigns K) []) (c_taken_out : C8.Cal P w K mg base 4 "taken_out" (spTaken K) []) (d : Dd K mg "body_of" s_body_of P_body_of) : C8.Cal P w K mg base 7 "body_of" (spTaken K) [] := by
  refine d.cal sc_body_of (fun vs H Q E h => ?_) (fun f cdv A outer s H vs Q E hr h => ?_)
  · obtain ⟨p, a, t, e, ns, rfl, _⟩ := h
    rfl
  · obtain ⟨p, a, t, e, ns, rfl, hw, ha, hns, hl, q⟩ := h
    have nd := sc_body_of.nd
    refine ⟨_, (pss_cons (ps_expr (C8.pe_c c_need_way hr (by decide) (by rfl) (pa_cons (pv 0) pa_nil)))
  (pss_cons (ps_expr (C8.pe_c c_need_signs hr (by decide) (by rfl) (pa_cons (pv 0) (pa_cons (pv 1) pa_nil))))
  (pss_one (ps_ret (C8.pe_c c_taken_out hr (by decide) (by rfl) (pa_cons (pv 0) (pa_cons (pv 1) pa_nil))))))), ?_⟩
    refine i_start (σ' := [some (.ref p), some (.ref a)]) rfl ?_
    walk_at "go"
    walk_at "r"
    refine ⟨p, t, e, rfl, hw, fun H1 s1 => ?_⟩
    walk_at "r"
    refine ⟨p, a, t, e, ns ++ [e], rfl, hw.same s1, s1.seq ha, fun n hn => ?_, by rw [List.length_append, List.length_singleton]; omega, fun H2 s2 => ?_⟩
    · rcases List.mem_append.mp hn with m | m
      · have z := plain_mem.mp (hns n m)
        exact ⟨z.1, z.2.1⟩
      · rw [List.mem_singleton.mp m]
        exact ⟨hw.2.2.2.1, hw.2.2.2.2⟩
    · walk_at "r"
      exact ⟨p, a, t, e, ns, rfl, (hw.same s1).same s2, s2.seq (s1.seq ha), hns, hl, fun p3 H3 hp3 s3 e3 => q p3 H3 (s1.free (s2.free hp3)) (s1.trans (s2.trans s3)) e3⟩
end
end Esc

namespace Esc
open PySem PySem.Spec PyProof.Rows L2
/-! ### the heap but for two lists that change -/
def G (d k : Addr) (H : Hp) : Hp := hide d (hide k H)
theorem G_ne {d k b : Addr} {H : Hp} {o : HO} (e : G d k H b = some o) : b ≠ d ∧ b ≠ k ∧ H b = some o := by
  unfold G at e
  by_cases h : b = d
  · rw [h, hide_d] at e
    cases e
  · rw [hide_ne h] at e
    by_cases h2 : b = k
    · rw [h2, hide_d] at e
      cases e
    · rw [hide_ne h2] at e
      exact ⟨h, h2, e⟩
theorem G_of {d k b : Addr} {H : Hp} {o : HO} (h1 : b ≠ d) (h2 : b ≠ k) (e : H b = some o) : G d k H b = some o := by
  unfold G
  rw [hide_ne h1, hide_ne h2]
  exact e
theorem G_same {d k : Addr} {H : Hp} : Same (G d k H) H := fun b o e => (G_ne e).2.2
theorem G_tr {d k : Addr} {H H1 H2 : Hp} (s : Same (G d k H) H1) (t : Same (G d k H1) H2) : Same (G d k H) H2 := fun b o e => t b o (G_of (G_ne e).1 (G_ne e).2.1 (s b o e))
theorem G_up {d k : Addr} {H H1 : Hp} (s : Same (G d k H) H1) : Same (G d k H) (G d k H1) := fun b o e => G_of (G_ne e).1 (G_ne e).2.1 (s b o e)
theorem G_pure {d k : Addr} {H H1 : Hp} (s : Same H H1) : Same (G d k H) H1 := fun b o e => s b o (G_ne e).2.2
theorem G_dice {d k : Addr} {H H1 : Hp} (s : Same (hide d H) H1) : Same (G d k H) H1 := fun b o e => s b o ((hide_ne (G_ne e).1).trans (G_ne e).2.2)
theorem G_put {d k : Addr} {H : Hp} {o : HO} : Same (G d k H) (upd H k o) := fun b u e => (upd_ne (G_ne e).2.1).trans (G_ne e).2.2
theorem G_mut {d k D : Addr} {H H1 : Hp} {o : HO} (n : H D = none) (s : Same (G d k H) H1) : Same (G d k H) (upd H1 D o) := fun b u e => by
  rw [upd_ne (ne_of_none (G_ne e).2.2 n)]
  exact s b u e
section
variable {P : Program} {w : World} {K : PySem.W.Frag} {mg : Str → Option Value} {base : Heap}
abbrev KK1 := Addr × Addr × List Int
def Known (K : PySem.W.Frag) (F : Hp) (t : Int) (ks : List KK1) : Prop := ∀ k ∈ ks, SqT K F k.1 [.int ((k.2.2.length : Nat) : Int), .ref k.2.1] ∧ SqL K F k.2.1 (k.2.2.map V.int) ∧ (∀ n ∈ k.2.2, 0 ≤ n ∧ n < t) ∧ k.2.2.length ≤ 60
theorem Known.same {F F' : Hp} {t : Int} {ks : List KK1} (s : Same F F') (h : Known K F t ks) : Known K F' t ks := fun k m => ⟨stup s (h k m).1, s.seq (h k m).2.1, (h k m).2.2⟩
structure LawAt (K : PySem.W.Frag) (H : Hp) (d k p pl : Addr) (t e : Int) (ks : List KK1) : Prop where
  dice : DiceAt H d
  list : H k = some (.lst (ks.map fun x => V.ref x.1))
  ne : k ≠ d
  way : RankAt K (G d k H) p t e
  pla : SqL K (G d k H) pl ((plainL t e).map V.int)
  kno : Known K (G d k H) t ks
theorem LawAt.go {H H' : Hp} {d k p pl : Addr} {t e : Int} {ks : List KK1} (L : LawAt K H d k p pl t e ks) (s : Same (G d k H) H') (hd : DiceAt H' d) (hk : H' k = some (.lst (ks.map fun x => V.ref x.1))) : LawAt K H' d k p pl t e ks :=
  ⟨hd, hk, L.ne, L.way.same (G_up s), (G_up s).seq L.pla, L.kno.same (G_up s)⟩
theorem DiceAt.same {H H' : Hp} {d : Addr} (s : Same H H') (h : DiceAt H d) : DiceAt H' d := by
  obtain ⟨x, c, r, a, b⟩ := h
  exact ⟨x, c, r, s _ _ a, b⟩
theorem DiceAt.some {H : Hp} {d : Addr} (h : DiceAt H d) : ∃ o, H d = some o := by
  obtain ⟨x, c, r, a, b⟩ := h
  exact ⟨_, a⟩
theorem LawAt.pure {H H' : Hp} {d k p pl : Addr} {t e : Int} {ks : List KK1} (L : LawAt K H d k p pl t e ks) (s : Same H H') : LawAt K H' d k p pl t e ks := L.go (G_pure s) (L.dice.same s) (s _ _ L.list)
theorem LawAt.draw {H H' : Hp} {d k p pl : Addr} {t e : Int} {ks : List KK1} (L : LawAt K H d k p pl t e ks) (s : Same (hide d H) H') (hd : DiceAt H' d) : LawAt K H' d k p pl t e ks := L.go (G_dice s) hd (s _ _ ((hide_ne L.ne).trans L.list))
/-- what is new is neither of the two lists -/
theorem LawAt.new {H : Hp} {d k p pl q : Addr} {t e : Int} {ks : List KK1} (L : LawAt K H d k p pl t e ks) (h : H q = none) : q ≠ d ∧ q ≠ k := by
  obtain ⟨o, ho⟩ := L.dice.some
  exact ⟨(ne_of_none ho h).symm, (ne_of_none L.list h).symm⟩
theorem LawAt.add {H : Hp} {d k p pl : Addr} {t e : Int} {ks : List KK1} (L : LawAt K H d k p pl t e ks) {T b : Addr} {ns : List Int} (hT : H T = some (.tup [.int ((ns.length : Nat) : Int), .ref b])) (hb : H b = some (.lst (ns.map V.int))) (n1 : T ≠ d ∧ T ≠ k) (n2 : b ≠ d ∧ b ≠ k)
    (hn : ∀ n ∈ ns, 0 ≤ n ∧ n < t) (hl : ns.length ≤ 60) : LawAt K (upd H k (.lst (ks.map (fun x => V.ref x.1) ++ [.ref T]))) d k p pl t e (ks ++ [(T, b, ns)]) := by
  have s : Same (G d k H) (upd H k (.lst (ks.map (fun x => V.ref x.1) ++ [.ref T]))) := G_put
  refine ⟨?_, by rw [upd_same, List.map_append]; rfl, L.ne, L.way.same (G_up s), (G_up s).seq L.pla, fun x m => ?_⟩
  · obtain ⟨x, c, r, a, z⟩ := L.dice
    exact ⟨x, c, r, by rw [upd_ne L.ne.symm]; exact a, z⟩
  · rcases List.mem_append.mp m with m | m
    · exact (L.kno.same (G_up s)) x m
    · rw [List.mem_singleton.mp m]
      exact ⟨st_of (G_of n1.1 n1.2 (by rw [upd_ne n1.2]; exact hT)), sl_of (G_of n2.1 n2.2 (by rw [upd_ne n2.2]; exact hb)), hn, hl⟩
/-! ### digits of bodies -/
theorem count_at {n : Nat} {i : Nat} (h : i < n) : (countL (n : Int)).getD i 0 = (i : Int) := by
  unfold countL
  rw [List.getD_eq_getElem?_getD, List.getElem?_map, Int.toNat_natCast, List.getElem?_range h]
  rfl
theorem body_digits {n : Nat} {ns : List Int} (h : ∀ x ∈ ns, 0 ≤ x ∧ x < (n : Int)) : ns.map V.int = (digits (countL (n : Int)) ns).map fun d => V.int ((d : Nat) : Int) := by
  have z := letters_digits (ls := countL (n : Int)) (row := ns) fun x hx => count_mem.mpr (h x hx)
  conv => lhs; rw [← z]
  unfold letters
  rw [List.map_map]
  refine List.map_congr_left fun d hd => ?_
  have hd' := digits_lt (ls := countL (n : Int)) (row := ns) (fun x hx => count_mem.mpr (h x hx)) d hd
  rw [count_len, Int.toNat_natCast] at hd'
  show V.int ((countL (n : Int)).getD d 0) = _
  rw [count_at hd']
theorem dig_lt {n : Nat} {ns : List Int} (h : ∀ x ∈ ns, 0 ≤ x ∧ x < (n : Int)) : ∀ d ∈ digits (countL (n : Int)) ns, d < n := fun d hd => by
  have z := digits_lt (ls := countL (n : Int)) (row := ns) (fun x hx => count_mem.mpr (h x hx)) d hd
  rw [count_len, Int.toNat_natCast] at z
  exact z
/-- the next body -/
def nextB (n : Nat) (ns : List Int) : List Nat := rowD n (rankD n (digits (countL (n : Int)) ns) + 1)
theorem next_ok {n : Nat} (hn : 0 < n) {ns : List Int} (h : ∀ x ∈ ns, 0 ≤ x ∧ x < (n : Int)) : (∀ x ∈ (nextB n ns).map (fun (d : Nat) => (d : Int)), 0 ≤ x ∧ x < (n : Int)) ∧ ((nextB n ns).map (fun (d : Nat) => (d : Int))).length ≤ ns.length + 1 := by
  constructor
  · intro x hx
    obtain ⟨d, hd, rfl⟩ := List.mem_map.mp hx
    have := row_lt hn _ d hd
    exact ⟨by omega, by omega⟩
  · rw [List.length_map]
    have a := row_next_len hn (digits (countL (n : Int)) ns) (dig_lt h)
    have b : (digits (countL (n : Int)) ns).length = ns.length := List.length_map _
    unfold nextB
    omega
theorem frame_rank {n : Nat} (h3 : 3 ≤ n) {e : Int} (h0 : 0 ≤ e) (h1 : e < (n : Int)) {ns : List Int} (h : ∀ x ∈ ns, 0 ≤ x ∧ x < (n : Int)) : rankD (n - 1) (digits (plainL (n : Int) e) (rowR (n : Int) e ns)) = rankD n (digits (countL (n : Int)) ns) := by
  have z := plain_len h0 h1
  rw [Int.toNat_natCast] at z
  unfold rowR
  rw [digits_letters (plain_nodup _ _) (row_lt (by omega) _), Int.toNat_natCast, show (plainL (n : Int) e).length = n - 1 by omega, rank_row]
theorem order_same {n : Nat} (h3 : 3 ≤ n) {e : Int} (h0 : 0 ≤ e) (h1 : e < (n : Int)) {a b : List Int} (ha : ∀ x ∈ a, 0 ≤ x ∧ x < (n : Int)) (hb : ∀ x ∈ b, 0 ≤ x ∧ x < (n : Int)) : lessI 0 a b = lessI 1 (rowR (n : Int) e a) (rowR (n : Int) e b) := by
  have z := plain_len h0 h1
  rw [Int.toNat_natCast] at z
  have ea := letters_digits (ls := countL (n : Int)) (row := a) fun x hx => count_mem.mpr (ha x hx)
  have eb := letters_digits (ls := countL (n : Int)) (row := b) fun x hx => count_mem.mpr (hb x hx)
  have cpw : (countL (n : Int)).Pairwise (· < ·) := by
    unfold countL
    exact List.Pairwise.map _ (fun x y h => by omega) List.pairwise_lt_range
  have c1 : lessI 0 a b = decide (rankD n (digits (countL (n : Int)) a) < rankD n (digits (countL (n : Int)) b)) := by
    rw [← rank_less (by omega) (dig_lt ha) (dig_lt hb)]
    conv => lhs; rw [← ea, ← eb]
    exact lessI_letters cpw (digits_lt fun x hx => count_mem.mpr (ha x hx)) (digits_lt fun x hx => count_mem.mpr (hb x hx))
  have c2 : lessI 1 (rowR (n : Int) e a) (rowR (n : Int) e b) = decide (rankD n (digits (countL (n : Int)) a) < rankD n (digits (countL (n : Int)) b)) := by
    unfold rowR letters
    rw [lessI_letters (plain_pw _ _) (row_lt (by omega) _) (row_lt (by omega) _), rank_less (n := (plainL (n : Int) e).length) (by omega) (row_lt (by omega) _) (row_lt (by omega) _), rank_row, rank_row, Int.toNat_natCast]
  rw [c1, c2]
end
end Esc

set_option maxHeartbeats 1000000
namespace Esc
open PySem PySem.Spec PyProof.Rows L2
section
variable {P : Program} {w : World} {K : PySem.W.Frag} {mg : Str → Option Value} {base : Heap}
def spLaw (K : PySem.W.Frag) : Sp := fun vs H Q _ => ∃ (a : Addr) (ns : List Int), vs = [.ref a] ∧ SqL K H a (ns.map V.int) ∧ ns.length ≤ 63 ∧ ∀ H', Q (.bl true) H'
theorem c_law (Z : Blt mg) (c__law_dice : C8.Cal P w K mg base 1 "_law_dice" (spDice K) []) (c__law_off : C8.Cal P w K mg base 1 "_law_off" spOff []) (c__law_plain : C8.Cal P w K mg base 1 "_law_plain" spPlain []) (c__law_size : C8.Cal P w K mg base 2 "_law_size" spSize [])
    (c__law_body : C8.Cal P w K mg base 2 "_law_body" spBody []) (c__law_number : C8.Cal P w K mg base 1 "_law_number" (spNumber K) []) (c__law_list : C8.Cal P w K mg base 1 "_law_list" spList [])
    (c_framed : C8.Cal P w K mg base 7 "framed" (spFrame K) []) (c_body_of : C8.Cal P w K mg base 7 "body_of" (spTaken K) []) {f : Addr} {fd : FuncData} (F : C8.Def K mg "law" s_law f fd) : FnOk P w K mg base C8.CX0 9 f fd P_law (spLaw K) := by
  refine C8.fn0 F.fn sc_law (fun vs H Q E h => ?_) (fun cdv A outer s H vs Q E hr h => ?_)
  · obtain ⟨a, ns, rfl, _⟩ := h
    rfl
  · obtain ⟨a, ns, rfl, ha, hlen, q⟩ := h
    have nd := sc_law.nd
    refine ⟨_, (pss_cons (ps_set (i := 1) nd rfl (Or.inr rfl) (C8.pe_c c__law_dice hr (by decide) (by rfl) (pa_cons (pv 0) (pa_cons pe_int pa_nil))))
  (pss_cons (ps_set (i := 2) nd rfl (Or.inr rfl) (C8.pe_c c__law_size hr (by decide) (by rfl) (pa_cons (pv 1) pa_nil)))
  (pss_cons (ps_set (i := 3) nd rfl (Or.inl rfl) (C8.pe_c c__law_off hr (by decide) (by rfl) (pa_cons (pv 1) (pa_cons (pv 2) pa_nil))))
  (pss_cons (ps_set (i := 4) nd rfl (Or.inl rfl) (pe_tup (pa_cons pe_str (pa_cons (pv 2) (pa_cons (pv 3) pa_nil)))))
  (pss_cons (ps_set (i := 5) nd rfl (Or.inr rfl) (C8.pe_c c__law_plain hr (by decide) (by rfl) (pa_cons (pv 2) (pa_cons (pv 3) pa_nil))))
  (pss_cons (ps_set (i := 6) nd rfl (Or.inl rfl) (pe_lst pa_nil))
  (pss_cons (ps_for PassesOwn.never rfl (pi_range1 rfl Z.range_ (pa_cons pe_int pa_nil)) (pg_name (i := 7) nd rfl (Or.inl rfl))
    (pss_cons (ps_set (i := 8) nd rfl (Or.inl rfl) (C8.pe_c c__law_body hr (by decide) (by rfl) (pa_cons (pv 1) (pa_cons (pv 2) (pa_cons (pv 3) (pa_cons (pe_ix ix_list (pe_lst (pa_cons pe_int (pa_cons pe_int (pa_cons pe_int pa_nil)))) (C8.pe_c c__law_off hr (by decide) (by rfl) (pa_cons (pv 1) (pa_cons pe_int pa_nil))) (fun _ _ => rfl)) pa_nil))))))
  (pss_cons (ps_set (i := 9) nd rfl (Or.inl rfl) (C8.pe_c c__law_number hr (by decide) (by rfl) (pa_cons (pv 8) (pa_cons (pv 2) pa_nil))))
  (pss_cons (ps_expr (pe_bm PySem.F.plainAttrs_list PySem.F.slot_list_append PySem.F.type_list_append mt_append (pv 6) (pa_cons (pe_tup (pa_cons (pe_callB k_len (by rfl) Z.len_ (by decide +kernel) (pa_cons (pv 8) pa_nil)) (pa_cons (pv 8) pa_nil))) pa_nil)))
  (pss_cons (ps_expr (pe_bm PySem.F.plainAttrs_list PySem.F.slot_list_append PySem.F.type_list_append mt_append (pv 6) (pa_cons (pe_tup (pa_cons (pe_callB k_len (by rfl) Z.len_ (by decide +kernel) (pa_cons (C8.pe_c c__law_list hr (by decide) (by rfl) (pa_cons (pe_op op_add (pv 9) pe_int) (pa_cons (pv 2) pa_nil))) pa_nil)) (pa_cons (C8.pe_c c__law_list hr (by decide) (by rfl) (pa_cons (pe_op op_add (pv 9) pe_int) (pa_cons (pv 2) pa_nil))) pa_nil))) pa_nil)))
  (pss_cons (ps_set (i := 10) nd rfl (Or.inl rfl) (pe_op op_cat (pe_lc (own := [("_law_sign", 16)]) (g := gName 16) (tt := tYes) rfl nd (pi_list (pv 8)) (blkOk_by (N := N_law) (sc := C8.fnScope s_law) (own := [("_law_sign", 16)]) (by decide +kernel)) (fun _ _ _ _ _ => (pg_name (i := 16) nd rfl (Or.inl rfl))) (fun _ _ _ _ _ => pts_nil) (fun _ _ _ _ _ => (pe_ix (show IxR _ (rIxL K) from ix_list) (pv 5) (C8.pe_c c__law_off hr (by decide) (by rfl) (pa_cons (pv 1) (pa_cons (pe_op op_sub (pv 2) pe_int) pa_nil))) (fun _ _ => rfl)))) (pe_lst (pa_cons (pv 3) pa_nil))))
  (pss_cons (ps_set (i := 11) nd rfl (Or.inl rfl) (C8.pe_c c_body_of hr (by decide) (by rfl) (pa_cons (pv 4) (pa_cons (pv 10) pa_nil))))
  (pss_one (ps_if (PW.pt (pw_or (pt_cmpR k_isN (pv 11) pe_non (nomark _)) (pw_or1 (pt_cmpR (op_neD hr.units) (C8.pe_c c_framed hr (by decide) (by rfl) (pa_cons (pv 4) (pa_cons (pv 11) pa_nil))) (pv 10) (nomark _))))) (pss_one (ps_ret pe_bl)) pss_nil)))))))))
  (pss_cons (ps_for PassesOwn.never rfl (pi_list (pv 6)) (pg_tup rfl (pgs_cons (pg_name (i := 12) nd rfl (Or.inl rfl)) (pgs_cons (pg_name (i := 8) nd rfl (Or.inl rfl)) pgs_nil)))
    (pss_cons (ps_set (i := 10) nd rfl (Or.inl rfl) (C8.pe_c c_framed hr (by decide) (by rfl) (pa_cons (pv 4) (pa_cons (pv 8) pa_nil))))
  (pss_cons (ps_if (pt_cmpR op_ne (C8.pe_c c__law_number hr (by decide) (by rfl) (pa_cons (pe_lc (own := [("_law_sign", 16)]) (g := gName 16) (tt := tYes) rfl nd (pi_list (pe_slice sl_list (pv 10) po_none (po_some (pe_un un_neg pe_int)))) (blkOk_by (N := N_law) (sc := C8.fnScope s_law) (own := [("_law_sign", 16)]) (by decide +kernel)) (fun _ _ _ _ _ => (pg_name (i := 16) nd rfl (Or.inl rfl))) (fun _ _ _ _ _ => pts_nil) (fun _ _ _ _ _ => (show PE _ _ (tBM K _ _ _ _) from (pe_bm PySem.F.plainAttrs_list PySem.F.slot_list_index PySem.F.type_list_index (show MtR _ _ (rIndex K) from mt_index) (pv 5) (pa_cons (pv 16) pa_nil))))) (pa_cons (pe_op op_sub (pv 2) pe_int) pa_nil))) (C8.pe_c c__law_number hr (by decide) (by rfl) (pa_cons (pv 8) (pa_cons (pv 2) pa_nil))) (nomark _)) (pss_one (ps_ret pe_bl)) pss_nil)
  (pss_one (ps_for PassesOwn.never rfl (pi_list (pv 6)) (pg_tup rfl (pgs_cons (pg_name (i := 13) nd rfl (Or.inl rfl)) (pgs_cons (pg_name (i := 14) nd rfl (Or.inl rfl)) pgs_nil)))
    (pss_cons (ps_set (i := 15) nd rfl (Or.inl rfl) (C8.pe_c c_framed hr (by decide) (by rfl) (pa_cons (pv 4) (pa_cons (pv 14) pa_nil))))
  (pss_one (ps_if (pt_cmpR op_ne (pe_cmpR (op_ltD hr.units) (pe_tup (pa_cons (pv 12) (pa_cons (pv 8) pa_nil))) (pe_tup (pa_cons (pv 13) (pa_cons (pv 14) pa_nil))) (nomark _)) (pe_cmpR (op_ltD hr.units) (pe_tup (pa_cons (pe_callB k_len (by rfl) Z.len_ (by decide +kernel) (pa_cons (pv 10) pa_nil)) (pa_cons (pe_slice sl_list (pv 10) po_none (po_some (pe_un un_neg pe_int))) pa_nil))) (pe_tup (pa_cons (pe_callB k_len (by rfl) Z.len_ (by decide +kernel) (pa_cons (pv 15) pa_nil)) (pa_cons (pe_slice sl_list (pv 15) po_none (po_some (pe_un un_neg pe_int))) pa_nil))) (nomark _)) (nomark _)) (pss_one (ps_ret pe_bl)) pss_nil))))))))
  (pss_one (ps_ret pe_bl)))))))))), ?_⟩
    refine i_start (σ' := [some (.ref a), none, none, none, none, none, none, none, none, none, none, none, none, none, none, none, none]) rfl ?_
    walk_at "go"
    walk_at "r"
    refine ⟨a, ns, 0, rfl, ha, by decide, by decide, hlen, fun d H1 _ s1 d1 => ?_⟩
    walk_at "r"
    refine ⟨d, rfl, d1, fun H2 t s2 d2 ht3 ht16 => ?_⟩
    obtain ⟨n, rfl⟩ := Int.eq_ofNat_of_zero_le (show 0 ≤ t by omega)
    walk_at "r"
    refine ⟨d, n, rfl, by omega, by omega, d2, fun H3 e s3 d3 he0 he1 => ?_⟩
    walk_at "r"
    refine i_tup (by show 3 ≤ sizeLine; decide) (fun p H4 hp s4 e4 => ?_)
    walk_at "r"
    refine ⟨n, e, rfl, by omega, by omega, fun pl H5 hpl s5 e5 => ?_⟩
    walk_at "r"
    refine i_lst (Nat.zero_le _) (fun k H6 hk s6 e6 => ?_)
    have d4 := d3.same s4
    have d5 := d4.same s5
    have d6 := d5.same s6
    obtain ⟨od3, hd3⟩ := d3.some
    obtain ⟨od4, hd4⟩ := d4.some
    obtain ⟨od5, hd5⟩ := d5.some
    have npd : p ≠ d := (ne_of_none hd3 hp).symm
    have npld : pl ≠ d := (ne_of_none hd4 hpl).symm
    have nkd : k ≠ d := (ne_of_none hd5 hk).symm
    have npk : p ≠ k := ne_of_none (s5 _ _ e4) hk
    have nplk : pl ≠ k := ne_of_none e5 hk
    have L0 : LawAt K H6 d k p pl (n : Int) e [] := ⟨d6, e6, nkd, ⟨st_of (G_of npd npk (s6 _ _ (s5 _ _ e4))), ht3, ht16, he0, he1⟩, sl_of (G_of npld nplk (s6 _ _ e5)), fun x m => by cases m⟩
    have hplen : (plainL (n : Int) e).length = n - 1 := by
      have z := plain_len he0 he1
      rw [Int.toNat_natCast] at z
      omega
    walk_at "r"
    refine i_rng ⟨by decide, by decide⟩ (fun i σ' H' => ∃ ks y7 y8 y9 y10 y11, σ' = [some (.ref a), some (.ref d), some (.int (n : Int)), some (.int e), some (.ref p), some (.ref pl), some (.ref k), y7, y8, y9, y10, y11, none, none, none, none, none] ∧ LawAt K H' d k p pl (n : Int) e ks ∧ ks.length ≤ 2 * i) ⟨[], none, none, none, none, none, rfl, L0, Nat.le_refl _⟩ (fun i σ' H' hi pv => ?_) (fun σ' H' pv => ?_)
    · obtain ⟨ks, y7, y8, y9, y10, y11, rfl, L, hks⟩ := pv
      walk_at "r"
      refine i_lst (by show 3 ≤ sizeLine; decide) (fun q1 H7 hq1 s7 e7 => ?_)
      have L7 := L.pure s7
      have nq1 := L.new hq1
      walk_at "r"
      refine ⟨d, 3, rfl, by decide, by decide, L7.dice, fun H8 m s8 d8 hm0 hm3 => ?_⟩
      have L8 := L7.draw s8 d8
      have e8 := s8 _ _ ((hide_ne nq1.1).trans e7)
      walk_at "r"
      have hmost : ∃ most : Int, atI [V.int 4, V.int 20, V.int 59] m = some (.int most) ∧ 0 ≤ most ∧ most ≤ 59 := by
        have hm : m = 0 ∨ m = 1 ∨ m = 2 := by omega
        rcases hm with rfl | rfl | rfl
        · exact ⟨4, atI_nat (j := 0) rfl, by decide, by decide⟩
        · exact ⟨20, atI_nat (j := 1) rfl, by decide, by decide⟩
        · exact ⟨59, atI_nat (j := 2) rfl, by decide, by decide⟩
      obtain ⟨most, hat, hmo0, hmo⟩ := hmost
      refine i_ixL (sl_of e8) hat ?_
      walk_at "r"
      refine ⟨d, n, e, most, rfl, L8.dice, by omega, by omega, he0, he1, hmo0, by omega, fun b H9 ns9 hb s9 d9 e9 hns hl9 => ?_⟩
      have L9 := L8.draw s9 d9
      have nb := L8.new hb
      have hb9 := body_digits hns
      walk_at "r"
      refine ⟨b, digits (countL (n : Int)) ns9, n, rfl, sl_of (by rw [← hb9]; exact e9), by omega, by omega, fun H10 s10 => ?_⟩
      have L10 := L9.pure s10
      have e10 := s10 _ _ e9
      have hk10 := L10.list
      walk_at "r"
      refine i_tup (by show 2 ≤ sizeLine; decide) (fun T1 H11 hT1 s11 e11 => ?_)
      have L11 := L10.pure s11
      have nT1 := L10.new hT1
      have hk11 := L11.list
      have zk : (ks.map fun x => V.ref x.1).length < sizeLine := szl (by rw [List.length_map]; omega)
      walk_at "r"
      have L12 := L11.add e11 (s11 _ _ e10) nT1 nb hns (by omega)
      generalize hX : upd H11 k (HO.lst (ks.map (fun x => V.ref x.1) ++ [V.ref T1])) = H12 at L12
      have e12 : H12 b = some (.lst (ns9.map V.int)) := by
        rw [← hX, upd_ne nb.2]
        exact s11 _ _ e10
      have hk12 := L12.list
      have nok := next_ok (n := n) (by omega) hns
      have hrl : (nextB n ns9).length ≤ ns9.length + 1 := by
        have z := nok.2
        rw [List.length_map] at z
        exact z
      walk_at "r"
      rw [show ((rankD n (digits (countL (n : Int)) ns9) : Nat) : Int) + 1 = ((rankD n (digits (countL (n : Int)) ns9) + 1 : Nat) : Int) by push_cast; rfl]
      refine ⟨_, n, rfl, by omega, by omega, by show (nextB n ns9).length ≤ 1000; omega, fun b1 H13 hb1 s13 e13 => ?_⟩
      have L13 := L12.pure s13
      rw [show (rowD n (rankD n (digits (countL (n : Int)) ns9) + 1)).map (fun d => V.int ((d : Nat) : Int)) = ((nextB n ns9).map (fun (d : Nat) => (d : Int))).map V.int by rw [List.map_map]; rfl] at e13
      walk_at "r"
      refine ⟨_, n, rfl, by omega, by omega, by show (nextB n ns9).length ≤ 1000; omega, fun b2 H14 hb2 s14 e14 => ?_⟩
      have L14 := L13.pure s14
      have nb2 := L13.new hb2
      rw [show (rowD n (rankD n (digits (countL (n : Int)) ns9) + 1)).map (fun d => V.int ((d : Nat) : Int)) = ((nextB n ns9).map (fun (d : Nat) => (d : Int))).map V.int by rw [List.map_map]; rfl] at e14
      walk_at "r"
      refine i_tup (by show 2 ≤ sizeLine; decide) (fun T2 H15 hT2 s15 e15 => ?_)
      have L15 := L14.pure s15
      have nT2 := L14.new hT2
      have hk15 := L15.list
      have zk2 : ((ks ++ [(T1, b, ns9)]).map fun x => V.ref x.1).length < sizeLine := szl (by rw [List.length_map, List.length_append, List.length_singleton]; omega)
      walk_at "r"
      have L16 := L15.add e15 (s15 _ _ e14) nT2 nb2 nok.1 (by have := nok.2; omega)
      generalize hY : upd H15 k (HO.lst ((ks ++ [(T1, b, ns9)]).map (fun x => V.ref x.1) ++ [V.ref T2])) = H16 at L16
      have e16 : H16 b = some (.lst (ns9.map V.int)) := by
        rw [← hY, upd_ne nb.2]
        exact s15 _ _ (s14 _ _ (s13 _ _ e12))
      walk_at "r"
      generalize hks2 : ks ++ [(T1, b, ns9)] ++ [(T2, b2, (nextB n ns9).map fun (d : Nat) => (d : Int))] = ks2 at L16
      have lks2 : ks2.length ≤ 2 * (i + 1) := by
        rw [← hks2, List.length_append, List.length_append, List.length_singleton, List.length_singleton]
        omega
      have gb16 : G d k H16 b = some (.lst (ns9.map V.int)) := G_of nb.1 nb.2 e16
      refine i_lcLI (xs := ns9.map V.int) (fun D j acc H' => ∃ fs : List Int, acc = fs.map V.int ∧ (∀ x ∈ fs, x ∈ plainL (n : Int) e) ∧ fs.length ≤ ns9.length ∧ fs.length ≤ j ∧ Same (G d k H16) H' ∧ LawAt K H' d k p pl (n : Int) e ks2 ∧ H' D = some (.lst acc)) (sl_of e16)
        (fun D hD => ⟨[], rfl, fun x m => (by cases m), Nat.zero_le _, Nat.zero_le _, G_mut hD G_same, L16.go (G_mut hD G_same) ?_ ?_, upd_same⟩) (fun D j acc H' hD pv => ?_) (fun D j x acc H' hD hx hl pv => ?_) (fun D acc H' hD pv => ?_)
      · obtain ⟨x, c, r, z1, z2⟩ := L16.dice
        exact ⟨x, c, r, by rw [upd_ne (L16.new hD).1.symm]; exact z1, z2⟩
      · rw [upd_ne (L16.new hD).2.symm]
        exact L16.list
      · obtain ⟨fs, _, _, _, _, sG, _, _⟩ := pv
        exact sl_of (sG _ _ gb16)
      · obtain ⟨fs, rfl, hfs, hfl, hfj, sG, L', eD⟩ := pv
        have nD := L16.new hD
        have hpl' := G_same.seq L'.pla
        obtain ⟨x0, hx0, rfl⟩ := map_get hx
        have hj : j < ns9.length := (List.getElem?_eq_some_iff.mp hx0).1
        walk_at "r"
        refine ⟨d, (n : Int) - 1, rfl, by omega, by omega, L'.dice, fun H'' r s'' d'' hr0 hr1 => ?_⟩
        have L'' := L'.draw s'' d''
        have hpl'' := G_same.seq L''.pla
        have hrl : r.toNat < (plainL (n : Int) e).length := by omega
        have eD'' := s'' _ _ ((hide_ne nD.1).trans eD)
        have hz : (plainL (n : Int) e)[r.toNat] ∈ plainL (n : Int) e := List.getElem_mem hrl
        walk_at "r"
        refine i_ixL hpl'' (v := .int ((plainL (n : Int) e)[r.toNat])) (at_of (j := r.toNat) (by omega) (by rw [List.getElem?_map, List.getElem?_eq_getElem hrl]; rfl)) ?_
        generalize (plainL (n : Int) e)[r.toNat] = z at hz
        rw [List.length_map] at hl
        have sG'' : Same (G d k H16) H'' := G_tr sG (G_dice s'')
        refine kY_of eD'' (by rw [List.length_map]; omega) (by omega) ⟨fs ++ [z], by rw [List.map_append]; rfl, fun y m => ?_, by rw [List.length_append, List.length_singleton]; omega, by rw [List.length_append, List.length_singleton]; omega, G_mut hD sG'', ?_, upd_same⟩
        · rcases List.mem_append.mp m with m | m
          · exact hfs y m
          · rw [List.mem_singleton.mp m]
            exact hz
        · refine L16.go (G_mut hD sG'') ?_ ?_
          · obtain ⟨x, c, r, z1, z2⟩ := d''
            exact ⟨x, c, r, by rw [upd_ne nD.1.symm]; exact z1, z2⟩
          · rw [upd_ne nD.2.symm]
            exact L''.list
      · obtain ⟨fs, rfl, hfs, hfl, hfj, sG, L', eD⟩ := pv
        walk_at "r"
        refine i_lst (by show 1 ≤ sizeLine; decide) (fun q2 H17 hq2 s17 e17 => ?_)
        have L17 := L'.pure s17
        walk_at "r"
        refine i_cat (s17 _ _ eD) e17 (sz (by rw [List.length_map, List.length_singleton]; omega)) (fun fr H18 hfr s18 e18 => ?_)
        have L18 := L17.pure s18
        walk_at "r"
        rw [show fs.map V.int ++ [V.int e] = (fs ++ [e]).map V.int by rw [List.map_append]; rfl] at e18
        refine ⟨p, fr, n, e, fs, rfl, L18.way.same G_same, sl_of e18, hfs, by omega, fun q3 H19 hq3 s19 e19 => ?_⟩
        have L19 := L18.pure s19
        have e19' := s19 _ _ e18
        have hbl := bodyR_len (t := (n : Int)) (by omega) he0 he1 hfs
        walk_at "r"
        refine i_no (by intro z; cases z) ?_
        walk_at "r"
        refine ⟨p, q3, n, e, _, rfl, L19.way.same G_same, sl_of e19, bodyR_mem (by omega) fs, by omega, fun q4 H20 hq4 s20 e20 => ?_⟩
        have L20 := L19.pure s20
        have e20' := s20 _ _ e19'
        walk_at "r"
        refine i_neL (sl_of e20) (sl_of e20') ?_
        have efr : frameR (n : Int) e (bodyR (n : Int) e fs) = fs ++ [e] := by
          unfold frameR
          rw [rowR_bodyR (by omega) he0 he1 hfs]
        walk_at "r"
        refine i_nyes efr ?_
        walk_at "r"
        exact ⟨ks2, _, _, _, _, _, rfl, L20, lks2⟩
    · obtain ⟨ks, y7, y8, y9, y10, y11, rfl, L, hks⟩ := pv
      walk_at "r"
      have hkl := sl_of (K := K) L.list
      refine i_for hkl (fun i σ' H' => ∃ y7 y8 y9 y10 y11 y12 y13 y14 y15, σ' = [some (.ref a), some (.ref d), some (.int (n : Int)), some (.int e), some (.ref p), some (.ref pl), some (.ref k), y7, y8, y9, y10, y11, y12, y13, y14, y15, none] ∧ LawAt K H' d k p pl (n : Int) e ks)
        ⟨_, _, _, _, _, _, _, _, _, rfl, L⟩ (fun i σ' H' _ pv => ?_) (fun i x σ' H' hi pv => ?_) (fun σ' H' pv => ?_)
      · obtain ⟨_, _, _, _, _, _, _, _, _, _, L'⟩ := pv
        exact sl_of L'.list
      · obtain ⟨y7, y8, y9, y10, y11, y12, y13, y14, y15, rfl, L⟩ := pv
        obtain ⟨⟨T, b, ns⟩, hm, rfl⟩ := List.mem_map.mp (List.mem_of_getElem? hi)
        obtain ⟨hT, hb, hns, hl⟩ := L.kno.same G_same _ hm
        dsimp only at hT hb hns hl
        walk_at "r"
        refine ⟨p, b, n, e, ns, rfl, L.way.same G_same, hb, hns, hl, fun fr H7 _ s7 e7 => ?_⟩
        have L7 := L.pure s7
        have hb7 := s7.seq hb
        have hfl := rowR_len (t := (n : Int)) (by omega) (by omega) he0 he1 hns
        have e7' : H7 fr = some (.lst ((rowR (n : Int) e ns).map V.int ++ [.int e])) := by
          rw [e7]
          unfold frameR
          rw [List.map_append]
          rfl
        walk_at "r"
        refine i_slL (sl_of e7') (fun q1 H8 _ s8 e8 => ?_)
        rw [cut_butlast] at e8
        have L8 := L7.pure s8
        have hpl8 := G_same.seq L8.pla
        walk_at "r"
        refine i_lcL (F := fun v => match v with | .int x => some (.int (((plainL (n : Int) e).idxOf x : Nat) : Int)) | _ => none) (sl_of e8) (by rw [List.length_map]; omega) (fun v hv H9 s9 QN QY hN hY => ?_) (fun q2 H9 _ s9 e9 => ?_)
        · obtain ⟨x, hx, rfl⟩ := List.mem_map.mp hv
          have hpl9 := s9.seq hpl8
          walk_at "r"
          refine i_indexI hpl9 (rowR_mem (by omega) he0 he1 ns x hx) ?_
          exact hY _ rfl _ (Same.refl _)
        · rw [show ((rowR (n : Int) e ns).map V.int).filterMap (fun v => match v with | .int x => some (V.int (((plainL (n : Int) e).idxOf x : Nat) : Int)) | _ => none) = (digits (plainL (n : Int) e) (rowR (n : Int) e ns)).map fun d => V.int ((d : Nat) : Int) by
            unfold digits
            rw [List.map_map, List.filterMap_map]
            generalize rowR (n : Int) e ns = l
            induction l with
            | nil => rfl
            | cons y r ih =>
              rw [List.filterMap_cons, List.map_cons, ih]
              rfl] at e9
          have L9 := L8.pure s9
          have hb9 := s9.seq (s8.seq hb7)
          walk_at "r"
          rw [show (n : Int) - 1 = ((n - 1 : Nat) : Int) by omega]
          refine ⟨q2, _, n - 1, rfl, sl_of e9, by omega, by omega, fun H10 s10 => ?_⟩
          have hb10 := s10.seq hb9
          walk_at "r"
          refine ⟨b, digits (countL (n : Int)) ns, n, rfl, by rw [← body_digits hns]; exact hb10, by omega, by omega, fun H11 s11 => ?_⟩
          walk_at "r"
          refine i_nyes (by rw [frame_rank (by omega) he0 he1 hns]) ?_
          have L11 := (L9.pure s10).pure s11
          have hb11 := s11.seq hb10
          have hfr11 : SqL K H11 fr ((frameR (n : Int) e ns).map V.int) := s11.seq (s10.seq (s9.seq (s8.seq (sl_of e7))))
          have hk11 := sl_of (K := K) L11.list
          walk_at "r"
          refine i_for hk11 (fun i2 σ' H' => ∃ y13 y14 y15, σ' = [some (.ref a), some (.ref d), some (.int (n : Int)), some (.int e), some (.ref p), some (.ref pl), some (.ref k), y7, some (.ref b), y9, some (.ref fr), y11, some (.int ((ns.length : Nat) : Int)), y13, y14, y15, none] ∧ Same H11 H')
            ⟨_, _, _, rfl, Same.refl _⟩ (fun i2 σ' H' _ pv => ?_) (fun i2 x2 σ' H' hi2 pv => ?_) (fun σ' H' pv => ?_)
          · obtain ⟨_, _, _, _, sx⟩ := pv
            exact sx.seq hk11
          · obtain ⟨z13, z14, z15, rfl, sx⟩ := pv
            obtain ⟨⟨T2, b2, ns2⟩, hm2, rfl⟩ := List.mem_map.mp (List.mem_of_getElem? hi2)
            have Lx := L11.pure sx
            obtain ⟨hT2, hb2, hns2, hl2⟩ := Lx.kno.same G_same _ hm2
            dsimp only at hT2 hb2 hns2 hl2
            walk_at "r"
            refine ⟨p, b2, n, e, ns2, rfl, Lx.way.same G_same, hb2, hns2, hl2, fun fr2 H12 _ s12 e12 => ?_⟩
            have hfl2 := rowR_len (t := (n : Int)) (by omega) (by omega) he0 he1 hns2
            have bx := s12.seq (sx.seq hb11)
            have frx := s12.seq (sx.seq hfr11)
            have b2x := s12.seq hb2
            walk_at "r"
            refine i_tup (by show 2 ≤ sizeLine; decide) (fun t1 H13 _ s13 e13 => ?_)
            walk_at "r"
            refine i_tup (by show 2 ≤ sizeLine; decide) (fun t2 H14 _ s14 e14 => ?_)
            walk_at "r"
            refine i_ltP (st_of (s14 _ _ e13)) (s14.seq (s13.seq bx)) (st_of e14) (s14.seq (s13.seq b2x)) ?_
            have frx14 := s14.seq (s13.seq frx)
            have fr2x14 : SqL K H14 fr2 ((frameR (n : Int) e ns2).map V.int) := s14.seq (s13.seq (sl_of e12))
            walk_at "r"
            refine i_slL frx14 (fun q5 H15 _ s15 e15 => ?_)
            rw [show (frameR (n : Int) e ns).map V.int = (rowR (n : Int) e ns).map V.int ++ [.int e] by unfold frameR; rw [List.map_append]; rfl, cut_butlast] at e15
            walk_at "r"
            refine i_tup (by show 2 ≤ sizeLine; decide) (fun t3 H16 _ s16 e16 => ?_)
            have fr2x16 := s16.seq (s15.seq fr2x14)
            walk_at "r"
            refine i_slL fr2x16 (fun q6 H17 _ s17 e17 => ?_)
            rw [show (frameR (n : Int) e ns2).map V.int = (rowR (n : Int) e ns2).map V.int ++ [.int e] by unfold frameR; rw [List.map_append]; rfl, cut_butlast] at e17
            walk_at "r"
            refine i_tup (by show 2 ≤ sizeLine; decide) (fun t4 H18 _ s18 e18 => ?_)
            walk_at "r"
            refine i_ltP (st_of (s18 _ _ (s17 _ _ e16))) (sl_of (s18 _ _ (s17 _ _ (s16 _ _ e15)))) (st_of e18) (sl_of (s18 _ _ e17)) ?_
            have ho := order_same (n := n) (by omega) he0 he1 hns hns2
            unfold lessI at ho
            have lf : ∀ l : List Int, (frameR (n : Int) e l).length = (rowR (n : Int) e l).length + 1 := fun l => by
              unfold frameR
              rw [List.length_append, List.length_singleton]
            rw [lf, lf]
            walk_at "r"
            refine i_nyes ho ?_
            walk_at "r"
            exact ⟨_, _, _, rfl, sx.trans (s12.trans (s13.trans (s14.trans (s15.trans (s16.trans (s17.trans s18))))))⟩
          · obtain ⟨z13, z14, z15, rfl, sx⟩ := pv
            walk_at "r"
            exact ⟨_, _, _, _, _, _, _, _, _, rfl, L11.pure sx⟩
      · obtain ⟨y7, y8, y9, y10, y11, y12, y13, y14, y15, rfl, L⟩ := pv
        walk_at "r"
        exact q _
end
end Esc

namespace Esc
open PySem PySem.Spec PyProof.Rows L2
theorem dd_mk {K : PySem.W.Frag} {h : Heap} {mg : Str → Option Value} {x : Str} {st : Stmt} {ps : List Str} {f : Addr} {oc : Value} {od an : Option Addr} {sl : Array (Option Value)} {kV doc pm cdv ct : Value} (X : K.In h) (G : h.Ns mainGlobals mg)
    (a : PySem.W.nsIn K mainGlobals x = some (some (.ref f))) (l : K.lookup f = some ⟨oc, od, .func (PySem.W.fnOf x x (C8.fnArgs st) (C8.fnBody st) (C8.fnScope st) .none kV doc pm an cdv ct), sl⟩) (c : PySem.W.codeIn K cdv x = true) (k : PySem.W.keepIn K (.ref f) = true)
    (hb : ∀ (kV doc pm : Value) (an : Option Addr) (cdv ct : Value) (us : List Value), us.length = ps.length → bindArgs (PySem.W.fnOf x x (C8.fnArgs st) (C8.fnBody st) (C8.fnScope st) .none kV doc pm an cdv ct) ⟨us, []⟩ = pure (ps.zip us)) :
    ∃ fd, C8.Def K mg x st f fd ∧ Binds K fd ps [] :=
  ⟨_, ⟨⟨oc, od, .none, kV, doc, pm, an, cdv, ct, sl, rfl, l, c⟩, PySem.W.mg_of X G a, k⟩, C8.Fun.binds (F := ⟨oc, od, .none, kV, doc, pm, an, cdv, ct, sl, rfl, l, c⟩) rfl hb⟩
theorem kd_mk {K : PySem.W.Frag} {w : World} {a f : Addr} {x : Str} {es : Array DictEntry} {n : Nat} (l : K.lookup a = some ⟨.type "dict", none, .dict es n, #[]⟩) (kl : PySem.W.KeysLit w.params es.toList) (e : PySem.W.nsIn K a x = some (some (.ref f))) : KDct K w a x (.ref f) :=
  ⟨es, n, .ref f, l, kl, e, rfl⟩
theorem ki_mk {K : PySem.W.Frag} {w : World} {a : Addr} {x : Str} {i : Int} {u : Tok} {es : Array DictEntry} {n : Nat} (l : K.lookup a = some ⟨.type "dict", none, .dict es n, #[]⟩) (kl : PySem.W.KeysLit w.params es.toList) (e : PySem.W.nsIn K a x = some (some (.int i u))) : KDct K w a x (.int i) :=
  ⟨es, n, .int i u, l, kl, e, ⟨_, rfl⟩⟩
theorem gi_mk {K : PySem.W.Frag} {h : Heap} {mg : Str → Option Value} {x : Str} {i : Int} {t : Tok} (X : K.In h) (G : h.Ns mainGlobals mg) (a : PySem.W.nsIn K mainGlobals x = some (some (.int i t))) : GI mg x i := ⟨_, PySem.W.mg_of X G a, ⟨_, rfl⟩⟩
theorem gr_mk {K : PySem.W.Frag} {h : Heap} {mg : Str → Option Value} {x : Str} {b : Addr} (X : K.In h) (G : h.Ns mainGlobals mg) (a : PySem.W.nsIn K mainGlobals x = some (some (.ref b))) : GR mg x b := ⟨_, PySem.W.mg_of X G a, rfl⟩
/-- what the top leaves, all together -/
structure Top (K : PySem.W.Frag) (w : World) (mg : Str → Option Value) : Prop where
  Z : Blt mg
  d_rank_of : Dd K mg "rank_of" s_rank_of P_rank_of
  d_row_of : Dd K mg "row_of" s_row_of P_row_of
  d_need_way : Dd K mg "need_way" s_need_way P_need_way
  d_fault_of : Dd K mg "fault_of" s_fault_of P_fault_of
  d_unturned : Dd K mg "unturned" s_unturned P_unturned
  d_plain_signs : Dd K mg "plain_signs" s_plain_signs P_plain_signs
  d_first_unsigned : Dd K mg "first_unsigned" s_first_unsigned P_first_unsigned
  d_is_whole : Dd K mg "is_whole" s_is_whole P_is_whole
  d_is_top : Dd K mg "is_top" s_is_top P_is_top
  d_is_sign : Dd K mg "is_sign" s_is_sign P_is_sign
  d_is_plain : Dd K mg "is_plain" s_is_plain P_is_plain
  d_is_turning : Dd K mg "is_turning" s_is_turning P_is_turning
  d_codes_fault : Dd K mg "codes_fault" s_codes_fault P_codes_fault
  d_is_code : Dd K mg "is_code" s_is_code P_is_code
  d_stand_apart : Dd K mg "stand_apart" s_stand_apart P_stand_apart
  d_escapes_fault : Dd K mg "escapes_fault" s_escapes_fault P_escapes_fault
  d_counts_fault : Dd K mg "counts_fault" s_counts_fault P_counts_fault
  d_ranks_fault : Dd K mg "ranks_fault" s_ranks_fault P_ranks_fault
  d_framed : Dd K mg "framed" s_framed P_framed
  d_body_of : Dd K mg "body_of" s_body_of P_body_of
  d_need_body : Dd K mg "need_body" s_need_body P_need_body
  d_need_signs : Dd K mg "need_signs" s_need_signs P_need_signs
  d_top_of : Dd K mg "top_of" s_top_of P_top_of
  d_frame_of : Dd K mg "frame_of" s_frame_of P_frame_of
  d_exchanged : Dd K mg "exchanged" s_exchanged P_exchanged
  d_taken_out : Dd K mg "taken_out" s_taken_out P_taken_out
  d_by_codes : Dd K mg "by_codes" s_by_codes P_by_codes
  d_from_codes : Dd K mg "from_codes" s_from_codes P_from_codes
  d_by_escapes : Dd K mg "by_escapes" s_by_escapes P_by_escapes
  d_from_escapes : Dd K mg "from_escapes" s_from_escapes P_from_escapes
  d_by_counts : Dd K mg "by_counts" s_by_counts P_by_counts
  d_rows_between : Dd K mg "rows_between" s_rows_between P_rows_between
  d_grouped : Dd K mg "grouped" s_grouped P_grouped
  d_from_counts : Dd K mg "from_counts" s_from_counts P_from_counts
  d_by_ranks : Dd K mg "by_ranks" s_by_ranks P_by_ranks
  d_from_ranks : Dd K mg "from_ranks" s_from_ranks P_from_ranks
  d__law_dice : Dd K mg "_law_dice" s__law_dice P__law_dice
  d__law_off : Dd K mg "_law_off" s__law_off P__law_off
  d__law_plain : Dd K mg "_law_plain" s__law_plain P__law_plain
  d__law_size : Dd K mg "_law_size" s__law_size P__law_size
  d__law_body : Dd K mg "_law_body" s__law_body P__law_body
  d__law_number : Dd K mg "_law_number" s__law_number P__law_number
  d__law_list : Dd K mg "_law_list" s__law_list P__law_list
  LEAST_TOP : GI mg "LEAST_TOP" 3
  MOST_TOP : GI mg "MOST_TOP" 16
  LONGEST_CODE : GI mg "LONGEST_CODE" 4
  MOST_TURNED : GI mg "MOST_TURNED" 3
  MOST_BODY : GI mg "MOST_BODY" 60
  MOST_SIGNS : GI mg "MOST_SIGNS" 400
  LONGEST_FRAME : GI mg "LONGEST_FRAME" 241
  tb_FAULTS : ∃ p, GR mg "FAULTS" p ∧ (∃ f, mg "codes_fault" = some (.ref f) ∧ KDct K w p "codes" (.ref f)) ∧ (∃ f, mg "escapes_fault" = some (.ref f) ∧ KDct K w p "escapes" (.ref f)) ∧ (∃ f, mg "counts_fault" = some (.ref f) ∧ KDct K w p "counts" (.ref f)) ∧ (∃ f, mg "ranks_fault" = some (.ref f) ∧ KDct K w p "ranks" (.ref f))
  tb_FRAMERS : ∃ p, GR mg "FRAMERS" p ∧ (∃ f, mg "by_codes" = some (.ref f) ∧ KDct K w p "codes" (.ref f)) ∧ (∃ f, mg "by_escapes" = some (.ref f) ∧ KDct K w p "escapes" (.ref f)) ∧ (∃ f, mg "by_counts" = some (.ref f) ∧ KDct K w p "counts" (.ref f)) ∧ (∃ f, mg "by_ranks" = some (.ref f) ∧ KDct K w p "ranks" (.ref f))
  tb_READERS : ∃ p, GR mg "READERS" p ∧ (∃ f, mg "from_codes" = some (.ref f) ∧ KDct K w p "codes" (.ref f)) ∧ (∃ f, mg "from_escapes" = some (.ref f) ∧ KDct K w p "escapes" (.ref f)) ∧ (∃ f, mg "from_counts" = some (.ref f) ∧ KDct K w p "counts" (.ref f)) ∧ (∃ f, mg "from_ranks" = some (.ref f) ∧ KDct K w p "ranks" (.ref f))
set_option maxHeartbeats 0 in
theorem lawT {P : Program} {w : World} {K : PySem.W.Frag} {mg : Str → Option Value} {base : Heap} (T : Top K w mg) {f : Addr} {fd : FuncData} (F : C8.Def K mg "law" s_law f fd) : FnOk P w K mg base C8.CX0 9 f fd P_law (spLaw K) := by
  obtain ⟨p_FAULTS, g_FAULTS, ⟨f_FAULTS_codes, m_FAULTS_codes, n_FAULTS_codes⟩, ⟨f_FAULTS_escapes, m_FAULTS_escapes, n_FAULTS_escapes⟩, ⟨f_FAULTS_counts, m_FAULTS_counts, n_FAULTS_counts⟩, ⟨f_FAULTS_ranks, m_FAULTS_ranks, n_FAULTS_ranks⟩⟩ := T.tb_FAULTS
  obtain ⟨p_FRAMERS, g_FRAMERS, ⟨f_FRAMERS_codes, m_FRAMERS_codes, n_FRAMERS_codes⟩, ⟨f_FRAMERS_escapes, m_FRAMERS_escapes, n_FRAMERS_escapes⟩, ⟨f_FRAMERS_counts, m_FRAMERS_counts, n_FRAMERS_counts⟩, ⟨f_FRAMERS_ranks, m_FRAMERS_ranks, n_FRAMERS_ranks⟩⟩ := T.tb_FRAMERS
  obtain ⟨p_READERS, g_READERS, ⟨f_READERS_codes, m_READERS_codes, n_READERS_codes⟩, ⟨f_READERS_escapes, m_READERS_escapes, n_READERS_escapes⟩, ⟨f_READERS_counts, m_READERS_counts, n_READERS_counts⟩, ⟨f_READERS_ranks, m_READERS_ranks, n_READERS_ranks⟩⟩ := T.tb_READERS
  have h0 : C8.Cal P w K mg base 4 "is_turning" spNever [] := c_never T.d_is_turning
  have h1 : C8.Cal P w K mg base 1 "_law_off" spOff [] := c_off T.Z T.d__law_off
  have h2 : C8.Cal P w K mg base 1 "is_whole" spWholeI [] := c_is_whole T.Z T.d_is_whole
  have h3 : C8.Cal P w K mg base 2 "is_sign" spSignI [] := c_is_sign T.Z h2 T.d_is_sign
  have h4 : C8.Cal P w K mg base 2 "is_top" spTopI [] := c_is_top T.Z h2 T.LEAST_TOP T.MOST_TOP T.d_is_top
  have h5 : C8.Cal P w K mg base 1 "plain_signs" spPlain [] := c_plain_signs T.Z T.d_plain_signs
  have h6 : C8.Cal P w K mg base 3 "first_unsigned" (spFirst K) [] := c_first_unsigned T.Z h3 T.d_first_unsigned
  have h7 : C8.Cal P w K mg base 1 "ranks_fault" spRanksFault [] := c_ranks_fault T.d_ranks_fault
  have h8 : C8.Cal P w K mg base 1 "rank_of" (spRankOf K) [] := c_rank_of T.Z T.d_rank_of
  have h9 : C8.Cal P w K mg base 1 "row_of" (spRowOf K) [] := c_row_of T.Z T.d_row_of
  have h10 : C8.Cal P w K mg base 1 "unturned" (spUnturned K) [] := c_unturned T.d_unturned
  have h11 : C8.Cal P w K mg base 1 "_law_dice" (spDice K) [] := c_dice T.Z T.d__law_dice
  have h12 : C8.Cal P w K mg base 1 "_law_plain" spPlain [] := c_law_plain T.Z T.d__law_plain
  have h13 : C8.Cal P w K mg base 2 "_law_size" spSize [] := c_law_size h1 T.d__law_size
  have h14 : C8.Cal P w K mg base 2 "_law_body" spBody [] := c_law_body T.Z h1 T.d__law_body
  have h15 : C8.Cal P w K mg base 1 "_law_number" (spNumber K) [] := c_law_number T.d__law_number
  have h16 : C8.Cal P w K mg base 1 "_law_list" spList [] := c_law_list T.Z T.d__law_list
  have h17 : C8.Cal P w K mg base 5 "fault_of" (spNeed K) [] := c_fault_of T.Z m_FAULTS_ranks T.MOST_TURNED g_FAULTS n_FAULTS_ranks h7 h10 h4 h3 h0 T.d_fault_of
  have h18 : C8.Cal P w K mg base 6 "need_way" (spNeed K) [] := c_need_way h17 T.d_need_way
  have h19 : C8.Cal P w K mg base 2 "top_of" (spTop K) [] := c_top_of h10 T.d_top_of
  have h20 : C8.Cal P w K mg base 4 "need_body" (spNeedBody K) [] := c_need_body T.Z T.MOST_BODY h19 h6 T.d_need_body
  have h21 : C8.Cal P w K mg base 4 "need_signs" (spNeedSigns K) [] := c_need_signs T.Z T.MOST_SIGNS h19 h6 T.d_need_signs
  have h22 : C8.Cal P w K mg base 2 "by_ranks" (spByRanks K) [] := c_by_ranks T.Z h9 h8 h5 T.d_by_ranks
  have h23 : C8.Cal P w K mg base 2 "from_ranks" (spFromRanks K) [] := c_from_ranks T.Z h9 h8 h5 T.d_from_ranks
  have h24 : C8.Cal P w K mg base 1 "exchanged" (spExch0 K) [] := c_exchanged T.d_exchanged
  have h25 : C8.Cal P w K mg base 3 "frame_of" (spFrame K) [] := c_frame_of m_FRAMERS_ranks g_FRAMERS n_FRAMERS_ranks h22 h10 h24 T.d_frame_of
  have h26 : C8.Cal P w K mg base 4 "taken_out" (spTaken K) [] := c_taken_out T.Z m_READERS_ranks g_READERS n_READERS_ranks h23 T.MOST_BODY T.LONGEST_FRAME h25 h10 T.d_taken_out
  have h27 : C8.Cal P w K mg base 7 "framed" (spFrame K) [] := c_framed h18 h20 h25 T.d_framed
  have h28 : C8.Cal P w K mg base 7 "body_of" (spTaken K) [] := c_body_of h18 h21 h26 T.d_body_of
  exact c_law T.Z h11 h1 h12 h13 h14 h15 h16 h27 h28 F
theorem law_mk {l : PySem.W.OpenLaw} {w : World} {K : PySem.W.Frag} {h : Heap} {mg : Str → Option Value} {fa f : Addr} {oc : Value} {od an : Option Addr} {sl : Array (Option Value)} {kV doc pm cdv ct : Value} (X : K.In h) (G : h.Ns mainGlobals mg) (hfa : mg "law" = some (.ref fa))
    (a : PySem.W.nsIn K mainGlobals "law" = some (some (.ref f))) (lk : K.lookup f = some ⟨oc, od, .func (PySem.W.fnOf "law" "law" (C8.fnArgs s_law) (C8.fnBody s_law) (C8.fnScope s_law) .none kV doc pm an cdv ct), sl⟩) (c : PySem.W.codeIn K cdv "law" = true) (k : PySem.W.keepIn K (.ref f) = true)
    (T : Top K w mg) : ∃ fd : FuncData, (∀ (s : Shared) (v : Value), BindsTo s fd ⟨[v], []⟩ [("_law_script", v)]) ∧ ∀ base : Heap, K.In base → base.Ns mainGlobals mg → FnOk l.prog w K mg base C8.CX0 9 fa fd ["_law_script"] (spLaw K) := by
  have e := hfa.symm.trans (PySem.W.mg_of X G a)
  cases e
  exact ⟨PySem.W.fnOf "law" "law" (C8.fnArgs s_law) (C8.fnBody s_law) (C8.fnScope s_law) .none kV doc pm an cdv ct, fun s v => .of_eq rfl, fun base _ _ => lawT T ⟨⟨oc, od, .none, kV, doc, pm, an, cdv, ct, sl, rfl, lk, c⟩, hfa, k⟩⟩
set_option maxHeartbeats 0 in
theorem all_mk {l : PySem.W.OpenLaw} {w : World} {K : PySem.W.Frag} {h : Heap} {mg : Str → Option Value} {fa : Addr} (X : K.In h) (G : h.Ns mainGlobals mg) (hfa : mg "law" = some (.ref fa))
    {f_rank_of : Addr} {oc_rank_of : Value} {od_rank_of an_rank_of : Option Addr} {sl_rank_of : Array (Option Value)} {kV_rank_of dc_rank_of pm_rank_of cd_rank_of ct_rank_of : Value}
    {f_row_of : Addr} {oc_row_of : Value} {od_row_of an_row_of : Option Addr} {sl_row_of : Array (Option Value)} {kV_row_of dc_row_of pm_row_of cd_row_of ct_row_of : Value}
    {f_need_way : Addr} {oc_need_way : Value} {od_need_way an_need_way : Option Addr} {sl_need_way : Array (Option Value)} {kV_need_way dc_need_way pm_need_way cd_need_way ct_need_way : Value}
    {f_fault_of : Addr} {oc_fault_of : Value} {od_fault_of an_fault_of : Option Addr} {sl_fault_of : Array (Option Value)} {kV_fault_of dc_fault_of pm_fault_of cd_fault_of ct_fault_of : Value}
    {f_unturned : Addr} {oc_unturned : Value} {od_unturned an_unturned : Option Addr} {sl_unturned : Array (Option Value)} {kV_unturned dc_unturned pm_unturned cd_unturned ct_unturned : Value}
    {f_plain_signs : Addr} {oc_plain_signs : Value} {od_plain_signs an_plain_signs : Option Addr} {sl_plain_signs : Array (Option Value)} {kV_plain_signs dc_plain_signs pm_plain_signs cd_plain_signs ct_plain_signs : Value}
    {f_first_unsigned : Addr} {oc_first_unsigned : Value} {od_first_unsigned an_first_unsigned : Option Addr} {sl_first_unsigned : Array (Option Value)} {kV_first_unsigned dc_first_unsigned pm_first_unsigned cd_first_unsigned ct_first_unsigned : Value}
    {f_is_whole : Addr} {oc_is_whole : Value} {od_is_whole an_is_whole : Option Addr} {sl_is_whole : Array (Option Value)} {kV_is_whole dc_is_whole pm_is_whole cd_is_whole ct_is_whole : Value}
    {f_is_top : Addr} {oc_is_top : Value} {od_is_top an_is_top : Option Addr} {sl_is_top : Array (Option Value)} {kV_is_top dc_is_top pm_is_top cd_is_top ct_is_top : Value}
    {f_is_sign : Addr} {oc_is_sign : Value} {od_is_sign an_is_sign : Option Addr} {sl_is_sign : Array (Option Value)} {kV_is_sign dc_is_sign pm_is_sign cd_is_sign ct_is_sign : Value}
    {f_is_plain : Addr} {oc_is_plain : Value} {od_is_plain an_is_plain : Option Addr} {sl_is_plain : Array (Option Value)} {kV_is_plain dc_is_plain pm_is_plain cd_is_plain ct_is_plain : Value}
    {f_is_turning : Addr} {oc_is_turning : Value} {od_is_turning an_is_turning : Option Addr} {sl_is_turning : Array (Option Value)} {kV_is_turning dc_is_turning pm_is_turning cd_is_turning ct_is_turning : Value}
    {f_codes_fault : Addr} {oc_codes_fault : Value} {od_codes_fault an_codes_fault : Option Addr} {sl_codes_fault : Array (Option Value)} {kV_codes_fault dc_codes_fault pm_codes_fault cd_codes_fault ct_codes_fault : Value}
    {f_is_code : Addr} {oc_is_code : Value} {od_is_code an_is_code : Option Addr} {sl_is_code : Array (Option Value)} {kV_is_code dc_is_code pm_is_code cd_is_code ct_is_code : Value}
    {f_stand_apart : Addr} {oc_stand_apart : Value} {od_stand_apart an_stand_apart : Option Addr} {sl_stand_apart : Array (Option Value)} {kV_stand_apart dc_stand_apart pm_stand_apart cd_stand_apart ct_stand_apart : Value}
    {f_escapes_fault : Addr} {oc_escapes_fault : Value} {od_escapes_fault an_escapes_fault : Option Addr} {sl_escapes_fault : Array (Option Value)} {kV_escapes_fault dc_escapes_fault pm_escapes_fault cd_escapes_fault ct_escapes_fault : Value}
    {f_counts_fault : Addr} {oc_counts_fault : Value} {od_counts_fault an_counts_fault : Option Addr} {sl_counts_fault : Array (Option Value)} {kV_counts_fault dc_counts_fault pm_counts_fault cd_counts_fault ct_counts_fault : Value}
    {f_ranks_fault : Addr} {oc_ranks_fault : Value} {od_ranks_fault an_ranks_fault : Option Addr} {sl_ranks_fault : Array (Option Value)} {kV_ranks_fault dc_ranks_fault pm_ranks_fault cd_ranks_fault ct_ranks_fault : Value}
    {f_framed : Addr} {oc_framed : Value} {od_framed an_framed : Option Addr} {sl_framed : Array (Option Value)} {kV_framed dc_framed pm_framed cd_framed ct_framed : Value}
    {f_body_of : Addr} {oc_body_of : Value} {od_body_of an_body_of : Option Addr} {sl_body_of : Array (Option Value)} {kV_body_of dc_body_of pm_body_of cd_body_of ct_body_of : Value}
    {f_need_body : Addr} {oc_need_body : Value} {od_need_body an_need_body : Option Addr} {sl_need_body : Array (Option Value)} {kV_need_body dc_need_body pm_need_body cd_need_body ct_need_body : Value}
    {f_need_signs : Addr} {oc_need_signs : Value} {od_need_signs an_need_signs : Option Addr} {sl_need_signs : Array (Option Value)} {kV_need_signs dc_need_signs pm_need_signs cd_need_signs ct_need_signs : Value}
    {f_top_of : Addr} {oc_top_of : Value} {od_top_of an_top_of : Option Addr} {sl_top_of : Array (Option Value)} {kV_top_of dc_top_of pm_top_of cd_top_of ct_top_of : Value}
    {f_frame_of : Addr} {oc_frame_of : Value} {od_frame_of an_frame_of : Option Addr} {sl_frame_of : Array (Option Value)} {kV_frame_of dc_frame_of pm_frame_of cd_frame_of ct_frame_of : Value}
    {f_exchanged : Addr} {oc_exchanged : Value} {od_exchanged an_exchanged : Option Addr} {sl_exchanged : Array (Option Value)} {kV_exchanged dc_exchanged pm_exchanged cd_exchanged ct_exchanged : Value}
    {f_taken_out : Addr} {oc_taken_out : Value} {od_taken_out an_taken_out : Option Addr} {sl_taken_out : Array (Option Value)} {kV_taken_out dc_taken_out pm_taken_out cd_taken_out ct_taken_out : Value}
    {f_by_codes : Addr} {oc_by_codes : Value} {od_by_codes an_by_codes : Option Addr} {sl_by_codes : Array (Option Value)} {kV_by_codes dc_by_codes pm_by_codes cd_by_codes ct_by_codes : Value}
    {f_from_codes : Addr} {oc_from_codes : Value} {od_from_codes an_from_codes : Option Addr} {sl_from_codes : Array (Option Value)} {kV_from_codes dc_from_codes pm_from_codes cd_from_codes ct_from_codes : Value}
    {f_by_escapes : Addr} {oc_by_escapes : Value} {od_by_escapes an_by_escapes : Option Addr} {sl_by_escapes : Array (Option Value)} {kV_by_escapes dc_by_escapes pm_by_escapes cd_by_escapes ct_by_escapes : Value}
    {f_from_escapes : Addr} {oc_from_escapes : Value} {od_from_escapes an_from_escapes : Option Addr} {sl_from_escapes : Array (Option Value)} {kV_from_escapes dc_from_escapes pm_from_escapes cd_from_escapes ct_from_escapes : Value}
    {f_by_counts : Addr} {oc_by_counts : Value} {od_by_counts an_by_counts : Option Addr} {sl_by_counts : Array (Option Value)} {kV_by_counts dc_by_counts pm_by_counts cd_by_counts ct_by_counts : Value}
    {f_rows_between : Addr} {oc_rows_between : Value} {od_rows_between an_rows_between : Option Addr} {sl_rows_between : Array (Option Value)} {kV_rows_between dc_rows_between pm_rows_between cd_rows_between ct_rows_between : Value}
    {f_grouped : Addr} {oc_grouped : Value} {od_grouped an_grouped : Option Addr} {sl_grouped : Array (Option Value)} {kV_grouped dc_grouped pm_grouped cd_grouped ct_grouped : Value}
    {f_from_counts : Addr} {oc_from_counts : Value} {od_from_counts an_from_counts : Option Addr} {sl_from_counts : Array (Option Value)} {kV_from_counts dc_from_counts pm_from_counts cd_from_counts ct_from_counts : Value}
    {f_by_ranks : Addr} {oc_by_ranks : Value} {od_by_ranks an_by_ranks : Option Addr} {sl_by_ranks : Array (Option Value)} {kV_by_ranks dc_by_ranks pm_by_ranks cd_by_ranks ct_by_ranks : Value}
    {f_from_ranks : Addr} {oc_from_ranks : Value} {od_from_ranks an_from_ranks : Option Addr} {sl_from_ranks : Array (Option Value)} {kV_from_ranks dc_from_ranks pm_from_ranks cd_from_ranks ct_from_ranks : Value}
    {f__law_dice : Addr} {oc__law_dice : Value} {od__law_dice an__law_dice : Option Addr} {sl__law_dice : Array (Option Value)} {kV__law_dice dc__law_dice pm__law_dice cd__law_dice ct__law_dice : Value}
    {f__law_off : Addr} {oc__law_off : Value} {od__law_off an__law_off : Option Addr} {sl__law_off : Array (Option Value)} {kV__law_off dc__law_off pm__law_off cd__law_off ct__law_off : Value}
    {f__law_plain : Addr} {oc__law_plain : Value} {od__law_plain an__law_plain : Option Addr} {sl__law_plain : Array (Option Value)} {kV__law_plain dc__law_plain pm__law_plain cd__law_plain ct__law_plain : Value}
    {f__law_size : Addr} {oc__law_size : Value} {od__law_size an__law_size : Option Addr} {sl__law_size : Array (Option Value)} {kV__law_size dc__law_size pm__law_size cd__law_size ct__law_size : Value}
    {f__law_body : Addr} {oc__law_body : Value} {od__law_body an__law_body : Option Addr} {sl__law_body : Array (Option Value)} {kV__law_body dc__law_body pm__law_body cd__law_body ct__law_body : Value}
    {f__law_number : Addr} {oc__law_number : Value} {od__law_number an__law_number : Option Addr} {sl__law_number : Array (Option Value)} {kV__law_number dc__law_number pm__law_number cd__law_number ct__law_number : Value}
    {f__law_list : Addr} {oc__law_list : Value} {od__law_list an__law_list : Option Addr} {sl__law_list : Array (Option Value)} {kV__law_list dc__law_list pm__law_list cd__law_list ct__law_list : Value}
    {f_law : Addr} {oc_law : Value} {od_law an_law : Option Addr} {sl_law : Array (Option Value)} {kV_law dc_law pm_law cd_law ct_law : Value}
    {t_LEAST_TOP : Tok}
    {t_MOST_TOP : Tok}
    {t_LONGEST_CODE : Tok}
    {t_MOST_TURNED : Tok}
    {t_MOST_BODY : Tok}
    {t_MOST_SIGNS : Tok}
    {t_LONGEST_FRAME : Tok}
    {p_FAULTS : Addr} {es_FAULTS : Array DictEntry} {n_FAULTS : Nat}
    {p_FRAMERS : Addr} {es_FRAMERS : Array DictEntry} {n_FRAMERS : Nat}
    {p_READERS : Addr} {es_READERS : Array DictEntry} {n_READERS : Nat}
    (z_abs : PySem.W.nsIn K mainGlobals "abs" = some none)
    (z_all : PySem.W.nsIn K mainGlobals "all" = some none)
    (z_enumerate : PySem.W.nsIn K mainGlobals "enumerate" = some none)
    (z_int : PySem.W.nsIn K mainGlobals "int" = some none)
    (z_len : PySem.W.nsIn K mainGlobals "len" = some none)
    (z_list : PySem.W.nsIn K mainGlobals "list" = some none)
    (z_min : PySem.W.nsIn K mainGlobals "min" = some none)
    (z_range : PySem.W.nsIn K mainGlobals "range" = some none)
    (z_reversed : PySem.W.nsIn K mainGlobals "reversed" = some none)
    (z_set : PySem.W.nsIn K mainGlobals "set" = some none)
    (z_sorted : PySem.W.nsIn K mainGlobals "sorted" = some none)
    (z_type : PySem.W.nsIn K mainGlobals "type" = some none)
    (a_rank_of : PySem.W.nsIn K mainGlobals "rank_of" = some (some (.ref f_rank_of))) (l_rank_of : K.lookup f_rank_of = some ⟨oc_rank_of, od_rank_of, .func (PySem.W.fnOf "rank_of" "rank_of" (C8.fnArgs s_rank_of) (C8.fnBody s_rank_of) (C8.fnScope s_rank_of) .none kV_rank_of dc_rank_of pm_rank_of an_rank_of cd_rank_of ct_rank_of), sl_rank_of⟩) (c_rank_of : PySem.W.codeIn K cd_rank_of "rank_of" = true) (k_rank_of : PySem.W.keepIn K (.ref f_rank_of) = true)
    (a_row_of : PySem.W.nsIn K mainGlobals "row_of" = some (some (.ref f_row_of))) (l_row_of : K.lookup f_row_of = some ⟨oc_row_of, od_row_of, .func (PySem.W.fnOf "row_of" "row_of" (C8.fnArgs s_row_of) (C8.fnBody s_row_of) (C8.fnScope s_row_of) .none kV_row_of dc_row_of pm_row_of an_row_of cd_row_of ct_row_of), sl_row_of⟩) (c_row_of : PySem.W.codeIn K cd_row_of "row_of" = true) (k_row_of : PySem.W.keepIn K (.ref f_row_of) = true)
    (a_need_way : PySem.W.nsIn K mainGlobals "need_way" = some (some (.ref f_need_way))) (l_need_way : K.lookup f_need_way = some ⟨oc_need_way, od_need_way, .func (PySem.W.fnOf "need_way" "need_way" (C8.fnArgs s_need_way) (C8.fnBody s_need_way) (C8.fnScope s_need_way) .none kV_need_way dc_need_way pm_need_way an_need_way cd_need_way ct_need_way), sl_need_way⟩) (c_need_way : PySem.W.codeIn K cd_need_way "need_way" = true) (k_need_way : PySem.W.keepIn K (.ref f_need_way) = true)
    (a_fault_of : PySem.W.nsIn K mainGlobals "fault_of" = some (some (.ref f_fault_of))) (l_fault_of : K.lookup f_fault_of = some ⟨oc_fault_of, od_fault_of, .func (PySem.W.fnOf "fault_of" "fault_of" (C8.fnArgs s_fault_of) (C8.fnBody s_fault_of) (C8.fnScope s_fault_of) .none kV_fault_of dc_fault_of pm_fault_of an_fault_of cd_fault_of ct_fault_of), sl_fault_of⟩) (c_fault_of : PySem.W.codeIn K cd_fault_of "fault_of" = true) (k_fault_of : PySem.W.keepIn K (.ref f_fault_of) = true)
    (a_unturned : PySem.W.nsIn K mainGlobals "unturned" = some (some (.ref f_unturned))) (l_unturned : K.lookup f_unturned = some ⟨oc_unturned, od_unturned, .func (PySem.W.fnOf "unturned" "unturned" (C8.fnArgs s_unturned) (C8.fnBody s_unturned) (C8.fnScope s_unturned) .none kV_unturned dc_unturned pm_unturned an_unturned cd_unturned ct_unturned), sl_unturned⟩) (c_unturned : PySem.W.codeIn K cd_unturned "unturned" = true) (k_unturned : PySem.W.keepIn K (.ref f_unturned) = true)
    (a_plain_signs : PySem.W.nsIn K mainGlobals "plain_signs" = some (some (.ref f_plain_signs))) (l_plain_signs : K.lookup f_plain_signs = some ⟨oc_plain_signs, od_plain_signs, .func (PySem.W.fnOf "plain_signs" "plain_signs" (C8.fnArgs s_plain_signs) (C8.fnBody s_plain_signs) (C8.fnScope s_plain_signs) .none kV_plain_signs dc_plain_signs pm_plain_signs an_plain_signs cd_plain_signs ct_plain_signs), sl_plain_signs⟩) (c_plain_signs : PySem.W.codeIn K cd_plain_signs "plain_signs" = true) (k_plain_signs : PySem.W.keepIn K (.ref f_plain_signs) = true)
    (a_first_unsigned : PySem.W.nsIn K mainGlobals "first_unsigned" = some (some (.ref f_first_unsigned))) (l_first_unsigned : K.lookup f_first_unsigned = some ⟨oc_first_unsigned, od_first_unsigned, .func (PySem.W.fnOf "first_unsigned" "first_unsigned" (C8.fnArgs s_first_unsigned) (C8.fnBody s_first_unsigned) (C8.fnScope s_first_unsigned) .none kV_first_unsigned dc_first_unsigned pm_first_unsigned an_first_unsigned cd_first_unsigned ct_first_unsigned), sl_first_unsigned⟩) (c_first_unsigned : PySem.W.codeIn K cd_first_unsigned "first_unsigned" = true) (k_first_unsigned : PySem.W.keepIn K (.ref f_first_unsigned) = true)
    (a_is_whole : PySem.W.nsIn K mainGlobals "is_whole" = some (some (.ref f_is_whole))) (l_is_whole : K.lookup f_is_whole = some ⟨oc_is_whole, od_is_whole, .func (PySem.W.fnOf "is_whole" "is_whole" (C8.fnArgs s_is_whole) (C8.fnBody s_is_whole) (C8.fnScope s_is_whole) .none kV_is_whole dc_is_whole pm_is_whole an_is_whole cd_is_whole ct_is_whole), sl_is_whole⟩) (c_is_whole : PySem.W.codeIn K cd_is_whole "is_whole" = true) (k_is_whole : PySem.W.keepIn K (.ref f_is_whole) = true)
    (a_is_top : PySem.W.nsIn K mainGlobals "is_top" = some (some (.ref f_is_top))) (l_is_top : K.lookup f_is_top = some ⟨oc_is_top, od_is_top, .func (PySem.W.fnOf "is_top" "is_top" (C8.fnArgs s_is_top) (C8.fnBody s_is_top) (C8.fnScope s_is_top) .none kV_is_top dc_is_top pm_is_top an_is_top cd_is_top ct_is_top), sl_is_top⟩) (c_is_top : PySem.W.codeIn K cd_is_top "is_top" = true) (k_is_top : PySem.W.keepIn K (.ref f_is_top) = true)
    (a_is_sign : PySem.W.nsIn K mainGlobals "is_sign" = some (some (.ref f_is_sign))) (l_is_sign : K.lookup f_is_sign = some ⟨oc_is_sign, od_is_sign, .func (PySem.W.fnOf "is_sign" "is_sign" (C8.fnArgs s_is_sign) (C8.fnBody s_is_sign) (C8.fnScope s_is_sign) .none kV_is_sign dc_is_sign pm_is_sign an_is_sign cd_is_sign ct_is_sign), sl_is_sign⟩) (c_is_sign : PySem.W.codeIn K cd_is_sign "is_sign" = true) (k_is_sign : PySem.W.keepIn K (.ref f_is_sign) = true)
    (a_is_plain : PySem.W.nsIn K mainGlobals "is_plain" = some (some (.ref f_is_plain))) (l_is_plain : K.lookup f_is_plain = some ⟨oc_is_plain, od_is_plain, .func (PySem.W.fnOf "is_plain" "is_plain" (C8.fnArgs s_is_plain) (C8.fnBody s_is_plain) (C8.fnScope s_is_plain) .none kV_is_plain dc_is_plain pm_is_plain an_is_plain cd_is_plain ct_is_plain), sl_is_plain⟩) (c_is_plain : PySem.W.codeIn K cd_is_plain "is_plain" = true) (k_is_plain : PySem.W.keepIn K (.ref f_is_plain) = true)
    (a_is_turning : PySem.W.nsIn K mainGlobals "is_turning" = some (some (.ref f_is_turning))) (l_is_turning : K.lookup f_is_turning = some ⟨oc_is_turning, od_is_turning, .func (PySem.W.fnOf "is_turning" "is_turning" (C8.fnArgs s_is_turning) (C8.fnBody s_is_turning) (C8.fnScope s_is_turning) .none kV_is_turning dc_is_turning pm_is_turning an_is_turning cd_is_turning ct_is_turning), sl_is_turning⟩) (c_is_turning : PySem.W.codeIn K cd_is_turning "is_turning" = true) (k_is_turning : PySem.W.keepIn K (.ref f_is_turning) = true)
    (a_codes_fault : PySem.W.nsIn K mainGlobals "codes_fault" = some (some (.ref f_codes_fault))) (l_codes_fault : K.lookup f_codes_fault = some ⟨oc_codes_fault, od_codes_fault, .func (PySem.W.fnOf "codes_fault" "codes_fault" (C8.fnArgs s_codes_fault) (C8.fnBody s_codes_fault) (C8.fnScope s_codes_fault) .none kV_codes_fault dc_codes_fault pm_codes_fault an_codes_fault cd_codes_fault ct_codes_fault), sl_codes_fault⟩) (c_codes_fault : PySem.W.codeIn K cd_codes_fault "codes_fault" = true) (k_codes_fault : PySem.W.keepIn K (.ref f_codes_fault) = true)
    (a_is_code : PySem.W.nsIn K mainGlobals "is_code" = some (some (.ref f_is_code))) (l_is_code : K.lookup f_is_code = some ⟨oc_is_code, od_is_code, .func (PySem.W.fnOf "is_code" "is_code" (C8.fnArgs s_is_code) (C8.fnBody s_is_code) (C8.fnScope s_is_code) .none kV_is_code dc_is_code pm_is_code an_is_code cd_is_code ct_is_code), sl_is_code⟩) (c_is_code : PySem.W.codeIn K cd_is_code "is_code" = true) (k_is_code : PySem.W.keepIn K (.ref f_is_code) = true)
    (a_stand_apart : PySem.W.nsIn K mainGlobals "stand_apart" = some (some (.ref f_stand_apart))) (l_stand_apart : K.lookup f_stand_apart = some ⟨oc_stand_apart, od_stand_apart, .func (PySem.W.fnOf "stand_apart" "stand_apart" (C8.fnArgs s_stand_apart) (C8.fnBody s_stand_apart) (C8.fnScope s_stand_apart) .none kV_stand_apart dc_stand_apart pm_stand_apart an_stand_apart cd_stand_apart ct_stand_apart), sl_stand_apart⟩) (c_stand_apart : PySem.W.codeIn K cd_stand_apart "stand_apart" = true) (k_stand_apart : PySem.W.keepIn K (.ref f_stand_apart) = true)
    (a_escapes_fault : PySem.W.nsIn K mainGlobals "escapes_fault" = some (some (.ref f_escapes_fault))) (l_escapes_fault : K.lookup f_escapes_fault = some ⟨oc_escapes_fault, od_escapes_fault, .func (PySem.W.fnOf "escapes_fault" "escapes_fault" (C8.fnArgs s_escapes_fault) (C8.fnBody s_escapes_fault) (C8.fnScope s_escapes_fault) .none kV_escapes_fault dc_escapes_fault pm_escapes_fault an_escapes_fault cd_escapes_fault ct_escapes_fault), sl_escapes_fault⟩) (c_escapes_fault : PySem.W.codeIn K cd_escapes_fault "escapes_fault" = true) (k_escapes_fault : PySem.W.keepIn K (.ref f_escapes_fault) = true)
    (a_counts_fault : PySem.W.nsIn K mainGlobals "counts_fault" = some (some (.ref f_counts_fault))) (l_counts_fault : K.lookup f_counts_fault = some ⟨oc_counts_fault, od_counts_fault, .func (PySem.W.fnOf "counts_fault" "counts_fault" (C8.fnArgs s_counts_fault) (C8.fnBody s_counts_fault) (C8.fnScope s_counts_fault) .none kV_counts_fault dc_counts_fault pm_counts_fault an_counts_fault cd_counts_fault ct_counts_fault), sl_counts_fault⟩) (c_counts_fault : PySem.W.codeIn K cd_counts_fault "counts_fault" = true) (k_counts_fault : PySem.W.keepIn K (.ref f_counts_fault) = true)
    (a_ranks_fault : PySem.W.nsIn K mainGlobals "ranks_fault" = some (some (.ref f_ranks_fault))) (l_ranks_fault : K.lookup f_ranks_fault = some ⟨oc_ranks_fault, od_ranks_fault, .func (PySem.W.fnOf "ranks_fault" "ranks_fault" (C8.fnArgs s_ranks_fault) (C8.fnBody s_ranks_fault) (C8.fnScope s_ranks_fault) .none kV_ranks_fault dc_ranks_fault pm_ranks_fault an_ranks_fault cd_ranks_fault ct_ranks_fault), sl_ranks_fault⟩) (c_ranks_fault : PySem.W.codeIn K cd_ranks_fault "ranks_fault" = true) (k_ranks_fault : PySem.W.keepIn K (.ref f_ranks_fault) = true)
    (a_framed : PySem.W.nsIn K mainGlobals "framed" = some (some (.ref f_framed))) (l_framed : K.lookup f_framed = some ⟨oc_framed, od_framed, .func (PySem.W.fnOf "framed" "framed" (C8.fnArgs s_framed) (C8.fnBody s_framed) (C8.fnScope s_framed) .none kV_framed dc_framed pm_framed an_framed cd_framed ct_framed), sl_framed⟩) (c_framed : PySem.W.codeIn K cd_framed "framed" = true) (k_framed : PySem.W.keepIn K (.ref f_framed) = true)
    (a_body_of : PySem.W.nsIn K mainGlobals "body_of" = some (some (.ref f_body_of))) (l_body_of : K.lookup f_body_of = some ⟨oc_body_of, od_body_of, .func (PySem.W.fnOf "body_of" "body_of" (C8.fnArgs s_body_of) (C8.fnBody s_body_of) (C8.fnScope s_body_of) .none kV_body_of dc_body_of pm_body_of an_body_of cd_body_of ct_body_of), sl_body_of⟩) (c_body_of : PySem.W.codeIn K cd_body_of "body_of" = true) (k_body_of : PySem.W.keepIn K (.ref f_body_of) = true)
    (a_need_body : PySem.W.nsIn K mainGlobals "need_body" = some (some (.ref f_need_body))) (l_need_body : K.lookup f_need_body = some ⟨oc_need_body, od_need_body, .func (PySem.W.fnOf "need_body" "need_body" (C8.fnArgs s_need_body) (C8.fnBody s_need_body) (C8.fnScope s_need_body) .none kV_need_body dc_need_body pm_need_body an_need_body cd_need_body ct_need_body), sl_need_body⟩) (c_need_body : PySem.W.codeIn K cd_need_body "need_body" = true) (k_need_body : PySem.W.keepIn K (.ref f_need_body) = true)
    (a_need_signs : PySem.W.nsIn K mainGlobals "need_signs" = some (some (.ref f_need_signs))) (l_need_signs : K.lookup f_need_signs = some ⟨oc_need_signs, od_need_signs, .func (PySem.W.fnOf "need_signs" "need_signs" (C8.fnArgs s_need_signs) (C8.fnBody s_need_signs) (C8.fnScope s_need_signs) .none kV_need_signs dc_need_signs pm_need_signs an_need_signs cd_need_signs ct_need_signs), sl_need_signs⟩) (c_need_signs : PySem.W.codeIn K cd_need_signs "need_signs" = true) (k_need_signs : PySem.W.keepIn K (.ref f_need_signs) = true)
    (a_top_of : PySem.W.nsIn K mainGlobals "top_of" = some (some (.ref f_top_of))) (l_top_of : K.lookup f_top_of = some ⟨oc_top_of, od_top_of, .func (PySem.W.fnOf "top_of" "top_of" (C8.fnArgs s_top_of) (C8.fnBody s_top_of) (C8.fnScope s_top_of) .none kV_top_of dc_top_of pm_top_of an_top_of cd_top_of ct_top_of), sl_top_of⟩) (c_top_of : PySem.W.codeIn K cd_top_of "top_of" = true) (k_top_of : PySem.W.keepIn K (.ref f_top_of) = true)
    (a_frame_of : PySem.W.nsIn K mainGlobals "frame_of" = some (some (.ref f_frame_of))) (l_frame_of : K.lookup f_frame_of = some ⟨oc_frame_of, od_frame_of, .func (PySem.W.fnOf "frame_of" "frame_of" (C8.fnArgs s_frame_of) (C8.fnBody s_frame_of) (C8.fnScope s_frame_of) .none kV_frame_of dc_frame_of pm_frame_of an_frame_of cd_frame_of ct_frame_of), sl_frame_of⟩) (c_frame_of : PySem.W.codeIn K cd_frame_of "frame_of" = true) (k_frame_of : PySem.W.keepIn K (.ref f_frame_of) = true)
    (a_exchanged : PySem.W.nsIn K mainGlobals "exchanged" = some (some (.ref f_exchanged))) (l_exchanged : K.lookup f_exchanged = some ⟨oc_exchanged, od_exchanged, .func (PySem.W.fnOf "exchanged" "exchanged" (C8.fnArgs s_exchanged) (C8.fnBody s_exchanged) (C8.fnScope s_exchanged) .none kV_exchanged dc_exchanged pm_exchanged an_exchanged cd_exchanged ct_exchanged), sl_exchanged⟩) (c_exchanged : PySem.W.codeIn K cd_exchanged "exchanged" = true) (k_exchanged : PySem.W.keepIn K (.ref f_exchanged) = true)
    (a_taken_out : PySem.W.nsIn K mainGlobals "taken_out" = some (some (.ref f_taken_out))) (l_taken_out : K.lookup f_taken_out = some ⟨oc_taken_out, od_taken_out, .func (PySem.W.fnOf "taken_out" "taken_out" (C8.fnArgs s_taken_out) (C8.fnBody s_taken_out) (C8.fnScope s_taken_out) .none kV_taken_out dc_taken_out pm_taken_out an_taken_out cd_taken_out ct_taken_out), sl_taken_out⟩) (c_taken_out : PySem.W.codeIn K cd_taken_out "taken_out" = true) (k_taken_out : PySem.W.keepIn K (.ref f_taken_out) = true)
    (a_by_codes : PySem.W.nsIn K mainGlobals "by_codes" = some (some (.ref f_by_codes))) (l_by_codes : K.lookup f_by_codes = some ⟨oc_by_codes, od_by_codes, .func (PySem.W.fnOf "by_codes" "by_codes" (C8.fnArgs s_by_codes) (C8.fnBody s_by_codes) (C8.fnScope s_by_codes) .none kV_by_codes dc_by_codes pm_by_codes an_by_codes cd_by_codes ct_by_codes), sl_by_codes⟩) (c_by_codes : PySem.W.codeIn K cd_by_codes "by_codes" = true) (k_by_codes : PySem.W.keepIn K (.ref f_by_codes) = true)
    (a_from_codes : PySem.W.nsIn K mainGlobals "from_codes" = some (some (.ref f_from_codes))) (l_from_codes : K.lookup f_from_codes = some ⟨oc_from_codes, od_from_codes, .func (PySem.W.fnOf "from_codes" "from_codes" (C8.fnArgs s_from_codes) (C8.fnBody s_from_codes) (C8.fnScope s_from_codes) .none kV_from_codes dc_from_codes pm_from_codes an_from_codes cd_from_codes ct_from_codes), sl_from_codes⟩) (c_from_codes : PySem.W.codeIn K cd_from_codes "from_codes" = true) (k_from_codes : PySem.W.keepIn K (.ref f_from_codes) = true)
    (a_by_escapes : PySem.W.nsIn K mainGlobals "by_escapes" = some (some (.ref f_by_escapes))) (l_by_escapes : K.lookup f_by_escapes = some ⟨oc_by_escapes, od_by_escapes, .func (PySem.W.fnOf "by_escapes" "by_escapes" (C8.fnArgs s_by_escapes) (C8.fnBody s_by_escapes) (C8.fnScope s_by_escapes) .none kV_by_escapes dc_by_escapes pm_by_escapes an_by_escapes cd_by_escapes ct_by_escapes), sl_by_escapes⟩) (c_by_escapes : PySem.W.codeIn K cd_by_escapes "by_escapes" = true) (k_by_escapes : PySem.W.keepIn K (.ref f_by_escapes) = true)
    (a_from_escapes : PySem.W.nsIn K mainGlobals "from_escapes" = some (some (.ref f_from_escapes))) (l_from_escapes : K.lookup f_from_escapes = some ⟨oc_from_escapes, od_from_escapes, .func (PySem.W.fnOf "from_escapes" "from_escapes" (C8.fnArgs s_from_escapes) (C8.fnBody s_from_escapes) (C8.fnScope s_from_escapes) .none kV_from_escapes dc_from_escapes pm_from_escapes an_from_escapes cd_from_escapes ct_from_escapes), sl_from_escapes⟩) (c_from_escapes : PySem.W.codeIn K cd_from_escapes "from_escapes" = true) (k_from_escapes : PySem.W.keepIn K (.ref f_from_escapes) = true)
    (a_by_counts : PySem.W.nsIn K mainGlobals "by_counts" = some (some (.ref f_by_counts))) (l_by_counts : K.lookup f_by_counts = some ⟨oc_by_counts, od_by_counts, .func (PySem.W.fnOf "by_counts" "by_counts" (C8.fnArgs s_by_counts) (C8.fnBody s_by_counts) (C8.fnScope s_by_counts) .none kV_by_counts dc_by_counts pm_by_counts an_by_counts cd_by_counts ct_by_counts), sl_by_counts⟩) (c_by_counts : PySem.W.codeIn K cd_by_counts "by_counts" = true) (k_by_counts : PySem.W.keepIn K (.ref f_by_counts) = true)
    (a_rows_between : PySem.W.nsIn K mainGlobals "rows_between" = some (some (.ref f_rows_between))) (l_rows_between : K.lookup f_rows_between = some ⟨oc_rows_between, od_rows_between, .func (PySem.W.fnOf "rows_between" "rows_between" (C8.fnArgs s_rows_between) (C8.fnBody s_rows_between) (C8.fnScope s_rows_between) .none kV_rows_between dc_rows_between pm_rows_between an_rows_between cd_rows_between ct_rows_between), sl_rows_between⟩) (c_rows_between : PySem.W.codeIn K cd_rows_between "rows_between" = true) (k_rows_between : PySem.W.keepIn K (.ref f_rows_between) = true)
    (a_grouped : PySem.W.nsIn K mainGlobals "grouped" = some (some (.ref f_grouped))) (l_grouped : K.lookup f_grouped = some ⟨oc_grouped, od_grouped, .func (PySem.W.fnOf "grouped" "grouped" (C8.fnArgs s_grouped) (C8.fnBody s_grouped) (C8.fnScope s_grouped) .none kV_grouped dc_grouped pm_grouped an_grouped cd_grouped ct_grouped), sl_grouped⟩) (c_grouped : PySem.W.codeIn K cd_grouped "grouped" = true) (k_grouped : PySem.W.keepIn K (.ref f_grouped) = true)
    (a_from_counts : PySem.W.nsIn K mainGlobals "from_counts" = some (some (.ref f_from_counts))) (l_from_counts : K.lookup f_from_counts = some ⟨oc_from_counts, od_from_counts, .func (PySem.W.fnOf "from_counts" "from_counts" (C8.fnArgs s_from_counts) (C8.fnBody s_from_counts) (C8.fnScope s_from_counts) .none kV_from_counts dc_from_counts pm_from_counts an_from_counts cd_from_counts ct_from_counts), sl_from_counts⟩) (c_from_counts : PySem.W.codeIn K cd_from_counts "from_counts" = true) (k_from_counts : PySem.W.keepIn K (.ref f_from_counts) = true)
    (a_by_ranks : PySem.W.nsIn K mainGlobals "by_ranks" = some (some (.ref f_by_ranks))) (l_by_ranks : K.lookup f_by_ranks = some ⟨oc_by_ranks, od_by_ranks, .func (PySem.W.fnOf "by_ranks" "by_ranks" (C8.fnArgs s_by_ranks) (C8.fnBody s_by_ranks) (C8.fnScope s_by_ranks) .none kV_by_ranks dc_by_ranks pm_by_ranks an_by_ranks cd_by_ranks ct_by_ranks), sl_by_ranks⟩) (c_by_ranks : PySem.W.codeIn K cd_by_ranks "by_ranks" = true) (k_by_ranks : PySem.W.keepIn K (.ref f_by_ranks) = true)
    (a_from_ranks : PySem.W.nsIn K mainGlobals "from_ranks" = some (some (.ref f_from_ranks))) (l_from_ranks : K.lookup f_from_ranks = some ⟨oc_from_ranks, od_from_ranks, .func (PySem.W.fnOf "from_ranks" "from_ranks" (C8.fnArgs s_from_ranks) (C8.fnBody s_from_ranks) (C8.fnScope s_from_ranks) .none kV_from_ranks dc_from_ranks pm_from_ranks an_from_ranks cd_from_ranks ct_from_ranks), sl_from_ranks⟩) (c_from_ranks : PySem.W.codeIn K cd_from_ranks "from_ranks" = true) (k_from_ranks : PySem.W.keepIn K (.ref f_from_ranks) = true)
    (a__law_dice : PySem.W.nsIn K mainGlobals "_law_dice" = some (some (.ref f__law_dice))) (l__law_dice : K.lookup f__law_dice = some ⟨oc__law_dice, od__law_dice, .func (PySem.W.fnOf "_law_dice" "_law_dice" (C8.fnArgs s__law_dice) (C8.fnBody s__law_dice) (C8.fnScope s__law_dice) .none kV__law_dice dc__law_dice pm__law_dice an__law_dice cd__law_dice ct__law_dice), sl__law_dice⟩) (c__law_dice : PySem.W.codeIn K cd__law_dice "_law_dice" = true) (k__law_dice : PySem.W.keepIn K (.ref f__law_dice) = true)
    (a__law_off : PySem.W.nsIn K mainGlobals "_law_off" = some (some (.ref f__law_off))) (l__law_off : K.lookup f__law_off = some ⟨oc__law_off, od__law_off, .func (PySem.W.fnOf "_law_off" "_law_off" (C8.fnArgs s__law_off) (C8.fnBody s__law_off) (C8.fnScope s__law_off) .none kV__law_off dc__law_off pm__law_off an__law_off cd__law_off ct__law_off), sl__law_off⟩) (c__law_off : PySem.W.codeIn K cd__law_off "_law_off" = true) (k__law_off : PySem.W.keepIn K (.ref f__law_off) = true)
    (a__law_plain : PySem.W.nsIn K mainGlobals "_law_plain" = some (some (.ref f__law_plain))) (l__law_plain : K.lookup f__law_plain = some ⟨oc__law_plain, od__law_plain, .func (PySem.W.fnOf "_law_plain" "_law_plain" (C8.fnArgs s__law_plain) (C8.fnBody s__law_plain) (C8.fnScope s__law_plain) .none kV__law_plain dc__law_plain pm__law_plain an__law_plain cd__law_plain ct__law_plain), sl__law_plain⟩) (c__law_plain : PySem.W.codeIn K cd__law_plain "_law_plain" = true) (k__law_plain : PySem.W.keepIn K (.ref f__law_plain) = true)
    (a__law_size : PySem.W.nsIn K mainGlobals "_law_size" = some (some (.ref f__law_size))) (l__law_size : K.lookup f__law_size = some ⟨oc__law_size, od__law_size, .func (PySem.W.fnOf "_law_size" "_law_size" (C8.fnArgs s__law_size) (C8.fnBody s__law_size) (C8.fnScope s__law_size) .none kV__law_size dc__law_size pm__law_size an__law_size cd__law_size ct__law_size), sl__law_size⟩) (c__law_size : PySem.W.codeIn K cd__law_size "_law_size" = true) (k__law_size : PySem.W.keepIn K (.ref f__law_size) = true)
    (a__law_body : PySem.W.nsIn K mainGlobals "_law_body" = some (some (.ref f__law_body))) (l__law_body : K.lookup f__law_body = some ⟨oc__law_body, od__law_body, .func (PySem.W.fnOf "_law_body" "_law_body" (C8.fnArgs s__law_body) (C8.fnBody s__law_body) (C8.fnScope s__law_body) .none kV__law_body dc__law_body pm__law_body an__law_body cd__law_body ct__law_body), sl__law_body⟩) (c__law_body : PySem.W.codeIn K cd__law_body "_law_body" = true) (k__law_body : PySem.W.keepIn K (.ref f__law_body) = true)
    (a__law_number : PySem.W.nsIn K mainGlobals "_law_number" = some (some (.ref f__law_number))) (l__law_number : K.lookup f__law_number = some ⟨oc__law_number, od__law_number, .func (PySem.W.fnOf "_law_number" "_law_number" (C8.fnArgs s__law_number) (C8.fnBody s__law_number) (C8.fnScope s__law_number) .none kV__law_number dc__law_number pm__law_number an__law_number cd__law_number ct__law_number), sl__law_number⟩) (c__law_number : PySem.W.codeIn K cd__law_number "_law_number" = true) (k__law_number : PySem.W.keepIn K (.ref f__law_number) = true)
    (a__law_list : PySem.W.nsIn K mainGlobals "_law_list" = some (some (.ref f__law_list))) (l__law_list : K.lookup f__law_list = some ⟨oc__law_list, od__law_list, .func (PySem.W.fnOf "_law_list" "_law_list" (C8.fnArgs s__law_list) (C8.fnBody s__law_list) (C8.fnScope s__law_list) .none kV__law_list dc__law_list pm__law_list an__law_list cd__law_list ct__law_list), sl__law_list⟩) (c__law_list : PySem.W.codeIn K cd__law_list "_law_list" = true) (k__law_list : PySem.W.keepIn K (.ref f__law_list) = true)
    (a_law : PySem.W.nsIn K mainGlobals "law" = some (some (.ref f_law))) (l_law : K.lookup f_law = some ⟨oc_law, od_law, .func (PySem.W.fnOf "law" "law" (C8.fnArgs s_law) (C8.fnBody s_law) (C8.fnScope s_law) .none kV_law dc_law pm_law an_law cd_law ct_law), sl_law⟩) (c_law : PySem.W.codeIn K cd_law "law" = true) (k_law : PySem.W.keepIn K (.ref f_law) = true)
    (g_LEAST_TOP : PySem.W.nsIn K mainGlobals "LEAST_TOP" = some (some (.int 3 t_LEAST_TOP)))
    (g_MOST_TOP : PySem.W.nsIn K mainGlobals "MOST_TOP" = some (some (.int 16 t_MOST_TOP)))
    (g_LONGEST_CODE : PySem.W.nsIn K mainGlobals "LONGEST_CODE" = some (some (.int 4 t_LONGEST_CODE)))
    (g_MOST_TURNED : PySem.W.nsIn K mainGlobals "MOST_TURNED" = some (some (.int 3 t_MOST_TURNED)))
    (g_MOST_BODY : PySem.W.nsIn K mainGlobals "MOST_BODY" = some (some (.int 60 t_MOST_BODY)))
    (g_MOST_SIGNS : PySem.W.nsIn K mainGlobals "MOST_SIGNS" = some (some (.int 400 t_MOST_SIGNS)))
    (g_LONGEST_FRAME : PySem.W.nsIn K mainGlobals "LONGEST_FRAME" = some (some (.int 241 t_LONGEST_FRAME)))
    (g_FAULTS : PySem.W.nsIn K mainGlobals "FAULTS" = some (some (.ref p_FAULTS))) (m_FAULTS : K.lookup p_FAULTS = some ⟨.type "dict", none, .dict es_FAULTS n_FAULTS, #[]⟩) (e_FAULTS : PySem.W.KeysLit w.params es_FAULTS.toList)
    (h_FAULTS_codes : PySem.W.nsIn K p_FAULTS "codes" = some (some (.ref f_codes_fault)))
    (h_FAULTS_escapes : PySem.W.nsIn K p_FAULTS "escapes" = some (some (.ref f_escapes_fault)))
    (h_FAULTS_counts : PySem.W.nsIn K p_FAULTS "counts" = some (some (.ref f_counts_fault)))
    (h_FAULTS_ranks : PySem.W.nsIn K p_FAULTS "ranks" = some (some (.ref f_ranks_fault)))
    (g_FRAMERS : PySem.W.nsIn K mainGlobals "FRAMERS" = some (some (.ref p_FRAMERS))) (m_FRAMERS : K.lookup p_FRAMERS = some ⟨.type "dict", none, .dict es_FRAMERS n_FRAMERS, #[]⟩) (e_FRAMERS : PySem.W.KeysLit w.params es_FRAMERS.toList)
    (h_FRAMERS_codes : PySem.W.nsIn K p_FRAMERS "codes" = some (some (.ref f_by_codes)))
    (h_FRAMERS_escapes : PySem.W.nsIn K p_FRAMERS "escapes" = some (some (.ref f_by_escapes)))
    (h_FRAMERS_counts : PySem.W.nsIn K p_FRAMERS "counts" = some (some (.ref f_by_counts)))
    (h_FRAMERS_ranks : PySem.W.nsIn K p_FRAMERS "ranks" = some (some (.ref f_by_ranks)))
    (g_READERS : PySem.W.nsIn K mainGlobals "READERS" = some (some (.ref p_READERS))) (m_READERS : K.lookup p_READERS = some ⟨.type "dict", none, .dict es_READERS n_READERS, #[]⟩) (e_READERS : PySem.W.KeysLit w.params es_READERS.toList)
    (h_READERS_codes : PySem.W.nsIn K p_READERS "codes" = some (some (.ref f_from_codes)))
    (h_READERS_escapes : PySem.W.nsIn K p_READERS "escapes" = some (some (.ref f_from_escapes)))
    (h_READERS_counts : PySem.W.nsIn K p_READERS "counts" = some (some (.ref f_from_counts)))
    (h_READERS_ranks : PySem.W.nsIn K p_READERS "ranks" = some (some (.ref f_from_ranks))) :
    ∃ fd : FuncData, (∀ (s : Shared) (v : Value), BindsTo s fd ⟨[v], []⟩ [("_law_script", v)]) ∧ ∀ base : Heap, K.In base → base.Ns mainGlobals mg → FnOk l.prog w K mg base C8.CX0 9 fa fd ["_law_script"] (spLaw K) := by
  have T : Top K w mg := ⟨⟨PySem.W.mg_none_of X G z_abs, PySem.W.mg_none_of X G z_all, PySem.W.mg_none_of X G z_enumerate, PySem.W.mg_none_of X G z_int, PySem.W.mg_none_of X G z_len, PySem.W.mg_none_of X G z_list, PySem.W.mg_none_of X G z_min, PySem.W.mg_none_of X G z_range, PySem.W.mg_none_of X G z_reversed, PySem.W.mg_none_of X G z_set, PySem.W.mg_none_of X G z_sorted, PySem.W.mg_none_of X G z_type⟩, ⟨⟨f_rank_of, dd_mk X G a_rank_of l_rank_of c_rank_of k_rank_of fun _ _ _ _ _ _ us hl => match us, hl with | [_, _], _ => rfl⟩⟩, ⟨⟨f_row_of, dd_mk X G a_row_of l_row_of c_row_of k_row_of fun _ _ _ _ _ _ us hl => match us, hl with | [_, _], _ => rfl⟩⟩, ⟨⟨f_need_way, dd_mk X G a_need_way l_need_way c_need_way k_need_way fun _ _ _ _ _ _ us hl => match us, hl with | [_], _ => rfl⟩⟩, ⟨⟨f_fault_of, dd_mk X G a_fault_of l_fault_of c_fault_of k_fault_of fun _ _ _ _ _ _ us hl => match us, hl with | [_], _ => rfl⟩⟩, ⟨⟨f_unturned, dd_mk X G a_unturned l_unturned c_unturned k_unturned fun _ _ _ _ _ _ us hl => match us, hl with | [_], _ => rfl⟩⟩, ⟨⟨f_plain_signs, dd_mk X G a_plain_signs l_plain_signs c_plain_signs k_plain_signs fun _ _ _ _ _ _ us hl => match us, hl with | [_, _], _ => rfl⟩⟩, ⟨⟨f_first_unsigned, dd_mk X G a_first_unsigned l_first_unsigned c_first_unsigned k_first_unsigned fun _ _ _ _ _ _ us hl => match us, hl with | [_, _], _ => rfl⟩⟩, ⟨⟨f_is_whole, dd_mk X G a_is_whole l_is_whole c_is_whole k_is_whole fun _ _ _ _ _ _ us hl => match us, hl with | [_], _ => rfl⟩⟩, ⟨⟨f_is_top, dd_mk X G a_is_top l_is_top c_is_top k_is_top fun _ _ _ _ _ _ us hl => match us, hl with | [_], _ => rfl⟩⟩, ⟨⟨f_is_sign, dd_mk X G a_is_sign l_is_sign c_is_sign k_is_sign fun _ _ _ _ _ _ us hl => match us, hl with | [_, _], _ => rfl⟩⟩, ⟨⟨f_is_plain, dd_mk X G a_is_plain l_is_plain c_is_plain k_is_plain fun _ _ _ _ _ _ us hl => match us, hl with | [_, _, _], _ => rfl⟩⟩, ⟨⟨f_is_turning, dd_mk X G a_is_turning l_is_turning c_is_turning k_is_turning fun _ _ _ _ _ _ us hl => match us, hl with | [_, _], _ => rfl⟩⟩, ⟨⟨f_codes_fault, dd_mk X G a_codes_fault l_codes_fault c_codes_fault k_codes_fault fun _ _ _ _ _ _ us hl => match us, hl with | [_], _ => rfl⟩⟩, ⟨⟨f_is_code, dd_mk X G a_is_code l_is_code c_is_code k_is_code fun _ _ _ _ _ _ us hl => match us, hl with | [_, _, _], _ => rfl⟩⟩, ⟨⟨f_stand_apart, dd_mk X G a_stand_apart l_stand_apart c_stand_apart k_stand_apart fun _ _ _ _ _ _ us hl => match us, hl with | [_], _ => rfl⟩⟩, ⟨⟨f_escapes_fault, dd_mk X G a_escapes_fault l_escapes_fault c_escapes_fault k_escapes_fault fun _ _ _ _ _ _ us hl => match us, hl with | [_], _ => rfl⟩⟩, ⟨⟨f_counts_fault, dd_mk X G a_counts_fault l_counts_fault c_counts_fault k_counts_fault fun _ _ _ _ _ _ us hl => match us, hl with | [_], _ => rfl⟩⟩, ⟨⟨f_ranks_fault, dd_mk X G a_ranks_fault l_ranks_fault c_ranks_fault k_ranks_fault fun _ _ _ _ _ _ us hl => match us, hl with | [_], _ => rfl⟩⟩, ⟨⟨f_framed, dd_mk X G a_framed l_framed c_framed k_framed fun _ _ _ _ _ _ us hl => match us, hl with | [_, _], _ => rfl⟩⟩, ⟨⟨f_body_of, dd_mk X G a_body_of l_body_of c_body_of k_body_of fun _ _ _ _ _ _ us hl => match us, hl with | [_, _], _ => rfl⟩⟩, ⟨⟨f_need_body, dd_mk X G a_need_body l_need_body c_need_body k_need_body fun _ _ _ _ _ _ us hl => match us, hl with | [_, _], _ => rfl⟩⟩, ⟨⟨f_need_signs, dd_mk X G a_need_signs l_need_signs c_need_signs k_need_signs fun _ _ _ _ _ _ us hl => match us, hl with | [_, _], _ => rfl⟩⟩, ⟨⟨f_top_of, dd_mk X G a_top_of l_top_of c_top_of k_top_of fun _ _ _ _ _ _ us hl => match us, hl with | [_], _ => rfl⟩⟩, ⟨⟨f_frame_of, dd_mk X G a_frame_of l_frame_of c_frame_of k_frame_of fun _ _ _ _ _ _ us hl => match us, hl with | [_, _], _ => rfl⟩⟩, ⟨⟨f_exchanged, dd_mk X G a_exchanged l_exchanged c_exchanged k_exchanged fun _ _ _ _ _ _ us hl => match us, hl with | [_, _], _ => rfl⟩⟩, ⟨⟨f_taken_out, dd_mk X G a_taken_out l_taken_out c_taken_out k_taken_out fun _ _ _ _ _ _ us hl => match us, hl with | [_, _], _ => rfl⟩⟩, ⟨⟨f_by_codes, dd_mk X G a_by_codes l_by_codes c_by_codes k_by_codes fun _ _ _ _ _ _ us hl => match us, hl with | [_, _], _ => rfl⟩⟩, ⟨⟨f_from_codes, dd_mk X G a_from_codes l_from_codes c_from_codes k_from_codes fun _ _ _ _ _ _ us hl => match us, hl with | [_, _], _ => rfl⟩⟩, ⟨⟨f_by_escapes, dd_mk X G a_by_escapes l_by_escapes c_by_escapes k_by_escapes fun _ _ _ _ _ _ us hl => match us, hl with | [_, _], _ => rfl⟩⟩, ⟨⟨f_from_escapes, dd_mk X G a_from_escapes l_from_escapes c_from_escapes k_from_escapes fun _ _ _ _ _ _ us hl => match us, hl with | [_, _], _ => rfl⟩⟩, ⟨⟨f_by_counts, dd_mk X G a_by_counts l_by_counts c_by_counts k_by_counts fun _ _ _ _ _ _ us hl => match us, hl with | [_, _], _ => rfl⟩⟩, ⟨⟨f_rows_between, dd_mk X G a_rows_between l_rows_between c_rows_between k_rows_between fun _ _ _ _ _ _ us hl => match us, hl with | [_, _], _ => rfl⟩⟩, ⟨⟨f_grouped, dd_mk X G a_grouped l_grouped c_grouped k_grouped fun _ _ _ _ _ _ us hl => match us, hl with | [_, _], _ => rfl⟩⟩, ⟨⟨f_from_counts, dd_mk X G a_from_counts l_from_counts c_from_counts k_from_counts fun _ _ _ _ _ _ us hl => match us, hl with | [_, _], _ => rfl⟩⟩, ⟨⟨f_by_ranks, dd_mk X G a_by_ranks l_by_ranks c_by_ranks k_by_ranks fun _ _ _ _ _ _ us hl => match us, hl with | [_, _], _ => rfl⟩⟩, ⟨⟨f_from_ranks, dd_mk X G a_from_ranks l_from_ranks c_from_ranks k_from_ranks fun _ _ _ _ _ _ us hl => match us, hl with | [_, _], _ => rfl⟩⟩, ⟨⟨f__law_dice, dd_mk X G a__law_dice l__law_dice c__law_dice k__law_dice fun _ _ _ _ _ _ us hl => match us, hl with | [_, _], _ => rfl⟩⟩, ⟨⟨f__law_off, dd_mk X G a__law_off l__law_off c__law_off k__law_off fun _ _ _ _ _ _ us hl => match us, hl with | [_, _], _ => rfl⟩⟩, ⟨⟨f__law_plain, dd_mk X G a__law_plain l__law_plain c__law_plain k__law_plain fun _ _ _ _ _ _ us hl => match us, hl with | [_, _], _ => rfl⟩⟩, ⟨⟨f__law_size, dd_mk X G a__law_size l__law_size c__law_size k__law_size fun _ _ _ _ _ _ us hl => match us, hl with | [_], _ => rfl⟩⟩, ⟨⟨f__law_body, dd_mk X G a__law_body l__law_body c__law_body k__law_body fun _ _ _ _ _ _ us hl => match us, hl with | [_, _, _, _], _ => rfl⟩⟩, ⟨⟨f__law_number, dd_mk X G a__law_number l__law_number c__law_number k__law_number fun _ _ _ _ _ _ us hl => match us, hl with | [_, _], _ => rfl⟩⟩, ⟨⟨f__law_list, dd_mk X G a__law_list l__law_list c__law_list k__law_list fun _ _ _ _ _ _ us hl => match us, hl with | [_, _], _ => rfl⟩⟩, gi_mk X G g_LEAST_TOP, gi_mk X G g_MOST_TOP, gi_mk X G g_LONGEST_CODE, gi_mk X G g_MOST_TURNED, gi_mk X G g_MOST_BODY, gi_mk X G g_MOST_SIGNS, gi_mk X G g_LONGEST_FRAME, ⟨p_FAULTS, gr_mk X G g_FAULTS, ⟨f_codes_fault, PySem.W.mg_of X G a_codes_fault, kd_mk m_FAULTS e_FAULTS h_FAULTS_codes⟩, ⟨f_escapes_fault, PySem.W.mg_of X G a_escapes_fault, kd_mk m_FAULTS e_FAULTS h_FAULTS_escapes⟩, ⟨f_counts_fault, PySem.W.mg_of X G a_counts_fault, kd_mk m_FAULTS e_FAULTS h_FAULTS_counts⟩, ⟨f_ranks_fault, PySem.W.mg_of X G a_ranks_fault, kd_mk m_FAULTS e_FAULTS h_FAULTS_ranks⟩⟩, ⟨p_FRAMERS, gr_mk X G g_FRAMERS, ⟨f_by_codes, PySem.W.mg_of X G a_by_codes, kd_mk m_FRAMERS e_FRAMERS h_FRAMERS_codes⟩, ⟨f_by_escapes, PySem.W.mg_of X G a_by_escapes, kd_mk m_FRAMERS e_FRAMERS h_FRAMERS_escapes⟩, ⟨f_by_counts, PySem.W.mg_of X G a_by_counts, kd_mk m_FRAMERS e_FRAMERS h_FRAMERS_counts⟩, ⟨f_by_ranks, PySem.W.mg_of X G a_by_ranks, kd_mk m_FRAMERS e_FRAMERS h_FRAMERS_ranks⟩⟩, ⟨p_READERS, gr_mk X G g_READERS, ⟨f_from_codes, PySem.W.mg_of X G a_from_codes, kd_mk m_READERS e_READERS h_READERS_codes⟩, ⟨f_from_escapes, PySem.W.mg_of X G a_from_escapes, kd_mk m_READERS e_READERS h_READERS_escapes⟩, ⟨f_from_counts, PySem.W.mg_of X G a_from_counts, kd_mk m_READERS e_READERS h_READERS_counts⟩, ⟨f_from_ranks, PySem.W.mg_of X G a_from_ranks, kd_mk m_READERS e_READERS h_READERS_ranks⟩⟩⟩
  exact law_mk X G hfa a_law l_law c_law k_law T
end Esc

open PySem PySem.W PyProof.Rows
set_option maxHeartbeats 0 in
theorem PySem.Challenge.cw_escaperow_k15_whole_ranks_keep_order_holds : PySem.Challenge.rw_escaperow_k15_whole_ranks_keep_order.Holds := by
  w_on; o_law; k_head; (case hw => w_witness2)
  k_fill
  refine L2.walk_of (l := PySem.Challenge.rw_escaperow_k15_whole_ranks_keep_order) (n := 63) (k := 9) (x := "_law_script") (CX := fun _ => C8.CX0) (sp := fun w => Esc.spLaw _) rfl (by decide) rfl ⟨rfl, by decide, by decide⟩ (fun w h Y => PySem.W.kIn_of Y) ?F (fun _ _ a ns hl _ hS => ⟨a, ns, rfl, hS, hl, fun _ => rfl⟩) (fun _ _ _ _ _ h => h)
  case F =>
    intro w mg fa h KX G hmg
    refine' Esc.all_mk KX G hmg ?z_abs ?z_all ?z_enumerate ?z_int ?z_len ?z_list ?z_min ?z_range ?z_reversed ?z_set ?z_sorted ?z_type ?a_rank_of ?l_rank_of ?c_rank_of ?k_rank_of ?a_row_of ?l_row_of ?c_row_of ?k_row_of ?a_need_way ?l_need_way ?c_need_way ?k_need_way ?a_fault_of ?l_fault_of ?c_fault_of ?k_fault_of ?a_unturned ?l_unturned ?c_unturned ?k_unturned ?a_plain_signs ?l_plain_signs ?c_plain_signs ?k_plain_signs ?a_first_unsigned ?l_first_unsigned ?c_first_unsigned ?k_first_unsigned ?a_is_whole ?l_is_whole ?c_is_whole ?k_is_whole ?a_is_top ?l_is_top ?c_is_top ?k_is_top ?a_is_sign ?l_is_sign ?c_is_sign ?k_is_sign ?a_is_plain ?l_is_plain ?c_is_plain ?k_is_plain ?a_is_turning ?l_is_turning ?c_is_turning ?k_is_turning ?a_codes_fault ?l_codes_fault ?c_codes_fault ?k_codes_fault ?a_is_code ?l_is_code ?c_is_code ?k_is_code ?a_stand_apart ?l_stand_apart ?c_stand_apart ?k_stand_apart ?a_escapes_fault ?l_escapes_fault ?c_escapes_fault ?k_escapes_fault ?a_counts_fault ?l_counts_fault ?c_counts_fault ?k_counts_fault ?a_ranks_fault ?l_ranks_fault ?c_ranks_fault ?k_ranks_fault ?a_framed ?l_framed ?c_framed ?k_framed ?a_body_of ?l_body_of ?c_body_of ?k_body_of ?a_need_body ?l_need_body ?c_need_body ?k_need_body ?a_need_signs ?l_need_signs ?c_need_signs ?k_need_signs ?a_top_of ?l_top_of ?c_top_of ?k_top_of ?a_frame_of ?l_frame_of ?c_frame_of ?k_frame_of ?a_exchanged ?l_exchanged ?c_exchanged ?k_exchanged ?a_taken_out ?l_taken_out ?c_taken_out ?k_taken_out ?a_by_codes ?l_by_codes ?c_by_codes ?k_by_codes ?a_from_codes ?l_from_codes ?c_from_codes ?k_from_codes ?a_by_escapes ?l_by_escapes ?c_by_escapes ?k_by_escapes ?a_from_escapes ?l_from_escapes ?c_from_escapes ?k_from_escapes ?a_by_counts ?l_by_counts ?c_by_counts ?k_by_counts ?a_rows_between ?l_rows_between ?c_rows_between ?k_rows_between ?a_grouped ?l_grouped ?c_grouped ?k_grouped ?a_from_counts ?l_from_counts ?c_from_counts ?k_from_counts ?a_by_ranks ?l_by_ranks ?c_by_ranks ?k_by_ranks ?a_from_ranks ?l_from_ranks ?c_from_ranks ?k_from_ranks ?a__law_dice ?l__law_dice ?c__law_dice ?k__law_dice ?a__law_off ?l__law_off ?c__law_off ?k__law_off ?a__law_plain ?l__law_plain ?c__law_plain ?k__law_plain ?a__law_size ?l__law_size ?c__law_size ?k__law_size ?a__law_body ?l__law_body ?c__law_body ?k__law_body ?a__law_number ?l__law_number ?c__law_number ?k__law_number ?a__law_list ?l__law_list ?c__law_list ?k__law_list ?a_law ?l_law ?c_law ?k_law ?g_LEAST_TOP ?g_MOST_TOP ?g_LONGEST_CODE ?g_MOST_TURNED ?g_MOST_BODY ?g_MOST_SIGNS ?g_LONGEST_FRAME ?g_FAULTS ?m_FAULTS ?e_FAULTS ?h_FAULTS_codes ?h_FAULTS_escapes ?h_FAULTS_counts ?h_FAULTS_ranks ?g_FRAMERS ?m_FRAMERS ?e_FRAMERS ?h_FRAMERS_codes ?h_FRAMERS_escapes ?h_FRAMERS_counts ?h_FRAMERS_ranks ?g_READERS ?m_READERS ?e_READERS ?h_READERS_codes ?h_READERS_escapes ?h_READERS_counts ?h_READERS_ranks
    (case z_abs => k_is)
    (case z_all => k_is)
    (case z_enumerate => k_is)
    (case z_int => k_is)
    (case z_len => k_is)
    (case z_list => k_is)
    (case z_min => k_is)
    (case z_range => k_is)
    (case z_reversed => k_is)
    (case z_set => k_is)
    (case z_sorted => k_is)
    (case z_type => k_is)
    (case a_rank_of => k_is)
    (case l_rank_of => k_is)
    (case c_rank_of => k_is)
    (case k_rank_of => k_is)
    (case a_row_of => k_is)
    (case l_row_of => k_is)
    (case c_row_of => k_is)
    (case k_row_of => k_is)
    (case a_need_way => k_is)
    (case l_need_way => k_is)
    (case c_need_way => k_is)
    (case k_need_way => k_is)
    (case a_fault_of => k_is)
    (case l_fault_of => k_is)
    (case c_fault_of => k_is)
    (case k_fault_of => k_is)
    (case a_unturned => k_is)
    (case l_unturned => k_is)
    (case c_unturned => k_is)
    (case k_unturned => k_is)
    (case a_plain_signs => k_is)
    (case l_plain_signs => k_is)
    (case c_plain_signs => k_is)
    (case k_plain_signs => k_is)
    (case a_first_unsigned => k_is)
    (case l_first_unsigned => k_is)
    (case c_first_unsigned => k_is)
    (case k_first_unsigned => k_is)
    (case a_is_whole => k_is)
    (case l_is_whole => k_is)
    (case c_is_whole => k_is)
    (case k_is_whole => k_is)
    (case a_is_top => k_is)
    (case l_is_top => k_is)
    (case c_is_top => k_is)
    (case k_is_top => k_is)
    (case a_is_sign => k_is)
    (case l_is_sign => k_is)
    (case c_is_sign => k_is)
    (case k_is_sign => k_is)
    (case a_is_plain => k_is)
    (case l_is_plain => k_is)
    (case c_is_plain => k_is)
    (case k_is_plain => k_is)
    (case a_is_turning => k_is)
    (case l_is_turning => k_is)
    (case c_is_turning => k_is)
    (case k_is_turning => k_is)
    (case a_codes_fault => k_is)
    (case l_codes_fault => k_is)
    (case c_codes_fault => k_is)
    (case k_codes_fault => k_is)
    (case a_is_code => k_is)
    (case l_is_code => k_is)
    (case c_is_code => k_is)
    (case k_is_code => k_is)
    (case a_stand_apart => k_is)
    (case l_stand_apart => k_is)
    (case c_stand_apart => k_is)
    (case k_stand_apart => k_is)
    (case a_escapes_fault => k_is)
    (case l_escapes_fault => k_is)
    (case c_escapes_fault => k_is)
    (case k_escapes_fault => k_is)
    (case a_counts_fault => k_is)
    (case l_counts_fault => k_is)
    (case c_counts_fault => k_is)
    (case k_counts_fault => k_is)
    (case a_ranks_fault => k_is)
    (case l_ranks_fault => k_is)
    (case c_ranks_fault => k_is)
    (case k_ranks_fault => k_is)
    (case a_framed => k_is)
    (case l_framed => k_is)
    (case c_framed => k_is)
    (case k_framed => k_is)
    (case a_body_of => k_is)
    (case l_body_of => k_is)
    (case c_body_of => k_is)
    (case k_body_of => k_is)
    (case a_need_body => k_is)
    (case l_need_body => k_is)
    (case c_need_body => k_is)
    (case k_need_body => k_is)
    (case a_need_signs => k_is)
    (case l_need_signs => k_is)
    (case c_need_signs => k_is)
    (case k_need_signs => k_is)
    (case a_top_of => k_is)
    (case l_top_of => k_is)
    (case c_top_of => k_is)
    (case k_top_of => k_is)
    (case a_frame_of => k_is)
    (case l_frame_of => k_is)
    (case c_frame_of => k_is)
    (case k_frame_of => k_is)
    (case a_exchanged => k_is)
    (case l_exchanged => k_is)
    (case c_exchanged => k_is)
    (case k_exchanged => k_is)
    (case a_taken_out => k_is)
    (case l_taken_out => k_is)
    (case c_taken_out => k_is)
    (case k_taken_out => k_is)
    (case a_by_codes => k_is)
    (case l_by_codes => k_is)
    (case c_by_codes => k_is)
    (case k_by_codes => k_is)
    (case a_from_codes => k_is)
    (case l_from_codes => k_is)
    (case c_from_codes => k_is)
    (case k_from_codes => k_is)
    (case a_by_escapes => k_is)
    (case l_by_escapes => k_is)
    (case c_by_escapes => k_is)
    (case k_by_escapes => k_is)
    (case a_from_escapes => k_is)
    (case l_from_escapes => k_is)
    (case c_from_escapes => k_is)
    (case k_from_escapes => k_is)
    (case a_by_counts => k_is)
    (case l_by_counts => k_is)
    (case c_by_counts => k_is)
    (case k_by_counts => k_is)
    (case a_rows_between => k_is)
    (case l_rows_between => k_is)
    (case c_rows_between => k_is)
    (case k_rows_between => k_is)
    (case a_grouped => k_is)
    (case l_grouped => k_is)
    (case c_grouped => k_is)
    (case k_grouped => k_is)
    (case a_from_counts => k_is)
    (case l_from_counts => k_is)
    (case c_from_counts => k_is)
    (case k_from_counts => k_is)
    (case a_by_ranks => k_is)
    (case l_by_ranks => k_is)
    (case c_by_ranks => k_is)
    (case k_by_ranks => k_is)
    (case a_from_ranks => k_is)
    (case l_from_ranks => k_is)
    (case c_from_ranks => k_is)
    (case k_from_ranks => k_is)
    (case a__law_dice => k_is)
    (case l__law_dice => k_is)
    (case c__law_dice => k_is)
    (case k__law_dice => k_is)
    (case a__law_off => k_is)
    (case l__law_off => k_is)
    (case c__law_off => k_is)
    (case k__law_off => k_is)
    (case a__law_plain => k_is)
    (case l__law_plain => k_is)
    (case c__law_plain => k_is)
    (case k__law_plain => k_is)
    (case a__law_size => k_is)
    (case l__law_size => k_is)
    (case c__law_size => k_is)
    (case k__law_size => k_is)
    (case a__law_body => k_is)
    (case l__law_body => k_is)
    (case c__law_body => k_is)
    (case k__law_body => k_is)
    (case a__law_number => k_is)
    (case l__law_number => k_is)
    (case c__law_number => k_is)
    (case k__law_number => k_is)
    (case a__law_list => k_is)
    (case l__law_list => k_is)
    (case c__law_list => k_is)
    (case k__law_list => k_is)
    (case a_law => k_is)
    (case l_law => k_is)
    (case c_law => k_is)
    (case k_law => k_is)
    (case g_LEAST_TOP => k_is)
    (case g_MOST_TOP => k_is)
    (case g_LONGEST_CODE => k_is)
    (case g_MOST_TURNED => k_is)
    (case g_MOST_BODY => k_is)
    (case g_MOST_SIGNS => k_is)
    (case g_LONGEST_FRAME => k_is)
    (case g_FAULTS => k_is)
    (case m_FAULTS => k_is)
    (case e_FAULTS => exact ⟨⟨_, _, rfl, rfl⟩, ⟨_, _, rfl, rfl⟩, ⟨_, _, rfl, rfl⟩, ⟨_, _, rfl, rfl⟩, trivial⟩)
    (case h_FAULTS_codes => k_is)
    (case h_FAULTS_escapes => k_is)
    (case h_FAULTS_counts => k_is)
    (case h_FAULTS_ranks => k_is)
    (case g_FRAMERS => k_is)
    (case m_FRAMERS => k_is)
    (case e_FRAMERS => exact ⟨⟨_, _, rfl, rfl⟩, ⟨_, _, rfl, rfl⟩, ⟨_, _, rfl, rfl⟩, ⟨_, _, rfl, rfl⟩, trivial⟩)
    (case h_FRAMERS_codes => k_is)
    (case h_FRAMERS_escapes => k_is)
    (case h_FRAMERS_counts => k_is)
    (case h_FRAMERS_ranks => k_is)
    (case g_READERS => k_is)
    (case m_READERS => k_is)
    (case e_READERS => exact ⟨⟨_, _, rfl, rfl⟩, ⟨_, _, rfl, rfl⟩, ⟨_, _, rfl, rfl⟩, ⟨_, _, rfl, rfl⟩, trivial⟩)
    (case h_READERS_codes => k_is)
    (case h_READERS_escapes => k_is)
    (case h_READERS_counts => k_is)
    (case h_READERS_ranks => k_is)
