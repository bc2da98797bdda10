import PyProof.Rows.All
import Wide.All
import OpenK.AllK
import Wide.FinOn
import HandS.ForMost
import HandS.Codes
import HandS.More
import HandS.SetFor
import HandS.Style
import HandS.CallLocal
import HandS.DictComp
import HandS.Rev
import HandS.Conv
import HandS.WrittenGet
import KE.LtData
import HandS.Deep
import HandS.SortInts
import HandS.Star
import HandS.IsInst
import KE.DataFind
import KE.GoesEnum
import HandS.Strs
import HandS.TupSets
import HandS.TupAny
import PySem.Challenge.RW_escaperow_k10_whole_as_soon_as_certain
set_option Elab.async false
set_option linter.all false
set_option maxRecDepth 100000
set_option synthInstance.maxSize 100000
set_option synthInstance.maxHeartbeats 4000000
/-! Steps of readings, found by their heads; heaps that only grow. -/
namespace Esc
open PySem PySem.Spec PyProof.Rows L2

/-- to show p, show q -/
class Step (p : Prop) (q : outParam Prop) : Prop where
  h : q → p
class Steps (p : Prop) (q : outParam Prop) : Prop where
  h : q → p
instance (priority := low) Steps.refl {p : Prop} : Steps p p := ⟨id⟩
instance Steps.cons {p q r : Prop} [a : Step p q] [b : Steps q r] : Steps p r := ⟨fun x => a.h (b.h x)⟩
/-- what a slot holds -/
class Lk (i : Nat) (σ : L2.St) (v : outParam V) : Prop where
  h : σ[i]? = some (some v)
instance Lk.z {v : V} {r : L2.St} : Lk 0 (some v :: r) v := ⟨rfl⟩
instance Lk.s {i : Nat} {x : Option V} {v : V} {r : L2.St} [a : Lk i r v] : Lk (i + 1) (x :: r) v := ⟨a.h⟩
class Pu (i : Nat) (v : V) (σ : L2.St) (σ' : outParam L2.St) : Prop where
  h : σ.set i (some v) = σ'
instance Pu.z {v : V} {x : Option V} {r : L2.St} : Pu 0 v (x :: r) (some v :: r) := ⟨rfl⟩
instance Pu.s {i : Nat} {x : Option V} {v : V} {r r' : L2.St} [a : Pu i v r r'] : Pu (i + 1) v (x :: r) (x :: r') := ⟨by rw [List.set_cons_succ, a.h]⟩

/-! ### what is done with a value -/
section
variable (r r' : R2) (ta tb tc te : TE) (tr : TA) (t u : TT) (Q : VK) (QT : Bool → Hp → Prop) (QV : List V → Hp → Prop) (σ : L2.St) (x y : V) (K : PySem.W.Frag)
def kOp1 : VK := fun x H => tb σ H fun y H2 => r x y H2 Q
def kOp2 : VK := fun y H => r x y H Q
def kUn (r : V → Hp → VK → Prop) : VK := fun x H => r x H Q
def kBool : VK := fun x H => ∃ k, x = .bl k ∧ QT k H
def kAnd : Bool → Hp → Prop := fun c H => if c = true then u σ H QT else QT false H
def kOr : Bool → Hp → Prop := fun c H => if c = true then QT true H else u σ H QT
def kNot : Bool → Hp → Prop := fun c H => QT (!c) H
def kAndV : VK := fun x H => ∃ c, x = .bl c ∧ if c = true then tb σ H Q else Q (.bl false) H
def kAndB : Bool → Hp → Prop := fun c H => if c = true then tb σ H Q else Q (.bl false) H
def kOrV : VK := fun x H => ∃ c, x = .bl c ∧ if c = true then Q (.bl true) H else tb σ H Q
def kOrB : Bool → Hp → Prop := fun c H => if c = true then Q (.bl true) H else tb σ H Q
def kNotV : VK := fun x H => ∃ c, x = .bl c ∧ Q (.bl (!c)) H
def kNotB : Bool → Hp → Prop := fun c H => Q (.bl (!c)) H
def kIf : Bool → Hp → Prop := fun c H => if c = true then ta σ H Q else tb σ H Q
def kCh1 : VK := fun x H1 => tb σ H1 fun y H2 => r x y H2 fun z H3 => ∃ k, z = .bl k ∧ (if k = true then tc σ H3 fun z H4 => r' y z H4 Q else Q (.bl false) H3)
def kCh2 : VK := fun y H2 => r x y H2 fun z H3 => ∃ k, z = .bl k ∧ (if k = true then tc σ H3 fun z H4 => r' y z H4 Q else Q (.bl false) H3)
def kCh3 : VK := fun z H3 => ∃ k, z = .bl k ∧ (if k = true then tc σ H3 fun z H4 => r' y z H4 Q else Q (.bl false) H3)
def kCh4 : Bool → Hp → Prop := fun k H3 => if k = true then tc σ H3 fun z H4 => r' y z H4 Q else Q (.bl false) H3
def kCons : VK := fun x H => tr σ H fun xs H2 => QV (x :: xs) H2
def kPre : List V → Hp → Prop := fun xs H => QV (x :: xs) H
def kCB (r : List V → Hp → VK → Prop) : List V → Hp → Prop := fun vs H => r vs H Q
def kCall (sp : Sp) (E : XK) : List V → Hp → Prop := fun vs H => sp vs H Q E
def kBM (T : String) (r : V → List V → Hp → VK → Prop) : VK := fun x H => tyV K T x H ∧ tr σ H fun xs H2 => r x xs H2 Q
def kBM0 (T : String) (r : V → List V → Hp → VK → Prop) : VK := fun x H => tyV K T x H ∧ r x [] H Q
def kRv (r : V → List V → Hp → VK → Prop) : List V → Hp → Prop := fun xs H => r x xs H Q
def kLst : List V → Hp → Prop := fun xs H => xs.length ≤ sizeLine ∧ ∀ p, H p = none → Q (.ref p) (upd H p (.lst xs))
def kTup : List V → Hp → Prop := fun xs H => xs.length ≤ sizeLine ∧ ∀ p, H p = none → Q (.ref p) (upd H p (.tup xs))
def kSl1 (r : V → Option Int → Option Int → Hp → VK → Prop) (tl th : TO) : VK := fun x H1 => tl σ H1 fun l H2 => th σ H2 fun u H3 => r x l u H3 Q
def kSl2 (r : V → Option Int → Option Int → Hp → VK → Prop) (th : TO) : Option Int → Hp → Prop := fun l H2 => th σ H2 fun u H3 => r x l u H3 Q
def kSl3 (r : V → Option Int → Option Int → Hp → VK → Prop) (l : Option Int) : Option Int → Hp → Prop := fun u H3 => r x l u H3 Q
def kPart (QO : Option Int → Hp → Prop) : VK := fun x H => ∃ i, x = .int i ∧ QO (some i) H
def kLstRg : VK := fun x H => ∃ n, x = .int n ∧ RgOk 0 n ∧ ∀ q, H q = none → Q (.ref q) (upd H q (.lst (rgV 0 n)))
def kRev : VK := fun x H1 => ∃ a xs, x = .ref a ∧ SqL K H1 a xs ∧ ∀ p, H1 p = none → Q (.ref p) (upd H1 p (.lst xs.reverse))
def kDGet1 (ty : TE) : VK := fun x H1 => ty σ H1 fun y H2 => ∃ a v, x = .ref a ∧ DGet H2 a y (some v) ∧ Q v H2
def kDGet2 : VK := fun y H2 => ∃ a v, x = .ref a ∧ DGet H2 a y (some v) ∧ Q v H2
def kDIn1 (td : TE) : VK := fun y H1 => td σ H1 fun x H2 => ∃ a o, x = .ref a ∧ DGet H2 a y o ∧ Q (.bl o.isSome) H2
def kDIn2 : VK := fun x H2 => ∃ a o, x = .ref a ∧ DGet H2 a y o ∧ Q (.bl o.isSome) H2
def kCallA (sp : Sp) : List V → Hp → Prop := fun vs H1 => sp vs H1 Q (fun _ _ _ => False)
/-- behind a statement -/
def kAsg (g : TG) (nx : L2.St → Hp → Prop) : VK := fun x H => g x σ H nx
def kDrop (nx : L2.St → Hp → Prop) : VK := fun _ H => nx σ H
def kIfS (t u : TS) (D : Ends) : Bool → Hp → Prop := fun b H => if b = true then t D σ H else u D σ H
def kG (u : TGs) (vs : List V) (QS : L2.St → Hp → Prop) : L2.St → Hp → Prop := fun σ H => u vs σ H QS
def kGs1 (ti : TE) (t : TSet) (v : V) (QS : L2.St → Hp → Prop) : VK := fun o H1 => ti σ H1 fun i H2 => t o i v H2 fun H3 => QS σ H3
def kGs2 (t : TSet) (o v : V) (QS : L2.St → Hp → Prop) : VK := fun i H2 => t o i v H2 fun H3 => QS σ H3
def kPar (i j : Nat) (nx : L2.St → Hp → Prop) : List V → Hp → Prop := fun vs H => ∃ v w, vs = [v, w] ∧ nx ((σ.set i (some v)).set j (some w)) H
def kAug (i : Nat) (ti : TIp) (nx : L2.St → Hp → Prop) : VK := fun y H1 => ti x y H1 fun z H2 => nx (σ.set i (some z)) H2
def kPut (i : Nat) (nx : L2.St → Hp → Prop) : VK := fun z H => nx (σ.set i (some z)) H
end

/-! ### rules under names of their own -/
def rLen (K : PySem.W.Frag) : List V → Hp → VK → Prop := fun xs H Q => ∃ p ys, xs = [.ref p] ∧ (SqL K H p ys ∨ SqT K H p ys) ∧ Q (.int (ys.length : Nat)) H
def rAbs : List V → Hp → VK → Prop := fun xs H Q => ∃ i, xs = [.int i] ∧ Q (.int (if i < 0 then -i else i)) H
def rListOf (K : PySem.W.Frag) : List V → Hp → VK → Prop := fun xs H Q => ∃ p ys, xs = [.ref p] ∧ (SqL K H p ys ∨ SqT K H p ys) ∧ ∀ l, H l = none → Q (.ref l) (upd H l (.lst ys))
def rTupOf (K : PySem.W.Frag) : List V → Hp → VK → Prop := fun xs H Q => ∃ p ys, xs = [.ref p] ∧ ((SqL K H p ys ∧ ∀ l, H l = none → Q (.ref l) (upd H l (.tup ys))) ∨ (SqT K H p ys ∧ Q (.ref p) H))
def rIsN : R2 := fun x y H Q => y = .non ∧ Q (.bl (decide (x = .non))) H
def rNotN : R2 := fun x y H Q => y = .non ∧ Q (.bl (!decide (x = .non))) H
def rIsTy : R2 := fun x y H Q => ∃ a b, x = .ty a ∧ y = .ty b ∧ Q (.bl (decide (a = b))) H
def rInsert : V → List V → Hp → VK → Prop := fun x vs H Q => ∃ (l : Addr) (xs : List V) (i : Int) (y : V), x = .ref l ∧ vs = [.int i, y] ∧ H l = some (.lst xs) ∧ xs.length < sizeLine ∧ 0 ≤ i ∧ i < 2 ^ 63 ∧ Q .non (upd H l (.lst (xs.take i.toNat ++ [y] ++ xs.drop i.toNat)))
def rMin2 : List V → Hp → VK → Prop := fun xs H Q => ∃ i j, xs = [.int i, .int j] ∧ Q (.int (if j < i then j else i)) H
def rMax2 : List V → Hp → VK → Prop := fun xs H Q => ∃ i j, xs = [.int i, .int j] ∧ Q (.int (if j > i then j else i)) H
section
variable {X : Cx}
theorem k_len : CallR X (.builtin "len") (rLen X.K) := call_len_seq
theorem k_abs : CallR X (.builtin "abs") rAbs := call_abs
theorem k_listOf : CallR X (.type "list") (rListOf X.K) := call_list_of
theorem k_tupOf : CallR X (.type "tuple") (rTupOf X.K) := call_tuple_of
theorem k_isN : OpR X (compareOp .Is) rIsN := op_isN
theorem k_notN : OpR X (compareOp .IsNot) rNotN := op_notN
theorem k_isTy : OpR X (compareOp .Is) rIsTy := op_isTyB
theorem k_insert : MtR X "list.insert" rInsert := mt_insert
theorem k_min2 (hc : X.calm = true) : CallR X (.builtin "min") rMin2 := call_min2 hc
theorem k_max2 (hc : X.calm = true) : CallR X (.builtin "max") rMax2 := call_max2 hc
end
theorem dec_int (a b : Int) : decide (V.int a = V.int b) = decide (a = b) := by
  by_cases h : a = b
  · rw [decide_eq_true h, h, decide_eq_true rfl]
  · rw [decide_eq_false h, decide_eq_false fun z => h (V.int.inj z)]
theorem dec_str (a b : Str) : decide (V.str a = V.str b) = decide (a = b) := by
  by_cases h : a = b
  · rw [decide_eq_true h, h, decide_eq_true rfl]
  · rw [decide_eq_false h, decide_eq_false fun z => h (V.str.inj z)]
theorem dec_bl (a b : Bool) : decide (V.bl a = V.bl b) = decide (a = b) := by
  by_cases h : a = b
  · rw [decide_eq_true h, h, decide_eq_true rfl]
  · rw [decide_eq_false h, decide_eq_false fun z => h (V.bl.inj z)]

/-! ### the steps -/
section
variable {r r' : R2} {ta tb tc te ti : TE} {tr : TA} {t u : TT} {Q : VK} {QT : Bool → Hp → Prop} {QV : List V → Hp → Prop} {QS : L2.St → Hp → Prop} {σ σ' σ2 : L2.St} {v w x y : V} {K : PySem.W.Frag} {H : Hp} {i j : Nat} {b : Bool} {a c : Int}
  {ts us : TS} {nx : L2.St → Hp → Prop} {rt : VK} {bk ct : L2.St → Hp → Prop} {D : Ends} {g : TG} {gs : TGs} {vs xs : List V}
instance : Step (tSeq ts us ⟨nx, rt, bk, ct⟩ σ H) (ts ⟨us ⟨nx, rt, bk, ct⟩, rt, bk, ct⟩ σ H) := ⟨fun h => h⟩
instance : Step (tNext ⟨nx, rt, bk, ct⟩ σ H) (nx σ H) := ⟨fun h => h⟩
instance : Step (tBreak ⟨nx, rt, bk, ct⟩ σ H) (bk σ H) := ⟨fun h => h⟩
instance : Step (tCont ⟨nx, rt, bk, ct⟩ σ H) (ct σ H) := ⟨fun h => h⟩
instance : Step (tAsg te g ⟨nx, rt, bk, ct⟩ σ H) (te σ H (kAsg σ g nx)) := ⟨fun h => h⟩
instance : Step (kAsg σ g nx x H) (g x σ H nx) := ⟨fun h => h⟩
instance : Step (tDrop te ⟨nx, rt, bk, ct⟩ σ H) (te σ H (kDrop σ nx)) := ⟨fun h => h⟩
instance : Step (kDrop σ nx x H) (nx σ H) := ⟨fun h => h⟩
instance : Step (tRet te ⟨nx, rt, bk, ct⟩ σ H) (te σ H rt) := ⟨fun h => h⟩
instance : Step (tRetN ⟨nx, rt, bk, ct⟩ σ H) (rt .non H) := ⟨fun h => h⟩
instance : Step (tIfS t ts us D σ H) (t σ H (kIfS σ ts us D)) := ⟨fun h => h⟩
instance : Step (kIfS σ ts us D true H) (ts D σ H) := ⟨fun h => iteT h⟩
instance : Step (kIfS σ ts us D false H) (us D σ H) := ⟨fun h => iteF h⟩
instance [e : Pu i v σ σ'] : Step (gName i v σ H QS) (QS σ' H) := ⟨fun h => by show QS (σ.set i (some v)) H; rw [e.h]; exact h⟩
instance : Step (gCons g gs (v :: vs) σ H QS) (g v σ H (kG gs vs QS)) := ⟨fun h => ⟨v, vs, rfl, h⟩⟩
instance : Step (kG gs vs QS σ H) (gs vs σ H QS) := ⟨fun h => h⟩
instance : Step (gNil [] σ H QS) (QS σ H) := ⟨fun h => ⟨rfl, h⟩⟩
instance {tset : TSet} : Step (gSub te ti tset v σ H QS) (te σ H (kGs1 σ ti tset v QS)) := ⟨fun h => h⟩
instance {tset : TSet} : Step (kGs1 σ ti tset v QS x H) (ti σ H (kGs2 σ tset x v QS)) := ⟨fun h => h⟩
instance {tset : TSet} : Step (kGs2 σ tset x v QS y H) (tset x y v H (QS σ)) := ⟨fun h => h⟩
instance : Step (tPar i j tr ⟨nx, rt, bk, ct⟩ σ H) (tr σ H (kPar σ i j nx)) := ⟨fun h => h⟩
instance [e : Pu i v σ σ'] [f : Pu j w σ' σ2] : Step (kPar σ i j nx [v, w] H) (nx σ2 H) := ⟨fun h => ⟨v, w, rfl, by rw [e.h, f.h]; exact h⟩⟩
instance {ti : TIp} [e : Lk i σ x] : Step (tAug i te ti ⟨nx, rt, bk, ct⟩ σ H) (te σ H (kAug σ x i ti nx)) := ⟨fun h => ⟨x, e.h, h⟩⟩
instance {f : Int → Int → Int} : Step (kAug σ (.int a) i (ipI f) nx (.int c) H) (kPut σ i nx (.int (f a c)) H) := ⟨fun h => ⟨a, c, rfl, rfl, h⟩⟩
instance [e : Pu i v σ σ'] : Step (kPut σ i nx v H) (nx σ' H) := ⟨fun h => by show nx (σ.set i (some v)) H; rw [e.h]; exact h⟩
instance [e : Lk i σ v] : Step (tVar i σ H Q) (Q v H) := ⟨fun h => ⟨v, e.h, h⟩⟩
instance : Step (tC v σ H Q) (Q v H) := ⟨fun h => h⟩
instance : Step (tOp r ta tb σ H Q) (ta σ H (kOp1 r tb Q σ)) := ⟨fun h => h⟩
instance : Step (kOp1 r tb Q σ x H) (tb σ H (kOp2 r Q x)) := ⟨fun h => h⟩
instance : Step (kOp2 r Q x y H) (r x y H Q) := ⟨fun h => h⟩
instance {ru : V → Hp → VK → Prop} : Step (tUn ru ta σ H Q) (ta σ H (kUn Q ru)) := ⟨fun h => h⟩
instance {ru : V → Hp → VK → Prop} : Step (kUn Q ru x H) (ru x H Q) := ⟨fun h => h⟩
instance {gu : Int → V} : Step (rU gu (.int a) H Q) (Q (gu a) H) := ⟨fun h => ⟨a, rfl, h⟩⟩
instance {gi : Int → Int → V} : Step (rI0 gi (.int a) (.int c) H Q) (Q (gi a c) H) := ⟨fun h => ⟨a, c, rfl, rfl, h⟩⟩
instance : Step (rEq (.int a) (.int c) H Q) (Q (.bl (decide (a = c))) H) := ⟨fun h => ⟨rfl, by rw [dec_int]; exact h⟩⟩
instance : Step (rNe (.int a) (.int c) H Q) (Q (.bl (!decide (a = c))) H) := ⟨fun h => ⟨rfl, by rw [dec_int]; exact h⟩⟩
instance {a c : Str} : Step (rEq (.str a) (.str c) H Q) (Q (.bl (decide (a = c))) H) := ⟨fun h => ⟨rfl, by rw [dec_str]; exact h⟩⟩
instance {a c : Str} : Step (rNe (.str a) (.str c) H Q) (Q (.bl (!decide (a = c))) H) := ⟨fun h => ⟨rfl, by rw [dec_str]; exact h⟩⟩
instance {a c : Bool} : Step (rEq (.bl a) (.bl c) H Q) (Q (.bl (decide (a = c))) H) := ⟨fun h => ⟨rfl, by rw [dec_bl]; exact h⟩⟩
instance {a c : Bool} : Step (rNe (.bl a) (.bl c) H Q) (Q (.bl (!decide (a = c))) H) := ⟨fun h => ⟨rfl, by rw [dec_bl]; exact h⟩⟩
instance : Step (rIsN v .non H Q) (Q (.bl (decide (v = .non))) H) := ⟨fun h => ⟨rfl, h⟩⟩
instance : Step (rNotN v .non H Q) (Q (.bl (!decide (v = .non))) H) := ⟨fun h => ⟨rfl, h⟩⟩
instance {s s' : String} : Step (rIsTy (.ty s) (.ty s') H Q) (Q (.bl (decide (s = s'))) H) := ⟨fun h => ⟨s, s', rfl, rfl, h⟩⟩
instance : Step (rTyp K [.int a] H Q) (Q (.ty "int") H) := ⟨fun h => ⟨.int a, "int", rfl, .int a, h⟩⟩
instance : Step (tTest te σ H QT) (te σ H (kBool QT)) := ⟨fun h => h⟩
instance : Step (tB te σ H QT) (te σ H (kBool QT)) := ⟨fun h => h⟩
instance : Step (kBool QT (.bl b) H) (QT b H) := ⟨fun h => ⟨b, rfl, h⟩⟩
instance : Step (tAnd t u σ H QT) (t σ H (kAnd u QT σ)) := ⟨fun h => h⟩
instance : Step (kAnd u QT σ true H) (u σ H QT) := ⟨fun h => iteT h⟩
instance : Step (kAnd u QT σ false H) (QT false H) := ⟨fun h => iteF h⟩
instance : Step (tOr t u σ H QT) (t σ H (kOr u QT σ)) := ⟨fun h => h⟩
instance : Step (kOr u QT σ true H) (QT true H) := ⟨fun h => iteT h⟩
instance : Step (kOr u QT σ false H) (u σ H QT) := ⟨fun h => iteF h⟩
instance : Step (tNot t σ H QT) (t σ H (kNot QT)) := ⟨fun h => h⟩
instance : Step (kNot QT true H) (QT false H) := ⟨fun h => h⟩
instance : Step (kNot QT false H) (QT true H) := ⟨fun h => h⟩
instance : Step (tAndV ta tb σ H Q) (ta σ H (kAndV tb Q σ)) := ⟨fun h => h⟩
instance : Step (kAndV tb Q σ (.bl b) H) (kAndB tb Q σ b H) := ⟨fun h => ⟨b, rfl, h⟩⟩
instance : Step (kAndB tb Q σ true H) (tb σ H Q) := ⟨fun h => iteT h⟩
instance : Step (kAndB tb Q σ false H) (Q (.bl false) H) := ⟨fun h => iteF h⟩
instance : Step (tOrV ta tb σ H Q) (ta σ H (kOrV tb Q σ)) := ⟨fun h => h⟩
instance : Step (kOrV tb Q σ (.bl b) H) (kOrB tb Q σ b H) := ⟨fun h => ⟨b, rfl, h⟩⟩
instance : Step (kOrB tb Q σ true H) (Q (.bl true) H) := ⟨fun h => iteT h⟩
instance : Step (kOrB tb Q σ false H) (tb σ H Q) := ⟨fun h => iteF h⟩
instance : Step (tNotV ta σ H Q) (ta σ H (kNotV Q)) := ⟨fun h => h⟩
instance : Step (kNotV Q (.bl b) H) (kNotB Q b H) := ⟨fun h => ⟨b, rfl, h⟩⟩
instance : Step (kNotB Q true H) (Q (.bl false) H) := ⟨fun h => h⟩
instance : Step (kNotB Q false H) (Q (.bl true) H) := ⟨fun h => h⟩
instance : Step (tIf t ta tb σ H Q) (t σ H (kIf ta tb Q σ)) := ⟨fun h => h⟩
instance : Step (kIf ta tb Q σ true H) (ta σ H Q) := ⟨fun h => iteT h⟩
instance : Step (kIf ta tb Q σ false H) (tb σ H Q) := ⟨fun h => iteF h⟩
instance : Step (tChain r r' ta tb tc σ H Q) (ta σ H (kCh1 r r' tb tc Q σ)) := ⟨fun h => h⟩
instance : Step (kCh1 r r' tb tc Q σ x H) (tb σ H (kCh2 r r' tc Q σ x)) := ⟨fun h => h⟩
instance : Step (kCh2 r r' tc Q σ x y H) (r x y H (kCh3 r' tc Q σ y)) := ⟨fun h => h⟩
instance : Step (kCh3 r' tc Q σ y (.bl b) H) (kCh4 r' tc Q σ y b H) := ⟨fun h => ⟨b, rfl, h⟩⟩
instance : Step (kCh4 r' tc Q σ y true H) (tc σ H (kOp2 r' Q y)) := ⟨fun h => iteT h⟩
instance : Step (kCh4 r' tc Q σ y false H) (Q (.bl false) H) := ⟨fun h => iteF h⟩
instance : Step (tNil σ H QV) (QV [] H) := ⟨fun h => h⟩
instance : Step (tCons ta tr σ H QV) (ta σ H (kCons tr QV σ)) := ⟨fun h => h⟩
instance : Step (kCons tr QV σ x H) (tr σ H (kPre QV x)) := ⟨fun h => h⟩
instance : Step (kPre QV x xs H) (QV (x :: xs) H) := ⟨fun h => h⟩
instance {rc : List V → Hp → VK → Prop} : Step (tCB rc tr σ H Q) (tr σ H (kCB Q rc)) := ⟨fun h => h⟩
instance {rc : List V → Hp → VK → Prop} : Step (kCB Q rc xs H) (rc xs H Q) := ⟨fun h => h⟩
instance : Step (rAbs [.int a] H Q) (Q (.int (if a < 0 then -a else a)) H) := ⟨fun h => ⟨a, rfl, h⟩⟩
instance : Step (rMin2 [.int a, .int c] H Q) (Q (.int (if c < a then c else a)) H) := ⟨fun h => ⟨a, c, rfl, h⟩⟩
instance : Step (rMax2 [.int a, .int c] H Q) (Q (.int (if c > a then c else a)) H) := ⟨fun h => ⟨a, c, rfl, h⟩⟩
theorem call_nil {sp : Sp} {E : XK} (h : tr σ H (kCall Q sp E)) : tCall sp [] E tr σ H Q := by
  have e0 : (fun (vs : List V) (H1 : Hp) => sp (vs ++ []) H1 Q E) = kCall Q sp E := by
    funext vs H1
    rw [List.append_nil]
    rfl
  show tr σ H (fun vs H1 => sp (vs ++ []) H1 Q E)
  rw [e0]
  exact h
instance {sp : Sp} {E : XK} : Step (tCall sp [] E tr σ H Q) (tr σ H (kCall Q sp E)) := ⟨call_nil⟩
instance {sp : Sp} {E : XK} : Step (kCall Q sp E xs H) (sp xs H Q E) := ⟨fun h => h⟩
instance {T : String} {rm : V → List V → Hp → VK → Prop} : Step (tBM K T rm te tr σ H Q) (te σ H (kBM tr Q σ K T rm)) := ⟨fun h => h⟩
instance {T : String} {rm : V → List V → Hp → VK → Prop} : Step (tBM0 K T rm te σ H Q) (te σ H (kBM0 Q K T rm)) := ⟨fun h => h⟩
instance {rm : V → List V → Hp → VK → Prop} : Step (kRv Q x rm xs H) (rm x xs H Q) := ⟨fun h => h⟩
instance : Step (tLst tr σ H Q) (tr σ H (kLst Q)) := ⟨fun h => h⟩
instance : Step (tTup tr σ H Q) (tr σ H (kTup Q)) := ⟨fun h => h⟩
instance {QO : Option Int → Hp → Prop} : Step (tNoPart σ H QO) (QO none H) := ⟨fun h => h⟩
instance {QO : Option Int → Hp → Prop} : Step (tPart ta σ H QO) (ta σ H (kPart QO)) := ⟨fun h => h⟩
instance {QO : Option Int → Hp → Prop} : Step (kPart QO (.int a) H) (QO (some a) H) := ⟨fun h => ⟨a, rfl, h⟩⟩
instance {rs : V → Option Int → Option Int → Hp → VK → Prop} {tl th : TO} : Step (tSl rs te tl th σ H Q) (te σ H (kSl1 Q σ rs tl th)) := ⟨fun h => h⟩
instance {rs : V → Option Int → Option Int → Hp → VK → Prop} {tl th : TO} : Step (kSl1 Q σ rs tl th x H) (tl σ H (kSl2 Q σ x rs th)) := ⟨fun h => h⟩
instance {rs : V → Option Int → Option Int → Hp → VK → Prop} {th : TO} {l : Option Int} : Step (kSl2 Q σ x rs th l H) (th σ H (kSl3 Q x rs l)) := ⟨fun h => h⟩
instance {rs : V → Option Int → Option Int → Hp → VK → Prop} {l o : Option Int} : Step (kSl3 Q x rs l o H) (rs x l o H Q) := ⟨fun h => h⟩
instance : Step (tLstRg (tRg1 ta) σ H Q) (ta σ H (kLstRg Q)) := ⟨fun h => h⟩
instance : Step (tRevL K ta σ H Q) (ta σ H (kRev Q K)) := ⟨fun h => h⟩
instance : Step (tDGet ta tb σ H Q) (ta σ H (kDGet1 Q σ tb)) := ⟨fun h => h⟩
instance : Step (kDGet1 Q σ tb x H) (tb σ H (kDGet2 Q x)) := ⟨fun h => h⟩
instance : Step (tDIn ta tb σ H Q) (ta σ H (kDIn1 Q σ tb)) := ⟨fun h => h⟩
instance : Step (kDIn1 Q σ tb y H) (tb σ H (kDIn2 Q y)) := ⟨fun h => h⟩
instance {sp : Sp} : Step (kCallA Q sp xs H) (sp xs H Q (fun _ _ _ => False)) := ⟨fun h => h⟩
end

/-! ### steps that ask something -/
section
variable {K : PySem.W.Frag} {H : Hp} {Q : VK} {xs ys zs : List V} {a l b p : Addr} {x y z v : V} {σ : L2.St} {tr : TA} {QS : L2.St → Hp → Prop}
theorem i_start {t : TS} {D : Ends} {σ σ' : L2.St} {H : Hp} (e : σ = σ') (q : t D σ' H) : t D σ H := by
  rw [e]
  exact q
/-- by cases on a test -/
theorem i_br {F : Bool → Hp → Prop} {c : Prop} [Decidable c] (h1 : c → F true H) (h2 : ¬ c → F false H) : F (decide c) H := by
  by_cases h : c
  · rw [decide_eq_true h]
    exact h1 h
  · rw [decide_eq_false h]
    exact h2 h
theorem i_nbr {F : Bool → Hp → Prop} {c : Prop} [Decidable c] (h1 : c → F false H) (h2 : ¬ c → F true H) : F (!decide c) H := by
  by_cases h : c
  · rw [decide_eq_true h]
    exact h1 h
  · rw [decide_eq_false h]
    exact h2 h
theorem i_yes {F : Bool → Hp → Prop} {c : Prop} [Decidable c] (h : c) (q : F true H) : F (decide c) H := by
  rw [decide_eq_true h]
  exact q
theorem i_no {F : Bool → Hp → Prop} {c : Prop} [Decidable c] (h : ¬ c) (q : F false H) : F (decide c) H := by
  rw [decide_eq_false h]
  exact q
theorem i_nyes {F : Bool → Hp → Prop} {c : Prop} [Decidable c] (h : c) (q : F false H) : F (!decide c) H := by
  rw [decide_eq_true h]
  exact q
theorem i_nno {F : Bool → Hp → Prop} {c : Prop} [Decidable c] (h : ¬ c) (q : F true H) : F (!decide c) H := by
  rw [decide_eq_false h]
  exact q
theorem i_bool {F : Bool → Hp → Prop} {c : Bool} (h1 : c = true → F true H) (h2 : c = false → F false H) : F c H := by
  cases c with
  | true => exact h1 rfl
  | false => exact h2 rfl
theorem i_I {C : Int → Int → Prop} {g : Int → Int → V} {i j : Int} (c : C i j) (q : Q (g i j) H) : rI C g (.int i) (.int j) H Q := ⟨i, j, rfl, rfl, c, q⟩
theorem i_ixL {i : Int} (h : SqL K H p xs) (e : atI xs i = some v) (q : Q v H) : rIxL K (.ref p) (.int i) H Q := ⟨p, xs, i, v, rfl, rfl, h, e, q⟩
theorem i_ixT {i : Int} (h : SqT K H p xs) (e : atI xs i = some v) (q : Q v H) : rIxT K (.ref p) (.int i) H Q := ⟨p, xs, i, v, rfl, rfl, h, e, q⟩
theorem i_setL {k : Int} {j : Nat} {w : V} {Q : Hp → Prop} (h : H l = some (.lst xs)) (e : ixN xs.length k = some j) (q : Q (upd H l (.lst (xs.set j w)))) : rSetL (.ref l) (.int k) w H Q := ⟨l, xs, k, j, rfl, rfl, h, e, q⟩
theorem i_gtup {n : Nat} {t : TGs} (h : SqT K H a xs) (e : xs.length = n) (q : t xs σ H QS) : gTup K n t (.ref a) σ H QS := ⟨a, xs, rfl, h, e, q⟩
theorem i_bm {r : V → List V → Hp → VK → Prop} (h : SqL K H a xs) (q : tr σ H (kRv Q (.ref a) r)) : kBM tr Q σ K "list" r (.ref a) H := ⟨.inl ⟨rfl, _, h⟩, q⟩
theorem i_bm0 {r : V → List V → Hp → VK → Prop} (h : SqL K H a xs) (q : r (.ref a) [] H Q) : kBM0 Q K "list" r (.ref a) H := ⟨.inl ⟨rfl, _, h⟩, q⟩
theorem i_len (h : SqL K H a xs) (q : Q (.int (xs.length : Nat)) H) : rLen K [.ref a] H Q := ⟨a, xs, rfl, .inl h, q⟩
theorem i_lenI {ns : List Int} (h : SqL K H a (ns.map V.int)) (q : Q (.int (ns.length : Nat)) H) : rLen K [.ref a] H Q := ⟨a, _, rfl, .inl h, by rw [List.length_map]; exact q⟩
theorem i_lenT (h : SqT K H a xs) (q : Q (.int (xs.length : Nat)) H) : rLen K [.ref a] H Q := ⟨a, xs, rfl, .inr h, q⟩
theorem i_append (h : H l = some (.lst xs)) (hz : xs.length < sizeLine) (q : Q .non (upd H l (.lst (xs ++ [y])))) : rAppend (.ref l) [y] H Q := ⟨l, xs, y, rfl, rfl, h, hz, q⟩
theorem i_extend (h : H l = some (.lst xs)) (h' : H b = some (.lst zs)) (hz : xs.length + zs.length ≤ sizeLine) (q : Q .non (upd H l (.lst (xs ++ zs)))) : rExtend (.ref l) [.ref b] H Q := ⟨l, b, xs, zs, rfl, rfl, h, h', hz, q⟩
theorem i_pop (h : H l = some (.lst xs)) (hy : xs[xs.length - 1]? = some y) (q : Q y (upd H l (.lst xs.dropLast))) : rPop (.ref l) [] H Q := ⟨l, xs, y, rfl, rfl, h, hy, q⟩
theorem ixN_of {n j : Nat} {i : Int} (e : i = (j : Int)) (hj : j < n) : ixN n i = some j := by
  subst e
  unfold ixN
  rw [if_pos (by omega), if_pos (by omega)]
  simp
theorem at_of {j : Nat} {i : Int} (e : i = (j : Int)) (h : xs[j]? = some v) : atI xs i = some v := by
  subst e
  exact atI_nat h
theorem i_popAt {j : Nat} {i : Int} (h : H l = some (.lst xs)) (e : i = (j : Int)) (hj : xs[j]? = some y) (hl : xs.length ≤ 100000) (q : Q y (upd H l (.lst (xs.eraseIdx j)))) : rPopAt (.ref l) [.int i] H Q := by
  have hlt : j < xs.length := (List.getElem?_eq_some_iff.mp hj).1
  have e1 : ixN xs.length (j : Int) = some j := ixN_of rfl hlt
  subst e
  exact ⟨l, xs, (j : Int), j, y, rfl, rfl, h, by omega, by omega, (ixN_seq e1).1, hj, q⟩
theorem i_insert0 (h : H l = some (.lst xs)) (hz : xs.length < sizeLine) (q : Q .non (upd H l (.lst (y :: xs)))) : rInsert (.ref l) [.int 0, y] H Q := ⟨l, xs, 0, y, rfl, rfl, h, hz, by decide, by decide, q⟩
/-- a new object: the heap behind it is one that grew -/
theorem i_lst (hz : xs.length ≤ sizeLine) (q : ∀ p H', H p = none → Same H H' → H' p = some (.lst xs) → Q (.ref p) H') : kLst Q xs H := ⟨hz, fun p hp => q p _ hp (fun b x e => by rw [upd_ne (ne_of_none e hp)]; exact e) upd_same⟩
theorem i_tup (hz : xs.length ≤ sizeLine) (q : ∀ p H', H p = none → Same H H' → H' p = some (.tup xs) → Q (.ref p) H') : kTup Q xs H := ⟨hz, fun p hp => q p _ hp (fun b x e => by rw [upd_ne (ne_of_none e hp)]; exact e) upd_same⟩
theorem grow {o : HO} (q : ∀ p H', H p = none → Same H H' → H' p = some o → Q (.ref p) H') : ∀ p, H p = none → Q (.ref p) (upd H p o) := fun p hp => q p _ hp (fun b x e => by rw [upd_ne (ne_of_none e hp)]; exact e) upd_same
theorem i_cat (h1 : H l = some (.lst xs)) (h' : H b = some (.lst zs)) (hz : xs.length + zs.length ≤ sizeLine) (q : ∀ p H', H p = none → Same H H' → H' p = some (.lst (xs ++ zs)) → Q (.ref p) H') : rCat (.ref l) (.ref b) H Q := ⟨l, b, xs, zs, rfl, rfl, h1, h', hz, grow q⟩
theorem i_slL {lo hi : Option Int} (h : SqL K H a xs) (q : ∀ p H', H p = none → Same H H' → H' p = some (.lst (cutV xs lo hi)) → Q (.ref p) H') : rSlL K (.ref a) lo hi H Q := ⟨a, xs, rfl, h, grow q⟩
theorem i_listOf (h : SqL K H a xs) (q : ∀ p H', H p = none → Same H H' → H' p = some (.lst xs) → Q (.ref p) H') : rListOf K [.ref a] H Q := ⟨a, xs, rfl, .inl h, grow q⟩
theorem i_listOfT (h : SqT K H a xs) (q : ∀ p H', H p = none → Same H H' → H' p = some (.lst xs) → Q (.ref p) H') : rListOf K [.ref a] H Q := ⟨a, xs, rfl, .inr h, grow q⟩
theorem i_tupOf (h : SqL K H a xs) (q : ∀ p H', H p = none → Same H H' → H' p = some (.tup xs) → Q (.ref p) H') : rTupOf K [.ref a] H Q := ⟨a, xs, rfl, .inl ⟨h, grow q⟩⟩
theorem i_lstRg {n : Int} (hn : 0 ≤ n ∧ n ≤ 16777216) (q : ∀ p H', H p = none → Same H H' → H' p = some (.lst (rgV 0 n)) → Q (.ref p) H') : kLstRg Q (.int n) H := ⟨n, rfl, RgOk.of_le (Int.le_refl 0) hn.2 (by decide) hn.1, grow q⟩
theorem i_rev (h : SqL K H a xs) (q : ∀ p H', H p = none → Same H H' → H' p = some (.lst xs.reverse) → Q (.ref p) H') : kRev Q K (.ref a) H := ⟨a, xs, rfl, h, grow q⟩
theorem i_cut {t u : TS} {nx : L2.St → Hp → Prop} {rt : VK} {bk ct : L2.St → Hp → Prop} {σ : L2.St} (Mid : L2.St → Hp → Prop) (h1 : t ⟨Mid, rt, bk, ct⟩ σ H) (h2 : ∀ σ' H', Mid σ' H' → u ⟨nx, rt, bk, ct⟩ σ' H') : C8.tCut t u ⟨nx, rt, bk, ct⟩ σ H := ⟨Mid, h1, h2⟩
end

/-! ### heaps -/
theorem upd_at {H : Hp} {a b : Addr} {o u : HO} (n : b ≠ a) (h : H b = some u) : upd H a o b = some u := (upd_ne n).trans h
theorem mut_at {H H' : Hp} {a p : Addr} {o u : HO} (s : Same H H') (n : H p = none) (h : H a = some u) : upd H' p o a = some u := by
  rw [upd_ne (ne_of_none h n)]
  exact s a u h
theorem same_at {H H' : Hp} {a : Addr} {o : HO} (s : Same H H') (h : H a = some o) : H' a = some o := s a o h
theorem same_new {H : Hp} {p : Addr} {o : HO} (h : H p = none) : Same H (upd H p o) := fun b x e => by
  rw [upd_ne (ne_of_none e h)]
  exact e
/-- what the first heap doesn't know may change -/
theorem smut {H H' : Hp} {p : Addr} {o : HO} (s : Same H H') (h : H p = none) : Same H (upd H' p o) := fun b x e => by
  rw [upd_ne (ne_of_none e h)]
  exact s b x e
theorem stup {K : PySem.W.Frag} {H H' : Hp} {a : Addr} {xs : List V} (e : Same H H') (h : SqT K H a xs) : SqT K H' a xs := by
  rcases h with (h | ⟨o, h⟩) | h
  · exact .inl (.inl (e _ _ h))
  · exact .inl (.inr ⟨o, e _ _ h⟩)
  · exact .inr h
theorem mut_l {K : PySem.W.Frag} {H H' : Hp} {a p : Addr} {o : HO} {xs : List V} (s : Same H H') (n : H p = none) (h : SqL K H a xs) : SqL K (upd H' p o) a xs := (smut s n).seq h
theorem mut_t {K : PySem.W.Frag} {H H' : Hp} {a p : Addr} {o : HO} {xs : List V} (s : Same H H') (n : H p = none) (h : SqT K H a xs) : SqT K (upd H' p o) a xs := stup (smut s n) h
/-- the heap without what stands at d -/
def hide (d : Addr) (H : Hp) : Hp := fun a => if a = d then none else H a
theorem hide_d {d : Addr} {H : Hp} : hide d H d = none := by
  unfold hide
  rw [if_pos rfl]
theorem hide_ne {d a : Addr} {H : Hp} (h : a ≠ d) : hide d H a = H a := by
  unfold hide
  rw [if_neg h]
theorem hide_same {d : Addr} {H : Hp} : Same (hide d H) H := fun b o e => by
  by_cases h : b = d
  · rw [h, hide_d] at e
    cases e
  · rw [hide_ne h] at e
    exact e
theorem hide_of {d : Addr} {H0 H : Hp} (n : H0 d = none) (s : Same H0 H) : Same H0 (hide d H) := fun b o e => by
  rw [hide_ne (ne_of_none e n)]
  exact s b o e
theorem hide_tr {d : Addr} {H H1 H2 : Hp} (s : Same (hide d H) H1) (t : Same (hide d H1) H2) : Same (hide d H) H2 := fun b o e => by
  have nb : b ≠ d := fun y => by
    rw [y, hide_d] at e
    cases e
  exact t b o ((hide_ne nb).trans (s b o e))
theorem hide_mut {d : Addr} {H : Hp} {o : HO} : Same (hide d H) (upd H d o) := smut hide_same hide_d
theorem sl_of {K : PySem.W.Frag} {H : Hp} {a : Addr} {xs : List V} (h : H a = some (.lst xs)) : SqL K H a xs := .inl (.inl h)
theorem st_of {K : PySem.W.Frag} {H : Hp} {a : Addr} {xs : List V} (h : H a = some (.tup xs)) : SqT K H a xs := .inl (.inl h)
theorem sz {n : Nat} (h : n ≤ 100000) : n ≤ sizeLine := Nat.le_trans h (by decide)
theorem szl {n : Nat} (h : n < 100000) : n < sizeLine := Nat.lt_of_lt_of_le h (by decide)

/-! ### a def of the module with its parameters -/
structure Dd (K : PySem.W.Frag) (mg : Str → Option Value) (x : Str) (st : Stmt) (ps : List Str) : Prop where
  ex : ∃ f fd, C8.Def K mg x st f fd ∧ Binds K fd ps []
section
variable {P : Program} {w : World} {K : PySem.W.Frag} {mg : Str → Option Value} {base : Heap}
theorem Dd.cal {x : Str} {st : Stmt} {N ps : List Str} {k : Nat} {sp : Sp} (d : Dd K mg x st ps) (S : FnScope N ps (C8.fnScope st)) (len : ∀ vs H Q E, sp vs H Q E → vs.length = ps.length)
    (hbody : ∀ (f : Addr) (cdv : Value) (A : Around) (outer : List Env) (s : Shared) (H : Hp) (vs : List V) (Q : VK) (E : XK), Room k (A.deeper (envOfC x (C8.fnScope st) s.heap.objs.size f cdv)) → sp vs H Q E →
      ∃ t, PSs (cxOf C8.CX0 P w K mg base N x (C8.fnScope st) f cdv A outer s H E).nox (C8.fnBody st) t ∧ t { nx := fun _ H' => Q .non H', rt := Q } (start N vs) H) : C8.Cal P w K mg base (k + 1) x sp [] := by
  obtain ⟨f, fd, F, b⟩ := d.ex
  exact C8.cal0 F b .nil S len fun cdv A outer s H vs Q E hr h => hbody f cdv A outer s H vs Q E hr h
end
end Esc

/-! Loops and comprehensions. -/
namespace Esc
open PySem PySem.Spec PyProof.Rows L2

/-! ### slots forgotten -/
class Pn (i : Nat) (σ : L2.St) (σ' : outParam L2.St) : Prop where
  h : σ.set i none = σ'
instance Pn.z {x : Option V} {r : L2.St} : Pn 0 (x :: r) (none :: r) := ⟨rfl⟩
instance Pn.s {i : Nat} {x : Option V} {r r' : L2.St} [a : Pn i r r'] : Pn (i + 1) (x :: r) (x :: r') := ⟨by rw [List.set_cons_succ, a.h]⟩
class Wp (vs : List Nat) (σ : L2.St) (σ' : outParam L2.St) : Prop where
  h : wipe σ vs = σ'
instance Wp.nil {σ : L2.St} : Wp [] σ σ := ⟨rfl⟩
instance Wp.mnil {σ : L2.St} : Wp (List.map (fun (x : Str × Nat) => x.snd) []) σ σ := ⟨rfl⟩
instance Wp.mcons {y : Str} {v : Nat} {r : List (Str × Nat)} {σ σ1 σ2 : L2.St} [a : Wp (List.map (fun (x : Str × Nat) => x.snd) r) σ σ1] [b : Pn v σ1 σ2] : Wp (List.map (fun (x : Str × Nat) => x.snd) ((y, v) :: r)) σ σ2 := ⟨by
  show (wipe σ (List.map (fun (x : Str × Nat) => x.snd) r)).set v none = σ2
  rw [a.h, b.h]⟩
instance Wp.cons {v : Nat} {vs : List Nat} {σ σ1 σ2 : L2.St} [a : Wp vs σ σ1] [b : Pn v σ1 σ2] : Wp (v :: vs) σ σ2 := ⟨by
  show (wipe σ vs).set v none = σ2
  rw [a.h, b.h]⟩

/-! ### for -/
def Loop (J : It) (g : TG) (tb : TS) (D : Ends) (σ : L2.St) (H1 : Hp) : Prop := ∃ W : Nat → Nat → L2.St → Hp → Prop, (∃ m, W 0 m σ H1) ∧ ∀ i m σ H, W i m σ H →
  (J.stop i H ∧ D.nx σ H) ∨ (J.go i H ∧ ∃ N : L2.St → Hp → Prop, (∀ σ' H', N σ' H' → ∃ m', m' < m ∧ W (i + 1) m' σ' H') ∧ ∀ x H', J.yld i H x H' → g x σ H' fun σ2 H2 => tb { D with nx := N, ct := N, bk := D.nx } σ2 H2)
section
variable {K : PySem.W.Frag} {H : Hp} {g : TG} {tb : TS} {nx : L2.St → Hp → Prop} {rt : VK} {bk ct : L2.St → Hp → Prop} {σ : L2.St} {D : Ends} {te : TE} {ta : TA} {a : Addr} {xs : List V}
def kFor (K : PySem.W.Frag) (g : TG) (tb : TS) (D : Ends) (σ : L2.St) : VK := fun x H1 => ∃ a, x = .ref a ∧ (∃ xs, SqL K H1 a xs) ∧ Loop (Itl K a) g tb D σ H1
def kForT (K : PySem.W.Frag) (g : TG) (tb : TS) (D : Ends) (σ : L2.St) : VK := fun x H1 => ∃ a, x = .ref a ∧ (∃ xs, SqT K H1 a xs) ∧ Loop (Itt K a) g tb D σ H1
def kRng (g : TG) (tb : TS) (D : Ends) (σ : L2.St) : List V → Hp → Prop := fun vs H1 => ∃ j : Int, vs = [.int j] ∧ -(2 ^ 62) ≤ j ∧ j < 2 ^ 62 ∧ Loop (Itr 0 j.toNat) g tb D σ H1
def kEnm (K : PySem.W.Frag) (g : TG) (tb : TS) (D : Ends) (σ : L2.St) : List V → Hp → Prop := fun vs H1 => ∃ a xs, vs = [.ref a] ∧ SqL K H1 a xs ∧ Loop (Ite K a) g tb D σ H1
def kRvs (K : PySem.W.Frag) (g : TG) (tb : TS) (D : Ends) (σ : L2.St) : List V → Hp → Prop := fun vs H1 => ∃ (a : Addr) (xs : List V), vs = [.ref a] ∧ SqL K H1 a xs ∧ Loop (Itv K a xs.length) g tb D σ H1
instance : Step (tFor (iList K te) g tb D σ H) (te σ H (kFor K g tb D σ)) := ⟨fun h => h⟩
instance : Step (tFor (iTup K te) g tb D σ H) (te σ H (kForT K g tb D σ)) := ⟨fun h => h⟩
instance : Step (tFor (iRng1 ta) g tb D σ H) (ta σ H (kRng g tb D σ)) := ⟨fun h => h⟩
instance : Step (tFor (iEnum K ta) g tb D σ H) (ta σ H (kEnm K g tb D σ)) := ⟨fun h => h⟩
instance : Step (tFor (iRev K ta) g tb D σ H) (ta σ H (kRvs K g tb D σ)) := ⟨fun h => h⟩
theorem i_for (hx : SqL K H a xs) (Pv : Nat → L2.St → Hp → Prop) (h0 : Pv 0 σ H) (hl : ∀ i σ H, i ≤ xs.length → Pv i σ H → SqL K H a xs)
    (hs : ∀ i x σ H, xs[i]? = some x → Pv i σ H → g x σ H (tb ⟨Pv (i + 1), rt, nx, Pv (i + 1)⟩)) (hd : ∀ σ H, Pv xs.length σ H → nx σ H) : kFor K g tb ⟨nx, rt, bk, ct⟩ σ (.ref a) H :=
  ⟨a, rfl, ⟨xs, hx⟩, for_list (D := ⟨nx, rt, bk, ct⟩) (xs := xs) Pv h0 hl hs hd⟩
theorem i_forT (hx : SqT K H a xs) (Pv : Nat → L2.St → Hp → Prop) (h0 : Pv 0 σ H) (hl : ∀ i σ H, i ≤ xs.length → Pv i σ H → SqT K H a xs)
    (hs : ∀ i x σ H, xs[i]? = some x → Pv i σ H → g x σ H (tb ⟨Pv (i + 1), rt, nx, Pv (i + 1)⟩)) (hd : ∀ σ H, Pv xs.length σ H → nx σ H) : kForT K g tb ⟨nx, rt, bk, ct⟩ σ (.ref a) H :=
  ⟨a, rfl, ⟨xs, hx⟩, for_tup (D := ⟨nx, rt, bk, ct⟩) (xs := xs) Pv h0 hl hs hd⟩
theorem i_rng {n : Int} (hn : 0 ≤ n ∧ n ≤ 1000000) (Pv : Nat → L2.St → Hp → Prop) (h0 : Pv 0 σ H)
    (hs : ∀ (i : Nat) σ H, (i : Int) < n → Pv i σ H → g (.int (i : Int)) σ H (tb ⟨Pv (i + 1), rt, nx, Pv (i + 1)⟩)) (hd : ∀ σ H, Pv n.toNat σ H → nx σ H) : kRng g tb ⟨nx, rt, bk, ct⟩ σ [.int n] H :=
  ⟨n, rfl, by omega, by omega, for_range (D := ⟨nx, rt, bk, ct⟩) (lo := 0) (n := n.toNat) Pv h0 (fun i σ' H' hi p => by
    have e0 : (0 : Int) + (i : Int) = (i : Int) := Int.zero_add _
    rw [e0]
    exact hs i σ' H' (by omega) p) hd⟩
theorem i_enum (hx : SqL K H a xs) (Pv : Nat → L2.St → Hp → Prop) (h0 : Pv 0 σ H) (hl : ∀ i σ H, i ≤ xs.length → Pv i σ H → SqL K H a xs)
    (hs : ∀ i x σ H T H', xs[i]? = some x → Pv i σ H → H T = none → Same H H' → H' T = some (.tup [.int (i : Nat), x]) → g (.ref T) σ H' (tb ⟨Pv (i + 1), rt, nx, Pv (i + 1)⟩)) (hd : ∀ σ H, Pv xs.length σ H → nx σ H) :
    kEnm K g tb ⟨nx, rt, bk, ct⟩ σ [.ref a] H := by
  refine ⟨a, xs, rfl, hx, fun i m σ H => m = xs.length - i ∧ i ≤ xs.length ∧ Pv i σ H, ⟨xs.length, by simp, Nat.zero_le _, h0⟩, ?_⟩
  rintro i m σ H ⟨rfl, hi, p⟩
  have q := hl i σ H hi p
  by_cases hlt : i < xs.length
  · refine .inr ⟨⟨xs, xs[i], q, by simp [hlt]⟩, Pv (i + 1), fun σ' H' p' => ⟨xs.length - (i + 1), by omega, rfl, hlt, p'⟩, fun x H' y => ?_⟩
    obtain ⟨T, x, rfl, nT, rfl, y⟩ := y
    exact hs i x σ H T _ (y xs q) p nT (same_new nT) upd_same
  · have e : i = xs.length := by omega
    subst e
    exact .inl ⟨⟨xs, q, Nat.le_refl _⟩, hd σ H p⟩
theorem i_rvs (hx : SqL K H a xs) (Pv : Nat → L2.St → Hp → Prop) (h0 : Pv 0 σ H) (hl : ∀ i σ H, i ≤ xs.length → Pv i σ H → SqL K H a xs)
    (hs : ∀ i x σ H, i < xs.length → xs[xs.length - 1 - i]? = some x → Pv i σ H → g x σ H (tb ⟨Pv (i + 1), rt, nx, Pv (i + 1)⟩)) (hd : ∀ σ H, Pv xs.length σ H → nx σ H) :
    kRvs K g tb ⟨nx, rt, bk, ct⟩ σ [.ref a] H := by
  refine ⟨a, xs, rfl, hx, fun i m σ H => m = xs.length - i ∧ i ≤ xs.length ∧ Pv i σ H, ⟨xs.length, by simp, Nat.zero_le _, h0⟩, ?_⟩
  rintro i m σ H ⟨rfl, hi, p⟩
  have q := hl i σ H hi p
  by_cases hlt : i < xs.length
  · refine .inr ⟨⟨hlt, xs, xs[xs.length - 1 - i], q, List.getElem?_eq_getElem (by omega)⟩, Pv (i + 1), fun σ' H' p' => ⟨xs.length - (i + 1), by omega, rfl, hlt, p'⟩, fun x H' y => ?_⟩
    obtain ⟨e, y⟩ := y
    subst e
    exact hs i x σ _ hlt (y xs q) p
  · have e : i = xs.length := by omega
    subst e
    exact .inl ⟨Nat.le_refl _, hd σ H p⟩
end

/-! ### while -/
def kLess (W : Nat → L2.St → Hp → Prop) (m : Nat) : L2.St → Hp → Prop := fun σ H => ∃ m', m' < m ∧ W m' σ H
def kWh (tb : TS) (W : Nat → L2.St → Hp → Prop) (m : Nat) (nx : L2.St → Hp → Prop) (rt : VK) (σ : L2.St) : Bool → Hp → Prop := fun b H1 =>
  if b = true then ∃ N : L2.St → Hp → Prop, (∀ σ' H', N σ' H' → ∃ m', m' < m ∧ W m' σ' H') ∧ tb ⟨N, rt, nx, N⟩ σ H1 else nx σ H1
section
variable {H : Hp} {tb : TS} {tc : TT} {nx : L2.St → Hp → Prop} {rt : VK} {bk ct : L2.St → Hp → Prop} {σ : L2.St} {W : Nat → L2.St → Hp → Prop} {m : Nat}
instance : Step (kWh tb W m nx rt σ true H) (tb ⟨kLess W m, rt, nx, kLess W m⟩ σ H) := ⟨fun h => iteT ⟨kLess W m, fun _ _ q => q, h⟩⟩
instance : Step (kWh tb W m nx rt σ false H) (nx σ H) := ⟨fun h => iteF h⟩
theorem i_while (W : Nat → L2.St → Hp → Prop) (m0 : Nat) (h0 : W m0 σ H) (hs : ∀ m σ H, W m σ H → tc σ H (kWh tb W m nx rt σ)) : tWhile tc tb ⟨nx, rt, bk, ct⟩ σ H := ⟨W, ⟨m0, h0⟩, hs⟩
end

/-! ### comprehensions -/
def LcLoop (J : It) (g : TG) (tt : TT) (te : TE) (vs : List Nat) (σ : L2.St) (Q : VK) (H1 : Hp) : Prop := ∀ D, H1 D = none → ∃ W : Nat → Nat → Hp → Prop, (∃ m, W 0 m (upd H1 D (.lst []))) ∧ ∀ i m H, W i m H →
  (J.stop i H ∧ Q (.ref D) H) ∨ (J.go i H ∧ ∃ Nx : Hp → Prop, (∀ H', Nx H' → ∃ m', m' < m ∧ W (i + 1) m' H') ∧ ∀ x H', J.yld i H x H' → g x (wipe σ vs) H' fun σ2 H2 => wipe σ2 vs = wipe σ vs ∧ tt σ2 H2 fun b H3 =>
    if b = true then te σ2 H3 fun y H4 => ∃ acc, H4 D = some (.lst acc) ∧ acc.length < sizeLine ∧ Nx (upd H4 D (.lst (acc ++ [y]))) else Nx H3)
def kLc (te : TE) (QN : Hp → Prop) (QY : VK) (σ : L2.St) : Bool → Hp → Prop := fun b H => if b = true then te σ H QY else QN H
def kLcB (σ0 : L2.St) (vs : List Nat) (tt : TT) (te : TE) (QN : Hp → Prop) (QY : VK) : L2.St → Hp → Prop := fun σ2 H2 => wipe σ2 vs = σ0 ∧ tt σ2 H2 (kLc te QN QY σ2)
def kLcL (K : PySem.W.Frag) (g : TG) (tt : TT) (te : TE) (vs : List Nat) (σ : L2.St) (Q : VK) : VK := fun x H1 => ∃ a, x = .ref a ∧ (∃ xs, SqL K H1 a xs) ∧ LcLoop (Itl K a) g tt te vs σ Q H1
def kLcT (K : PySem.W.Frag) (g : TG) (tt : TT) (te : TE) (vs : List Nat) (σ : L2.St) (Q : VK) : VK := fun x H1 => ∃ a, x = .ref a ∧ (∃ xs, SqT K H1 a xs) ∧ LcLoop (Itt K a) g tt te vs σ Q H1
def kLcR (g : TG) (tt : TT) (te : TE) (vs : List Nat) (σ : L2.St) (Q : VK) : List V → Hp → Prop := fun us H1 => ∃ j : Int, us = [.int j] ∧ -(2 ^ 62) ≤ j ∧ j < 2 ^ 62 ∧ LcLoop (Itr 0 j.toNat) g tt te vs σ Q H1
section
variable {K : PySem.W.Frag} {H : Hp} {g : TG} {tt : TT} {te tl : TE} {ta : TA} {vs : List Nat} {σ σ0 σ2 : L2.St} {Q : VK} {a : Addr} {xs : List V} {QN : Hp → Prop} {QY : VK} {QT : Bool → Hp → Prop}
instance : Step (tLc (iList K tl) g tt te vs σ H Q) (tl σ H (kLcL K g tt te vs σ Q)) := ⟨fun h => h⟩
instance : Step (tLc (iTup K tl) g tt te vs σ H Q) (tl σ H (kLcT K g tt te vs σ Q)) := ⟨fun h => h⟩
instance : Step (tLc (iRng1 ta) g tt te vs σ H Q) (ta σ H (kLcR g tt te vs σ Q)) := ⟨fun h => h⟩
instance : Step (tYes σ H QT) (QT true H) := ⟨fun h => h⟩
instance : Step (kLc te QN QY σ true H) (te σ H QY) := ⟨fun h => iteT h⟩
instance : Step (kLc te QN QY σ false H) (QN H) := ⟨fun h => iteF h⟩
instance [w : Wp vs σ2 σ0] : Step (kLcB σ0 vs tt te QN QY σ2 H) (tt σ2 H (kLc te QN QY σ2)) := ⟨fun h => ⟨w.h, h⟩⟩
theorem fm_take {α β : Type} (F : α → Option β) {l : List α} {i : Nat} {x : α} (h : l[i]? = some x) : (l.take (i + 1)).filterMap F = (l.take i).filterMap F ++ (F x).toList := by
  rw [List.take_add_one, h, List.filterMap_append]
  cases e : F x <;> simp [List.filterMap, e]
theorem fm_len {α β : Type} (F : α → Option β) (l : List α) (i : Nat) : ((l.take i).filterMap F).length ≤ l.length :=
  Nat.le_trans (List.length_filterMap_le _ _) (by rw [List.length_take]; exact Nat.min_le_right _ _)
/-- a comprehension whose turns change nothing: F x is what x gives, none if it is left out -/
theorem i_lcL [w : Wp vs σ σ0] (F : V → Option V) (hx : SqL K H a xs) (hz : xs.length < 100000)
    (hs : ∀ x ∈ xs, ∀ H1, Same H H1 → ∀ (QN : Hp → Prop) (QY : VK), (F x = none → ∀ H2, Same H1 H2 → QN H2) → (∀ y, F x = some y → ∀ H2, Same H1 H2 → QY y H2) → g x σ0 H1 (kLcB σ0 vs tt te QN QY))
    (q : ∀ p H', H p = none → Same H H' → H' p = some (.lst (xs.filterMap F)) → Q (.ref p) H') : kLcL K g tt te vs σ Q (.ref a) H := by
  have w' := w.h
  subst w'
  refine ⟨a, rfl, ⟨xs, hx⟩, fun D hD => lc_list (xs := xs) (fun i H' => Same H H' ∧ H' D = some (.lst ((xs.take i).filterMap F))) ⟨same_new hD, upd_same⟩ (fun i H' _ p => p.1.seq hx) (fun i x H' hi p => ?_) (fun H' p => ?_)⟩
  · obtain ⟨s, e⟩ := p
    refine hs x (List.mem_of_getElem? hi) H' s (fun H2 => Same H H2 ∧ H2 D = some (.lst ((xs.take (i + 1)).filterMap F))) _ (fun hn H2 s2 => ⟨s.trans s2, ?_⟩) (fun y hy H2 s2 => ⟨_, s2 _ _ e, szl (Nat.lt_of_le_of_lt (fm_len F xs i) hz), smut (s.trans s2) hD, ?_⟩)
    · rw [fm_take F hi, hn]
      show H2 D = some (.lst (_ ++ []))
      rw [List.append_nil]
      exact s2 _ _ e
    · rw [fm_take F hi, hy]
      exact upd_same
  · rw [List.take_of_length_le (Nat.le_refl _)] at p
    exact q D H' hD p.1 p.2
theorem i_lcT [w : Wp vs σ σ0] (F : V → Option V) (hx : SqT K H a xs) (hz : xs.length < 100000)
    (hs : ∀ x ∈ xs, ∀ H1, Same H H1 → ∀ (QN : Hp → Prop) (QY : VK), (F x = none → ∀ H2, Same H1 H2 → QN H2) → (∀ y, F x = some y → ∀ H2, Same H1 H2 → QY y H2) → g x σ0 H1 (kLcB σ0 vs tt te QN QY))
    (q : ∀ p H', H p = none → Same H H' → H' p = some (.lst (xs.filterMap F)) → Q (.ref p) H') : kLcT K g tt te vs σ Q (.ref a) H := by
  have w' := w.h
  subst w'
  refine ⟨a, rfl, ⟨xs, hx⟩, fun D hD => lc_tup (xs := xs) (fun i H' => Same H H' ∧ H' D = some (.lst ((xs.take i).filterMap F))) ⟨same_new hD, upd_same⟩ (fun i H' _ p => stup p.1 hx) (fun i x H' hi p => ?_) (fun H' p => ?_)⟩
  · obtain ⟨s, e⟩ := p
    refine hs x (List.mem_of_getElem? hi) H' s (fun H2 => Same H H2 ∧ H2 D = some (.lst ((xs.take (i + 1)).filterMap F))) _ (fun hn H2 s2 => ⟨s.trans s2, ?_⟩) (fun y hy H2 s2 => ⟨_, s2 _ _ e, szl (Nat.lt_of_le_of_lt (fm_len F xs i) hz), smut (s.trans s2) hD, ?_⟩)
    · rw [fm_take F hi, hn]
      show H2 D = some (.lst (_ ++ []))
      rw [List.append_nil]
      exact s2 _ _ e
    · rw [fm_take F hi, hy]
      exact upd_same
  · rw [List.take_of_length_le (Nat.le_refl _)] at p
    exact q D H' hD p.1 p.2
/-- .. over range(n) -/
theorem i_lcR [w : Wp vs σ σ0] {n : Int} (F : Nat → Option V) (hn : 0 ≤ n ∧ n < 100000)
    (hs : ∀ i : Nat, (i : Int) < n → ∀ H1, Same H H1 → ∀ (QN : Hp → Prop) (QY : VK), (F i = none → ∀ H2, Same H1 H2 → QN H2) → (∀ y, F i = some y → ∀ H2, Same H1 H2 → QY y H2) → g (.int (i : Int)) σ0 H1 (kLcB σ0 vs tt te QN QY))
    (q : ∀ p H', H p = none → Same H H' → H' p = some (.lst ((List.range n.toNat).filterMap F)) → Q (.ref p) H') : kLcR g tt te vs σ Q [.int n] H := by
  have w' := w.h
  subst w'
  have fr : ∀ i, (List.range (i + 1)).filterMap F = (List.range i).filterMap F ++ (F i).toList := fun i => by
    rw [List.range_succ, List.filterMap_append]
    cases e : F i <;> simp [List.filterMap, e]
  refine ⟨n, rfl, by omega, by omega, fun D hD => lc_range (lo := 0) (n := n.toNat) (fun i H' => Same H H' ∧ H' D = some (.lst ((List.range i).filterMap F))) ⟨same_new hD, upd_same⟩ (fun i H' hi p => ?_) (fun H' p => q D H' hD p.1 p.2)⟩
  obtain ⟨s, e⟩ := p
  have e0 : (0 : Int) + (i : Int) = (i : Int) := Int.zero_add _
  rw [e0]
  refine hs i (by omega) H' s (fun H2 => Same H H2 ∧ H2 D = some (.lst ((List.range (i + 1)).filterMap F))) _ (fun hn H2 s2 => ⟨s.trans s2, ?_⟩) (fun y hy H2 s2 => ⟨_, s2 _ _ e, szl (Nat.lt_of_le_of_lt (Nat.le_trans (List.length_filterMap_le _ _) (by rw [List.length_range]; exact Nat.le_of_lt hi)) (by omega)), smut (s.trans s2) hD, ?_⟩)
  · rw [fr, hn]
    show H2 D = some (.lst (_ ++ []))
    rw [List.append_nil]
    exact s2 _ _ e
  · rw [fr, hy]
    exact upd_same
/-- .. whose turns may change what stands: an invariant over the turn's number, the items so far and the heap -/
def kN (Pv : Addr → Nat → List V → Hp → Prop) (D : Addr) (i : Nat) : Hp → Prop := fun H => ∃ acc, acc.length ≤ i + 1 ∧ Pv D (i + 1) acc H
def kY (Pv : Addr → Nat → List V → Hp → Prop) (D : Addr) (i : Nat) : VK := fun y H => ∃ acc, H D = some (.lst acc) ∧ acc.length < sizeLine ∧ kN Pv D i (upd H D (.lst (acc ++ [y])))
theorem kN_of {Pv : Addr → Nat → List V → Hp → Prop} {D : Addr} {i : Nat} {acc : List V} (hl : acc.length ≤ i) (p : Pv D (i + 1) acc H) : kN Pv D i H := ⟨acc, by omega, p⟩
theorem kY_of {Pv : Addr → Nat → List V → Hp → Prop} {D : Addr} {i : Nat} {acc : List V} {y : V} (h : H D = some (.lst acc)) (hl : acc.length ≤ i) (hi : i < 100000) (p : Pv D (i + 1) (acc ++ [y]) (upd H D (.lst (acc ++ [y])))) : kY Pv D i y H :=
  ⟨acc, h, szl (by omega), acc ++ [y], by rw [List.length_append, List.length_singleton]; omega, p⟩
theorem i_lcLI [w : Wp vs σ σ0] (Pv : Addr → Nat → List V → Hp → Prop) (hx0 : SqL K H a xs) (h0 : ∀ D, H D = none → Pv D 0 [] (upd H D (.lst []))) (hx : ∀ D i acc H', H D = none → Pv D i acc H' → SqL K H' a xs)
    (hs : ∀ D i x acc H', H D = none → xs[i]? = some x → acc.length ≤ i → Pv D i acc H' → g x σ0 H' (kLcB σ0 vs tt te (kN Pv D i) (kY Pv D i)))
    (q : ∀ D acc H', H D = none → Pv D xs.length acc H' → Q (.ref D) H') : kLcL K g tt te vs σ Q (.ref a) H := by
  have w' := w.h
  subst w'
  exact ⟨a, rfl, ⟨xs, hx0⟩, fun D hD => lc_list (xs := xs) (fun i H' => ∃ acc, acc.length ≤ i ∧ Pv D i acc H') ⟨[], Nat.le_refl _, h0 D hD⟩ (fun i H' _ ⟨acc, _, p⟩ => hx D i acc H' hD p) (fun i x H' hi ⟨acc, hl, p⟩ => hs D i x acc H' hD hi hl p) (fun H' ⟨acc, _, p⟩ => q D acc H' hD p)⟩
theorem i_lcRI [w : Wp vs σ σ0] {n : Int} (Pv : Addr → Nat → List V → Hp → Prop) (hn : 0 ≤ n ∧ n < 100000) (h0 : ∀ D, H D = none → Pv D 0 [] (upd H D (.lst [])))
    (hs : ∀ D (i : Nat) acc H', H D = none → (i : Int) < n → acc.length ≤ i → Pv D i acc H' → g (.int (i : Int)) σ0 H' (kLcB σ0 vs tt te (kN Pv D i) (kY Pv D i)))
    (q : ∀ D acc H', H D = none → Pv D n.toNat acc H' → Q (.ref D) H') : kLcR g tt te vs σ Q [.int n] H := by
  have w' := w.h
  subst w'
  refine ⟨n, rfl, by omega, by omega, fun D hD => lc_range (lo := 0) (n := n.toNat) (fun i H' => ∃ acc, acc.length ≤ i ∧ Pv D i acc H') ⟨[], Nat.le_refl _, h0 D hD⟩ (fun i H' hi ⟨acc, hl, p⟩ => ?_) (fun H' ⟨acc, _, p⟩ => q D acc H' hD p)⟩
  have e0 : (0 : Int) + (i : Int) = (i : Int) := Int.zero_add _
  rw [e0]
  exact hs D i acc H' hD (by omega) hl p
end

/-! ### dict comprehensions over enumerate -/
def kDcB (σ0 : L2.St) (vs : List Nat) (tt : TT) (tk tv : TE) (D : Addr) (Nx : Hp → Prop) : L2.St → Hp → Prop := fun σ2 H2 => wipe σ2 vs = σ0 ∧ tt σ2 H2 fun b H3 =>
    if b = true then tk σ2 H3 fun y H4 => tv σ2 H4 fun z H5 => ∃ kvs k, y = kV k ∧ H5 D = some (.dK kvs) ∧ kvs.length < sizeLine ∧ Nx (upd H5 D (.dK (putK kvs k z))) else Nx H3
def kDc (tk tv : TE) (D : Addr) (Nx : Hp → Prop) (σ2 : L2.St) : Bool → Hp → Prop := fun b H3 => if b = true then tk σ2 H3 fun y H4 => tv σ2 H4 fun z H5 => ∃ kvs k, y = kV k ∧ H5 D = some (.dK kvs) ∧ kvs.length < sizeLine ∧ Nx (upd H5 D (.dK (putK kvs k z))) else Nx H3
def kDc1 (tv : TE) (D : Addr) (Nx : Hp → Prop) (σ2 : L2.St) : VK := fun y H4 => tv σ2 H4 fun z H5 => ∃ kvs k, y = kV k ∧ H5 D = some (.dK kvs) ∧ kvs.length < sizeLine ∧ Nx (upd H5 D (.dK (putK kvs k z)))
def kDc2 (D : Addr) (Nx : Hp → Prop) (y : V) : VK := fun z H5 => ∃ kvs k, y = kV k ∧ H5 D = some (.dK kvs) ∧ kvs.length < sizeLine ∧ Nx (upd H5 D (.dK (putK kvs k z)))
def DcLoop (J : It) (g : TG) (tt : TT) (tk tv : TE) (vs : List Nat) (σ : L2.St) (Q : VK) (H1 : Hp) : Prop := ∀ D, H1 D = none → ∃ W : Nat → Nat → Hp → Prop, (∃ m, W 0 m (upd H1 D (.dK []))) ∧ ∀ i m H, W i m H →
  (J.stop i H ∧ Q (.ref D) H) ∨ (J.go i H ∧ ∃ Nx : Hp → Prop, (∀ H', Nx H' → ∃ m', m' < m ∧ W (i + 1) m' H') ∧ ∀ x H', J.yld i H x H' → g x (wipe σ vs) H' fun σ2 H2 => wipe σ2 vs = wipe σ vs ∧ tt σ2 H2 fun b H3 =>
    if b = true then tk σ2 H3 fun y H4 => tv σ2 H4 fun z H5 => ∃ kvs k, y = kV k ∧ H5 D = some (.dK kvs) ∧ kvs.length < sizeLine ∧ Nx (upd H5 D (.dK (putK kvs k z))) else Nx H3)
def kDcE (K : PySem.W.Frag) (g : TG) (tt : TT) (tk tv : TE) (vs : List Nat) (σ : L2.St) (Q : VK) : List V → Hp → Prop := fun us H1 => ∃ a xs, us = [.ref a] ∧ SqL K H1 a xs ∧ DcLoop (Ite K a) g tt tk tv vs σ Q H1
section
variable {K : PySem.W.Frag} {H : Hp} {g : TG} {tt : TT} {tk tv : TE} {ta : TA} {vs : List Nat} {σ σ0 σ2 : L2.St} {Q : VK} {a D : Addr} {xs : List V} {Nx : Hp → Prop} {y z : V}
instance : Step (tDc (iEnum K ta) g tt tk tv vs σ H Q) (ta σ H (kDcE K g tt tk tv vs σ Q)) := ⟨fun h => h⟩
instance [w : Wp vs σ2 σ0] : Step (kDcB σ0 vs tt tk tv D Nx σ2 H) (tt σ2 H (kDc tk tv D Nx σ2)) := ⟨fun h => ⟨w.h, h⟩⟩
instance : Step (kDc tk tv D Nx σ2 true H) (tk σ2 H (kDc1 tv D Nx σ2)) := ⟨fun h => iteT h⟩
instance : Step (kDc tk tv D Nx σ2 false H) (Nx H) := ⟨fun h => iteF h⟩
instance : Step (kDc1 tv D Nx σ2 y H) (tv σ2 H (kDc2 D Nx y)) := ⟨fun h => h⟩
theorem i_dcE [w : Wp vs σ σ0] (E : Nat → List (Key × V)) (e0 : E 0 = []) (hE : ∀ i, (E i).length ≤ i) (hx : SqL K H a xs) (hz : xs.length < 100000)
    (hs : ∀ D i x T H1, H D = none → xs[i]? = some x → Same H H1 → H1 D = some (.dK (E i)) → H1 T = some (.tup [.int (i : Nat), x]) → T ≠ D → ∀ Nx : Hp → Prop, (∀ H2, Same H H2 → H2 D = some (.dK (E (i + 1))) → Nx H2) → g (.ref T) σ0 H1 (kDcB σ0 vs tt tk tv D Nx))
    (q : ∀ p H', H p = none → Same H H' → H' p = some (.dK (E xs.length)) → Q (.ref p) H') : kDcE K g tt tk tv vs σ Q [.ref a] H := by
  have w' := w.h
  subst w'
  refine ⟨a, xs, rfl, hx, fun D hD => ⟨fun i m H' => m = xs.length - i ∧ i ≤ xs.length ∧ Same H H' ∧ H' D = some (.dK (E i)), ⟨xs.length, by simp, Nat.zero_le _, same_new hD, by rw [e0]; exact upd_same⟩, ?_⟩⟩
  rintro i m H' ⟨rfl, hi, s, e⟩
  have hq := s.seq hx
  by_cases hlt : i < xs.length
  · refine .inr ⟨⟨xs, xs[i], hq, by simp [hlt]⟩, fun H2 => Same H H2 ∧ H2 D = some (.dK (E (i + 1))), fun H2 p' => ⟨xs.length - (i + 1), by omega, rfl, hlt, p'⟩, fun x H2 y => ?_⟩
    obtain ⟨T, x, rfl, nT, rfl, y⟩ := y
    have nTD : T ≠ D := (ne_of_none e nT).symm
    exact hs D i x T _ hD (y xs hq) (s.trans (same_new nT)) (by rw [upd_ne nTD.symm]; exact e) upd_same nTD _ fun H2 s2 e2 => ⟨s2, e2⟩
  · have ei : i = xs.length := by omega
    subst ei
    exact .inl ⟨⟨xs, hq, Nat.le_refl _⟩, q D H' hD s e⟩
end
/-! ### a dict comprehension that is given to a name -/
section
variable {X : Cx}
theorem sw_dc {kx vx : Expr} {cs : List Comprehension} {sc : Scope} {p py : Pos} {y : Str} {ln : Nat} {ev : Env} (hk : ev.scope.kind = .function) (hy : ev.scope.names.lookup y = some .local) (hl : (py.line == p.line) = true)
    (hn : (sc.names.any fun (n, k) => n == y && (k == .local || k == .cell)) = false) : swapsWith (.DictComp kx vx cs sc p) (some (.Name y py)) ln ev = pure true := by
  have k1 : ev.kindOf y = some .local := hy
  have k2 : ev.blockKind = .function := by unfold Env.blockKind; rw [hk]; rfl
  unfold swapsWith
  simp only [k2, k1, hn, Expr.pos, hl]
  rfl
theorem ps_setDc {i : Nat} {y : Str} {py : Pos} {kx vx tg it : Expr} {ifs : List Expr} {sc : Scope} {own : List (Str × Nat)} {p sp : Pos} {wi : TI} {g : TG} {tt : TT} {tk tv : TE} (hc : X.calm = true) (hN : X.N.Nodup) (hy : X.N[i]? = some y) (hl : X.env.scope.names.lookup y = some .local)
    (hw : swapsWith (.DictComp kx vx [⟨tg, it, ifs, 0⟩] sc p) (some (.Name y py)) sp.line X.env = pure true) (hi : PI X tg it wi) (ok : BlkOk X.N X.env.scope sc own)
    (hg : ∀ (s : Shared) (H : Hp) (C : Addr) (cl : List (Str × Addr)) (fp : List Addr), PG (X.blk s H sc (compEnvC sc cl C X.env) fp) tg g) (ht : ∀ (s : Shared) (H : Hp) (C : Addr) (cl : List (Str × Addr)) (fp : List Addr), PTs (X.blk s H sc (compEnvC sc cl C X.env) fp) ifs tt)
    (hk : ∀ (s : Shared) (H : Hp) (C : Addr) (cl : List (Str × Addr)) (fp : List Addr), PE (X.blk s H sc (compEnvC sc cl C X.env) fp) kx tk)
    (hv : ∀ (s : Shared) (H : Hp) (C : Addr) (cl : List (Str × Addr)) (fp : List Addr), PE (X.blk s H sc (compEnvC sc cl C X.env) fp) vx tv) (hs : ∀ x, foldedSetIterable it X.env x = pure x := by intro _; rfl) :
    PS X (.Assign [.Name y py] (.DictComp kx vx [⟨tg, it, ifs, 0⟩] sc p) sp) (tAsg (tDc wi g tt tk tv (own.map (·.2))) (gName i)) := by
  refine ⟨fun pn s σ H D J q => ?_⟩
  rw [exec_Assign_Name_used _ _ _ _ hw]
  refine wpAny_bind (wpAny_standAt (wpAny_bind ?_))
  show wpAny _ X.A (do let _ ← comprehension (.DictComp kx vx [⟨tg, it, ifs, 0⟩] sc p) sc X.env (firstIterPos [⟨tg, it, ifs, 0⟩] p) newDict false (eval it X.env) (some (assign (.Name y py) X.env))) _ _ s
  have q0 : tDc wi g tt tk tv (own.map (·.2)) σ H (fun x H1 => gName i x σ H1 D.nx) := q
  refine wpAny_bind (thn (dc_core (Qf := fun _ z => SP X pn D .next z) hc hN J hi ok hg ht hk hv hs q0 fun L C z m H' J' q1 nC f => ?_) fun _ z hz => wpAny_pure (wpAny_pure hz))
  show wpAny _ _ (assign (.Name y py) X.env (.ref L)) _ _ _
  refine wpAny_assign_Name (store_ok2 (v := V.ref L) J' hN hy (.inl hl) rfl (fun z2 J2 ⟨a, sb, ha⟩ => ?_) (.inr hl))
  obtain ⟨a0, a1, a2, a3, a4, a5⟩ := f
  have nCa : C ≠ a := by
    rcases ha with e | e
    · rw [e]; exact a1
    · exact fun e' => a4 y a e e'.symm
  refine ⟨m, nC.sameBut sb nCa, fun h3 sb3 => ?_⟩
  exact ⟨_, H', J2.turned (t' := z2.toks) (fun b o hb e => (sb3.2 b hb).trans e) a0 a1 a3 a4 a5, q1⟩
end
end Esc

/-! Rows of digits and their numbers. -/
namespace Esc
theorem mem_dl {α : Type} {l : List α} {x : α} (h : x ∈ l.dropLast) : x ∈ l := List.dropLast_subset l h
def rankD (n : Nat) (ds : List Nat) : Nat := ds.foldl (fun r d => r * n + d + 1) 0
theorem rankD_snoc (n : Nat) (ds : List Nat) (d : Nat) : rankD n (ds ++ [d]) = rankD n ds * n + d + 1 := by
  unfold rankD
  rw [List.foldl_append]
  rfl
def rowD (n r : Nat) : List Nat := if h : r = 0 then [] else rowD n ((r - 1) / n) ++ [(r - 1) % n]
termination_by r
decreasing_by exact Nat.lt_of_le_of_lt (Nat.div_le_self _ _) (by omega)
theorem rowD_zero (n : Nat) : rowD n 0 = [] := by
  rw [rowD]
  exact dif_pos rfl
theorem rowD_pos {n r : Nat} (h : r ≠ 0) : rowD n r = rowD n ((r - 1) / n) ++ [(r - 1) % n] := by
  rw [rowD]
  exact dif_neg h
theorem div_lt' {n r : Nat} (h : r ≠ 0) : (r - 1) / n < r := Nat.lt_of_le_of_lt (Nat.div_le_self _ _) (by omega)
theorem rank_row {n : Nat} : ∀ r : Nat, rankD n (rowD n r) = r := fun r => by
  induction r using Nat.strongRecOn with
  | _ r ih =>
    by_cases h : r = 0
    · rw [h, rowD_zero]
      rfl
    · rw [rowD_pos h, rankD_snoc, ih _ (div_lt' h)]
      have e := Nat.div_add_mod (r - 1) n
      rw [Nat.mul_comm] at e
      omega
theorem row_rank {n : Nat} (hn : 0 < n) : ∀ (k : Nat) (ds : List Nat), ds.length = k → (∀ d ∈ ds, d < n) → rowD n (rankD n ds) = ds
  | 0, [], _, _ => rowD_zero n
  | k + 1, ds, hk, h => by
    have hne : ds ≠ [] := fun e => by
      rw [e] at hk
      cases hk
    have e := List.dropLast_concat_getLast hne
    have hd : ds.getLast hne < n := h _ (List.getLast_mem hne)
    have ih := row_rank hn k ds.dropLast (by rw [List.length_dropLast, hk]; rfl) (fun d m => h d (mem_dl m))
    rw [← e, rankD_snoc, rowD_pos (by omega)]
    have e1 : rankD n ds.dropLast * n + ds.getLast hne + 1 - 1 = ds.getLast hne + n * rankD n ds.dropLast := by
      rw [Nat.mul_comm]
      omega
    rw [e1, Nat.add_mul_div_left _ _ hn, Nat.div_eq_of_lt hd, Nat.zero_add, ih, Nat.add_mul_mod_self_left, Nat.mod_eq_of_lt hd]
theorem row_lt {n : Nat} (hn : 0 < n) : ∀ (r : Nat), ∀ d ∈ rowD n r, d < n := fun r => by
  induction r using Nat.strongRecOn with
  | _ r ih =>
    intro d hd
    by_cases h : r = 0
    · rw [h, rowD_zero] at hd
      cases hd
    · rw [rowD_pos h] at hd
      rcases List.mem_append.mp hd with hd | hd
      · exact ih _ (div_lt' h) d hd
      · rw [List.mem_singleton.mp hd]
        exact Nat.mod_lt _ hn
theorem row_len_mono {m n : Nat} (hm : 0 < m) (hmn : m ≤ n) : ∀ (s r : Nat), r ≤ s → (rowD n r).length ≤ (rowD m s).length := fun s => by
  induction s using Nat.strongRecOn with
  | _ s ih =>
    intro r hr
    by_cases h : r = 0
    · rw [h, rowD_zero]
      exact Nat.zero_le _
    · have hs : s ≠ 0 := by omega
      rw [rowD_pos h, rowD_pos hs, List.length_append, List.length_append]
      have e : (r - 1) / n ≤ (s - 1) / m := Nat.le_trans (Nat.div_le_div_left hmn hm) (Nat.div_le_div_right (by omega))
      exact Nat.add_le_add_right (ih _ (div_lt' hs) _ e) _
/-- shorter rows have lesser numbers -/
theorem rank_short {n : Nat} (hn : 0 < n) : ∀ (k : Nat) (a b : List Nat), b.length = k → a.length < b.length → (∀ d ∈ a, d < n) → rankD n a < rankD n b
  | 0, a, b, hk, h, _ => by omega
  | k + 1, a, b, hk, h, ha => by
    have hb : b ≠ [] := fun e => by
      rw [e] at hk
      cases hk
    have e := List.dropLast_concat_getLast hb
    rw [← e, rankD_snoc]
    by_cases hz : a = []
    · rw [hz]
      show 0 < _
      omega
    · have e2 := List.dropLast_concat_getLast hz
      have hd : a.getLast hz < n := ha _ (List.getLast_mem hz)
      have l1 : a.length = a.dropLast.length + 1 := by
        rw [List.length_dropLast]
        have : a.length ≠ 0 := fun q => hz (List.length_eq_zero_iff.mp q)
        omega
      have l2 : b.dropLast.length = k := by
        rw [List.length_dropLast, hk]
        rfl
      have ih := rank_short hn k a.dropLast b.dropLast l2 (by omega) (fun d m => ha d (mem_dl m))
      have r1 : rankD n a = rankD n a.dropLast * n + a.getLast hz + 1 := by
        have z := rankD_snoc n a.dropLast (a.getLast hz)
        rw [e2] at z
        exact z
      have m1 : (rankD n a.dropLast + 1) * n ≤ rankD n b.dropLast * n := Nat.mul_le_mul_right _ ih
      rw [Nat.add_mul, Nat.one_mul] at m1
      rw [r1]
      omega
/-- a list ahead of another one, sign by sign -/
def lexN : List Nat → List Nat → Bool
  | [], [] => false
  | [], _ :: _ => true
  | _ :: _, [] => false
  | a :: x, b :: y => if a = b then lexN x y else decide (a < b)
theorem lexN_snoc : ∀ (x y : List Nat) (a b : Nat), x.length = y.length → lexN (x ++ [a]) (y ++ [b]) = (lexN x y || (decide (x = y) && decide (a < b)))
  | [], [], a, b, _ => by
    show (if a = b then false else decide (a < b)) = _
    by_cases h : a = b
    · rw [if_pos h, h]
      simp [lexN]
    · rw [if_neg h]
      simp [lexN]
  | [], _ :: _, _, _, h => by simp at h
  | _ :: _, [], _, _, h => by simp at h
  | p :: x, q :: y, a, b, h => by
    show (if p = q then lexN (x ++ [a]) (y ++ [b]) else decide (p < q)) = ((if p = q then lexN x y else decide (p < q)) || _)
    by_cases e : p = q
    · rw [if_pos e, if_pos e, lexN_snoc x y a b (by simpa using h), e]
      simp
    · rw [if_neg e, if_neg e]
      simp [e]
theorem rank_lex {n : Nat} (hn : 0 < n) : ∀ (k : Nat) (a b : List Nat), a.length = k → b.length = k → (∀ d ∈ a, d < n) → (∀ d ∈ b, d < n) → decide (rankD n a < rankD n b) = lexN a b
  | 0, [], [], _, _, _, _ => rfl
  | k + 1, a, b, h1, h2, ha, hb => by
    have na : a ≠ [] := fun e => by
      rw [e] at h1
      cases h1
    have nb : b ≠ [] := fun e => by
      rw [e] at h2
      cases h2
    have ea := List.dropLast_concat_getLast na
    have eb := List.dropLast_concat_getLast nb
    have la : a.dropLast.length = k := by
      rw [List.length_dropLast, h1]
      rfl
    have lb : b.dropLast.length = k := by
      rw [List.length_dropLast, h2]
      rfl
    have ha' : ∀ d ∈ a.dropLast, d < n := fun d m => ha d (mem_dl m)
    have hb' : ∀ d ∈ b.dropLast, d < n := fun d m => hb d (mem_dl m)
    have ih := rank_lex hn k a.dropLast b.dropLast la lb ha' hb'
    have da : a.getLast na < n := ha _ (List.getLast_mem na)
    have db : b.getLast nb < n := hb _ (List.getLast_mem nb)
    rw [← ea, ← eb, lexN_snoc _ _ _ _ (la.trans lb.symm), rankD_snoc, rankD_snoc, ← ih]
    generalize hA : rankD n a.dropLast = A
    generalize hB : rankD n b.dropLast = B
    generalize a.getLast na = x at da
    generalize b.getLast nb = y at db
    have hAB : (a.dropLast = b.dropLast) ↔ A = B := ⟨fun e => by rw [← hA, ← hB, e], fun e => by
      rw [← row_rank hn k _ la ha', ← row_rank hn k _ lb hb', hA, hB, e]⟩
    rw [show decide (a.dropLast = b.dropLast) = decide (A = B) from decide_eq_decide.mpr hAB]
    by_cases c1 : A < B
    · have m1 : (A + 1) * n ≤ B * n := Nat.mul_le_mul_right _ c1
      rw [Nat.add_mul, Nat.one_mul] at m1
      rw [decide_eq_true c1, decide_eq_true (by omega)]
      rfl
    · by_cases c2 : A = B
      · rw [c2]
        simp
      · have m1 : (B + 1) * n ≤ A * n := Nat.mul_le_mul_right _ (by omega)
        rw [Nat.add_mul, Nat.one_mul] at m1
        rw [decide_eq_false c1, decide_eq_false c2, decide_eq_false (by omega)]
        rfl
/-- fewer signs first, of as many those that are less -/
def lessD (a b : List Nat) : Bool := decide (a.length < b.length) || (decide (a.length = b.length) && lexN a b)
theorem rank_less {n : Nat} (hn : 0 < n) {a b : List Nat} (ha : ∀ d ∈ a, d < n) (hb : ∀ d ∈ b, d < n) : lessD a b = decide (rankD n a < rankD n b) := by
  unfold lessD
  by_cases c1 : a.length < b.length
  · rw [decide_eq_true c1, decide_eq_true (rank_short hn _ a b rfl c1 ha)]
    rfl
  · by_cases c2 : a.length = b.length
    · rw [decide_eq_false c1, decide_eq_true c2, rank_lex hn b.length a b c2 rfl ha hb]
      simp
    · have z := rank_short hn _ b a rfl (by omega) hb
      rw [decide_eq_false c1, decide_eq_false c2, decide_eq_false (by omega)]
      rfl
/-- a longer number than that of a row has at most one sign more -/
theorem row_next_len {n : Nat} (hn : 0 < n) (ds : List Nat) (h : ∀ d ∈ ds, d < n) : (rowD n (rankD n ds + 1)).length ≤ ds.length + 1 := by
  have h1 := row_lt hn (rankD n ds + 1)
  by_cases c : (rowD n (rankD n ds + 1)).length ≤ ds.length + 1
  · exact c
  · exfalso
    have hz : ∀ d ∈ List.replicate (ds.length + 1) 0, d < n := fun d m => by
      rw [(List.mem_replicate.mp m).2]
      exact hn
    have z1 := rank_short hn _ ds (List.replicate (ds.length + 1) 0) rfl (by simp) h
    have z2 := rank_short hn _ (List.replicate (ds.length + 1) 0) (rowD n (rankD n ds + 1)) rfl (by rw [List.length_replicate]; omega) hz
    rw [rank_row] at z2
    omega
/-- the number by places: what the signs are worth, and the shorter lists -/
def numD (m : Nat) (ds : List Nat) : Nat × Nat × Nat := ds.foldl (fun (s : Nat × Nat × Nat) d => (s.1 * m + d, s.2.1 + s.2.2, s.2.2 * m)) (0, 0, 1)
theorem numD_snoc (m : Nat) (ds : List Nat) (d : Nat) : numD m (ds ++ [d]) = ((numD m ds).1 * m + d, (numD m ds).2.1 + (numD m ds).2.2, (numD m ds).2.2 * m) := by
  unfold numD
  rw [List.foldl_append]
  rfl
theorem num_inv (m : Nat) (hm : 0 < m) : ∀ (k : Nat) (ds : List Nat), ds.length = k → (numD m ds).2.2 + (numD m ds).2.1 = (numD m ds).2.1 * m + 1 ∧ (numD m ds).1 + (numD m ds).2.1 = rankD m ds ∧ (numD m ds).2.2 = m ^ k
  | 0, [], _ => by
    refine ⟨?_, rfl, rfl⟩
    show 1 + 0 = 0 * m + 1
    omega
  | k + 1, ds, hk => by
    have hne : ds ≠ [] := fun e => by
      rw [e] at hk
      cases hk
    have e := List.dropLast_concat_getLast hne
    have ih := num_inv m hm k ds.dropLast (by rw [List.length_dropLast, hk]; rfl)
    rw [← e, numD_snoc, rankD_snoc]
    generalize numD m ds.dropLast = s at ih
    obtain ⟨v, a, l⟩ := s
    obtain ⟨i1, i2, i3⟩ := ih
    dsimp only at i1 i2 i3 ⊢
    have z : (l + a) * m = (a * m + 1) * m := by rw [i1]
    rw [Nat.add_mul, Nat.add_mul, Nat.one_mul] at z
    refine ⟨?_, ?_, ?_⟩
    · rw [Nat.add_mul]
      omega
    · rw [← i2, Nat.add_mul]
      omega
    · rw [i3]
      rfl
/-! ### what the signs are worth, how many shorter rows there are -/
def valD (m : Nat) (ds : List Nat) : Nat := ds.foldl (fun r d => r * m + d) 0
theorem valD_snoc (m : Nat) (ds : List Nat) (d : Nat) : valD m (ds ++ [d]) = valD m ds * m + d := by
  unfold valD
  rw [List.foldl_append]
  rfl
def aheadD (m : Nat) : Nat → Nat
  | 0 => 0
  | k + 1 => aheadD m k + m ^ k
theorem ahead_mul (m : Nat) : ∀ k : Nat, aheadD m k * m + 1 = aheadD m k + m ^ k
  | 0 => by
    show 0 * m + 1 = 0 + 1
    omega
  | k + 1 => by
    have ih := ahead_mul m k
    show (aheadD m k + m ^ k) * m + 1 = (aheadD m k + m ^ k) + m ^ (k + 1)
    rw [Nat.add_mul, Nat.pow_succ]
    omega
theorem rank_val (m : Nat) : ∀ (k : Nat) (ds : List Nat), ds.length = k → rankD m ds = valD m ds + aheadD m k
  | 0, [], _ => rfl
  | k + 1, ds, hk => by
    have hne : ds ≠ [] := fun e => by
      rw [e] at hk
      cases hk
    have e := List.dropLast_concat_getLast hne
    have ih := rank_val m k ds.dropLast (by rw [List.length_dropLast, hk]; rfl)
    rw [← e, rankD_snoc, valD_snoc, ih, Nat.add_mul]
    have z := ahead_mul m k
    show _ = _ + (aheadD m k + m ^ k)
    omega
theorem val_lt {m : Nat} : ∀ (k : Nat) (ds : List Nat), ds.length = k → (∀ d ∈ ds, d < m) → valD m ds < m ^ k
  | 0, [], _, _ => Nat.one_pos
  | k + 1, ds, hk, h => by
    have hne : ds ≠ [] := fun e => by
      rw [e] at hk
      cases hk
    have e := List.dropLast_concat_getLast hne
    have hd : ds.getLast hne < m := h _ (List.getLast_mem hne)
    have ih := val_lt k ds.dropLast (by rw [List.length_dropLast, hk]; rfl) (fun d z => h d (mem_dl z))
    rw [← e, valD_snoc]
    have m1 : (valD m ds.dropLast + 1) * m ≤ m ^ k * m := Nat.mul_le_mul_right _ ih
    rw [Nat.add_mul, Nat.one_mul] at m1
    rw [Nat.pow_succ]
    omega
theorem ahead_mono (m : Nat) : ∀ {j k : Nat}, j ≤ k → aheadD m j ≤ aheadD m k := fun {j k} h => by
  induction k with
  | zero =>
    rw [Nat.le_zero.mp h]
    exact Nat.le_refl _
  | succ k ih =>
    rcases Nat.lt_or_ge j (k + 1) with c | c
    · exact Nat.le_trans (ih (by omega)) (Nat.le_add_right _ _)
    · rw [show j = k + 1 by omega]
      exact Nat.le_refl _
/-! ### how long rows are -/
theorem rank_up {n : Nat} : ∀ (k : Nat) (ds : List Nat), ds.length = k → (∀ d ∈ ds, d < n) → rankD n ds + 1 ≤ (n + 1) ^ k
  | 0, [], _, _ => Nat.le_refl _
  | k + 1, ds, hk, h => by
    have hne : ds ≠ [] := fun e => by
      rw [e] at hk
      cases hk
    have e := List.dropLast_concat_getLast hne
    have hd : ds.getLast hne < n := h _ (List.getLast_mem hne)
    have ih := rank_up k ds.dropLast (by rw [List.length_dropLast, hk]; rfl) (fun d z => h d (mem_dl z))
    rw [← e, rankD_snoc, Nat.pow_succ]
    have m1 : (rankD n ds.dropLast + 1) * (n + 1) ≤ (n + 1) ^ k * (n + 1) := Nat.mul_le_mul_right _ ih
    rw [Nat.add_mul, Nat.mul_add, Nat.mul_one, Nat.one_mul] at m1
    omega
theorem rank_down {m : Nat} (hm : 2 ≤ m) : ∀ (k : Nat) (ds : List Nat), ds.length = k → 2 ^ k ≤ rankD m ds + 1
  | 0, [], _ => Nat.le_refl _
  | k + 1, ds, hk => by
    have hne : ds ≠ [] := fun e => by
      rw [e] at hk
      cases hk
    have e := List.dropLast_concat_getLast hne
    have ih := rank_down hm k ds.dropLast (by rw [List.length_dropLast, hk]; rfl)
    rw [← e, rankD_snoc, Nat.pow_succ]
    have m1 : rankD m ds.dropLast * 2 ≤ rankD m ds.dropLast * m := Nat.mul_le_mul_left _ hm
    omega
theorem row_short {m n : Nat} (hm : 2 ≤ m) (hn : n ≤ 31) {ds : List Nat} (h : ∀ d ∈ ds, d < n) : (rowD m (rankD n ds)).length ≤ 5 * ds.length := by
  have a := rank_up ds.length ds rfl h
  have b := rank_down hm (rowD m (rankD n ds)).length (rowD m (rankD n ds)) rfl
  rw [rank_row] at b
  have c : (n + 1) ^ ds.length ≤ 32 ^ ds.length := Nat.pow_le_pow_left (by omega) _
  have d : (32 : Nat) ^ ds.length = 2 ^ (5 * ds.length) := by
    rw [Nat.pow_mul]
  rw [d] at c
  exact (Nat.pow_le_pow_iff_right (by decide : 1 < 2)).mp (Nat.le_trans b (Nat.le_trans a c))
end Esc

/-! More steps: slices, dicts of the module, defs held by names, data compared. -/
namespace Esc
open PySem PySem.Spec PyProof.Rows L2
section
variable {K : PySem.W.Frag} {w : World} {H : Hp} {Q : VK} {xs ys zs : List V} {a l b p : Addr} {x y z v : V} {σ : L2.St} {t : TA} {i : Nat}
theorem i_slT {lo hi : Option Int} (h : SqT K H a xs) (n : ¬ (HT.sIx xs.length 0 lo = 0 ∧ HT.sIx xs.length xs.length hi = xs.length)) (q : ∀ p H', H p = none → Same H H' → H' p = some (.tup (cutV xs lo hi)) → Q (.ref p) H') : rSlT K (.ref a) lo hi H Q := ⟨a, xs, rfl, h, n, grow q⟩
theorem cut_to (xs : List V) (k : Nat) : cutV xs none (some (k : Int)) = xs.take k := by
  unfold cutV
  rw [HT.sIx_none, HT.sIx_nat, Nat.sub_zero, List.drop_zero]
  rcases Nat.lt_or_ge k xs.length with h | h
  · rw [Nat.min_eq_left (Nat.le_of_lt h)]
  · rw [Nat.min_eq_right h, List.take_length, List.take_of_length_le h]
theorem cut_from (xs : List V) (k : Nat) : cutV xs (some (k : Int)) none = xs.drop k := by
  unfold cutV
  rw [HT.sIx_none, HT.sIx_nat]
  rcases Nat.lt_or_ge k xs.length with h | h
  · rw [Nat.min_eq_left (Nat.le_of_lt h), List.take_of_length_le (by rw [List.length_drop]; exact Nat.le_refl _)]
  · rw [Nat.min_eq_right h, Nat.sub_self, List.drop_of_length_le h]
    rfl
theorem cut_butlast (xs : List V) (v : V) : cutV (xs ++ [v]) none (some (-1)) = xs := by
  unfold cutV
  rw [HT.sIx_none, Nat.sub_zero, List.drop_zero]
  have e : HT.sIx (xs ++ [v]).length (xs ++ [v]).length (some (-1)) = xs.length := by
    show (if (-1 : Int) < 0 then ((-1 : Int) + ((xs ++ [v]).length : Int)).toNat else min (-1 : Int).toNat (xs ++ [v]).length) = _
    rw [if_pos (by decide), List.length_append, List.length_singleton]
    omega
  rw [e, List.take_left]
theorem i_count {ns : List Int} {k : Int} (h : SqL K H a (ns.map V.int)) (q : Q (.int (ns.count k : Nat)) H) : rCntI K (.ref a) [.int k] H Q := ⟨a, ns, k, rfl, rfl, h, q⟩
theorem i_all {bs : List Bool} (h : SqL K H a (bs.map V.bl)) (q : Q (.bl (bs.all id)) H) : rAll K [.ref a] H Q := ⟨a, bs, rfl, h, q⟩
theorem i_callA {S : Addr → Option Sp} {f : Addr} {sp : Sp} [e : Lk i σ (.ref f)] (hS : S f = some sp) (h : t σ H (kCallA Q sp)) : tCallA i S t σ H Q := ⟨f, sp, e.h, hS, h⟩
theorem i_kd {z : Str} (h : KDct K w p z v) (q : Q v H) : rIxD K w (.ref p) (.str z) H Q := ⟨p, z, v, rfl, rfl, h, q⟩
end
theorem held_of {P : Program} {w : World} {K : PySem.W.Frag} {mg : Str → Option Value} {base : Heap} {k j : Nat} {x : Str} {sp : Sp} {f : Addr} (c : C8.Cal P w K mg base k x sp []) (hm : mg x = some (.ref f)) (h : k ≤ j) : Held P w K mg base j f sp := by
  obtain ⟨f', fd, ps, ds, F, m, kp, b, d⟩ := c.ex
  have e := m.symm.trans hm
  cases e
  cases d
  exact ⟨fd, ps, F.mono h, kp, b⟩
/-! ### data -/
def intsD (ns : List Int) : PyData := .list (ns.map PyData.int)
theorem eqvAll_ints : ∀ xs ys : List Int, PyData.eqvAll (xs.map PyData.int) (ys.map PyData.int) = decide (xs = ys)
  | [], [] => by simp [PyData.eqvAll]
  | [], _ :: _ => by simp [PyData.eqvAll]
  | _ :: _, [] => by simp [PyData.eqvAll]
  | x :: xs, y :: ys => by
    rw [List.map_cons, List.map_cons, PyData.eqvAll, eqvAll_ints xs ys]
    by_cases h : x = y
    · rw [h]
      simp [PyData.eqv]
    · simp [PyData.eqv, h]
theorem eqv_ints (xs ys : List Int) : PyData.eqv (intsD xs) (intsD ys) = decide (xs = ys) := by
  unfold intsD
  rw [PyData.eqv]
  exact eqvAll_ints xs ys
theorem lay_ints : ∀ xs : List Int, PyData.canLayAll0 (xs.map PyData.int) = true
  | [] => by simp [PyData.canLayAll0]
  | x :: xs => by
    rw [List.map_cons, PyData.canLayAll0, lay_ints xs]
    simp [PyData.canLay0]
theorem depth_ints : ∀ xs : List Int, PyData.depthAll (xs.map PyData.int) = 0
  | [] => by simp [PyData.depthAll]
  | x :: xs => by
    rw [List.map_cons, PyData.depthAll, depth_ints xs]
    simp [PyData.depth]
theorem shaped_ints (xs : List Int) : SeqAt.shaped (intsD xs) = true := by
  unfold SeqAt.shaped intsD
  rw [PyData.canLay0, lay_ints, PyData.depth, depth_ints]
  rfl
theorem dpa_ints {K : PySem.W.Frag} {H : Hp} : ∀ xs : List Int, DpAll K H (xs.map V.int) (xs.map PyData.int)
  | [] => .nil
  | x :: xs => .cons (.int x) (dpa_ints xs)
theorem dp_ints {K : PySem.W.Frag} {H : Hp} {a : Addr} {xs : List Int} (h : SqL K H a (xs.map V.int)) : Dp K H (.ref a) (intsD xs) := .lst h (dpa_ints xs)
theorem i_eqL {K : PySem.W.Frag} {H : Hp} {Q : VK} {a b : Addr} {xs ys : List Int} (h : SqL K H a (xs.map V.int)) (h' : SqL K H b (ys.map V.int)) (q : Q (.bl (decide (xs = ys))) H) : rEqD K (.ref a) (.ref b) H Q :=
  ⟨_, _, dp_ints h, dp_ints h', shaped_ints xs, shaped_ints ys, by rw [eqv_ints]; exact q⟩
theorem i_neL {K : PySem.W.Frag} {H : Hp} {Q : VK} {a b : Addr} {xs ys : List Int} (h : SqL K H a (xs.map V.int)) (h' : SqL K H b (ys.map V.int)) (q : Q (.bl (!decide (xs = ys))) H) : rNeD K (.ref a) (.ref b) H Q :=
  ⟨_, _, dp_ints h, dp_ints h', shaped_ints xs, shaped_ints ys, by rw [eqv_ints]; exact q⟩
/-! ### a < b of data -/
def rLtD (K : PySem.W.Frag) : R2 := fun x y H Q => ∃ d e, Dp K H x d ∧ Dp K H y e ∧ PySem.W.alike d e = true ∧ d ≠ .none ∧ d.depth ≤ 64 ∧ Q (.bl (PySem.W.dataLt d e)) H
theorem op_ltD {X : Cx} (hu : X.A.units + 64 < cLine) : OpR X (compareOp .Lt) (rLtD X.K) := by
  intro pn s σ H x y v u Q J rx ry h
  obtain ⟨d, e, hd, he, al, nn, dd, q⟩ := h
  obtain ⟨as, r1⟩ := Dp.reads J d x v hd rx
  obtain ⟨bs, r2⟩ := Dp.reads J e y u he ry
  have hm : min d.depth e.depth ≤ d.depth := Nat.min_le_left _ _
  exact PySem.W.rcLt_alike d e X.A s v u as bs r1 r2 al nn (by omega) X.prog X.w X.xe _ ⟨.bl _, H, J, rfl, q⟩
def lexI : List Int → List Int → Bool
  | [], [] => false
  | [], _ :: _ => true
  | _ :: _, [] => false
  | a :: x, b :: y => if a = b then lexI x y else decide (a < b)
theorem alike_ints : ∀ xs ys : List Int, PySem.W.alikeAll (xs.map PyData.int) (ys.map PyData.int) = true
  | [], _ => by simp [PySem.W.alikeAll]
  | _ :: _, [] => by simp [PySem.W.alikeAll]
  | x :: xs, y :: ys => by
    rw [List.map_cons, List.map_cons, PySem.W.alikeAll, alike_ints xs ys]
    simp [PySem.W.alike]
theorem toks_nil : PySem.W.keyToksAll [] = [.inl 0] := by rw [PySem.W.keyToksAll]
theorem toks_int (x : Int) : PySem.W.keyToks (.int x) = [.inl x] := by rw [PySem.W.keyToks]
theorem lex_ints : ∀ xs ys : List Int, PyProof.Rows.lexLt PyProof.Rows.itemOrd (PySem.W.keyToksAll (xs.map PyData.int)) (PySem.W.keyToksAll (ys.map PyData.int)) = lexI xs ys
  | [], [] => by
    rw [List.map_nil, toks_nil, PyProof.Rows.lex_self]
    rfl
  | [], y :: ys => by
    rw [List.map_nil, toks_nil, List.map_cons, PySem.W.toks_all_cons, PyProof.Rows.lex_diff (by simp)]
    rfl
  | x :: xs, [] => by
    rw [List.map_nil, toks_nil, List.map_cons, PySem.W.toks_all_cons, PyProof.Rows.lex_diff (by simp)]
    rfl
  | x :: xs, y :: ys => by
    rw [List.map_cons, List.map_cons, PySem.W.toks_all_cons, PySem.W.toks_all_cons, PyProof.Rows.lex_self, toks_int, toks_int]
    show PyProof.Rows.lexLt PyProof.Rows.itemOrd (.inl x :: _) (.inl y :: _) = if x = y then lexI xs ys else decide (x < y)
    by_cases h : x = y
    · rw [h, if_pos rfl]
      show PyProof.Rows.lexLt PyProof.Rows.itemOrd (.inl y :: ([] ++ _)) (.inl y :: ([] ++ _)) = _
      rw [PyProof.Rows.lex_self]
      exact lex_ints xs ys
    · rw [if_neg h, PyProof.Rows.lex_diff (by simpa using h)]
      rfl
theorem lexI_self : ∀ xs : List Int, lexI xs xs = false
  | [] => rfl
  | x :: xs => by
    show (if x = x then lexI xs xs else _) = false
    rw [if_pos rfl, lexI_self xs]
/-- (n, xs) < (m, ys) -/
def pairD (n : Int) (xs : List Int) : PyData := .tuple [.int n, intsD xs]
theorem lt_pair (n m : Int) (xs ys : List Int) : PySem.W.dataLt (pairD n xs) (pairD m ys) = if n = m then lexI xs ys else decide (n < m) := by
  unfold pairD
  by_cases h : n = m
  · rw [if_pos h, PySem.W.dataLt_tuple, PySem.W.dataLt_all_yes (by rw [PySem.W.alike]) (by rw [h]; simp [PyData.eqv])]
    by_cases e : xs = ys
    · rw [e, PySem.W.dataLt_all_yes (by unfold intsD; rw [PySem.W.alike]; exact alike_ints ys ys) (by rw [eqv_ints]; simp), toks_nil, PyProof.Rows.lex_self, lexI_self]
      rfl
    · rw [PySem.W.dataLt_all_no (by unfold intsD; rw [PySem.W.alike]; exact alike_ints xs ys) (by rw [eqv_ints]; simpa using e)]
      unfold intsD
      rw [PySem.W.dataLt_list, lex_ints]
  · rw [if_neg h, PySem.W.dataLt_tuple, PySem.W.dataLt_all_no (by rw [PySem.W.alike]) (by simp [PyData.eqv, h]), PySem.W.dataLt_int]
theorem dp_pair {K : PySem.W.Frag} {H : Hp} {p a : Addr} {n : Int} {xs : List Int} (h : SqT K H p [.int n, .ref a]) (h' : SqL K H a (xs.map V.int)) : Dp K H (.ref p) (pairD n xs) := .tup h (.cons (.int n) (.cons (dp_ints h') .nil))
theorem i_ltP {K : PySem.W.Frag} {H : Hp} {Q : VK} {p q a b : Addr} {n m : Int} {xs ys : List Int} (h1 : SqT K H p [.int n, .ref a]) (h2 : SqL K H a (xs.map V.int)) (h3 : SqT K H q [.int m, .ref b]) (h4 : SqL K H b (ys.map V.int))
    (k : Q (.bl (if n = m then lexI xs ys else decide (n < m))) H) : rLtD K (.ref p) (.ref q) H Q := by
  refine ⟨_, _, dp_pair h1 h2, dp_pair h3 h4, ?_, (fun z => by cases z), ?_, by rw [lt_pair]; exact k⟩
  · unfold pairD intsD
    simp only [PySem.W.alike, PySem.W.alikeAll, alike_ints]
    rfl
  · unfold pairD intsD
    simp [PyData.depth, PyData.depthAll, depth_ints]
end Esc

namespace Esc
open PySem PySem.Spec PyProof.Rows L2
theorem eqV_int (a b : Int) : eqV (.int a) (.int b) = decide (a = b) := by
  unfold eqV
  by_cases h : a = b <;> simp [h]
theorem flat_ints (ls : List Int) : (ls.map V.int).all flatV = true := by
  rw [List.all_eq_true]
  intro x hx
  obtain ⟨n, _, rfl⟩ := List.mem_map.mp hx
  rfl
theorem i_indexI {K : PySem.W.Frag} {H : Hp} {Q : VK} {a : Addr} {ls : List Int} {x : Int} (h : SqL K H a (ls.map V.int)) (m : x ∈ ls) (q : Q (.int ((ls.idxOf x : Nat) : Int)) H) : rIndex K (.ref a) [.int x] H Q := by
  have hi := List.idxOf_lt_length_of_mem m
  refine ⟨a, _, .int x, ls.idxOf x, .int x, rfl, rfl, h, rfl, flat_ints ls, ?_, by rw [eqV_int]; simp, fun j z hj hz => ?_, q⟩
  · rw [List.getElem?_map, List.getElem?_eq_getElem hi, List.getElem_idxOf hi]
    rfl
  · rw [List.getElem?_map] at hz
    have hj' : j < ls.length := by omega
    rw [List.getElem?_eq_getElem hj'] at hz
    cases hz
    rw [eqV_int]
    have z := List.not_of_lt_findIdx (p := fun y => y == x) hj
    simpa using z
/-! ### order -/
theorem lexI_letters {ls : List Int} (pw : ls.Pairwise (· < ·)) : ∀ (x y : List Nat), (∀ d ∈ x, d < ls.length) → (∀ d ∈ y, d < ls.length) → lexI (x.map fun d => ls.getD d 0) (y.map fun d => ls.getD d 0) = lexN x y
  | [], [], _, _ => rfl
  | [], _ :: _, _, _ => rfl
  | _ :: _, [], _, _ => rfl
  | a :: x, b :: y, hx, hy => by
    have ha := hx a List.mem_cons_self
    have hb := hy b List.mem_cons_self
    have ih := lexI_letters pw x y (fun d m => hx d (List.mem_cons_of_mem _ m)) (fun d m => hy d (List.mem_cons_of_mem _ m))
    have g : ∀ {i : Nat} (h : i < ls.length), ls.getD i 0 = ls[i] := fun {i} h => by
      rw [List.getD_eq_getElem?_getD, List.getElem?_eq_getElem h]
      rfl
    have mono : ∀ {i j : Nat} (hi : i < ls.length) (hj : j < ls.length), i < j → ls[i] < ls[j] := fun {i j} hi hj h => List.pairwise_iff_getElem.mp pw i j hi hj h
    show (if ls.getD a 0 = ls.getD b 0 then lexI (x.map _) (y.map _) else decide (ls.getD a 0 < ls.getD b 0)) = if a = b then lexN x y else decide (a < b)
    rw [g ha, g hb]
    rcases Nat.lt_trichotomy a b with h | h | h
    · have z := mono ha hb h
      rw [if_neg (by omega), if_neg (by omega), decide_eq_true z, decide_eq_true h]
    · subst h
      rw [if_pos rfl, if_pos rfl]
      exact ih
    · have z := mono hb ha h
      rw [if_neg (by omega), if_neg (by omega), decide_eq_false (by omega), decide_eq_false (by omega)]
def lessI (k : Nat) (a b : List Int) : Bool := if ((a.length + k : Nat) : Int) = ((b.length + k : Nat) : Int) then lexI a b else decide (((a.length + k : Nat) : Int) < ((b.length + k : Nat) : Int))
theorem lessI_letters {k : Nat} {ls : List Int} (pw : ls.Pairwise (· < ·)) {x y : List Nat} (hx : ∀ d ∈ x, d < ls.length) (hy : ∀ d ∈ y, d < ls.length) : lessI k (x.map fun d => ls.getD d 0) (y.map fun d => ls.getD d 0) = lessD x y := by
  unfold lessI lessD
  rw [List.length_map, List.length_map, lexI_letters pw x y hx hy]
  by_cases h : x.length = y.length
  · rw [h, if_pos rfl]
    simp
  · rw [if_neg (by omega), decide_eq_false h]
    by_cases c : x.length < y.length
    · rw [decide_eq_true c, decide_eq_true (by omega)]
      rfl
    · rw [decide_eq_false c, decide_eq_false (by omega)]
      rfl
end Esc

set_option maxHeartbeats 1000000
namespace Esc
open PySem PySem.Spec PyProof.Rows L2
/-! ### l.remove(x) of data -/
def rRemD (K : PySem.W.Frag) : V → List V → Hp → VK → Prop := fun x xs H Q => ∃ (l : Addr) (vs : List V) (y : V) (d : PyData) (ds : List PyData) (j : Nat) (z : PyData), x = .ref l ∧ xs = [y] ∧ H l = some (.lst vs) ∧ DpAll K H vs ds ∧ Dp K H y d ∧
  SeqAt.shaped (.list ds) = true ∧ SeqAt.shaped d = true ∧ ds[j]? = some z ∧ PyData.eqv z d = true ∧ (∀ (m : Nat) (z' : PyData), m < j → ds[m]? = some z' → PyData.eqv z' d = false) ∧ Q .non (upd H l (.lst (vs.eraseIdx j)))
theorem mt_removeD {X : Cx} (hu : X.A.units + 65 < cLine) : MtM X "list.remove" (rRemD X.K) := by
  intro pn s σ H x xs v us Q J rx rxs h
  obtain ⟨l, vs, y, d, ds, j, z, rfl, rfl, hH, ha, hy, sl, sd, hz, hzj, hno, q⟩ := h
  cases rx
  obtain ⟨u, rfl, ru⟩ := rxs.one
  obtain ⟨bs, r1⟩ := Dp.reads J d y u hy ru
  obtain ⟨zz, its, n, r, hl, e⟩ := J.lstM hH
  have lay : PyData.canLayAll0 ds = true := SeqAt.canLay_of_shaped sl
  have room : X.A.units + 1 + min (PyData.depthAll ds) d.depth < cLine := room_in_shaped sd hu
  obtain ⟨as, h4⟩ := Dp.readsAll J ds _ its ha r
  have hn : its.length = ds.length := SeqAt.ReadsAll.length ds its as h4
  have mp : its.map (SeqAt.readOf s.heap) = ds := SeqAt.readsAll_map ds its as lay h4
  have hjd := (List.getElem?_eq_some_iff.mp hz).1
  have hj : j < its.toArray.size := by
    rw [List.size_toArray]
    omega
  have place : ∀ (m : Nat) (hm : m < its.toArray.size) (z' : PyData), ds[m]? = some z' → SeqAt.readOf s.heap its.toArray[m] = z' := fun m hm z' hz' => by
    have hml : m < its.length := by simpa using hm
    rw [← mp, List.getElem?_map, List.getElem?_eq_getElem hml] at hz'
    have e1 : SeqAt.readOf s.heap its[m] = z' := by
      simpa using hz'
    simpa using e1
  have ends := SeqAt.items_eqAt (vs := its.toArray) (show ReadsAll s.heap its.toArray.toList ds as from h4) r1 lay (SeqAt.canLay_of_shaped sd) room
  have rr := r.eraseIdx j
  have zl : its.length ≤ sizeLine := by omega
  refine call_meets PySem.F.slot_list_remove ⟨_, e, rfl⟩ PySem.F.entry_list_remove (PySem.F.args_list_remove_2 _ _) (SeqAt.list_removeAt l its.toArray n _ _ u (fun w => PyData.eqv (SeqAt.readOf s.heap w) d) j hj ?_ ?_ (by rw [List.size_toArray]; exact zl)) ⟨e, ends, ?_⟩
  · show PyData.eqv (SeqAt.readOf s.heap its.toArray[j]) d = true
    rw [place j hj z hz]
    exact hzj
  · intro m hm hmj
    have hmd : m < ds.length := by omega
    show PyData.eqv (SeqAt.readOf s.heap its.toArray[m]) d = false
    rw [place m hm _ (List.getElem?_eq_getElem hmd)]
    exact hno m _ hmj (List.getElem?_eq_getElem hmd)
  · refine ⟨.non, _, J.lset (its' := its.eraseIdx j) (t' := s.toks) hH e ?_ rr ?_, rfl, q⟩
    · show its.toArray.eraseIdxIfInBounds j = (its.eraseIdx j).toArray
      rw [List.eraseIdxIfInBounds_toArray]
    · have z2 := List.length_eraseIdx_le vs j
      omega
end Esc

/-! Ways: what they are, how they stand in a heap, which are good. -/
namespace Esc
open PySem PySem.Spec PyProof.Rows L2
/-! ### tuples of which the object is known to have no dict -/
def NoD (o : Obj) : Prop := o.cls = .type "tuple" ∧ o.dict = none
def TupD (H : Hp) (a : Addr) (xs : List V) : Prop := ∃ o, NoD o ∧ H a = some (.frz o (.tup xs))
theorem TupD.st {K : PySem.W.Frag} {H : Hp} {a : Addr} {xs : List V} (h : TupD H a xs) : SqT K H a xs := by
  obtain ⟨o, _, e⟩ := h
  exact .inl (.inr ⟨o, e⟩)
theorem TupD.same {H H' : Hp} {a : Addr} {xs : List V} (s : Same H H') (h : TupD H a xs) : TupD H' a xs := by
  obtain ⟨o, n, e⟩ := h
  exact ⟨o, n, s _ _ e⟩
/-- tuple(l), the object told -/
def rTupOfF (K : PySem.W.Frag) : List V → Hp → VK → Prop := fun xs H Q => ∃ p ys, xs = [.ref p] ∧ SqL K H p ys ∧ ∀ l o, NoD o → H l = none → Q (.ref l) (upd H l (.frz o (.tup ys)))
theorem k_tupOfF {X : Cx} : CallR X (.type "tuple") (rTupOfF X.K) := by
  intro pn s σ H vs us Q J r h
  obtain ⟨p, ys, rfl, hq, q⟩ := h
  rw [Vals.ref1 r]
  obtain ⟨its, rv, pl, hz⟩ := J.list hq
  have len := rv.length
  refine call_tuple_list pl.isList (fun h1 k => ?_) (by rw [List.size_toArray]; omega)
  have J1 : Inv X pn σ H { s with heap := h1 } := J.kept (t' := s.toks) k
  exact ⟨.ref h1.objs.size, _, J1.laid (o := .frz { cls := .type "tuple", data := .seq its.toArray } (.tup ys)) (t' := s.toks) (fun b u e => Heap.get?_push_of_some _ e) (Nat.le_refl _) ⟨Heap.get?_push_size _ rfl, hz, its, rv, IsTup.new _ _⟩, rfl, q _ _ ⟨rfl, rfl⟩ (J1.hok.fresh (Nat.le_refl _))⟩
theorem i_tupOfF {K : PySem.W.Frag} {H : Hp} {Q : VK} {a : Addr} {xs : List V} (h : SqL K H a xs) (q : ∀ p H', H p = none → Same H H' → TupD H' p xs → Q (.ref p) H') : rTupOfF K [.ref a] H Q :=
  ⟨a, xs, rfl, h, fun l o n hl => q l _ hl (same_new hl) ⟨o, n, upd_same⟩⟩
/-! ### tuples that stay -/
/-- at each of as a tuple of ints -/
def TupsAt (K : PySem.W.Frag) (H : Hp) : List Addr → List (List Int) → Prop
  | [], [] => True
  | a :: as, c :: cs => H a = some (.tup (c.map V.int)) ∧ TupsAt K H as cs
  | _, _ => False
theorem TupsAt.same {K : PySem.W.Frag} {H H' : Hp} (s : Same H H') : ∀ {as : List Addr} {cs : List (List Int)}, TupsAt K H as cs → TupsAt K H' as cs
  | [], [], _ => trivial
  | _ :: _, _ :: _, ⟨h, r⟩ => ⟨s _ _ h, TupsAt.same s r⟩
theorem TupsAt.len {K : PySem.W.Frag} {H : Hp} : ∀ {as : List Addr} {cs : List (List Int)}, TupsAt K H as cs → as.length = cs.length
  | [], [], _ => rfl
  | _ :: _, _ :: _, ⟨_, r⟩ => congrArg (· + 1) r.len
theorem TupsAt.get {K : PySem.W.Frag} {H : Hp} : ∀ {as : List Addr} {cs : List (List Int)} {i : Nat} {a : Addr}, TupsAt K H as cs → as[i]? = some a → ∃ c, cs[i]? = some c ∧ SqT K H a (c.map V.int)
  | [], _, _, _, _, e => by simp at e
  | _ :: _, c :: _, 0, a, ⟨h, _⟩, e => by
    cases e
    exact ⟨c, rfl, st_of h⟩
  | _ :: as, _ :: cs, i + 1, a, ⟨_, r⟩, e => TupsAt.get (as := as) (cs := cs) (i := i) r e
theorem TupsAt.getS {K : PySem.W.Frag} {H : Hp} : ∀ {as : List Addr} {cs : List (List Int)} {i : Nat} {a : Addr}, TupsAt K H as cs → as[i]? = some a → ∃ c, cs[i]? = some c ∧ H a = some (.tup (c.map V.int))
  | [], _, _, _, _, e => by simp at e
  | _ :: _, c :: _, 0, a, ⟨h, _⟩, e => by
    cases e
    exact ⟨c, rfl, h⟩
  | _ :: as, _ :: cs, i + 1, a, ⟨_, r⟩, e => TupsAt.getS (as := as) (cs := cs) (i := i) r e
theorem TupsAt.getc {K : PySem.W.Frag} {H : Hp} : ∀ {as : List Addr} {cs : List (List Int)} {i : Nat} {c : List Int}, TupsAt K H as cs → cs[i]? = some c → ∃ a, as[i]? = some a ∧ SqT K H a (c.map V.int)
  | [], [], _, _, _, e => by simp at e
  | a :: _, _ :: _, 0, c, ⟨h, _⟩, e => by
    cases e
    exact ⟨a, rfl, st_of h⟩
  | _ :: as, _ :: cs, i + 1, c, ⟨_, r⟩, e => TupsAt.getc (as := as) (cs := cs) (i := i) r e
theorem TupsAt.app {K : PySem.W.Frag} {H : Hp} : ∀ {as : List Addr} {cs : List (List Int)} {bs : List Addr} {ds : List (List Int)}, TupsAt K H as cs → TupsAt K H bs ds → TupsAt K H (as ++ bs) (cs ++ ds)
  | [], [], _, _, _, h => h
  | _ :: as, _ :: cs, bs, ds, ⟨h, r⟩, h2 => ⟨h, TupsAt.app (as := as) (cs := cs) (bs := bs) (ds := ds) r h2⟩
theorem TupsAt.erase {K : PySem.W.Frag} {H : Hp} : ∀ {as : List Addr} {cs : List (List Int)} (i : Nat), TupsAt K H as cs → TupsAt K H (as.eraseIdx i) (cs.eraseIdx i)
  | [], [], _, h => by simpa using h
  | _ :: _, _ :: _, 0, ⟨_, r⟩ => r
  | _ :: _, _ :: _, i + 1, ⟨h, r⟩ => ⟨h, r.erase i⟩
theorem TupsAt.take {K : PySem.W.Frag} {H : Hp} : ∀ {as : List Addr} {cs : List (List Int)} (n : Nat), TupsAt K H as cs → TupsAt K H (as.take n) (cs.take n)
  | [], [], n, h => by simpa using h
  | _ :: _, _ :: _, 0, _ => trivial
  | _ :: _, _ :: _, n + 1, ⟨h, r⟩ => ⟨h, r.take n⟩
/-- as data -/
def intsT (c : List Int) : PyData := .tuple (c.map PyData.int)
theorem TupsAt.dpa {K : PySem.W.Frag} {H : Hp} : ∀ {as : List Addr} {cs : List (List Int)}, TupsAt K H as cs → DpAll K H (as.map V.ref) (cs.map intsT)
  | [], [], _ => .nil
  | _ :: _, _ :: _, ⟨h, r⟩ => .cons (.tup (st_of h) (dpa_ints _)) r.dpa
theorem eqv_intsT (a b : List Int) : PyData.eqv (intsT a) (intsT b) = decide (a = b) := by
  unfold intsT
  rw [PyData.eqv]
  exact eqvAll_ints a b
theorem lay_intsT : ∀ cs : List (List Int), PyData.canLayAll0 (cs.map intsT) = true
  | [] => by simp [PyData.canLayAll0]
  | c :: cs => by
    rw [List.map_cons, PyData.canLayAll0, lay_intsT cs]
    unfold intsT
    rw [PyData.canLay0, lay_ints]
    rfl
theorem depth_intsT : ∀ cs : List (List Int), PyData.depthAll (cs.map intsT) ≤ 1
  | [] => by simp [PyData.depthAll]
  | c :: cs => by
    have ih := depth_intsT cs
    rw [List.map_cons, PyData.depthAll]
    unfold intsT at ih ⊢
    rw [PyData.depth, depth_ints]
    omega
theorem shaped_intsT (c : List Int) : SeqAt.shaped (intsT c) = true := by
  unfold SeqAt.shaped intsT
  rw [PyData.canLay0, lay_ints, PyData.depth, depth_ints]
  rfl
theorem shaped_intsTs (cs : List (List Int)) : SeqAt.shaped (.list (cs.map intsT)) = true := by
  unfold SeqAt.shaped
  have h := depth_intsT cs
  rw [PyData.canLay0, lay_intsT, PyData.depth, decide_eq_true (by omega)]
  rfl
/-! ### lists that may be compared -/
/-- data that == can look at -/
def Fl (K : PySem.W.Frag) (H : Hp) (v : V) : Prop := ∃ d, Dp K H v d ∧ d.canLay0 = true ∧ d.depth ≤ 8
mutual
theorem dp_same {K : PySem.W.Frag} {H H' : Hp} (s : Same H H') : ∀ {v : V} {d : PyData}, Dp K H v d → Dp K H' v d
  | _, _, .non => .non
  | _, _, .bl b => .bl b
  | _, _, .int i => .int i
  | _, _, .str x => .str x
  | _, _, .lst h a => .lst (s.seq h) (dpa_same s a)
  | _, _, .tup h a => .tup (stup s h) (dpa_same s a)
theorem dpa_same {K : PySem.W.Frag} {H H' : Hp} (s : Same H H') : ∀ {vs : List V} {ds : List PyData}, DpAll K H vs ds → DpAll K H' vs ds
  | _, _, .nil => .nil
  | _, _, .cons h a => .cons (dp_same s h) (dpa_same s a)
end
theorem Fl.same {K : PySem.W.Frag} {H H' : Hp} (s : Same H H') {v : V} (h : Fl K H v) : Fl K H' v := by
  obtain ⟨d, a, b⟩ := h
  exact ⟨d, dp_same s a, b⟩
theorem fl_int {K : PySem.W.Frag} {H : Hp} (n : Int) : Fl K H (.int n) := ⟨_, .int n, by simp [PyData.canLay0], by simp [PyData.depth]⟩
theorem fl_tup {K : PySem.W.Frag} {H : Hp} {a : Addr} {c : List Int} (h : SqT K H a (c.map V.int)) : Fl K H (.ref a) := ⟨_, .tup h (dpa_ints c), by rw [PyData.canLay0, lay_ints], by rw [PyData.depth, depth_ints]; decide⟩
theorem fl_all {K : PySem.W.Frag} {H : Hp} : ∀ {vs : List V}, (∀ v ∈ vs, Fl K H v) → ∃ ds, DpAll K H vs ds ∧ PyData.canLayAll0 ds = true ∧ PyData.depthAll ds ≤ 8 ∧ ds.length = vs.length
  | [], _ => ⟨[], .nil, by simp [PyData.canLayAll0], by simp [PyData.depthAll], rfl⟩
  | v :: vs, h => by
    obtain ⟨d, a, b, c⟩ := h v List.mem_cons_self
    obtain ⟨ds, a', b', c', e'⟩ := fl_all fun x m => h x (List.mem_cons_of_mem _ m)
    refine ⟨d :: ds, .cons a a', by rw [PyData.canLayAll0, b, b']; rfl, by rw [PyData.depthAll]; omega, by rw [List.length_cons, List.length_cons, e']⟩
/-- xs != [] -/
theorem i_neNil {K : PySem.W.Frag} {H : Hp} {Q : VK} {a b : Addr} {xs : List V} (h : SqL K H a xs) (hf : ∀ v ∈ xs, Fl K H v) (h' : SqL K H b []) (q : Q (.bl (!decide (xs = []))) H) : rNeD K (.ref a) (.ref b) H Q := by
  obtain ⟨ds, h1, h2, h3, h4⟩ := fl_all hf
  refine ⟨.list ds, .list [], .lst h h1, .lst h' .nil, ?_, by decide, ?_⟩
  · unfold SeqAt.shaped
    rw [PyData.canLay0, h2, PyData.depth, decide_eq_true (by omega)]
    rfl
  · have e : PyData.eqv (.list ds) (.list []) = decide (xs = []) := by
      rw [PyData.eqv]
      cases xs with
      | nil =>
        cases ds with
        | nil => simp [PyData.eqvAll]
        | cons d ds => simp at h4
      | cons x xs =>
        cases ds with
        | nil => simp at h4
        | cons d ds => simp [PyData.eqvAll]
    rw [e]
    exact q
/-! ### sorts of ways -/
inductive Kind where
  | codes (cs : List (List Int))
  | escapes (m : Int) (prs : List (Int × Int))
  | counts (l : Int)
  | ranks
def Plain (t e x : Int) : Prop := 0 ≤ x ∧ x < t ∧ x ≠ e
def CodesOk (t e : Int) (cs : List (List Int)) : Prop := (∀ c ∈ cs, 1 ≤ c.length ∧ c.length ≤ 4 ∧ ∀ x ∈ c, Plain t e x) ∧ cs.Pairwise fun a b => ¬ a <+: b ∧ ¬ b <+: a
def KindOk (t e : Int) : Kind → Prop
  | .codes cs => cs.length = t.toNat ∧ CodesOk t e cs
  | .escapes m prs => Plain t e m ∧ (prs.map (·.1)).Pairwise (· < ·) ∧ (∀ s ∈ prs.map (·.1), 0 ≤ s ∧ s < t) ∧ e ∈ prs.map (·.1) ∧ m ∈ prs.map (·.1) ∧ (∀ c ∈ prs.map (·.2), Plain t e c) ∧ (prs.map (·.2)).Nodup
  | .counts l => 2 ≤ l ∧ l < t
  | .ranks => True
def PairsAt (K : PySem.W.Frag) (H : Hp) : List Addr → List (Int × Int) → Prop
  | [], [] => True
  | a :: as, c :: cs => SqT K H a [.int c.1, .int c.2] ∧ PairsAt K H as cs
  | _, _ => False
theorem PairsAt.same {K : PySem.W.Frag} {H H' : Hp} (s : Same H H') : ∀ {as : List Addr} {cs : List (Int × Int)}, PairsAt K H as cs → PairsAt K H' as cs
  | [], [], _ => trivial
  | _ :: _, _ :: _, ⟨h, r⟩ => ⟨stup s h, PairsAt.same s r⟩
theorem PairsAt.len {K : PySem.W.Frag} {H : Hp} : ∀ {as : List Addr} {cs : List (Int × Int)}, PairsAt K H as cs → as.length = cs.length
  | [], [], _ => rfl
  | _ :: _, _ :: _, ⟨_, r⟩ => congrArg (· + 1) r.len
theorem PairsAt.get {K : PySem.W.Frag} {H : Hp} : ∀ {as : List Addr} {cs : List (Int × Int)} {i : Nat} {a : Addr}, PairsAt K H as cs → as[i]? = some a → ∃ c, cs[i]? = some c ∧ SqT K H a [.int c.1, .int c.2]
  | [], _, _, _, _, e => by simp at e
  | _ :: _, c :: _, 0, a, ⟨h, _⟩, e => by
    cases e
    exact ⟨c, rfl, h⟩
  | _ :: as, _ :: cs, i + 1, a, ⟨_, r⟩, e => PairsAt.get (as := as) (cs := cs) (i := i) r e
theorem PairsAt.app {K : PySem.W.Frag} {H : Hp} : ∀ {as : List Addr} {cs : List (Int × Int)} {bs : List Addr} {ds : List (Int × Int)}, PairsAt K H as cs → PairsAt K H bs ds → PairsAt K H (as ++ bs) (cs ++ ds)
  | [], [], _, _, _, h => h
  | _ :: as, _ :: cs, bs, ds, ⟨h, r⟩, h2 => ⟨h, PairsAt.app (as := as) (cs := cs) (bs := bs) (ds := ds) r h2⟩
def KindAt (K : PySem.W.Frag) (H : Hp) (p : Addr) (t e : Int) : Kind → Prop
  | .codes cs => ∃ c as, SqT K H p [.str "codes", .int t, .int e, .ref c] ∧ SqT K H c (as.map V.ref) ∧ TupsAt K H as cs
  | .escapes m prs => ∃ c as, SqT K H p [.str "escapes", .int t, .int e, .int m, .ref c] ∧ SqT K H c (as.map V.ref) ∧ PairsAt K H as prs
  | .counts l => SqT K H p [.str "counts", .int t, .int e, .int l]
  | .ranks => SqT K H p [.str "ranks", .int t, .int e]
theorem KindAt.same {K : PySem.W.Frag} {H H' : Hp} {p : Addr} {t e : Int} (s : Same H H') : ∀ {k : Kind}, KindAt K H p t e k → KindAt K H' p t e k
  | .codes _, ⟨c, as, h1, h2, h3⟩ => ⟨c, as, stup s h1, stup s h2, h3.same s⟩
  | .escapes _ _, ⟨c, as, h1, h2, h3⟩ => ⟨c, as, stup s h1, stup s h2, h3.same s⟩
  | .counts _, h => stup s h
  | .ranks, h => stup s h
def Kind.name : Kind → Str
  | .codes _ => "codes"
  | .escapes _ _ => "escapes"
  | .counts _ => "counts"
  | .ranks => "ranks"
theorem Kind.name_ne : ∀ k : Kind, k.name ≠ "turned"
  | .codes _ => (by decide +kernel : ("codes" : Str) ≠ "turned")
  | .escapes _ _ => (by decide +kernel : ("escapes" : Str) ≠ "turned")
  | .counts _ => (by decide +kernel : ("counts" : Str) ≠ "turned")
  | .ranks => (by decide +kernel : ("ranks" : Str) ≠ "turned")
theorem KindAt.head {K : PySem.W.Frag} {H : Hp} {p : Addr} {t e : Int} : ∀ {k : Kind}, KindAt K H p t e k → ∃ xs, SqT K H p (.str k.name :: .int t :: .int e :: xs)
  | .codes _, ⟨c, as, h1, _, _⟩ => ⟨[.ref c], h1⟩
  | .escapes m _, ⟨c, as, h1, _, _⟩ => ⟨[.int m, .ref c], h1⟩
  | .counts l, h => ⟨[.int l], h⟩
  | .ranks, h => ⟨[], h⟩
/-- v is turned by each of ts (at its address), the outermost first; u stands within -/
def TurnAt (K : PySem.W.Frag) (H : Hp) : List (Addr × List Int) → V → V → Prop
  | [], v, u => v = u
  | (a, t) :: r, v, u => ∃ p x, v = .ref p ∧ SqT K H p [.str "turned", .ref a, x] ∧ TupD H a (t.map V.int) ∧ TurnAt K H r x u
theorem TurnAt.same {K : PySem.W.Frag} {H H' : Hp} (s : Same H H') : ∀ {ts : List (Addr × List Int)} {v u : V}, TurnAt K H ts v u → TurnAt K H' ts v u
  | [], _, _, h => h
  | (_, _) :: _, _, _, ⟨p, x, e, h1, h2, h3⟩ => ⟨p, x, e, stup s h1, h2.same s, h3.same s⟩
structure Way where
  ts : List (List Int)
  t : Int
  e : Int
  k : Kind
def countL (t : Int) : List Int := (List.range t.toNat).map fun (i : Nat) => (i : Int)
def WayAt (K : PySem.W.Frag) (H : Hp) (v : V) (w : Way) : Prop := ∃ (tas : List (Addr × List Int)) (p : Addr), tas.map (·.2) = w.ts ∧ TurnAt K H tas v (.ref p) ∧ KindAt K H p w.t w.e w.k
theorem WayAt.same {K : PySem.W.Frag} {H H' : Hp} {v : V} {w : Way} (s : Same H H') (h : WayAt K H v w) : WayAt K H' v w := by
  obtain ⟨tas, p, a, b, c⟩ := h
  exact ⟨tas, p, a, b.same s, c.same s⟩
structure Way.Ok (w : Way) : Prop where
  few : w.ts.length ≤ 3
  t3 : 3 ≤ w.t
  t16 : w.t ≤ 16
  e0 : 0 ≤ w.e
  e1 : w.e < w.t
  kind : KindOk w.t w.e w.k
  perm : ∀ p ∈ w.ts, p.Perm (countL w.t)
end Esc

/-! Plain signs; rows of letters and their digits; frames by ranks. -/
namespace Esc
open PySem PySem.Spec PyProof.Rows L2
def plainL (t e : Int) : List Int := (List.range t.toNat).filterMap fun (i : Nat) => if (i : Int) = e then none else some (i : Int)
theorem plainL_map (t e : Int) : (List.range t.toNat).filterMap (fun (i : Nat) => if (i : Int) = e then none else some (V.int (i : Int))) = (plainL t e).map V.int := by
  unfold plainL
  rw [List.map_filterMap]
  congr 1
  funext i
  by_cases h : (i : Int) = e
  · rw [if_pos h, if_pos h]
    rfl
  · rw [if_neg h, if_neg h]
    rfl
def pk : Nat → List Int → List (Key × V)
  | _, [] => []
  | n, l :: r => (Sum.inl l, V.int (n : Int)) :: pk (n + 1) r
theorem pk_snoc : ∀ (r : List Int) (n : Nat) (l : Int), pk n (r ++ [l]) = pk n r ++ [(Sum.inl l, V.int ((n + r.length : Nat) : Int))]
  | [], n, l => rfl
  | x :: r, n, l => by
    show _ :: pk (n + 1) (r ++ [l]) = _
    rw [pk_snoc r (n + 1) l]
    show _ = _ :: (pk (n + 1) r ++ _)
    rw [List.length_cons, show n + 1 + r.length = n + (r.length + 1) by omega]
theorem pk_len : ∀ (r : List Int) (n : Nat), (pk n r).length = r.length
  | [], _ => rfl
  | x :: r, n => by
    show (pk (n + 1) r).length + 1 = r.length + 1
    rw [pk_len r (n + 1)]
theorem pk_none : ∀ (r : List Int) (n : Nat) (x : Int), x ∉ r → valV (pk n r) (Sum.inl x) = none
  | [], _, _, _ => rfl
  | y :: r, n, x, h => by
    show valV ((Sum.inl y, V.int (n : Int)) :: pk (n + 1) r) _ = _
    rw [valV_neg (fun e => h (by rw [Sum.inl.inj e]; exact List.mem_cons_self)), pk_none r (n + 1) x fun m => h (List.mem_cons_of_mem _ m)]
theorem pk_some : ∀ (r : List Int) (n : Nat) (x : Int), x ∈ r → valV (pk n r) (Sum.inl x) = some (V.int ((n + r.idxOf x : Nat) : Int))
  | y :: r, n, x, h => by
    show valV ((Sum.inl y, V.int (n : Int)) :: pk (n + 1) r) _ = _
    by_cases e : y = x
    · rw [valV_pos (by rw [e]), e, List.idxOf_cons_self]
      rfl
    · have m : x ∈ r := by
        rcases List.mem_cons.mp h with q | q
        · exact absurd q.symm e
        · exact q
      rw [valV_neg (fun q => e (Sum.inl.inj q)), pk_some r (n + 1) x m, List.idxOf_cons, show (y == x) = false from beq_false_of_ne e, cond_false, show n + 1 + r.idxOf x = n + (r.idxOf x + 1) by omega]
theorem map_get {ns : List Int} {i : Nat} {x : V} (h : (ns.map V.int)[i]? = some x) : ∃ n, ns[i]? = some n ∧ x = .int n := by
  rw [List.getElem?_map] at h
  cases e : ns[i]? with
  | none =>
    rw [e] at h
    cases h
  | some n =>
    rw [e] at h
    exact ⟨n, rfl, (Option.some.inj h).symm⟩
theorem take_succ' {α : Type} {l : List α} {i : Nat} {x : α} (h : l[i]? = some x) : l.take (i + 1) = l.take i ++ [x] := by
  rw [List.take_add_one, h]
  rfl
theorem nodup_take {α : Type} [DecidableEq α] {l : List α} {i : Nat} {x : α} (hn : l.Nodup) (h : l[i]? = some x) : x ∉ l.take i := fun m => by
  obtain ⟨j, hj, e⟩ := List.getElem_of_mem m
  rw [List.length_take] at hj
  obtain ⟨hi, e2⟩ := List.getElem?_eq_some_iff.mp h
  rw [List.getElem_take] at e
  have := (List.getElem_inj hn).mp (e.trans e2.symm)
  omega
theorem plain_mem {t e x : Int} : x ∈ plainL t e ↔ 0 ≤ x ∧ x < t ∧ x ≠ e := by
  unfold plainL
  rw [List.mem_filterMap]
  constructor
  · rintro ⟨i, hi, h⟩
    rw [List.mem_range] at hi
    by_cases c : (i : Int) = e
    · rw [if_pos c] at h
      cases h
    · rw [if_neg c] at h
      cases h
      exact ⟨by omega, by omega, c⟩
  · rintro ⟨h1, h2, h3⟩
    refine ⟨x.toNat, by rw [List.mem_range]; omega, ?_⟩
    rw [Int.toNat_of_nonneg h1, if_neg h3]
theorem rg_count (t : Int) : rgV 0 t = (countL t).map V.int := by
  unfold rgV countL
  rw [List.map_map, Int.sub_zero]
  congr 1
  funext i
  show V.int (0 + (i : Int)) = V.int (i : Int)
  rw [Int.zero_add]
theorem count_len {t : Int} : (countL t).length = t.toNat := by
  unfold countL
  rw [List.length_map, List.length_range]
theorem count_mem {t x : Int} : x ∈ countL t ↔ 0 ≤ x ∧ x < t := by
  unfold countL
  rw [List.mem_map]
  constructor
  · rintro ⟨i, hi, rfl⟩
    rw [List.mem_range] at hi
    exact ⟨by omega, by omega⟩
  · rintro ⟨h1, h2⟩
    exact ⟨x.toNat, by rw [List.mem_range]; omega, Int.toNat_of_nonneg h1⟩
theorem count_nodup (t : Int) : (countL t).Nodup := by
  unfold countL
  exact List.Pairwise.map _ (fun a b (h : a ≠ b) z => h (Int.ofNat.inj z)) List.nodup_range
theorem plain_pw (t e : Int) : (plainL t e).Pairwise (· < ·) := by
  unfold plainL
  refine List.Pairwise.filterMap _ ?_ List.pairwise_lt_range
  intro a b hab x hx y hy
  by_cases c : (a : Int) = e
  · rw [if_pos c] at hx
    cases hx
  · by_cases c2 : (b : Int) = e
    · rw [if_pos c2] at hy
      cases hy
    · rw [if_neg c] at hx
      rw [if_neg c2] at hy
      cases hx
      cases hy
      omega
theorem plain_nodup (t e : Int) : (plainL t e).Nodup := (plain_pw t e).imp fun h => by omega
theorem range_filter_len (e : Nat) : ∀ n : Nat, e < n → ((List.range n).filterMap fun (i : Nat) => if (i : Int) = (e : Int) then none else some (i : Int)).length + 1 = n
  | 0, h => by omega
  | n + 1, h => by
    rw [List.range_succ, List.filterMap_append, List.length_append]
    by_cases c : e < n
    · have ih := range_filter_len e n c
      have q : ¬ ((n : Nat) : Int) = (e : Int) := by omega
      have z : (List.filterMap (fun (i : Nat) => if (i : Int) = (e : Int) then none else some (i : Int)) [n]).length = 1 := by
        rw [List.filterMap_cons, if_neg q]
        rfl
      omega
    · have en : e = n := by omega
      subst en
      have z : (List.filterMap (fun (i : Nat) => if (i : Int) = (e : Int) then none else some (i : Int)) [e]).length = 0 := by
        rw [List.filterMap_cons, if_pos rfl]
        rfl
      have z2 : (List.filterMap (fun (i : Nat) => if (i : Int) = (e : Int) then none else some (i : Int)) (List.range e)).length = e := by
        have : ∀ l : List Nat, (∀ i ∈ l, i < e) → (List.filterMap (fun (i : Nat) => if (i : Int) = (e : Int) then none else some (i : Int)) l).length = l.length := fun l => by
          induction l with
          | nil => intro _; rfl
          | cons a r ih =>
            intro hl
            have ha := hl a List.mem_cons_self
            rw [List.filterMap_cons, if_neg (by omega)]
            show _ + 1 = _ + 1
            rw [ih fun i hi => hl i (List.mem_cons_of_mem _ hi)]
        rw [this _ fun i hi => List.mem_range.mp hi, List.length_range]
      omega
theorem plain_len {t e : Int} (h0 : 0 ≤ e) (h1 : e < t) : (plainL t e).length + 1 = t.toNat := by
  have z := range_filter_len e.toNat t.toNat (by omega)
  rw [Int.toNat_of_nonneg h0] at z
  exact z
/-- the digits of a row of letters -/
def digits (ls : List Int) (row : List Int) : List Nat := row.map fun x => ls.idxOf x
def letters (ls : List Int) (ds : List Nat) : List Int := ds.map fun d => ls.getD d 0
theorem digits_lt {ls row : List Int} (h : ∀ x ∈ row, x ∈ ls) : ∀ d ∈ digits ls row, d < ls.length := fun d hd => by
  obtain ⟨x, hx, rfl⟩ := List.mem_map.mp hd
  exact List.idxOf_lt_length_of_mem (h x hx)
theorem letters_digits {ls row : List Int} (h : ∀ x ∈ row, x ∈ ls) : letters ls (digits ls row) = row := by
  unfold letters digits
  rw [List.map_map]
  conv => rhs; rw [← List.map_id row]
  refine List.map_congr_left fun x hx => ?_
  have hi := List.idxOf_lt_length_of_mem (h x hx)
  show ls.getD (ls.idxOf x) 0 = x
  rw [List.getD_eq_getElem?_getD, List.getElem?_eq_getElem hi, List.getElem_idxOf hi]
  rfl
theorem digits_letters {ls : List Int} (hn : ls.Nodup) {ds : List Nat} (h : ∀ d ∈ ds, d < ls.length) : digits ls (letters ls ds) = ds := by
  unfold letters digits
  rw [List.map_map]
  conv => rhs; rw [← List.map_id ds]
  refine List.map_congr_left fun d hd => ?_
  show ls.idxOf (ls.getD d 0) = d
  rw [List.getD_eq_getElem?_getD, List.getElem?_eq_getElem (h d hd)]
  exact List.Nodup.idxOf_getElem hn d (h d hd)
theorem letters_mem {ls : List Int} {ds : List Nat} (h : ∀ d ∈ ds, d < ls.length) : ∀ x ∈ letters ls ds, x ∈ ls := fun x hx => by
  obtain ⟨d, hd, rfl⟩ := List.mem_map.mp hx
  rw [List.getD_eq_getElem?_getD, List.getElem?_eq_getElem (h d hd)]
  exact List.getElem_mem (h d hd)
/-- the frame of a body without its end, by ranks -/
def rowR (t e : Int) (body : List Int) : List Int := letters (plainL t e) (rowD (plainL t e).length (rankD t.toNat (digits (countL t) body)))
def bodyR (t e : Int) (row : List Int) : List Int := letters (countL t) (rowD t.toNat (rankD (plainL t e).length (digits (plainL t e) row)))
theorem let_map (ls : List Int) (ds : List Nat) : ds.map (fun d => V.int (ls.getD d 0)) = (letters ls ds).map V.int := by
  unfold letters
  rw [List.map_map]
  rfl
theorem bodyR_len {t e : Int} (h3 : 3 ≤ t) (h0 : 0 ≤ e) (h1 : e < t) {row : List Int} (h : ∀ x ∈ row, x ∈ plainL t e) : (bodyR t e row).length ≤ row.length := by
  have z := plain_len h0 h1
  unfold bodyR letters
  rw [List.length_map]
  have a := row_len_mono (m := (plainL t e).length) (n := t.toNat) (by omega) (by omega) (rankD (plainL t e).length (digits (plainL t e) row)) _ (Nat.le_refl _)
  rw [row_rank (by omega) _ (digits (plainL t e) row) rfl (digits_lt h)] at a
  have b : (digits (plainL t e) row).length = row.length := List.length_map _
  omega
theorem bodyR_mem {t e : Int} (h3 : 3 ≤ t) (row : List Int) : ∀ n ∈ bodyR t e row, 0 ≤ n ∧ n < t := fun n hn => by
  refine count_mem.mp (letters_mem (fun d hd => ?_) n hn)
  rw [count_len]
  exact row_lt (by omega) _ d hd
theorem rowR_bodyR {t e : Int} (h3 : 3 ≤ t) (h0 : 0 ≤ e) (h1 : e < t) {row : List Int} (h : ∀ x ∈ row, x ∈ plainL t e) : rowR t e (bodyR t e row) = row := by
  have z := plain_len h0 h1
  unfold rowR bodyR
  rw [digits_letters (count_nodup t) (fun d hd => by rw [count_len]; exact row_lt (by omega) _ d hd), rank_row, row_rank (by omega) _ _ rfl (digits_lt h), letters_digits h]
theorem rowR_mem {t e : Int} (h3 : 3 ≤ t) (h0 : 0 ≤ e) (h1 : e < t) (body : List Int) : ∀ x ∈ rowR t e body, x ∈ plainL t e := by
  have z := plain_len h0 h1
  exact letters_mem (row_lt (by omega) _)
theorem rowR_len {t e : Int} (h3 : 3 ≤ t) (h16 : t ≤ 16) (h0 : 0 ≤ e) (h1 : e < t) {body : List Int} (h : ∀ n ∈ body, 0 ≤ n ∧ n < t) : (rowR t e body).length ≤ 5 * body.length := by
  have z := plain_len h0 h1
  unfold rowR letters
  rw [List.length_map]
  have a := row_short (m := (plainL t e).length) (n := t.toNat) (by omega) (by omega) (ds := digits (countL t) body) (fun d hd => by
    rw [← count_len (t := t)]
    exact digits_lt (fun x hx => count_mem.mpr (h x hx)) d hd)
  have b : (digits (countL t) body).length = body.length := List.length_map _
  omega
end Esc

/-! What stands in tuples stays; codes of which none is the beginning of another one. -/
namespace Esc
open PySem PySem.Spec PyProof.Rows L2
/-- a tuple -/
def isT : HO → Bool
  | .tup _ => true
  | .frz _ (.tup _) => true
  | _ => false
/-- the tuples of a heap alone -/
def tp (H : Hp) : Hp := fun a => (H a).filter isT
theorem tp_all {H : Hp} {a : Addr} {o : HO} (h : H a = some o) (t : isT o = true) : tp H a = some o := by
  unfold tp
  rw [h, Option.filter_some, if_pos t]
theorem tp_at {H : Hp} {a : Addr} {xs : List V} (h : H a = some (.tup xs)) : tp H a = some (.tup xs) := tp_all h rfl
theorem tp_of {H : Hp} {a : Addr} {o : HO} (h : tp H a = some o) : isT o = true ∧ H a = some o := by
  unfold tp at h
  have z := Option.filter_eq_some_iff.mp h
  exact ⟨z.2, z.1⟩
theorem tp_same {H : Hp} : Same (tp H) H := fun b o e => (tp_of e).2
theorem tp_up {H H' : Hp} (s : Same (tp H) H') : Same (tp H) (tp H') := fun b o e => tp_all (s b o e) (tp_of e).1
theorem tp_pure {H H' : Hp} (s : Same H H') : Same (tp H) (tp H') := tp_up fun b o e => s b o (tp_same b o e)
theorem tp_ne {H : Hp} {b d : Addr} {o : HO} {xs : List V} (e : tp H b = some o) (hd : H d = some (.lst xs)) : b ≠ d := fun z => by
  obtain ⟨t, h⟩ := tp_of e
  rw [z, hd] at h
  cases h
  cases t
theorem tp_hide {H H' : Hp} {d : Addr} {xs : List V} (hd : H d = some (.lst xs)) (s : Same (hide d H) H') : Same (tp H) (tp H') := tp_up fun b o e => s b _ ((hide_ne (tp_ne e hd)).trans (tp_of e).2)
theorem tp_put {H : Hp} {l : Addr} {xs : List V} {o : HO} (hl : H l = some (.lst xs)) : Same (tp H) (tp (upd H l o)) := tp_up fun b u e => (upd_ne (tp_ne e hl)).trans (tp_of e).2
theorem tp_new {H : Hp} {l : Addr} {o : HO} (hl : H l = none) : Same (tp H) (tp (upd H l o)) := tp_pure (same_new hl)
theorem tp_sqt {K : PySem.W.Frag} {H : Hp} {a : Addr} {xs : List V} (h : H a = some (.tup xs)) : SqT K (tp H) a xs := st_of (tp_at h)
theorem tp_tupd {H : Hp} {a : Addr} {xs : List V} (h : TupD H a xs) : TupD (tp H) a xs := by
  obtain ⟨o, n, e⟩ := h
  exact ⟨o, n, tp_all e rfl⟩
/-! ### leaves of a tree -/
def Apart (a b : List Int) : Prop := ¬ a <+: b ∧ ¬ b <+: a
theorem Apart.symm {a b : List Int} (h : Apart a b) : Apart b a := ⟨h.2, h.1⟩
def LeavesOk (t e : Int) (m : Nat) (cs : List (List Int)) : Prop := (∀ c ∈ cs, 1 ≤ c.length ∧ c.length ≤ m ∧ ∀ x ∈ c, Plain t e x) ∧ cs.Pairwise Apart
theorem LeavesOk.codes {t e : Int} {cs : List (List Int)} (h : LeavesOk t e 4 cs) : CodesOk t e cs := h
theorem LeavesOk.perm {t e : Int} {m : Nat} {cs ds : List (List Int)} (h : LeavesOk t e m cs) (p : ds.Perm cs) : LeavesOk t e m ds :=
  ⟨fun c hc => h.1 c (p.subset hc), (p.pairwise_iff (fun {_ _} z => Apart.symm z)).mpr h.2⟩
theorem LeavesOk.sub {t e : Int} {m : Nat} {cs ds : List (List Int)} (h : LeavesOk t e m cs) (p : ds.Sublist cs) : LeavesOk t e m ds :=
  ⟨fun c hc => h.1 c (p.subset hc), h.2.sublist p⟩
theorem LeavesOk.mono {t e : Int} {m n : Nat} {cs : List (List Int)} (h : LeavesOk t e m cs) (l : m ≤ n) : LeavesOk t e n cs :=
  ⟨fun c hc => ⟨(h.1 c hc).1, by have := (h.1 c hc).2.1; omega, (h.1 c hc).2.2⟩, h.2⟩
theorem perm_erase {α : Type} : ∀ (l : List α) (i : Nat) (h : i < l.length), (l[i] :: l.eraseIdx i).Perm l
  | a :: l, 0, _ => List.Perm.refl _
  | a :: l, i + 1, h => ((List.Perm.swap a (l[i]'(Nat.lt_of_succ_lt_succ h)) (l.eraseIdx i))).trans ((perm_erase l i (Nat.lt_of_succ_lt_succ h)).cons a)
theorem pre_snoc {a c : List Int} {s : Int} (h : a <+: c ++ [s]) : a <+: c ∨ a = c ++ [s] := by
  obtain ⟨r, hr⟩ := h
  rcases List.eq_nil_or_concat r with e | ⟨r', x, e⟩
  · right
    rw [← hr, e, List.append_nil]
  · left
    rw [e, List.concat_eq_append, ← List.append_assoc] at hr
    exact ⟨r', (List.append_inj' hr rfl).1⟩
theorem leaves_more {t e : Int} {m : Nat} {cs : List (List Int)} {j : Nat} (hj : j < cs.length) (h : LeavesOk t e m cs) : LeavesOk t e (m + 1) (cs.eraseIdx j ++ (plainL t e).map fun s => cs[j] ++ [s]) := by
  have hc := h.1 cs[j] (List.getElem_mem hj)
  have hp := (h.perm (perm_erase cs j hj)).2
  obtain ⟨hx, hr⟩ := List.pairwise_cons.mp hp
  refine ⟨fun c m1 => ?_, List.pairwise_append.mpr ⟨hr, ?_, fun x hx1 y hy => ?_⟩⟩
  · rcases List.mem_append.mp m1 with m1 | m1
    · have z := h.1 c (List.mem_of_mem_eraseIdx m1)
      exact ⟨z.1, by omega, z.2.2⟩
    · obtain ⟨s, hs, rfl⟩ := List.mem_map.mp m1
      refine ⟨by rw [List.length_append, List.length_singleton]; omega, by rw [List.length_append, List.length_singleton]; omega, fun x hx2 => ?_⟩
      rcases List.mem_append.mp hx2 with z | z
      · exact hc.2.2 x z
      · rw [List.mem_singleton.mp z]
        exact plain_mem.mp hs
  · rw [List.pairwise_map]
    refine (plain_nodup t e).imp fun {a b} hab => ?_
    have key : ∀ {a b : Int}, a ≠ b → ¬ (cs[j] ++ [a] <+: cs[j] ++ [b]) := fun {a b} hab z => by
      have q := z.eq_of_length (by rw [List.length_append, List.length_append]; rfl)
      exact hab (by simpa using List.append_cancel_left q)
    exact ⟨key hab, key fun z => hab z.symm⟩
  · obtain ⟨s, hs, rfl⟩ := List.mem_map.mp hy
    have ap := hx x hx1
    constructor
    · intro z
      rcases pre_snoc z with q | q
      · exact ap.2 q
      · exact ap.1 ⟨[s], q.symm⟩
    · intro z
      exact ap.1 ((List.prefix_append cs[j] [s]).trans z)
theorem leaves_first {t e : Int} : LeavesOk t e 1 ((plainL t e).map fun s => [s]) := by
  refine ⟨fun c hc => ?_, ?_⟩
  · obtain ⟨s, hs, rfl⟩ := List.mem_map.mp hc
    exact ⟨Nat.le_refl _, Nat.le_refl _, fun x hx => by rw [List.mem_singleton.mp hx]; exact plain_mem.mp hs⟩
  · rw [List.pairwise_map]
    refine (plain_nodup t e).imp fun {a b} hab => ?_
    have key : ∀ {a b : Int}, a ≠ b → ¬ ([a] <+: [b]) := fun {a b} hab z => by
      have q := z.eq_of_length rfl
      exact hab (by simpa using q)
    exact ⟨key hab, key fun z => hab z.symm⟩
theorem leaves_nodup {t e : Int} {m : Nat} {cs : List (List Int)} (h : LeavesOk t e m cs) : cs.Nodup := h.2.imp fun {a b} hab z => hab.1 (by rw [z]; exact List.prefix_refl _)
end Esc

set_option maxHeartbeats 2000000
/-! enumerate(t), sorted(t) of tuples. -/
namespace Esc
open PySem PySem.Spec PyProof.Rows L2
open Sem (wp)
open AutoSeq1 (wpAny_loadPart')
def enO (a : Addr) : Obj := { cls := .type "enumerate", data := .fields #[.none, .bool false, .ref a, rawInt 0, .none, .none] }
theorem new_en {v : Value} {o : Obj} {C : Heap → Prop} (B : Begins v o C) : Meets (Builtin.«enumerate.__new__» ⟨[.type "enumerate", v], []⟩) (fun _ R s => C s.heap ∧ R (.ok (.ret (.ref (s.heap.push o).objs.size))) { s with heap := (s.heap.push o).push (enO s.heap.objs.size) }) :=
  .of_wp fun prog w A R s ⟨h1, h⟩ => by
    obtain ⟨hp, g, d, tk, os⟩ := s
    have su := sub_enumerate
    have go : ∀ {A' : Around} {E Q : Value → Shared → Prop}, Q (.ref hp.objs.size) ⟨hp.push o, g, d, tk, os⟩ → wpAny (model prog w) A' (pyIter v) Q E ⟨hp, g, d, tk, os⟩ := fun q => B.iter prog w _ _ ⟨hp, g, d, tk, os⟩ _ h1 q
    wp_walk using go
    refine wpAny_stack_any (fun _ => wpAny_pure ?_)
    split
    · rename_i c _ _ _ _ _
      cases c == Value.type "enumerate" <;> (wp_walk using go; exact ⟨_, rfl, h⟩)
    · wp_walk using go
      exact ⟨_, rfl, h⟩
theorem call_en {prog : Program} {w : World} {A : Around} {E Q : Value → Shared → Prop} {s : Shared} {v : Value} {o : Obj} {C : Heap → Prop} (B : Begins v o C) (h1 : C s.heap)
    (h : ∀ h', IsEnum h' (s.heap.objs.size + 1) s.heap.objs.size 0 .none → h'.get? s.heap.objs.size = some o → h'.objs.size = s.heap.objs.size + 2 → (∀ b u, s.heap.get? b = some u → h'.get? b = some u) → Q (.ref (s.heap.objs.size + 1)) { s with heap := h' }) :
    wpAny (model prog w) A (call (.type "enumerate") [v]) Q E s := by
  have z : (s.heap.push o).objs.size = s.heap.objs.size + 1 := Heap.size_push ..
  have e1 : ((s.heap.push o).push (enO s.heap.objs.size)).get? (s.heap.objs.size + 1) = some (enO s.heap.objs.size) := by
    have q := Heap.get?_push_size (s.heap.push o) (o := enO s.heap.objs.size) rfl
    rwa [z] at q
  refine callType_new F.called_enumerate (by decide) (F.typeCall_enumerate_1 _) (F.newCall_enumerate_1 _) (fun obj => F.args_object_init_2 obj _) F.entry_enumerate_new (new_en B) ⟨h1, ?_⟩
  show _ ∧ _
  rw [z]
  exact ⟨⟨_, e1, rfl⟩, h _ e1 (Heap.get?_push_of_some _ (Heap.get?_push_size _ B.free)) (by rw [Heap.size_push, z]) fun b u x => Heap.get?_push_of_some _ (Heap.get?_push_of_some _ x)⟩
/-- the tuple at a, each item in a new pair -/
def IteT (K : PySem.W.Frag) (a : Addr) : It :=
  ⟨fun i H => ∃ (xs : List V) (x : V), SqT K H a xs ∧ xs[i]? = some x, fun i H v H' => ∃ T x, v = .ref T ∧ H T = none ∧ H' = upd H T (.tup [.int (i : Nat), x]) ∧ ∀ xs, SqT K H a xs → xs[i]? = some x, fun i H => ∃ xs : List V, SqT K H a xs ∧ xs.length = i⟩
theorem turn_enT {P : Program} {w : World} {K : PySem.W.Frag} {elts : List Expr} {kk : Nat} {tpos : Pos} (a e it : Addr) (nea : e ≠ a) (nit : a ≠ it) :
    Turn P w K (.Tuple elts kk tpos) (IteT K a) [e, it] e (fun i h => (∃ old, IsEnum h e it ((i : Nat) : Int) old) ∧ h.IsTupleIter it a i ∧ e ≠ it) where
  mem := List.mem_cons_self
  obj := fun i h ⟨⟨old, he⟩, ⟨o, ho, hc, hd⟩, _⟩ b hb => by
    rcases List.mem_cons.mp hb with z | z
    · subst z
      exact ⟨_, he, fun v q => nomatch q⟩
    · rw [List.mem_singleton.mp z]
      exact ⟨o, ho, fun v q => by rw [hd] at q; cases q⟩
  keep := fun i h h' ⟨⟨old, he⟩, hi, hne⟩ k => ⟨⟨old, k e List.mem_cons_self _ he⟩, hi.at fun o q => k it (List.mem_cons_of_mem _ List.mem_cons_self) o q, hne⟩
  item := by
    intro X hP hw hK hc i pins s σ H E I hf st hg
    subst hP hw hK
    obtain ⟨⟨old, he⟩, hit, hne⟩ := st
    obtain ⟨xs, x, hq, hx⟩ := hg
    obtain ⟨its, rv, p, hz⟩ := I.tuple hq
    obtain ⟨u, hu, ru⟩ := rv.get hx
    have lt : i < its.toArray.size := by
      rw [List.size_toArray]
      exact (List.getElem?_eq_some_iff.mp hu).1
    have hel : e < s.heap.objs.size := Heap.lt_size he
    have hil : it < s.heap.objs.size := by
      obtain ⟨_, q, _⟩ := hit
      exact Heap.lt_size q
    refine wpAny_pyNext_enum_itemC (Draws.tuple (show X.A.in1.handled = none from I.ok.hd hc) it a nit its.toArray) he ⟨hit, p⟩ lt hne (by simp [hne, nea]) fun y h' tk hy ho hst hT hsz hk => ?_
    have ey : y = u := by
      have q : its.toArray[i]? = some u := by simpa using hu
      exact Option.some.inj (hy.symm.trans q)
    subst ey
    refine ⟨_, rfl, wpAny_letOwnedTupleGo_enum (s := { s with heap := h', toks := tk + 1 }) ho fun h2 he2 sb => ?_⟩
    have hT2 := (sb.2 _ (Nat.ne_of_gt hel)).trans hT
    have I1 : Inv X pins σ (upd H s.heap.objs.size (.tup [.int (i : Nat), x])) { s with heap := h2, toks := tk + 1 } :=
      I.turnedNew (ch := [e, it]) (fun b ob hb q => (sb.2 b (fun z => hb (z ▸ List.mem_cons_self))).trans (hk b ob (fun z => hb (z ▸ List.mem_cons_self)) (fun z => hb (z ▸ List.mem_cons_of_mem _ List.mem_cons_self)) q)) hf (Nat.le_refl _)
        ⟨by show 2 ≤ sizeLine; decide, [.int i tk, y], .cons ⟨_, rfl⟩ (.cons ru .nil), _, hT2, rfl, _, rfl⟩
    refine ⟨.ref s.heap.objs.size, _, I1, rfl, ⟨_, x, rfl, I.hok.fresh (Nat.le_refl _), rfl, fun ys h3 => by rw [I.tuple_inj h3 hq]; exact hx⟩, ⟨⟨y, ?_⟩, hst.1.at fun o q => (sb.2 it (Ne.symm hne)).trans q, hne⟩, fun b hb => ?_⟩
    · rw [show ((i + 1 : Nat) : Int) = (i : Int) + 1 by omega]
      exact he2
    · have hb' : b ≠ s.heap.objs.size := by
        rcases List.mem_cons.mp hb with z | z
        · exact z ▸ Nat.ne_of_lt hel
        · exact (List.mem_singleton.mp z) ▸ Nat.ne_of_lt hil
      exact (upd_ne hb').trans (hf b hb).1
  done := by
    intro X hP hw hK hc i pins s σ H E I hf st hg
    subst hP hw hK
    obtain ⟨⟨old, he⟩, hit, hne⟩ := st
    obtain ⟨xs, hq, hx⟩ := hg
    obtain ⟨its, rv, p, hz⟩ := I.tuple hq
    have hl := rv.length
    obtain ⟨f0, f1, f2, f3, f4, f5⟩ := hf it (List.mem_cons_of_mem _ List.mem_cons_self)
    have li : its.toArray.size = i := by
      rw [List.size_toArray, ← hl]
      exact hx
    subst li
    exact wpAny_pyNext_enum_endD (Draws.tuple (show X.A.in1.handled = none from I.ok.hd hc) it a nit its.toArray) he ⟨hit, p⟩ fun h' eb => ⟨rfl, I.turned (t' := s.toks) (fun b o hb q => eb b o hb q) f0 f1 f3 f4 f5⟩
  self := fun A i s Q E ⟨⟨_, he⟩, _⟩ h => wpAny_pyIter_enum he h
def iEnT (K : PySem.W.Frag) (ta : TA) : TI := fun σ H R => ta σ H fun vs H1 => ∃ a xs, vs = [.ref a] ∧ SqT K H1 a xs ∧ R (IteT K a) H1
theorem pi_enT {X : Cx} {e : Expr} {ta : TA} {p pos tpos : Pos} {elts : List Expr} {kk : Nat} (hg : Gl X "enumerate") (hm : X.mg "enumerate" = none) (ha : PA X [e] ta) (hs : starEach [e] X.env = [(false, eval e X.env)] := by rfl) :
    PI X (.Tuple elts kk tpos) (.Call (.Name "enumerate" p) [e] [] pos) (iEnT X.K ta) := by
  refine ⟨fun pins s σ H R I h => Call_ (ld_blt I hg hm boot_enumerate (PyProof.Rows.callWith_type1 (thn (ha.run pos pins s σ H _ I h) fun us s1 ⟨vs, H1, I1, r1, a, xs, ex, hq, q⟩ => ?_) hs rfl))⟩
  subst ex
  cases r1 with
  | cons r rr =>
    cases rr
    cases r
    obtain ⟨its, rv, p2, hz⟩ := I1.tuple hq
    have al : a < s1.heap.objs.size := by
      obtain ⟨o, q1, _⟩ := p2
      exact Heap.lt_size q1
    refine call_en (begins_tuple a its.toArray) p2 fun h' he hit hsz hk => wpAny_pyIter_enum he ?_
    refine ⟨s1.heap.objs.size + 1, [s1.heap.objs.size + 1, s1.heap.objs.size], _, _, H1, rfl, I1.kept (t' := s1.toks) hk, turn_enT a (s1.heap.objs.size + 1) s1.heap.objs.size (Nat.ne_of_gt (Nat.lt_succ_of_lt al)) (Nat.ne_of_lt al), ⟨⟨.none, he⟩, ⟨_, hit, rfl, rfl⟩, Nat.succ_ne_self _⟩, fun b hb => ?_, q⟩
    have hle : s1.heap.objs.size ≤ b := by
      rcases List.mem_cons.mp hb with z | z
      · exact z ▸ Nat.le_succ _
      · exact Nat.le_of_eq (List.mem_singleton.mp z).symm
    exact I1.fpOk hle (I1.hok.fresh hle)
section
variable {K : PySem.W.Frag} {H : Hp} {xs : List V} {a : Addr} {σ : L2.St} {g : TG} {tb : TS} {ta : TA} {nx : L2.St → Hp → Prop} {rt : VK} {bk ct : L2.St → Hp → Prop}
def kEnmT (K : PySem.W.Frag) (g : TG) (tb : TS) (D : Ends) (σ : L2.St) : List V → Hp → Prop := fun vs H1 => ∃ a xs, vs = [.ref a] ∧ SqT K H1 a xs ∧ Loop (IteT K a) g tb D σ H1
instance {D : Ends} : Step (tFor (iEnT K ta) g tb D σ H) (ta σ H (kEnmT K g tb D σ)) := ⟨fun h => h⟩
theorem i_enumT (hx : SqT K H a xs) (Pv : Nat → L2.St → Hp → Prop) (h0 : Pv 0 σ H) (hl : ∀ i σ H, i ≤ xs.length → Pv i σ H → SqT K H a xs)
    (hs : ∀ i x σ H T H', xs[i]? = some x → Pv i σ H → H T = none → Same H H' → H' T = some (.tup [.int (i : Nat), x]) → g (.ref T) σ H' (tb ⟨Pv (i + 1), rt, nx, Pv (i + 1)⟩)) (hd : ∀ σ H, Pv xs.length σ H → nx σ H) :
    kEnmT K g tb ⟨nx, rt, bk, ct⟩ σ [.ref a] H := by
  refine ⟨a, xs, rfl, hx, fun i m σ H => m = xs.length - i ∧ i ≤ xs.length ∧ Pv i σ H, ⟨xs.length, by simp, Nat.zero_le _, h0⟩, ?_⟩
  rintro i m σ H ⟨rfl, hi, p⟩
  have q := hl i σ H hi p
  by_cases hlt : i < xs.length
  · refine .inr ⟨⟨xs, xs[i], q, by simp [hlt]⟩, Pv (i + 1), fun σ' H' p' => ⟨xs.length - (i + 1), by omega, rfl, hlt, p'⟩, fun x H' y => ?_⟩
    obtain ⟨T, x, rfl, nT, rfl, y⟩ := y
    exact hs i x σ H T _ (y xs q) p nT (same_new nT) upd_same
  · have e : i = xs.length := by omega
    subst e
    exact .inl ⟨⟨xs, q, rfl⟩, hd σ H p⟩
end
end Esc

set_option maxHeartbeats 2000000
namespace Esc
open PySem PySem.Spec PyProof.Rows L2
/-- sorted(t), a tuple of ints -/
def rSortedIT (K : PySem.W.Frag) : List V → Hp → VK → Prop := fun vs H Q => ∃ (a : Addr) (ns : List Int), vs = [V.ref a] ∧ SqT K H a (ns.map V.int) ∧ ∀ (ms : List Int) (p : Addr), ms.Perm ns → ms.Pairwise (· ≤ ·) → H p = none → Q (.ref p) (upd H p (.lst (ms.map V.int)))
theorem cr_sortedIT {X : Cx} : CallR X (.builtin "sorted") (rSortedIT X.K) := by
  intro pn s σ H vs us Q J r h
  obtain ⟨a, ns, rfl, hs, q⟩ := h
  obtain ⟨its, rv, hl, hz⟩ := J.tuple hs
  have hi := rv.ints
  have hv : its.length ≤ sizeLine := by
    rw [← rv.length]
    exact hz
  rw [Vals.ref1 r]
  obtain ⟨o, ho, hc, n, hd⟩ := hl
  refine (Calls.call_function_entry kind_sorted plain_sorted entry_sorted (args_sorted1 _) ?_ :)
  unfold Builtin.«sorted»
  refine wpAny_bind (m := checkCount "sorted" 1 1 _) (wpAny_pure (wpAny_bind (wpAny_collect_seq a (.inr rfl) ho hc hd (fun h1 k => ?_) (by rw [List.size_toArray]; exact hv))))
  have J1 : Inv X pn σ H { s with heap := h1 } := J.kept (t' := s.toks) k
  refine wpAny_bind (wpAny_newList ?_ hv)
  have hn : (h1.push (seqObj "list" its.toArray 0)).get? h1.objs.size = some (seqObj "list" its.toArray 0) := Heap.get?_push_size _ rfl
  have hn2 : (Shared.heap { s with heap := h1.push (seqObj "list" its.toArray 0) }).get? h1.objs.size = some (seqObj "list" its.toArray 0) := hn
  refine wpAny_bind (wpAny_holding (wpAny_call_entry (s := { s with heap := h1.push (seqObj "list" its.toArray 0) }) slot_list_sort ⟨_, hn2, rfl⟩ entry_list_sort (SrtO.list_sort_ord SrtO.swo_int hn2 hv (fun h2 => SrtO.ints_sortable hi h2) fun out o1 o2 => ⟨_, rfl, ?_⟩) (args_list_sort _)))
  refine wpAny_pure ⟨_, rfl, ?_⟩
  obtain ⟨k1, k2, k3⟩ := SrtO.ints_out hi o1 o2
  obtain ⟨ep, he⟩ := PyProof.Rows.sortedHeap_at (vs := its) (out := out.toArray) hn
  have hlen : ((out.map SrtO.iv).map V.int).length ≤ sizeLine := by
    have z := k2.length_eq
    simp only [List.length_map] at z hz ⊢
    omega
  exact ⟨.ref h1.objs.size, upd H h1.objs.size (.lst ((out.map SrtO.iv).map V.int)), J1.laid (t' := s.toks) (fun b u e => by
    rw [PyProof.Rows.sortedHeap_old (Nat.ne_of_lt (Heap.lt_size e)) (by rw [Heap.size_push]; exact Nat.lt_succ_of_lt (Heap.lt_size e))]
    exact Heap.get?_push_of_some _ e) (Nat.le_refl _) ⟨hlen, out, ep, vals_of_ints k1, he⟩, rfl, q _ _ k2 k3 (J1.hok.fresh (Nat.le_refl _))⟩
theorem i_sortedIT {K : PySem.W.Frag} {H : Hp} {Q : VK} {a : Addr} {ns : List Int} (h : SqT K H a (ns.map V.int)) (q : ∀ (ms : List Int) p H', ms.Perm ns → ms.Pairwise (· ≤ ·) → H p = none → Same H H' → H' p = some (.lst (ms.map V.int)) → Q (.ref p) H') : rSortedIT K [.ref a] H Q :=
  ⟨a, ns, rfl, h, fun ms p hp hw hn => q ms p _ hp hw hn (same_new hn) upd_same⟩
end Esc

set_option maxHeartbeats 4000000
/-! set(l) of a list of ints. -/
namespace Esc
open PySem PySem.Spec PyProof.Rows L2
/-- a set just made -/
def noS (w : World) : Obj := { cls := .type "set", dict := none, data := .set #[] 0 (.fresh 0 0 (!w.params.followText "set-order")) }
section
variable {P : Program} {w : World} {A : Around} {E : Value → Shared → Prop} {s : Shared}
theorem call_set_li {l : Addr} {items : Array Value} (ns : List Int) {Q : Value → Shared → Prop} (hh : A.handled = none) (hl : s.heap.IsList l items) (hit : IntsAre items.toList ns) (hb : ns.length + 1 < scanBound)
    (h : ∀ (h' : Heap) (tk c : Nat), SetR w h' s.heap.objs.size (fun j => decide (j ∈ ns)) c → c ≤ ns.length → (∀ b o, s.heap.get? b = some o → h'.get? b = some o) → Q (.ref s.heap.objs.size) { s with heap := h', toks := tk }) :
    wpAny (model P w) A (call (.type "set") [.ref l]) Q E s := by
  have sizes : items.size = ns.length := (Array.length_toList (xs := items)).symm.trans (IntsAre.length hit)
  obtain ⟨c, tl, hmro⟩ := F.called_set.mro
  have hmade := F.called_set.made
  have hsub := F.called_set.sub
  refine wpAny_call (codeAny_of_tree ?_); show wpAny _ _ (callAny (.type "set") _) _ _ _
  refine wpAny_pure ⟨Code.quiet_builtin _ (by decide +kernel), (codeAny_builtin PySem.F.entry_type_call ?_ :)⟩
  rw [Around.under_plain (weight_type_call_type "set" [.ref l] ([])) (rfl)]
  have h1 := F.called_set.notType
  have h2 := F.called_set.canCreate
  have hct := F.typeCall_set_1 (.ref l)
  repeat any_goals first | assumption | wp_step
  refine codeAny_mono (code_set_led1 (.ref l) (E := E) (Q₁ := fun x s1 => x = .ref s.heap.objs.size ∧ s1 = { s with heap := s.heap.push (noS w) }) ⟨rfl, rfl⟩) fun r s1 hr => ?_
  cases r with
  | error e => exact hr
  | ok fl =>
    cases fl with
    | ret obj =>
      obtain ⟨rfl, rfl⟩ := hr
      have g0 : (s.heap.push (noS w)).get? s.heap.objs.size = some (noS w) := Heap.get?_push_size _ rfl
      have hT : Shared.TypeIs { s with heap := s.heap.push (noS w) } (.ref s.heap.objs.size) "set" := ⟨_, g0, rfl⟩
      have hli := F.called_set.init.lookup
      have hbi := F.called_set.init.bind (.ref s.heap.objs.size)
      repeat any_goals first | assumption | wp_step
      refine codeAny_mono (codeAny_call_builtin (R := wants (fun r s2 => r = .none ∧ ∃ h' tk c, s2 = { s with heap := h', toks := tk } ∧ SetR w h' s.heap.objs.size (fun j => decide (j ∈ ns)) c ∧ c ≤ ns.length ∧ ∀ b o, s.heap.get? b = some o → h'.get? b = some o) E) F.called_set.init.plain F.entry_set_init (check_set_init_1 hT ?_)) fun r2 s2 hr2 => ?_
      · obtain ⟨⟨ocls, odict, odata, oslots⟩, hol, hcl, nl, hdl⟩ := hl
        simp only at hcl hdl
        subst hcl hdl
        have hol' := Heap.get?_push_of_some (noS w) hol
        have hsls := F.sub_list_set
        have hslf := F.sub_list_frozenset
        have hne : (Value.type "list" == Value.type "dict") = false := by decide
        have hl1 : (s.heap.push (noS w)).IsList l items := ⟨_, hol', rfl, nl, rfl⟩
        unfold Builtin.«set.__init__» noKeywords Builtin.Frozenset.updateFrom
        generalize ePI : pyIter = PI
        wp_walk
        subst ePI
        refine wpAny_pyIter_list hl1 (wpAny_bind (wpAny_runValue ?_))
        have lt : l < s.heap.objs.size := Heap.lt_size hol
        have z1 : (s.heap.push (noS w)).objs.size = s.heap.objs.size + 1 := Heap.size_push ..
        have nI : l ≠ (s.heap.push (noS w)).objs.size := by rw [z1]; exact Nat.ne_of_lt (Nat.lt_succ_of_lt lt)
        have nS : s.heap.objs.size ∉ [(s.heap.push (noS w)).objs.size, l] := fun m => by
          rw [z1] at m
          rcases List.mem_cons.mp m with m | m
          · exact Nat.ne_of_lt (Nat.lt_succ_self _) m
          · exact Nat.ne_of_gt lt (List.mem_singleton.mp m)
        have val : ∀ (i : Nat) (v : Value), items[i]? = some v → ∃ k t, ns[i]? = some k ∧ v = .int k t := fun i v hv => by
          have hi : i < ns.length := sizes ▸ (Array.getElem?_eq_some_iff.mp hv).1
          obtain ⟨t, e⟩ := IntsAre.int_at hit i v ((Array.getElem?_toList (xs := items)).trans hv)
          exact ⟨ns[i], t, List.getElem?_eq_getElem hi, by rw [e, List.getD_eq_getElem?_getD, List.getElem?_eq_getElem hi]; rfl⟩
        refine set_update_ints ((Walks.list (show A.in1.in1.in1.handled = none by simp [hh]) _ l nI items).toS) s.heap.objs.size nS ns sizes hb val (items.size - 0) 0 _ (by omega) (Nat.zero_le _) ⟨⟨_, Heap.get?_push_size _ rfl, rfl, rfl⟩, hl1.push _⟩ ?S0 ?SR
        case S0 => exact ⟨0, Nat.le_refl 0, setR_new_at (Heap.get?_push_of_some _ g0)⟩
        case SR =>
          intro s' c' hm hc' hS'
          obtain ⟨h', g2, d', tk', os'⟩ := s'
          obtain rfl : g2 = s.gens := hm.gens
          obtain rfl : d' = s.drawn := hm.drawn
          obtain rfl : os' = s.os := hm.os
          show wpAny _ _ _ _ _ _
          refine wpAny_pure ?_
          show wpAny _ _ (ret Value.none) _ _ _
          refine wpAny_pure ⟨rfl, h', tk', c', rfl, hS', sizes ▸ hc', fun b o e => ?_⟩
          have b0 : b < s.heap.objs.size := Heap.lt_size e
          refine hm.heap b o (fun m => ?_) (Heap.get?_push_of_some _ (Heap.get?_push_of_some _ e))
          rcases List.mem_cons.mp m with m | m
          · exact Nat.ne_of_lt b0 m
          · rw [z1] at m
            exact Nat.ne_of_lt (Nat.lt_succ_of_lt b0) (List.mem_singleton.mp m)
      · cases r2 with
        | error e => exact hr2
        | ok f2 =>
          cases f2 with
          | ret r =>
            obtain ⟨rfl, h', tk, c', rfl, hS', hc', hk'⟩ := hr2
            repeat any_goals first | assumption | wp_step
            exact h _ _ _ hS' hc' hk'
          | _ => exact hr2.elim
    | _ => exact hr.elim
end
/-- set(l), a list of ints -/
def rSetI (K : PySem.W.Frag) (w : World) : List V → Hp → VK → Prop := fun xs H Q => ∃ (l : Addr) (ns : List Int), xs = [V.ref l] ∧ SqL K H l (ns.map V.int) ∧ ns.length ≤ 1000 ∧ ∀ (p : Addr) (c : Nat), c ≤ ns.length → H p = none → Q (.ref p) (upd H p (SetO w p (fun j => decide (j ∈ ns)) c))
theorem cr_setI {X : Cx} (hc : X.calm = true) : CallR X (.type "set") (rSetI X.K X.w) := by
  intro pn s σ H vs us Q J r h
  obtain ⟨l, ns, rfl, hs, hn, q⟩ := h
  obtain ⟨its, rv, pl, hz⟩ := J.list hs
  rw [Vals.ref1 r]
  refine call_set_li ns (J.ok.hd hc) pl.isList (by simpa using rv.ints) (by unfold scanBound; omega) fun h' tk c R hc' k => ?_
  exact ⟨.ref s.heap.objs.size, upd H s.heap.objs.size (SetO X.w s.heap.objs.size (fun j => decide (j ∈ ns)) c), J.laid (t' := tk) k (Nat.le_refl _) (setO_new R), rfl, q _ c hc' (J.hok.fresh (Nat.le_refl _))⟩
end Esc

/-! More steps: comprehensions over tuples with an invariant, members, sets. -/
namespace Esc
open PySem PySem.Spec PyProof.Rows L2
section
variable {K : PySem.W.Frag} {w : World} {H : Hp} {Q : VK} {xs : List V} {a : Addr} {σ σ0 : L2.St} {g : TG} {tt : TT} {te : TE} {vs : List Nat} {ta : TE}
theorem i_lcTI [w : Wp vs σ σ0] (Pv : Addr → Nat → List V → Hp → Prop) (hx0 : SqT K H a xs) (h0 : ∀ D, H D = none → Pv D 0 [] (upd H D (.lst []))) (hx : ∀ D i acc H', H D = none → Pv D i acc H' → SqT K H' a xs)
    (hs : ∀ D i x acc H', H D = none → xs[i]? = some x → acc.length ≤ i → Pv D i acc H' → g x σ0 H' (kLcB σ0 vs tt te (kN Pv D i) (kY Pv D i)))
    (q : ∀ D acc H', H D = none → Pv D xs.length acc H' → Q (.ref D) H') : kLcT K g tt te vs σ Q (.ref a) H := by
  have w' := w.h
  subst w'
  exact ⟨a, rfl, ⟨xs, hx0⟩, fun D hD => lc_tup (xs := xs) (fun i H' => ∃ acc, acc.length ≤ i ∧ Pv D i acc H') ⟨[], Nat.le_refl _, h0 D hD⟩ (fun i H' _ ⟨acc, _, p⟩ => hx D i acc H' hD p) (fun i x H' hi ⟨acc, hl, p⟩ => hs D i x acc H' hD hi hl p) (fun H' ⟨acc, _, p⟩ => q D acc H' hD p)⟩
theorem inV_int (x : Int) : ∀ ns : List Int, inV (.int x) (ns.map V.int) = decide (x ∈ ns)
  | [] => rfl
  | n :: ns => by
    have ih := inV_int x ns
    unfold inV at ih ⊢
    rw [List.map_cons, List.any_cons, ih, eqV_int]
    by_cases h : n = x
    · subst h
      simp
    · rw [decide_eq_false h, Bool.false_or]
      refine decide_eq_decide.mpr ⟨List.mem_cons_of_mem _, fun m => ?_⟩
      rcases List.mem_cons.mp m with z | z
      · exact absurd z.symm h
      · exact z
theorem i_notInI {x : Int} {ns : List Int} (h : SqL K H a (ns.map V.int)) (q : Q (.bl (!decide (x ∈ ns))) H) : rIn K true (.int x) (.ref a) H Q :=
  ⟨a, _, rfl, .inl h, rfl, flat_ints ns, by rw [inV_int]; exact q⟩
theorem i_inI {x : Int} {ns : List Int} (h : SqL K H a (ns.map V.int)) (q : Q (.bl (decide (x ∈ ns))) H) : rIn K false (.int x) (.ref a) H Q :=
  ⟨a, _, rfl, .inl h, rfl, flat_ints ns, by rw [inV_int]; exact q⟩
def kLenSet (K : PySem.W.Frag) (Q : VK) : VK := fun x H1 => ∃ (l : Addr) (ns : List Int), x = V.ref l ∧ SqL K H1 l (ns.map V.int) ∧ ns.length < 64 ∧ ns.Nodup ∧ Q (.int ns.length) H1
instance : Step (tLenSetI K ta σ H Q) (ta σ H (kLenSet K Q)) := ⟨fun h => h⟩
theorem i_lenSet {ns : List Int} (h : SqL K H a (ns.map V.int)) (hl : ns.length < 64) (hn : ns.Nodup) (q : Q (.int ns.length) H) : kLenSet K Q (.ref a) H := ⟨a, ns, rfl, h, hl, hn, q⟩
theorem i_setI {ns : List Int} (h : SqL K H a (ns.map V.int)) (hl : ns.length ≤ 1000) (q : ∀ p c H', c ≤ ns.length → H p = none → Same H H' → H' p = some (SetO w p (fun j => decide (j ∈ ns)) c) → Q (.ref p) H') : rSetI K w [.ref a] H Q :=
  ⟨a, ns, rfl, h, hl, fun p c hc hp => q p c _ hc hp (same_new hp) upd_same⟩
/-- two rising lists of the same members -/
theorem rise_eq : ∀ {xs ys : List Int}, xs.Pairwise (· < ·) → ys.Pairwise (· < ·) → (∀ k, k ∈ xs ↔ k ∈ ys) → xs = ys
  | [], [], _, _, _ => rfl
  | [], y :: ys, _, _, h => by
    have := (h y).mpr List.mem_cons_self
    cases this
  | x :: xs, [], _, _, h => by
    have := (h x).mp List.mem_cons_self
    cases this
  | x :: xs, y :: ys, hx, hy, h => by
    obtain ⟨x1, x2⟩ := List.pairwise_cons.mp hx
    obtain ⟨y1, y2⟩ := List.pairwise_cons.mp hy
    have e : x = y := by
      rcases List.mem_cons.mp ((h x).mp List.mem_cons_self) with z | z
      · exact z
      · rcases List.mem_cons.mp ((h y).mpr List.mem_cons_self) with u | u
        · exact u.symm
        · have a := y1 x z
          have b := x1 y u
          omega
    subst e
    refine congrArg _ (rise_eq x2 y2 fun k => ⟨fun m => ?_, fun m => ?_⟩)
    · rcases List.mem_cons.mp ((h k).mp (List.mem_cons_of_mem _ m)) with z | z
      · have := x1 k m
        omega
      · exact z
    · rcases List.mem_cons.mp ((h k).mpr (List.mem_cons_of_mem _ m)) with z | z
      · have := y1 k m
        omega
      · exact z
theorem i_sortedSet {ns : List Int} {c : Nat} (h : H a = some (SetO w a (fun j => decide (j ∈ ns)) c)) (hc : c < 64) (hw : ns.Pairwise (· < ·)) (q : ∀ p H', H p = none → Same H H' → H' p = some (.lst (ns.map V.int)) → Q (.ref p) H') : rSortedSet w [.ref a] H Q :=
  ⟨a, _, c, rfl, h, hc, fun ms p hms hmem _ hn => by
    have e : ms = ns := rise_eq hms hw fun k => by rw [hmem k, decide_eq_true_iff]
    rw [e]
    exact q p _ hn (same_new hn) upd_same⟩
theorem PairsAt.mem {as : List Addr} {cs : List (Int × Int)} {b : Addr} (h : PairsAt K H as cs) (m : b ∈ as) : ∃ c ∈ cs, SqT K H b [.int c.1, .int c.2] := by
  obtain ⟨i, hi, e⟩ := List.getElem_of_mem m
  obtain ⟨c, h1, h2⟩ := h.get (by rw [List.getElem?_eq_getElem hi, e])
  exact ⟨c, List.mem_of_getElem? h1, h2⟩
end
theorem ref_get {as : List Addr} {i : Nat} {x : V} (h : (as.map V.ref)[i]? = some x) : ∃ a, as[i]? = some a ∧ x = .ref a := by
  rw [List.getElem?_map] at h
  cases e : as[i]? with
  | none =>
    rw [e] at h
    cases h
  | some a =>
    rw [e] at h
    exact ⟨a, rfl, (Option.some.inj h).symm⟩
end Esc

/-! Comprehensions of two fors: over a list, within over a tuple. -/
namespace Esc
open PySem PySem.Spec PyProof.Rows L2
section
variable {K : PySem.W.Frag} {H : Hp} {Q : VK} {xs : List V} {a : Addr} {σ σ0 : L2.St} {g g1 : TG} {tt tt1 : TT} {te tl ti : TE} {wi1 : TI} {vs vs1 : List Nat} {D : Addr} {Nx : Hp → Prop} {b : Bool}
/-- the inner walk -/
def In2 (g1 : TG) (tt1 : TT) (te : TE) (vs1 : List Nat) (D : Addr) (Nx : Hp → Prop) (σ2 : L2.St) : It → Hp → Prop := fun J1 H4 => ∃ W1 : Nat → Nat → Hp → Prop, (∃ m, W1 0 m H4) ∧ ∀ j k H, W1 j k H →
  (J1.stop j H ∧ Nx H) ∨ (J1.go j H ∧ ∃ Nx1 : Hp → Prop, (∀ H', Nx1 H' → ∃ k', k' < k ∧ W1 (j + 1) k' H') ∧ ∀ x H', J1.yld j H x H' → g1 x (wipe σ2 vs1) H' (kLcB (wipe σ2 vs1) vs1 tt1 te Nx1 fun y H7 => ∃ acc, H7 D = some (.lst acc) ∧ acc.length < sizeLine ∧ Nx1 (upd H7 D (.lst (acc ++ [y])))))
def kLc2 (wi1 : TI) (g1 : TG) (tt1 : TT) (te : TE) (vs1 : List Nat) (D : Addr) (Nx : Hp → Prop) (σ2 : L2.St) : Bool → Hp → Prop := fun b H3 => if b = true then wi1 σ2 H3 (In2 g1 tt1 te vs1 D Nx σ2) else Nx H3
def kLcB2 (σ0 : L2.St) (vs : List Nat) (tt : TT) (wi1 : TI) (g1 : TG) (tt1 : TT) (te : TE) (vs1 : List Nat) (D : Addr) (Nx : Hp → Prop) : L2.St → Hp → Prop := fun σ2 H2 => wipe σ2 vs = σ0 ∧ tt σ2 H2 (kLc2 wi1 g1 tt1 te vs1 D Nx σ2)
def Lc2Loop (J : It) (g : TG) (tt : TT) (wi1 : TI) (g1 : TG) (tt1 : TT) (te : TE) (vs vs1 : List Nat) (σ : L2.St) (Q : VK) (H1 : Hp) : Prop := ∀ D, H1 D = none → ∃ W : Nat → Nat → Hp → Prop, (∃ m, W 0 m (upd H1 D (.lst []))) ∧ ∀ i m H, W i m H →
  (J.stop i H ∧ Q (.ref D) H) ∨ (J.go i H ∧ ∃ Nx : Hp → Prop, (∀ H', Nx H' → ∃ m', m' < m ∧ W (i + 1) m' H') ∧ ∀ x H', J.yld i H x H' → g x (wipe σ vs) H' (kLcB2 (wipe σ vs) vs tt wi1 g1 tt1 te vs1 D Nx))
def kLc2L (K : PySem.W.Frag) (g : TG) (tt : TT) (wi1 : TI) (g1 : TG) (tt1 : TT) (te : TE) (vs vs1 : List Nat) (σ : L2.St) (Q : VK) : VK := fun x H1 => ∃ a, x = .ref a ∧ (∃ xs, SqL K H1 a xs) ∧ Lc2Loop (Itl K a) g tt wi1 g1 tt1 te vs vs1 σ Q H1
def kIn2T (K : PySem.W.Frag) (g1 : TG) (tt1 : TT) (te : TE) (vs1 : List Nat) (D : Addr) (Nx : Hp → Prop) (σ2 : L2.St) : VK := fun y H4 => ∃ b, y = .ref b ∧ (∃ ys, SqT K H4 b ys) ∧ In2 g1 tt1 te vs1 D Nx σ2 (Itt K b) H4
instance : Step (tLc2 (iList K tl) g tt wi1 g1 tt1 te vs vs1 σ H Q) (tl σ H (kLc2L K g tt wi1 g1 tt1 te vs vs1 σ Q)) := ⟨fun h => h⟩
instance {σ2 : L2.St} : Step (kLc2 wi1 g1 tt1 te vs1 D Nx σ2 true H) (wi1 σ2 H (In2 g1 tt1 te vs1 D Nx σ2)) := ⟨fun h => iteT h⟩
instance {σ2 : L2.St} : Step (iTup K ti σ2 H (In2 g1 tt1 te vs1 D Nx σ2)) (ti σ2 H (kIn2T K g1 tt1 te vs1 D Nx σ2)) := ⟨fun h => h⟩
instance {σ2 : L2.St} [w : Wp vs σ2 σ0] : Step (kLcB2 σ0 vs tt wi1 g1 tt1 te vs1 D Nx σ2 H) (tt σ2 H (kLc2 wi1 g1 tt1 te vs1 D Nx σ2)) := ⟨fun h => ⟨w.h, h⟩⟩
def kN2 (Pv : Addr → Nat → List V → Hp → Prop) (D : Addr) (i : Nat) : Hp → Prop := fun H => ∃ acc, Pv D i acc H
theorem i_lc2L [w : Wp vs σ σ0] (Pv : Addr → Nat → List V → Hp → Prop) (hx0 : SqL K H a xs) (h0 : ∀ D, H D = none → Pv D 0 [] (upd H D (.lst []))) (hx : ∀ D i acc H', H D = none → Pv D i acc H' → SqL K H' a xs)
    (hs : ∀ D i x acc H', H D = none → xs[i]? = some x → Pv D i acc H' → g x σ0 H' (kLcB2 σ0 vs tt wi1 g1 tt1 te vs1 D (kN2 Pv D (i + 1))))
    (q : ∀ D acc H', H D = none → Pv D xs.length acc H' → Q (.ref D) H') : kLc2L K g tt wi1 g1 tt1 te vs vs1 σ Q (.ref a) H := by
  have w' := w.h
  subst w'
  refine ⟨a, rfl, ⟨xs, hx0⟩, fun D hD => ⟨fun i m H => m = xs.length - i ∧ i ≤ xs.length ∧ kN2 Pv D i H, ⟨xs.length, by simp, Nat.zero_le _, [], h0 D hD⟩, ?_⟩⟩
  rintro i m H' ⟨rfl, hi, acc, p⟩
  have hq := hx D i acc H' hD p
  by_cases hlt : i < xs.length
  · refine .inr ⟨⟨xs, xs[i], hq, by simp [hlt]⟩, kN2 Pv D (i + 1), fun H2 p2 => ⟨xs.length - (i + 1), by omega, rfl, hlt, p2⟩, fun x H2 y => ?_⟩
    obtain ⟨e, y⟩ := y
    subst e
    exact hs D i x acc _ hD (y xs hq) p
  · have e : i = xs.length := by omega
    subst e
    exact .inl ⟨⟨xs, hq, Nat.le_refl _⟩, q D acc H' hD p⟩
theorem i_in2T {σ2 σ1 : L2.St} {ys : List V} [w : Wp vs1 σ2 σ1] (Pw : Nat → Hp → Prop) (hy0 : SqT K H a ys) (h0 : Pw 0 H) (hy : ∀ j H', Pw j H' → SqT K H' a ys)
    (hs : ∀ j y H', ys[j]? = some y → Pw j H' → g1 y σ1 H' (kLcB σ1 vs1 tt1 te (Pw (j + 1)) fun y H7 => ∃ acc, H7 D = some (.lst acc) ∧ acc.length < sizeLine ∧ Pw (j + 1) (upd H7 D (.lst (acc ++ [y])))))
    (q : ∀ H', Pw ys.length H' → Nx H') : kIn2T K g1 tt1 te vs1 D Nx σ2 (.ref a) H := by
  have w' := w.h
  subst w'
  refine ⟨a, rfl, ⟨ys, hy0⟩, fun j m H => m = ys.length - j ∧ j ≤ ys.length ∧ Pw j H, ⟨ys.length, by simp, Nat.zero_le _, h0⟩, ?_⟩
  rintro j m H' ⟨rfl, hj, p⟩
  have hq := hy j H' p
  by_cases hlt : j < ys.length
  · refine .inr ⟨⟨ys, ys[j], hq, by simp [hlt]⟩, Pw (j + 1), fun H2 p2 => ⟨ys.length - (j + 1), by omega, rfl, hlt, p2⟩, fun x H2 y => ?_⟩
    obtain ⟨e, y⟩ := y
    subst e
    exact hs j x _ (y ys hq) p
  · have e : j = ys.length := by omega
    subst e
    exact .inl ⟨⟨ys, hq, Nat.le_refl _⟩, q H' p⟩
end
end Esc

/-! The frames of bodies, by each sort of way. -/
namespace Esc
open PySem PySem.Spec PyProof.Rows L2
def codesB (cs : List (List Int)) (body : List Int) : List Int := body.flatMap fun x => cs.getD x.toNat []
/-- what stands for x -/
def look (l : List (Int × Int)) (x : Int) : Option Int := (l.find? fun c => decide (c.1 = x)).map (·.2)
def escS (m : Int) (prs : List (Int × Int)) (x : Int) : List Int := match look prs x with
  | some c => [m, c]
  | none => [x]
def escB (m : Int) (prs : List (Int × Int)) (body : List Int) : List Int := body.flatMap (escS m prs)
def stepR (e : Int) (rows : List (List Int)) (x : Int) : List (List Int) := if x = e then rows ++ [[]] else rows.dropLast ++ [rows.getLastD [] ++ [x]]
def rowsB (e : Int) (body : List Int) : List (List Int) := body.foldl (stepR e) [[]]
def groupB (cn : List Int) (w : Nat) (row : List Int) : List Int := if h : 0 < w ∧ w ≤ row.length then cn.getD w 0 :: (row.take w ++ groupB cn w (row.drop w)) else cn.getD row.length 0 :: row
  termination_by row.length
  decreasing_by rw [List.length_drop]; omega
def cntB (t e l : Int) (body : List Int) : List Int :=
  let f := (rowsB e body).flatMap (groupB ((plainL t e).take l.toNat) (l.toNat - 1))
  let last := (rowsB e body).getLastD []
  if last ≠ [] ∧ last.length % (l.toNat - 1) = 0 then f.dropLast else f
/-- the frame of a body within, without its end -/
def rowOf (t e : Int) : Kind → List Int → List Int
  | .codes cs, body => codesB cs body
  | .escapes m prs, body => escB m prs body
  | .counts l, body => cntB t e l body
  | .ranks, body => rowR t e body
theorem codesB_len {cs : List (List Int)} (h : ∀ c ∈ cs, c.length ≤ 4) : ∀ body : List Int, (codesB cs body).length ≤ 4 * body.length
  | [] => Nat.le_refl _
  | x :: r => by
    have ih := codesB_len h r
    unfold codesB at ih ⊢
    rw [List.flatMap_cons, List.length_append, List.length_cons]
    have z : (cs.getD x.toNat []).length ≤ 4 := by
      rw [List.getD_eq_getElem?_getD]
      cases e : cs[x.toNat]? with
      | none => exact Nat.zero_le _
      | some c => exact h c (List.mem_of_getElem? e)
    omega
theorem codesB_snoc (cs : List (List Int)) (body : List Int) (x : Int) : codesB cs (body ++ [x]) = codesB cs body ++ cs.getD x.toNat [] := by
  unfold codesB
  rw [List.flatMap_append, List.flatMap_cons, List.flatMap_nil, List.append_nil]
theorem escB_snoc (m : Int) (prs : List (Int × Int)) (body : List Int) (x : Int) : escB m prs (body ++ [x]) = escB m prs body ++ escS m prs x := by
  unfold escB
  rw [List.flatMap_append, List.flatMap_cons, List.flatMap_nil, List.append_nil]
theorem escB_len (m : Int) (prs : List (Int × Int)) : ∀ body : List Int, (escB m prs body).length ≤ 2 * body.length
  | [] => Nat.le_refl _
  | x :: r => by
    have ih := escB_len m prs r
    unfold escB at ih ⊢
    rw [List.flatMap_cons, List.length_append, List.length_cons]
    have z : (escS m prs x).length ≤ 2 := by
      unfold escS
      split <;> simp
    omega
/-! ### pairs as a dict -/
def kvOf (l : List (Int × Int)) : List (Key × V) := l.map fun c => (Sum.inl c.1, V.int c.2)
theorem kv_val (x : Int) : ∀ l : List (Int × Int), valV (kvOf l) (Sum.inl x) = (look l x).map V.int
  | [] => rfl
  | c :: l => by
    show valV ((Sum.inl c.1, V.int c.2) :: kvOf l) _ = _
    by_cases e : c.1 = x
    · rw [valV_pos (by rw [e])]
      unfold look
      rw [List.find?_cons_of_pos (by simpa using e)]
      rfl
    · rw [valV_neg (fun q => e (Sum.inl.inj q)), kv_val x l]
      unfold look
      rw [List.find?_cons_of_neg (by simpa using e)]
theorem look_none {l : List (Int × Int)} {x : Int} (h : x ∉ l.map (·.1)) : look l x = none := by
  unfold look
  rw [List.find?_eq_none.mpr fun c hc => by
    have : c.1 ≠ x := fun z => h (z ▸ List.mem_map_of_mem hc)
    simpa using this]
  rfl
theorem look_mem {l : List (Int × Int)} (hn : (l.map (·.1)).Nodup) {c : Int × Int} (hc : c ∈ l) : look l c.1 = some c.2 := by
  induction l with
  | nil => cases hc
  | cons a l ih =>
    rw [List.map_cons, List.nodup_cons] at hn
    unfold look at ih ⊢
    rcases List.mem_cons.mp hc with rfl | hc
    · rw [List.find?_cons_of_pos (by simp)]
      rfl
    · have ne : a.1 ≠ c.1 := fun z => hn.1 (z ▸ List.mem_map_of_mem hc)
      rw [List.find?_cons_of_neg (by simpa using ne)]
      exact ih hn.2 hc
theorem look_some {l : List (Int × Int)} {x y : Int} (h : look l x = some y) : (x, y) ∈ l := by
  unfold look at h
  cases e : l.find? fun c => decide (c.1 = x) with
  | none =>
    rw [e] at h
    cases h
  | some c =>
    rw [e] at h
    have z := List.find?_some e
    have m := List.mem_of_find?_eq_some e
    have e1 : c.1 = x := by simpa using z
    have e2 : c.2 = y := Option.some.inj h
    rw [← e1, ← e2]
    exact m
theorem kv_snoc (l : List (Int × Int)) (c : Int × Int) (h : c.1 ∉ l.map (·.1)) : putK (kvOf l) (Sum.inl c.1) (V.int c.2) = kvOf (l ++ [c]) := by
  rw [putK_new _ (by rw [kv_val, look_none h]; rfl)]
  unfold kvOf
  rw [List.map_append]
  rfl
/-! ### dict comprehensions over tuples -/
section
variable {K : PySem.W.Frag} {H : Hp} {g : TG} {tt : TT} {tk tv td : TE} {vs : List Nat} {σ σ0 : L2.St} {Q : VK} {a : Addr} {xs : List V}
def kDcT (K : PySem.W.Frag) (g : TG) (tt : TT) (tk tv : TE) (vs : List Nat) (σ : L2.St) (Q : VK) : VK := fun x H1 => ∃ a, x = .ref a ∧ (∃ xs, SqT K H1 a xs) ∧ DcLoop (Itt K a) g tt tk tv vs σ Q H1
instance : Step (tDc (iTup K td) g tt tk tv vs σ H Q) (td σ H (kDcT K g tt tk tv vs σ Q)) := ⟨fun h => h⟩
theorem i_dcT [w : Wp vs σ σ0] (E : Nat → List (Key × V)) (e0 : E 0 = []) (hx : SqT K H a xs)
    (hs : ∀ D i x H1, H D = none → xs[i]? = some x → Same H H1 → H1 D = some (.dK (E i)) → ∀ Nx : Hp → Prop, (∀ H2, Same H H2 → H2 D = some (.dK (E (i + 1))) → Nx H2) → g x σ0 H1 (kDcB σ0 vs tt tk tv D Nx))
    (q : ∀ p H', H p = none → Same H H' → H' p = some (.dK (E xs.length)) → Q (.ref p) H') : kDcT K g tt tk tv vs σ Q (.ref a) H := by
  have w' := w.h
  subst w'
  refine ⟨a, rfl, ⟨xs, hx⟩, fun D hD => ⟨fun i m H' => m = xs.length - i ∧ i ≤ xs.length ∧ Same H H' ∧ H' D = some (.dK (E i)), ⟨xs.length, by simp, Nat.zero_le _, same_new hD, by rw [e0]; exact upd_same⟩, ?_⟩⟩
  rintro i m H' ⟨rfl, hi, s, e⟩
  have hq := stup s hx
  by_cases hlt : i < xs.length
  · refine .inr ⟨⟨xs, xs[i], hq, by simp [hlt]⟩, fun H2 => Same H H2 ∧ H2 D = some (.dK (E (i + 1))), fun H2 p' => ⟨xs.length - (i + 1), by omega, rfl, hlt, p'⟩, fun x H2 y => ?_⟩
    obtain ⟨e2, y⟩ := y
    subst e2
    exact hs D i x _ hD (y xs hq) s e _ fun H3 s3 e3 => ⟨s3, e3⟩
  · have ei : i = xs.length := by omega
    subst ei
    exact .inl ⟨⟨xs, hq, Nat.le_refl _⟩, q D H' hD s e⟩
end
end Esc

set_option maxHeartbeats 1000000
/-! t.index(n) of a tuple of ints. -/
namespace Esc
open PySem PySem.Spec PyProof.Rows L2
def rTIdx (K : PySem.W.Frag) : V → List V → Hp → VK → Prop := fun x vs H Q => ∃ (p : Addr) (ns : List Int) (k : Int), x = .ref p ∧ vs = [.int k] ∧ SqT K H p (ns.map V.int) ∧ k ∈ ns ∧ Q (.int ((ns.idxOf k : Nat) : Int)) H
theorem mt_tindex {X : Cx} : MtR X "tuple.index" (rTIdx X.K) := by
  intro pn s σ H x vs v us Q J rx rs h
  obtain ⟨p, ns, k, rfl, rfl, hq, hk, q⟩ := h
  cases rx
  obtain ⟨u, rfl, t, rfl⟩ := vals1 rs
  obtain ⟨its, r, ⟨⟨cls, dd, dt, sl⟩, ho, hc, n, hd⟩, hz⟩ := J.tuple hq
  simp only at hc hd
  subst hc hd
  have hi := List.idxOf_lt_length_of_mem hk
  have len : its.length = ns.length := r.length.symm.trans (List.length_map _)
  have hj : ns.idxOf k < its.toArray.size := by
    rw [List.size_toArray, len]
    exact hi
  have place : ∀ (m : Nat) (hm : m < its.toArray.size) (hn : m < ns.length), ∃ t2, its.toArray[m] = Value.int ns[m] t2 := fun m hm hn => by
    obtain ⟨w, hw, t2, e2⟩ := r.get (i := m) (x := .int ns[m]) (by rw [List.getElem?_map, List.getElem?_eq_getElem hn]; rfl)
    obtain ⟨_, e⟩ := List.getElem?_eq_some_iff.mp hw
    exact ⟨t2, by rw [← e2, ← e]; simp⟩
  refine call_meets PySem.F.slot_tuple_index ⟨_, ho, rfl⟩ PySem.F.entry_tuple_index (PySem.F.args_tuple_index_2 _ _) (TI.tuple_indexAt p its.toArray n dd sl (.int k t) (eqU (.int k)) (ns.idxOf k) hj ?_ fun m hm hmj => ?_)
    ⟨ho, fun w hw => mem_eqAt (x := .int k) ⟨t, rfl⟩ rfl r (flat_ints ns) w (by simpa using hw), .int ((ns.idxOf k : Nat) : Int), H, J.tok _, ⟨_, rfl⟩, q⟩
  · obtain ⟨t2, e⟩ := place _ hj hi
    rw [e, List.getElem_idxOf hi]
    show (k == k) = true
    exact beq_self_eq_true k
  · have hn : m < ns.length := by omega
    obtain ⟨t2, e⟩ := place m hm hn
    rw [e]
    show (ns[m] == k) = false
    simpa using List.not_of_lt_findIdx (p := fun y => y == k) hmj
section
variable {K : PySem.W.Frag} {H : Hp} {Q : VK} {p : Addr} {ns : List Int} {k : Int} {σ : L2.St} {tr : TA}
theorem i_tidx (h : SqT K H p (ns.map V.int)) (hk : k ∈ ns) (q : Q (.int ((ns.idxOf k : Nat) : Int)) H) : rTIdx K (.ref p) [.int k] H Q := ⟨p, ns, k, rfl, rfl, h, hk, q⟩
/-- t.m(..) of a tuple of which the object is known -/
def tBMD (r : V → List V → Hp → VK → Prop) (to : TE) (t : TA) : TE := fun σ H Q => to σ H fun x H1 => (∃ a xs, x = .ref a ∧ TupD H1 a xs) ∧ t σ H1 fun vs H2 => r x vs H2 Q
def kBMD (r : V → List V → Hp → VK → Prop) (t : TA) (Q : VK) (σ : L2.St) : VK := fun x H1 => (∃ a xs, x = .ref a ∧ TupD H1 a xs) ∧ t σ H1 (kRv Q x r)
instance {r : V → List V → Hp → VK → Prop} {to : TE} {t : TA} : Step (tBMD r to t σ H Q) (to σ H (kBMD r t Q σ)) := ⟨fun h => h⟩
theorem i_bmD {xs : List V} {r : V → List V → Hp → VK → Prop} (h : TupD H p xs) (q : tr σ H (kRv Q (.ref p) r)) : kBMD r tr Q σ (.ref p) H := ⟨⟨p, xs, rfl, h⟩, q⟩
end
section
variable {X : Cx} {o e : Expr} {es : List Expr} {to : TE} {t : TA} {name : Str} {apos cpos : Pos} {id : String} {r : V → List V → Hp → VK → Prop}
theorem pe_bmD (pa : PlainAttrs "tuple") (slot : Slot "tuple" name id) (hty : typeOf (.builtin id) = pure (.type "method_descriptor")) (hm : MtR X id r) (ho : PE X o to) (ha : PA X (e :: es) t) (hb : attributeBase o name X.env (eval o X.env) = eval o X.env := by rfl)
    (hf : ((backTo cpos (starEach (e :: es) X.env)).all (fun x => !x.1) && (backToKw cpos (keywordEach [] X.env)).all (fun x => x.1.isSome) && decide ((e :: es).length + ([] : List Keyword).length + (if ([] : List Keyword).isEmpty then 0 else 1) < 30)) = true := by rfl)
    (hl : (apos.endLine == cpos.line) = true := by rfl) (hs : starEach (e :: es) X.env = (false, eval e X.env) :: starEach es X.env := by rfl) (hp : (backTo cpos (starEach es X.env)).any (·.1) = false := by rfl) : PE X (.Call (.Attribute o name apos) (e :: es) [] cpos) (tBMD r to t) := by
  refine ⟨fun pn s σ H Q J h => wpAny_Call_method_late hb hf hl rfl (thn (ho.run pn s σ H _ J h) fun v s1 ⟨x, H1, J1, r1, ⟨a, xs, ex, ob, nd, eb⟩, q1⟩ => ?_)⟩
  subst ex
  cases r1
  have hob := (J1.hok a _ eb).1
  refine ⟨"tuple", id, pa, slot, hty, ⟨_, hob, nd.1⟩, fun b z => ?_, ?_⟩
  · cases z
    exact ⟨_, hob, nd.2⟩
  · have hA := ha.run cpos pn s1 σ H1 _ J1 q1
    rw [hs] at hA ⊢
    refine Calls.callWith_builtin (by show (false || (backTo cpos (starEach es X.env)).any (·.1)) = false; rw [hp]; rfl) (Calls.evalArgs_plain (thn hA fun us s2 ⟨vs, H2, J2, r2, q2⟩ => ?_))
    exact hm pn s2 σ H2 (.ref a) vs (.ref a) us Q J2 rfl r2 q2
end
end Esc

set_option maxHeartbeats 4000000
/-! Dict comprehensions of which the keys are tuples. -/
namespace Esc
open PySem PySem.Spec PyProof.Rows L2
abbrev kvT (k : List Key) : List V := k.map kV
/-- d[t] = v by a comprehension -/
theorem dt_set {X : Cx} {pn : List (Addr × Obj)} {σ : L2.St} {H : Hp} {s : Shared} {E : Value → Shared → Prop} {D c : Addr} {kvs : List (List Key × V)} {k : List Key} {v : V} {r : Value} {Q : Unit → Shared → Prop} (hu : X.A.units + 1 < cLine) (J : Inv X pn σ H s) (e : H D = some (.dT kvs)) (eb : H c = some (.tup (k.map kV))) (l : kvs.length < sizeLine) (rv : RelV v r)
    (h : ∀ s', Inv X pn σ (upd H D (.dT (putK kvs k v))) s' → Q () s') : wpAny (model X.prog X.w) X.A (dictSet D (.ref c) r) Q E s := by
  obtain ⟨z, hd, xs, rel, dd⟩ := dt_of J.hok e
  have hz : xs.length ≤ sizeLine := Nat.le_trans (Nat.le_of_eq (Paired.length rel).symm) z
  have hl : (putK kvs k v).length ≤ sizeLine := Nat.le_trans (length_putK kvs k v) l
  refine wpAny_dictSet_heap (hsz := hz) (show (tupleKind (mixKind X.prog X.w)).room X.A from Nat.lt_of_succ_lt hu) (key_of J.hok eb) dd fun h' ⟨q, es, ep, hq, h2, h3, h4, _, h5⟩ hs => h _ ?_
  exact d_write J (by rw [e]; trivial) hs ⟨q, hq⟩ ⟨hl, hd, _, (rel.put k eb rv).keeps fun c ys ec => (upd_ne (ne_of ec e (fun z => nomatch z))).trans ec, q, es, ep, hq, h2, h3, h4, h5⟩
def kDT (tk tv : TE) (D : Addr) (Nx : Hp → Prop) (σ2 : L2.St) : Bool → Hp → Prop := fun b H3 => if b = true then tk σ2 H3 fun y H4 => tv σ2 H4 fun z H5 => ∃ kvs k c, y = .ref c ∧ H5 c = some (.tup (kvT k)) ∧ H5 D = some (.dT kvs) ∧ kvs.length < sizeLine ∧ Nx (upd H5 D (.dT (putK kvs k z))) else Nx H3
def kDTB (σ0 : L2.St) (vs : List Nat) (tt : TT) (tk tv : TE) (D : Addr) (Nx : Hp → Prop) : L2.St → Hp → Prop := fun σ2 H2 => wipe σ2 vs = σ0 ∧ tt σ2 H2 (kDT tk tv D Nx σ2)
def DtLoop (J : It) (g : TG) (tt : TT) (tk tv : TE) (vs : List Nat) (σ : L2.St) (Q : VK) (H1 : Hp) : Prop := ∀ D, H1 D = none → ∃ W : Nat → Nat → Hp → Prop, (∃ m, W 0 m (upd H1 D (.dT []))) ∧ ∀ i m H, W i m H →
  (J.stop i H ∧ Q (.ref D) H) ∨ (J.go i H ∧ ∃ Nx : Hp → Prop, (∀ H', Nx H' → ∃ m', m' < m ∧ W (i + 1) m' H') ∧ ∀ x H', J.yld i H x H' → g x (wipe σ vs) H' (kDTB (wipe σ vs) vs tt tk tv D Nx))
/-- {k: v for ..}, the keys tuples of ints and texts -/
def tDt (wi : TI) (g : TG) (tt : TT) (tk tv : TE) (vs : List Nat) : TE := fun σ H Q => wi σ H fun J H1 => DtLoop J g tt tk tv vs σ Q H1
section
variable {X : Cx}
theorem dt_core {pn : List (Addr × Obj)} {s : Shared} {σ : L2.St} {H : Hp} {Q : VK} {kx vx tg it : Expr} {ifs : List Expr} {sc : Scope} {own : List (Str × Nat)} {p p2 : Pos} {wi : TI} {g : TG} {tt : TT} {tk tv : TE} {use : Option (Value → Sem Unit)} {Qf : Value → Shared → Prop}
    (hu : X.A.units + 1 < cLine) (hc : X.calm = true) (hN : X.N.Nodup) (J : Inv X pn σ H s) (hi : PI X tg it wi) (ok : BlkOk X.N X.env.scope sc own)
    (hg : ∀ (s : Shared) (H : Hp) (C : Addr) (cl : List (Str × Addr)) (fp : List Addr), PG (X.blk s H sc (compEnvC sc cl C X.env) fp) tg g) (ht : ∀ (s : Shared) (H : Hp) (C : Addr) (cl : List (Str × Addr)) (fp : List Addr), PTs (X.blk s H sc (compEnvC sc cl C X.env) fp) ifs tt)
    (hk : ∀ (s : Shared) (H : Hp) (C : Addr) (cl : List (Str × Addr)) (fp : List Addr), PE (X.blk s H sc (compEnvC sc cl C X.env) fp) kx tk)
    (hv : ∀ (s : Shared) (H : Hp) (C : Addr) (cl : List (Str × Addr)) (fp : List Addr), PE (X.blk s H sc (compEnvC sc cl C X.env) fp) vx tv) (hs : ∀ x, foldedSetIterable it X.env x = pure x)
    (h : tDt wi g tt tk tv (own.map (·.2)) σ H Q) (hR : ∀ D C s' m H', Inv X pn σ H' s' → Q (.ref D) H' → s'.heap.Ns C m → FpOk X pn H' C → compPost (model X.prog X.w) X.A X.xe use Qf (.ref D) C (.ok .next) s') :
    wpAny (model X.prog X.w) X.A (comprehension (.DictComp kx vx [⟨tg, it, ifs, 0⟩] sc p) sc X.env p2 newDict false (eval it X.env) use) Qf X.xe s := by
  have fr : ∀ y ∈ sc.names, y.2 = .free → ∃ c, X.env.cells.lookup y.1 = some c := fun y hy e => (ok.free y hy e).elim (fun k => J.ok.has _ (.inl k)) fun k => J.ok.has _ (.inr k)
  refine wpAny_comprehension_free (use := use) rfl hs (closure_ok fr) ok.kind (fun y hy e => by rw [ok.uniq y hy, e]) (thn (hi.run pn s σ H _ J h) fun xv s1 hx => thn hx fun itv s2 ⟨ia, fp, tn, Jt, H2, e, J2, T, st2, f2, q⟩ => ?_)
  subst e
  refine wpAny_newObj_type (newEnv_comp ?_)
  generalize eD : s2.heap.objs.size = D
  obtain ⟨W, ⟨m0, w0⟩, turn⟩ := q D (J2.hok.fresh (Nat.le_of_eq eD))
  generalize e3 : ({ s2 with heap := s2.heap.push { cls := .type "dict", data := .dict #[] } } : Shared) = s3
  have h3 : s3.heap = s2.heap.push { cls := .type "dict", data := .dict #[] } := by rw [← e3]
  have J3 : Inv X pn σ (upd H2 D (.dT [])) s3 := by
    rw [← e3]
    exact J2.laid (t' := s2.toks) (fun b o e => Heap.get?_push_of_some _ e) (Nat.le_of_eq eD) (by rw [← eD]; exact dt_empty s2.heap J2.big)
  have f3 : ∀ b ∈ fp, FpOk X pn (upd H2 D (.dT [])) b ∧ b < s3.heap.objs.size := fun b hb => by
    obtain ⟨o, eo, _⟩ := T.obj _ _ st2 b hb
    have lt : b < s2.heap.objs.size := Heap.lt_size eo
    exact ⟨⟨(upd_ne (by rw [← eD]; exact Nat.ne_of_lt lt)).trans (f2 b hb).1, (f2 b hb).2⟩, by rw [h3, Heap.size_push]; exact Nat.lt_succ_of_lt lt⟩
  have st3 : tn 0 s3.heap := T.keep _ _ _ st2 fun b _ o e => by rw [h3]; exact Heap.get?_push_of_some _ e
  have J4 := block_start J3 ok hN f3
  let cl := cellsFrom (s3.heap.objs.size + 1) sc.names (cloFrom X.env.cells sc.names [])
  have pg := hg s3 (upd H2 D (.dT [])) s3.heap.objs.size cl fp
  have pt := ht s3 (upd H2 D (.dT [])) s3.heap.objs.size cl fp
  have pk := hk s3 (upd H2 D (.dT [])) s3.heap.objs.size cl fp
  have pv := hv s3 (upd H2 D (.dT [])) s3.heap.objs.size cl fp
  show codeAny _ _ (.compStart (.DictComp kx vx [⟨tg, it, ifs, 0⟩] sc p) 0 (.ref ia) (.ref D) (compEnvC sc cl s3.heap.objs.size X.env)) (compPost (model X.prog X.w) X.A X.xe use Qf (.ref D) s3.heap.objs.size) { s3 with heap := pushCells (s3.heap.push { cls := .type "dict", data := .dict #[] }) sc.names }
  have nfp : ∀ b ∈ fp, (upd H2 D (.dT [])) b = none := fun b hb => (f3 b hb).1.1
  generalize ece : compEnvC sc cl s3.heap.objs.size X.env = ce at J4 pg pt pk pv ⊢
  have cL : ce.locals = s3.heap.objs.size := ece ▸ rfl
  generalize eH3 : upd H2 D (.dT []) = H3 at J3 J4 pg pt pk pv w0 nfp f3
  generalize e4 : ({ s3 with heap := pushCells (s3.heap.push { cls := .type "dict", data := .dict #[] }) sc.names } : Shared) = s4 at J4 ⊢
  have st4 : tn 0 s4.heap := T.keep _ _ _ st3 fun b _ o e => by rw [← e4]; exact pushCells_keeps _ _ _ _ (Heap.get?_push_of_some _ e)
  have stat : ∀ {σ' : L2.St} {H' : Hp} {s' : Shared}, Inv (X.blk s3 H3 sc ce fp) [] σ' H' s' → (∀ b ∈ fp, H' b = none) → ∀ b ∈ fp, FpOk (X.blk s3 H3 sc ce fp) [] H' b := fun I' hn b hb => ⟨hn b hb, (I'.ok.exf b hb).1, I'.ok.exfs b hb, .inl hb, fun x c e => (I'.ok.exf b hb).2 x c e, fun p hp => by cases hp⟩
  have walk : codeAny (model X.prog X.w) X.A (.compLoop (.DictComp kx vx [⟨tg, it, ifs, 0⟩] sc p) 0 (.ref ia) (.ref D) ce) (compPost (model X.prog X.w) X.A X.xe use Qf (.ref D) s3.heap.objs.size) s4 := by
    refine compLoop_anyD (fun n s' => ∃ i H', Inv (X.blk s3 H3 sc ce fp) [] (wipe σ (own.map (·.2))) H' s' ∧ tn i s'.heap ∧ (∀ b ∈ fp, H' b = none) ∧ W i n H') (fun n s5 ⟨i, H5, J5, st5, n5, w5⟩ => ?_) m0 ⟨0, H3, J4, st4, nfp, w0⟩
    rcases turn i n H5 w5 with ⟨stop, qq⟩ | ⟨go, Nx, hNx, step⟩
    · refine thnF (T.done (X.blk s3 H3 sc ce fp) rfl rfl rfl hc i [] s5 _ H5 (fun _ _ => False) J5 (stat J5 n5) st5 stop) fun r s6 ⟨er, J6⟩ => ?_
      subst er
      have J7 : Inv X pn σ H5 s6 := J3.call' (ch := fp) J6.os J6.base J6.hok J6.bare fun b hb => let z := (f3 b hb).1.2; ⟨z.2.2.1, z.1, z.2.2.2.1, z.2.2.2.2⟩
      have nC : H5 s3.heap.objs.size = none := cL ▸ (show H5 ce.locals = none from J6.free)
      obtain ⟨m, hn, _⟩ := J6.loc
      exact hR D s3.heap.objs.size s6 m H5 J7 qq (cL ▸ (show s6.heap.Ns ce.locals m from hn)) (J3.fpOk (Nat.le_refl _) nC)
    · refine thnF (T.item (X.blk s3 H3 sc ce fp) rfl rfl rfl hc i [] s5 _ H5 (fun _ _ => False) J5 (stat J5 n5) st5 go) fun r s6 ⟨u, er, h6⟩ => ?_
      subst er
      refine thnF h6 fun _ s7 ⟨x, H7, J7, r7, y7, st7, n7⟩ => ?_
      refine thnF (pg.run _ s7 _ H7 x u _ (J7.pinned (stat J7 n7) (T.obj _ _ st7)) r7 (step x H7 y7)) fun _ s8 ⟨σ8, H8, J8, w8, q8⟩ => thnF (pt.run _ s8 σ8 H8 _ J8 q8) fun b s9 ⟨H9, J9, q9⟩ => ?_
      have fin : ∀ {s' : Shared} {H' : Hp}, Inv (X.blk s3 H3 sc ce fp) ([] ++ pinsAt fp s7.heap) σ8 H' s' → Nx H' → ∃ m, m < n ∧ ∃ i H', Inv (X.blk s3 H3 sc ce fp) [] (wipe σ (own.map (·.2))) H' s' ∧ tn i s'.heap ∧ (∀ b ∈ fp, H' b = none) ∧ W i m H' := fun {s' H'} J' nx => by
        obtain ⟨m2, hm, w2⟩ := hNx H' nx
        have pin : ∀ b ∈ fp, ∀ o, s7.heap.get? b = some o → s'.heap.get? b = some o ∧ H' b = none := fun b hb o e => ⟨(J'.pin (b, o) (List.mem_append_right _ (List.mem_append_right _ (mem_pinsAt hb e)))).1, (J'.pin (b, o) (List.mem_append_right _ (List.mem_append_right _ (mem_pinsAt hb e)))).2.1⟩
        exact ⟨m2, hm, i + 1, H', (J'.unpinned (pins := [])).weak (by rw [← w8, wipe_length]) (fun j v e => (wipe_some (w8 ▸ e)).1), T.keep _ _ _ st7 fun b hb o e => (pin b hb o e).1, fun b hb => let ⟨o, e, _⟩ := T.obj _ _ st7 b hb; (pin b hb o e).2, w2⟩
      unfold kDT at q9
      cases b with
      | false =>
        rw [if_neg Bool.false_ne_true] at q9
        rw [if_neg Bool.false_ne_true]; exact fin J9 q9
      | true =>
        rw [if_pos rfl] at q9
        rw [if_pos rfl]; refine thnF (pk.run _ s9 σ8 H9 _ J9 q9) fun z s10 ⟨yk, H10, J10, r10, q10⟩ => thnF (pv.run _ s10 σ8 H10 _ J10 q10) fun z2 s11 ⟨yv, H11, J11, r11, kvs, k, c, ek, hc11, hD11, hz11, nx⟩ => ?_
        subst ek
        cases r10
        exact dt_set (X := X.blk s3 H3 sc ce fp) hu J11 hD11 hc11 hz11 r11 fun s12 J12 => fin J12 nx
  exact codeAny_compStart_dict walk (T.self X.A 0 _ _ _ st4 walk)
theorem ps_setDt {i : Nat} {y : Str} {py : Pos} {kx vx tg it : Expr} {ifs : List Expr} {sc : Scope} {own : List (Str × Nat)} {p sp : Pos} {wi : TI} {g : TG} {tt : TT} {tk tv : TE} (hu : X.A.units + 1 < cLine) (hc : X.calm = true) (hN : X.N.Nodup) (hy : X.N[i]? = some y) (hl : X.env.scope.names.lookup y = some .local)
    (hw : swapsWith (.DictComp kx vx [⟨tg, it, ifs, 0⟩] sc p) (some (.Name y py)) sp.line X.env = pure true) (hi : PI X tg it wi) (ok : BlkOk X.N X.env.scope sc own)
    (hg : ∀ (s : Shared) (H : Hp) (C : Addr) (cl : List (Str × Addr)) (fp : List Addr), PG (X.blk s H sc (compEnvC sc cl C X.env) fp) tg g) (ht : ∀ (s : Shared) (H : Hp) (C : Addr) (cl : List (Str × Addr)) (fp : List Addr), PTs (X.blk s H sc (compEnvC sc cl C X.env) fp) ifs tt)
    (hk : ∀ (s : Shared) (H : Hp) (C : Addr) (cl : List (Str × Addr)) (fp : List Addr), PE (X.blk s H sc (compEnvC sc cl C X.env) fp) kx tk)
    (hv : ∀ (s : Shared) (H : Hp) (C : Addr) (cl : List (Str × Addr)) (fp : List Addr), PE (X.blk s H sc (compEnvC sc cl C X.env) fp) vx tv) (hs : ∀ x, foldedSetIterable it X.env x = pure x := by intro _; rfl) :
    PS X (.Assign [.Name y py] (.DictComp kx vx [⟨tg, it, ifs, 0⟩] sc p) sp) (tAsg (tDt wi g tt tk tv (own.map (·.2))) (gName i)) := by
  refine ⟨fun pn s σ H D J q => ?_⟩
  rw [exec_Assign_Name_used _ _ _ _ hw]
  refine wpAny_bind (wpAny_standAt (wpAny_bind ?_))
  show wpAny _ X.A (do let _ ← comprehension (.DictComp kx vx [⟨tg, it, ifs, 0⟩] sc p) sc X.env (firstIterPos [⟨tg, it, ifs, 0⟩] p) newDict false (eval it X.env) (some (assign (.Name y py) X.env))) _ _ s
  have q0 : tDt wi g tt tk tv (own.map (·.2)) σ H (fun x H1 => gName i x σ H1 D.nx) := q
  refine wpAny_bind (thn (dt_core (Qf := fun _ z => SP X pn D .next z) hu hc hN J hi ok hg ht hk hv hs q0 fun L C z m H' J' q1 nC f => ?_) fun _ z hz => wpAny_pure (wpAny_pure hz))
  show wpAny _ _ (assign (.Name y py) X.env (.ref L)) _ _ _
  refine wpAny_assign_Name (store_ok2 (v := V.ref L) J' hN hy (.inl hl) rfl (fun z2 J2 ⟨a, sb, ha⟩ => ?_) (.inr hl))
  obtain ⟨a0, a1, a2, a3, a4, a5⟩ := f
  have nCa : C ≠ a := by
    rcases ha with e | e
    · rw [e]; exact a1
    · exact fun e' => a4 y a e e'.symm
  refine ⟨m, nC.sameBut sb nCa, fun h3 sb3 => ?_⟩
  exact ⟨_, H', J2.turned (t' := z2.toks) (fun b o hb e => (sb3.2 b hb).trans e) a0 a1 a3 a4 a5, q1⟩
end
section
variable {K : PySem.W.Frag} {H : Hp} {g : TG} {tt : TT} {tk tv : TE} {ta : TA} {vs : List Nat} {σ σ0 σ2 : L2.St} {Q : VK} {a D : Addr} {xs : List V} {Nx : Hp → Prop} {y z : V}
def kDtE (K : PySem.W.Frag) (g : TG) (tt : TT) (tk tv : TE) (vs : List Nat) (σ : L2.St) (Q : VK) : List V → Hp → Prop := fun us H1 => ∃ a xs, us = [.ref a] ∧ SqT K H1 a xs ∧ DtLoop (IteT K a) g tt tk tv vs σ Q H1
def kDT1 (tv : TE) (D : Addr) (Nx : Hp → Prop) (σ2 : L2.St) : VK := fun y H4 => tv σ2 H4 fun z H5 => ∃ kvs k c, y = .ref c ∧ H5 c = some (.tup (kvT k)) ∧ H5 D = some (.dT kvs) ∧ kvs.length < sizeLine ∧ Nx (upd H5 D (.dT (putK kvs k z)))
def kDT2 (D : Addr) (Nx : Hp → Prop) (y : V) : VK := fun z H5 => ∃ kvs k c, y = .ref c ∧ H5 c = some (.tup (kvT k)) ∧ H5 D = some (.dT kvs) ∧ kvs.length < sizeLine ∧ Nx (upd H5 D (.dT (putK kvs k z)))
instance : Step (tDt (iEnT K ta) g tt tk tv vs σ H Q) (ta σ H (kDtE K g tt tk tv vs σ Q)) := ⟨fun h => h⟩
instance [w : Wp vs σ2 σ0] : Step (kDTB σ0 vs tt tk tv D Nx σ2 H) (tt σ2 H (kDT tk tv D Nx σ2)) := ⟨fun h => ⟨w.h, h⟩⟩
instance : Step (kDT tk tv D Nx σ2 true H) (tk σ2 H (kDT1 tv D Nx σ2)) := ⟨fun h => iteT h⟩
instance : Step (kDT1 tv D Nx σ2 y H) (tv σ2 H (kDT2 D Nx y)) := ⟨fun h => h⟩
theorem i_dtE [w : Wp vs σ σ0] (E : Nat → List (List Key × V)) (e0 : E 0 = []) (hx : SqT K H a xs)
    (hs : ∀ D i x T H1, H D = none → xs[i]? = some x → Same H H1 → H1 D = some (.dT (E i)) → H1 T = some (.tup [.int (i : Nat), x]) → T ≠ D → ∀ Nx : Hp → Prop, (∀ H2, Same H H2 → H2 D = some (.dT (E (i + 1))) → Nx H2) → g (.ref T) σ0 H1 (kDTB σ0 vs tt tk tv D Nx))
    (q : ∀ p H', H p = none → Same H H' → H' p = some (.dT (E xs.length)) → Q (.ref p) H') : kDtE K g tt tk tv vs σ Q [.ref a] H := by
  have w' := w.h
  subst w'
  refine ⟨a, xs, rfl, hx, fun D hD => ⟨fun i m H' => m = xs.length - i ∧ i ≤ xs.length ∧ Same H H' ∧ H' D = some (.dT (E i)), ⟨xs.length, by simp, Nat.zero_le _, same_new hD, by rw [e0]; exact upd_same⟩, ?_⟩⟩
  rintro i m H' ⟨rfl, hi, s, e⟩
  have hq := stup s hx
  by_cases hlt : i < xs.length
  · refine .inr ⟨⟨xs, xs[i], hq, by simp [hlt]⟩, fun H2 => Same H H2 ∧ H2 D = some (.dT (E (i + 1))), fun H2 p' => ⟨xs.length - (i + 1), by omega, rfl, hlt, p'⟩, fun x H2 y => ?_⟩
    obtain ⟨T, x, rfl, nT, rfl, y⟩ := y
    have nTD : T ≠ D := (ne_of_none e nT).symm
    exact hs D i x T _ hD (y xs hq) (s.trans (same_new nT)) (by rw [upd_ne nTD.symm]; exact e) upd_same nTD _ fun H2 s2 e2 => ⟨s2, e2⟩
  · have ei : i = xs.length := by omega
    subst ei
    exact .inl ⟨⟨xs, hq, rfl⟩, q D H' hD s e⟩
end
end Esc

/-! Dicts: d.get(k, x), d[k] = v. -/
namespace Esc
open PySem PySem.Spec PyProof.Rows L2
def kGetA (Q : VK) (σ : L2.St) (ty tx : TE) : VK := fun x H1 => ∃ a, x = .ref a ∧ IsD H1 a ∧ ty σ H1 fun y H2 => tx σ H2 fun z H3 => ∃ o, DGet H3 a y o ∧ Q (o.getD z) H3
def kGetB (Q : VK) (σ : L2.St) (tx : TE) (a : Addr) : VK := fun y H2 => tx σ H2 fun z H3 => ∃ o, DGet H3 a y o ∧ Q (o.getD z) H3
def kGetC (Q : VK) (a : Addr) (y : V) : VK := fun z H3 => ∃ o, DGet H3 a y o ∧ Q (o.getD z) H3
def kPutA (nx : L2.St → Hp → Prop) (σ : L2.St) (td ty : TE) : VK := fun v H1 => td σ H1 fun x H2 => ty σ H2 fun y H3 => ∃ a H4, x = .ref a ∧ DPut H3 a y v H4 ∧ nx σ H4
def kPutB (nx : L2.St → Hp → Prop) (σ : L2.St) (ty : TE) (v : V) : VK := fun x H2 => ty σ H2 fun y H3 => ∃ a H4, x = .ref a ∧ DPut H3 a y v H4 ∧ nx σ H4
def kPutC (nx : L2.St → Hp → Prop) (σ : L2.St) (v x : V) : VK := fun y H3 => ∃ a H4, x = .ref a ∧ DPut H3 a y v H4 ∧ nx σ H4
section
variable {Q : VK} {σ : L2.St} {td ty tx tv : TE} {H : Hp} {nx : L2.St → Hp → Prop} {rt : VK} {bk ct : L2.St → Hp → Prop} {x y z v : V} {a : Addr}
instance : Step (tDGet2 td ty tx σ H Q) (td σ H (kGetA Q σ ty tx)) := ⟨fun h => h⟩
instance : Step (kGetB Q σ tx a y H) (tx σ H (kGetC Q a y)) := ⟨fun h => h⟩
instance : Step (sDPut td ty tv ⟨nx, rt, bk, ct⟩ σ H) (tv σ H (kPutA nx σ td ty)) := ⟨fun h => h⟩
instance : Step (kPutA nx σ td ty v H) (td σ H (kPutB nx σ ty v)) := ⟨fun h => h⟩
instance : Step (kPutB nx σ ty v x H) (ty σ H (kPutC nx σ v x)) := ⟨fun h => h⟩
theorem i_getA (d : IsD H a) (q : ty σ H (kGetB Q σ tx a)) : kGetA Q σ ty tx (.ref a) H := ⟨a, rfl, d, q⟩
theorem i_getC {o : Option V} (g : DGet H a y o) (q : Q (o.getD z) H) : kGetC Q a y z H := ⟨o, g, q⟩
theorem isD_T {kvs : List (List Key × V)} (h : H a = some (.dT kvs)) : IsD H a := .inr ⟨kvs, .inl h⟩
theorem isD_K {kvs : List (Key × V)} (h : H a = some (.dK kvs)) : IsD H a := .inl ⟨kvs, .inl h⟩
theorem i_putT {kvs : List (List Key × V)} {k : List Key} {b : Addr} (h : H a = some (.dT kvs)) (hb : H b = some (.tup (k.map kV))) (hl : kvs.length < sizeLine) (q : nx σ (upd H a (.dT (putK kvs k v)))) : kPutC nx σ v (.ref a) (.ref b) H := ⟨a, _, rfl, .t h hb hl, q⟩
theorem i_putK {kvs : List (Key × V)} {k : Key} (h : H a = some (.dK kvs)) (hl : kvs.length < sizeLine) (q : nx σ (upd H a (.dK (putK kvs k v)))) : kPutC nx σ v (.ref a) (kV k) H := ⟨a, _, rfl, .k h hl, q⟩
theorem i_newT {Q : VK} (q : ∀ p H', H p = none → Same H H' → H' p = some (.dT []) → Q (.ref p) H') : tDNewT σ H Q := fun p hp => q p _ hp (same_new hp) upd_same
theorem i_newK {Q : VK} (q : ∀ p H', H p = none → Same H H' → H' p = some (.dK []) → Q (.ref p) H') : tDNewK σ H Q := fun p hp => q p _ hp (same_new hp) upd_same
end
/-! ### lists of ints as keys, addresses as values -/
def ks (c : List Int) : List Key := c.map Sum.inl
theorem ks_kv (c : List Int) : kvT (ks c) = c.map V.int := by
  unfold kvT ks
  rw [List.map_map]
  rfl
theorem ks_kV (c : List Int) : (ks c).map kV = c.map V.int := by
  unfold ks
  rw [List.map_map]
  rfl
theorem ks_inj {c d : List Int} (h : ks c = ks d) : c = d := (List.map_inj_right fun _ _ z => Sum.inl.inj z).mp h
end Esc

/-! Objects: attributes, methods, making. -/
namespace Esc
open PySem PySem.Spec PyProof.Rows L2
/-- a class of the program: what the walk asks of it -/
structure Clx (K : PySem.W.Frag) (mg : Str → Option Value) (x : Str) (C : Addr) (attrs : List Str) : Prop where
  cl : Cls K C
  mgC : mg x = some (.ref C)
  mkc : PySem.W.makesIn K C = true
  kc : PySem.W.keepIn K (.ref C) = true
  na : ∀ f ∈ attrs, NoAttr K C f
/-- a method of it -/
structure Dm (K : PySem.W.Frag) (C : Addr) (m qual : Str) (st : Stmt) (ps : List Str) : Prop where
  ex : ∃ f fd, Meth K C m f ∧ C8.Fun K m qual st f fd ∧ Binds K fd ps []
section
variable {P : Program} {w : World} {K : PySem.W.Frag} {mg : Str → Option Value} {base : Heap}
theorem Dm.met {C : Addr} {x m qual : Str} {attrs : List Str} {st : Stmt} {N ps : List Str} {k : Nat} {sp : Sp} (d : Dm K C m qual st ps) (T : Clx K mg x C attrs) (S : FnScope N ps (C8.fnScope st)) (len : ∀ vs H Q E, sp vs H Q E → vs.length = ps.length)
    (hbody : ∀ (f : Addr) (cdv : Value) (A : Around) (outer : List Env) (s : Shared) (H : Hp) (vs : List V) (Q : VK) (E : XK), Room k (A.deeper (envOfC qual (C8.fnScope st) s.heap.objs.size f cdv)) → sp vs H Q E →
      ∃ t, PSs (cxOf C8.CX0 P w K mg base N qual (C8.fnScope st) f cdv A outer s H E).nox (C8.fnBody st) t ∧ t { nx := fun _ H' => Q .non H', rt := Q } (start N vs) H) : C8.Met P w K mg base (k + 1) C m sp [] := by
  obtain ⟨f, fd, me, F, b⟩ := d.ex
  exact C8.met0 T.cl me F b S len fun cdv A outer s H vs Q E hr h => hbody f cdv A outer s H vs Q E hr h
theorem Dm.mak {C : Addr} {x qual : Str} {attrs : List Str} {st : Stmt} {N ps : List Str} {k : Nat} {sp : Sp} (d : Dm K C "__init__" qual st ps) (T : Clx K mg x C attrs) (S : FnScope N ps (C8.fnScope st)) (len : ∀ vs H Q E, sp vs H Q E → vs.length = ps.length)
    (hbody : ∀ (f : Addr) (cdv : Value) (A : Around) (outer : List Env) (s : Shared) (H : Hp) (vs : List V) (Q : VK) (E : XK), Room k (A.deeper (envOfC qual (C8.fnScope st) s.heap.objs.size f cdv)) → sp vs H Q E →
      ∃ t, PSs (cxOf C8.CX0 P w K mg base N qual (C8.fnScope st) f cdv A outer s H E).nox (C8.fnBody st) t ∧ t { nx := fun _ H' => Q .non H', rt := Q } (start N vs) H) : C8.Mak P w K mg base (k + 1) x C sp [] := by
  obtain ⟨f, fd, me, F, b⟩ := d.ex
  exact C8.mak0 ⟨T.mkc, me.at_, me.fn, T.kc⟩ T.mgC F b .nil S len fun cdv A outer s H vs Q E hr h => hbody f cdv A outer s H vs Q E hr h
end
def kFld (K : PySem.W.Frag) (f : Str) (Q : VK) : VK := fun x H1 => ∃ a C dx fs v, x = .ref a ∧ H1 a = some (.ins C dx fs) ∧ Cls K C ∧ NoAttr K C f ∧ fs.lookup f = some v ∧ Q v H1
def kStA (K : PySem.W.Frag) (f : Str) (nx : L2.St → Hp → Prop) (σ : L2.St) (ta : TE) : VK := fun y H1 => ta σ H1 fun x H2 => ∃ a C dx fs, x = .ref a ∧ H2 a = some (.ins C dx fs) ∧ Cls K C ∧ NoAttr K C f ∧ fs.length < 1000 ∧ nx σ (upd H2 a (.ins C dx (putF f y fs)))
def kStB (K : PySem.W.Frag) (f : Str) (nx : L2.St → Hp → Prop) (σ : L2.St) (y : V) : VK := fun x H2 => ∃ a C dx fs, x = .ref a ∧ H2 a = some (.ins C dx fs) ∧ Cls K C ∧ NoAttr K C f ∧ fs.length < 1000 ∧ nx σ (upd H2 a (.ins C dx (putF f y fs)))
def kMet (C : Addr) (m : Str) (sp : Sp) (E : XK) (t : TA) (σ : L2.St) (Q : VK) : VK := fun x H1 => ∃ a dx fs, x = .ref a ∧ H1 a = some (.ins C dx fs) ∧ fs.lookup m = none ∧ t σ H1 fun vs H2 => sp (x :: (vs ++ [])) H2 Q E
def kMeA (sp : Sp) (E : XK) (x : V) (Q : VK) : List V → Hp → Prop := fun vs H2 => sp (x :: vs) H2 Q E
def kMak (C : Addr) (sp : Sp) (E : XK) (Q : VK) : List V → Hp → Prop := fun vs H1 => ∀ x dx, H1 x = none → H1 dx = none → dx ≠ x → sp (.ref x :: (vs ++ [])) (upd (upd H1 dx (.own x)) x (.ins C dx [])) (fun v H2 => v = .non ∧ Q (.ref x) H2) E
section
variable {K : PySem.W.Frag} {H : Hp} {Q : VK} {σ : L2.St} {ta tv : TE} {t : TA} {f m x : Str} {nx : L2.St → Hp → Prop} {rt : VK} {bk ct : L2.St → Hp → Prop} {C a dx : Addr} {sp : Sp} {E : XK} {v y : V} {fs : List (Str × V)} {mg : Str → Option Value} {attrs : List Str} {vs : List V}
instance : Step (tFld K ta f σ H Q) (ta σ H (kFld K f Q)) := ⟨fun h => h⟩
instance : Step (sFld K ta tv f ⟨nx, rt, bk, ct⟩ σ H) (tv σ H (kStA K f nx σ ta)) := ⟨fun h => h⟩
instance : Step (kStA K f nx σ ta y H) (ta σ H (kStB K f nx σ y)) := ⟨fun h => h⟩
instance : Step (tMeth C m sp [] E ta t σ H Q) (ta σ H (kMet C m sp E t σ Q)) := ⟨fun h => h⟩
instance : Step (tMake C sp [] E t σ H Q) (t σ H (kMak C sp E Q)) := ⟨fun h => h⟩
instance : Step (kMeA sp E v Q vs H) (sp (v :: vs) H Q E) := ⟨fun h => h⟩
theorem i_fld (T : Clx K mg x C attrs) (hf : f ∈ attrs) (h : H a = some (.ins C dx fs)) (l : fs.lookup f = some v) (q : Q v H) : kFld K f Q (.ref a) H := ⟨a, C, dx, fs, v, rfl, h, T.cl, T.na f hf, l, q⟩
theorem i_st (T : Clx K mg x C attrs) (hf : f ∈ attrs) (h : H a = some (.ins C dx fs)) (hl : fs.length < 1000) (q : nx σ (upd H a (.ins C dx (putF f y fs)))) : kStB K f nx σ y (.ref a) H := ⟨a, C, dx, fs, rfl, h, T.cl, T.na f hf, hl, q⟩
theorem i_met (h : H a = some (.ins C dx fs)) (l : fs.lookup m = none) (q : t σ H (kMeA sp E (.ref a) Q)) : kMet C m sp E t σ Q (.ref a) H := by
  refine ⟨a, dx, fs, rfl, h, l, ?_⟩
  have e0 : (fun (vs : List V) (H2 : Hp) => sp (.ref a :: (vs ++ [])) H2 Q E) = kMeA sp E (.ref a) Q := by
    funext vs H2
    rw [List.append_nil]
    rfl
  rw [e0]
  exact q
theorem i_mak (q : ∀ p dx H1, H p = none → H dx = none → dx ≠ p → Same H H1 → H1 p = some (.ins C dx []) → H1 dx = some (.own p) → sp (.ref p :: vs) H1 (fun v H2 => v = .non ∧ Q (.ref p) H2) E) : kMak C sp E Q vs H := fun p dx hp hd n => by
  rw [List.append_nil]
  refine q p dx _ hp hd n (fun b o e => ?_) upd_same ?_
  · rw [upd_ne (ne_of_none e hp), upd_ne (ne_of_none e hd)]
    exact e
  · rw [upd_ne n, upd_same]
end
end Esc

/-! Heaps without what stands at some places. -/
namespace Esc
open PySem PySem.Spec PyProof.Rows L2
def hid (S : List Addr) (H : Hp) : Hp := fun a => if a ∈ S then none else H a
theorem hid_in {S : List Addr} {a : Addr} {H : Hp} (h : a ∈ S) : hid S H a = none := by
  unfold hid
  rw [if_pos h]
theorem hid_out {S : List Addr} {a : Addr} {H : Hp} (h : a ∉ S) : hid S H a = H a := by
  unfold hid
  rw [if_neg h]
theorem hid_of {S : List Addr} {a : Addr} {H : Hp} {o : HO} (e : hid S H a = some o) : a ∉ S ∧ H a = some o := by
  by_cases h : a ∈ S
  · rw [hid_in h] at e
    cases e
  · rw [hid_out h] at e
    exact ⟨h, e⟩
theorem hid_at {S : List Addr} {a : Addr} {H : Hp} {o : HO} (h : a ∉ S) (e : H a = some o) : hid S H a = some o := (hid_out h).trans e
theorem hid_same {S : List Addr} {H : Hp} : Same (hid S H) H := fun b o e => (hid_of e).2
theorem hid_up {S : List Addr} {H H1 : Hp} (s : Same (hid S H) H1) : Same (hid S H) (hid S H1) := fun b o e => hid_at (hid_of e).1 (s b o e)
theorem hid_mono {S T : List Addr} {H H1 : Hp} (h : ∀ a ∈ S, a ∈ T) (s : Same (hid S H) H1) : Same (hid T H) H1 := fun b o e => s b o (hid_at (fun m => (hid_of e).1 (h b m)) (hid_of e).2)
theorem hid_pure {S : List Addr} {H H1 : Hp} (s : Same H H1) : Same (hid S H) H1 := fun b o e => s b o (hid_of e).2
theorem hid_put {S : List Addr} {p : Addr} {H : Hp} {o : HO} (h : p ∈ S) : Same (hid S H) (upd H p o) := fun b u e => (upd_ne (fun z => (hid_of e).1 (by rw [z]; exact h))).trans (hid_of e).2
theorem hid_tr {S : List Addr} {H H1 H2 : Hp} (s : Same (hid S H) H1) (t : Same (hid S H1) H2) : Same (hid S H) H2 := fun b o e => t b o (hid_up s b o e)
theorem hid_one {d : Addr} {H H1 : Hp} (s : Same (hide d H) H1) : Same (hid [d] H) H1 := fun b o e => by
  have z := hid_of e
  exact s b o ((hide_ne fun q => z.1 (by rw [q]; exact List.mem_cons_self)).trans z.2)
theorem one_hid {d : Addr} {H H1 : Hp} (s : Same (hid [d] H) H1) : Same (hide d H) H1 := fun b o e => by
  have nb : b ≠ d := fun z => by
    rw [z, hide_d] at e
    cases e
  rw [hide_ne nb] at e
  exact s b o (hid_at (by simpa using nb) e)
theorem hid_dice {d : Addr} {S : List Addr} {H H1 : Hp} (h : d ∈ S) (s : Same (hide d H) H1) : Same (hid S H) H1 := hid_mono (fun a m => by rw [List.mem_singleton.mp m]; exact h) (hid_one s)
/-- places that are new, or stood among them, may join; others may leave -/
theorem hid_swap {S T : List Addr} {H H1 : Hp} (s : Same (hid S H) H1) (h : ∀ a ∈ T, a ∈ S ∨ H a = none) : Same (hid S H) (hid T H1) := fun b o e => by
  have z := hid_of e
  refine hid_at (fun m => ?_) (s b o e)
  rcases h b m with k | k
  · exact z.1 k
  · rw [z.2] at k
    cases k
theorem hid_free {S : List Addr} {p : Addr} {H H1 : Hp} (s : Same (hid S H) H1) (n : p ∉ S) (h : H1 p = none) : H p = none := by
  have z := s.free h
  rw [hid_out n] at z
  exact z
/-! ### None, or a list of ints -/
def OptAt (H : Hp) (v : V) : Option (List Int) → Prop
  | none => v = .non
  | some b => ∃ a, v = .ref a ∧ H a = some (.lst (b.map V.int))
theorem OptAt.same {H H' : Hp} (s : Same H H') {v : V} : ∀ {o : Option (List Int)}, OptAt H v o → OptAt H' v o
  | none, h => h
  | some _, ⟨a, e, k⟩ => ⟨a, e, s _ _ k⟩
def OptsAt (H : Hp) : List V → List (Option (List Int)) → Prop
  | [], [] => True
  | v :: vs, o :: os => OptAt H v o ∧ OptsAt H vs os
  | _, _ => False
theorem OptsAt.same {H H' : Hp} (s : Same H H') : ∀ {vs : List V} {os : List (Option (List Int))}, OptsAt H vs os → OptsAt H' vs os
  | [], [], _ => trivial
  | _ :: _, _ :: _, ⟨h, r⟩ => ⟨h.same s, OptsAt.same s r⟩
theorem OptsAt.len {H : Hp} : ∀ {vs : List V} {os : List (Option (List Int))}, OptsAt H vs os → vs.length = os.length
  | [], [], _ => rfl
  | _ :: _, _ :: _, ⟨_, r⟩ => congrArg (· + 1) r.len
theorem OptsAt.app {H : Hp} : ∀ {vs : List V} {os : List (Option (List Int))} {us : List V} {ps : List (Option (List Int))}, OptsAt H vs os → OptsAt H us ps → OptsAt H (vs ++ us) (os ++ ps)
  | [], [], _, _, _, h => h
  | _ :: vs, _ :: os, us, ps, ⟨h, r⟩, h2 => ⟨h, OptsAt.app (vs := vs) (os := os) (us := us) (ps := ps) r h2⟩
theorem OptsAt.get {H : Hp} : ∀ {vs : List V} {os : List (Option (List Int))} {i : Nat} {v : V}, OptsAt H vs os → vs[i]? = some v → ∃ o, os[i]? = some o ∧ OptAt H v o
  | [], _, _, _, _, e => by simp at e
  | _ :: _, o :: _, 0, v, ⟨h, _⟩, e => by
    cases e
    exact ⟨o, rfl, h⟩
  | _ :: vs, _ :: os, i + 1, v, ⟨_, r⟩, e => OptsAt.get (vs := vs) (os := os) (i := i) r e
theorem OptsAt.take {H : Hp} : ∀ {vs : List V} {os : List (Option (List Int))} (n : Nat), OptsAt H vs os → OptsAt H (vs.take n) (os.take n)
  | [], [], n, h => by simpa using h
  | _ :: _, _ :: _, 0, _ => trivial
  | _ :: _, _ :: _, n + 1, ⟨h, r⟩ => ⟨h, r.take n⟩
theorem OptsAt.drop {H : Hp} : ∀ {vs : List V} {os : List (Option (List Int))} (n : Nat), OptsAt H vs os → OptsAt H (vs.drop n) (os.drop n)
  | [], [], n, h => by simpa using h
  | _ :: _, _ :: _, 0, h => h
  | _ :: vs, _ :: os, n + 1, ⟨_, r⟩ => OptsAt.drop (vs := vs) (os := os) n r
/-! ### ways among tuples -/
theorem sqt_tp {K : PySem.W.Frag} {H : Hp} {a : Addr} {xs : List V} (h : SqT K H a xs) : SqT K (tp H) a xs := by
  rcases h with (h | ⟨o, h⟩) | h
  · exact .inl (.inl (tp_all h rfl))
  · exact .inl (.inr ⟨o, tp_all h rfl⟩)
  · exact .inr h
theorem tupd_tp {H : Hp} {a : Addr} {xs : List V} (h : TupD H a xs) : TupD (tp H) a xs := by
  obtain ⟨o, n, e⟩ := h
  exact ⟨o, n, tp_all e rfl⟩
theorem TupsAt.tp {K : PySem.W.Frag} {H : Hp} : ∀ {as : List Addr} {cs : List (List Int)}, TupsAt K H as cs → TupsAt K (Esc.tp H) as cs
  | [], [], _ => trivial
  | _ :: _, _ :: _, ⟨h, r⟩ => ⟨tp_all h rfl, TupsAt.tp r⟩
theorem PairsAt.tp {K : PySem.W.Frag} {H : Hp} : ∀ {as : List Addr} {cs : List (Int × Int)}, PairsAt K H as cs → PairsAt K (Esc.tp H) as cs
  | [], [], _ => trivial
  | _ :: _, _ :: _, ⟨h, r⟩ => ⟨sqt_tp h, PairsAt.tp r⟩
theorem KindAt.tp {K : PySem.W.Frag} {H : Hp} {p : Addr} {t e : Int} : ∀ {k : Kind}, KindAt K H p t e k → KindAt K (Esc.tp H) p t e k
  | .codes _, ⟨c, as, h1, h2, h3⟩ => ⟨c, as, sqt_tp h1, sqt_tp h2, h3.tp⟩
  | .escapes _ _, ⟨c, as, h1, h2, h3⟩ => ⟨c, as, sqt_tp h1, sqt_tp h2, h3.tp⟩
  | .counts _, h => sqt_tp h
  | .ranks, h => sqt_tp h
theorem TurnAt.tp {K : PySem.W.Frag} {H : Hp} : ∀ {ts : List (Addr × List Int)} {v u : V}, TurnAt K H ts v u → TurnAt K (Esc.tp H) ts v u
  | [], _, _, h => h
  | (_, _) :: _, _, _, ⟨p, x, e, h1, h2, h3⟩ => ⟨p, x, e, sqt_tp h1, tupd_tp h2, h3.tp⟩
theorem WayAt.tp {K : PySem.W.Frag} {H : Hp} {v : V} {w : Way} (h : WayAt K H v w) : WayAt K (Esc.tp H) v w := by
  obtain ⟨tas, p, a, b, c⟩ := h
  exact ⟨tas, p, a, b.tp, c.tp⟩
theorem tp_hid {S : List Addr} {H H' : Hp} (h : ∀ a ∈ S, ∀ o, H a = some o → isT o = false) (s : Same (hid S H) H') : Same (tp H) (tp H') := tp_up fun b o e => by
  have z := tp_of e
  refine s b o (hid_at (fun m => ?_) z.2)
  have y := h b m o z.2
  rw [z.1] at y
  cases y
end Esc

local macro_rules | `(tactic| walk_at "hp") => `(tactic| first
  | assumption
  | (with_reducible exact L2.upd_same)
  | ((with_reducible apply Esc.mut_at); (focus assumption); (focus assumption); (focus (walk_at "hp")))
  | ((with_reducible apply Esc.upd_at); (focus (first | assumption | exact Ne.symm (by assumption))); (focus (walk_at "hp")))
  | ((with_reducible apply Esc.same_at); (focus assumption); (focus (walk_at "hp"))))
local macro_rules | `(tactic| walk_at "sq") => `(tactic| first
  | assumption
  | ((with_reducible apply Esc.sl_of); (focus (walk_at "hp")))
  | ((with_reducible apply Esc.st_of); (focus (walk_at "hp")))
  | ((with_reducible apply Esc.mut_l); (focus assumption); (focus assumption); (focus (walk_at "sq")))
  | ((with_reducible apply Esc.mut_t); (focus assumption); (focus assumption); (focus (walk_at "sq")))
  | ((with_reducible apply L2.Same.seq); (focus assumption); (focus (walk_at "sq")))
  | ((with_reducible apply Esc.stup); (focus assumption); (focus (walk_at "sq"))))
local macro_rules | `(tactic| walk_at "at") => `(tactic| first
  | assumption
  | exact L2.atI_nat (j := 0) rfl | exact L2.atI_nat (j := 1) rfl | exact L2.atI_nat (j := 2) rfl | exact L2.atI_nat (j := 3) rfl | exact L2.atI_nat (j := 4) rfl)
local macro_rules | `(tactic| walk_at "num") => `(tactic| first
  | assumption | omega
  | exact ⟨by omega, by omega⟩
  | exact Or.inl ⟨by omega, by omega⟩ | exact Or.inr ⟨by omega, by omega⟩)
local macro_rules | `(tactic| walk_at "sz") => `(tactic| first
  | assumption
  | exact Esc.szl (by simp only [List.length_append, List.length_map, List.length_cons, List.length_nil, List.length_singleton]; omega)
  | exact Esc.sz (by simp only [List.length_append, List.length_map, List.length_cons, List.length_nil, List.length_singleton]; omega))
local macro_rules | `(tactic| walk_at "r") => `(tactic| (refine Esc.Steps.h ?_; repeat' (first
  | ((with_reducible apply Esc.i_ixL); (focus (walk_at "sq")); (focus (walk_at "at")); refine Esc.Steps.h ?_)
  | ((with_reducible apply Esc.i_I); (focus (walk_at "num")); refine Esc.Steps.h ?_)
  | ((with_reducible apply Esc.i_ixT); (focus (walk_at "sq")); (focus (walk_at "at")); refine Esc.Steps.h ?_)
  | ((with_reducible apply Esc.i_bm); (focus (walk_at "sq")); refine Esc.Steps.h ?_)
  | ((with_reducible apply Esc.i_bm0); (focus (walk_at "sq")); refine Esc.Steps.h ?_)
  | ((with_reducible apply Esc.i_lenI); (focus (walk_at "sq")); refine Esc.Steps.h ?_)
  | ((with_reducible apply Esc.i_len); (focus (walk_at "sq")); refine Esc.Steps.h ?_)
  | ((with_reducible apply Esc.i_lenT); (focus (walk_at "sq")); refine Esc.Steps.h ?_)
  | ((with_reducible apply Esc.i_gtup); (focus (walk_at "sq")); (focus rfl); refine Esc.Steps.h ?_)
  | ((with_reducible apply Esc.i_append); (focus (walk_at "hp")); (focus (walk_at "sz")); refine Esc.Steps.h ?_)
  | ((with_reducible apply Esc.i_insert0); (focus (walk_at "hp")); (focus (walk_at "sz")); refine Esc.Steps.h ?_))))
local macro_rules | `(tactic| walk_at "go") => `(tactic| (try dsimp only [L2.cxOf, L2.Cx.nox, L2.Cx.wish, List.map_cons, List.map_nil]))

namespace Esc
open PySem PySem.Spec PyProof.Rows L2
def topS (i : Nat) : Stmt := PySem.Challenge.pw_escaperow_k10_whole_as_soon_as_certain.main.body.getD i (.Pass ⟨0, 0, 0, 0⟩)
abbrev s_rank_of : Stmt := topS 5
abbrev N_rank_of : List Str := ["row", "letters", "places", "rank", "letter", "at"]
abbrev P_rank_of : List Str := ["row", "letters"]
theorem sc_rank_of : FnScope N_rank_of P_rank_of (C8.fnScope s_rank_of) := C8.fnScope_by (by decide +kernel)

abbrev s_row_of : Stmt := topS 6
abbrev N_row_of : List Str := ["rank", "letters", "many", "row", "left"]
abbrev P_row_of : List Str := ["rank", "letters"]
theorem sc_row_of : FnScope N_row_of P_row_of (C8.fnScope s_row_of) := C8.fnScope_by (by decide +kernel)

abbrev s_need_way : Stmt := topS 12
abbrev N_need_way : List Str := ["way", "why"]
abbrev P_need_way : List Str := ["way"]
theorem sc_need_way : FnScope N_need_way P_need_way (C8.fnScope s_need_way) := C8.fnScope_by (by decide +kernel)

abbrev s_fault_of : Stmt := topS 13
abbrev N_fault_of : List Str := ["way", "turnings", "inner", "top", "end", "find_fault", "why", "signs"]
abbrev P_fault_of : List Str := ["way"]
theorem sc_fault_of : FnScope N_fault_of P_fault_of (C8.fnScope s_fault_of) := C8.fnScope_by (by decide +kernel)

abbrev s_unturned : Stmt := topS 14
abbrev N_unturned : List Str := ["way", "turnings", "inner"]
abbrev P_unturned : List Str := ["way"]
theorem sc_unturned : FnScope N_unturned P_unturned (C8.fnScope s_unturned) := C8.fnScope_by (by decide +kernel)

abbrev s_plain_signs : Stmt := topS 15
abbrev N_plain_signs : List Str := ["top", "end", "sign"]
abbrev P_plain_signs : List Str := ["top", "end"]
theorem sc_plain_signs : FnScope N_plain_signs P_plain_signs (C8.fnScope s_plain_signs) := C8.fnScope_by (by decide +kernel)

abbrev s_first_unsigned : Stmt := topS 16
abbrev N_first_unsigned : List Str := ["signs", "top", "at", "sign"]
abbrev P_first_unsigned : List Str := ["signs", "top"]
theorem sc_first_unsigned : FnScope N_first_unsigned P_first_unsigned (C8.fnScope s_first_unsigned) := C8.fnScope_by (by decide +kernel)

abbrev s_is_whole : Stmt := topS 17
abbrev N_is_whole : List Str := ["number"]
abbrev P_is_whole : List Str := ["number"]
theorem sc_is_whole : FnScope N_is_whole P_is_whole (C8.fnScope s_is_whole) := C8.fnScope_by (by decide +kernel)

abbrev s_is_top : Stmt := topS 18
abbrev N_is_top : List Str := ["number"]
abbrev P_is_top : List Str := ["number"]
theorem sc_is_top : FnScope N_is_top P_is_top (C8.fnScope s_is_top) := C8.fnScope_by (by decide +kernel)

abbrev s_is_sign : Stmt := topS 19
abbrev N_is_sign : List Str := ["number", "top"]
abbrev P_is_sign : List Str := ["number", "top"]
theorem sc_is_sign : FnScope N_is_sign P_is_sign (C8.fnScope s_is_sign) := C8.fnScope_by (by decide +kernel)

abbrev s_is_plain : Stmt := topS 20
abbrev N_is_plain : List Str := ["number", "top", "end"]
abbrev P_is_plain : List Str := ["number", "top", "end"]
theorem sc_is_plain : FnScope N_is_plain P_is_plain (C8.fnScope s_is_plain) := C8.fnScope_by (by decide +kernel)

abbrev s_is_turning : Stmt := topS 21
abbrev N_is_turning : List Str := ["signs", "top"]
abbrev P_is_turning : List Str := ["signs", "top"]
theorem sc_is_turning : FnScope N_is_turning P_is_turning (C8.fnScope s_is_turning) := C8.fnScope_by (by decide +kernel)

abbrev s_codes_fault : Stmt := topS 22
abbrev N_codes_fault : List Str := ["way", "_", "top", "end", "codes", "code"]
abbrev P_codes_fault : List Str := ["way"]
theorem sc_codes_fault : FnScope N_codes_fault P_codes_fault (C8.fnScope s_codes_fault) := C8.fnScope_by (by decide +kernel)

abbrev s_is_code : Stmt := topS 23
abbrev N_is_code : List Str := ["code", "top", "end", "sign"]
abbrev P_is_code : List Str := ["code", "top", "end"]
theorem sc_is_code : FnScope N_is_code P_is_code (C8.fnScope s_is_code) := C8.fnScope_by (by decide +kernel)

abbrev s_stand_apart : Stmt := topS 24
abbrev N_stand_apart : List Str := ["codes", "at", "code", "other", "shared"]
abbrev P_stand_apart : List Str := ["codes"]
theorem sc_stand_apart : FnScope N_stand_apart P_stand_apart (C8.fnScope s_stand_apart) := C8.fnScope_by (by decide +kernel)

abbrev s_escapes_fault : Stmt := topS 25
abbrev N_escapes_fault : List Str := ["way", "_", "top", "end", "mark", "pairs", "signs", "codes", "code", "sign"]
abbrev P_escapes_fault : List Str := ["way"]
theorem sc_escapes_fault : FnScope N_escapes_fault P_escapes_fault (C8.fnScope s_escapes_fault) := C8.fnScope_by (by decide +kernel)

abbrev s_counts_fault : Stmt := topS 26
abbrev N_counts_fault : List Str := ["way", "_", "top", "end", "limit"]
abbrev P_counts_fault : List Str := ["way"]
theorem sc_counts_fault : FnScope N_counts_fault P_counts_fault (C8.fnScope s_counts_fault) := C8.fnScope_by (by decide +kernel)

abbrev s_ranks_fault : Stmt := topS 27
abbrev N_ranks_fault : List Str := ["way"]
abbrev P_ranks_fault : List Str := ["way"]
theorem sc_ranks_fault : FnScope N_ranks_fault P_ranks_fault (C8.fnScope s_ranks_fault) := C8.fnScope_by (by decide +kernel)

abbrev s_framed : Stmt := topS 31
abbrev N_framed : List Str := ["way", "body"]
abbrev P_framed : List Str := ["way", "body"]
theorem sc_framed : FnScope N_framed P_framed (C8.fnScope s_framed) := C8.fnScope_by (by decide +kernel)

abbrev s_need_body : Stmt := topS 32
abbrev N_need_body : List Str := ["way", "body", "at"]
abbrev P_need_body : List Str := ["way", "body"]
theorem sc_need_body : FnScope N_need_body P_need_body (C8.fnScope s_need_body) := C8.fnScope_by (by decide +kernel)

abbrev s_top_of : Stmt := topS 33
abbrev N_top_of : List Str := ["way", "inner"]
abbrev P_top_of : List Str := ["way"]
theorem sc_top_of : FnScope N_top_of P_top_of (C8.fnScope s_top_of) := C8.fnScope_by (by decide +kernel)

abbrev s_frame_of : Stmt := topS 34
abbrev N_frame_of : List Str := ["way", "body", "turnings", "inner", "put_together"]
abbrev P_frame_of : List Str := ["way", "body"]
theorem sc_frame_of : FnScope N_frame_of P_frame_of (C8.fnScope s_frame_of) := C8.fnScope_by (by decide +kernel)

abbrev s_exchanged : Stmt := topS 35
abbrev N_exchanged : List Str := ["turnings", "body", "turned", "signs", "sign"]
abbrev P_exchanged : List Str := ["turnings", "body"]
theorem sc_exchanged : FnScope N_exchanged P_exchanged (C8.fnScope s_exchanged) := C8.fnScope_by (by decide +kernel)

abbrev s_by_codes : Stmt := topS 36
abbrev N_by_codes : List Str := ["way", "body", "codes", "letter", "sign"]
abbrev P_by_codes : List Str := ["way", "body"]
theorem sc_by_codes : FnScope N_by_codes P_by_codes (C8.fnScope s_by_codes) := C8.fnScope_by (by decide +kernel)

abbrev s_by_escapes : Stmt := topS 37
abbrev N_by_escapes : List Str := ["way", "body", "mark", "pairs", "codes", "frame", "sign", "code"]
abbrev P_by_escapes : List Str := ["way", "body"]
theorem sc_by_escapes : FnScope N_by_escapes P_by_escapes (C8.fnScope s_by_escapes) := C8.fnScope_by (by decide +kernel)

abbrev s_by_counts : Stmt := topS 38
abbrev N_by_counts : List Str := ["way", "body", "_", "top", "end", "limit", "counts", "rows", "frame", "row", "last"]
abbrev P_by_counts : List Str := ["way", "body"]
theorem sc_by_counts : FnScope N_by_counts P_by_counts (C8.fnScope s_by_counts) := C8.fnScope_by (by decide +kernel)

abbrev s_rows_between : Stmt := topS 39
abbrev N_rows_between : List Str := ["body", "end", "rows", "sign"]
abbrev P_rows_between : List Str := ["body", "end"]
theorem sc_rows_between : FnScope N_rows_between P_rows_between (C8.fnScope s_rows_between) := C8.fnScope_by (by decide +kernel)

abbrev s_grouped : Stmt := topS 40
abbrev N_grouped : List Str := ["row", "counts", "whole", "groups", "left"]
abbrev P_grouped : List Str := ["row", "counts"]
theorem sc_grouped : FnScope N_grouped P_grouped (C8.fnScope s_grouped) := C8.fnScope_by (by decide +kernel)

abbrev s_by_ranks : Stmt := topS 41
abbrev N_by_ranks : List Str := ["way", "body", "_", "top", "end"]
abbrev P_by_ranks : List Str := ["way", "body"]
theorem sc_by_ranks : FnScope N_by_ranks P_by_ranks (C8.fnScope s_by_ranks) := C8.fnScope_by (by decide +kernel)

abbrev s_certain_of : Stmt := topS 44
abbrev N_certain_of : List Str := ["way", "body", "turnings", "inner", "certain"]
abbrev P_certain_of : List Str := ["way", "body"]
theorem sc_certain_of : FnScope N_certain_of P_certain_of (C8.fnScope s_certain_of) := C8.fnScope_by (by decide +kernel)

abbrev s_certain_pieces : Stmt := topS 45
abbrev N_certain_pieces : List Str := ["way", "body"]
abbrev P_certain_pieces : List Str := ["way", "body"]
theorem sc_certain_pieces : FnScope N_certain_pieces P_certain_pieces (C8.fnScope s_certain_pieces) := C8.fnScope_by (by decide +kernel)

abbrev s_certain_groups : Stmt := topS 46
abbrev N_certain_groups : List Str := ["way", "body", "_", "top", "end", "limit", "counts", "rows", "certain", "row", "last", "whole"]
abbrev P_certain_groups : List Str := ["way", "body"]
theorem sc_certain_groups : FnScope N_certain_groups P_certain_groups (C8.fnScope s_certain_groups) := C8.fnScope_by (by decide +kernel)

abbrev s_certain_figures : Stmt := topS 47
abbrev N_certain_figures : List Str := ["way", "body"]
abbrev P_certain_figures : List Str := ["way", "body"]
theorem sc_certain_figures : FnScope N_certain_figures P_certain_figures (C8.fnScope s_certain_figures) := C8.fnScope_by (by decide +kernel)

abbrev s__law_dice : Stmt := topS 52
abbrev N__law_dice : List Str := ["_law_script", "_law_k", "_law_found", "_law_cell"]
abbrev P__law_dice : List Str := ["_law_script", "_law_k"]
theorem sc__law_dice : FnScope N__law_dice P__law_dice (C8.fnScope s__law_dice) := C8.fnScope_by (by decide +kernel)

abbrev s__law_off : Stmt := topS 53
abbrev N__law_off : List Str := ["_law_d", "_law_most", "_law_found"]
abbrev P__law_off : List Str := ["_law_d", "_law_most"]
theorem sc__law_off : FnScope N__law_off P__law_off (C8.fnScope s__law_off) := C8.fnScope_by (by decide +kernel)

abbrev s__law_mixed : Stmt := topS 54
abbrev N__law_mixed : List Str := ["_law_d", "_law_row", "_law_left", "_law_found"]
abbrev P__law_mixed : List Str := ["_law_d", "_law_row"]
theorem sc__law_mixed : FnScope N__law_mixed P__law_mixed (C8.fnScope s__law_mixed) := C8.fnScope_by (by decide +kernel)

abbrev s__law_plain : Stmt := topS 55
abbrev N__law_plain : List Str := ["_law_top_here", "_law_end_here", "_law_sign"]
abbrev P__law_plain : List Str := ["_law_top_here", "_law_end_here"]
theorem sc__law_plain : FnScope N__law_plain P__law_plain (C8.fnScope s__law_plain) := C8.fnScope_by (by decide +kernel)

abbrev s__law_codes : Stmt := topS 56
abbrev N__law_codes : List Str := ["_law_d", "_law_top_here", "_law_end_here", "_law_plain_here", "_law_leaves", "_law_turn", "_law_short", "_law_code", "_law_sign"]
abbrev P__law_codes : List Str := ["_law_d", "_law_top_here", "_law_end_here"]
theorem sc__law_codes : FnScope N__law_codes P__law_codes (C8.fnScope s__law_codes) := C8.fnScope_by (by decide +kernel)

abbrev s__law_escapes : Stmt := topS 57
abbrev N__law_escapes : List Str := ["_law_d", "_law_top_here", "_law_end_here", "_law_plain_here", "_law_mark", "_law_more", "_law_signs", "_law_codes_here", "_law_sign", "_law_k"]
abbrev P__law_escapes : List Str := ["_law_d", "_law_top_here", "_law_end_here"]
theorem sc__law_escapes : FnScope N__law_escapes P__law_escapes (C8.fnScope s__law_escapes) := C8.fnScope_by (by decide +kernel)

abbrev s__law_base : Stmt := topS 58
abbrev N__law_base : List Str := ["_law_d", "_law_top_here", "_law_end_here", "_law_kind"]
abbrev P__law_base : List Str := ["_law_d", "_law_top_here"]
theorem sc__law_base : FnScope N__law_base P__law_base (C8.fnScope s__law_base) := C8.fnScope_by (by decide +kernel)

abbrev s__law_turned : Stmt := topS 59
abbrev N__law_turned : List Str := ["_law_d", "_law_way_here", "_law_most", "_law_turn"]
abbrev P__law_turned : List Str := ["_law_d", "_law_way_here", "_law_most"]
theorem sc__law_turned : FnScope N__law_turned P__law_turned (C8.fnScope s__law_turned) := C8.fnScope_by (by decide +kernel)

abbrev s__law_core : Stmt := topS 60
abbrev N__law_core : List Str := ["_law_way_here"]
abbrev P__law_core : List Str := ["_law_way_here"]
theorem sc__law_core : FnScope N__law_core P__law_core (C8.fnScope s__law_core) := C8.fnScope_by (by decide +kernel)

abbrev s__law_top : Stmt := topS 61
abbrev N__law_top : List Str := ["_law_way_here"]
abbrev P__law_top : List Str := ["_law_way_here"]
theorem sc__law_top : FnScope N__law_top P__law_top (C8.fnScope s__law_top) := C8.fnScope_by (by decide +kernel)

abbrev s__law_end : Stmt := topS 62
abbrev N__law_end : List Str := ["_law_way_here"]
abbrev P__law_end : List Str := ["_law_way_here"]
theorem sc__law_end : FnScope N__law_end P__law_end (C8.fnScope s__law_end) := C8.fnScope_by (by decide +kernel)

abbrev s__law_size : Stmt := topS 63
abbrev N__law_size : List Str := ["_law_d"]
abbrev P__law_size : List Str := ["_law_d"]
theorem sc__law_size : FnScope N__law_size P__law_size (C8.fnScope s__law_size) := C8.fnScope_by (by decide +kernel)

abbrev s__law_way : Stmt := topS 64
abbrev N__law_way : List Str := ["_law_d"]
abbrev P__law_way : List Str := ["_law_d"]
theorem sc__law_way : FnScope N__law_way P__law_way (C8.fnScope s__law_way) := C8.fnScope_by (by decide +kernel)

abbrev s__law_body : Stmt := topS 65
abbrev N__law_body : List Str := ["_law_d", "_law_top_here", "_law_end_here", "_law_most", "_law_size_here", "_law_kind", "_law_one", "_law_found", "_law_k"]
abbrev P__law_body : List Str := ["_law_d", "_law_top_here", "_law_end_here", "_law_most"]
theorem sc__law_body : FnScope N__law_body P__law_body (C8.fnScope s__law_body) := C8.fnScope_by (by decide +kernel)

abbrev s__law_common : Stmt := topS 66
abbrev N__law_common : List Str := ["_law_rows", "_law_many", "_law_row"]
abbrev P__law_common : List Str := ["_law_rows"]
theorem sc__law_common : FnScope N__law_common P__law_common (C8.fnScope s__law_common) := C8.fnScope_by (by decide +kernel)

abbrev s__law_goings : Stmt := topS 67
abbrev N__law_goings : List Str := ["_law_way_here", "_law_body_here", "_law_top_here", "_law_rows", "_law_sign", "_law_k"]
abbrev P__law_goings : List Str := ["_law_way_here", "_law_body_here"]
theorem sc__law_goings : FnScope N__law_goings P__law_goings (C8.fnScope s__law_goings) := C8.fnScope_by (by decide +kernel)

abbrev s_law : Stmt := topS 68
abbrev N_law : List Str := ["_law_script", "_law_d", "_law_way_here", "_law_writer", "_law_turn", "_law_body_here", "_law_told", "_law_at"]
abbrev P_law : List Str := ["_law_script"]
theorem sc_law : FnScope N_law P_law (C8.fnScope s_law) := C8.fnScope_by (by decide +kernel)

abbrev s_Writer___init__ : Stmt := (C8.clsBody (topS 50)).getD 0 (.Pass ⟨0, 0, 0, 0⟩)
abbrev N_Writer___init__ : List Str := ["self", "way"]
abbrev P_Writer___init__ : List Str := ["self", "way"]
theorem sc_Writer___init__ : FnScope N_Writer___init__ P_Writer___init__ (C8.fnScope s_Writer___init__) := C8.fnScope_by (by decide +kernel)

abbrev s_Writer_put : Stmt := (C8.clsBody (topS 50)).getD 1 (.Pass ⟨0, 0, 0, 0⟩)
abbrev N_Writer_put : List Str := ["self", "sign", "certain", "news"]
abbrev P_Writer_put : List Str := ["self", "sign"]
theorem sc_Writer_put : FnScope N_Writer_put P_Writer_put (C8.fnScope s_Writer_put) := C8.fnScope_by (by decide +kernel)

abbrev s_Writer_close : Stmt := (C8.clsBody (topS 50)).getD 2 (.Pass ⟨0, 0, 0, 0⟩)
abbrev N_Writer_close : List Str := ["self", "missing"]
abbrev P_Writer_close : List Str := ["self"]
theorem sc_Writer_close : FnScope N_Writer_close P_Writer_close (C8.fnScope s_Writer_close) := C8.fnScope_by (by decide +kernel)

/-- the built-in names that the text leaves alone -/
structure Blt (mg : Str → Option Value) : Prop where
  abs_ : mg "abs" = none
  all_ : mg "all" = none
  enumerate_ : mg "enumerate" = none
  int_ : mg "int" = none
  len_ : mg "len" = none
  list_ : mg "list" = none
  min_ : mg "min" = none
  range_ : mg "range" = none
  set_ : mg "set" = none
  sorted_ : mg "sorted" = none
  tuple_ : mg "tuple" = none
  type_ : mg "type" = none
end Esc

namespace Esc
open PySem PySem.Spec PyProof.Rows L2
section
variable {P : Program} {w : World} {K : PySem.W.Frag} {mg : Str → Option Value} {base : Heap}
/-! ### is_whole, is_sign, is_top: of whole numbers -/
def spWholeI : Sp := fun vs H Q _ => ∃ n : Int, vs = [.int n] ∧ Q (.bl true) H
theorem c_is_whole (Z : Blt mg) (d : Dd K mg "is_whole" s_is_whole P_is_whole) : C8.Cal P w K mg base 1 "is_whole" spWholeI [] := by
  refine d.cal sc_is_whole (fun vs H Q E h => ?_) (fun f cdv A outer s H vs Q E hr h => ?_)
  · obtain ⟨n, rfl, _⟩ := h
    rfl
  · obtain ⟨n, rfl, q⟩ := h
    have nd := sc_is_whole.nd
    refine ⟨_, (pss_one (ps_ret (pe_cmpR k_isTy (pe_callTy call_type1 (by rfl) Z.type_ (by decide +kernel) (pa_cons (pv 0) pa_nil)) (pe_bltn (v := .ty "int") (u := .type "int") (by rfl) Z.int_ (by decide +kernel) rfl) (nomark _)))), ?_⟩
    refine i_start (σ' := [some (.int n)]) rfl ?_
    walk_at "go"
    walk_at "r"
    rw [decide_eq_true rfl]
    exact q
def spSignI : Sp := fun vs H Q _ => ∃ n t : Int, vs = [.int n, .int t] ∧ Q (.bl (decide (0 ≤ n ∧ n < t))) H
theorem c_is_sign (Z : Blt mg) (c_is_whole : C8.Cal P w K mg base 1 "is_whole" spWholeI []) (d : Dd K mg "is_sign" s_is_sign P_is_sign) : C8.Cal P w K mg base 2 "is_sign" spSignI [] := by
  refine d.cal sc_is_sign (fun vs H Q E h => ?_) (fun f cdv A outer s H vs Q E hr h => ?_)
  · obtain ⟨n, t, rfl, _⟩ := h
    rfl
  · obtain ⟨n, t, rfl, q⟩ := h
    have nd := sc_is_sign.nd
    refine ⟨_, (pss_one (ps_ret (pe_and (C8.pe_c c_is_whole hr (by decide) (by rfl) (pa_cons (pv 0) pa_nil)) (pe_one (pe_chain op_le op_lt pe_int (pv 0) (pv 1)))))), ?_⟩
    refine i_start (σ' := [some (.int n), some (.int t)]) rfl ?_
    walk_at "go"
    walk_at "r"
    refine ⟨n, rfl, ?_⟩
    walk_at "r"
    refine i_br (fun h1 => ?_) (fun h1 => ?_)
    · walk_at "r"
      rw [show decide (n < t) = decide (0 ≤ n ∧ n < t) from decide_eq_decide.mpr ⟨fun h => ⟨h1, h⟩, fun h => h.2⟩]
      exact q
    · walk_at "r"
      rw [decide_eq_false (fun h => h1 h.1)] at q
      exact q
def spTopI : Sp := fun vs H Q _ => ∃ n : Int, vs = [.int n] ∧ Q (.bl (decide (3 ≤ n ∧ n ≤ 16))) H
theorem c_is_top (Z : Blt mg) (c_is_whole : C8.Cal P w K mg base 1 "is_whole" spWholeI []) (m_LEAST_TOP : ∃ u, mg "LEAST_TOP" = some u ∧ RelV (.int 3) u) (m_MOST_TOP : ∃ u, mg "MOST_TOP" = some u ∧ RelV (.int 16) u)
    (d : Dd K mg "is_top" s_is_top P_is_top) : C8.Cal P w K mg base 2 "is_top" spTopI [] := by
  refine d.cal sc_is_top (fun vs H Q E h => ?_) (fun f cdv A outer s H vs Q E hr h => ?_)
  · obtain ⟨n, rfl, _⟩ := h
    rfl
  · obtain ⟨n, rfl, q⟩ := h
    have nd := sc_is_top.nd
    refine ⟨_, (pss_one (ps_ret (pe_and (C8.pe_c c_is_whole hr (by decide) (by rfl) (pa_cons (pv 0) pa_nil)) (pe_one (pe_chain op_le op_le (C8.pe_gc rfl m_LEAST_TOP) (pv 0) (C8.pe_gc rfl m_MOST_TOP)))))), ?_⟩
    refine i_start (σ' := [some (.int n)]) rfl ?_
    walk_at "go"
    walk_at "r"
    refine ⟨n, rfl, ?_⟩
    walk_at "r"
    refine i_br (fun h1 => ?_) (fun h1 => ?_)
    · walk_at "r"
      rw [show decide (n ≤ 16) = decide (3 ≤ n ∧ n ≤ 16) from decide_eq_decide.mpr ⟨fun h => ⟨h1, h⟩, fun h => h.2⟩]
      exact q
    · walk_at "r"
      rw [decide_eq_false (fun h => h1 h.1)] at q
      exact q
/-! ### plain signs -/
def spPlain : Sp := fun vs H Q _ => ∃ t e : Int, vs = [.int t, .int e] ∧ 0 ≤ t ∧ t < 1000 ∧ ∀ p H', H p = none → Same H H' → H' p = some (.lst ((plainL t e).map V.int)) → Q (.ref p) H'
theorem c_plain_signs (Z : Blt mg) (d : Dd K mg "plain_signs" s_plain_signs P_plain_signs) : C8.Cal P w K mg base 1 "plain_signs" spPlain [] := by
  refine d.cal sc_plain_signs (fun vs H Q E h => ?_) (fun f cdv A outer s H vs Q E hr h => ?_)
  · obtain ⟨t, e, rfl, _⟩ := h
    rfl
  · obtain ⟨t, e, rfl, h1, h2, q⟩ := h
    have nd := sc_plain_signs.nd
    refine ⟨_, (pss_one (ps_ret (pe_lc (own := [("sign", 2)]) (g := gName 2) rfl nd (pi_range1 rfl Z.range_ (pa_cons (pv 0) pa_nil)) (blkOk_by (N := N_plain_signs) (sc := C8.fnScope s_plain_signs) (own := [("sign", 2)]) (by decide +kernel)) (fun _ _ _ _ _ => (pg_name (i := 2) nd rfl (Or.inl rfl))) (fun _ _ _ _ _ => pts_one (pt_cmpR op_ne (pv 2) (pv 1) (nomark _))) (fun _ _ _ _ _ => (pv 2))))), ?_⟩
    refine i_start (σ' := [some (.int t), some (.int e), none]) rfl ?_
    walk_at "go"
    walk_at "r"
    refine i_lcR (F := fun (i : Nat) => if (i : Int) = e then none else some (V.int (i : Int))) ⟨h1, by omega⟩ (fun i hi H1 s1 QN QY hN hY => ?_) (by rw [plainL_map]; exact q)
    walk_at "r"
    refine i_nbr (fun h => ?_) (fun h => ?_)
    · walk_at "r"
      exact hN (if_pos h) _ (Same.refl _)
    · walk_at "r"
      exact hY _ (if_neg h) _ (Same.refl _)
/-! ### first_unsigned: None of signs, else some place -/
def spFirst (K : PySem.W.Frag) : Sp := fun vs H Q _ => ∃ (a : Addr) (ns : List Int) (t : Int), vs = [.ref a, .int t] ∧ SqL K H a (ns.map V.int) ∧ (∀ n ∈ ns, 0 ≤ n ∧ n < t) ∧ ∀ H', Same H H' → Q .non H'
theorem c_first_unsigned (Z : Blt mg) (c_is_sign : C8.Cal P w K mg base 2 "is_sign" spSignI []) (d : Dd K mg "first_unsigned" s_first_unsigned P_first_unsigned) : C8.Cal P w K mg base 3 "first_unsigned" (spFirst K) [] := by
  refine d.cal sc_first_unsigned (fun vs H Q E h => ?_) (fun f cdv A outer s H vs Q E hr h => ?_)
  · obtain ⟨a, ns, t, rfl, _⟩ := h
    rfl
  · obtain ⟨a, ns, t, rfl, ha, hn, q⟩ := h
    have nd := sc_first_unsigned.nd
    refine ⟨_, (pss_cons (ps_for PassesOwn.never rfl (pi_enum rfl Z.enumerate_ (pa_cons (pv 0) pa_nil)) (pg_tup rfl (pgs_cons (pg_name (i := 2) nd rfl (Or.inl rfl)) (pgs_cons (pg_name (i := 3) nd rfl (Or.inl rfl)) pgs_nil)))
    (pss_one (ps_if (pt_not (pt_val (C8.pe_c c_is_sign hr (by decide) (by rfl) (pa_cons (pv 3) (pa_cons (pv 1) pa_nil))))) (pss_one (ps_ret (pv 2))) pss_nil)))
  (pss_one (ps_ret pe_non))), ?_⟩
    refine i_start (σ' := [some (.ref a), some (.int t), none, none]) rfl ?_
    walk_at "go"
    walk_at "r"
    refine i_enum ha (fun i σ' H' => ∃ x y, σ' = [some (.ref a), some (.int t), x, y] ∧ Same H H') ⟨_, _, rfl, Same.refl _⟩ (fun i σ' H' _ ⟨_, _, _, s1⟩ => s1.seq ha) (fun i x σ' H1 T H2 hi p hT s2 eT => ?_) (fun σ' H1 p => ?_)
    · obtain ⟨y1, y2, rfl, s1⟩ := p
      obtain ⟨n, hn1, rfl⟩ := List.mem_map.mp (List.mem_of_getElem? hi)
      walk_at "r"
      refine ⟨n, t, rfl, ?_⟩
      rw [decide_eq_true (hn n hn1)]
      walk_at "r"
      exact ⟨_, _, rfl, s1.trans s2⟩
    · obtain ⟨y1, y2, rfl, s1⟩ := p
      walk_at "r"
      exact q _ s1
def spRanksFault : Sp := fun vs H Q _ => ∃ v, vs = [v] ∧ Q .non H
theorem c_ranks_fault (d : Dd K mg "ranks_fault" s_ranks_fault P_ranks_fault) : C8.Cal P w K mg base 1 "ranks_fault" spRanksFault [] := by
  refine d.cal sc_ranks_fault (fun vs H Q E h => ?_) (fun f cdv A outer s H vs Q E hr h => ?_)
  · obtain ⟨v, rfl, _⟩ := h
    rfl
  · obtain ⟨v, rfl, q⟩ := h
    have nd := sc_ranks_fault.nd
    refine ⟨_, (pss_one (ps_ret pe_non)), ?_⟩
    refine i_start (σ' := [some v]) rfl ?_
    walk_at "go"
    walk_at "r"
    exact q
/-! ### the number of a row -/
def spRankOf (K : PySem.W.Frag) : Sp := fun vs H Q _ => ∃ (a b : Addr) (row ls : List Int), vs = [.ref a, .ref b] ∧ SqL K H a (row.map V.int) ∧ SqL K H b (ls.map V.int) ∧ ls.Nodup ∧ (∀ x ∈ row, x ∈ ls) ∧ ls.length ≤ 1000 ∧
  ∀ H', Same H H' → Q (.int ((rankD ls.length (row.map fun x => ls.idxOf x) : Nat) : Int)) H'
theorem c_rank_of (Z : Blt mg) (d : Dd K mg "rank_of" s_rank_of P_rank_of) : C8.Cal P w K mg base 1 "rank_of" (spRankOf K) [] := by
  refine d.cal sc_rank_of (fun vs H Q E h => ?_) (fun f cdv A outer s H vs Q E hr h => ?_)
  · obtain ⟨a, b, row, ls, rfl, _⟩ := h
    rfl
  · obtain ⟨a, b, row, ls, rfl, ha, hb, hnd, hin, hlen, q⟩ := h
    have nd := sc_rank_of.nd
    refine ⟨_, (pss_cons (ps_setDc (i := 2) (own := [("at", 5), ("letter", 4)]) (g := gTup K 2 (gCons (gName 5) (gCons (gName 4) gNil))) (tt := tYes) rfl nd rfl rfl (sw_dc rfl rfl rfl (by decide +kernel)) (pi_enum rfl Z.enumerate_ (pa_cons (pv 1) pa_nil)) (blkOk_by (N := N_rank_of) (sc := C8.fnScope s_rank_of) (own := [("at", 5), ("letter", 4)]) (by decide +kernel)) (fun _ _ _ _ _ => (pg_tup rfl (pgs_cons (pg_name (i := 5) nd rfl (Or.inl rfl)) (pgs_cons (pg_name (i := 4) nd rfl (Or.inl rfl)) pgs_nil)))) (fun _ _ _ _ _ => pts_nil) (fun _ _ _ _ _ => (pv 4)) (fun _ _ _ _ _ => (pv 5)))
  (pss_cons (ps_set (i := 3) nd rfl (Or.inl rfl) pe_int)
  (pss_cons (ps_for PassesOwn.never rfl (pi_list (pv 0)) (pg_name (i := 4) nd rfl (Or.inl rfl))
    (pss_one (ps_set (i := 3) nd rfl (Or.inl rfl) (pe_op op_add (pe_op op_add (pe_op op_mul (pv 3) (pe_callB k_len (by rfl) Z.len_ (by decide +kernel) (pa_cons (pv 1) pa_nil))) (pe_dget (hu_of hr) (pv 2) (pv 4) (fun _ _ => rfl))) pe_int))))
  (pss_one (ps_ret (pv 3)))))), ?_⟩
    refine i_start (σ' := [some (.ref a), some (.ref b), none, none, none, none]) rfl ?_
    walk_at "go"
    walk_at "r"
    refine i_dcE (fun i => pk 0 (ls.take i)) rfl (fun i => by rw [pk_len, List.length_take]; exact Nat.min_le_left _ _) hb (by rw [List.length_map]; omega) (fun D i x T H1 hD hi s1 eD eT nTD Nx hN => ?_) (fun p H1 hp s1 e1 => ?_)
    · obtain ⟨n, hn, rfl⟩ := map_get hi
      walk_at "r"
      have e1 : valV (pk 0 (ls.take i)) (Sum.inl n) = none := pk_none _ _ _ (nodup_take hnd hn)
      have il : i < ls.length := (List.getElem?_eq_some_iff.mp hn).1
      refine ⟨_, Sum.inl n, rfl, eD, szl (by rw [pk_len, List.length_take]; omega), hN _ (smut s1 hD) ?_⟩
      rw [upd_same, putK_new _ e1, take_succ' hn, pk_snoc, Nat.zero_add, List.length_take, Nat.min_eq_left (by omega)]
    · rw [List.length_map, List.take_length] at e1
      walk_at "r"
      refine i_for (s1.seq ha) (fun i σ' H' => ∃ y z, σ' = [some (.ref a), some (.ref b), some (.ref p), some (.int ((rankD ls.length ((row.take i).map fun x => ls.idxOf x) : Nat) : Int)), y, z] ∧ Same H1 H') ⟨_, _, rfl, Same.refl _⟩ (fun i σ' H' _ ⟨_, _, _, s2⟩ => s2.seq (s1.seq ha)) (fun i x σ' H2 hi pv => ?_) (fun σ' H2 pv => ?_)
      · obtain ⟨y, z, rfl, s2⟩ := pv
        obtain ⟨n, hn, rfl⟩ := map_get hi
        have hb2 := s2.seq (s1.seq hb)
        have ep := s2 _ _ e1
        walk_at "r"
        have hv := pk_some ls 0 n (hin n (List.mem_of_getElem? hn))
        have hg : DGet H2 p (.int n) (some (V.int ((0 + ls.idxOf n : Nat) : Int))) := by
          rw [← hv]
          exact DGet.k (k := Sum.inl n) ep
        refine ⟨p, _, rfl, hg, ?_⟩
        walk_at "r"
        refine ⟨some (.int n), z, ?_, s2⟩
        rw [take_succ' hn, List.map_append, List.map_singleton, rankD_snoc, Nat.zero_add]
        push_cast
        rfl
      · obtain ⟨y, z, rfl, s2⟩ := pv
        rw [List.length_map, List.take_length]
        walk_at "r"
        exact q _ (s1.trans s2)
/-! ### the row of a number -/
def spRowOf (K : PySem.W.Frag) : Sp := fun vs H Q _ => ∃ (r : Nat) (b : Addr) (ls : List Int), vs = [.int (r : Int), .ref b] ∧ SqL K H b (ls.map V.int) ∧ 0 < ls.length ∧ ls.length ≤ 1000 ∧ (rowD ls.length r).length ≤ 1000 ∧
  ∀ p H', H p = none → Same H H' → H' p = some (.lst ((rowD ls.length r).map fun d => V.int (ls.getD d 0))) → Q (.ref p) H'
theorem c_row_of (Z : Blt mg) (d : Dd K mg "row_of" s_row_of P_row_of) : C8.Cal P w K mg base 1 "row_of" (spRowOf K) [] := by
  refine d.cal sc_row_of (fun vs H Q E h => ?_) (fun f cdv A outer s H vs Q E hr h => ?_)
  · obtain ⟨r, b, ls, rfl, _⟩ := h
    rfl
  · obtain ⟨r, b, ls, rfl, hb, h0, hlen, hrow, q⟩ := h
    have nd := sc_row_of.nd
    refine ⟨_, (pss_cons (ps_set (i := 2) nd rfl (Or.inl rfl) (pe_callB k_len (by rfl) Z.len_ (by decide +kernel) (pa_cons (pv 1) pa_nil)))
  (pss_cons (ps_set (i := 3) nd rfl (Or.inl rfl) (pe_lst pa_nil))
  (pss_cons (ps_set (i := 4) nd rfl (Or.inl rfl) (pv 0))
  (pss_cons (ps_while PassesOwn.never (pt_cmpR op_gt (pv 4) pe_int (nomark _))
    (pss_cons (ps_expr (pe_bm PySem.F.plainAttrs_list PySem.F.slot_list_append PySem.F.type_list_append mt_append (pv 3) (pa_cons (pe_ix ix_list (pv 1) (pe_op op_mod (pe_op op_sub (pv 4) pe_int) (pv 2)) (fun _ _ => rfl)) pa_nil)))
  (pss_one (ps_set (i := 4) nd rfl (Or.inl rfl) (pe_op op_fdiv (pe_op op_sub (pv 4) pe_int) (pv 2))))))
  (pss_one (ps_ret (pe_revL (pv 3)))))))), ?_⟩
    refine i_start (σ' := [some (.int r), some (.ref b), none, none, none]) rfl ?_
    walk_at "go"
    walk_at "r"
    refine i_lst (Nat.zero_le _) (fun p H1 hp s1 e1 => ?_)
    walk_at "r"
    refine i_while (fun m σ' H' => ∃ acc : List Nat, σ' = [some (.int r), some (.ref b), some (.int ls.length), some (.ref p), some (.int (m : Nat))] ∧ Same H H' ∧ H' p = some (.lst (acc.map fun d => V.int (ls.getD d 0))) ∧ rowD ls.length m ++ acc.reverse = rowD ls.length r) r ⟨[], rfl, s1, e1, by simp⟩ (fun m σ' H' pv => ?_)
    obtain ⟨acc, rfl, s2, e2, ea⟩ := pv
    have hb2 := s2.seq hb
    have lacc : acc.length ≤ 1000 := by
      have z := congrArg List.length ea
      rw [List.length_append, List.length_reverse] at z
      omega
    walk_at "r"
    refine i_br (fun h => ?_) (fun h => ?_)
    · have hm : m ≠ 0 := by omega
      have em : (m : Int) - 1 = ((m - 1 : Nat) : Int) := by omega
      walk_at "r"
      refine i_ixL hb2 (v := .int (ls.getD ((m - 1) % ls.length) 0)) ?_ ?_
      · rw [em, ← Int.natCast_emod]
        have hlt : (m - 1) % ls.length < ls.length := Nat.mod_lt _ h0
        refine atI_nat ?_
        rw [List.getElem?_map, List.getElem?_eq_getElem hlt, List.getD_eq_getElem?_getD, List.getElem?_eq_getElem hlt]
        rfl
      · walk_at "r"
        refine ⟨(m - 1) / ls.length, div_lt' hm, acc ++ [(m - 1) % ls.length], ?_, smut s2 hp, ?_, ?_⟩
        · rw [em, ← Int.natCast_ediv]
        · rw [upd_same, List.map_append]
          rfl
        · rw [List.reverse_append, ← ea, rowD_pos hm, List.append_assoc]
          rfl
    · have hm : m = 0 := by omega
      subst hm
      walk_at "r"
      refine i_rev (sl_of e2) (fun p2 H2 hp2 s3 e3 => ?_)
      rw [rowD_zero, List.nil_append] at ea
      rw [← List.map_reverse, ea] at e3
      exact q p2 H2 (s2.free hp2) (s2.trans s3) e3
/-! ### a way without its turned ones -/
def spUnturned (K : PySem.W.Frag) : Sp := fun vs H Q _ => ∃ (v : V) (ts : List (Addr × List Int)) (p : Addr) (k : Str) (xs : List V), vs = [v] ∧ TurnAt K H ts v (.ref p) ∧ SqT K H p (.str k :: xs) ∧ k ≠ "turned" ∧ ts.length ≤ 1000 ∧
  ∀ q l H', H q = none → H l = none → Same H H' → H' q = some (.tup [.ref l, .ref p]) → H' l = some (.lst (ts.map fun t => V.ref t.1)) → Q (.ref q) H'
theorem c_unturned (d : Dd K mg "unturned" s_unturned P_unturned) : C8.Cal P w K mg base 1 "unturned" (spUnturned K) [] := by
  refine d.cal sc_unturned (fun vs H Q E h => ?_) (fun f cdv A outer s H vs Q E hr h => ?_)
  · obtain ⟨v, ts, p, k, xs, rfl, _⟩ := h
    rfl
  · obtain ⟨v, ts, pi, k, xs, rfl, ht, hk, hne, hlen, q⟩ := h
    have nd := sc_unturned.nd
    refine ⟨_, (pss_cons (ps_set (i := 1) nd rfl (Or.inl rfl) (pe_lst pa_nil))
  (pss_cons (ps_set (i := 2) nd rfl (Or.inl rfl) (pv 0))
  (pss_cons (ps_while PassesOwn.never (pt_cmpR op_eq (pe_ix ix_tup (pv 2) pe_int (fun _ _ => rfl)) pe_str (nomark _))
    (pss_cons (ps_expr (pe_bm PySem.F.plainAttrs_list PySem.F.slot_list_append PySem.F.type_list_append mt_append (pv 1) (pa_cons (pe_ix ix_tup (pv 2) pe_int (fun _ _ => rfl)) pa_nil)))
  (pss_one (ps_set (i := 2) nd rfl (Or.inl rfl) (pe_ix ix_tup (pv 2) pe_int (fun _ _ => rfl))))))
  (pss_one (ps_ret (pe_tup (pa_cons (pv 1) (pa_cons (pv 2) pa_nil)))))))), ?_⟩
    refine i_start (σ' := [some v, none, none]) rfl ?_
    walk_at "go"
    walk_at "r"
    refine i_lst (Nat.zero_le _) (fun p H1 hp s1 e1 => ?_)
    walk_at "r"
    refine i_while (fun m σ' H' => ∃ ds r x, ts = ds ++ r ∧ m = r.length ∧ σ' = [some v, some (.ref p), some x] ∧ Same H H' ∧ H' p = some (.lst (ds.map fun t => V.ref t.1)) ∧ TurnAt K H r x (.ref pi)) ts.length ⟨[], ts, v, rfl, rfl, rfl, s1, e1, ht⟩ (fun m σ' H' pv => ?_)
    obtain ⟨ds, r, x, rfl, rfl, rfl, s2, e2, hr2⟩ := pv
    cases r with
    | nil =>
      cases hr2
      have hk2 := stup s2 hk
      walk_at "r"
      refine i_no hne ?_
      walk_at "r"
      refine i_tup (by show 2 ≤ sizeLine; decide) (fun p2 H2 hp2 s3 e3 => ?_)
      rw [List.append_nil] at q
      exact q p2 p H2 (s2.free hp2) hp (s2.trans s3) e3 (s3 _ _ e2)
    | cons t r =>
      obtain ⟨a, t⟩ := t
      obtain ⟨p2, y, rfl, h1, h2, h3⟩ := hr2
      have h1' := stup s2 h1
      rw [List.length_append, List.length_cons] at hlen
      walk_at "r"
      refine i_yes rfl ?_
      walk_at "r"
      refine ⟨r.length, by show r.length < r.length + 1; omega, ds ++ [(a, t)], r, y, by rw [List.append_assoc]; rfl, rfl, rfl, smut s2 hp, ?_, h3⟩
      rw [upd_same, List.map_append]
      rfl
end
end Esc

namespace Esc
open PySem PySem.Spec PyProof.Rows L2
/-- a row of draws -/
def DiceAt (H : Hp) (d : Addr) : Prop := ∃ (x c : Int) (r : List Int), H d = some (.lst (V.int x :: V.int c :: r.map V.int)) ∧ 0 ≤ x ∧ 0 ≤ c ∧ (∀ y ∈ r, 0 ≤ y) ∧ r.length ≤ 63
theorem DiceAt.mk {H : Hp} {d : Addr} {x c : Int} {r : List Int} (h : H d = some (.lst (V.int x :: V.int c :: r.map V.int))) (hx : 0 ≤ x) (hc : 0 ≤ c) (hr : ∀ y ∈ r, 0 ≤ y) (hl : r.length ≤ 63) : DiceAt H d := ⟨x, c, r, h, hx, hc, hr, hl⟩
def spOff : Sp := fun vs H Q _ => ∃ (d : Addr) (m : Int), vs = [.ref d, .int m] ∧ 1 ≤ m ∧ m < 1073741824 ∧ DiceAt H d ∧ ∀ (H' : Hp) (n : Int), Same (hide d H) H' → DiceAt H' d → 0 ≤ n → n < m → Q (.int n) H'
section
variable {P : Program} {w : World} {K : PySem.W.Frag} {mg : Str → Option Value} {base : Heap}
theorem c_off (Z : Blt mg) (d : Dd K mg "_law_off" s__law_off P__law_off) : C8.Cal P w K mg base 1 "_law_off" spOff [] := by
  refine d.cal sc__law_off (fun vs H Q E h => ?_) (fun f cdv A outer s H vs Q E hr h => ?_)
  · obtain ⟨d, m, rfl, _⟩ := h
    rfl
  · obtain ⟨d, m, rfl, hm1, hm2, ⟨x, c, r, hd, hx, hc, hr0, hl⟩, q⟩ := h
    have nd := sc__law_off.nd
    refine ⟨_, (C8.pss_cut (ps_if (PW.pt (pw_and (pt_cmpR op_eq (pe_ix ix_list (pv 0) pe_int (fun _ _ => rfl)) pe_int (nomark _)) (pw_and1 (pt_cmpR op_gt (pe_callB k_len (by rfl) Z.len_ (by decide +kernel) (pa_cons (pv 0) pa_nil)) pe_int (nomark _))))) (pss_one (ps_asg (pe_bm PySem.F.plainAttrs_list PySem.F.slot_list_pop PySem.F.type_list_pop mt_popAt (pv 0) (pa_cons pe_int pa_nil)) (pg_sub (pv 0) pe_int set_list))) pss_nil)
  (pss_cons (ps_if (pt_cmpR op_gt (pe_ix ix_list (pv 0) pe_int (fun _ _ => rfl)) pe_int (nomark _)) (pss_cons (ps_set (i := 2) nd rfl (Or.inl rfl) (pe_op op_mod (pe_ix ix_list (pv 0) pe_int (fun _ _ => rfl)) (pv 1)))
  (pss_cons (ps_asg (pe_op op_fdiv (pe_ix ix_list (pv 0) pe_int (fun _ _ => rfl)) (pv 1)) (pg_sub (pv 0) pe_int set_list))
  (pss_one (ps_ret (pv 2))))) pss_nil)
  (pss_cons (ps_asg (pe_op op_mod (pe_op op_add (pe_op op_mul (pe_ix ix_list (pv 0) pe_int (fun _ _ => rfl)) pe_int) pe_int) pe_int) (pg_sub (pv 0) pe_int set_list))
  (pss_one (ps_ret (pe_op op_mod (pe_op op_fdiv (pe_ix ix_list (pv 0) pe_int (fun _ _ => rfl)) pe_int) (pv 1))))))), ?_⟩
    refine i_start (σ' := [some (.ref d), some (.int m), none]) rfl ?_
    walk_at "go"
    refine i_cut (fun σ' H' => σ' = [some (.ref d), some (.int m), none] ∧ Same (hide d H) H' ∧ DiceAt H' d) ?_ ?_
    · walk_at "r"
      have no : ∀ p : Prop, Same (hide d H) H ∧ DiceAt H d := fun _ => ⟨hide_same, .mk hd hx hc hr0 hl⟩
      refine i_br (fun hc0 => ?_) (fun _ => ?_)
      · walk_at "r"
        refine i_br (fun hlen => ?_) (fun _ => ?_)
        · walk_at "r"
          match r, hr0, hl, hd, hlen with
          | [], hr0, hl, hd, hlen => simp at hlen
          | y :: r, hr0, hl, hd, hlen =>
            refine i_popAt (j := 2) hd rfl rfl (by simp at hl ⊢; omega) ?_
            walk_at "r"
            refine i_setL (j := 1) upd_same (ixN_of rfl (by simp)) ?_
            rw [upd_upd]
            exact ⟨rfl, hide_mut, .mk (c := y) (r := r) upd_same hx (hr0 y List.mem_cons_self) (fun z hz => hr0 z (List.mem_cons_of_mem _ hz)) (by simp at hl; omega)⟩
        · walk_at "r"
          exact ⟨rfl, no True⟩
      · walk_at "r"
        exact ⟨rfl, no True⟩
    · rintro σ1 H1 ⟨rfl, s1, x, c, r, hd, hx, hc, hr0, hl⟩
      have s2 : ∀ {o : HO}, Same (hide d H) (upd H1 d o) := smut s1 hide_d
      walk_at "r"
      refine i_br (fun hc0 => ?_) (fun _ => ?_)
      · walk_at "r"
        refine i_setL (j := 1) hd (ixN_of rfl (by simp)) ?_
        walk_at "r"
        exact q _ _ s2 (.mk (c := c / m) (r := r) upd_same hx (Int.ediv_nonneg hc (by omega)) hr0 hl) (Int.emod_nonneg _ (by omega)) (Int.emod_lt_of_pos _ (by omega))
      · walk_at "r"
        refine i_setL (j := 0) hd (ixN_of rfl (by simp)) ?_
        walk_at "r"
        exact q _ _ s2 (.mk (c := c) (r := r) upd_same (Int.emod_nonneg _ (by decide)) hc hr0 hl) (Int.emod_nonneg _ (by omega)) (Int.emod_lt_of_pos _ (by omega))
/-! ### draws -/
def spDice (K : PySem.W.Frag) : Sp := fun vs H Q _ => ∃ (a : Addr) (ns : List Int) (k : Int), vs = [.ref a, .int k] ∧ SqL K H a (ns.map V.int) ∧ 0 ≤ k ∧ k < 1000000 ∧ ns.length ≤ 63 ∧ ∀ p H', H p = none → Same H H' → DiceAt H' p → Q (.ref p) H'
theorem c_dice (Z : Blt mg) (d : Dd K mg "_law_dice" s__law_dice P__law_dice) : C8.Cal P w K mg base 1 "_law_dice" (spDice K) [] := by
  refine d.cal sc__law_dice (fun vs H Q E h => ?_) (fun f cdv A outer s H vs Q E hr h => ?_)
  · obtain ⟨a, ns, k, rfl, _⟩ := h
    rfl
  · obtain ⟨a, ns, k, rfl, ha, hk0, hk1, hlen, q⟩ := h
    have nd := sc__law_dice.nd
    refine ⟨_, (pss_cons (ps_set (i := 2) nd rfl (Or.inl rfl) (pv 1))
  (pss_cons (ps_for PassesOwn.never rfl (pi_list (pv 0)) (pg_name (i := 3) nd rfl (Or.inl rfl))
    (pss_one (ps_set (i := 2) nd rfl (Or.inl rfl) (pe_op op_mod (pe_op op_add (pe_op op_mul (pv 2) pe_int) (pe_callB k_abs (by rfl) Z.abs_ (by decide +kernel) (pa_cons (pv 3) pa_nil))) pe_int))))
  (pss_one (ps_ret (pe_op op_cat (pe_lst (pa_cons (pv 2) (pa_cons pe_int pa_nil))) (pe_lc (own := [("_law_cell", 3)]) (g := gName 3) rfl nd (pi_list (pv 0)) (blkOk_by (N := N__law_dice) (sc := C8.fnScope s__law_dice) (own := [("_law_cell", 3)]) (by decide +kernel)) (fun _ _ _ _ _ => (pg_name (i := 3) nd rfl (Or.inl rfl))) (fun _ _ _ _ _ => pts_one (pt_cmpR op_ge (pv 3) (pe_op op_pow pe_int pe_int) (nomark _))) (fun _ _ _ _ _ => (pv 3)))))))), ?_⟩
    refine i_start (σ' := [some (.ref a), some (.int k), none, none]) rfl ?_
    walk_at "go"
    walk_at "r"
    refine i_for ha (fun i σ' H' => ∃ x y, σ' = [some (.ref a), some (.int k), some (.int x), y] ∧ Same H H' ∧ 0 ≤ x ∧ x < 2147483647) ⟨k, none, rfl, Same.refl _, hk0, by omega⟩ (fun i σ' H' _ ⟨_, _, _, s1, _⟩ => s1.seq ha) (fun i x σ' H' hi pv => ?_) (fun σ' H' pv => ?_)
    · obtain ⟨x, y, rfl, s1, hx0, hx1⟩ := pv
      obtain ⟨n, hn, rfl⟩ := map_get hi
      walk_at "r"
      exact ⟨_, _, rfl, s1, Int.emod_nonneg _ (by decide), Int.emod_lt_of_pos _ (by decide)⟩
    · obtain ⟨x, y, rfl, s1, hx0, hx1⟩ := pv
      have ha' := s1.seq ha
      walk_at "r"
      refine i_lst (by show 2 ≤ sizeLine; decide) (fun p1 H1 hp1 s2 e1 => ?_)
      walk_at "r"
      refine i_lcL (F := fun v => match v with | .int n => if 10 ^ 18 ≤ n then some (.int n) else none | _ => none) (s2.seq ha') (by rw [List.length_map]; omega) (fun v hv H2 s3 QN QY hN hY => ?_) (fun p2 H2 hp2 s3 e2 => ?_)
      · obtain ⟨n, hn, rfl⟩ := List.mem_map.mp hv
        walk_at "r"
        refine i_br (fun h => ?_) (fun h => ?_)
        · walk_at "r"
          exact hY _ (if_pos (show (10 : Int) ^ 18 ≤ n from h)) _ (Same.refl _)
        · walk_at "r"
          exact hN (if_neg (show ¬ (10 : Int) ^ 18 ≤ n from h)) _ (Same.refl _)
      · have e3 : ∀ l : List Int, (l.map V.int).filterMap (fun v => match v with | .int n => if 10 ^ 18 ≤ n then some (V.int n) else none | _ => none) = (l.filter fun n => decide ((10 : Int) ^ 18 ≤ n)).map V.int := fun l => by
          induction l with
          | nil => rfl
          | cons n r ih =>
            rw [List.map_cons, List.filterMap_cons, List.filter_cons, ih]
            by_cases h : (10 : Int) ^ 18 ≤ n
            · rw [decide_eq_true h, if_pos rfl]
              dsimp only
              rw [if_pos h]
              rfl
            · rw [decide_eq_false h, if_neg Bool.false_ne_true]
              dsimp only
              rw [if_neg h]
        rw [e3] at e2
        have lf : (ns.filter fun n => decide ((10 : Int) ^ 18 ≤ n)).length ≤ ns.length := List.length_filter_le _ _
        walk_at "r"
        have e1' := s3 _ _ e1
        refine i_cat e1' e2 (sz (by rw [List.length_map, List.length_cons, List.length_cons, List.length_nil]; omega)) (fun p3 H3 hp3 s4 e4 => ?_)
        refine q p3 H3 (s1.free (s2.free (s3.free hp3))) (s1.trans (s2.trans (s3.trans s4))) (.mk (x := x) (c := 0) (r := ns.filter fun n => decide ((10 : Int) ^ 18 ≤ n)) e4 hx0 (Int.le_refl _) ?_ (by omega))
        intro y hy
        have z := of_decide_eq_true (List.mem_filter.mp hy).2
        exact Int.le_trans (by decide) z
/-! ### plain signs, by the law's own -/
theorem c_law_plain (Z : Blt mg) (d : Dd K mg "_law_plain" s__law_plain P__law_plain) : C8.Cal P w K mg base 1 "_law_plain" spPlain [] := by
  refine d.cal sc__law_plain (fun vs H Q E h => ?_) (fun f cdv A outer s H vs Q E hr h => ?_)
  · obtain ⟨t, e, rfl, _⟩ := h
    rfl
  · obtain ⟨t, e, rfl, h1, h2, q⟩ := h
    have nd := sc__law_plain.nd
    refine ⟨_, (pss_one (ps_ret (pe_lc (own := [("_law_sign", 2)]) (g := gName 2) rfl nd (pi_range1 rfl Z.range_ (pa_cons (pv 0) pa_nil)) (blkOk_by (N := N__law_plain) (sc := C8.fnScope s__law_plain) (own := [("_law_sign", 2)]) (by decide +kernel)) (fun _ _ _ _ _ => (pg_name (i := 2) nd rfl (Or.inl rfl))) (fun _ _ _ _ _ => pts_one (pt_cmpR op_ne (pv 2) (pv 1) (nomark _))) (fun _ _ _ _ _ => (pv 2))))), ?_⟩
    refine i_start (σ' := [some (.int t), some (.int e), none]) rfl ?_
    walk_at "go"
    walk_at "r"
    refine i_lcR (F := fun (i : Nat) => if (i : Int) = e then none else some (V.int (i : Int))) ⟨h1, by omega⟩ (fun i hi H1 s1 QN QY hN hY => ?_) (by rw [plainL_map]; exact q)
    walk_at "r"
    refine i_nbr (fun h => ?_) (fun h => ?_)
    · walk_at "r"
      exact hN (if_pos h) _ (Same.refl _)
    · walk_at "r"
      exact hY _ (if_neg h) _ (Same.refl _)
/-! ### a top -/
def spSize : Sp := fun vs H Q _ => ∃ d : Addr, vs = [.ref d] ∧ DiceAt H d ∧ ∀ (H' : Hp) (n : Int), Same (hide d H) H' → DiceAt H' d → 3 ≤ n → n ≤ 16 → Q (.int n) H'
theorem c_law_size (c__law_off : C8.Cal P w K mg base 1 "_law_off" spOff []) (d : Dd K mg "_law_size" s__law_size P__law_size) : C8.Cal P w K mg base 2 "_law_size" spSize [] := by
  refine d.cal sc__law_size (fun vs H Q E h => ?_) (fun f cdv A outer s H vs Q E hr h => ?_)
  · obtain ⟨a, rfl, _⟩ := h
    rfl
  · obtain ⟨a, rfl, ⟨x, c, r, hd, hx, hc, hr0, hl⟩, q⟩ := h
    have nd := sc__law_size.nd
    refine ⟨_, (pss_one (ps_ret (pe_ix ix_list (pe_lst (pa_cons pe_int (pa_cons pe_int (pa_cons pe_int (pa_cons pe_int (pa_cons pe_int (pa_cons (pe_op op_add pe_int (pe_op op_mod (pe_op op_fdiv (pe_ix ix_list (pv 0) pe_int (fun _ _ => rfl)) pe_int) pe_int)) (pa_cons pe_int (pa_cons pe_int pa_nil))))))))) (C8.pe_c c__law_off hr (by decide) (by rfl) (pa_cons (pv 0) (pa_cons pe_int pa_nil))) (fun _ _ => rfl)))), ?_⟩
    refine i_start (σ' := [some (.ref a)]) rfl ?_
    walk_at "go"
    walk_at "r"
    have ho := Int.emod_nonneg (x / 7) (show (14 : Int) ≠ 0 by decide)
    have ho2 := Int.emod_lt_of_pos (x / 7) (show (0 : Int) < 14 by decide)
    refine i_lst (by show 8 ≤ sizeLine; decide) (fun p H1 hp s1 e1 => ?_)
    walk_at "r"
    refine ⟨a, 8, rfl, by decide, by decide, .mk (s1 _ _ hd) hx hc hr0 hl, fun H2 n s2 d2 hn0 hn8 => ?_⟩
    have npa : p ≠ a := (ne_of_none hd hp).symm
    have e2 := s2 _ _ ((hide_ne npa).trans e1)
    have s3 : Same (hide a H) H2 := fun b o e => s2 _ _ (by
      have nb : b ≠ a := fun z => by rw [z, hide_d] at e; cases e
      rw [hide_ne nb] at e ⊢
      exact s1 _ _ e)
    walk_at "r"
    have hn : n = 0 ∨ n = 1 ∨ n = 2 ∨ n = 3 ∨ n = 4 ∨ n = 5 ∨ n = 6 ∨ n = 7 := by omega
    rcases hn with rfl | rfl | rfl | rfl | rfl | rfl | rfl | rfl
    · exact i_ixL (sl_of e2) (atI_nat (j := 0) rfl) (q _ _ s3 d2 (by decide) (by decide))
    · exact i_ixL (sl_of e2) (atI_nat (j := 1) rfl) (q _ _ s3 d2 (by decide) (by decide))
    · exact i_ixL (sl_of e2) (atI_nat (j := 2) rfl) (q _ _ s3 d2 (by decide) (by decide))
    · exact i_ixL (sl_of e2) (atI_nat (j := 3) rfl) (q _ _ s3 d2 (by decide) (by decide))
    · exact i_ixL (sl_of e2) (atI_nat (j := 4) rfl) (q _ _ s3 d2 (by decide) (by decide))
    · exact i_ixL (sl_of e2) (atI_nat (j := 5) rfl) (q _ _ s3 d2 (by omega) (by omega))
    · exact i_ixL (sl_of e2) (atI_nat (j := 6) rfl) (q _ _ s3 d2 (by decide) (by decide))
    · exact i_ixL (sl_of e2) (atI_nat (j := 7) rfl) (q _ _ s3 d2 (by decide) (by decide))
/-! ### a body -/
def spBody : Sp := fun vs H Q _ => ∃ (d : Addr) (t e m : Int), vs = [.ref d, .int t, .int e, .int m] ∧ DiceAt H d ∧ 1 ≤ t ∧ t ≤ 16 ∧ 0 ≤ e ∧ e < t ∧ 0 ≤ m ∧ m ≤ 1000 ∧
  ∀ (p : Addr) (H' : Hp) (ns : List Int), H p = none → Same (hide d H) H' → DiceAt H' d → H' p = some (.lst (ns.map V.int)) → (∀ n ∈ ns, 0 ≤ n ∧ n < t) → (ns.length : Int) ≤ m → Q (.ref p) H'
theorem c_law_body (Z : Blt mg) (c__law_off : C8.Cal P w K mg base 1 "_law_off" spOff []) (d : Dd K mg "_law_body" s__law_body P__law_body) : C8.Cal P w K mg base 2 "_law_body" spBody [] := by
  refine d.cal sc__law_body (fun vs H Q E h => ?_) (fun f cdv A outer s H vs Q E hr h => ?_)
  · obtain ⟨a, t, e, m, rfl, _⟩ := h
    rfl
  · obtain ⟨a, t, e, m, rfl, hd, ht1, ht2, he0, het, hm0, hm1, q⟩ := h
    have nd := sc__law_body.nd
    refine ⟨_, (pss_cons (ps_set (i := 4) nd rfl (Or.inl rfl) (C8.pe_c c__law_off hr (by decide) (by rfl) (pa_cons (pv 0) (pa_cons (pe_op op_add (pv 3) pe_int) pa_nil))))
  (pss_cons (ps_set (i := 5) nd rfl (Or.inl rfl) (C8.pe_c c__law_off hr (by decide) (by rfl) (pa_cons (pv 0) (pa_cons pe_int pa_nil))))
  (pss_cons (ps_set (i := 6) nd rfl (Or.inl rfl) (C8.pe_c c__law_off hr (by decide) (by rfl) (pa_cons (pv 0) (pa_cons (pv 1) pa_nil))))
  (pss_cons (ps_set (i := 7) nd rfl (Or.inl rfl) (pe_lst pa_nil))
  (pss_cons (ps_for PassesOwn.never rfl (pi_range1 rfl Z.range_ (pa_cons (pv 4) pa_nil)) (pg_name (i := 8) nd rfl (Or.inl rfl))
    (pss_one (ps_if (PW.pt (pw_or (pt_cmpR op_eq (pv 5) pe_int (nomark _)) (pw_or1 (pt_cmpR op_eq (C8.pe_c c__law_off hr (by decide) (by rfl) (pa_cons (pv 0) (pa_cons pe_int pa_nil))) pe_int (nomark _))))) (pss_one (ps_expr (pe_bm PySem.F.plainAttrs_list PySem.F.slot_list_append PySem.F.type_list_append mt_append (pv 7) (pa_cons (C8.pe_c c__law_off hr (by decide) (by rfl) (pa_cons (pv 0) (pa_cons (pv 1) pa_nil))) pa_nil)))) (pss_one (ps_expr (pe_bm PySem.F.plainAttrs_list PySem.F.slot_list_append PySem.F.type_list_append mt_append (pv 7) (pa_cons (pe_ix ix_list (pe_lst (pa_cons (pv 6) (pa_cons (pv 2) (pa_cons (pv 6) pa_nil)))) (pe_op op_sub (pv 5) pe_int) (fun _ _ => rfl)) pa_nil)))))))
  (pss_one (ps_ret (pv 7)))))))), ?_⟩
    refine i_start (σ' := [some (.ref a), some (.int t), some (.int e), some (.int m), none, none, none, none, none]) rfl ?_
    walk_at "go"
    walk_at "r"
    refine ⟨a, m + 1, rfl, by omega, by omega, hd, fun H1 size s1 d1 hs0 hs1 => ?_⟩
    walk_at "r"
    refine ⟨a, 4, rfl, by omega, by omega, d1, fun H2 kind s2 d2 hk0 hk1 => ?_⟩
    walk_at "r"
    refine ⟨a, t, rfl, by omega, by omega, d2, fun H3 one s3 d3 ho0 ho1 => ?_⟩
    walk_at "r"
    refine i_lst (Nat.zero_le _) (fun p H4 hp s4 e4 => ?_)
    obtain ⟨x3, c3, r3, dd3, dr3⟩ := d3
    have npa : p ≠ a := (ne_of_none dd3 hp).symm
    have h13 : Same (hide a H) H3 := hide_tr (hide_tr s1 s2) s3
    have hpa : hide a H p = none := h13.free hp
    rw [hide_ne npa] at hpa
    walk_at "r"
    refine i_rng ⟨hs0, by omega⟩ (fun i σ' H' => ∃ (y : Option V) (ns : List Int), σ' = [some (.ref a), some (.int t), some (.int e), some (.int m), some (.int size), some (.int kind), some (.int one), some (.ref p), y] ∧ Same (hide a H) H' ∧ DiceAt H' a ∧ H' p = some (.lst (ns.map V.int)) ∧ (∀ n ∈ ns, 0 ≤ n ∧ n < t) ∧ ns.length = i)
      ⟨none, [], rfl, fun b o z => s4 _ _ (h13 _ _ z), ⟨x3, c3, r3, s4 _ _ dd3, dr3⟩, e4, by simp, rfl⟩ (fun i σ' H' hi pv => ?_) (fun σ' H' pv => ?_)
    · obtain ⟨y, ns, rfl, sH, dH, eH, hns, hl⟩ := pv
      have app : ∀ (n : Int) (H5 : Hp), 0 ≤ n → n < t → Same (hide a H) H5 → DiceAt H5 a → H5 p = some (.lst (ns.map V.int)) → ∃ (y' : Option V) (ns' : List Int), [some (V.ref a), some (.int t), some (.int e), some (.int m), some (.int size), some (.int kind), some (.int one), some (.ref p), some (.int (i : Int))] = [some (.ref a), some (.int t), some (.int e), some (.int m), some (.int size), some (.int kind), some (.int one), some (.ref p), y'] ∧ Same (hide a H) (upd H5 p (.lst (ns.map V.int ++ [.int n]))) ∧ DiceAt (upd H5 p (.lst (ns.map V.int ++ [.int n]))) a ∧ (upd H5 p (.lst (ns.map V.int ++ [.int n]))) p = some (.lst (ns'.map V.int)) ∧ (∀ n ∈ ns', 0 ≤ n ∧ n < t) ∧ ns'.length = i + 1 := by
        intro n H5 h1 h2 h3 h4 h5
        obtain ⟨x5, c5, r5, dd5, dr5⟩ := h4
        refine ⟨some (.int (i : Int)), ns ++ [n], rfl, smut h3 (by rw [hide_ne npa]; exact hpa), ⟨x5, c5, r5, by rw [upd_ne npa.symm]; exact dd5, dr5⟩, by rw [upd_same, List.map_append]; rfl, fun k hk => ?_, by rw [List.length_append, hl]; rfl⟩
        rcases List.mem_append.mp hk with hk | hk
        · exact hns k hk
        · rw [List.mem_singleton.mp hk]
          exact ⟨h1, h2⟩
      have lns : ns.length < 100000 := by omega
      have szp : (ns.map V.int).length < sizeLine := szl (by rw [List.length_map]; exact lns)
      walk_at "r"
      refine i_br (fun hk => ?_) (fun hk => ?_)
      · walk_at "r"
        refine ⟨a, t, rfl, by omega, by omega, dH, fun H5 n s5 d5 h1 h2 => ?_⟩
        have e5 := s5 _ _ ((hide_ne npa).trans eH)
        walk_at "r"
        exact app n H5 h1 h2 (hide_tr sH s5) d5 e5
      · walk_at "r"
        refine ⟨a, 6, rfl, by decide, by decide, dH, fun H5 n6 s5 d5 h1 h2 => ?_⟩
        have e5 := s5 _ _ ((hide_ne npa).trans eH)
        have s05 := hide_tr sH s5
        walk_at "r"
        refine i_br (fun _ => ?_) (fun _ => ?_)
        · walk_at "r"
          refine ⟨a, t, rfl, by omega, by omega, d5, fun H6 n s6 d6 h1 h2 => ?_⟩
          have e6 := s6 _ _ ((hide_ne npa).trans e5)
          walk_at "r"
          exact app n H6 h1 h2 (hide_tr s05 s6) d6 e6
        · walk_at "r"
          refine i_lst (by show 3 ≤ sizeLine; decide) (fun p6 H6 hp6 s6 e6 => ?_)
          have e7 := s6 _ _ e5
          obtain ⟨x5, c5, r5, dd5, dr5⟩ := d5
          have d6 : DiceAt H6 a := ⟨x5, c5, r5, s6 _ _ dd5, dr5⟩
          have s06 : Same (hide a H) H6 := s05.trans s6
          walk_at "r"
          have hn : kind = 1 ∨ kind = 2 ∨ kind = 3 := by omega
          rcases hn with rfl | rfl | rfl
          · refine i_ixL (sl_of e6) (atI_nat (j := 0) rfl) ?_
            walk_at "r"
            exact app one H6 ho0 ho1 s06 d6 e7
          · refine i_ixL (sl_of e6) (atI_nat (j := 1) rfl) ?_
            walk_at "r"
            exact app e H6 he0 het s06 d6 e7
          · refine i_ixL (sl_of e6) (atI_nat (j := 2) rfl) ?_
            walk_at "r"
            exact app one H6 ho0 ho1 s06 d6 e7
    · obtain ⟨y, ns, rfl, sH, dH, eH, hns, hl⟩ := pv
      walk_at "r"
      exact q p H' ns hpa sH dH eH hns (by omega)
end
end Esc

namespace Esc
open PySem PySem.Spec PyProof.Rows L2
section
variable {P : Program} {w : World} {K : PySem.W.Frag} {mg : Str → Option Value} {base : Heap}
theorem DiceAt.same {H H' : Hp} {d : Addr} (s : Same H H') (h : DiceAt H d) : DiceAt H' d := by
  obtain ⟨x, c, r, a, b⟩ := h
  exact ⟨x, c, r, s _ _ a, b⟩
theorem DiceAt.there {H : Hp} {d : Addr} (h : DiceAt H d) : ∃ o, H d = some o := by
  obtain ⟨x, c, r, a, b⟩ := h
  exact ⟨_, a⟩
theorem DiceAt.ne {H : Hp} {d p : Addr} (h : DiceAt H d) (n : H p = none) : p ≠ d := by
  obtain ⟨o, e⟩ := h.there
  exact (ne_of_none e n).symm
theorem DiceAt.put {H : Hp} {d p : Addr} {o : HO} (h : DiceAt H d) (n : p ≠ d) : DiceAt (upd H p o) d := by
  obtain ⟨x, c, r, a, b⟩ := h
  exact ⟨x, c, r, by rw [upd_ne n.symm]; exact a, b⟩
theorem hide_pure {d : Addr} {H H1 : Hp} (s : Same H H1) : Same (hide d H) H1 := fun b o e => s b o (hide_same b o e)
theorem hide_free {d p : Addr} {H H1 : Hp} (s : Same (hide d H) H1) (n : p ≠ d) (h : H1 p = none) : H p = none := by
  have z := s.free h
  rw [hide_ne n] at z
  exact z
/-! ### a list in a drawn order -/
def spMixed (K : PySem.W.Frag) : Sp := fun vs H Q _ => ∃ (d a : Addr) (xs : List V), vs = [.ref d, .ref a] ∧ DiceAt H d ∧ SqL K H a xs ∧ (∀ v ∈ xs, Fl K (hide d H) v) ∧ xs.length ≤ 1000 ∧
  ∀ (p : Addr) (H' : Hp) (ys : List V), H p = none → Same (hide d H) H' → DiceAt H' d → H' p = some (.lst ys) → ys.Perm xs → Q (.ref p) H'
theorem c_mixed (Z : Blt mg) (c__law_off : C8.Cal P w K mg base 1 "_law_off" spOff []) (d : Dd K mg "_law_mixed" s__law_mixed P__law_mixed) : C8.Cal P w K mg base 2 "_law_mixed" (spMixed K) [] := by
  refine d.cal sc__law_mixed (fun vs H Q E h => ?_) (fun f cdv A outer s H vs Q E hr h => ?_)
  · obtain ⟨d, a, xs, rfl, _⟩ := h
    rfl
  · obtain ⟨d, a, xs, rfl, hd, ha, hf, hl, q⟩ := h
    have nd := sc__law_mixed.nd
    refine ⟨_, (pss_cons (ps_set (i := 2) nd rfl (Or.inl rfl) (pe_callTy k_listOf (by rfl) Z.list_ (by decide +kernel) (pa_cons (pv 1) pa_nil)))
  (pss_cons (ps_set (i := 3) nd rfl (Or.inl rfl) (pe_lst pa_nil))
  (pss_cons (ps_while PassesOwn.never (pt_cmpR (op_neD hr.units) (pv 2) (pe_lst pa_nil) (nomark _))
    (pss_one (ps_expr (pe_bm PySem.F.plainAttrs_list PySem.F.slot_list_append PySem.F.type_list_append mt_append (pv 3) (pa_cons (pe_bm PySem.F.plainAttrs_list PySem.F.slot_list_pop PySem.F.type_list_pop mt_popAt (pv 2) (pa_cons (C8.pe_c c__law_off hr (by decide) (by rfl) (pa_cons (pv 0) (pa_cons (pe_callB k_len (by rfl) Z.len_ (by decide +kernel) (pa_cons (pv 2) pa_nil)) pa_nil))) pa_nil)) pa_nil)))))
  (pss_one (ps_ret (pv 3)))))), ?_⟩
    refine i_start (σ' := [some (.ref d), some (.ref a), none, none]) rfl ?_
    walk_at "go"
    walk_at "r"
    refine i_listOf ha (fun l H1 hl1 s1 e1 => ?_)
    walk_at "r"
    refine i_lst (Nat.zero_le _) (fun fd H2 hfd s2 e2 => ?_)
    have nld : l ≠ d := hd.ne hl1
    have nfd : fd ≠ d := (hd.same s1).ne hfd
    have nfl : fd ≠ l := (ne_of_none e1 hfd).symm
    have hl0 : hide d H l = none := by rw [hide_ne nld]; exact hl1
    have hf0 : hide d H fd = none := by rw [hide_ne nfd]; exact s1.free hfd
    walk_at "r"
    refine i_while (fun m σ' H' => ∃ left found : List V, m = left.length ∧ σ' = [some (.ref d), some (.ref a), some (.ref l), some (.ref fd)] ∧ Same (hide d H) H' ∧ DiceAt H' d ∧ H' l = some (.lst left) ∧ H' fd = some (.lst found) ∧ (left ++ found).Perm xs) xs.length
      ⟨xs, [], rfl, rfl, hide_pure (s1.trans s2), (hd.same s1).same s2, s2 _ _ e1, e2, by rw [List.append_nil]⟩ (fun m σ' H' pv => ?_)
    obtain ⟨left, found, rfl, rfl, s3, d3, el, ef, hp⟩ := pv
    have hll : left.length + found.length = xs.length := by
      have z := hp.length_eq
      rw [List.length_append] at z
      exact z
    walk_at "r"
    refine i_lst (Nat.zero_le _) (fun nl H4 hnl s4 e4 => ?_)
    have d4 := d3.same s4
    have el4 := s4 _ _ el
    have ef4 := s4 _ _ ef
    have s34 : Same (hide d H) H4 := s3.trans s4
    walk_at "r"
    refine i_neNil (sl_of el4) (fun v hv => (hf v (hp.subset (List.mem_append_left _ hv))).same s34) (sl_of e4) ?_
    walk_at "r"
    refine i_nbr (fun h => ?_) (fun h => ?_)
    · subst h
      walk_at "r"
      rw [List.nil_append] at hp
      exact q fd H4 found (s1.free hfd) s34 d4 ef4 hp
    · have lpos : 0 < left.length := List.length_pos_iff.mpr h
      walk_at "r"
      refine ⟨d, (left.length : Nat), rfl, by omega, by omega, d4, fun H5 k s5 d5 hk0 hk1 => ?_⟩
      have el5 := s5 _ _ ((hide_ne nld).trans el4)
      have ef5 := s5 _ _ ((hide_ne nfd).trans ef4)
      have hkl : k.toNat < left.length := by omega
      walk_at "r"
      refine i_popAt (j := k.toNat) el5 (by omega) (List.getElem?_eq_getElem hkl) (by omega) ?_
      have zf : found.length < sizeLine := szl (by omega)
      have ef6 : (upd H5 l (HO.lst (left.eraseIdx k.toNat))) fd = some (.lst found) := by
        rw [upd_ne nfl]
        exact ef5
      walk_at "r"
      refine ⟨(left.eraseIdx k.toNat).length, by rw [List.length_eraseIdx_of_lt hkl]; omega, left.eraseIdx k.toNat, found ++ [left[k.toNat]], rfl, rfl, ?_, ?_, ?_, upd_same, ?_⟩
      · exact smut (smut (hide_tr s34 s5) hl0) hf0
      · exact (d5.put nld).put nfd
      · rw [upd_ne nfl.symm, upd_same]
      · refine List.Perm.trans ?_ hp
        have z := perm_erase left k.toNat hkl
        rw [← List.append_assoc]
        refine List.Perm.trans (List.perm_append_comm) ?_
        show (left[k.toNat] :: (left.eraseIdx k.toNat ++ found)).Perm _
        exact (List.Perm.append_right found z)
/-! ### the way within, its top, its end -/
def spCore (K : PySem.W.Frag) : Sp := fun vs H Q _ => ∃ (v : V) (ts : List (Addr × List Int)) (p : Addr) (k : Str) (xs : List V), vs = [v] ∧ TurnAt K H ts v (.ref p) ∧ SqT K H p (.str k :: xs) ∧ k ≠ "turned" ∧ Q (.ref p) H
theorem c_core (d : Dd K mg "_law_core" s__law_core P__law_core) : C8.Cal P w K mg base 1 "_law_core" (spCore K) [] := by
  refine d.cal sc__law_core (fun vs H Q E h => ?_) (fun f cdv A outer s H vs Q E hr h => ?_)
  · obtain ⟨v, ts, p, k, xs, rfl, _⟩ := h
    rfl
  · obtain ⟨v, ts, p, k, xs, rfl, ht, hk, hne, q⟩ := h
    have nd := sc__law_core.nd
    refine ⟨_, (pss_cons (ps_while PassesOwn.never (pt_cmpR op_eq (pe_ix ix_tup (pv 0) pe_int (fun _ _ => rfl)) pe_str (nomark _))
    (pss_one (ps_set (i := 0) nd rfl (Or.inl rfl) (pe_ix ix_tup (pv 0) pe_int (fun _ _ => rfl)))))
  (pss_one (ps_ret (pv 0)))), ?_⟩
    refine i_start (σ' := [some v]) rfl ?_
    walk_at "go"
    walk_at "r"
    refine i_while (fun m σ' H' => ∃ r x, m = r.length ∧ σ' = [some x] ∧ H' = H ∧ TurnAt K H r x (.ref p)) ts.length ⟨ts, v, rfl, rfl, rfl, ht⟩ (fun m σ' H' pv => ?_)
    obtain ⟨r, x, rfl, rfl, eH, hr2⟩ := pv
    rw [eH]
    cases r with
    | nil =>
      cases hr2
      walk_at "r"
      refine i_no hne ?_
      walk_at "r"
      exact q
    | cons t r =>
      obtain ⟨a, t⟩ := t
      obtain ⟨p2, y, rfl, h1, h2, h3⟩ := hr2
      walk_at "r"
      refine i_yes rfl ?_
      walk_at "r"
      exact ⟨r.length, by show r.length < r.length + 1; omega, r, y, rfl, rfl, rfl, h3⟩
def spTopW (K : PySem.W.Frag) : Sp := fun vs H Q _ => ∃ (v : V) (wy : Way), vs = [v] ∧ WayAt K H v wy ∧ Q (.int wy.t) H
theorem c_top (c__law_core : C8.Cal P w K mg base 1 "_law_core" (spCore K) []) (d : Dd K mg "_law_top" s__law_top P__law_top) : C8.Cal P w K mg base 2 "_law_top" (spTopW K) [] := by
  refine d.cal sc__law_top (fun vs H Q E h => ?_) (fun f cdv A outer s H vs Q E hr h => ?_)
  · obtain ⟨v, wy, rfl, _⟩ := h
    rfl
  · obtain ⟨v, wy, rfl, ⟨tas, p, h1, h2, h3⟩, q⟩ := h
    have nd := sc__law_top.nd
    obtain ⟨xs, hx⟩ := h3.head
    refine ⟨_, (pss_one (ps_ret (pe_ix ix_tup (C8.pe_c c__law_core hr (by decide) (by rfl) (pa_cons (pv 0) pa_nil)) pe_int (fun _ _ => rfl)))), ?_⟩
    refine i_start (σ' := [some v]) rfl ?_
    walk_at "go"
    walk_at "r"
    refine ⟨v, tas, p, _, _, rfl, h2, hx, wy.k.name_ne, ?_⟩
    walk_at "r"
    exact q
def spEndW (K : PySem.W.Frag) : Sp := fun vs H Q _ => ∃ (v : V) (wy : Way), vs = [v] ∧ WayAt K H v wy ∧ Q (.int wy.e) H
theorem c_end (c__law_core : C8.Cal P w K mg base 1 "_law_core" (spCore K) []) (d : Dd K mg "_law_end" s__law_end P__law_end) : C8.Cal P w K mg base 2 "_law_end" (spEndW K) [] := by
  refine d.cal sc__law_end (fun vs H Q E h => ?_) (fun f cdv A outer s H vs Q E hr h => ?_)
  · obtain ⟨v, wy, rfl, _⟩ := h
    rfl
  · obtain ⟨v, wy, rfl, ⟨tas, p, h1, h2, h3⟩, q⟩ := h
    have nd := sc__law_end.nd
    obtain ⟨xs, hx⟩ := h3.head
    refine ⟨_, (pss_one (ps_ret (pe_ix ix_tup (C8.pe_c c__law_core hr (by decide) (by rfl) (pa_cons (pv 0) pa_nil)) pe_int (fun _ _ => rfl)))), ?_⟩
    refine i_start (σ' := [some v]) rfl ?_
    walk_at "go"
    walk_at "r"
    refine ⟨v, tas, p, _, _, rfl, h2, hx, wy.k.name_ne, ?_⟩
    walk_at "r"
    exact q
end
end Esc

namespace Esc
open PySem PySem.Spec PyProof.Rows L2
theorem perm_map_inv {α β : Type} {f : α → β} {xs ys : List β} (p : ys.Perm xs) : ∀ as : List α, xs = as.map f → ∃ as' : List α, ys = as'.map f ∧ as'.Perm as := by
  induction p with
  | nil =>
    intro as e
    exact ⟨[], rfl, by rw [List.map_eq_nil_iff.mp e.symm]⟩
  | cons x p ih =>
    intro as e
    cases as with
    | nil => cases e
    | cons a as =>
      rw [List.map_cons] at e
      obtain ⟨r, e1, q⟩ := ih as (List.cons.inj e).2
      exact ⟨a :: r, by rw [List.map_cons, e1, (List.cons.inj e).1], q.cons a⟩
  | swap x y l =>
    intro as e
    match as, e with
    | a :: b :: as, e =>
      rw [List.map_cons, List.map_cons] at e
      obtain ⟨e1, e2⟩ := List.cons.inj e
      obtain ⟨e3, e4⟩ := List.cons.inj e2
      exact ⟨b :: a :: as, by rw [List.map_cons, List.map_cons, e1, e3, e4], List.Perm.swap a b as⟩
  | trans _ _ ih1 ih2 =>
    intro as e
    obtain ⟨bs, e1, p1⟩ := ih2 as e
    obtain ⟨cs, e2, p2⟩ := ih1 bs e1
    exact ⟨cs, e2, p2.trans p1⟩
theorem DiceAt.lst {H : Hp} {d : Addr} (h : DiceAt H d) : ∃ xs, H d = some (.lst xs) := by
  obtain ⟨x, c, r, a, _⟩ := h
  exact ⟨_, a⟩
theorem tp_dice {H H' : Hp} {d : Addr} (h : DiceAt H d) (s : Same (hide d H) H') : Same (tp H) (tp H') := by
  obtain ⟨xs, e⟩ := h.lst
  exact tp_hide e s
section
variable {P : Program} {w : World} {K : PySem.W.Frag} {mg : Str → Option Value} {base : Heap}
/-! ### turned ones -/
def spTurned (K : PySem.W.Frag) : Sp := fun vs H Q _ => ∃ (d : Addr) (v : V) (m : Int) (wy : Way), vs = [.ref d, v, .int m] ∧ 0 ≤ m ∧ m ≤ 100 ∧ DiceAt H d ∧ WayAt K (tp H) v wy ∧ 3 ≤ wy.t ∧ wy.t ≤ 16 ∧
  ∀ (H' : Hp) (u : V) (ts : List (List Int)), Same (hide d H) H' → DiceAt H' d → ts.length ≤ max 1 m.toNat → (∀ p ∈ ts, p.Perm (countL wy.t)) → WayAt K (tp H') u ⟨ts ++ wy.ts, wy.t, wy.e, wy.k⟩ → Q u H'
theorem c_turned (Z : Blt mg) (c__law_off : C8.Cal P w K mg base 1 "_law_off" spOff []) (c__law_mixed : C8.Cal P w K mg base 2 "_law_mixed" (spMixed K) []) (c__law_top : C8.Cal P w K mg base 2 "_law_top" (spTopW K) []) (d : Dd K mg "_law_turned" s__law_turned P__law_turned) : C8.Cal P w K mg base 3 "_law_turned" (spTurned K) [] := by
  refine d.cal sc__law_turned (fun vs H Q E h => ?_) (fun f cdv A outer s H vs Q E hr h => ?_)
  · obtain ⟨d, v, m, wy, rfl, _⟩ := h
    rfl
  · obtain ⟨d, v, m, wy, rfl, hm0, hm1, hd, hw, h3, h16, q⟩ := h
    have nd := sc__law_turned.nd
    refine ⟨_, (pss_cons (ps_for PassesOwn.never rfl (pi_range1 rfl Z.range_ (pa_cons (pe_ix ix_list (pe_lst (pa_cons pe_int (pa_cons pe_int (pa_cons pe_int (pa_cons (pv 2) pa_nil))))) (C8.pe_c c__law_off hr (by decide) (by rfl) (pa_cons (pv 0) (pa_cons pe_int pa_nil))) (fun _ _ => rfl)) pa_nil)) (pg_name (i := 3) nd rfl (Or.inl rfl))
    (pss_one (ps_set (i := 1) nd rfl (Or.inl rfl) (pe_tup (pa_cons pe_str (pa_cons (pe_callTy k_tupOfF (by rfl) Z.tuple_ (by decide +kernel) (pa_cons (C8.pe_c c__law_mixed hr (by decide) (by rfl) (pa_cons (pv 0) (pa_cons (pe_listRg rfl rfl Z.list_ (prg_1 rfl Z.range_ (C8.pe_c c__law_top hr (by decide) (by rfl) (pa_cons (pv 1) pa_nil)))) pa_nil))) pa_nil)) (pa_cons (pv 1) pa_nil)))))))
  (pss_one (ps_ret (pv 1)))), ?_⟩
    refine i_start (σ' := [some (.ref d), some v, some (.int m), none]) rfl ?_
    walk_at "go"
    walk_at "r"
    refine i_lst (by show 4 ≤ sizeLine; decide) (fun l H1 hl1 s1 e1 => ?_)
    have nld : l ≠ d := hd.ne hl1
    walk_at "r"
    refine ⟨d, 4, rfl, by decide, by decide, hd.same s1, fun H2 n s2 d2 n0 n1 => ?_⟩
    have e2 := s2 _ _ ((hide_ne nld).trans e1)
    have s02 : Same (hide d H) H2 := hide_tr (hide_pure s1) s2
    have turns : ∀ k : Int, 0 ≤ k → k ≤ max 1 m.toNat → atI [V.int 0, .int 0, .int 1, .int m] n = some (.int k) → ∃ k : Int, 0 ≤ k ∧ k ≤ max 1 m.toNat ∧ atI [V.int 0, .int 0, .int 1, .int m] n = some (.int k) := fun k a b c => ⟨k, a, b, c⟩
    have ht : ∃ k : Int, 0 ≤ k ∧ k ≤ max 1 m.toNat ∧ atI [V.int 0, .int 0, .int 1, .int m] n = some (.int k) := by
      have hn : n = 0 ∨ n = 1 ∨ n = 2 ∨ n = 3 := by omega
      rcases hn with rfl | rfl | rfl | rfl
      · exact ⟨0, by omega, by omega, atI_nat (j := 0) rfl⟩
      · exact ⟨0, by omega, by omega, atI_nat (j := 1) rfl⟩
      · exact ⟨1, by omega, by omega, atI_nat (j := 2) rfl⟩
      · exact ⟨m, by omega, by omega, atI_nat (j := 3) rfl⟩
    obtain ⟨k, hk0, hk1, hk⟩ := ht
    walk_at "r"
    refine i_rng ⟨hk0, by omega⟩ (fun i σ' H' => ∃ u x ts, σ' = [some (.ref d), some u, some (.int m), x] ∧ Same (hide d H) H' ∧ DiceAt H' d ∧ ts.length = i ∧ (∀ p ∈ ts, p.Perm (countL wy.t)) ∧ WayAt K (tp H') u ⟨ts ++ wy.ts, wy.t, wy.e, wy.k⟩)
      ⟨v, none, [], rfl, s02, d2, rfl, (fun p z => by cases z), hw.same (tp_dice hd s02)⟩ (fun i σ' H' hi pv => ?_) (fun σ' H' pv => ?_)
    · obtain ⟨u, x, ts, rfl, s3, d3, lts, hts, w3⟩ := pv
      walk_at "r"
      refine ⟨u, _, rfl, w3.same tp_same, ?_⟩
      walk_at "r"
      refine i_lstRg ⟨by show 0 ≤ wy.t; omega, by show wy.t ≤ _; omega⟩ (fun c H4 hc s4 e4 => ?_)
      have d4 := d3.same s4
      have ncd : c ≠ d := d3.ne hc
      rw [rg_count] at e4
      walk_at "r"
      refine ⟨d, c, _, rfl, d4, sl_of e4, fun y hy => ?_, by rw [List.length_map, count_len]; show wy.t.toNat ≤ 1000; omega, fun p H5 ys hp s5 d5 e5 pp => ?_⟩
      · obtain ⟨z, _, rfl⟩ := List.mem_map.mp hy
        exact fl_int z
      obtain ⟨t, rfl, pt⟩ := perm_map_inv pp _ rfl
      have s35 : Same (hide d H') H5 := hide_tr (hide_pure s4) s5
      have w5 := w3.same (tp_dice d3 s35)
      walk_at "r"
      refine i_tupOfF (sl_of e5) (fun tp5 H6 hp6 s6 e6 => ?_)
      have w6 := w5.same (tp_pure s6)
      walk_at "r"
      refine i_tup (by show 3 ≤ sizeLine; decide) (fun r H7 hr7 s7 e7 => ?_)
      walk_at "r"
      refine ⟨.ref r, _, t :: ts, rfl, ((hide_tr s3 s35).trans s6).trans s7, (d5.same s6).same s7, by rw [List.length_cons, lts], fun p hp => ?_, ?_⟩
      · rcases List.mem_cons.mp hp with rfl | hp
        · exact pt
        · exact hts p hp
      · obtain ⟨tas, pi, z1, z2, z3⟩ := w6.same (tp_pure s7)
        refine ⟨(tp5, t) :: tas, pi, by rw [List.map_cons, z1]; rfl, ⟨r, u, rfl, tp_sqt e7, tp_tupd (e6.same s7), z2⟩, z3⟩
    · obtain ⟨u, x, ts, rfl, s3, d3, lts, hts, w3⟩ := pv
      walk_at "r"
      exact q H' u ts s3 d3 (by omega) hts w3
end
end Esc

namespace Esc
open PySem PySem.Spec PyProof.Rows L2
theorem hu65 {A : Around} {k : Nat} (hr : Room k A) : A.units + 65 < cLine := by have := hr.un; omega
theorem TupsAt.perm {K : PySem.W.Frag} {H : Hp} {as' as : List Addr} (p : as'.Perm as) : ∀ {cs : List (List Int)}, TupsAt K H as cs → ∃ cs' : List (List Int), cs'.Perm cs ∧ TupsAt K H as' cs' := by
  induction p with
  | nil =>
    intro cs h
    exact ⟨cs, .refl _, h⟩
  | cons a p ih =>
    intro cs h
    cases cs with
    | nil => exact h.elim
    | cons c cs =>
      obtain ⟨ds, q, z⟩ := ih h.2
      exact ⟨c :: ds, q.cons c, h.1, z⟩
  | swap a b l =>
    intro cs h
    cases cs with
    | nil => exact h.elim
    | cons c1 cs =>
      cases cs with
      | nil => exact h.2.elim
      | cons c2 cs => exact ⟨c2 :: c1 :: cs, List.Perm.swap _ _ _, h.2.1, h.1, h.2.2⟩
  | trans _ _ ih1 ih2 =>
    intro cs h
    obtain ⟨ds, p1, h1⟩ := ih2 h
    obtain ⟨es, p2, h2⟩ := ih1 h1
    exact ⟨es, p2.trans p1, h2⟩
theorem map_erase {α β : Type} (f : α → β) : ∀ (l : List α) (i : Nat), (l.map f).eraseIdx i = (l.eraseIdx i).map f
  | [], _ => rfl
  | _ :: _, 0 => rfl
  | a :: l, i + 1 => congrArg (f a :: ·) (map_erase f l i)
theorem TupsAt.snoc {K : PySem.W.Frag} {H : Hp} {as : List Addr} {cs : List (List Int)} {a : Addr} {c : List Int} (h : TupsAt K H as cs) (h2 : H a = some (.tup (c.map V.int))) : TupsAt K H (as ++ [a]) (cs ++ [c]) := h.app ⟨h2, trivial⟩
theorem TupsAt.mem {K : PySem.W.Frag} {H : Hp} {as : List Addr} {cs : List (List Int)} {a : Addr} (h : TupsAt K H as cs) (m : a ∈ as) : ∃ c ∈ cs, SqT K H a (c.map V.int) := by
  obtain ⟨i, hi, e⟩ := List.getElem_of_mem m
  obtain ⟨c, h1, h2⟩ := h.get (by rw [List.getElem?_eq_getElem hi, e])
  exact ⟨c, List.mem_of_getElem? h1, h2⟩
/-- l.remove(x) of a list of tuples of ints -/
theorem i_removeT {K : PySem.W.Frag} {H : Hp} {Q : VK} {l a : Addr} {as : List Addr} {cs : List (List Int)} {j : Nat} {c : List Int} (hl : H l = some (.lst (as.map V.ref))) (h : TupsAt K H as cs) (hn : cs.Nodup) (ha : SqT K H a (c.map V.int)) (hj : cs[j]? = some c)
    (q : Q .non (upd H l (.lst ((as.eraseIdx j).map V.ref)))) : rRemD K (.ref l) [.ref a] H Q := by
  refine ⟨l, _, _, intsT c, cs.map intsT, j, intsT c, rfl, rfl, hl, h.dpa, .tup ha (dpa_ints c), shaped_intsTs cs, shaped_intsT c, by rw [List.getElem?_map, hj]; rfl, by rw [eqv_intsT]; exact decide_eq_true rfl, fun m z' hm hz => ?_, by rw [map_erase]; exact q⟩
  rw [List.getElem?_map] at hz
  cases e : cs[m]? with
  | none =>
    rw [e] at hz
    cases hz
  | some c' =>
    rw [e] at hz
    cases hz
    rw [eqv_intsT]
    refine decide_eq_false fun z => ?_
    subst z
    obtain ⟨h1, e1⟩ := List.getElem?_eq_some_iff.mp e
    obtain ⟨h2, e2⟩ := List.getElem?_eq_some_iff.mp hj
    have := (List.getElem_inj hn).mp (e1.trans e2.symm)
    omega
/-- a + b of tuples that are not empty -/
theorem i_catT {K : PySem.W.Frag} {H : Hp} {Q : VK} {a b : Addr} {xs ys : List V} (h1 : SqT K H a xs) (h2 : SqT K H b ys) (n1 : xs ≠ []) (n2 : ys ≠ []) (hz : xs.length + ys.length ≤ sizeLine) (q : ∀ p H', H p = none → Same H H' → H' p = some (.tup (xs ++ ys)) → Q (.ref p) H') : rCatT K (.ref a) (.ref b) H Q :=
  ⟨a, b, xs, ys, rfl, rfl, h1, h2, n1, hz, fun z => absurd z n2, fun _ => grow q⟩
/-- what a way without turned ones ends with -/
def EndB (K : PySem.W.Frag) (d : Addr) (t e : Int) (H : Hp) (Q : VK) : Prop := ∀ (H' : Hp) (p : Addr) (k : Kind), Same (hide d H) H' → DiceAt H' d → KindAt K (tp H') p t e k → KindOk t e k → Q (.ref p) H'
def spBase (K : PySem.W.Frag) : Sp := fun vs H Q _ => ∃ (d : Addr) (t e : Int), vs = [.ref d, .int t, .int e] ∧ DiceAt H d ∧ 3 ≤ t ∧ t ≤ 16 ∧ 0 ≤ e ∧ e < t ∧ EndB K d t e H Q
section
variable {P : Program} {w : World} {K : PySem.W.Frag} {mg : Str → Option Value} {base : Heap}
theorem c_codes (Z : Blt mg) (c__law_off : C8.Cal P w K mg base 1 "_law_off" spOff []) (c__law_plain : C8.Cal P w K mg base 1 "_law_plain" spPlain []) (c__law_mixed : C8.Cal P w K mg base 2 "_law_mixed" (spMixed K) []) (d : Dd K mg "_law_codes" s__law_codes P__law_codes) : C8.Cal P w K mg base 3 "_law_codes" (spBase K) [] := by
  refine d.cal sc__law_codes (fun vs H Q E h => ?_) (fun f cdv A outer s H vs Q E hr h => ?_)
  · obtain ⟨d, t, e, rfl, _⟩ := h
    rfl
  · obtain ⟨d, t, e, rfl, hd, h3, h16, h0, h1, q⟩ := h
    have nd := sc__law_codes.nd
    have np := plain_len h0 h1
    refine ⟨_, (pss_cons (ps_set (i := 3) nd rfl (Or.inl rfl) (C8.pe_c c__law_plain hr (by decide) (by rfl) (pa_cons (pv 1) (pa_cons (pv 2) pa_nil))))
  (pss_cons (ps_setLc (i := 4) (own := [("_law_sign", 8)]) (g := gName 8) (tt := tYes) rfl nd rfl rfl (sw_true rfl rfl rfl (by decide +kernel)) (pi_list (pv 3)) (blkOk_by (N := N__law_codes) (sc := C8.fnScope s__law_codes) (own := [("_law_sign", 8)]) (by decide +kernel)) (fun _ _ _ _ _ => (pg_name (i := 8) nd rfl (Or.inl rfl))) (fun _ _ _ _ _ => pts_nil) (fun _ _ _ _ _ => (pe_tup (pa_cons (pv 8) pa_nil))))
  (pss_cons (ps_for PassesOwn.never rfl (pi_range1 rfl Z.range_ (pa_cons (pe_op op_add pe_int (C8.pe_c c__law_off hr (by decide) (by rfl) (pa_cons (pv 0) (pa_cons pe_int pa_nil)))) pa_nil)) (pg_name (i := 5) nd rfl (Or.inl rfl))
    (pss_cons (ps_setLc (i := 6) (own := [("_law_code", 7)]) (g := gName 7) rfl nd rfl rfl (sw_true rfl rfl rfl (by decide +kernel)) (pi_list (pv 4)) (blkOk_by (N := N__law_codes) (sc := C8.fnScope s__law_codes) (own := [("_law_code", 7)]) (by decide +kernel)) (fun _ _ _ _ _ => (pg_name (i := 7) nd rfl (Or.inl rfl))) (fun _ _ _ _ _ => pts_one (pt_cmpR op_lt (pe_callB (show CallR _ _ (rLen K) from k_len) (by rfl) Z.len_ (by decide +kernel) (pa_cons (pv 7) pa_nil)) pe_int (nomark _))) (fun _ _ _ _ _ => (pv 7)))
  (pss_cons (ps_set (i := 7) nd rfl (Or.inr rfl) (pe_ix ix_list (pv 6) (C8.pe_c c__law_off hr (by decide) (by rfl) (pa_cons (pv 0) (pa_cons (pe_callB k_len (by rfl) Z.len_ (by decide +kernel) (pa_cons (pv 6) pa_nil)) pa_nil))) (fun _ _ => rfl)))
  (pss_cons (ps_expr (pe_bm PySem.F.plainAttrs_list PySem.F.slot_list_remove PySem.F.type_list_remove (mt_removeD (hu65 hr)) (pv 4) (pa_cons (pv 7) pa_nil)))
  (pss_one (ps_set (i := 4) nd rfl (Or.inl rfl) (pe_op op_cat (pv 4) (pe_lc (own := [("_law_sign", 8)]) (g := gName 8) (tt := tYes) rfl nd (pi_list (pv 3)) (blkOk_by (N := N__law_codes) (sc := C8.fnScope s__law_codes) (own := [("_law_sign", 8)]) (by decide +kernel)) (fun _ _ _ _ _ => (pg_name (i := 8) nd rfl (Or.inl rfl))) (fun _ _ _ _ _ => pts_nil) (fun _ _ _ _ _ => (pe_op (show OpR _ _ (rCatT K) from op_catT) (pv 7) (pe_tup (pa_cons (pv 8) pa_nil))))))))))))
  (pss_one (ps_ret (pe_tup (pa_cons pe_str (pa_cons (pv 1) (pa_cons (pv 2) (pa_cons (pe_callTy k_tupOf (by rfl) Z.tuple_ (by decide +kernel) (pa_cons (pe_slice sl_list (C8.pe_c c__law_mixed hr (by decide) (by rfl) (pa_cons (pv 0) (pa_cons (pv 4) pa_nil))) po_none (po_some (pv 1))) pa_nil)) pa_nil)))))))))), ?_⟩
    refine i_start (σ' := [some (.ref d), some (.int t), some (.int e), none, none, none, none, none, none]) rfl ?_
    walk_at "go"
    walk_at "r"
    refine ⟨t, e, rfl, by omega, by omega, fun pl H1 hpl s1 e1 => ?_⟩
    have npd : pl ≠ d := hd.ne hpl
    have d1 := hd.same s1
    walk_at "r"
    refine i_lcLI (xs := (plainL t e).map V.int) (fun D j acc H' => ∃ as : List Addr, acc = as.map V.ref ∧ TupsAt K (tp H') as (((plainL t e).take j).map fun s => [s]) ∧ Same H1 H' ∧ H' D = some (.lst acc)) (sl_of e1)
      (fun D hD => ⟨[], rfl, trivial, same_new hD, upd_same⟩) (fun D j acc H' hD pv => ?_) (fun D j x acc H' hD hx hl pv => ?_) (fun lv acc H' hlv pv => ?_)
    · obtain ⟨as, _, _, s2, _⟩ := pv
      exact s2.seq (sl_of e1)
    · obtain ⟨as, rfl, ht, s2, e2⟩ := pv
      obtain ⟨n, hn, rfl⟩ := map_get hx
      walk_at "r"
      refine i_tup (by show 1 ≤ sizeLine; decide) (fun a H3 ha s3 e3 => ?_)
      have e4 := s3 _ _ e2
      refine kY_of e4 hl (by have := (List.getElem?_eq_some_iff.mp hn).1; omega) ⟨as ++ [a], by rw [List.map_append]; rfl, ?_, smut (s2.trans s3) hD, upd_same⟩
      rw [take_succ' hn, List.map_append]
      refine TupsAt.snoc ((ht.same (tp_pure s3)).same (tp_put e4)) (tp_put e4 _ _ (tp_at e3))
    · obtain ⟨as, rfl, ht, s2, e2⟩ := pv
      rw [List.length_map, List.take_length] at ht
      have npl : lv ≠ pl := (ne_of_none e1 hlv).symm
      have nld : lv ≠ d := d1.ne hlv
      walk_at "r"
      refine ⟨d, 3, rfl, by decide, by decide, d1.same s2, fun H3 n s3 d3 n0 n1 => ?_⟩
      have s03 : Same (hide d H) H3 := hide_tr (hide_pure (s1.trans s2)) s3
      walk_at "r"
      refine i_rng ⟨by omega, by omega⟩ (fun i σ' H' => ∃ (l : Addr) (as : List Addr) (cs : List (List Int)) (x y z : Option V), σ' = [some (.ref d), some (.int t), some (.int e), some (.ref pl), some (.ref l), x, y, z, none] ∧ Same (hide d H) H' ∧ DiceAt H' d ∧ H l = none ∧ l ≠ d ∧ l ≠ pl ∧
          H' l = some (.lst (as.map V.ref)) ∧ H' pl = some (.lst ((plainL t e).map V.int)) ∧ TupsAt K (tp H') as cs ∧ LeavesOk t e (i + 1) cs ∧ cs.length = (plainL t e).length + i * ((plainL t e).length - 1))
        ⟨lv, as, _, none, none, none, rfl, s03, d3, s1.free hlv, nld, npl, s3 _ _ ((hide_ne nld).trans e2), s3 _ _ ((hide_ne npd).trans (s2 _ _ e1)), ht.same (tp_dice (d1.same s2) s3), leaves_first, by rw [List.length_map]; omega⟩
        (fun i σ' H' hi pv => ?_) (fun σ' H' pv => ?_)
      · obtain ⟨l, as, cs, x, y, z, rfl, s4, d4, hl0, hld, hlp, el, ep, hta, hlo, hlen⟩ := pv
        have hi3 : i < 3 := by omega
        have lal := hta.len
        have lcs : cs.length ≤ 50 := by
          have : i * ((plainL t e).length - 1) ≤ 2 * 14 := Nat.mul_le_mul (by omega) (by omega)
          omega
        have lpos : 0 < cs.length := by omega
        walk_at "r"
        refine i_lcL (F := some) (sl_of el) (by rw [List.length_map]; omega) (fun v hv H1 s1 QN QY hN hY => ?_) (fun sh H5 hsh s5 e5 => ?_)
        · obtain ⟨a, ha, rfl⟩ := List.mem_map.mp hv
          obtain ⟨c, hc, hac⟩ := hta.mem ha
          have hac' := stup (tp_same.trans s1) hac
          have lc := (hlo.1 c hc).2.1
          walk_at "r"
          rw [decide_eq_true (by rw [List.length_map]; omega)]
          walk_at "r"
          exact hY _ rfl _ (Same.refl _)
        · rw [List.filterMap_some] at e5
          have d5 := d4.same s5
          have nsd : sh ≠ d := d4.ne hsh
          walk_at "r"
          refine ⟨d, (as.length : Nat), by rw [List.length_map], by omega, by omega, d5, fun H6 n s6 d6 n0 n1 => ?_⟩
          have s46 : Same (hide d H') H6 := hide_tr (hide_pure s5) s6
          have e6 := s6 _ _ ((hide_ne nsd).trans e5)
          have el6 := s46 _ _ ((hide_ne hld).trans el)
          have ep6 := s46 _ _ ((hide_ne npd).trans ep)
          have hta6 := hta.same (tp_dice d4 s46)
          have hj : n.toNat < cs.length := by omega
          have hja : n.toNat < as.length := by omega
          have hx : atI (as.map V.ref) n = some (.ref as[n.toNat]) := by
            have z : ∀ (k : Nat) (v : V), n = (k : Int) → (as.map V.ref)[k]? = some v → atI (as.map V.ref) n = some v := fun k v z1 z2 => by
              rw [z1]
              exact atI_nat z2
            refine z n.toNat _ (by omega) ?_
            rw [List.getElem?_map, List.getElem?_eq_getElem hja]
            rfl
          obtain ⟨c, hc1, hc2⟩ := hta6.get (List.getElem?_eq_getElem hja)
          have ec : cs[n.toNat] = c := by
            rw [List.getElem?_eq_getElem hj] at hc1
            exact Option.some.inj hc1
          have lc := (hlo.1 c (List.mem_of_getElem? hc1)).2.1
          have lc1 := (hlo.1 c (List.mem_of_getElem? hc1)).1
          walk_at "r"
          refine i_removeT el6 (hta6.same tp_same) (leaves_nodup hlo) (stup tp_same hc2) hc1 ?_
          have s7 : Same (hide d H) (upd H6 l (.lst ((as.eraseIdx n.toNat).map V.ref))) := smut (hide_tr s4 s46) (by rw [hide_ne hld]; exact hl0)
          have d7 : DiceAt (upd H6 l (.lst ((as.eraseIdx n.toNat).map V.ref))) d := d6.put hld
          have hta7 := (hta6.erase n.toNat).same (tp_put (o := .lst ((as.eraseIdx n.toNat).map V.ref)) el6)
          have hc7 := stup (tp_put (o := .lst ((as.eraseIdx n.toNat).map V.ref)) el6) hc2
          have ep7 : (upd H6 l (.lst ((as.eraseIdx n.toNat).map V.ref))) pl = some (.lst ((plainL t e).map V.int)) := by
            rw [upd_ne hlp.symm]
            exact ep6
          have el7 : (upd H6 l (.lst ((as.eraseIdx n.toNat).map V.ref))) l = some (.lst ((as.eraseIdx n.toNat).map V.ref)) := upd_same
          generalize (upd H6 l (.lst ((as.eraseIdx n.toNat).map V.ref))) = H7 at s7 d7 hta7 hc7 ep7 el7 ⊢
          walk_at "r"
          refine i_lcLI (xs := (plainL t e).map V.int) (fun D j acc H' => ∃ bs : List Addr, acc = bs.map V.ref ∧ TupsAt K (tp H') bs (((plainL t e).take j).map fun s => cs[n.toNat] ++ [s]) ∧ Same H7 H' ∧ H' D = some (.lst acc)) (sl_of ep7)
            (fun D hD => ⟨[], rfl, trivial, same_new hD, upd_same⟩) (fun D j acc H' hD pv => ?_) (fun D j x acc H' hD hx hl pv => ?_) (fun nw acc H8 hnw pv => ?_)
          · obtain ⟨bs, _, _, s2, _⟩ := pv
            exact s2.seq (sl_of ep7)
          · obtain ⟨bs, rfl, ht, s2, e2⟩ := pv
            obtain ⟨m, hm, rfl⟩ := map_get hx
            walk_at "r"
            refine i_tup (by show 1 ≤ sizeLine; decide) (fun a H3 ha s3 e3 => ?_)
            have hc3 := stup (tp_same.trans (s2.trans s3)) hc7
            have e4 := s3 _ _ e2
            walk_at "r"
            refine i_catT hc3 (st_of e3) (by rw [ne_eq, List.map_eq_nil_iff]; intro z; rw [z] at lc1; exact absurd lc1 (by decide)) (by simp) (sz (by rw [List.length_map]; show c.length + 1 ≤ _; omega)) (fun b H4 hb s4 e5 => ?_)
            have e6 := s4 _ _ e4
            refine kY_of e6 hl (by have := (List.getElem?_eq_some_iff.mp hm).1; omega) ⟨bs ++ [b], by rw [List.map_append]; rfl, ?_, smut ((s2.trans s3).trans s4) hD, upd_same⟩
            rw [take_succ' hm, List.map_append, ec]
            rw [ec] at ht
            refine TupsAt.snoc ((ht.same (tp_pure (s3.trans s4))).same (tp_put e6)) (tp_put e6 _ _ (tp_at ?_))
            rw [List.map_append]
            exact e5
          · obtain ⟨bs, rfl, ht, s8, e8⟩ := pv
            rw [List.length_map, List.take_length] at ht
            have el8 := s8 _ _ el7
            have hta8 := hta7.same (tp_pure s8)
            have lbs := ht.len
            rw [List.length_map] at lbs
            have lae := (hta8.len)
            have lce := List.length_eraseIdx_of_lt hj
            walk_at "r"
            refine i_cat el8 e8 (sz (by rw [List.length_map, List.length_map]; omega)) (fun l9 H9 hl9 s9 e9 => ?_)
            have d8 := d7.same s8
            walk_at "r"
            rw [← List.map_append] at e9
            have z0 := hide_free (s7.trans s8) (d8.ne hl9) hl9
            refine ⟨l9, as.eraseIdx n.toNat ++ bs, cs.eraseIdx n.toNat ++ (plainL t e).map (fun s => cs[n.toNat] ++ [s]), _, _, _, rfl, (s7.trans s8).trans s9, d8.same s9, z0, d8.ne hl9, (ne_of_none (s8 _ _ ep7) hl9).symm, e9, s9 _ _ (s8 _ _ ep7), (hta8.app ht).same (tp_pure s9), leaves_more hj hlo, ?_⟩
            rw [List.length_append, List.length_map, lce, hlen, Nat.succ_mul]
            omega
      · obtain ⟨l, as, cs, x, y, z, rfl, s4, d4, hl0, hld, hlp, el, ep, hta, hlo, hlen⟩ := pv
        have lal := hta.len
        have hm : LeavesOk t e 4 cs := hlo.mono (by omega)
        have lcs : cs.length ≤ 60 ∧ t.toNat ≤ cs.length := by
          have a1 : (1 + n).toNat * ((plainL t e).length - 1) ≤ 3 * 14 := Nat.mul_le_mul (by omega) (by omega)
          have a2 : 1 * ((plainL t e).length - 1) ≤ (1 + n).toNat * ((plainL t e).length - 1) := Nat.mul_le_mul_right _ (by omega)
          omega
        walk_at "r"
        refine ⟨d, l, _, rfl, d4, sl_of el, fun v hv => ?_, by rw [List.length_map]; omega, fun p H5 ys hp s5 d5 e5 pp => ?_⟩
        · obtain ⟨a, ha, rfl⟩ := List.mem_map.mp hv
          obtain ⟨c, hc, hac⟩ := hta.mem ha
          refine fl_tup (c := c) (stup (fun b o z => ?_) hac)
          obtain ⟨xs, ed⟩ := d4.lst
          rw [hide_ne (tp_ne z ed)]
          exact (tp_of z).2
        · obtain ⟨as', rfl, pa⟩ := perm_map_inv pp _ rfl
          obtain ⟨cs', pc, hta'⟩ := (hta.same (tp_dice d4 s5)).perm pa
          have lc' := pc.length_eq
          have la' := hta'.len
          walk_at "r"
          refine i_slL (sl_of e5) (fun p6 H6 hp6 s6 e6 => ?_)
          rw [show (t : Int) = ((t.toNat : Nat) : Int) by omega, cut_to, ← List.map_take] at e6
          walk_at "r"
          refine i_tupOf (sl_of e6) (fun p7 H7 hp7 s7 e7 => ?_)
          walk_at "r"
          refine i_tup (by show 4 ≤ sizeLine; decide) (fun p8 H8 hp8 s8 e8 => ?_)
          have s58 : Same H5 H8 := (s6.trans s7).trans s8
          refine q H8 p8 (.codes (cs'.take t.toNat)) ((hide_tr s4 s5).trans s58) (d5.same s58) ⟨p7, as'.take t.toNat, tp_sqt e8, tp_sqt (s8 _ _ e7), (hta'.take _).same (tp_pure s58)⟩ ⟨by rw [List.length_take]; omega, ((hm.perm pc).sub (List.take_sublist _ _)).codes⟩
end
end Esc

namespace Esc
open PySem PySem.Spec PyProof.Rows L2
theorem i_sortedI {K : PySem.W.Frag} {H : Hp} {Q : VK} {a : Addr} {ns : List Int} (h : SqL K H a (ns.map V.int)) (q : ∀ (ms : List Int) p H', ms.Perm ns → ms.Pairwise (· ≤ ·) → H p = none → Same H H' → H' p = some (.lst (ms.map V.int)) → Q (.ref p) H') : rSortedI K [.ref a] H Q :=
  ⟨a, ns, rfl, h, fun ms p hp hw hn => q ms p _ hp hw hn (same_new hn) upd_same⟩
theorem PairsAt.snoc {K : PySem.W.Frag} {H : Hp} {as : List Addr} {cs : List (Int × Int)} {a : Addr} {c : Int × Int} (h : PairsAt K H as cs) (h2 : SqT K H a [.int c.1, .int c.2]) : PairsAt K H (as ++ [a]) (cs ++ [c]) := h.app ⟨h2, trivial⟩
theorem lt_of_le_nodup : ∀ {l : List Int}, l.Pairwise (· ≤ ·) → l.Nodup → l.Pairwise (· < ·)
  | [], _, _ => .nil
  | a :: l, h, n => by
    obtain ⟨h1, h2⟩ := List.pairwise_cons.mp h
    obtain ⟨n1, n2⟩ := List.nodup_cons.mp n
    refine List.pairwise_cons.mpr ⟨fun x m => ?_, lt_of_le_nodup h2 n2⟩
    have := h1 x m
    have ne : a ≠ x := fun z => n1 (z ▸ m)
    omega
theorem zip_fst : ∀ (ms cs : List Int), ms.length ≤ cs.length → (ms.zip cs).map (·.1) = ms
  | [], cs, _ => by simp
  | m :: ms, [], h => by simp at h
  | m :: ms, c :: cs, h => by
    rw [List.zip_cons_cons, List.map_cons, zip_fst ms cs (by simpa using h)]
theorem zip_snd : ∀ (ms cs : List Int), ms.length ≤ cs.length → (ms.zip cs).map (·.2) = cs.take ms.length
  | [], cs, _ => by simp
  | m :: ms, [], h => by simp at h
  | m :: ms, c :: cs, h => by
    rw [List.zip_cons_cons, List.map_cons, zip_snd ms cs (by simpa using h)]
    rfl
section
variable {P : Program} {w : World} {K : PySem.W.Frag} {mg : Str → Option Value} {base : Heap}
theorem c_escapes (Z : Blt mg) (c__law_off : C8.Cal P w K mg base 1 "_law_off" spOff []) (c__law_plain : C8.Cal P w K mg base 1 "_law_plain" spPlain []) (c__law_mixed : C8.Cal P w K mg base 2 "_law_mixed" (spMixed K) []) (d : Dd K mg "_law_escapes" s__law_escapes P__law_escapes) : C8.Cal P w K mg base 3 "_law_escapes" (spBase K) [] := by
  refine d.cal sc__law_escapes (fun vs H Q E h => ?_) (fun f cdv A outer s H vs Q E hr h => ?_)
  · obtain ⟨d, t, e, rfl, _⟩ := h
    rfl
  · obtain ⟨d, t, e, rfl, hd, h3, h16, h0, h1, q⟩ := h
    have nd := sc__law_escapes.nd
    have np := plain_len h0 h1
    refine ⟨_, (pss_cons (ps_set (i := 3) nd rfl (Or.inl rfl) (C8.pe_c c__law_plain hr (by decide) (by rfl) (pa_cons (pv 1) (pa_cons (pv 2) pa_nil))))
  (pss_cons (ps_set (i := 4) nd rfl (Or.inr rfl) (pe_ix ix_list (pv 3) (C8.pe_c c__law_off hr (by decide) (by rfl) (pa_cons (pv 0) (pa_cons (pe_callB k_len (by rfl) Z.len_ (by decide +kernel) (pa_cons (pv 3) pa_nil)) pa_nil))) (fun _ _ => rfl)))
  (pss_cons (ps_setLc (i := 5) (own := [("_law_sign", 8)]) (g := gName 8) rfl nd rfl rfl (sw_true rfl rfl rfl (by decide +kernel)) (pi_list (pv 3)) (blkOk_by (N := N__law_escapes) (sc := C8.fnScope s__law_escapes) (own := [("_law_sign", 8)]) (by decide +kernel)) (fun _ _ _ _ _ => (pg_name (i := 8) nd rfl (Or.inl rfl))) (fun _ _ _ _ _ => pts_one (PW.pt (pw_and (pt_cmpR op_ne (pv 8) (pv 4) (nomark _)) (pw_and1 (pt_cmpR op_eq (C8.pe_c c__law_off hr (by decide) (by rfl) (pa_cons (pv 0) (pa_cons pe_int pa_nil))) pe_int (nomark _)))))) (fun _ _ _ _ _ => (pv 8)))
  (pss_cons (ps_set (i := 6) nd rfl (Or.inr rfl) (pe_callB cr_sortedI (by rfl) Z.sorted_ (by decide +kernel) (pa_cons (pe_op op_cat (pe_lst (pa_cons (pv 2) (pa_cons (pv 4) pa_nil))) (pe_slice sl_list (pv 5) po_none (po_some (pe_op op_sub (pv 1) pe_int)))) pa_nil)))
  (pss_cons (ps_set (i := 7) nd rfl (Or.inr rfl) (C8.pe_c c__law_mixed hr (by decide) (by rfl) (pa_cons (pv 0) (pa_cons (pv 3) pa_nil))))
  (pss_one (ps_ret (pe_tup (pa_cons pe_str (pa_cons (pv 1) (pa_cons (pv 2) (pa_cons (pv 4) (pa_cons (pe_callTy k_tupOf (by rfl) Z.tuple_ (by decide +kernel) (pa_cons (pe_lc (own := [("_law_k", 9)]) (g := gName 9) (tt := tYes) rfl nd (pi_range1 rfl Z.range_ (pa_cons (pe_callB k_len (by rfl) Z.len_ (by decide +kernel) (pa_cons (pv 6) pa_nil)) pa_nil)) (blkOk_by (N := N__law_escapes) (sc := C8.fnScope s__law_escapes) (own := [("_law_k", 9)]) (by decide +kernel)) (fun _ _ _ _ _ => (pg_name (i := 9) nd rfl (Or.inl rfl))) (fun _ _ _ _ _ => pts_nil) (fun _ _ _ _ _ => (pe_tup (pa_cons (pe_ix (show IxR _ (rIxL K) from ix_list) (pv 6) (pv 9) (fun _ _ => rfl)) (pa_cons (pe_ix (show IxR _ (rIxL K) from ix_list) (pv 7) (pv 9) (fun _ _ => rfl)) pa_nil))))) pa_nil)) pa_nil))))))))))))), ?_⟩
    refine i_start (σ' := [some (.ref d), some (.int t), some (.int e), none, none, none, none, none, none, none]) rfl ?_
    walk_at "go"
    walk_at "r"
    refine ⟨t, e, rfl, by omega, by omega, fun pl H1 hpl s1 e1 => ?_⟩
    have npd : pl ≠ d := hd.ne hpl
    have d1 := hd.same s1
    walk_at "r"
    refine ⟨d, ((plainL t e).length : Nat), rfl, by omega, by omega, d1, fun H2 n s2 d2 n0 n1 => ?_⟩
    have s02 : Same (hide d H) H2 := hide_tr (hide_pure s1) s2
    have e2 := s2 _ _ ((hide_ne npd).trans e1)
    have hn : n.toNat < (plainL t e).length := by omega
    obtain ⟨mk, hmk⟩ : ∃ mk, (plainL t e)[n.toNat]? = some mk := ⟨_, List.getElem?_eq_getElem hn⟩
    have mpl : mk ∈ plainL t e := List.mem_of_getElem? hmk
    have pmk := plain_mem.mp mpl
    have hat : atI ((plainL t e).map V.int) n = some (.int mk) := by
      have z : ∀ (k : Nat) (v : V), n = (k : Int) → ((plainL t e).map V.int)[k]? = some v → atI ((plainL t e).map V.int) n = some v := fun k v z1 z2 => by
        rw [z1]
        exact atI_nat z2
      refine z n.toNat _ (by omega) ?_
      rw [List.getElem?_map, hmk]
      rfl
    walk_at "r"
    refine i_lcLI (xs := (plainL t e).map V.int) (fun D j acc H' => ∃ fs : List Int, acc = fs.map V.int ∧ fs.Sublist ((plainL t e).take j) ∧ mk ∉ fs ∧ Same (hide d H2) H' ∧ DiceAt H' d ∧ H' D = some (.lst acc)) (sl_of e2)
      (fun D hD => ⟨[], rfl, List.nil_sublist _, List.not_mem_nil, hide_pure (same_new hD), d2.same (same_new hD), upd_same⟩) (fun D j acc H' hD pv => ?_) (fun D j x acc H' hD hx hl pv => ?_) (fun mo acc H3 hmo pv => ?_)
    · obtain ⟨fs, _, _, _, s3, _⟩ := pv
      exact s3.seq (sl_of ((hide_ne npd).trans e2))
    · obtain ⟨fs, rfl, hfs, hm, s3, d3, e3⟩ := pv
      obtain ⟨y, hy, rfl⟩ := map_get hx
      have nDd : D ≠ d := d2.ne hD
      have hj : j < (plainL t e).length := (List.getElem?_eq_some_iff.mp hy).1
      have skip : fs.Sublist ((plainL t e).take (j + 1)) := by
        rw [take_succ' hy]
        exact hfs.trans (List.sublist_append_left _ _)
      walk_at "r"
      refine i_nbr (fun hc => ?_) (fun hc => ?_)
      · walk_at "r"
        exact kN_of hl ⟨fs, rfl, skip, hm, s3, d3, e3⟩
      · walk_at "r"
        refine ⟨d, 3, rfl, by decide, by decide, d3, fun H4 n4 s4 d4 _ _ => ?_⟩
        have e4 := s4 _ _ ((hide_ne nDd).trans e3)
        walk_at "r"
        refine i_br (fun _ => ?_) (fun _ => ?_)
        · walk_at "r"
          refine kY_of e4 hl (by omega) ⟨fs ++ [y], by rw [List.map_append]; rfl, ?_, fun m => ?_, smut (hide_tr s3 s4) (by rw [hide_ne nDd]; exact hD), d4.put nDd, upd_same⟩
          · rw [take_succ' hy]
            exact hfs.append (List.Sublist.refl _)
          · rcases List.mem_append.mp m with m | m
            · exact hm m
            · exact hc (List.mem_singleton.mp m).symm
        · walk_at "r"
          exact kN_of hl ⟨fs, rfl, skip, hm, hide_tr s3 s4, d4, e4⟩
    · obtain ⟨fs, rfl, hfs, hm, s3, d3, e3⟩ := pv
      rw [List.length_map, List.take_length] at hfs
      have s03 := hide_tr s02 s3
      have ep3 := s3 _ _ ((hide_ne npd).trans e2)
      walk_at "r"
      refine i_lst (by show 2 ≤ sizeLine; decide) (fun p4 H4 hp4 s4 e4 => ?_)
      have em4 := s4 _ _ e3
      walk_at "r"
      refine i_slL (sl_of em4) (fun p5 H5 hp5 s5 e5 => ?_)
      rw [show t - 3 = (((t - 3).toNat : Nat) : Int) by omega, cut_to, ← List.map_take] at e5
      have e45 := s5 _ _ e4
      have lfs := hfs.length_le
      walk_at "r"
      refine i_cat e45 e5 (sz (by rw [List.length_map, List.length_take]; show 2 + _ ≤ _; omega)) (fun p6 H6 hp6 s6 e6 => ?_)
      walk_at "r"
      refine i_sortedI (ns := e :: mk :: fs.take (t - 3).toNat) (sl_of e6) (fun ms p7 H7 hms hpw hp7 s7 e7 => ?_)
      have s37 := ((s4.trans s5).trans s6).trans s7
      have d7 := d3.same s37
      have ep7 := s37 _ _ ep3
      have n7d : p7 ≠ d := ((((d3.same s4).same s5).same s6)).ne hp7
      have ftk := (List.take_sublist (t - 3).toNat fs).trans hfs
      have lms : ms.length = 2 + (fs.take (t - 3).toNat).length := by
        rw [hms.length_eq]
        simp only [List.length_cons]
        omega
      have lms2 : ms.length ≤ (plainL t e).length := by
        rw [lms, List.length_take]
        omega
      have mms : ∀ s ∈ ms, 0 ≤ s ∧ s < t := fun s hs => by
        rcases List.mem_cons.mp (hms.subset hs) with rfl | hs
        · exact ⟨h0, h1⟩
        · rcases List.mem_cons.mp hs with rfl | hs
          · exact ⟨pmk.1, pmk.2.1⟩
          · have z := plain_mem.mp (ftk.subset hs)
            exact ⟨z.1, z.2.1⟩
      have ndm : ms.Nodup := by
        rw [hms.nodup_iff, List.nodup_cons, List.nodup_cons]
        refine ⟨fun m => ?_, fun m => ?_, (plain_nodup t e).sublist ftk⟩
        · rcases List.mem_cons.mp m with z | m
          · exact pmk.2.2 z.symm
          · exact (plain_mem.mp (ftk.subset m)).2.2 rfl
        · exact hm ((List.take_sublist _ _).subset m)
      walk_at "r"
      refine ⟨d, pl, _, rfl, d7, sl_of ep7, fun v hv => ?_, by rw [List.length_map]; omega, fun p8 H8 ys hp8 s8 d8 e8 pp => ?_⟩
      · obtain ⟨z, _, rfl⟩ := List.mem_map.mp hv
        exact fl_int z
      obtain ⟨cs, rfl, pc⟩ := perm_map_inv pp _ rfl
      have e78 := s8 _ _ ((hide_ne n7d).trans e7)
      have lcs := pc.length_eq
      have s08 : Same (hide d H) H8 := hide_tr (s03.trans s37) s8
      walk_at "r"
      refine i_lcRI (fun D j acc H' => ∃ as : List Addr, acc = as.map V.ref ∧ PairsAt K (tp H') as ((ms.zip cs).take j) ∧ Same H8 H' ∧ H' D = some (.lst acc)) ⟨by omega, by omega⟩
        (fun D hD => ⟨[], rfl, by rw [List.take_zero]; trivial, same_new hD, upd_same⟩) (fun D j acc H' hD hj hl pv => ?_) (fun lp acc H9 hlp pv => ?_)
      · obtain ⟨as, rfl, ht, s9, e9⟩ := pv
        have hj1 : j < ms.length := by omega
        have hj2 : j < cs.length := by omega
        have g1 : atI (ms.map V.int) (j : Int) = some (.int ms[j]) := atI_nat (by rw [List.getElem?_map, List.getElem?_eq_getElem hj1]; rfl)
        have g2 : atI (cs.map V.int) (j : Int) = some (.int cs[j]) := atI_nat (by rw [List.getElem?_map, List.getElem?_eq_getElem hj2]; rfl)
        have e79 := s9 _ _ e78
        have e89 := s9 _ _ e8
        walk_at "r"
        refine i_tup (by show 2 ≤ sizeLine; decide) (fun a H10 ha s10 e10 => ?_)
        have e11 := s10 _ _ e9
        refine kY_of e11 hl (by omega) ⟨as ++ [a], by rw [List.map_append]; rfl, ?_, smut (s9.trans s10) hD, upd_same⟩
        have zz : (ms.zip cs)[j]? = some (ms[j], cs[j]) := by
          rw [List.getElem?_eq_getElem (by rw [List.length_zip]; omega), List.getElem_zip]
        rw [take_succ' zz]
        exact PairsAt.snoc ((ht.same (tp_pure s10)).same (tp_put e11)) (stup (tp_put e11) (tp_sqt e10))
      · obtain ⟨as, rfl, ht, s9, e9⟩ := pv
        rw [Int.toNat_natCast, List.take_of_length_le (by rw [List.length_zip]; omega)] at ht
        walk_at "r"
        refine i_tupOf (sl_of e9) (fun p10 H10 hp10 s10 e10 => ?_)
        walk_at "r"
        refine i_tup (by show 5 ≤ sizeLine; decide) (fun p11 H11 hp11 s11 e11 => ?_)
        have s8e := (s9.trans s10).trans s11
        have fst : (ms.zip cs).map (·.1) = ms := zip_fst ms cs (by omega)
        have snd : (ms.zip cs).map (·.2) = cs.take ms.length := zip_snd ms cs (by omega)
        refine q H11 p11 (.escapes mk (ms.zip cs)) (s08.trans s8e) (d8.same s8e) ⟨p10, as, tp_sqt e11, tp_sqt (s11 _ _ e10), ht.same (tp_pure (s10.trans s11))⟩ ⟨pmk, ?_, ?_, ?_, ?_, ?_, ?_⟩
        · rw [fst]
          exact lt_of_le_nodup hpw ndm
        · rw [fst]
          exact mms
        · rw [fst]
          exact hms.symm.subset List.mem_cons_self
        · rw [fst]
          exact hms.symm.subset (List.mem_cons_of_mem _ List.mem_cons_self)
        · rw [snd]
          exact fun c hc => plain_mem.mp (pc.subset ((List.take_sublist _ _).subset hc))
        · rw [snd]
          exact ((pc.nodup_iff.mpr (plain_nodup t e))).sublist (List.take_sublist _ _)
end
end Esc

namespace Esc
open PySem PySem.Spec PyProof.Rows L2
section
variable {P : Program} {w : World} {K : PySem.W.Frag} {mg : Str → Option Value} {base : Heap}
def spBaseT (K : PySem.W.Frag) : Sp := fun vs H Q _ => ∃ (d : Addr) (t : Int), vs = [.ref d, .int t] ∧ DiceAt H d ∧ 3 ≤ t ∧ t ≤ 16 ∧ ∀ (H' : Hp) (p : Addr) (e : Int) (k : Kind), 0 ≤ e → e < t → Same (hide d H) H' → DiceAt H' d → KindAt K (tp H') p t e k → KindOk t e k → Q (.ref p) H'
theorem c_base (Z : Blt mg) (c__law_off : C8.Cal P w K mg base 1 "_law_off" spOff []) (c__law_codes : C8.Cal P w K mg base 3 "_law_codes" (spBase K) []) (c__law_escapes : C8.Cal P w K mg base 3 "_law_escapes" (spBase K) []) (d : Dd K mg "_law_base" s__law_base P__law_base) : C8.Cal P w K mg base 4 "_law_base" (spBaseT K) [] := by
  refine d.cal sc__law_base (fun vs H Q E h => ?_) (fun f cdv A outer s H vs Q E hr h => ?_)
  · obtain ⟨d, t, rfl, _⟩ := h
    rfl
  · obtain ⟨d, t, rfl, hd, h3, h16, q⟩ := h
    have nd := sc__law_base.nd
    refine ⟨_, (pss_cons (ps_set (i := 2) nd rfl (Or.inl rfl) (C8.pe_c c__law_off hr (by decide) (by rfl) (pa_cons (pv 0) (pa_cons (pv 1) pa_nil))))
  (pss_cons (ps_set (i := 3) nd rfl (Or.inl rfl) (C8.pe_c c__law_off hr (by decide) (by rfl) (pa_cons (pv 0) (pa_cons pe_int pa_nil))))
  (pss_cons (ps_if (pt_cmpR op_lt (pv 3) pe_int (nomark _)) (pss_one (ps_ret (C8.pe_c c__law_codes hr (by decide) (by rfl) (pa_cons (pv 0) (pa_cons (pv 1) (pa_cons (pv 2) pa_nil)))))) pss_nil)
  (pss_cons (ps_if (pt_cmpR op_eq (pv 3) pe_int (nomark _)) (pss_one (ps_ret (C8.pe_c c__law_escapes hr (by decide) (by rfl) (pa_cons (pv 0) (pa_cons (pv 1) (pa_cons (pv 2) pa_nil)))))) pss_nil)
  (pss_cons (ps_if (pt_cmpR op_eq (pv 3) pe_int (nomark _)) (pss_one (ps_ret (pe_tup (pa_cons pe_str (pa_cons (pv 1) (pa_cons (pv 2) pa_nil)))))) pss_nil)
  (pss_one (ps_ret (pe_tup (pa_cons pe_str (pa_cons (pv 1) (pa_cons (pv 2) (pa_cons (pe_ifExp (pt_cmpR op_gt (pv 1) pe_int (nomark _)) (pe_ix ix_list (pe_lst (pa_cons pe_int (pa_cons pe_int (pa_cons (pe_op op_sub (pv 1) pe_int) (pa_cons (pe_op op_add pe_int (C8.pe_c c__law_off hr (by decide) (by rfl) (pa_cons (pv 0) (pa_cons (pe_op op_sub (pv 1) pe_int) pa_nil)))) pa_nil))))) (C8.pe_c c__law_off hr (by decide) (by rfl) (pa_cons (pv 0) (pa_cons pe_int pa_nil))) (fun _ _ => rfl)) pe_int) pa_nil)))))))))))), ?_⟩
    refine i_start (σ' := [some (.ref d), some (.int t), none, none]) rfl ?_
    walk_at "go"
    walk_at "r"
    refine ⟨d, t, rfl, by omega, by omega, hd, fun H1 e s1 d1 e0 e1 => ?_⟩
    walk_at "r"
    refine ⟨d, 7, rfl, by decide, by decide, d1, fun H2 n s2 d2 n0 n1 => ?_⟩
    have s02 := hide_tr s1 s2
    walk_at "r"
    refine i_br (fun _ => ?_) (fun _ => ?_)
    · walk_at "r"
      exact ⟨d, t, e, rfl, d2, h3, h16, e0, e1, fun H3 p k s3 d3 a b => q H3 p e k e0 e1 (hide_tr s02 s3) d3 a b⟩
    · walk_at "r"
      refine i_br (fun _ => ?_) (fun _ => ?_)
      · walk_at "r"
        exact ⟨d, t, e, rfl, d2, h3, h16, e0, e1, fun H3 p k s3 d3 a b => q H3 p e k e0 e1 (hide_tr s02 s3) d3 a b⟩
      · walk_at "r"
        refine i_br (fun _ => ?_) (fun _ => ?_)
        · walk_at "r"
          refine i_tup (by show 3 ≤ sizeLine; decide) (fun p H3 hp s3 e3 => ?_)
          exact q H3 p e .ranks e0 e1 (s02.trans s3) (d2.same s3) (tp_sqt e3) trivial
        · walk_at "r"
          have fin : ∀ (H3 : Hp) (l : Int), 2 ≤ l → l < t → Same (hide d H) H3 → DiceAt H3 d → kTup Q [.str "counts", .int t, .int e, .int l] H3 := fun H3 l l2 lt s3 d3 =>
            i_tup (by show 4 ≤ sizeLine; decide) (fun p H4 hp s4 e4 => q H4 p e (.counts l) e0 e1 (s3.trans s4) (d3.same s4) (tp_sqt e4) ⟨l2, lt⟩)
          refine i_br (fun ht => ?_) (fun _ => ?_)
          · walk_at "r"
            refine ⟨d, t - 2, rfl, by omega, by omega, d2, fun H3 m s3 d3 m0 m1 => ?_⟩
            walk_at "r"
            refine i_lst (by show 4 ≤ sizeLine; decide) (fun l H4 hl s4 e4 => ?_)
            have nld : l ≠ d := d3.ne hl
            walk_at "r"
            refine ⟨d, 4, rfl, by decide, by decide, d3.same s4, fun H5 j s5 d5 j0 j1 => ?_⟩
            have e5 := s5 _ _ ((hide_ne nld).trans e4)
            have s05 : Same (hide d H) H5 := hide_tr ((hide_tr s02 s3).trans s4) s5
            have hv : ∃ v : Int, 2 ≤ v ∧ v < t ∧ atI [V.int 2, .int 3, .int (t - 1), .int (2 + m)] j = some (.int v) := by
              have hj : j = 0 ∨ j = 1 ∨ j = 2 ∨ j = 3 := by omega
              rcases hj with rfl | rfl | rfl | rfl
              · exact ⟨2, by omega, by omega, atI_nat (j := 0) rfl⟩
              · exact ⟨3, by omega, by omega, atI_nat (j := 1) rfl⟩
              · exact ⟨t - 1, by omega, by omega, atI_nat (j := 2) rfl⟩
              · exact ⟨2 + m, by omega, by omega, atI_nat (j := 3) rfl⟩
            obtain ⟨v, v2, vt, hv⟩ := hv
            walk_at "r"
            exact fin H5 v v2 vt s05 d5
          · walk_at "r"
            exact fin H2 2 (by omega) (by omega) s02 d2
def spWay (K : PySem.W.Frag) : Sp := fun vs H Q _ => ∃ (d : Addr), vs = [.ref d] ∧ DiceAt H d ∧ ∀ (H' : Hp) (v : V) (wy : Way), wy.Ok → Same (hide d H) H' → DiceAt H' d → WayAt K (tp H') v wy → Q v H'
theorem c_way (c__law_size : C8.Cal P w K mg base 2 "_law_size" spSize []) (c__law_base : C8.Cal P w K mg base 4 "_law_base" (spBaseT K) []) (c__law_turned : C8.Cal P w K mg base 3 "_law_turned" (spTurned K) []) (d : Dd K mg "_law_way" s__law_way P__law_way) : C8.Cal P w K mg base 5 "_law_way" (spWay K) [] := by
  refine d.cal sc__law_way (fun vs H Q E h => ?_) (fun f cdv A outer s H vs Q E hr h => ?_)
  · obtain ⟨d, rfl, _⟩ := h
    rfl
  · obtain ⟨d, rfl, hd, q⟩ := h
    have nd := sc__law_way.nd
    refine ⟨_, (pss_one (ps_ret (C8.pe_c c__law_turned hr (by decide) (by rfl) (pa_cons (pv 0) (pa_cons (C8.pe_c c__law_base hr (by decide) (by rfl) (pa_cons (pv 0) (pa_cons (C8.pe_c c__law_size hr (by decide) (by rfl) (pa_cons (pv 0) pa_nil)) pa_nil))) (pa_cons pe_int pa_nil)))))), ?_⟩
    refine i_start (σ' := [some (.ref d)]) rfl ?_
    walk_at "go"
    walk_at "r"
    refine ⟨d, rfl, hd, fun H1 t s1 d1 t3 t16 => ?_⟩
    walk_at "r"
    refine ⟨d, t, rfl, d1, t3, t16, fun H2 p e k e0 e1 s2 d2 hk ok => ?_⟩
    walk_at "r"
    refine ⟨d, .ref p, 3, ⟨[], t, e, k⟩, rfl, by decide, by decide, d2, ⟨[], p, rfl, rfl, hk⟩, t3, t16, fun H3 u ts s3 d3 lt hts hw => ?_⟩
    rw [List.append_nil] at hw
    exact q H3 u ⟨ts, t, e, k⟩ ⟨lt, t3, t16, e0, e1, ok, hts⟩ (hide_tr (hide_tr s1 s2) s3) d3 hw
end
end Esc

namespace Esc
open PySem PySem.Spec PyProof.Rows L2
theorem count_pw (t : Int) : (countL t).Pairwise (· ≤ ·) := by
  unfold countL
  rw [List.pairwise_map]
  exact List.pairwise_lt_range.imp fun h => by omega
theorem perm_count {t : Int} {ms ns : List Int} (p : ns.Perm (countL t)) (q : ms.Perm ns) (h : ms.Pairwise (· ≤ ·)) : ms = countL t := List.Perm.eq_of_pairwise (fun a b _ _ h1 h2 => by omega) h (count_pw t) (q.trans p)
section
variable {P : Program} {w : World} {K : PySem.W.Frag} {mg : Str → Option Value} {base : Heap}
instance {t e n : Int} : Decidable (Plain t e n) := by unfold Plain; exact inferInstance
def spPlainI : Sp := fun vs H Q _ => ∃ n t e : Int, vs = [.int n, .int t, .int e] ∧ Q (.bl (decide (Plain t e n))) H
theorem c_is_plain (c_is_sign : C8.Cal P w K mg base 2 "is_sign" spSignI []) (d : Dd K mg "is_plain" s_is_plain P_is_plain) : C8.Cal P w K mg base 3 "is_plain" spPlainI [] := by
  refine d.cal sc_is_plain (fun vs H Q E h => ?_) (fun f cdv A outer s H vs Q E hr h => ?_)
  · obtain ⟨n, t, e, rfl, _⟩ := h
    rfl
  · obtain ⟨n, t, e, rfl, q⟩ := h
    have nd := sc_is_plain.nd
    refine ⟨_, (pss_one (ps_ret (pe_and (C8.pe_c c_is_sign hr (by decide) (by rfl) (pa_cons (pv 0) (pa_cons (pv 1) pa_nil))) (pe_one (pe_cmpR op_ne (pv 0) (pv 2) (nomark _)))))), ?_⟩
    refine i_start (σ' := [some (.int n), some (.int t), some (.int e)]) rfl ?_
    walk_at "go"
    walk_at "r"
    refine ⟨n, t, rfl, ?_⟩
    walk_at "r"
    refine i_br (fun h1 => ?_) (fun h1 => ?_)
    · walk_at "r"
      rw [show (!decide (n = e)) = decide (Plain t e n) by
        by_cases h : n = e
        · rw [decide_eq_true h, decide_eq_false (fun z => z.2.2 h)]
          rfl
        · rw [decide_eq_false h, decide_eq_true ⟨h1.1, h1.2, h⟩]
          rfl]
      exact q
    · walk_at "r"
      rw [decide_eq_false (fun z => h1 ⟨z.1, z.2.1⟩)] at q
      exact q
/-! ### counts -/
def spCountsF (K : PySem.W.Frag) : Sp := fun vs H Q _ => ∃ (p : Addr) (t e l : Int) (x : Str), vs = [.ref p] ∧ SqT K H p [.str x, .int t, .int e, .int l] ∧ 2 ≤ l ∧ l < t ∧ Q .non H
theorem c_counts_fault (c_is_whole : C8.Cal P w K mg base 1 "is_whole" spWholeI []) (d : Dd K mg "counts_fault" s_counts_fault P_counts_fault) : C8.Cal P w K mg base 2 "counts_fault" (spCountsF K) [] := by
  refine d.cal sc_counts_fault (fun vs H Q E h => ?_) (fun f cdv A outer s H vs Q E hr h => ?_)
  · obtain ⟨p, t, e, l, x, rfl, _⟩ := h
    rfl
  · obtain ⟨p, t, e, l, x, rfl, hp, h2, hl, q⟩ := h
    have nd := sc_counts_fault.nd
    refine ⟨_, (pss_cons (ps_asg (pv 0) (pg_tup rfl (pgs_cons (pg_name (i := 1) nd rfl (Or.inl rfl)) (pgs_cons (pg_name (i := 2) nd rfl (Or.inl rfl)) (pgs_cons (pg_name (i := 3) nd rfl (Or.inl rfl)) (pgs_cons (pg_name (i := 4) nd rfl (Or.inl rfl)) pgs_nil))))))
  (pss_one (ps_ret (pe_ifExp (PW.pt (pw_and (pt_val (C8.pe_c c_is_whole hr (by decide) (by rfl) (pa_cons (pv 4) pa_nil))) (pw_and1 (pt_chain op_le op_lt pe_int (pv 4) (pv 2))))) pe_non pe_str)))), ?_⟩
    refine i_start (σ' := [some (.ref p), none, none, none, none]) rfl ?_
    walk_at "go"
    walk_at "r"
    refine ⟨l, rfl, ?_⟩
    walk_at "r"
    rw [decide_eq_true h2]
    walk_at "r"
    rw [decide_eq_true hl]
    walk_at "r"
    exact q
/-! ### turned ones -/
def spFirstT (K : PySem.W.Frag) : Sp := fun vs H Q _ => ∃ (a : Addr) (ns : List Int) (t : Int), vs = [.ref a, .int t] ∧ SqT K H a (ns.map V.int) ∧ (∀ n ∈ ns, 0 ≤ n ∧ n < t) ∧ ∀ H', Same H H' → Q .non H'
theorem c_first_unsignedT (Z : Blt mg) (c_is_sign : C8.Cal P w K mg base 2 "is_sign" spSignI []) (d : Dd K mg "first_unsigned" s_first_unsigned P_first_unsigned) : C8.Cal P w K mg base 3 "first_unsigned" (spFirstT K) [] := by
  refine d.cal sc_first_unsigned (fun vs H Q E h => ?_) (fun f cdv A outer s H vs Q E hr h => ?_)
  · obtain ⟨a, ns, t, rfl, _⟩ := h
    rfl
  · obtain ⟨a, ns, t, rfl, ha, hn, q⟩ := h
    have nd := sc_first_unsigned.nd
    refine ⟨_, (pss_cons (ps_for PassesOwn.never rfl (pi_enT rfl Z.enumerate_ (pa_cons (pv 0) pa_nil)) (pg_tup rfl (pgs_cons (pg_name (i := 2) nd rfl (Or.inl rfl)) (pgs_cons (pg_name (i := 3) nd rfl (Or.inl rfl)) pgs_nil)))
    (pss_one (ps_if (pt_not (pt_val (C8.pe_c c_is_sign hr (by decide) (by rfl) (pa_cons (pv 3) (pa_cons (pv 1) pa_nil))))) (pss_one (ps_ret (pv 2))) pss_nil)))
  (pss_one (ps_ret pe_non))), ?_⟩
    refine i_start (σ' := [some (.ref a), some (.int t), none, none]) rfl ?_
    walk_at "go"
    walk_at "r"
    refine i_enumT ha (fun i σ' H' => ∃ x y, σ' = [some (.ref a), some (.int t), x, y] ∧ Same H H') ⟨_, _, rfl, Same.refl _⟩ (fun i σ' H' _ ⟨_, _, _, s1⟩ => stup s1 ha) (fun i x σ' H1 T H2 hi p hT s2 eT => ?_) (fun σ' H1 p => ?_)
    · obtain ⟨y1, y2, rfl, s1⟩ := p
      obtain ⟨n, hn1, rfl⟩ := List.mem_map.mp (List.mem_of_getElem? hi)
      walk_at "r"
      refine ⟨n, t, rfl, ?_⟩
      rw [decide_eq_true (hn n hn1)]
      walk_at "r"
      exact ⟨_, _, rfl, s1.trans s2⟩
    · obtain ⟨y1, y2, rfl, s1⟩ := p
      walk_at "r"
      exact q _ s1
def spTurnT (K : PySem.W.Frag) : Sp := fun vs H Q _ => ∃ (a : Addr) (ns : List Int) (t : Int), vs = [.ref a, .int t] ∧ SqT K H a (ns.map V.int) ∧ ns.Perm (countL t) ∧ 0 ≤ t ∧ t ≤ 1000 ∧ ∀ H', Same H H' → Q (.bl true) H'
theorem c_is_turning (Z : Blt mg) (c_first_unsigned : C8.Cal P w K mg base 3 "first_unsigned" (spFirstT K) []) (d : Dd K mg "is_turning" s_is_turning P_is_turning) : C8.Cal P w K mg base 4 "is_turning" (spTurnT K) [] := by
  refine d.cal sc_is_turning (fun vs H Q E h => ?_) (fun f cdv A outer s H vs Q E hr h => ?_)
  · obtain ⟨a, ns, t, rfl, _⟩ := h
    rfl
  · obtain ⟨a, ns, t, rfl, ha, hp, h0, h1, q⟩ := h
    have nd := sc_is_turning.nd
    refine ⟨_, (pss_one (ps_ret (pe_and (pe_cmpR k_isN (C8.pe_c c_first_unsigned hr (by decide) (by rfl) (pa_cons (pv 0) (pa_cons (pv 1) pa_nil))) pe_non (nomark _)) (pe_one (pe_cmpR (op_eqD hr.units) (pe_callB cr_sortedIT (by rfl) Z.sorted_ (by decide +kernel) (pa_cons (pv 0) pa_nil)) (pe_listRg rfl rfl Z.list_ (prg_1 rfl Z.range_ (pv 1))) (nomark _)))))), ?_⟩
    refine i_start (σ' := [some (.ref a), some (.int t)]) rfl ?_
    walk_at "go"
    walk_at "r"
    refine ⟨a, ns, t, rfl, ha, fun n hn => count_mem.mp (hp.subset hn), fun H1 s1 => ?_⟩
    have ha1 := stup s1 ha
    walk_at "r"
    rw [decide_eq_true rfl]
    walk_at "r"
    refine i_sortedIT ha1 (fun ms p2 H2 hms hpw hp2 s2 e2 => ?_)
    rw [perm_count hp hms hpw] at e2
    walk_at "r"
    refine i_lstRg ⟨h0, by omega⟩ (fun p3 H3 hp3 s3 e3 => ?_)
    rw [rg_count] at e3
    have e23 := s3 _ _ e2
    walk_at "r"
    refine i_eqL (sl_of e23) (sl_of e3) ?_
    rw [decide_eq_true rfl]
    exact q _ ((s1.trans s2).trans s3)
end
end Esc

namespace Esc
open PySem PySem.Spec PyProof.Rows L2
theorem cut_all (xs : List V) {lo hi : Option Int} (h1 : HT.sIx xs.length 0 lo = 0) (h2 : HT.sIx xs.length xs.length hi = xs.length) : cutV xs lo hi = xs := by
  unfold cutV
  rw [h1, h2, Nat.sub_zero, List.drop_zero, List.take_length]
theorem i_slA {K : PySem.W.Frag} {H : Hp} {Q : VK} {a : Addr} {xs : List V} {lo hi : Option Int} (h : SqT K H a xs) (q : ∀ p H', Same H H' → SqT K H' p (cutV xs lo hi) → Q (.ref p) H') : rSlA K (.ref a) lo hi H Q :=
  ⟨a, xs, rfl, h, fun ⟨h1, h2⟩ => q a H (Same.refl _) (by rw [cut_all xs h1 h2]; exact h), fun _ p hp => q p _ (same_new hp) (st_of upd_same)⟩
theorem dp_intsT {K : PySem.W.Frag} {H : Hp} {a : Addr} {xs : List Int} (h : SqT K H a (xs.map V.int)) : Dp K H (.ref a) (intsT xs) := .tup h (dpa_ints xs)
theorem i_eqT {K : PySem.W.Frag} {H : Hp} {Q : VK} {a b : Addr} {xs ys : List Int} (h : SqT K H a (xs.map V.int)) (h' : SqT K H b (ys.map V.int)) (q : Q (.bl (decide (xs = ys))) H) : rEqD K (.ref a) (.ref b) H Q :=
  ⟨_, _, dp_intsT h, dp_intsT h', shaped_intsT xs, shaped_intsT ys, by rw [eqv_intsT]; exact q⟩
theorem all_yes {α : Type} : ∀ xs : List α, xs.filterMap (fun _ => some (V.bl true)) = (List.replicate xs.length true).map V.bl
  | [] => rfl
  | x :: xs => by
    rw [List.filterMap_cons, all_yes xs]
    rfl
theorem all_true (n : Nat) : (List.replicate n true).all id = true := by simp
theorem apart_take {c o : List Int} (h : Apart c o) {m : Nat} (hm : m = c.length ∨ m = o.length) : c.take m ≠ o.take m := fun z => by
  rcases hm with rfl | rfl
  · rw [List.take_length] at z
    exact h.1 (z ▸ List.take_prefix _ _)
  · rw [List.take_length] at z
    exact h.2 (z ▸ List.take_prefix _ _)
section
variable {P : Program} {w : World} {K : PySem.W.Frag} {mg : Str → Option Value} {base : Heap}
def spCodeI (K : PySem.W.Frag) : Sp := fun vs H Q _ => ∃ (a : Addr) (c : List Int) (t e : Int), vs = [.ref a, .int t, .int e] ∧ SqT K H a (c.map V.int) ∧ 1 ≤ c.length ∧ c.length ≤ 4 ∧ (∀ x ∈ c, Plain t e x) ∧ ∀ H', Same H H' → Q (.bl true) H'
theorem c_is_code (Z : Blt mg) (c_is_plain : C8.Cal P w K mg base 3 "is_plain" spPlainI []) (m_LONGEST_CODE : ∃ u, mg "LONGEST_CODE" = some u ∧ RelV (.int 4) u) (d : Dd K mg "is_code" s_is_code P_is_code) : C8.Cal P w K mg base 4 "is_code" (spCodeI K) [] := by
  refine d.cal sc_is_code (fun vs H Q E h => ?_) (fun f cdv A outer s H vs Q E hr h => ?_)
  · obtain ⟨a, c, t, e, rfl, _⟩ := h
    rfl
  · obtain ⟨a, c, t, e, rfl, ha, h1, h4, hp, q⟩ := h
    have nd := sc_is_code.nd
    refine ⟨_, (pss_one (ps_ret (pe_and (pe_chain op_le op_le pe_int (pe_callB k_len (by rfl) Z.len_ (by decide +kernel) (pa_cons (pv 0) pa_nil)) (C8.pe_gc rfl m_LONGEST_CODE)) (pe_one (pe_callB (cr_all rfl) (by rfl) Z.all_ (by decide +kernel) (pa_cons (pe_lc (own := [("sign", 3)]) (g := gName 3) (tt := tYes) rfl nd (pi_tup (pv 0)) (blkOk_by (N := N_is_code) (sc := C8.fnScope s_is_code) (own := [("sign", 3)]) (by decide +kernel)) (fun _ _ _ _ _ => (pg_name (i := 3) nd rfl (Or.inl rfl))) (fun _ _ _ _ _ => pts_nil) (fun _ _ _ _ _ => (C8.pe_c c_is_plain hr (by decide) (by rfl) (pa_cons (pv 3) (pa_cons (pv 1) (pa_cons (pv 2) pa_nil)))))) pa_nil)))))), ?_⟩
    refine i_start (σ' := [some (.ref a), some (.int t), some (.int e), none]) rfl ?_
    walk_at "go"
    walk_at "r"
    rw [decide_eq_true (by rw [List.length_map]; omega)]
    walk_at "r"
    rw [decide_eq_true (by rw [List.length_map]; omega)]
    walk_at "r"
    refine i_lcT (F := fun _ => some (V.bl true)) ha (by rw [List.length_map]; omega) (fun v hv H1 s1 QN QY hN hY => ?_) (fun p H1 hp1 s1 e1 => ?_)
    · obtain ⟨n, hn, rfl⟩ := List.mem_map.mp hv
      walk_at "r"
      refine ⟨n, t, e, rfl, ?_⟩
      rw [decide_eq_true (hp n hn)]
      exact hY _ rfl _ (Same.refl _)
    · rw [all_yes] at e1
      walk_at "r"
      refine i_all (sl_of e1) ?_
      rw [all_true]
      exact q _ s1
/-! ### codes -/
def spApart (K : PySem.W.Frag) : Sp := fun vs H Q _ => ∃ (a : Addr) (as : List Addr) (cs : List (List Int)), vs = [.ref a] ∧ SqT K H a (as.map V.ref) ∧ TupsAt K H as cs ∧ cs.Pairwise Apart ∧ ∀ H', Same H H' → Q (.bl true) H'
theorem c_stand_apart (Z : Blt mg) (d : Dd K mg "stand_apart" s_stand_apart P_stand_apart) : C8.Cal P w K mg base 1 "stand_apart" (spApart K) [] := by
  refine d.cal sc_stand_apart (fun vs H Q E h => ?_) (fun f cdv A outer s H vs Q E hr h => ?_)
  · obtain ⟨a, as, cs, rfl, _⟩ := h
    rfl
  · obtain ⟨a, as, cs, rfl, ha, ht, hw, q⟩ := h
    have nd := sc_stand_apart.nd
    refine ⟨_, (pss_cons (ps_for PassesOwn.never rfl (pi_enT rfl Z.enumerate_ (pa_cons (pv 0) pa_nil)) (pg_tup rfl (pgs_cons (pg_name (i := 1) nd rfl (Or.inl rfl)) (pgs_cons (pg_name (i := 2) nd rfl (Or.inl rfl)) pgs_nil)))
    (pss_one (ps_for PassesOwn.never rfl (pi_tup (pe_slice sl_tupA (pv 0) (po_some (pe_op op_add (pv 1) pe_int)) po_none)) (pg_name (i := 3) nd rfl (Or.inl rfl))
    (pss_cons (ps_set (i := 4) nd rfl (Or.inl rfl) (pe_callB (k_min2 rfl) (by rfl) Z.min_ (by decide +kernel) (pa_cons (pe_callB k_len (by rfl) Z.len_ (by decide +kernel) (pa_cons (pv 2) pa_nil)) (pa_cons (pe_callB k_len (by rfl) Z.len_ (by decide +kernel) (pa_cons (pv 3) pa_nil)) pa_nil))))
  (pss_one (ps_if (pt_cmpR (op_eqD hr.units) (pe_slice sl_tupA (pv 2) po_none (po_some (pv 4))) (pe_slice sl_tupA (pv 3) po_none (po_some (pv 4))) (nomark _)) (pss_one (ps_ret pe_bl)) pss_nil))))))
  (pss_one (ps_ret pe_bl))), ?_⟩
    refine i_start (σ' := [some (.ref a), none, none, none, none]) rfl ?_
    walk_at "go"
    walk_at "r"
    refine i_enumT ha (fun i σ' H' => ∃ x y z u, σ' = [some (.ref a), x, y, z, u] ∧ Same H H') ⟨_, _, _, _, rfl, Same.refl _⟩ (fun i σ' H' _ ⟨_, _, _, _, _, s1⟩ => stup s1 ha) (fun i x σ' H1 T H2 hi p hT s2 eT => ?_) (fun σ' H1 p => ?_)
    · obtain ⟨x1, x2, x3, x4, rfl, s1⟩ := p
      obtain ⟨b, hb, rfl⟩ : ∃ b, as[i]? = some b ∧ x = .ref b := by
        rw [List.getElem?_map] at hi
        cases e : as[i]? with
        | none =>
          rw [e] at hi
          cases hi
        | some b =>
          rw [e] at hi
          exact ⟨b, rfl, (Option.some.inj hi).symm⟩
      obtain ⟨c, hc, hbc⟩ := ht.get hb
      have s12 := s1.trans s2
      have ha2 := stup s12 ha
      have hil := (List.getElem?_eq_some_iff.mp hb).1
      walk_at "r"
      refine i_slA ha2 (fun r H3 s3 e3 => ?_)
      · rw [show (i : Int) + 1 = ((i + 1 : Nat) : Int) by omega, cut_from, ← List.map_drop] at e3
        have s13 := s12.trans s3
        walk_at "r"
        refine i_forT (e3) (fun j σ' H' => ∃ z u, σ' = [some (.ref a), some (.int (i : Nat)), some (.ref b), z, u] ∧ Same H3 H') ⟨_, _, rfl, Same.refl _⟩ (fun j σ' H' _ ⟨_, _, _, s4⟩ => stup s4 (e3)) (fun j x σ' H4 hj p => ?_) (fun σ' H4 p => ?_)
        · obtain ⟨z, u, rfl, s4⟩ := p
          obtain ⟨b2, hb2, rfl⟩ : ∃ b2, (as.drop (i + 1))[j]? = some b2 ∧ x = .ref b2 := by
            rw [List.getElem?_map] at hj
            cases e : (as.drop (i + 1))[j]? with
            | none =>
              rw [e] at hj
              cases hj
            | some b2 =>
              rw [e] at hj
              exact ⟨b2, rfl, (Option.some.inj hj).symm⟩
          rw [List.getElem?_drop] at hb2
          obtain ⟨o, ho, hbo⟩ := ht.get hb2
          have ap : Apart c o := by
            obtain ⟨g1, g2⟩ := List.getElem?_eq_some_iff.mp hc
            obtain ⟨g3, g4⟩ := List.getElem?_eq_some_iff.mp ho
            have z := List.pairwise_iff_getElem.mp hw i (i + 1 + j) g1 g3 (by omega)
            rw [g2, g4] at z
            exact z
          have s14 := s13.trans s4
          have hbc4 := stup s14 hbc
          have hbo4 := stup s14 hbo
          walk_at "r"
          rw [List.length_map, List.length_map]
          obtain ⟨m, hm, em⟩ : ∃ m : Nat, (m = c.length ∨ m = o.length) ∧ (if (o.length : Int) < (c.length : Int) then (o.length : Int) else (c.length : Int)) = (m : Int) := by
            by_cases z : (o.length : Int) < (c.length : Int)
            · exact ⟨o.length, .inr rfl, if_pos z⟩
            · exact ⟨c.length, .inl rfl, if_neg z⟩
          rw [em]
          refine i_slA hbc4 (fun p5 H5 s5 e5 => ?_)
          rw [cut_to, ← List.map_take] at e5
          have hbo5 := stup s5 hbo4
          walk_at "r"
          refine i_slA hbo5 (fun p6 H6 s6 e6 => ?_)
          rw [cut_to, ← List.map_take] at e6
          have e56 := stup s6 e5
          walk_at "r"
          refine i_eqT e56 e6 ?_
          rw [decide_eq_false (apart_take ap hm)]
          walk_at "r"
          exact ⟨_, _, rfl, (s4.trans s5).trans s6⟩
        · obtain ⟨z, u, rfl, s4⟩ := p
          walk_at "r"
          exact ⟨_, _, _, _, rfl, s13.trans s4⟩
    · obtain ⟨x1, x2, x3, x4, rfl, s1⟩ := p
      walk_at "r"
      exact q _ s1
def spCodesF (K : PySem.W.Frag) : Sp := fun vs H Q _ => ∃ (p : Addr) (t e : Int) (cs : List (List Int)), vs = [.ref p] ∧ KindAt K H p t e (.codes cs) ∧ KindOk t e (.codes cs) ∧ 0 ≤ t ∧ t ≤ 1000 ∧ ∀ H', Same H H' → Q .non H'
theorem c_codes_fault (Z : Blt mg) (c_is_code : C8.Cal P w K mg base 4 "is_code" (spCodeI K) []) (c_stand_apart : C8.Cal P w K mg base 1 "stand_apart" (spApart K) []) (d : Dd K mg "codes_fault" s_codes_fault P_codes_fault) : C8.Cal P w K mg base 5 "codes_fault" (spCodesF K) [] := by
  refine d.cal sc_codes_fault (fun vs H Q E h => ?_) (fun f cdv A outer s H vs Q E hr h => ?_)
  · obtain ⟨p, t, e, cs, rfl, _⟩ := h
    rfl
  · obtain ⟨p, t, e, cs, rfl, ⟨c, as, hp, hc, ht⟩, ⟨hl, hok, hap⟩, h0, h1, q⟩ := h
    have nd := sc_codes_fault.nd
    have hlen := ht.len
    refine ⟨_, (pss_cons (ps_asg (pv 0) (pg_tup rfl (pgs_cons (pg_name (i := 1) nd rfl (Or.inl rfl)) (pgs_cons (pg_name (i := 2) nd rfl (Or.inr rfl)) (pgs_cons (pg_name (i := 3) nd rfl (Or.inr rfl)) (pgs_cons (pg_name (i := 4) nd rfl (Or.inl rfl)) pgs_nil))))))
  (pss_cons (ps_if (PW.pt (pw_or (pt_cmpR op_ne (pe_callB k_len (by rfl) Z.len_ (by decide +kernel) (pa_cons (pv 4) pa_nil)) (pv 2) (nomark _)) (pw_or1 (pt_not (pt_val (pe_callB (cr_all rfl) (by rfl) Z.all_ (by decide +kernel) (pa_cons (pe_lc (own := [("code", 5)]) (g := gName 5) (tt := tYes) rfl nd (pi_tup (pv 4)) (blkOk_by (N := N_codes_fault) (sc := C8.fnScope s_codes_fault) (own := [("code", 5)]) (by decide +kernel)) (fun _ _ _ _ _ => (pg_name (i := 5) nd rfl (Or.inl rfl))) (fun _ _ _ _ _ => pts_nil) (fun _ _ _ _ _ => (C8.pe_c c_is_code hr (by decide) (by rfl) (pa_cons (pv 5) (pa_cons (pv 2) (pa_cons (pv 3) pa_nil)))))) pa_nil))))))) (pss_one (ps_ret pe_str)) pss_nil)
  (pss_one (ps_ret (pe_ifExp (pt_val (C8.pe_c c_stand_apart hr (by decide) (by rfl) (pa_cons (pv 4) pa_nil))) pe_non pe_str))))), ?_⟩
    refine i_start (σ' := [some (.ref p), none, none, none, none, none]) rfl ?_
    walk_at "go"
    walk_at "r"
    rw [decide_eq_true (by rw [List.length_map]; omega), Bool.not_true]
    walk_at "r"
    refine i_lcT (F := fun _ => some (V.bl true)) hc (by rw [List.length_map]; omega) (fun v hv H1 s1 QN QY hN hY => ?_) (fun p2 H1 hp2 s1 e1 => ?_)
    · obtain ⟨a, ha, rfl⟩ := List.mem_map.mp hv
      obtain ⟨x, hx, hax⟩ := ht.mem ha
      have z := hok x hx
      walk_at "r"
      exact ⟨a, x, t, e, rfl, stup s1 hax, z.1, z.2.1, z.2.2, fun H2 s2 => hY _ rfl _ s2⟩
    · rw [all_yes] at e1
      walk_at "r"
      refine i_all (sl_of e1) ?_
      rw [all_true]
      walk_at "r"
      refine ⟨c, as, cs, rfl, stup s1 hc, ht.same s1, hap, fun H2 s2 => ?_⟩
      walk_at "r"
      exact q _ (s1.trans s2)
end
end Esc

namespace Esc
open PySem PySem.Spec PyProof.Rows L2
section
variable {P : Program} {w : World} {K : PySem.W.Frag} {mg : Str → Option Value} {base : Heap}
theorem nodup_sub : ∀ {l m : List Int}, l.Nodup → (∀ x ∈ l, x ∈ m) → l.length ≤ m.length
  | [], _, _, _ => Nat.zero_le _
  | a :: l, m, hn, h => by
    obtain ⟨n1, n2⟩ := List.nodup_cons.mp hn
    have ha := h a List.mem_cons_self
    have ih := nodup_sub (m := m.erase a) n2 fun x hx => (List.mem_erase_of_ne (fun z => n1 (by rw [← z]; exact hx) : x ≠ a)).mpr (h x (List.mem_cons_of_mem _ hx))
    rw [List.length_erase_of_mem ha] at ih
    have := List.length_pos_of_mem ha
    rw [List.length_cons]
    omega
theorem nodup_bound {t e : Int} {cs : List Int} (hn : cs.Nodup) (hp : ∀ c ∈ cs, Plain t e c) (h16 : t ≤ 16) : cs.length ≤ 16 := by
  have sub : cs.length ≤ (countL t).length := nodup_sub hn fun c hc => count_mem.mpr ⟨(hp c hc).1, (hp c hc).2.1⟩
  rw [count_len] at sub
  omega
def spEscF (K : PySem.W.Frag) : Sp := fun vs H Q _ => ∃ (p : Addr) (t e m : Int) (prs : List (Int × Int)), vs = [.ref p] ∧ KindAt K H p t e (.escapes m prs) ∧ KindOk t e (.escapes m prs) ∧ 0 ≤ t ∧ t ≤ 16 ∧ ∀ H', Same H H' → Q .non H'
theorem c_escapes_fault (Z : Blt mg) (c_is_plain : C8.Cal P w K mg base 3 "is_plain" spPlainI []) (c_first_unsigned : C8.Cal P w K mg base 3 "first_unsigned" (spFirst K) []) (d : Dd K mg "escapes_fault" s_escapes_fault P_escapes_fault) : C8.Cal P w K mg base 4 "escapes_fault" (spEscF K) [] := by
  refine d.cal sc_escapes_fault (fun vs H Q E h => ?_) (fun f cdv A outer s H vs Q E hr h => ?_)
  · obtain ⟨p, t, e, m, prs, rfl, _⟩ := h
    rfl
  · obtain ⟨p, t, e, m, prs, rfl, ⟨c, as, hp, hc, ht⟩, ⟨hm, hw, hr0, he1, hm1, hcp, hcn⟩, h0, h16, q⟩ := h
    have nd := sc_escapes_fault.nd
    have hlen := ht.len
    have lp : prs.length ≤ 16 := by
      have z := nodup_bound hcn hcp h16
      rw [List.length_map] at z
      exact z
    refine ⟨_, (pss_cons (ps_asg (pv 0) (pg_tup rfl (pgs_cons (pg_name (i := 1) nd rfl (Or.inl rfl)) (pgs_cons (pg_name (i := 2) nd rfl (Or.inr rfl)) (pgs_cons (pg_name (i := 3) nd rfl (Or.inr rfl)) (pgs_cons (pg_name (i := 4) nd rfl (Or.inl rfl)) (pgs_cons (pg_name (i := 5) nd rfl (Or.inl rfl)) pgs_nil)))))))
  (pss_cons (ps_if (pt_not (pt_val (C8.pe_c c_is_plain hr (by decide) (by rfl) (pa_cons (pv 4) (pa_cons (pv 2) (pa_cons (pv 3) pa_nil)))))) (pss_one (ps_ret pe_str)) pss_nil)
  (pss_cons (ps_setLc (i := 6) (own := [("sign", 9), ("code", 8)]) (g := gTup K 2 (gCons (gName 9) (gCons (gName 8) gNil))) (tt := tYes) rfl nd rfl rfl (sw_true rfl rfl rfl (by decide +kernel)) (pi_tup (pv 5)) (blkOk_by (N := N_escapes_fault) (sc := C8.fnScope s_escapes_fault) (own := [("sign", 9), ("code", 8)]) (by decide +kernel)) (fun _ _ _ _ _ => (pg_tup rfl (pgs_cons (pg_name (i := 9) nd rfl (Or.inl rfl)) (pgs_cons (pg_name (i := 8) nd rfl (Or.inl rfl)) pgs_nil)))) (fun _ _ _ _ _ => pts_nil) (fun _ _ _ _ _ => (pv 9)))
  (pss_cons (ps_setLc (i := 7) (own := [("sign", 9), ("code", 8)]) (g := gTup K 2 (gCons (gName 9) (gCons (gName 8) gNil))) (tt := tYes) rfl nd rfl rfl (sw_true rfl rfl rfl (by decide +kernel)) (pi_tup (pv 5)) (blkOk_by (N := N_escapes_fault) (sc := C8.fnScope s_escapes_fault) (own := [("sign", 9), ("code", 8)]) (by decide +kernel)) (fun _ _ _ _ _ => (pg_tup rfl (pgs_cons (pg_name (i := 9) nd rfl (Or.inl rfl)) (pgs_cons (pg_name (i := 8) nd rfl (Or.inl rfl)) pgs_nil)))) (fun _ _ _ _ _ => pts_nil) (fun _ _ _ _ _ => (pv 8)))
  (pss_cons (ps_if (PW.pt (pw_or (pt_cmpR k_notN (C8.pe_c c_first_unsigned hr (by decide) (by rfl) (pa_cons (pv 6) (pa_cons (pv 2) pa_nil))) pe_non (nomark _)) (pw_or1 (pt_cmpR (op_neD hr.units) (pv 6) (pe_callB (cr_sortedSet rfl) (by rfl) Z.sorted_ (by decide +kernel) (pa_cons (pe_callTy (cr_setI rfl) (by rfl) Z.set_ (by decide +kernel) (pa_cons (pv 6) pa_nil)) pa_nil)) (nomark _))))) (pss_one (ps_ret pe_str)) pss_nil)
  (pss_cons (ps_if (PW.pt (pw_or (pt_cmpR op_notIn_seq (pv 3) (pv 6) (by rfl)) (pw_or1 (pt_cmpR op_notIn_seq (pv 4) (pv 6) (by rfl))))) (pss_one (ps_ret pe_str)) pss_nil)
  (pss_cons (ps_if (PW.pt (pw_or (pt_not (pt_val (pe_callB (cr_all rfl) (by rfl) Z.all_ (by decide +kernel) (pa_cons (pe_lc (own := [("code", 8)]) (g := gName 8) (tt := tYes) rfl nd (pi_list (pv 7)) (blkOk_by (N := N_escapes_fault) (sc := C8.fnScope s_escapes_fault) (own := [("code", 8)]) (by decide +kernel)) (fun _ _ _ _ _ => (pg_name (i := 8) nd rfl (Or.inl rfl))) (fun _ _ _ _ _ => pts_nil) (fun _ _ _ _ _ => (C8.pe_c c_is_plain hr (by decide) (by rfl) (pa_cons (pv 8) (pa_cons (pv 2) (pa_cons (pv 3) pa_nil)))))) pa_nil)))) (pw_or1 (pt_cmpR op_ne (pe_lenSetI rfl rfl Z.len_ rfl Z.set_ (pv 7)) (pe_callB k_len (by rfl) Z.len_ (by decide +kernel) (pa_cons (pv 7) pa_nil)) (nomark _))))) (pss_one (ps_ret pe_str)) pss_nil)
  (pss_one (ps_ret pe_non))))))))), ?_⟩
    refine i_start (σ' := [some (.ref p), none, none, none, none, none, none, none, none, none]) rfl ?_
    walk_at "go"
    walk_at "r"
    refine ⟨m, t, e, rfl, ?_⟩
    rw [decide_eq_true hm]
    walk_at "r"
    refine i_lcTI (fun D j acc H' => acc = ((prs.take j).map (·.1)).map V.int ∧ Same H H' ∧ H' D = some (.lst acc)) hc
      (fun D hD => ⟨rfl, same_new hD, upd_same⟩) (fun D j acc H' hD pv => stup pv.2.1 hc) (fun D j x acc H' hD hx hl pv => ?_) (fun p1 acc H1 hp1 pv => ?_)
    · obtain ⟨rfl, s1, e1⟩ := pv
      obtain ⟨b, hb, rfl⟩ := ref_get hx
      obtain ⟨pr, hpr, hbp⟩ := ht.get hb
      have hbp1 := stup s1 hbp
      have hj : j < as.length := (List.getElem?_eq_some_iff.mp hb).1
      walk_at "r"
      refine kY_of e1 hl (by omega) ⟨?_, smut s1 hD, upd_same⟩
      rw [take_succ' hpr, List.map_append, List.map_append]
      rfl
    obtain ⟨rfl, s1, e1⟩ := pv
    rw [List.length_map, hlen, List.take_length] at e1
    have hc1 := stup s1 hc
    walk_at "r"
    refine i_lcTI (fun D j acc H' => acc = ((prs.take j).map (·.2)).map V.int ∧ Same H1 H' ∧ H' D = some (.lst acc)) hc1
      (fun D hD => ⟨rfl, same_new hD, upd_same⟩) (fun D j acc H' hD pv => stup pv.2.1 hc1) (fun D j x acc H' hD hx hl pv => ?_) (fun p2 acc H2 hp2 pv => ?_)
    · obtain ⟨rfl, s2, e2⟩ := pv
      obtain ⟨b, hb, rfl⟩ := ref_get hx
      obtain ⟨pr, hpr, hbp⟩ := ht.get hb
      have hbp1 := stup (s1.trans s2) hbp
      have hj : j < as.length := (List.getElem?_eq_some_iff.mp hb).1
      walk_at "r"
      refine kY_of e2 hl (by omega) ⟨?_, smut s2 hD, upd_same⟩
      rw [take_succ' hpr, List.map_append, List.map_append]
      rfl
    obtain ⟨rfl, s2, e2⟩ := pv
    rw [List.length_map, hlen, List.take_length] at e2
    have e12 := s2 _ _ e1
    walk_at "r"
    refine ⟨p1, _, t, rfl, sl_of e12, hr0, fun H3 s3 => ?_⟩
    have e13 := s3 _ _ e12
    have e23 := s3 _ _ e2
    walk_at "r"
    rw [decide_eq_true rfl, Bool.not_true]
    walk_at "r"
    refine i_setI (sl_of e13) (by rw [List.length_map]; omega) (fun p4 c4 H4 hc4 hp4 s4 e4 => ?_)
    rw [List.length_map] at hc4
    walk_at "r"
    refine i_sortedSet e4 (by omega) hw (fun p5 H5 hp5 s5 e5 => ?_)
    have s35 := s4.trans s5
    have e15 := s35 _ _ e13
    have e25 := s35 _ _ e23
    walk_at "r"
    refine i_neL (sl_of e15) (sl_of e5) ?_
    rw [decide_eq_true rfl, Bool.not_true]
    walk_at "r"
    refine i_notInI (sl_of e15) ?_
    rw [decide_eq_true he1, Bool.not_true]
    walk_at "r"
    refine i_notInI (sl_of e15) ?_
    rw [decide_eq_true hm1, Bool.not_true]
    walk_at "r"
    refine i_lcL (F := fun _ => some (V.bl true)) (sl_of e25) (by rw [List.length_map, List.length_map]; omega) (fun v hv H6 s6 QN QY hN hY => ?_) (fun p7 H7 hp7 s7 e7 => ?_)
    · obtain ⟨n, hn, rfl⟩ := List.mem_map.mp hv
      walk_at "r"
      refine ⟨n, t, e, rfl, ?_⟩
      rw [decide_eq_true (hcp n hn)]
      exact hY _ rfl _ (Same.refl _)
    rw [all_yes] at e7
    have e27 := s7 _ _ e25
    walk_at "r"
    refine i_all (sl_of e7) ?_
    rw [all_true]
    walk_at "r"
    refine i_lenSet (sl_of e27) (by rw [List.length_map]; omega) hcn ?_
    walk_at "r"
    rw [decide_eq_true (by rw [List.length_map]), Bool.not_true]
    walk_at "r"
    exact q _ (((s1.trans s2).trans (s3.trans s35)).trans s7)
end
end Esc

namespace Esc
open PySem PySem.Spec PyProof.Rows L2
abbrev GI (mg : Str → Option Value) (x : Str) (i : Int) : Prop := ∃ u, mg x = some u ∧ RelV (.int i) u
abbrev GR (mg : Str → Option Value) (x : Str) (a : Addr) : Prop := ∃ u, mg x = some u ∧ RelV (.ref a) u
def S1 (f : Addr) (sp : Sp) : Addr → Option Sp := fun g => if g = f then some sp else none
theorem S1_self {f : Addr} {sp : Sp} : S1 f sp f = some sp := if_pos rfl
theorem S1_held {P : Program} {w : World} {K : PySem.W.Frag} {mg : Str → Option Value} {base : Heap} {j : Nat} {f : Addr} {sp : Sp} (h : Held P w K mg base j f sp) : ∀ g sp', S1 f sp g = some sp' → Held P w K mg base j g sp' := fun g sp' e => by
  unfold S1 at e
  by_cases c : g = f
  · rw [if_pos c] at e
    cases e
    rw [c]
    exact h
  · rw [if_neg c] at e
    cases e
theorem TurnAt.mem {K : PySem.W.Frag} {H : Hp} : ∀ {tas : List (Addr × List Int)} {v u : V}, TurnAt K H tas v u → ∀ x ∈ tas, SqT K H x.1 (x.2.map V.int)
  | [], _, _, _, x, m => by cases m
  | (a, t) :: r, _, _, ⟨p, y, _, _, h2, h3⟩, x, m => by
    rcases List.mem_cons.mp m with rfl | m
    · exact h2.st
    · exact h3.mem x m
theorem cut13 (a b c : V) (xs : List V) : cutV (a :: b :: c :: xs) (some 1) (some 3) = [b, c] := by
  unfold cutV
  rw [show (1 : Int) = ((1 : Nat) : Int) from rfl, show (3 : Int) = ((3 : Nat) : Int) from rfl, HT.sIx_nat, HT.sIx_nat, List.length_cons, List.length_cons, List.length_cons, Nat.min_eq_left (by omega), Nat.min_eq_left (by omega)]
  rfl
theorem cut1_ne (a b c : V) (xs : List V) {n : Nat} : ¬ (HT.sIx (a :: b :: c :: xs).length 0 (some 1) = 0 ∧ HT.sIx (a :: b :: c :: xs).length (a :: b :: c :: xs).length (some 3) = n) := fun z => by
  have q := z.1
  rw [show (1 : Int) = ((1 : Nat) : Int) from rfl, HT.sIx_nat, List.length_cons, Nat.min_eq_left (by omega)] at q
  exact absurd q (by decide)
section
variable {P : Program} {w : World} {K : PySem.W.Frag} {mg : Str → Option Value} {base : Heap}
def spNeedW (K : PySem.W.Frag) : Sp := fun vs H Q _ => ∃ (v : V) (wy : Way), vs = [v] ∧ WayAt K H v wy ∧ wy.Ok ∧ ∀ H', Same H H' → Q .non H'
/-- the four finders of faults, where FAULTS has them -/
structure Faults (P : Program) (w : World) (K : PySem.W.Frag) (mg : Str → Option Value) (base : Heap) (pF : Addr) : Prop where
  codes : ∃ f, mg "codes_fault" = some (.ref f) ∧ KDct K w pF "codes" (.ref f) ∧ C8.Cal P w K mg base 5 "codes_fault" (spCodesF K) []
  escapes : ∃ f, mg "escapes_fault" = some (.ref f) ∧ KDct K w pF "escapes" (.ref f) ∧ C8.Cal P w K mg base 4 "escapes_fault" (spEscF K) []
  counts : ∃ f, mg "counts_fault" = some (.ref f) ∧ KDct K w pF "counts" (.ref f) ∧ C8.Cal P w K mg base 2 "counts_fault" (spCountsF K) []
  ranks : ∃ f, mg "ranks_fault" = some (.ref f) ∧ KDct K w pF "ranks" (.ref f) ∧ C8.Cal P w K mg base 1 "ranks_fault" spRanksFault []
theorem Faults.of {pF : Addr} (F : Faults P w K mg base pF) {p : Addr} {t e : Int} (h3 : 3 ≤ t) (h16 : t ≤ 16) (k : Kind) (ok : KindOk t e k) : ∃ (fa : Addr) (sp : Sp), Held P w K mg base 5 fa sp ∧ KDct K w pF k.name (.ref fa) ∧
    ∀ H Q E, KindAt K H p t e k → (∀ H', Same H H' → Q .non H') → sp [.ref p] H Q E := by
  cases k with
  | codes cs =>
    obtain ⟨f, h1, h2, c⟩ := F.codes
    exact ⟨f, _, held_of c h1 (by decide), h2, fun H Q E hk q => ⟨p, t, e, cs, rfl, hk, ok, by omega, by omega, q⟩⟩
  | escapes m prs =>
    obtain ⟨f, h1, h2, c⟩ := F.escapes
    exact ⟨f, _, held_of c h1 (by decide), h2, fun H Q E hk q => ⟨p, t, e, m, prs, rfl, hk, ok, by omega, by omega, q⟩⟩
  | counts l =>
    obtain ⟨f, h1, h2, c⟩ := F.counts
    exact ⟨f, _, held_of c h1 (by decide), h2, fun H Q E hk q => ⟨p, t, e, l, _, rfl, hk, ok.1, ok.2, q H (Same.refl _)⟩⟩
  | ranks =>
    obtain ⟨f, h1, h2, c⟩ := F.ranks
    exact ⟨f, _, held_of c h1 (by decide), h2, fun H Q E hk q => ⟨.ref p, rfl, q H (Same.refl _)⟩⟩
theorem c_fault_of (Z : Blt mg) {pF : Addr} (m_MOST_TURNED : GI mg "MOST_TURNED" 3) (m_FAULTS : GR mg "FAULTS" pF) (F : Faults P w K mg base pF)
    (c_unturned : C8.Cal P w K mg base 1 "unturned" (spUnturned K) []) (c_is_top : C8.Cal P w K mg base 2 "is_top" spTopI []) (c_is_sign : C8.Cal P w K mg base 2 "is_sign" spSignI [])
    (c_is_turning : C8.Cal P w K mg base 4 "is_turning" (spTurnT K) []) (d : Dd K mg "fault_of" s_fault_of P_fault_of) : C8.Cal P w K mg base 6 "fault_of" (spNeedW K) [] := by
  refine d.cal sc_fault_of (fun vs H Q E h => ?_) (fun f cdv A outer s H vs Q E hr h => ?_)
  · obtain ⟨v, wy, rfl, _⟩ := h
    rfl
  · obtain ⟨v, wy, rfl, ⟨tas, p, hts, hw, hk⟩, ok, q⟩ := h
    have nd := sc_fault_of.nd
    obtain ⟨fa, sp, held, hF, hsp⟩ := F.of (p := p) ok.t3 ok.t16 wy.k ok.kind
    have A_find_fault := S1_held held
    obtain ⟨xs, hx⟩ := hk.head
    have ltas : tas.length ≤ 3 := by
      have z := ok.few
      rw [← hts, List.length_map] at z
      exact z
    refine ⟨_, (pss_cons (ps_asg (C8.pe_c c_unturned hr (by decide) (by rfl) (pa_cons (pv 0) pa_nil)) (pg_tup rfl (pgs_cons (pg_name (i := 1) nd rfl (Or.inl rfl)) (pgs_cons (pg_name (i := 2) nd rfl (Or.inl rfl)) pgs_nil))))
  (pss_cons (ps_if (pt_cmpR op_gt (pe_callB k_len (by rfl) Z.len_ (by decide +kernel) (pa_cons (pv 1) pa_nil)) (C8.pe_gc rfl m_MOST_TURNED) (nomark _)) (pss_one (ps_ret pe_str)) pss_nil)
  (pss_cons (ps_asg (pe_slice sl_tup (pv 2) (po_some pe_int) (po_some pe_int)) (pg_tup rfl (pgs_cons (pg_name (i := 3) nd rfl (Or.inr rfl)) (pgs_cons (pg_name (i := 4) nd rfl (Or.inl rfl)) pgs_nil))))
  (pss_cons (ps_if (pt_not (pt_val (C8.pe_c c_is_top hr (by decide) (by rfl) (pa_cons (pv 3) pa_nil)))) (pss_one (ps_ret pe_str)) pss_nil)
  (pss_cons (ps_if (pt_not (pt_val (C8.pe_c c_is_sign hr (by decide) (by rfl) (pa_cons (pv 4) (pa_cons (pv 3) pa_nil))))) (pss_one (ps_ret pe_str)) pss_nil)
  (pss_cons (ps_set (i := 5) nd rfl (Or.inl rfl) (pe_ix ix_kdict (C8.pe_gc rfl m_FAULTS) (pe_ix ix_tup (pv 2) pe_int (fun _ _ => rfl)) (fun _ _ => rfl)))
  (pss_cons (ps_set (i := 6) nd rfl (Or.inl rfl) (pe_callA A_find_fault hr (x := "find_fault") (i := 5) rfl (by first | exact Or.inl rfl | exact Or.inr (Or.inl rfl) | exact Or.inr (Or.inr rfl)) (pa_cons (pv 2) pa_nil)))
  (pss_cons (ps_if (PW.pt (pw_and (pt_cmpR k_isN (pv 6) pe_non (nomark _)) (pw_and1 (pt_not (pt_val (pe_callB (cr_all rfl) (by rfl) Z.all_ (by decide +kernel) (pa_cons (pe_lc (own := [("signs", 7)]) (g := gName 7) (tt := tYes) rfl nd (pi_list (pv 1)) (blkOk_by (N := N_fault_of) (sc := C8.fnScope s_fault_of) (own := [("signs", 7)]) (by decide +kernel)) (fun _ _ _ _ _ => (pg_name (i := 7) nd rfl (Or.inl rfl))) (fun _ _ _ _ _ => pts_nil) (fun _ _ _ _ _ => (C8.pe_c c_is_turning hr (by decide) (by rfl) (pa_cons (pv 7) (pa_cons (pv 3) pa_nil))))) pa_nil))))))) (pss_one (ps_ret pe_str)) pss_nil)
  (pss_one (ps_ret (pv 6))))))))))), ?_⟩
    refine i_start (σ' := [some v, none, none, none, none, none, none, none]) rfl ?_
    walk_at "go"
    walk_at "r"
    refine ⟨v, tas, p, wy.k.name, _, rfl, hw, hx, wy.k.name_ne, by omega, fun q1 l H1 _ hl s1 e1 el => ?_⟩
    have hx1 := stup s1 hx
    walk_at "r"
    refine i_no (by rw [List.length_map]; omega) ?_
    walk_at "r"
    refine i_slT hx1 (cut1_ne _ _ _ _) (fun q2 H2 _ s2 e2 => ?_)
    rw [cut13] at e2
    have hx2 := stup s2 hx1
    have el2 := s2 _ _ el
    have s12 := s1.trans s2
    walk_at "r"
    refine ⟨wy.t, rfl, ?_⟩
    walk_at "r"
    refine i_yes ⟨ok.t3, ok.t16⟩ ?_
    walk_at "r"
    refine ⟨wy.e, wy.t, rfl, ?_⟩
    walk_at "r"
    refine i_yes ⟨ok.e0, ok.e1⟩ ?_
    walk_at "r"
    refine i_kd hF ?_
    walk_at "r"
    refine i_callA S1_self ?_
    walk_at "r"
    refine hsp _ _ _ (hk.same s12) (fun H3 s3 => ?_)
    have s13 := s12.trans s3
    have el3 := s3 _ _ el2
    walk_at "r"
    refine i_yes rfl ?_
    walk_at "r"
    refine i_lcL (F := fun _ => some (V.bl true)) (sl_of el3) (by rw [List.length_map]; omega) (fun x hx H4 s4 QN QY hN hY => ?_) (fun p3 H4 hp3 s4 e4 => ?_)
    · obtain ⟨y, hy, rfl⟩ := List.mem_map.mp hx
      walk_at "r"
      refine ⟨y.1, y.2, wy.t, rfl, stup (s13.trans s4) (hw.mem y hy), ok.perm _ (by rw [← hts]; exact List.mem_map_of_mem hy), by have := ok.t3; omega, by have := ok.t16; omega, fun H5 s5 => hY _ rfl _ s5⟩
    · rw [all_yes] at e4
      walk_at "r"
      refine i_all (sl_of e4) ?_
      rw [all_true]
      walk_at "r"
      exact q _ (s13.trans s4)
theorem c_need_way (c_fault_of : C8.Cal P w K mg base 6 "fault_of" (spNeedW K) []) (d : Dd K mg "need_way" s_need_way P_need_way) : C8.Cal P w K mg base 7 "need_way" (spNeedW K) [] := by
  refine d.cal sc_need_way (fun vs H Q E h => ?_) (fun f cdv A outer s H vs Q E hr h => ?_)
  · obtain ⟨v, wy, rfl, _⟩ := h
    rfl
  · obtain ⟨v, wy, rfl, hw, ok, q⟩ := h
    have nd := sc_need_way.nd
    refine ⟨_, (pss_cons (ps_set (i := 1) nd rfl (Or.inl rfl) (C8.pe_c c_fault_of hr (by decide) (by rfl) (pa_cons (pv 0) pa_nil)))
  (pss_one (ps_if (pt_cmpR k_notN (pv 1) pe_non (nomark _)) (pss_one ps_never) pss_nil))), ?_⟩
    refine i_start (σ' := [some v, none]) rfl ?_
    walk_at "go"
    walk_at "r"
    refine ⟨v, wy, rfl, hw, ok, fun H1 s1 => ?_⟩
    walk_at "r"
    rw [decide_eq_true rfl, Bool.not_true]
    walk_at "r"
    exact q _ s1
end
end Esc

namespace Esc
open PySem PySem.Spec PyProof.Rows L2
section
variable {P : Program} {w : World} {K : PySem.W.Frag} {mg : Str → Option Value} {base : Heap}
def spByK (K : PySem.W.Frag) (good : Int → Int → Kind → Prop) (out : Int → Int → Kind → List Int → List Int) : Sp := fun vs H Q _ => ∃ (p b : Addr) (t e : Int) (k : Kind) (body : List Int), vs = [.ref p, .ref b] ∧ good t e k ∧ KindAt K H p t e k ∧ KindOk t e k ∧ 3 ≤ t ∧ t ≤ 16 ∧ 0 ≤ e ∧ e < t ∧
  SqL K H b (body.map V.int) ∧ (∀ x ∈ body, 0 ≤ x ∧ x < t) ∧ body.length ≤ 200 ∧ ∀ q H', H q = none → Same H H' → H' q = some (.lst ((out t e k body).map V.int)) → Q (.ref q) H'
def isCodes : Int → Int → Kind → Prop := fun _ _ k => ∃ cs, k = .codes cs
def isEscapes : Int → Int → Kind → Prop := fun _ _ k => ∃ m prs, k = .escapes m prs
def isCounts : Int → Int → Kind → Prop := fun _ _ k => ∃ l, k = .counts l
def isRanks : Int → Int → Kind → Prop := fun _ _ k => k = .ranks
theorem c_by_codes (d : Dd K mg "by_codes" s_by_codes P_by_codes) : C8.Cal P w K mg base 1 "by_codes" (spByK K isCodes rowOf) [] := by
  refine d.cal sc_by_codes (fun vs H Q E h => ?_) (fun f cdv A outer s H vs Q E hr h => ?_)
  · obtain ⟨p, b, t, e, k, body, rfl, _⟩ := h
    rfl
  · obtain ⟨p, b, t, e, k, body, rfl, ⟨cs, rfl⟩, ⟨c, as, hp, hc, ht⟩, ⟨hl, hok, hap⟩, h3, h16, h0, h1, hb, hin, hlen, q⟩ := h
    have nd := sc_by_codes.nd
    have lcs := ht.len
    refine ⟨_, (pss_cons (ps_set (i := 2) nd rfl (Or.inr rfl) (pe_ix ix_tup (pv 0) pe_int (fun _ _ => rfl)))
  (pss_one (ps_ret (pe_lc2 (own := [("letter", 3), ("sign", 4)]) (vs1 := [4]) (g := gName 3) (g1 := gName 4) (tt := tYes) (tt1 := tYes) rfl nd (pi_list (pv 1)) (blkOk_by (N := N_by_codes) (sc := C8.fnScope s_by_codes) (own := [("letter", 3), ("sign", 4)]) (by decide +kernel)) (by decide) (fun _ _ _ _ _ => (pg_name (i := 3) nd rfl (Or.inl rfl))) (fun _ _ _ _ _ => pts_nil) (fun _ _ _ _ _ => (show PI _ _ _ (iTup K _) from (pi_tup (pe_ix (show IxR _ (rIxT K) from ix_tup) (pv 2) (pv 3) (fun _ _ => rfl))))) (fun _ _ _ _ _ => (pg_name (i := 4) nd rfl (Or.inl rfl))) (fun _ _ _ _ _ => pts_nil) (fun _ _ _ _ _ => (pv 4)))))), ?_⟩
    refine i_start (σ' := [some (.ref p), some (.ref b), none, none, none]) rfl ?_
    walk_at "go"
    walk_at "r"
    refine i_lc2L (fun D i acc H' => acc = (codesB cs (body.take i)).map V.int ∧ Same H H' ∧ H' D = some (.lst acc)) hb (fun D hD => ⟨rfl, same_new hD, upd_same⟩) (fun D i acc H' hD pv => pv.2.1.seq hb)
      (fun D i x acc H' hD hx pv => ?_) (fun D acc H' hD pv => ?_)
    · obtain ⟨rfl, s1, e1⟩ := pv
      obtain ⟨n, hn, rfl⟩ := map_get hx
      have hi := (List.getElem?_eq_some_iff.mp hn).1
      have bn := hin n (List.mem_of_getElem? hn)
      have hna : n.toNat < as.length := by omega
      obtain ⟨cc, hcc, hac⟩ := ht.get (List.getElem?_eq_getElem hna)
      have hc1 := stup s1 hc
      have hac1 := stup s1 hac
      have hat : atI (as.map V.ref) n = some (.ref as[n.toNat]) := by
        have z : ∀ (k : Nat) (v : V), n = (k : Int) → (as.map V.ref)[k]? = some v → atI (as.map V.ref) n = some v := fun k v z1 z2 => by
          rw [z1]
          exact atI_nat z2
        refine z n.toNat _ (by omega) ?_
        rw [List.getElem?_map, List.getElem?_eq_getElem hna]
        rfl
      have l4 := codesB_len (fun c hc => (hok c hc).2.1) (body.take i)
      rw [List.length_take] at l4
      walk_at "r"
      refine i_in2T (fun j H' => Same H H' ∧ H' D = some (.lst ((codesB cs (body.take i) ++ cc.take j).map V.int))) hac1 ⟨s1, by rw [List.take_zero, List.append_nil]; exact e1⟩ (fun j H' pw => stup pw.1 hac) (fun j y H2 hy pw => ?_) (fun H2 pw => ?_)
      · obtain ⟨s2, e2⟩ := pw
        obtain ⟨m, hm, rfl⟩ := map_get hy
        have lcc := (hok cc (List.mem_of_getElem? hcc)).2.1
        have hj := (List.getElem?_eq_some_iff.mp hm).1
        walk_at "r"
        refine ⟨_, e2, szl (by rw [List.length_map, List.length_append, List.length_take]; omega), smut s2 hD, ?_⟩
        rw [upd_same, take_succ' hm, List.map_append, List.map_append, List.map_append, List.append_assoc]
        rfl
      · obtain ⟨s2, e2⟩ := pw
        rw [List.length_map, List.take_length] at e2
        refine ⟨_, rfl, s2, ?_⟩
        rw [e2, take_succ' hn, codesB_snoc, List.getD_eq_getElem?_getD, hcc]
        rfl
    · obtain ⟨rfl, s1, e1⟩ := pv
      rw [List.length_map, List.take_length] at e1
      exact q D H' hD s1 e1
end
end Esc

namespace Esc
open PySem PySem.Spec PyProof.Rows L2
theorem cut3 (a b c : V) (xs : List V) : cutV (a :: b :: c :: xs) (some 3) none = xs := by
  rw [show (3 : Int) = ((3 : Nat) : Int) from rfl, cut_from]
  rfl
theorem cut3_ne (a b c : V) (xs : List V) {n : Nat} {hi : Option Int} : ¬ (HT.sIx (a :: b :: c :: xs).length 0 (some 3) = 0 ∧ HT.sIx (a :: b :: c :: xs).length (a :: b :: c :: xs).length hi = n) := fun z => by
  have q := z.1
  rw [show (3 : Int) = ((3 : Nat) : Int) from rfl, HT.sIx_nat, List.length_cons, List.length_cons, List.length_cons, Nat.min_eq_left (by omega)] at q
  exact absurd q (by decide)
theorem drop_get {α : Type} {l : List α} {i : Nat} {x : α} {r : List α} (h : l.drop i = x :: r) : l[i]? = some x ∧ l.drop (i + 1) = r := by
  constructor
  · rw [← List.head?_drop, h]
    rfl
  · rw [← List.tail_drop, h]
    rfl
theorem drop_of {α : Type} {l : List α} {i : Nat} {x : α} (h : l[i]? = some x) : l.drop i = x :: l.drop (i + 1) := by
  obtain ⟨h1, h2⟩ := List.getElem?_eq_some_iff.mp h
  rw [List.drop_eq_getElem_cons h1, h2]
/-- signs and codes exchanged -/
def swp (prs : List (Int × Int)) : List (Int × Int) := prs.map fun c => (c.2, c.1)
theorem swp_fst (prs : List (Int × Int)) : (swp prs).map (·.1) = prs.map (·.2) := by
  unfold swp
  rw [List.map_map]
  rfl
theorem swp_look {prs : List (Int × Int)} (hn : (prs.map (·.2)).Nodup) {x c : Int} (h : look prs x = some c) : look (swp prs) c = some x := by
  have m := look_some h
  have m2 : (c, x) ∈ swp prs := List.mem_map.mpr ⟨(x, c), m, rfl⟩
  exact look_mem (by rw [swp_fst]; exact hn) m2
theorem fst_new {l : List (Int × Int)} {j : Nat} {c : Int × Int} (hn : (l.map (·.1)).Nodup) (h : l[j]? = some c) : c.1 ∉ (l.take j).map (·.1) := by
  rw [List.map_take]
  exact nodup_take hn (by rw [List.getElem?_map, h]; rfl)
section
variable {P : Program} {w : World} {K : PySem.W.Frag} {mg : Str → Option Value} {base : Heap}
theorem c_by_escapes (d : Dd K mg "by_escapes" s_by_escapes P_by_escapes) : C8.Cal P w K mg base 1 "by_escapes" (spByK K isEscapes rowOf) [] := by
  refine d.cal sc_by_escapes (fun vs H Q E h => ?_) (fun f cdv A outer s H vs Q E hr h => ?_)
  · obtain ⟨p, b, t, e, k, body, rfl, _⟩ := h
    rfl
  · obtain ⟨p, b, t, e, k, body, rfl, ⟨m, prs, rfl⟩, ⟨c, as, hp, hc, ht⟩, ⟨hm, hw, hr0, he1, hm1, hcp, hcn⟩, h3, h16, h0, h1, hb, hin, hlen, q⟩ := h
    have nd := sc_by_escapes.nd
    have las := ht.len
    have hnf : (prs.map (·.1)).Nodup := hw.imp fun h => by omega
    refine ⟨_, (pss_cons (ps_asg (pe_slice sl_tup (pv 0) (po_some pe_int) po_none) (pg_tup rfl (pgs_cons (pg_name (i := 2) nd rfl (Or.inl rfl)) (pgs_cons (pg_name (i := 3) nd rfl (Or.inl rfl)) pgs_nil))))
  (pss_cons (ps_setDc (i := 4) (own := [("sign", 6), ("code", 7)]) (g := gTup K 2 (gCons (gName 6) (gCons (gName 7) gNil))) (tt := tYes) rfl nd rfl rfl (sw_dc rfl rfl rfl (by decide +kernel)) (pi_tup (pv 3)) (blkOk_by (N := N_by_escapes) (sc := C8.fnScope s_by_escapes) (own := [("sign", 6), ("code", 7)]) (by decide +kernel)) (fun _ _ _ _ _ => (pg_tup rfl (pgs_cons (pg_name (i := 6) nd rfl (Or.inl rfl)) (pgs_cons (pg_name (i := 7) nd rfl (Or.inl rfl)) pgs_nil)))) (fun _ _ _ _ _ => pts_nil) (fun _ _ _ _ _ => (pv 6)) (fun _ _ _ _ _ => (pv 7)))
  (pss_cons (ps_set (i := 5) nd rfl (Or.inl rfl) (pe_lst pa_nil))
  (pss_cons (ps_for PassesOwn.never rfl (pi_list (pv 1)) (pg_name (i := 6) nd rfl (Or.inl rfl))
    (pss_one (ps_if (pt_cmp (pc_din (hu_of hr) (pv 6) (pv 4))) (pss_one (ps_expr (pe_bm PySem.F.plainAttrs_list PySem.F.slot_list_extend PySem.F.type_list_extend mt_extend (pv 5) (pa_cons (pe_lst (pa_cons (pv 2) (pa_cons (pe_dget (hu_of hr) (pv 4) (pv 6) (fun _ _ => rfl)) pa_nil))) pa_nil)))) (pss_one (ps_expr (pe_bm PySem.F.plainAttrs_list PySem.F.slot_list_append PySem.F.type_list_append mt_append (pv 5) (pa_cons (pv 6) pa_nil)))))))
  (pss_one (ps_ret (pv 5))))))), ?_⟩
    refine i_start (σ' := [some (.ref p), some (.ref b), none, none, none, none, none, none]) rfl ?_
    walk_at "go"
    walk_at "r"
    refine i_slT hp (cut3_ne _ _ _ _) (fun p1 H1 _ s1 e1 => ?_)
    rw [cut3] at e1
    have hc1 := stup s1 hc
    walk_at "r"
    refine i_dcT (fun i => kvOf (prs.take i)) rfl hc1 (fun D i x H2 hD hx s2 e2 Nx hN => ?_) (fun p2 H2 hp2 s2 e2 => ?_)
    · obtain ⟨a, ha, rfl⟩ := ref_get hx
      obtain ⟨cc, hcc, hac⟩ := ht.get ha
      have hac2 := stup (s1.trans s2) hac
      have il := (List.getElem?_eq_some_iff.mp hcc).1
      walk_at "r"
      refine ⟨_, Sum.inl cc.1, rfl, e2, szl (by unfold kvOf; rw [List.length_map, List.length_take]; have z := nodup_bound hcn hcp h16; rw [List.length_map] at z; omega), hN _ (smut s2 hD) ?_⟩
      rw [upd_same, kv_snoc _ _ (fst_new hnf hcc), take_succ' hcc]
    · rw [List.length_map, las, List.take_length] at e2
      have s12 := s1.trans s2
      walk_at "r"
      refine i_lst (Nat.zero_le _) (fun fr H3 hfr s3 e3 => ?_)
      have s13 := s12.trans s3
      have e23 := s3 _ _ e2
      walk_at "r"
      refine i_for (s13.seq hb) (fun i σ' H' => ∃ y, σ' = [some (.ref p), some (.ref b), some (.int m), some (.ref c), some (.ref p2), some (.ref fr), y, none] ∧ Same H H' ∧ H' p2 = some (.dK (kvOf prs)) ∧ H' fr = some (.lst ((escB m prs (body.take i)).map V.int)))
        ⟨none, rfl, s13, e23, e3⟩ (fun i σ' H' _ ⟨_, _, s4, _⟩ => s4.seq hb) (fun i x σ' H' hi pv => ?_) (fun σ' H' pv => ?_)
      · obtain ⟨y, rfl, s4, ed, ef⟩ := pv
        obtain ⟨n, hn, rfl⟩ := map_get hi
        have npf : p2 ≠ fr := (ne_of_none e2 hfr)
        have le := escB_len m prs (body.take i)
        rw [List.length_take] at le
        have hg : DGet H' p2 (.int n) ((look prs n).map V.int) := by
          rw [← kv_val]
          exact DGet.k (k := Sum.inl n) ed
        walk_at "r"
        refine ⟨p2, _, rfl, hg, ?_⟩
        cases el : look prs n with
        | none =>
          simp only [Option.map_none, Option.isSome_none]
          walk_at "r"
          refine ⟨_, rfl, smut s4 (s12.free hfr), ?_, ?_⟩
          · rw [upd_ne npf]
            exact ed
          · rw [upd_same, take_succ' hn, escB_snoc, List.map_append]
            unfold escS
            rw [el]
            rfl
        | some cc =>
          rw [el] at hg
          simp only [Option.map_some, Option.isSome_some] at hg ⊢
          walk_at "r"
          refine ⟨p2, _, rfl, hg, ?_⟩
          walk_at "r"
          refine i_lst (by show 2 ≤ sizeLine; decide) (fun l5 H5 hl5 s5 e5 => ?_)
          have ef5 := s5 _ _ ef
          walk_at "r"
          refine i_extend ef5 e5 (sz (by rw [List.length_map]; show _ + 2 ≤ _; omega)) ?_
          walk_at "r"
          refine ⟨_, rfl, smut (s4.trans s5) (s12.free hfr), ?_, ?_⟩
          · rw [upd_ne npf]
            exact s5 _ _ ed
          · rw [upd_same, take_succ' hn, escB_snoc, List.map_append]
            unfold escS
            rw [el]
            rfl
      · obtain ⟨y, rfl, s4, ed, ef⟩ := pv
        rw [List.length_map, List.take_length] at ef
        walk_at "r"
        exact q fr H' (s12.free hfr) s4 ef
end
end Esc

namespace Esc
open PySem PySem.Spec PyProof.Rows L2
def kDNo1 (Q : VK) (σ : L2.St) (td : TE) : VK := fun y H1 => td σ H1 fun x H2 => ∃ a o, x = .ref a ∧ DGet H2 a y o ∧ Q (.bl (!o.isSome)) H2
def kDNo2 (Q : VK) (y : V) : VK := fun x H2 => ∃ a o, x = .ref a ∧ DGet H2 a y o ∧ Q (.bl (!o.isSome)) H2
instance {ta tb : TE} {σ : L2.St} {H : Hp} {Q : VK} : Step (tDNotIn ta tb σ H Q) (ta σ H (kDNo1 Q σ tb)) := ⟨fun h => h⟩
instance {tb : TE} {σ : L2.St} {H : Hp} {Q : VK} {y : V} : Step (kDNo1 Q σ tb y H) (tb σ H (kDNo2 Q y)) := ⟨fun h => h⟩
theorem escB_cons (m : Int) (prs : List (Int × Int)) (x : Int) (body : List Int) : escB m prs (x :: body) = escS m prs x ++ escB m prs body := by
  unfold escB
  rw [List.flatMap_cons]
theorem escS_some {m : Int} {prs : List (Int × Int)} {x c : Int} (h : look prs x = some c) : escS m prs x = [m, c] := by
  unfold escS
  rw [h]
theorem escS_none {m : Int} {prs : List (Int × Int)} {x : Int} (h : look prs x = none) : escS m prs x = [x] := by
  unfold escS
  rw [h]
theorem escS_ne (m : Int) (prs : List (Int × Int)) (x : Int) : escS m prs x ≠ [] := by
  unfold escS
  split <;> simp
theorem dget_sw {H : Hp} {a : Addr} {l : List (Int × Int)} (h : H a = some (.dK (kvOf l))) (x : Int) : DGet H a (.int x) ((look l x).map V.int) := by
  rw [← kv_val]
  exact DGet.k (k := Sum.inl x) h
end Esc

namespace Esc
open PySem PySem.Spec PyProof.Rows L2
def kTru (K : PySem.W.Frag) (Q : Bool → Hp → Prop) : VK := fun x H' => ∃ k, TruV K x H' k ∧ Q k H'
def tTru (K : PySem.W.Frag) (ta : TE) : TT := fun σ H Q => ta σ H (kTru K Q)
theorem pt_tru {X : Cx} {a : Expr} {ta : TE} (he : PE X a ta) (h : ∀ whole, isTrue a X.env whole = (do let v ← whole; standAt a.pos; holding [v] (truthy v))) : PT X a (tTru X.K ta) := pt_truth he h
instance {K : PySem.W.Frag} {ta : TE} {σ : L2.St} {H : Hp} {Q : Bool → Hp → Prop} : Step (tTru K ta σ H Q) (ta σ H (kTru K Q)) := ⟨fun h => h⟩
theorem i_truL {K : PySem.W.Frag} {H : Hp} {Q : Bool → Hp → Prop} {a : Addr} {xs : List V} (h : SqL K H a xs) (q : Q (!xs.isEmpty) H) : kTru K Q (.ref a) H := ⟨_, .inl ⟨xs, h, rfl⟩, q⟩
theorem atI_last (xs : List V) (v : V) : atI (xs ++ [v]) (-1) = some v := by
  unfold atI ixN
  rw [if_neg (by decide), List.length_append, List.length_singleton, if_pos (by omega)]
  show (xs ++ [v])[((-1 : Int) + ((xs.length + 1 : Nat) : Int)).toNat]? = some v
  rw [show ((-1 : Int) + ((xs.length + 1 : Nat) : Int)).toNat = xs.length by omega, List.getElem?_append_right (Nat.le_refl _), Nat.sub_self]
  rfl
/-- at each of as a list of ints -/
def LstsAt (H : Hp) : List Addr → List (List Int) → Prop
  | [], [] => True
  | a :: as, c :: cs => H a = some (.lst (c.map V.int)) ∧ LstsAt H as cs
  | _, _ => False
theorem LstsAt.same {H H' : Hp} (s : Same H H') : ∀ {as : List Addr} {cs : List (List Int)}, LstsAt H as cs → LstsAt H' as cs
  | [], [], _ => trivial
  | _ :: _, _ :: _, ⟨h, r⟩ => ⟨s _ _ h, LstsAt.same s r⟩
theorem LstsAt.len {H : Hp} : ∀ {as : List Addr} {cs : List (List Int)}, LstsAt H as cs → as.length = cs.length
  | [], [], _ => rfl
  | _ :: _, _ :: _, ⟨_, r⟩ => congrArg (· + 1) r.len
theorem LstsAt.put {H : Hp} {z : Addr} {o : HO} : ∀ {as : List Addr} {cs : List (List Int)}, z ∉ as → LstsAt H as cs → LstsAt (upd H z o) as cs
  | [], [], _, _ => trivial
  | a :: as, _ :: cs, n, ⟨h, r⟩ => ⟨by rw [upd_ne (fun e => n (by rw [← e]; exact List.mem_cons_self) : a ≠ z)]; exact h, LstsAt.put (fun m => n (List.mem_cons_of_mem _ m)) r⟩
theorem LstsAt.app {H : Hp} : ∀ {as : List Addr} {cs : List (List Int)} {bs : List Addr} {ds : List (List Int)}, LstsAt H as cs → LstsAt H bs ds → LstsAt H (as ++ bs) (cs ++ ds)
  | [], [], _, _, _, h => h
  | _ :: as, _ :: cs, bs, ds, ⟨h, r⟩, h2 => ⟨h, LstsAt.app (as := as) (cs := cs) (bs := bs) (ds := ds) r h2⟩
theorem LstsAt.get {H : Hp} : ∀ {as : List Addr} {cs : List (List Int)} {i : Nat} {a : Addr}, LstsAt H as cs → as[i]? = some a → ∃ c, cs[i]? = some c ∧ H a = some (.lst (c.map V.int))
  | [], _, _, _, _, e => by simp at e
  | _ :: _, c :: _, 0, a, ⟨h, _⟩, e => by
    cases e
    exact ⟨c, rfl, h⟩
  | _ :: as, _ :: cs, i + 1, a, ⟨_, r⟩, e => LstsAt.get (as := as) (cs := cs) (i := i) r e
theorem LstsAt.there {H : Hp} : ∀ {as : List Addr} {cs : List (List Int)}, LstsAt H as cs → ∀ a ∈ as, ∃ o, H a = some o
  | a :: as, c :: cs, ⟨h, r⟩, b, m => by
    rcases List.mem_cons.mp m with rfl | m
    · exact ⟨_, h⟩
    · exact r.there b m
theorem LstsAt.new {H : Hp} {as : List Addr} {cs : List (List Int)} {n : Addr} (h : LstsAt H as cs) (hn : H n = none) : n ∉ as := fun m => by
  obtain ⟨o, e⟩ := h.there n m
  rw [hn] at e
  cases e
theorem rowsB_snoc (e : Int) (body : List Int) (x : Int) : rowsB e (body ++ [x]) = stepR e (rowsB e body) x := by
  unfold rowsB
  rw [List.foldl_append]
  rfl
theorem stepR_end {e : Int} (rs : List (List Int)) : stepR e rs e = rs ++ [[]] := if_pos rfl
theorem stepR_in {e x : Int} (h : x ≠ e) (rs : List (List Int)) (l : List Int) : stepR e (rs ++ [l]) x = rs ++ [l ++ [x]] := by
  unfold stepR
  rw [if_neg h, List.dropLast_concat, List.getLastD_concat]
theorem rowsB_len (e : Int) (body : List Int) : ∀ n, (rowsB e (body.take n)).length ≤ n + 1 := fun n => by
  have : ∀ (l : List Int) (rs : List (List Int)), rs ≠ [] → (l.foldl (stepR e) rs).length ≤ rs.length + l.length := fun l => by
    induction l with
    | nil => intro rs _; exact Nat.le_refl _
    | cons x l ih =>
      intro rs hrs
      rw [List.foldl_cons, List.length_cons]
      have z : stepR e rs x ≠ [] ∧ (stepR e rs x).length ≤ rs.length + 1 := by
        unfold stepR
        split
        · exact ⟨by simp, by simp⟩
        · exact ⟨by simp, by simp only [List.length_append, List.length_dropLast, List.length_singleton]; omega⟩
      have := ih _ z.1
      omega
  have z := this (body.take n) [[]] (by simp)
  rw [List.length_take, List.length_singleton] at z
  unfold rowsB
  omega
theorem rowsB_row (e : Int) (body : List Int) : ∀ l ∈ rowsB e body, l.length ≤ body.length := by
  have : ∀ (b : List Int) (rs : List (List Int)) (k : Nat), (∀ l ∈ rs, l.length ≤ k) → ∀ l ∈ b.foldl (stepR e) rs, l.length ≤ k + b.length := fun b => by
    induction b with
    | nil => intro rs k h l m; exact h l m
    | cons x b ih =>
      intro rs k h l m
      rw [List.foldl_cons] at m
      have z := ih (stepR e rs x) (k + 1) (fun l2 m2 => by
        unfold stepR at m2
        split at m2
        · rcases List.mem_append.mp m2 with m2 | m2
          · have := h l2 m2
            omega
          · rw [List.mem_singleton.mp m2]
            exact Nat.zero_le _
        · rcases List.mem_append.mp m2 with m2 | m2
          · have := h l2 ((List.dropLast_sublist rs).subset m2)
            omega
          · rw [List.mem_singleton.mp m2, List.length_append, List.length_singleton]
            cases hrs : rs.getLast? with
            | none =>
              rw [List.getLastD_eq_getLast?, hrs]
              exact Nat.succ_le_succ (Nat.zero_le _)
            | some v =>
              rw [List.getLastD_eq_getLast?, hrs]
              exact Nat.succ_le_succ (h v (List.mem_of_getLast? hrs))) l m
      rw [List.length_cons]
      omega
  intro l m
  have z := this body [[]] 0 (fun l m => by rw [List.mem_singleton.mp m]; exact Nat.le_refl _) l m
  omega
section
variable {P : Program} {w : World} {K : PySem.W.Frag} {mg : Str → Option Value} {base : Heap}
def spRows (K : PySem.W.Frag) : Sp := fun vs H Q _ => ∃ (b : Addr) (e : Int) (body : List Int), vs = [.ref b, .int e] ∧ SqL K H b (body.map V.int) ∧ body.length ≤ 1000 ∧
  ∀ r as H', H r = none → Same H H' → H' r = some (.lst (as.map V.ref)) → LstsAt H' as (rowsB e body) → Q (.ref r) H'
theorem c_rows_between (d : Dd K mg "rows_between" s_rows_between P_rows_between) : C8.Cal P w K mg base 1 "rows_between" (spRows K) [] := by
  refine d.cal sc_rows_between (fun vs H Q E h => ?_) (fun f cdv A outer s H vs Q E hr h => ?_)
  · obtain ⟨b, e, body, rfl, _⟩ := h
    rfl
  · obtain ⟨b, e, body, rfl, hb, hlen, q⟩ := h
    have nd := sc_rows_between.nd
    refine ⟨_, (pss_cons (ps_set (i := 2) nd rfl (Or.inl rfl) (pe_lst (pa_cons (pe_lst pa_nil) pa_nil)))
  (pss_cons (ps_for PassesOwn.never rfl (pi_list (pv 0)) (pg_name (i := 3) nd rfl (Or.inl rfl))
    (pss_one (ps_if (pt_cmpR op_eq (pv 3) (pv 1) (nomark _)) (pss_one (ps_expr (pe_bm PySem.F.plainAttrs_list PySem.F.slot_list_append PySem.F.type_list_append mt_append (pv 2) (pa_cons (pe_lst pa_nil) pa_nil)))) (pss_one (ps_expr (pe_bm PySem.F.plainAttrs_list PySem.F.slot_list_append PySem.F.type_list_append mt_append (pe_ix ix_list (pv 2) (pe_un un_neg pe_int) (fun _ _ => rfl)) (pa_cons (pv 3) pa_nil)))))))
  (pss_one (ps_ret (pv 2))))), ?_⟩
    refine i_start (σ' := [some (.ref b), some (.int e), none, none]) rfl ?_
    walk_at "go"
    walk_at "r"
    refine i_lst (Nat.zero_le _) (fun z0 H1 hz0 s1 e1 => ?_)
    walk_at "r"
    refine i_lst (by show 1 ≤ sizeLine; decide) (fun r H2 hr2 s2 e2 => ?_)
    have e12 := s2 _ _ e1
    have s02 := s1.trans s2
    have nzr : z0 ≠ r := ne_of_none e1 hr2
    have hr0 := s1.free hr2
    walk_at "r"
    refine i_for (s02.seq hb) (fun i σ' H' => ∃ y as z rs ls, σ' = [some (.ref b), some (.int e), some (.ref r), y] ∧ Same H H' ∧ H' r = some (.lst ((as ++ [z]).map V.ref)) ∧ rowsB e (body.take i) = rs ++ [ls] ∧ LstsAt H' as rs ∧ H' z = some (.lst (ls.map V.int)) ∧ z ∉ as ∧ r ∉ as ∧ r ≠ z ∧ H z = none)
      ⟨none, [], z0, [], [], rfl, s02, e2, rfl, trivial, e12, List.not_mem_nil, List.not_mem_nil, nzr.symm, hz0⟩ (fun i σ' H' _ ⟨_, _, _, _, _, _, s4, _⟩ => s4.seq hb) (fun i x σ' H' hi pv => ?_) (fun σ' H' pv => ?_)
    · obtain ⟨y, as, z, rs, ls, rfl, s3, er, hrows, hla, ez, nza, nra, nrz, hz⟩ := pv
      obtain ⟨n, hn, rfl⟩ := map_get hi
      have il := (List.getElem?_eq_some_iff.mp hn).1
      have las := hla.len
      have lrs : rs.length + 1 ≤ 1002 := by
        have z1 := rowsB_len e body i
        rw [hrows, List.length_append, List.length_singleton] at z1
        omega
      have lls : ls.length ≤ 1001 := by
        have z1 := rowsB_row e (body.take i) ls (by rw [hrows]; exact List.mem_append_right _ (List.mem_singleton.mpr rfl))
        rw [List.length_take] at z1
        omega
      walk_at "r"
      refine i_br (fun hne => ?_) (fun hne => ?_)
      · subst hne
        walk_at "r"
        refine i_lst (Nat.zero_le _) (fun nw H4 hnw s4 e4 => ?_)
        have er4 := s4 _ _ er
        have ez4 := s4 _ _ ez
        have hla4 := (hla.same s4).app (show LstsAt H4 [z] [ls] from ⟨ez4, trivial⟩)
        have nnr : nw ≠ r := (ne_of_none er hnw).symm
        have nnz : nw ≠ z := (ne_of_none ez hnw).symm
        have nna : nw ∉ as := hla.new hnw
        have nr2 : r ∉ as ++ [z] := fun m => by
          rcases List.mem_append.mp m with m | m
          · exact nra m
          · exact nrz (List.mem_singleton.mp m)
        walk_at "r"
        refine ⟨_, as ++ [z], nw, rs ++ [ls], [], rfl, smut (s3.trans s4) hr0, ?_, ?_, hla4.put nr2, ?_, fun m => ?_, nr2, nnr.symm, s3.free hnw⟩
        · rw [upd_same, List.map_append (l₂ := [nw])]
          rfl
        · rw [take_succ' hn, rowsB_snoc, hrows, stepR_end]
        · rw [upd_ne nnr]
          exact e4
        · rcases List.mem_append.mp m with m | m
          · exact nna m
          · exact nnz (List.mem_singleton.mp m)
      · rw [List.map_append] at er
        walk_at "r"
        refine i_ixL (sl_of er) (atI_last _ _) ?_
        walk_at "r"
        refine ⟨_, as, z, rs, ls ++ [n], rfl, smut s3 hz, ?_, ?_, hla.put nza, ?_, nza, nra, nrz, hz⟩
        · rw [upd_ne nrz, er, List.map_append]
        · rw [take_succ' hn, rowsB_snoc, hrows, stepR_in hne]
        · rw [upd_same, List.map_append]
          rfl
    · obtain ⟨y, as, z, rs, ls, rfl, s3, er, hrows, hla, ez, nza, nra, nrz, hz⟩ := pv
      rw [List.length_map, List.take_length] at hrows
      walk_at "r"
      exact q r (as ++ [z]) H' hr0 s3 er (by rw [hrows]; exact hla.app ⟨ez, trivial⟩)
end
end Esc

namespace Esc
open PySem PySem.Spec PyProof.Rows L2
theorem groupB_more {cn row : List Int} {w : Nat} (h0 : 0 < w) (h : w ≤ row.length) : groupB cn w row = cn.getD w 0 :: (row.take w ++ groupB cn w (row.drop w)) := by
  rw [groupB, dif_pos ⟨h0, h⟩]
theorem groupB_last {cn row : List Int} {w : Nat} (h : row.length < w) : groupB cn w row = cn.getD row.length 0 :: row := by
  rw [groupB, dif_neg (by omega)]
theorem groupB_len {cn : List Int} {w : Nat} (h0 : 0 < w) : ∀ (n : Nat) (row : List Int), row.length = n → (groupB cn w row).length ≤ 2 * row.length + 1 := by
  intro n
  induction n using Nat.strongRecOn with
  | ind n ih =>
    intro row hn
    by_cases h : w ≤ row.length
    · have z := ih (row.length - w) (by omega) (row.drop w) (List.length_drop ..)
      rw [List.length_drop] at z
      rw [groupB_more h0 h, List.length_cons, List.length_append, List.length_take]
      omega
    · rw [groupB_last (by omega), List.length_cons]
      omega
theorem rowsB_sum (e : Int) (body : List Int) : ∀ n, n ≤ body.length → ∃ rs ls, rowsB e (body.take n) = rs ++ [ls] ∧ (rs.map List.length).sum + ls.length + rs.length = n
  | 0, _ => ⟨[], [], rfl, rfl⟩
  | n + 1, h => by
    obtain ⟨rs, ls, h1, h2⟩ := rowsB_sum e body n (by omega)
    have hx : body[n]? = some body[n] := List.getElem?_eq_getElem (by omega)
    rw [take_succ' hx, rowsB_snoc, h1]
    by_cases c : body[n] = e
    · rw [c, stepR_end]
      refine ⟨rs ++ [ls], [], rfl, ?_⟩
      rw [List.map_append, List.sum_append, List.length_append]
      simp
      omega
    · rw [stepR_in c]
      refine ⟨rs, ls ++ [body[n]], rfl, ?_⟩
      rw [List.length_append, List.length_singleton]
      omega
theorem rowsB_all (e : Int) (body : List Int) : ∃ rs ls, rowsB e body = rs ++ [ls] ∧ (rs.map List.length).sum + ls.length + rs.length = body.length := by
  have z := rowsB_sum e body body.length (Nat.le_refl _)
  rw [List.take_length] at z
  exact z
theorem flat_len {f : List Int → List Int} (hf : ∀ l, (f l).length ≤ 2 * l.length + 1) : ∀ rs : List (List Int), (rs.flatMap f).length ≤ 2 * (rs.map List.length).sum + rs.length
  | [] => Nat.le_refl _
  | l :: rs => by
    have ih := flat_len hf rs
    have z := hf l
    rw [List.flatMap_cons, List.length_append, List.map_cons, List.sum_cons, List.length_cons]
    omega
theorem flat_take {f : List Int → List Int} (rs : List (List Int)) (i : Nat) : ((rs.take i).flatMap f).length ≤ (rs.flatMap f).length := by
  conv => rhs; rw [← List.take_append_drop i rs, List.flatMap_append, List.length_append]
  omega
section
variable {P : Program} {w : World} {K : PySem.W.Frag} {mg : Str → Option Value} {base : Heap}
def spGroup (K : PySem.W.Frag) : Sp := fun vs H Q _ => ∃ (a c : Addr) (row cn : List Int) (n : Nat), vs = [.ref a, .ref c] ∧ H a = some (.lst (row.map V.int)) ∧ SqL K H c (cn.map V.int) ∧ cn.length = n + 1 ∧ 1 ≤ n ∧ row.length ≤ 1000 ∧
  ∀ g H', H g = none → Same H H' → H' g = some (.lst ((groupB cn n row).map V.int)) → Q (.ref g) H'
theorem c_grouped (Z : Blt mg) (d : Dd K mg "grouped" s_grouped P_grouped) : C8.Cal P w K mg base 1 "grouped" (spGroup K) [] := by
  refine d.cal sc_grouped (fun vs H Q E h => ?_) (fun f cdv A outer s H vs Q E hr h => ?_)
  · obtain ⟨a, c, row, cn, n, rfl, _⟩ := h
    rfl
  · obtain ⟨a, c, row, cn, n, rfl, ha, hc, hcn, hn, hlen, q⟩ := h
    have nd := sc_grouped.nd
    have tot := groupB_len (cn := cn) hn row.length row rfl
    refine ⟨_, (pss_cons (ps_set (i := 2) nd rfl (Or.inl rfl) (pe_op op_sub (pe_callB k_len (by rfl) Z.len_ (by decide +kernel) (pa_cons (pv 1) pa_nil)) pe_int))
  (pss_cons (ps_set (i := 3) nd rfl (Or.inl rfl) (pe_lst pa_nil))
  (pss_cons (ps_set (i := 4) nd rfl (Or.inl rfl) (pv 0))
  (pss_cons (ps_while PassesOwn.never (pt_cmpR op_ge (pe_callB k_len (by rfl) Z.len_ (by decide +kernel) (pa_cons (pv 4) pa_nil)) (pv 2) (nomark _))
    (pss_cons (ps_expr (pe_bm PySem.F.plainAttrs_list PySem.F.slot_list_append PySem.F.type_list_append mt_append (pv 3) (pa_cons (pe_ix ix_list (pv 1) (pe_un un_neg pe_int) (fun _ _ => rfl)) pa_nil)))
  (pss_cons (ps_expr (pe_bm PySem.F.plainAttrs_list PySem.F.slot_list_extend PySem.F.type_list_extend mt_extend (pv 3) (pa_cons (pe_slice sl_list (pv 4) po_none (po_some (pv 2))) pa_nil)))
  (pss_one (ps_set (i := 4) nd rfl (Or.inl rfl) (pe_slice sl_list (pv 4) (po_some (pv 2)) po_none))))))
  (pss_cons (ps_expr (pe_bm PySem.F.plainAttrs_list PySem.F.slot_list_append PySem.F.type_list_append mt_append (pv 3) (pa_cons (pe_ix ix_list (pv 1) (pe_callB k_len (by rfl) Z.len_ (by decide +kernel) (pa_cons (pv 4) pa_nil)) (fun _ _ => rfl)) pa_nil)))
  (pss_cons (ps_expr (pe_bm PySem.F.plainAttrs_list PySem.F.slot_list_extend PySem.F.type_list_extend mt_extend (pv 3) (pa_cons (pv 4) pa_nil)))
  (pss_one (ps_ret (pv 3))))))))), ?_⟩
    refine i_start (σ' := [some (.ref a), some (.ref c), none, none, none]) rfl ?_
    walk_at "go"
    walk_at "r"
    refine i_lst (Nat.zero_le _) (fun g H1 hg s1 e1 => ?_)
    have ew : ((cn.length : Nat) : Int) - 1 = (n : Int) := by omega
    walk_at "r"
    rw [ew]
    refine i_while (fun m σ' H' => ∃ lf dn la, m = lf.length ∧ σ' = [some (.ref a), some (.ref c), some (.int (n : Int)), some (.ref g), some (.ref la)] ∧ Same H H' ∧ H' la = some (.lst (lf.map V.int)) ∧ hide g H' la = some (.lst (lf.map V.int)) ∧ H' g = some (.lst (dn.map V.int)) ∧ dn ++ groupB cn n lf = groupB cn n row)
      row.length ⟨row, [], a, rfl, rfl, s1, s1 _ _ ha, hide_of hg s1 _ _ ha, e1, rfl⟩ (fun m σ' H' pv => ?_)
    obtain ⟨lf, dn, la, rfl, rfl, s2, hl, hl2, eg, hgr⟩ := pv
    have hc2 := s2.seq hc
    have ldn : dn.length + (groupB cn n lf).length ≤ 2001 := by
      have z := congrArg List.length hgr
      rw [List.length_append] at z
      omega
    walk_at "r"
    refine i_br (fun h => ?_) (fun h => ?_)
    · have hw : n ≤ lf.length := by omega
      have gm := groupB_more (cn := cn) hn hw
      have hcw : cn.map V.int = (cn.take n).map V.int ++ [.int (cn.getD n 0)] := by
        have z : cn[n]? = some (cn.getD n 0) := by
          rw [List.getD_eq_getElem?_getD, List.getElem?_eq_getElem (by omega)]
          rfl
        have u := take_succ' z
        rw [List.take_of_length_le (by omega)] at u
        rw [congrArg (List.map V.int) u, List.map_append]
        rfl
      have hc3 := hc2
      rw [hcw] at hc3
      have eg1 : ∀ o, upd H' g o g = some o := fun o => upd_same
      rw [gm] at ldn
      simp only [List.length_cons, List.length_append, List.length_take] at ldn
      walk_at "r"
      refine i_ixL hc3 (atI_last _ _) ?_
      walk_at "r"
      refine i_slL (sl_of (hide_mut _ _ hl2)) (fun p4 H4 hp4 s4 e4 => ?_)
      rw [cut_to, ← List.map_take] at e4
      have eg4 := s4 _ _ (eg1 (.lst (dn.map V.int ++ [.int (cn.getD n 0)])))
      have s04 : Same H H4 := (smut s2 hg).trans s4
      have h04 : Same (hide g H') (hide g H4) := hide_of hide_d (hide_mut.trans s4)
      walk_at "r"
      refine i_extend eg4 e4 (sz (by rw [List.length_append, List.length_map, List.length_map, List.length_take, List.length_singleton]; omega)) ?_
      walk_at "r"
      refine i_slL (sl_of (hide_mut _ _ (h04 _ _ hl2))) (fun p6 H6 hp6 s6 e6 => ?_)
      rw [cut_from, ← List.map_drop] at e6
      have eg5 : ∀ o, upd H4 g o g = some o := fun o => upd_same
      have eg6 := s6 _ _ (eg5 (.lst ((dn.map V.int ++ [.int (cn.getD n 0)]) ++ (lf.take n).map V.int)))
      have n6 : p6 ≠ g := fun z => by
        rw [z, upd_same] at hp6
        cases hp6
      walk_at "r"
      refine ⟨(lf.drop n).length, by rw [List.length_drop]; omega, lf.drop n, dn ++ (cn.getD n 0 :: lf.take n), p6, rfl, rfl, (smut s04 hg).trans s6, e6, (hide_ne n6).trans e6, ?_, ?_⟩
      · rw [eg6, List.map_append, List.map_cons, List.append_assoc]
        rfl
      · rw [← hgr, gm, List.append_assoc]
        rfl
    · have hw : lf.length < n := by omega
      have gl := groupB_last (cn := cn) hw
      rw [gl] at ldn
      simp only [List.length_cons] at ldn
      have hat : atI (cn.map V.int) (lf.length : Int) = some (.int (cn.getD lf.length 0)) := by
        refine atI_nat ?_
        rw [List.getElem?_map, List.getD_eq_getElem?_getD, List.getElem?_eq_getElem (by omega)]
        rfl
      walk_at "r"
      have eg1 : ∀ o, upd H' g o g = some o := fun o => upd_same
      refine i_extend (eg1 _) (hide_mut _ _ hl2) (sz (by rw [List.length_append, List.length_map, List.length_map, List.length_singleton]; omega)) ?_
      walk_at "r"
      refine q g _ hg (smut (smut s2 hg) hg) ?_
      rw [upd_same, ← hgr, gl, List.map_append, List.map_cons, List.append_assoc]
      rfl
end
end Esc

namespace Esc
open PySem PySem.Spec PyProof.Rows L2
theorem snoc_of_len {α β : Type} {as : List α} {rs : List β} {l : β} (h : as.length = (rs ++ [l]).length) : ∃ as' z, as = as' ++ [z] ∧ as'.length = rs.length := by
  rcases List.eq_nil_or_concat as with e | ⟨as', z, e⟩
  · rw [e, List.length_append] at h
    simp at h
  · rw [List.concat_eq_append] at e
    refine ⟨as', z, e, ?_⟩
    rw [e, List.length_append, List.length_append] at h
    simpa using h
section
variable {P : Program} {w : World} {K : PySem.W.Frag} {mg : Str → Option Value} {base : Heap}
theorem c_by_counts (Z : Blt mg) (c_plain_signs : C8.Cal P w K mg base 1 "plain_signs" spPlain []) (c_rows_between : C8.Cal P w K mg base 1 "rows_between" (spRows K) []) (c_grouped : C8.Cal P w K mg base 1 "grouped" (spGroup K) []) (d : Dd K mg "by_counts" s_by_counts P_by_counts) : C8.Cal P w K mg base 2 "by_counts" (spByK K isCounts rowOf) [] := by
  refine d.cal sc_by_counts (fun vs H Q E h => ?_) (fun f cdv A outer s H vs Q E hr h => ?_)
  · obtain ⟨p, b, t, e, k, body, rfl, _⟩ := h
    rfl
  · obtain ⟨p, b, t, e, k, body, rfl, ⟨l, rfl⟩, hp, ⟨hl2, hlt⟩, h3, h16, h0, h1, hb, hin, hlen, q⟩ := h
    have hp : SqT K H p [.str "counts", .int t, .int e, .int l] := hp
    have nd := sc_by_counts.nd
    have np := plain_len h0 h1
    have hw1 : 1 ≤ l.toNat - 1 := by omega
    have lcn : ((plainL t e).take l.toNat).length = (l.toNat - 1) + 1 := by
      rw [List.length_take]
      omega
    obtain ⟨rs, ls, hrows, hsum⟩ := rowsB_all e body
    have gl : ∀ x, (groupB ((plainL t e).take l.toNat) (l.toNat - 1) x).length ≤ 2 * x.length + 1 := fun x => groupB_len hw1 _ x rfl
    have ltot : ((rowsB e body).flatMap (groupB ((plainL t e).take l.toNat) (l.toNat - 1))).length ≤ 3001 := by
      have z := flat_len gl (rowsB e body)
      have zs : ((rowsB e body).map List.length).sum = (rs.map List.length).sum + ls.length := by
        rw [hrows, List.map_append, List.sum_append]
        simp
      have zl : (rowsB e body).length = rs.length + 1 := by
        rw [hrows]
        simp
      omega
    refine ⟨_, (pss_cons (ps_asg (pv 0) (pg_tup rfl (pgs_cons (pg_name (i := 2) nd rfl (Or.inl rfl)) (pgs_cons (pg_name (i := 3) nd rfl (Or.inl rfl)) (pgs_cons (pg_name (i := 4) nd rfl (Or.inl rfl)) (pgs_cons (pg_name (i := 5) nd rfl (Or.inl rfl)) pgs_nil))))))
  (pss_cons (ps_set (i := 6) nd rfl (Or.inl rfl) (pe_slice sl_list (C8.pe_c c_plain_signs hr (by decide) (by rfl) (pa_cons (pv 3) (pa_cons (pv 4) pa_nil))) po_none (po_some (pv 5))))
  (pss_cons (ps_set (i := 7) nd rfl (Or.inl rfl) (C8.pe_c c_rows_between hr (by decide) (by rfl) (pa_cons (pv 1) (pa_cons (pv 4) pa_nil))))
  (pss_cons (ps_set (i := 8) nd rfl (Or.inl rfl) (pe_lst pa_nil))
  (pss_cons (ps_for PassesOwn.never rfl (pi_list (pv 7)) (pg_name (i := 9) nd rfl (Or.inl rfl))
    (pss_one (ps_expr (pe_bm PySem.F.plainAttrs_list PySem.F.slot_list_extend PySem.F.type_list_extend mt_extend (pv 8) (pa_cons (C8.pe_c c_grouped hr (by decide) (by rfl) (pa_cons (pv 9) (pa_cons (pv 6) pa_nil))) pa_nil)))))
  (pss_cons (ps_set (i := 10) nd rfl (Or.inl rfl) (pe_ix ix_list (pv 7) (pe_un un_neg pe_int) (fun _ _ => rfl)))
  (C8.pss_cut (ps_if (PW.pt (pw_and (pt_tru (pv 10) (by intro _; rfl)) (pw_and1 (pt_cmpR op_eq (pe_op op_mod (pe_callB k_len (by rfl) Z.len_ (by decide +kernel) (pa_cons (pv 10) pa_nil)) (pe_op op_sub (pv 5) pe_int)) pe_int (nomark _))))) (pss_one (ps_expr (pe_bm0 PySem.F.plainAttrs_list PySem.F.slot_list_pop PySem.F.type_list_pop mt_pop (pv 8)))) pss_nil)
  (pss_one (ps_ret (pv 8)))))))))), ?_⟩
    refine i_start (σ' := [some (.ref p), some (.ref b), none, none, none, none, none, none, none, none, none]) rfl ?_
    walk_at "go"
    walk_at "r"
    refine ⟨t, e, rfl, by omega, by omega, fun pl H1 _ s1 e1 => ?_⟩
    walk_at "r"
    refine i_slL (sl_of e1) (fun pc H2 _ s2 e2 => ?_)
    rw [show (l : Int) = ((l.toNat : Nat) : Int) by omega, cut_to, ← List.map_take] at e2
    have s02 := s1.trans s2
    walk_at "r"
    refine ⟨b, e, body, rfl, s02.seq hb, by omega, fun r as H3 _ s3 e3 hla => ?_⟩
    have s03 := s02.trans s3
    have e23 := s3 _ _ e2
    have las := hla.len
    walk_at "r"
    refine i_lst (Nat.zero_le _) (fun fr H4 hfr s4 e4 => ?_)
    have s04 := s03.trans s4
    walk_at "r"
    refine i_for (sl_of (s4 _ _ e3)) (fun i σ' H' => ∃ y, σ' = [some (.ref p), some (.ref b), some (.str "counts"), some (.int t), some (.int e), some (.int l), some (.ref pc), some (.ref r), some (.ref fr), y, none] ∧ Same H3 H' ∧ H' fr = some (.lst ((((rowsB e body).take i).flatMap (groupB ((plainL t e).take l.toNat) (l.toNat - 1))).map V.int)))
      ⟨none, rfl, s4, e4⟩ (fun i σ' H' _ ⟨_, _, s5, _⟩ => sl_of (s5 _ _ e3)) (fun i x σ' H' hi pv => ?_) (fun σ' H' pv => ?_)
    · obtain ⟨y, rfl, s5, ef⟩ := pv
      obtain ⟨a, ha, rfl⟩ := ref_get hi
      obtain ⟨row, hrow, har⟩ := hla.get ha
      have lrow := rowsB_row e body row (List.mem_of_getElem? hrow)
      have har5 := s5 _ _ har
      have hc5 := s5 _ _ e23
      have ltk := flat_take (f := groupB ((plainL t e).take l.toNat) (l.toNat - 1)) (rowsB e body) i
      have gr := gl row
      walk_at "r"
      refine ⟨a, pc, row, (plainL t e).take l.toNat, l.toNat - 1, rfl, har5, sl_of hc5, lcn, hw1, by omega, fun g H6 hg s6 e6 => ?_⟩
      have ef6 := s6 _ _ ef
      walk_at "r"
      refine i_extend ef6 e6 (sz (by rw [List.length_map, List.length_map]; omega)) ?_
      walk_at "r"
      refine ⟨_, rfl, smut (s5.trans s6) hfr, ?_⟩
      rw [upd_same, take_succ' hrow, List.flatMap_append, List.map_append, List.flatMap_cons, List.flatMap_nil, List.append_nil]
    · obtain ⟨y, rfl, s5, ef⟩ := pv
      rw [List.length_map, las, List.take_length] at ef
      have s0' := s03.trans s5
      have hfr0 := s03.free hfr
      obtain ⟨as', z, rfl, hz⟩ := snoc_of_len (las.trans (congrArg List.length hrows))
      have er := s5 _ _ e3
      rw [List.map_append] at er
      obtain ⟨c, hc, ez⟩ := (hla.same s5).get (i := as'.length) (a := z) (by rw [List.getElem?_append_right (Nat.le_refl _), Nat.sub_self]; rfl)
      have ec : c = ls := by
        rw [hrows, hz, List.getElem?_append_right (Nat.le_refl _), Nat.sub_self] at hc
        exact (Option.some.inj hc).symm
      subst ec
      have elast : (rowsB e body).getLastD [] = c := by rw [hrows, List.getLastD_concat]
      have fin : ∀ H6, Same H H6 → H6 fr = some (.lst ((cntB t e l body).map V.int)) → Q (.ref fr) H6 := fun H6 s6 e6 => q fr H6 hfr0 s6 e6
      walk_at "r"
      refine i_ixL (sl_of er) (atI_last _ _) ?_
      walk_at "r"
      refine i_cut (fun σ6 H6 => ∃ u, σ6 = [some (.ref p), some (.ref b), some (.str "counts"), some (.int t), some (.int e), some (.int l), some (.ref pc), some (.ref r), some (.ref fr), u, some (.ref z)] ∧ Same H H6 ∧ H6 fr = some (.lst ((cntB t e l body).map V.int))) ?_ (fun σ6 H6 pv => ?_)
      · walk_at "r"
        refine i_truL (sl_of ez) ?_
        rw [List.isEmpty_map]
        have keep : ¬ (c ≠ [] ∧ c.length % (l.toNat - 1) = 0) → cntB t e l body = (rowsB e body).flatMap (groupB ((plainL t e).take l.toNat) (l.toNat - 1)) := fun n => by
          unfold cntB
          rw [elast]
          exact if_neg n
        cases hcc : c with
        | nil =>
          subst hcc
          rw [List.isEmpty_nil, Bool.not_true]
          walk_at "r"
          refine ⟨_, rfl, s0', ?_⟩
          rw [keep fun z => z.1 rfl]
          exact ef
        | cons x1 c1 =>
          rw [← hcc]
          have hne : c ≠ [] := by
            rw [hcc]
            simp
          rw [show c.isEmpty = false by rw [hcc]; rfl, Bool.not_false]
          walk_at "r"
          have hmod : ((c.length : Int) % (l - 1) = 0) ↔ c.length % (l.toNat - 1) = 0 := by
            rw [show l - 1 = ((l.toNat - 1 : Nat) : Int) by omega, ← Int.natCast_emod]
            omega
          refine i_br (fun hm => ?_) (fun hm => ?_)
          · rw [hmod] at hm
            have pos : 0 < ((rowsB e body).flatMap (groupB ((plainL t e).take l.toNat) (l.toNat - 1))).length := by
              rw [hrows, List.flatMap_append, List.length_append, List.flatMap_cons, List.flatMap_nil, List.append_nil]
              have : 0 < (groupB ((plainL t e).take l.toNat) (l.toNat - 1) c).length := by
                rw [groupB]
                split <;> simp
              omega
            walk_at "r"
            refine i_pop ef (List.getElem?_eq_getElem (by rw [List.length_map]; omega)) ?_
            walk_at "r"
            refine ⟨_, rfl, smut s0' hfr0, ?_⟩
            rw [upd_same, ← List.map_dropLast]
            unfold cntB
            rw [elast, if_pos ⟨hne, hm⟩]
          · rw [hmod] at hm
            walk_at "r"
            refine ⟨_, rfl, s0', ?_⟩
            rw [keep fun z => hm z.2]
            exact ef
      · obtain ⟨u, rfl, s6, e6⟩ := pv
        walk_at "r"
        exact fin H6 s6 e6
end
end Esc

namespace Esc
open PySem PySem.Spec PyProof.Rows L2
theorem bodyR_rowR {t e : Int} (h3 : 3 ≤ t) (h0 : 0 ≤ e) (h1 : e < t) {body : List Int} (h : ∀ x ∈ body, 0 ≤ x ∧ x < t) : bodyR t e (rowR t e body) = body := by
  have z := plain_len h0 h1
  have hc : ∀ x ∈ body, x ∈ countL t := fun x hx => count_mem.mpr (h x hx)
  unfold rowR bodyR
  rw [digits_letters (plain_nodup t e) (row_lt (by omega) _), rank_row, row_rank (by omega) _ _ rfl (fun d hd => by rw [← count_len]; exact digits_lt hc d hd), letters_digits hc]
section
variable {P : Program} {w : World} {K : PySem.W.Frag} {mg : Str → Option Value} {base : Heap}
theorem c_by_ranks (Z : Blt mg) (c_row_of : C8.Cal P w K mg base 1 "row_of" (spRowOf K) []) (c_rank_of : C8.Cal P w K mg base 1 "rank_of" (spRankOf K) []) (c_plain_signs : C8.Cal P w K mg base 1 "plain_signs" spPlain [])
    (d : Dd K mg "by_ranks" s_by_ranks P_by_ranks) : C8.Cal P w K mg base 2 "by_ranks" (spByK K isRanks rowOf) [] := by
  refine d.cal sc_by_ranks (fun vs H Q E h => ?_) (fun f cdv A outer s H vs Q E hr h => ?_)
  · obtain ⟨p, b, t, e, k, body, rfl, _⟩ := h
    rfl
  · obtain ⟨p, b, t, e, k, body, rfl, rfl, hp, _, h3, h16, h0, h1, hb, hin, hlen, q⟩ := h
    have hp : SqT K H p [.str "ranks", .int t, .int e] := hp
    have nd := sc_by_ranks.nd
    refine ⟨_, (pss_cons (ps_asg (pv 0) (pg_tup rfl (pgs_cons (pg_name (i := 2) nd rfl (Or.inl rfl)) (pgs_cons (pg_name (i := 3) nd rfl (Or.inl rfl)) (pgs_cons (pg_name (i := 4) nd rfl (Or.inl rfl)) pgs_nil)))))
  (pss_one (ps_ret (C8.pe_c c_row_of hr (by decide) (by rfl) (pa_cons (C8.pe_c c_rank_of hr (by decide) (by rfl) (pa_cons (pv 1) (pa_cons (pe_listRg rfl rfl Z.list_ (prg_1 rfl Z.range_ (pv 3))) pa_nil))) (pa_cons (C8.pe_c c_plain_signs hr (by decide) (by rfl) (pa_cons (pv 3) (pa_cons (pv 4) pa_nil))) pa_nil)))))), ?_⟩
    refine i_start (σ' := [some (.ref p), some (.ref b), none, none, none]) rfl ?_
    walk_at "go"
    walk_at "r"
    refine i_lstRg ⟨by omega, by omega⟩ (fun p1 H1 hp1 s1 e1 => ?_)
    rw [rg_count] at e1
    walk_at "r"
    refine ⟨b, p1, body, countL t, rfl, s1.seq hb, sl_of e1, count_nodup t, fun x hx => count_mem.mpr (hin x hx), by rw [count_len]; omega, fun H2 s2 => ?_⟩
    walk_at "r"
    refine ⟨t, e, rfl, by omega, by omega, fun p3 H3 hp3 s3 e3 => ?_⟩
    walk_at "r"
    have z := plain_len h0 h1
    have hrl := rowR_len h3 h16 h0 h1 hin
    unfold rowR letters at hrl
    rw [List.length_map] at hrl
    rw [count_len]
    refine ⟨_, p3, plainL t e, rfl, sl_of e3, by omega, by omega, by unfold digits at hrl; omega, fun p4 H4 hp4 s4 e4 => ?_⟩
    rw [let_map] at e4
    exact q p4 H4 (s1.free (s2.free (s3.free hp4))) (s1.trans (s2.trans (s3.trans s4))) e4
end
end Esc

namespace Esc
open PySem PySem.Spec PyProof.Rows L2
def turnS (p : List Int) (body : List Int) : List Int := body.map fun x => p.getD x.toNat 0
def turnL (ts : List (List Int)) (body : List Int) : List Int := ts.foldl (fun b p => turnS p b) body
def frameW (wy : Way) (body : List Int) : List Int := rowOf wy.t wy.e wy.k (turnL wy.ts body) ++ [wy.e]
theorem turnL_snoc (ts : List (List Int)) (p : List Int) (body : List Int) : turnL (ts ++ [p]) body = turnS p (turnL ts body) := by
  unfold turnL
  rw [List.foldl_append]
  rfl
theorem turnS_in {t : Int} {p body : List Int} (hp : p.Perm (countL t)) (h : ∀ x ∈ body, 0 ≤ x ∧ x < t) : ∀ x ∈ turnS p body, 0 ≤ x ∧ x < t := fun x hx => by
  obtain ⟨y, hy, rfl⟩ := List.mem_map.mp hx
  have z := h y hy
  have lp := hp.length_eq
  rw [count_len] at lp
  have hl : y.toNat < p.length := by omega
  rw [List.getD_eq_getElem?_getD, List.getElem?_eq_getElem hl]
  exact count_mem.mp (hp.subset (List.getElem_mem hl))
theorem turnS_len (p body : List Int) : (turnS p body).length = body.length := List.length_map _
theorem turnL_ok {t : Int} : ∀ (ts : List (List Int)), (∀ p ∈ ts, p.Perm (countL t)) → ∀ (body : List Int), (∀ x ∈ body, 0 ≤ x ∧ x < t) → (∀ x ∈ turnL ts body, 0 ≤ x ∧ x < t) ∧ (turnL ts body).length = body.length
  | [], _, body, h => ⟨h, rfl⟩
  | p :: ts, hp, body, h => by
    have z := turnL_ok ts (fun q hq => hp q (List.mem_cons_of_mem _ hq)) (turnS p body) (turnS_in (hp p List.mem_cons_self) h)
    rw [turnS_len] at z
    exact z
theorem cntB_len {t e l : Int} (hl2 : 2 ≤ l) (body : List Int) : (cntB t e l body).length ≤ 2 * body.length + 1 := by
  obtain ⟨rs, ls, hrows, hsum⟩ := rowsB_all e body
  have z := flat_len (f := groupB ((plainL t e).take l.toNat) (l.toNat - 1)) (fun x => groupB_len (by omega) _ x rfl) (rowsB e body)
  have zs : ((rowsB e body).map List.length).sum = (rs.map List.length).sum + ls.length := by
    rw [hrows, List.map_append, List.sum_append]
    simp
  have zl : (rowsB e body).length = rs.length + 1 := by
    rw [hrows]
    simp
  unfold cntB
  dsimp only
  split
  · rw [List.length_dropLast]
    omega
  · omega
theorem rowOf_len {t e : Int} {k : Kind} (ok : KindOk t e k) (h3 : 3 ≤ t) (h16 : t ≤ 16) (h0 : 0 ≤ e) (h1 : e < t) {body : List Int} (h : ∀ x ∈ body, 0 ≤ x ∧ x < t) : (rowOf t e k body).length ≤ 5 * body.length + 1 := by
  cases k with
  | codes cs =>
    have z := codesB_len (fun c hc => (ok.2.1 c hc).2.1) body
    show (codesB cs body).length ≤ _
    omega
  | escapes m prs =>
    have z := escB_len m prs body
    show (escB m prs body).length ≤ _
    omega
  | counts l =>
    have z := cntB_len (t := t) (e := e) ok.1 body
    show (cntB t e l body).length ≤ _
    omega
  | ranks =>
    have z := rowR_len h3 h16 h0 h1 h
    show (rowR t e body).length ≤ _
    omega
section
variable {P : Program} {w : World} {K : PySem.W.Frag} {mg : Str → Option Value} {base : Heap}
/-- the four framers, where FRAMERS has them -/
structure Framers (P : Program) (w : World) (K : PySem.W.Frag) (mg : Str → Option Value) (base : Heap) (pF : Addr) : Prop where
  codes : ∃ f, mg "by_codes" = some (.ref f) ∧ KDct K w pF "codes" (.ref f) ∧ C8.Cal P w K mg base 1 "by_codes" (spByK K isCodes rowOf) []
  escapes : ∃ f, mg "by_escapes" = some (.ref f) ∧ KDct K w pF "escapes" (.ref f) ∧ C8.Cal P w K mg base 1 "by_escapes" (spByK K isEscapes rowOf) []
  counts : ∃ f, mg "by_counts" = some (.ref f) ∧ KDct K w pF "counts" (.ref f) ∧ C8.Cal P w K mg base 2 "by_counts" (spByK K isCounts rowOf) []
  ranks : ∃ f, mg "by_ranks" = some (.ref f) ∧ KDct K w pF "ranks" (.ref f) ∧ C8.Cal P w K mg base 2 "by_ranks" (spByK K isRanks rowOf) []
def isAny : Int → Int → Kind → Prop := fun _ _ _ => True
theorem Framers.of {pF : Addr} (F : Framers P w K mg base pF) (k : Kind) : ∃ (fa : Addr) (sp : Sp), Held P w K mg base 2 fa sp ∧ KDct K w pF k.name (.ref fa) ∧
    ∀ (p b : Addr) (t e : Int) (body : List Int) H Q E, KindAt K H p t e k → KindOk t e k → 3 ≤ t → t ≤ 16 → 0 ≤ e → e < t → SqL K H b (body.map V.int) → (∀ x ∈ body, 0 ≤ x ∧ x < t) → body.length ≤ 200 →
      (∀ q H', H q = none → Same H H' → H' q = some (.lst ((rowOf t e k body).map V.int)) → Q (.ref q) H') → sp [.ref p, .ref b] H Q E := by
  cases k with
  | codes cs =>
    obtain ⟨f, h1, h2, c⟩ := F.codes
    exact ⟨f, _, held_of c h1 (by decide), h2, fun p b t e body H Q E a1 a2 a3 a4 a5 a6 a7 a8 a9 q => ⟨p, b, t, e, _, body, rfl, ⟨cs, rfl⟩, a1, a2, a3, a4, a5, a6, a7, a8, a9, q⟩⟩
  | escapes m prs =>
    obtain ⟨f, h1, h2, c⟩ := F.escapes
    exact ⟨f, _, held_of c h1 (by decide), h2, fun p b t e body H Q E a1 a2 a3 a4 a5 a6 a7 a8 a9 q => ⟨p, b, t, e, _, body, rfl, ⟨m, prs, rfl⟩, a1, a2, a3, a4, a5, a6, a7, a8, a9, q⟩⟩
  | counts l =>
    obtain ⟨f, h1, h2, c⟩ := F.counts
    exact ⟨f, _, held_of c h1 (by decide), h2, fun p b t e body H Q E a1 a2 a3 a4 a5 a6 a7 a8 a9 q => ⟨p, b, t, e, _, body, rfl, ⟨l, rfl⟩, a1, a2, a3, a4, a5, a6, a7, a8, a9, q⟩⟩
  | ranks =>
    obtain ⟨f, h1, h2, c⟩ := F.ranks
    exact ⟨f, _, held_of c h1 (by decide), h2, fun p b t e body H Q E a1 a2 a3 a4 a5 a6 a7 a8 a9 q => ⟨p, b, t, e, _, body, rfl, rfl, a1, a2, a3, a4, a5, a6, a7, a8, a9, q⟩⟩
def spFrameW (K : PySem.W.Frag) : Sp := fun vs H Q _ => ∃ (v : V) (b : Addr) (wy : Way) (body : List Int), vs = [v, .ref b] ∧ WayAt K H v wy ∧ wy.Ok ∧ SqL K H b (body.map V.int) ∧ (∀ x ∈ body, 0 ≤ x ∧ x < wy.t) ∧ body.length ≤ 200 ∧
  ∀ q H', H q = none → Same H H' → H' q = some (.lst ((frameW wy body).map V.int)) → Q (.ref q) H'
def spExch (K : PySem.W.Frag) : Sp := fun vs H Q _ => ∃ (l b : Addr) (tas : List (Addr × List Int)) (t : Int) (body : List Int), vs = [.ref l, .ref b] ∧ SqL K H l (tas.map fun a => .ref a.1) ∧ (∀ a ∈ tas, SqT K H a.1 (a.2.map V.int)) ∧ tas.length ≤ 3 ∧ (∀ p ∈ tas.map (·.2), p.Perm (countL t)) ∧ t ≤ 16 ∧
  SqL K H b (body.map V.int) ∧ (∀ x ∈ body, 0 ≤ x ∧ x < t) ∧ body.length ≤ 1000 ∧ ∀ q H', Same H H' → SqL K H' q ((turnL (tas.map (·.2)) body).map V.int) → Q (.ref q) H'
theorem c_exchanged (d : Dd K mg "exchanged" s_exchanged P_exchanged) : C8.Cal P w K mg base 1 "exchanged" (spExch K) [] := by
  refine d.cal sc_exchanged (fun vs H Q E h => ?_) (fun f cdv A outer s H vs Q E hr h => ?_)
  · obtain ⟨l, b, tas, t, body, rfl, _⟩ := h
    rfl
  · obtain ⟨l, b, tas, t, body, rfl, el, hts, ltas, hperm, h16, hb, hin, hlen, q⟩ := h
    have nd := sc_exchanged.nd
    refine ⟨_, (pss_cons (ps_set (i := 2) nd rfl (Or.inl rfl) (pv 1))
  (pss_cons (ps_for PassesOwn.never rfl (pi_list (pv 0)) (pg_name (i := 3) nd rfl (Or.inr rfl))
    (pss_one (ps_setLc (i := 2) (own := [("sign", 4)]) (g := gName 4) (tt := tYes) rfl nd rfl rfl (sw_true rfl rfl rfl (by decide +kernel)) (pi_list (pv 2)) (blkOk_by (N := N_exchanged) (sc := C8.fnScope s_exchanged) (own := [("sign", 4)]) (by decide +kernel)) (fun _ _ _ _ _ => (pg_name (i := 4) nd rfl (Or.inl rfl))) (fun _ _ _ _ _ => pts_nil) (fun _ _ _ _ _ => (pe_ix (show IxR _ (rIxT K) from ix_tup) (pv 3) (pv 4) (fun _ _ => rfl))))))
  (pss_one (ps_ret (pv 2))))), ?_⟩
    refine i_start (σ' := [some (.ref l), some (.ref b), none, none, none]) rfl ?_
    walk_at "go"
    walk_at "r"
    refine i_for el (fun i σ' H' => ∃ tb y, σ' = [some (.ref l), some (.ref b), some (.ref tb), y, none] ∧ Same H H' ∧ SqL K H' tb ((turnL ((tas.map (·.2)).take i) body).map V.int)) ⟨b, none, rfl, Same.refl _, hb⟩ (fun i σ' H' _ ⟨_, _, _, s2, _⟩ => s2.seq el) (fun i x σ' H' hi pv => ?_) (fun σ' H' pv => ?_)
    · obtain ⟨tb, y, rfl, s2, htb⟩ := pv
      rw [List.getElem?_map] at hi
      obtain ⟨a, ha, rfl⟩ : ∃ a, tas[i]? = some a ∧ x = .ref a.1 := by
        cases e : tas[i]? with
        | none =>
          rw [e] at hi
          cases hi
        | some a =>
          rw [e] at hi
          exact ⟨a, rfl, (Option.some.inj hi).symm⟩
      have hts2 : (tas.map (·.2))[i]? = some a.2 := by
        rw [List.getElem?_map, ha]
        rfl
      have hpa := hperm a.2 (List.mem_of_getElem? hts2)
      have hsa := stup s2 (hts a (List.mem_of_getElem? ha))
      obtain ⟨pin, plen⟩ := turnL_ok ((tas.map (·.2)).take i) (fun p hp => hperm p (List.mem_of_mem_take hp)) body hin
      have lp := hpa.length_eq
      rw [count_len] at lp
      walk_at "r"
      refine i_lcL (F := fun v => match v with | .int n => some (.int (a.2.getD n.toNat 0)) | _ => none) htb (by rw [List.length_map]; omega) (fun v hv H3 s3 QN QY hN hY => ?_) (fun p3 H3 hp3 s3 e3 => ?_)
      · obtain ⟨n, hn, rfl⟩ := List.mem_map.mp hv
        have zn := pin n hn
        have hsa3 := stup s3 hsa
        have hat : atI (a.2.map V.int) n = some (.int (a.2.getD n.toNat 0)) := by
          have z : ∀ (k : Nat) (v : V), n = (k : Int) → (a.2.map V.int)[k]? = some v → atI (a.2.map V.int) n = some v := fun k v z1 z2 => by
            rw [z1]
            exact atI_nat z2
          refine z n.toNat _ (by omega) ?_
          rw [List.getElem?_map, List.getD_eq_getElem?_getD, List.getElem?_eq_getElem (by omega)]
          rfl
        walk_at "r"
        exact hY _ rfl _ (Same.refl _)
      · have e5 : ∀ l : List Int, (l.map V.int).filterMap (fun v => match v with | .int n => some (V.int (a.2.getD n.toNat 0)) | _ => none) = (turnS a.2 l).map V.int := fun l => by
          induction l with
          | nil => rfl
          | cons n r ih =>
            rw [List.map_cons, List.filterMap_cons, ih]
            rfl
        rw [e5] at e3
        refine ⟨p3, _, rfl, s2.trans s3, ?_⟩
        rw [take_succ' hts2, turnL_snoc]
        exact sl_of e3
    · obtain ⟨tb, y, rfl, s2, htb⟩ := pv
      rw [List.length_map, show tas.length = (tas.map (·.2)).length by rw [List.length_map], List.take_length] at htb
      walk_at "r"
      exact q _ _ s2 htb
theorem c_frame_of {pF : Addr} (m_FRAMERS : GR mg "FRAMERS" pF) (F : Framers P w K mg base pF) (c_unturned : C8.Cal P w K mg base 1 "unturned" (spUnturned K) []) (c_exchanged : C8.Cal P w K mg base 1 "exchanged" (spExch K) []) (d : Dd K mg "frame_of" s_frame_of P_frame_of) : C8.Cal P w K mg base 3 "frame_of" (spFrameW K) [] := by
  refine d.cal sc_frame_of (fun vs H Q E h => ?_) (fun f cdv A outer s H vs Q E hr h => ?_)
  · obtain ⟨v, b, wy, body, rfl, _⟩ := h
    rfl
  · obtain ⟨v, b, wy, body, rfl, ⟨tas, p, hts, hw, hk⟩, ok, hb, hin, hlen, q⟩ := h
    have nd := sc_frame_of.nd
    obtain ⟨fa, sp, held, hF, hsp⟩ := F.of wy.k
    have A_put_together := S1_held held
    obtain ⟨xs, hx⟩ := hk.head
    have ltas : tas.length ≤ 3 := by
      have z := ok.few
      rw [← hts, List.length_map] at z
      exact z
    obtain ⟨tin, tlen⟩ := turnL_ok wy.ts ok.perm body hin
    refine ⟨_, (pss_cons (ps_asg (C8.pe_c c_unturned hr (by decide) (by rfl) (pa_cons (pv 0) pa_nil)) (pg_tup rfl (pgs_cons (pg_name (i := 2) nd rfl (Or.inl rfl)) (pgs_cons (pg_name (i := 3) nd rfl (Or.inl rfl)) pgs_nil))))
  (pss_cons (ps_set (i := 4) nd rfl (Or.inl rfl) (pe_ix ix_kdict (C8.pe_gc rfl m_FRAMERS) (pe_ix ix_tup (pv 3) pe_int (fun _ _ => rfl)) (fun _ _ => rfl)))
  (pss_one (ps_ret (pe_op op_cat (pe_callA A_put_together hr (x := "put_together") (i := 4) rfl (by first | exact Or.inl rfl | exact Or.inr (Or.inl rfl) | exact Or.inr (Or.inr rfl)) (pa_cons (pv 3) (pa_cons (C8.pe_c c_exchanged hr (by decide) (by rfl) (pa_cons (pv 2) (pa_cons (pv 1) pa_nil))) pa_nil))) (pe_lst (pa_cons (pe_ix ix_tup (pv 3) pe_int (fun _ _ => rfl)) pa_nil))))))), ?_⟩
    refine i_start (σ' := [some v, some (.ref b), none, none, none]) rfl ?_
    walk_at "go"
    walk_at "r"
    refine ⟨v, tas, p, wy.k.name, _, rfl, hw, hx, wy.k.name_ne, by omega, fun q1 l H1 _ _ s1 e1 el => ?_⟩
    have hx1 := stup s1 hx
    walk_at "r"
    refine i_kd hF ?_
    walk_at "r"
    refine i_callA S1_self ?_
    walk_at "r"
    refine ⟨l, b, tas, wy.t, body, rfl, sl_of el, fun a ha => stup s1 (hw.mem a ha), ltas, by rw [hts]; exact ok.perm, ok.t16, s1.seq hb, hin, by omega, fun tb H2 s2 htb => ?_⟩
    rw [hts] at htb
    have s12 := s1.trans s2
    have hk2 := hk.same s12
    have hx2 := stup s12 hx
    walk_at "r"
    refine hsp _ _ _ _ _ _ _ _ hk2 ok.kind ok.t3 ok.t16 ok.e0 ok.e1 htb tin (by omega) (fun p3 H3 hp3 s3 e3 => ?_)
    have hx3 := stup s3 hx2
    have rl := rowOf_len ok.kind ok.t3 ok.t16 ok.e0 ok.e1 tin
    walk_at "r"
    refine i_lst (by show 1 ≤ sizeLine; decide) (fun p4 H4 hp4 s4 e4 => ?_)
    have e34 := s4 _ _ e3
    walk_at "r"
    refine i_cat e34 e4 (sz (by rw [List.length_map, List.length_singleton]; omega)) (fun p5 H5 hp5 s5 e5 => ?_)
    have s25 := (s3.trans s4).trans s5
    refine q p5 H5 ((s12.trans (s3.trans s4)).free hp5) (s12.trans s25) ?_
    unfold frameW
    rw [List.map_append]
    exact e5
end
end Esc

namespace Esc
open PySem PySem.Spec PyProof.Rows L2
theorem cut_mid (xs : List V) (a b : Nat) (h : a ≤ b) : cutV xs (some (a : Int)) (some (b : Int)) = (xs.drop a).take (b - a) := by
  unfold cutV
  rw [HT.sIx_nat, HT.sIx_nat]
  by_cases ha : a ≤ xs.length
  · rw [Nat.min_eq_left ha]
    by_cases hb : b ≤ xs.length
    · rw [Nat.min_eq_left hb]
    · rw [Nat.min_eq_right (by omega), List.take_of_length_le (by rw [List.length_drop]; exact Nat.le_refl _), List.take_of_length_le (by rw [List.length_drop]; omega)]
  · rw [Nat.min_eq_right (by omega), Nat.min_eq_right (by omega), Nat.sub_self, List.drop_of_length_le (by omega), List.drop_of_length_le (by omega)]
    simp
/-- rows, each behind an end -/
def JT (e : Int) (rs : List (List Int)) : List Int := rs.flatMap fun r => e :: r
theorem JT_cons (e : Int) (r : List Int) (rs : List (List Int)) : JT e (r :: rs) = e :: (r ++ JT e rs) := by
  unfold JT
  rw [List.flatMap_cons]
  rfl
theorem JT_rows (e : Int) (body : List Int) : JT e (rowsB e body) = e :: body := by
  have : ∀ n, n ≤ body.length → JT e (rowsB e (body.take n)) = e :: body.take n := fun n => by
    induction n with
    | zero => intro _; rfl
    | succ n ih =>
      intro h
      have hx : body[n]? = some body[n] := List.getElem?_eq_getElem (by omega)
      obtain ⟨rs, ls, h1, _⟩ := rowsB_sum e body n (by omega)
      have ih := ih (by omega)
      rw [h1] at ih
      rw [take_succ' hx, rowsB_snoc, h1]
      by_cases c : body[n] = e
      · rw [c, stepR_end]
        unfold JT at ih ⊢
        rw [List.flatMap_append, ih]
        rfl
      · rw [stepR_in c]
        unfold JT at ih ⊢
        rw [List.flatMap_append, List.flatMap_cons, List.flatMap_nil, List.append_nil] at ih ⊢
        rw [← List.cons_append, ← List.append_assoc, ih]
        rfl
  have z := this body.length (Nat.le_refl _)
  rw [List.take_length] at z
  exact z
/-- all groups of rows -/
def full (cn : List Int) (w : Nat) (rs : List (List Int)) : List Int := rs.flatMap (groupB cn w)
theorem full_cons (cn : List Int) (w : Nat) (r : List Int) (rs : List (List Int)) : full cn w (r :: rs) = groupB cn w r ++ full cn w rs := by
  unfold full
  rw [List.flatMap_cons]
theorem groupB_pos (cn : List Int) (w : Nat) (r : List Int) : 0 < (groupB cn w r).length := by
  rw [groupB]
  split <;> simp
theorem full_pos (cn : List Int) (w : Nat) {rs : List (List Int)} (h : rs ≠ []) : 0 < (full cn w rs).length := by
  cases rs with
  | nil => exact absurd rfl h
  | cons r rs =>
    rw [full_cons, List.length_append]
    have := groupB_pos cn w r
    omega
theorem groupB_ge {cn : List Int} {w : Nat} (h0 : 0 < w) : ∀ (n : Nat) (row : List Int), row.length = n → row.length + 1 ≤ (groupB cn w row).length := by
  intro n
  induction n using Nat.strongRecOn with
  | ind n ih =>
    intro row hn
    by_cases h : w ≤ row.length
    · have z := ih (row.length - w) (by omega) (row.drop w) (List.length_drop ..)
      rw [List.length_drop] at z
      rw [groupB_more h0 h, List.length_cons, List.length_append, List.length_take]
      omega
    · rw [groupB_last (by omega), List.length_cons]
      omega
/-- the last of these rows is not empty, where something is left out -/
def Dg (D : Bool) (rs : List (List Int)) : Prop := D = true → rs ≠ [] → rs.getLastD [] ≠ []
theorem Dg.tl {D : Bool} {cur : List Int} {rest : List (List Int)} (h : Dg D (cur :: rest)) : Dg D rest := fun d n => by
  cases rest with
  | nil => exact absurd rfl n
  | cons r rest => exact h d (by simp)
/-- a row of whole groups ends with the sign of none -/
theorem groupB_end {cn : List Int} {w : Nat} (h0 : 0 < w) : ∀ (n : Nat) (row : List Int), row.length = n → row.length % w = 0 → ∃ pre, groupB cn w row = pre ++ [cn.getD 0 0] := by
  intro n
  induction n using Nat.strongRecOn with
  | ind n ih =>
    intro row hn hm
    by_cases h : w ≤ row.length
    · obtain ⟨pre, hp⟩ := ih (row.length - w) (by omega) (row.drop w) (List.length_drop ..) (by
        rw [List.length_drop]
        rw [← Nat.mod_eq_sub_mod h]
        exact hm)
      exact ⟨cn.getD w 0 :: (row.take w ++ pre), by rw [groupB_more h0 h, hp, List.cons_append, List.append_assoc]⟩
    · have z : row.length = 0 := by
        rw [Nat.mod_eq_of_lt (by omega)] at hm
        exact hm
      rw [List.length_eq_zero_iff] at z
      subst z
      exact ⟨[], by rw [groupB_last (by simpa using h0)]; rfl⟩
/-- what is left out at the end -/
def tailD (cn : List Int) (D : Bool) : List Int := if D = true then [cn.getD 0 0] else []
theorem cntB_full {t e l : Int} (hl2 : 2 ≤ l) (body : List Int) : ∃ D : Bool, cntB t e l body ++ tailD ((plainL t e).take l.toNat) D = full ((plainL t e).take l.toNat) (l.toNat - 1) (rowsB e body) ∧ (D = true → ((rowsB e body).getLastD []).length % (l.toNat - 1) = 0) ∧ (D = true → (rowsB e body).getLastD [] ≠ []) := by
  obtain ⟨rs, ls, hrows, _⟩ := rowsB_all e body
  have hlast : (rowsB e body).getLastD [] = ls := by rw [hrows, List.getLastD_concat]
  by_cases h : ls ≠ [] ∧ ls.length % (l.toNat - 1) = 0
  · refine ⟨true, ?_, fun _ => by rw [hlast]; exact h.2, fun _ => by rw [hlast]; exact h.1⟩
    obtain ⟨pre, hp⟩ := groupB_end (cn := (plainL t e).take l.toNat) (w := l.toNat - 1) (by omega) _ ls rfl h.2
    unfold cntB
    dsimp only
    rw [hlast, if_pos h]
    unfold full tailD
    rw [if_pos rfl, hrows, List.flatMap_append, List.flatMap_cons, List.flatMap_nil, List.append_nil, hp, ← List.append_assoc, List.dropLast_concat]
  · refine ⟨false, ?_, fun z => absurd z Bool.false_ne_true, fun z => absurd z Bool.false_ne_true⟩
    unfold cntB
    dsimp only
    rw [hlast, if_neg h]
    unfold full tailD
    rw [if_neg Bool.false_ne_true, List.append_nil]
theorem tailD_len (cn : List Int) (D : Bool) : (tailD cn D).length ≤ 1 := by
  unfold tailD
  split <;> simp
/-- one group, read -/
theorem read_group {cn : List Int} {w : Nat} {D : Bool} {cur : List Int} {rest : List (List Int)} {x : Int} {suf : List Int} (h0 : 0 < w) (h : (x :: suf) ++ tailD cn D = full cn w (cur :: rest)) (hD : D = true → ((cur :: rest).getLastD []).length % w = 0) :
    ∃ i, i ≤ w ∧ x = cn.getD i 0 ∧ ((i = w ∧ w ≤ cur.length ∧ suf.take i = cur.take w ∧ suf.drop i ++ tailD cn D = full cn w (cur.drop w :: rest) ∧ (D = true → ((cur.drop w :: rest).getLastD []).length % w = 0)) ∨
      (i < w ∧ i = cur.length ∧ suf.take i = cur ∧ suf.drop i ++ tailD cn D = full cn w rest ∧ (D = true → (rest.getLastD []).length % w = 0))) := by
  have tl := tailD_len cn D
  rw [full_cons] at h
  by_cases hw : w ≤ cur.length
  · rw [groupB_more h0 hw, List.cons_append, List.cons_append] at h
    obtain ⟨hx, hs⟩ := List.cons.inj h
    refine ⟨w, Nat.le_refl _, hx, .inl ⟨rfl, hw, ?_⟩⟩
    have lt : (cur.take w).length = w := by
      rw [List.length_take]
      omega
    have gp := groupB_pos cn w (cur.drop w)
    have ls : w ≤ suf.length := by
      have z := congrArg List.length hs
      rw [List.length_append, List.length_append, List.length_append, lt] at z
      omega
    have e1 : suf.take w = cur.take w := by
      have z := congrArg (List.take w) hs
      rw [List.take_append_of_le_length ls, List.append_assoc, List.take_append_of_le_length (Nat.le_of_eq lt.symm), List.take_of_length_le (Nat.le_of_eq lt)] at z
      exact z
    refine ⟨e1, ?_, fun d => ?_⟩
    · have z := congrArg (List.drop w) hs
      rw [List.drop_append_of_le_length ls, List.append_assoc, List.drop_append_of_le_length (Nat.le_of_eq lt.symm), List.drop_of_length_le (Nat.le_of_eq lt), List.nil_append] at z
      rw [full_cons]
      exact z
    · have z := hD d
      cases rest with
      | nil =>
        show (cur.drop w).length % w = 0
        have z : cur.length % w = 0 := z
        rw [List.length_drop, ← Nat.mod_eq_sub_mod hw]
        exact z
      | cons r rest => exact z
  · rw [groupB_last (by omega), List.cons_append, List.cons_append] at h
    obtain ⟨hx, hs⟩ := List.cons.inj h
    refine ⟨cur.length, by omega, hx, .inr ⟨by omega, rfl, ?_⟩⟩
    have ls : cur.length ≤ suf.length := by
      have z := congrArg List.length hs
      rw [List.length_append, List.length_append] at z
      cases rest with
      | nil =>
        by_cases d : D = true
        · have y : cur.length % w = 0 := hD d
          rw [Nat.mod_eq_of_lt (by omega)] at y
          omega
        · unfold tailD at z
          rw [if_neg d, List.length_nil] at z
          omega
      | cons r rest =>
        have := full_pos cn w (rs := r :: rest) (by simp)
        omega
    refine ⟨?_, ?_, fun d => ?_⟩
    · have z := congrArg (List.take cur.length) hs
      rw [List.take_append_of_le_length ls, List.take_append_of_le_length (Nat.le_refl _), List.take_length] at z
      exact z
    · have z := congrArg (List.drop cur.length) hs
      rw [List.drop_append_of_le_length ls, List.drop_append_of_le_length (Nat.le_refl _), List.drop_length, List.nil_append] at z
      exact z
    · cases rest with
      | nil => exact Nat.zero_mod _
      | cons r rest => exact hD d
end Esc

namespace Esc
open PySem PySem.Spec PyProof.Rows L2
theorem rows_plain {t e : Int} {body : List Int} (h : ∀ x ∈ body, 0 ≤ x ∧ x < t) : ∀ row ∈ rowsB e body, ∀ x ∈ row, Plain t e x := by
  have : ∀ n, n ≤ body.length → ∀ row ∈ rowsB e (body.take n), ∀ x ∈ row, Plain t e x := fun n => by
    induction n with
    | zero =>
      intro _ row hr x hx
      rw [List.take_zero] at hr
      rw [List.mem_singleton.mp hr] at hx
      cases hx
    | succ n ih =>
      intro hn row hr x hx
      have hb : body[n]? = some body[n] := List.getElem?_eq_getElem (by omega)
      obtain ⟨rs, ls, h1, _⟩ := rowsB_sum e body n (by omega)
      have ih := ih (by omega)
      rw [h1] at ih
      rw [take_succ' hb, rowsB_snoc, h1] at hr
      by_cases c : body[n] = e
      · rw [c, stepR_end] at hr
        rcases List.mem_append.mp hr with m | m
        · exact ih row m x hx
        · rw [List.mem_singleton.mp m] at hx
          cases hx
      · rw [stepR_in c] at hr
        rcases List.mem_append.mp hr with m | m
        · exact ih row (List.mem_append_left _ m) x hx
        · rw [List.mem_singleton.mp m] at hx
          rcases List.mem_append.mp hx with m | m
          · exact ih ls (List.mem_append_right _ (List.mem_singleton.mpr rfl)) x m
          · rw [List.mem_singleton.mp m]
            have z := h body[n] (List.getElem_mem _)
            exact ⟨z.1, z.2, c⟩
  have z := this body.length (Nat.le_refl _)
  rw [List.take_length] at z
  exact z
theorem group_plain {t e : Int} {cn : List Int} {w : Nat} (h0 : 0 < w) (hc : cn.length = w + 1) (hp : ∀ x ∈ cn, Plain t e x) : ∀ (n : Nat) (row : List Int), row.length = n → (∀ x ∈ row, Plain t e x) → ∀ x ∈ groupB cn w row, Plain t e x := by
  have at_ : ∀ i, i ≤ w → Plain t e (cn.getD i 0) := fun i hi => by
    rw [List.getD_eq_getElem?_getD, List.getElem?_eq_getElem (by omega)]
    exact hp _ (List.getElem_mem _)
  intro n
  induction n using Nat.strongRecOn with
  | ind n ih =>
    intro row hn hr x hx
    by_cases h : w ≤ row.length
    · rw [groupB_more h0 h] at hx
      rcases List.mem_cons.mp hx with rfl | m
      · exact at_ w (Nat.le_refl _)
      · rcases List.mem_append.mp m with m | m
        · exact hr x (List.mem_of_mem_take m)
        · exact ih (row.length - w) (by omega) (row.drop w) (List.length_drop ..) (fun y hy => hr y (List.mem_of_mem_drop hy)) x m
    · rw [groupB_last (by omega)] at hx
      rcases List.mem_cons.mp hx with rfl | m
      · exact at_ _ (by omega)
      · exact hr x m
theorem rowOf_plain {t e : Int} {k : Kind} (ok : KindOk t e k) (h3 : 3 ≤ t) (h16 : t ≤ 16) (h0 : 0 ≤ e) (h1 : e < t) {body : List Int} (h : ∀ x ∈ body, 0 ≤ x ∧ x < t) : ∀ x ∈ rowOf t e k body, Plain t e x := by
  intro x hx
  cases k with
  | codes cs =>
    obtain ⟨y, hy, m⟩ := List.mem_flatMap.mp (show x ∈ codesB cs body from hx)
    rw [List.getD_eq_getElem?_getD] at m
    cases e1 : cs[y.toNat]? with
    | none =>
      rw [e1] at m
      cases m
    | some c =>
      rw [e1] at m
      exact (ok.2.1 c (List.mem_of_getElem? e1)).2.2 x m
  | escapes mk prs =>
    obtain ⟨hm, hw, hr0, he1, hm1, hcp, hcn⟩ := ok
    obtain ⟨y, hy, m⟩ := List.mem_flatMap.mp (show x ∈ escB mk prs body from hx)
    cases el : look prs y with
    | some c =>
      rw [escS_some el] at m
      rcases List.mem_cons.mp m with rfl | m
      · exact hm
      · rw [List.mem_singleton.mp m]
        exact hcp c (List.mem_map.mpr ⟨(y, c), look_some el, rfl⟩)
    | none =>
      rw [escS_none el] at m
      rw [List.mem_singleton.mp m]
      have z := h y hy
      refine ⟨z.1, z.2, fun q => ?_⟩
      subst q
      obtain ⟨pc, hpc, e2⟩ := List.mem_map.mp he1
      have hnf : (prs.map (·.1)).Nodup := hw.imp fun h => by omega
      have zz := look_mem hnf hpc
      rw [e2, el] at zz
      cases zz
  | counts l =>
    obtain ⟨hl2, hlt⟩ := ok
    have np := plain_len h0 h1
    have lcn : ((plainL t e).take l.toNat).length = (l.toNat - 1) + 1 := by
      rw [List.length_take]
      omega
    have m : x ∈ full ((plainL t e).take l.toNat) (l.toNat - 1) (rowsB e body) := by
      obtain ⟨D, hf, _⟩ := cntB_full (t := t) (e := e) hl2 body
      rw [← hf]
      exact List.mem_append_left _ hx
    obtain ⟨row, hrow, m⟩ := List.mem_flatMap.mp m
    exact group_plain (by omega) lcn (fun y hy => plain_mem.mp (List.mem_of_mem_take hy)) _ row rfl (rows_plain h row hrow) x m
  | ranks => exact plain_mem.mp (rowR_mem h3 h0 h1 body x hx)
theorem frameW_in {wy : Way} (ok : wy.Ok) {body : List Int} (h : ∀ x ∈ body, 0 ≤ x ∧ x < wy.t) : ∀ x ∈ frameW wy body, 0 ≤ x ∧ x < wy.t := fun x hx => by
  rcases List.mem_append.mp hx with m | m
  · have z := rowOf_plain ok.kind ok.t3 ok.t16 ok.e0 ok.e1 (turnL_ok wy.ts ok.perm body h).1 x m
    exact ⟨z.1, z.2.1⟩
  · rw [List.mem_singleton.mp m]
    exact ⟨ok.e0, ok.e1⟩
theorem frameW_count {wy : Way} (ok : wy.Ok) {body : List Int} (h : ∀ x ∈ body, 0 ≤ x ∧ x < wy.t) : (frameW wy body).count wy.e = 1 := by
  unfold frameW
  rw [List.count_append, List.count_eq_zero_of_not_mem (fun m => (rowOf_plain ok.kind ok.t3 ok.t16 ok.e0 ok.e1 (turnL_ok wy.ts ok.perm body h).1 _ m).2.2 rfl)]
  simp
theorem frameW_len {wy : Way} (ok : wy.Ok) {body : List Int} (h : ∀ x ∈ body, 0 ≤ x ∧ x < wy.t) : (frameW wy body).length ≤ 5 * body.length + 2 := by
  obtain ⟨tin, tlen⟩ := turnL_ok wy.ts ok.perm body h
  have z := rowOf_len ok.kind ok.t3 ok.t16 ok.e0 ok.e1 tin
  unfold frameW
  rw [List.length_append, List.length_singleton]
  omega
/-- exchanged back -/
theorem turn_back {t : Int} {p body : List Int} (hp : p.Perm (countL t)) (h : ∀ x ∈ body, 0 ≤ x ∧ x < t) : (turnS p body).map (fun x => ((p.idxOf x : Nat) : Int)) = body := by
  unfold turnS
  rw [List.map_map]
  conv => rhs; rw [← List.map_id body]
  refine List.map_congr_left fun x hx => ?_
  have z := h x hx
  have lp := hp.length_eq
  rw [count_len] at lp
  have hl : x.toNat < p.length := by omega
  show ((p.idxOf (p.getD x.toNat 0) : Nat) : Int) = x
  rw [List.getD_eq_getElem?_getD, List.getElem?_eq_getElem hl]
  show ((p.idxOf p[x.toNat] : Nat) : Int) = x
  rw [List.Nodup.idxOf_getElem (hp.nodup_iff.mpr (count_nodup t)) _ hl]
  omega
end Esc

/-! What lists of signs are the frames of: reading, as the program goes. -/
namespace Esc
open PySem PySem.Spec PyProof.Rows L2
/-! ### escapes -/
def escR (m : Int) (sw : List (Int × Int)) : Bool → List Int → Option (List Int)
  | false, [] => some []
  | true, [] => none
  | true, x :: r => match look sw x with
    | none => none
    | some s => (escR m sw false r).map (s :: ·)
  | false, x :: r => if x = m then escR m sw true r else (escR m sw false r).map (x :: ·)
theorem escR_t {m : Int} {sw : List (Int × Int)} {x s : Int} {r : List Int} (h : look sw x = some s) : escR m sw true (x :: r) = (escR m sw false r).map (s :: ·) := by
  rw [escR, h]
theorem escR_tn {m : Int} {sw : List (Int × Int)} {x : Int} {r : List Int} (h : look sw x = none) : escR m sw true (x :: r) = none := by
  rw [escR, h]
theorem escR_m {m : Int} {sw : List (Int × Int)} {r : List Int} : escR m sw false (m :: r) = escR m sw true r := by
  rw [escR, if_pos rfl]
theorem escR_f {m : Int} {sw : List (Int × Int)} {x : Int} {r : List Int} (h : x ≠ m) : escR m sw false (x :: r) = (escR m sw false r).map (x :: ·) := by
  rw [escR, if_neg h]
theorem escR_escB {m : Int} {prs : List (Int × Int)} (hnf : (prs.map (·.1)).Nodup) (hcn : (prs.map (·.2)).Nodup) (hm : m ∈ prs.map (·.1)) : ∀ body : List Int, escR m (swp prs) false (escB m prs body) = some body
  | [] => rfl
  | x :: body => by
    have ih := escR_escB hnf hcn hm body
    rw [escB_cons]
    cases el : look prs x with
    | some c =>
      rw [escS_some el]
      show escR m (swp prs) false (m :: c :: escB m prs body) = _
      rw [escR_m, escR_t (swp_look hcn el), ih]
      rfl
    | none =>
      rw [escS_none el]
      show escR m (swp prs) false (x :: escB m prs body) = _
      have ne : x ≠ m := fun z => by
        subst z
        obtain ⟨pc, hpc, e1⟩ := List.mem_map.mp hm
        have zz := look_mem hnf hpc
        rw [e1, el] at zz
        cases zz
      rw [escR_f ne, ih]
      rfl
theorem look_mem2 {l : List (Int × Int)} {x y : Int} (h : look l x = some y) : y ∈ l.map (·.2) := List.mem_map.mpr ⟨(x, y), look_some h, rfl⟩
theorem swp_snd (prs : List (Int × Int)) : (swp prs).map (·.2) = prs.map (·.1) := by
  unfold swp
  rw [List.map_map]
  rfl
theorem escR_in {t m : Int} {sw : List (Int × Int)} (hs : ∀ s ∈ sw.map (·.2), 0 ≤ s ∧ s < t) : ∀ (row : List Int) (mk : Bool) (b : List Int), (∀ x ∈ row, 0 ≤ x ∧ x < t) → escR m sw mk row = some b → (∀ x ∈ b, 0 ≤ x ∧ x < t) ∧ b.length ≤ row.length
  | [], false, b, _, h => by
    cases h
    exact ⟨fun x hx => (by cases hx), Nat.le_refl _⟩
  | [], true, b, _, h => by cases h
  | x :: r, true, b, hr, h => by
    cases el : look sw x with
    | none =>
      rw [escR_tn el] at h
      cases h
    | some s =>
      rw [escR_t el] at h
      cases e : escR m sw false r with
      | none =>
        rw [e] at h
        cases h
      | some b1 =>
        rw [e] at h
        cases h
        obtain ⟨h1, h2⟩ := escR_in hs r false b1 (fun y m => hr y (List.mem_cons_of_mem _ m)) e
        refine ⟨fun y hy => ?_, Nat.succ_le_succ h2⟩
        rcases List.mem_cons.mp hy with rfl | m
        · exact hs _ (look_mem2 el)
        · exact h1 y m
  | x :: r, false, b, hr, h => by
    by_cases c : x = m
    · subst c
      rw [escR_m] at h
      obtain ⟨h1, h2⟩ := escR_in hs r true b (fun y m => hr y (List.mem_cons_of_mem _ m)) h
      exact ⟨h1, Nat.le_succ_of_le h2⟩
    · rw [escR_f c] at h
      cases e : escR m sw false r with
      | none =>
        rw [e] at h
        cases h
      | some b1 =>
        rw [e] at h
        cases h
        obtain ⟨h1, h2⟩ := escR_in hs r false b1 (fun y m => hr y (List.mem_cons_of_mem _ m)) e
        refine ⟨fun y hy => ?_, Nat.succ_le_succ h2⟩
        rcases List.mem_cons.mp hy with rfl | m
        · exact hr _ List.mem_cons_self
        · exact h1 y m
/-! ### codes -/
def codR (cs : List (List Int)) : List Int → List Int → Option (List Int)
  | bs, [] => if bs = [] then some [] else none
  | bs, x :: r => if bs ++ [x] ∈ cs then (codR cs [] r).map (((cs.idxOf (bs ++ [x]) : Nat) : Int) :: ·) else codR cs (bs ++ [x]) r
theorem codR_hit {cs : List (List Int)} {bs r : List Int} {x : Int} (h : bs ++ [x] ∈ cs) : codR cs bs (x :: r) = (codR cs [] r).map (((cs.idxOf (bs ++ [x]) : Nat) : Int) :: ·) := by
  rw [codR, if_pos h]
theorem codR_miss {cs : List (List Int)} {bs r : List Int} {x : Int} (h : bs ++ [x] ∉ cs) : codR cs bs (x :: r) = codR cs (bs ++ [x]) r := by
  rw [codR, if_neg h]
theorem codR_end {cs : List (List Int)} {bs : List Int} (h : bs ≠ []) : codR cs bs [] = none := by
  rw [codR, if_neg h]
theorem codR_one {cs : List (List Int)} (hap : cs.Pairwise fun a b => ¬ a <+: b ∧ ¬ b <+: a) {j : Nat} {c : List Int} (hj : cs[j]? = some c) : ∀ (suf bs rest : List Int), suf ≠ [] → bs ++ suf = c → codR cs bs (suf ++ rest) = (codR cs [] rest).map ((j : Int) :: ·)
  | [], _, _, h, _ => absurd rfl h
  | x :: suf, bs, rest, _, h => by
    have hnd : cs.Nodup := hap.imp fun {a b} hab z => hab.1 (by rw [z]; exact List.prefix_refl _)
    obtain ⟨g1, g2⟩ := List.getElem?_eq_some_iff.mp hj
    show codR cs bs (x :: (suf ++ rest)) = _
    by_cases hs : suf = []
    · subst hs
      have m : bs ++ [x] ∈ cs := by
        rw [h]
        exact List.mem_of_getElem? hj
      rw [codR_hit m, h, ← g2, List.Nodup.idxOf_getElem hnd _ g1]
      rfl
    · have h2 : (bs ++ [x]) ++ suf = c := by
        rw [List.append_assoc]
        exact h
      have hno : bs ++ [x] ∉ cs := fun m => by
        obtain ⟨i, hi, ei⟩ := List.getElem_of_mem m
        have pre : cs[i] <+: cs[j] := by
          rw [ei, g2]
          exact ⟨suf, h2⟩
        have nj : i ≠ j := fun q => by
          subst q
          rw [g2] at ei
          have z := congrArg List.length h2
          rw [← ei, List.length_append] at z
          exact hs (List.length_eq_zero_iff.mp (by omega))
        rcases Nat.lt_or_gt_of_ne nj with q | q
        · exact (List.pairwise_iff_getElem.mp hap i j hi g1 q).1 pre
        · exact (List.pairwise_iff_getElem.mp hap j i g1 hi q).2 pre
      rw [codR_miss hno]
      exact codR_one hap hj suf (bs ++ [x]) rest hs h2
theorem codesB_cons' (cs : List (List Int)) (x : Int) (body : List Int) : codesB cs (x :: body) = cs.getD x.toNat [] ++ codesB cs body := by
  unfold codesB
  rw [List.flatMap_cons]
theorem codR_codesB {t e : Int} {cs : List (List Int)} (ok : CodesOk t e cs) (hl : cs.length = t.toNat) : ∀ body : List Int, (∀ x ∈ body, 0 ≤ x ∧ x < t) → codR cs [] (codesB cs body) = some body
  | [], _ => rfl
  | x :: body, h => by
    have hx := h x List.mem_cons_self
    have ih := codR_codesB ok hl body fun y m => h y (List.mem_cons_of_mem _ m)
    have hxl : x.toNat < cs.length := by omega
    have hj : cs[x.toNat]? = some cs[x.toNat] := List.getElem?_eq_getElem hxl
    have hg : cs.getD x.toNat [] = cs[x.toNat] := by
      rw [List.getD_eq_getElem?_getD, hj]
      rfl
    have h1 := (ok.1 cs[x.toNat] (List.getElem_mem hxl)).1
    rw [codesB_cons', hg, codR_one ok.2 hj cs[x.toNat] [] _ (fun z => by rw [z] at h1; exact absurd h1 (by decide)) (List.nil_append _), ih]
    show some (((x.toNat : Nat) : Int) :: body) = _
    rw [Int.toNat_of_nonneg hx.1]
theorem codR_in {t : Int} {cs : List (List Int)} (h0 : 0 ≤ t) (hl : cs.length = t.toNat) : ∀ (row bs b : List Int), codR cs bs row = some b → (∀ x ∈ b, 0 ≤ x ∧ x < t) ∧ b.length ≤ row.length
  | [], bs, b, h => by
    by_cases c : bs = []
    · subst c
      cases h
      exact ⟨fun x hx => (by cases hx), Nat.le_refl _⟩
    · rw [codR_end c] at h
      cases h
  | x :: r, bs, b, h => by
    by_cases c : bs ++ [x] ∈ cs
    · rw [codR_hit c] at h
      cases e : codR cs [] r with
      | none =>
        rw [e] at h
        cases h
      | some b1 =>
        rw [e] at h
        cases h
        obtain ⟨h1, h2⟩ := codR_in h0 hl r [] b1 e
        refine ⟨fun y hy => ?_, Nat.succ_le_succ h2⟩
        rcases List.mem_cons.mp hy with rfl | m
        · have z := List.idxOf_lt_length_of_mem c
          omega
        · exact h1 y m
    · rw [codR_miss c] at h
      obtain ⟨h1, h2⟩ := codR_in h0 hl r _ b h
      exact ⟨h1, Nat.le_succ_of_le h2⟩
/-! ### counts -/
def cntR (pl : List Int) (l e : Int) (ov : Bool) : List Int → List Int
  | [] => []
  | x :: r => (if ov = true then [e] else []) ++ (r.take (pl.idxOf x) ++ cntR pl l e (decide (((pl.idxOf x : Nat) : Int) + 1 < l)) (r.drop (pl.idxOf x)))
  termination_by row => row.length
  decreasing_by rw [List.length_drop, List.length_cons]; omega
theorem cntR_nil {pl : List Int} {l e : Int} {ov : Bool} : cntR pl l e ov [] = [] := by rw [cntR]
theorem cntR_cons {pl : List Int} {l e : Int} {ov : Bool} {x : Int} {r : List Int} : cntR pl l e ov (x :: r) = (if ov = true then [e] else []) ++ (r.take (pl.idxOf x) ++ cntR pl l e (decide (((pl.idxOf x : Nat) : Int) + 1 < l)) (r.drop (pl.idxOf x))) := by rw [cntR]
theorem cntR_in {t e l : Int} {pl : List Int} (he : 0 ≤ e ∧ e < t) : ∀ (n : Nat) (row : List Int) (ov : Bool), row.length = n → (∀ x ∈ row, 0 ≤ x ∧ x < t) → (∀ x ∈ cntR pl l e ov row, 0 ≤ x ∧ x < t) ∧ (cntR pl l e ov row).length ≤ row.length := by
  intro n
  induction n using Nat.strongRecOn with
  | ind n ih =>
    intro row ov hn hr
    cases row with
    | nil =>
      rw [cntR_nil]
      exact ⟨fun x hx => (by cases hx), Nat.le_refl _⟩
    | cons x r =>
      rw [cntR_cons]
      generalize pl.idxOf x = i
      have z := ih (r.drop i).length (by rw [List.length_drop]; rw [List.length_cons] at hn; omega) (r.drop i) (decide (((i : Nat) : Int) + 1 < l)) rfl (fun y m => hr y (List.mem_cons_of_mem _ (List.mem_of_mem_drop m)))
      refine ⟨fun y hy => ?_, ?_⟩
      · rcases List.mem_append.mp hy with m | m
        · cases ov with
          | true =>
            rw [List.mem_singleton.mp m]
            exact he
          | false => cases m
        · rcases List.mem_append.mp m with m | m
          · exact hr y (List.mem_cons_of_mem _ (List.mem_of_mem_take m))
          · exact z.1 y m
      · have z2 := z.2
        have z3 : (if ov = true then [e] else []).length ≤ 1 := by
          split <;> simp
        rw [List.length_append, List.length_append, List.length_take]
        rw [List.length_drop] at z2
        rw [List.length_cons]
        omega
theorem cntR_full {t e l : Int} (hl2 : 2 ≤ l) (hlt : l < t) (h0 : 0 ≤ e) (h1 : e < t) {D : Bool} {cn : List Int} (hcn : (plainL t e).take l.toNat = cn) : ∀ (n : Nat) (s : List Int), s.length = n → ∀ rs : List (List Int), s ++ tailD cn D = full cn (l.toNat - 1) rs → (D = true → (rs.getLastD []).length % (l.toNat - 1) = 0) →
    (Dg D rs → cntR (plainL t e) l e true s = JT e rs) ∧ (∀ cur rest, rs = cur :: rest → Dg D rest → cntR (plainL t e) l e false s = cur ++ JT e rest) := by
  have np := plain_len h0 h1
  have lcn : cn.length = (l.toNat - 1) + 1 := by
    rw [← hcn, List.length_take]
    omega
  intro n
  induction n using Nat.strongRecOn with
  | ind n ih =>
    intro s hn rs hsuf hD
    have tl := tailD_len cn D
    cases s with
    | nil =>
      rw [List.nil_append] at hsuf
      have lone : ∀ (cur : List Int) (rest : List (List Int)), tailD cn D = full cn (l.toNat - 1) (cur :: rest) → D = true ∧ cur = [] ∧ rest = [] := fun cur rest z => by
        have z2 := congrArg List.length z
        rw [full_cons, List.length_append] at z2
        have g := groupB_ge (cn := cn) (w := l.toNat - 1) (by omega) cur.length cur rfl
        refine ⟨?_, List.length_eq_zero_iff.mp (by omega), ?_⟩
        · cases D with
          | true => rfl
          | false =>
            have : (tailD cn false).length = 0 := rfl
            omega
        · cases rest with
          | nil => rfl
          | cons r rest =>
            have := full_pos cn (l.toNat - 1) (rs := r :: rest) (by simp)
            omega
      rw [cntR_nil, cntR_nil]
      refine ⟨fun g => ?_, fun cur rest h g => ?_⟩
      · cases rs with
        | nil => rfl
        | cons cur rest =>
          obtain ⟨d, e1, e2⟩ := lone cur rest hsuf
          subst e1 e2
          exact absurd rfl (g d (by simp))
      · subst h
        obtain ⟨d, e1, e2⟩ := lone cur rest hsuf
        subst e1 e2
        rfl
    | cons x r =>
      have key : ∀ cur rest, rs = cur :: rest → Dg D rest → r.take ((plainL t e).idxOf x) ++ cntR (plainL t e) l e (decide ((((plainL t e).idxOf x : Nat) : Int) + 1 < l)) (r.drop ((plainL t e).idxOf x)) = cur ++ JT e rest := fun cur rest h g => by
        subst h
        obtain ⟨i, hi, hxi, hcase⟩ := read_group (by omega) hsuf hD
        have hil : i < cn.length := by omega
        have hci : cn[i]? = some x := by
          rw [hxi, List.getD_eq_getElem?_getD, List.getElem?_eq_getElem hil]
          rfl
        have hpi : (plainL t e)[i]? = some x := by
          rw [← hcn, List.getElem?_take] at hci
          split at hci
          · exact hci
          · cases hci
        have hidx : (plainL t e).idxOf x = i := by
          obtain ⟨g1, g2⟩ := List.getElem?_eq_some_iff.mp hpi
          rw [← g2]
          exact List.Nodup.idxOf_getElem (plain_nodup t e) i g1
        rw [hidx]
        have lt : (r.drop i).length < n := by
          rw [List.length_drop]
          rw [List.length_cons] at hn
          omega
        rcases hcase with ⟨h1, h2, h3, h4, h5⟩ | ⟨h1, h2, h3, h4, h5⟩
        · rw [decide_eq_false (by omega), (ih _ lt (r.drop i) rfl _ h4 h5).2 _ _ rfl g, h3, ← List.append_assoc, List.take_append_drop]
        · rw [decide_eq_true (by omega), (ih _ lt (r.drop i) rfl _ h4 h5).1 g, h3]
      refine ⟨fun g => ?_, fun cur rest h g => ?_⟩
      · cases rs with
        | nil => cases hsuf
        | cons cur rest =>
          rw [cntR_cons, key cur rest rfl g.tl, if_pos rfl, JT_cons]
          rfl
      · rw [cntR_cons, key cur rest h g, if_neg Bool.false_ne_true]
        rfl
theorem cntR_cntB {t e l : Int} (hl2 : 2 ≤ l) (hlt : l < t) (h0 : 0 ≤ e) (h1 : e < t) (body : List Int) : cntR (plainL t e) l e false (cntB t e l body) = body := by
  obtain ⟨D, hfull, hD, hD2⟩ := cntB_full (t := t) (e := e) hl2 body
  have hjt := JT_rows e body
  cases hrs : rowsB e body with
  | nil =>
    rw [hrs] at hjt
    cases hjt
  | cons cur rest =>
    have z : Dg D (cur :: rest) := fun d _ => by
      rw [← hrs]
      exact hD2 d
    have q := (cntR_full hl2 hlt h0 h1 rfl _ _ rfl _ hfull hD).2 cur rest hrs z.tl
    rw [hrs, JT_cons] at hjt
    rw [q]
    exact (List.cons.inj hjt).2
/-! ### all sorts -/
def fromK (t e : Int) : Kind → List Int → Option (List Int)
  | .codes cs, row => codR cs [] row
  | .escapes m prs, row => escR m (swp prs) false row
  | .counts l, row => some (cntR (plainL t e) l e false row)
  | .ranks, row => some (bodyR t e row)
theorem fromK_rowOf {t e : Int} {k : Kind} (ok : KindOk t e k) (h3 : 3 ≤ t) (h0 : 0 ≤ e) (h1 : e < t) {body : List Int} (h : ∀ x ∈ body, 0 ≤ x ∧ x < t) : fromK t e k (rowOf t e k body) = some body := by
  cases k with
  | codes cs => exact codR_codesB ok.2 ok.1 body h
  | escapes m prs =>
    obtain ⟨hm, hw, hr0, he1, hm1, hcp, hcn⟩ := ok
    exact escR_escB (hw.imp fun h => by omega) hcn hm1 body
  | counts l => exact congrArg some (cntR_cntB ok.1 ok.2 h0 h1 body)
  | ranks => exact congrArg some (bodyR_rowR h3 h0 h1 h)
theorem fromK_in {t e : Int} {k : Kind} (ok : KindOk t e k) (h3 : 3 ≤ t) (h0 : 0 ≤ e) (h1 : e < t) {row b : List Int} (h : ∀ x ∈ row, Plain t e x) (q : fromK t e k row = some b) : (∀ x ∈ b, 0 ≤ x ∧ x < t) ∧ b.length ≤ row.length := by
  have h' : ∀ x ∈ row, 0 ≤ x ∧ x < t := fun x m => ⟨(h x m).1, (h x m).2.1⟩
  cases k with
  | codes cs => exact codR_in (by omega) ok.1 row [] b q
  | escapes m prs =>
    obtain ⟨hm, hw, hr0, he1, hm1, hcp, hcn⟩ := ok
    exact escR_in (by rw [swp_snd]; exact hr0) row false b h' q
  | counts l =>
    cases q
    exact cntR_in ⟨h0, h1⟩ _ row false rfl h'
  | ranks =>
    cases q
    exact ⟨bodyR_mem h3 row, bodyR_len h3 h0 h1 fun x m => plain_mem.mpr (h x m)⟩
/-! ### exchanged back -/
def backS (p b : List Int) : List Int := b.map fun x => ((p.idxOf x : Nat) : Int)
def backL (ts : List (List Int)) (b : List Int) : List Int := ts.foldr backS b
theorem backS_in {t : Int} {p b : List Int} (hp : p.Perm (countL t)) (h : ∀ x ∈ b, 0 ≤ x ∧ x < t) : ∀ x ∈ backS p b, 0 ≤ x ∧ x < t := fun x hx => by
  obtain ⟨y, hy, rfl⟩ := List.mem_map.mp hx
  have z := h y hy
  have q := List.idxOf_lt_length_of_mem (hp.symm.subset (count_mem.mpr z))
  have lp := hp.length_eq
  rw [count_len] at lp
  omega
theorem backS_len (p b : List Int) : (backS p b).length = b.length := List.length_map _
theorem turnS_backS {t : Int} {p b : List Int} (hp : p.Perm (countL t)) (h : ∀ x ∈ b, 0 ≤ x ∧ x < t) : turnS p (backS p b) = b := by
  unfold turnS backS
  rw [List.map_map]
  conv => rhs; rw [← List.map_id b]
  refine List.map_congr_left fun x hx => ?_
  have z := List.idxOf_lt_length_of_mem (hp.symm.subset (count_mem.mpr (h x hx)))
  show p.getD ((p.idxOf x : Nat) : Int).toNat 0 = x
  rw [Int.toNat_natCast, List.getD_eq_getElem?_getD, List.getElem?_eq_getElem z, Option.getD_some, List.getElem_idxOf z]
theorem backL_ok {t : Int} : ∀ (ts : List (List Int)), (∀ p ∈ ts, p.Perm (countL t)) → ∀ (b : List Int), (∀ x ∈ b, 0 ≤ x ∧ x < t) → (∀ x ∈ backL ts b, 0 ≤ x ∧ x < t) ∧ (backL ts b).length = b.length
  | [], _, b, h => ⟨h, rfl⟩
  | p :: ts, hp, b, h => by
    have z := backL_ok ts (fun q hq => hp q (List.mem_cons_of_mem _ hq)) b h
    refine ⟨backS_in (hp p List.mem_cons_self) z.1, ?_⟩
    show (backS p (backL ts b)).length = _
    rw [backS_len, z.2]
theorem turnL_backL {t : Int} : ∀ (ts : List (List Int)), (∀ p ∈ ts, p.Perm (countL t)) → ∀ (b : List Int), (∀ x ∈ b, 0 ≤ x ∧ x < t) → turnL ts (backL ts b) = b
  | [], _, b, h => rfl
  | p :: ts, hp, b, h => by
    have hp' := fun q hq => hp q (List.mem_cons_of_mem p hq)
    have z := backL_ok ts hp' b h
    show turnL ts (turnS p (backS p (backL ts b))) = b
    rw [turnS_backS (hp p List.mem_cons_self) z.1]
    exact turnL_backL ts hp' b h
theorem backL_turnL {t : Int} : ∀ (ts : List (List Int)), (∀ p ∈ ts, p.Perm (countL t)) → ∀ (b : List Int), (∀ x ∈ b, 0 ≤ x ∧ x < t) → backL ts (turnL ts b) = b
  | [], _, b, h => rfl
  | p :: ts, hp, b, h => by
    have hp' := fun q hq => hp q (List.mem_cons_of_mem p hq)
    have hpp := hp p List.mem_cons_self
    show backS p (backL ts (turnL ts (turnS p b))) = b
    rw [backL_turnL ts hp' (turnS p b) (turnS_in hpp h)]
    exact turn_back hpp h
/-! ### how long frames are -/
theorem rank_up3 {m : Nat} (hm : 3 ≤ m) : ∀ (k : Nat) (ds : List Nat), ds.length = k → 3 ^ k ≤ 2 * rankD m ds + 1
  | 0, [], _ => Nat.le_refl _
  | k + 1, ds, hk => by
    have hne : ds ≠ [] := fun e => by
      rw [e] at hk
      cases hk
    have e := List.dropLast_concat_getLast hne
    have ih := rank_up3 hm k ds.dropLast (by rw [List.length_dropLast, hk]; rfl)
    rw [← e, rankD_snoc, Nat.pow_succ]
    have m1 : rankD m ds.dropLast * 3 ≤ rankD m ds.dropLast * m := Nat.mul_le_mul_left _ hm
    omega
theorem row_short4 {m n : Nat} (hm : 2 ≤ m) (hmn : n = m + 1) (hn : n ≤ 16) {ds : List Nat} (h : ∀ d ∈ ds, d < n) : (rowD m (rankD n ds)).length ≤ 4 * ds.length := by
  have a := rank_up ds.length ds rfl h
  by_cases c : m = 2
  · have b := rank_down hm (rowD m (rankD n ds)).length (rowD m (rankD n ds)) rfl
    rw [rank_row] at b
    have d : (n + 1) ^ ds.length = 2 ^ (2 * ds.length) := by
      rw [Nat.pow_mul, hmn, c]
    rw [d] at a
    have z := (Nat.pow_le_pow_iff_right (by decide : 1 < 2)).mp (Nat.le_trans b a)
    omega
  · have b := rank_up3 (m := m) (by omega) (rowD m (rankD n ds)).length (rowD m (rankD n ds)) rfl
    rw [rank_row] at b
    cases hk : ds.length with
    | zero =>
      have z : ds = [] := List.length_eq_zero_iff.mp hk
      rw [z]
      show (rowD m 0).length ≤ _
      rw [rowD_zero]
      exact Nat.le_refl _
    | succ k =>
      rw [hk] at a
      have d : (n + 1) ^ (k + 1) ≤ 27 ^ (k + 1) := Nat.pow_le_pow_left (by omega) _
      have e : (27 : Nat) ^ (k + 1) = 3 ^ (3 * (k + 1)) := by
        rw [Nat.pow_mul]
      rw [e] at d
      have f : (3 : Nat) ^ (rowD m (rankD n ds)).length < 3 ^ (3 * (k + 1) + 1) := by
        rw [Nat.pow_succ]
        omega
      have z := (Nat.pow_lt_pow_iff_right (by decide : 1 < 3)).mp f
      omega
theorem rowR_len4 {t e : Int} (h3 : 3 ≤ t) (h16 : t ≤ 16) (h0 : 0 ≤ e) (h1 : e < t) {body : List Int} (h : ∀ n ∈ body, 0 ≤ n ∧ n < t) : (rowR t e body).length ≤ 4 * body.length := by
  have np := plain_len h0 h1
  unfold rowR letters
  rw [List.length_map]
  have z := row_short4 (m := (plainL t e).length) (n := t.toNat) (by omega) (by omega) (by omega) (ds := digits (countL t) body) (fun d hd => by
    rw [← count_len]
    exact digits_lt (fun x hx => count_mem.mpr (h x hx)) d hd)
  unfold digits at z ⊢
  rw [List.length_map] at z
  exact z
theorem rowOf_len4 {t e : Int} {k : Kind} (ok : KindOk t e k) (h3 : 3 ≤ t) (h16 : t ≤ 16) (h0 : 0 ≤ e) (h1 : e < t) {body : List Int} (h : ∀ x ∈ body, 0 ≤ x ∧ x < t) (hl : body.length ≤ 60) : (rowOf t e k body).length ≤ 240 := by
  cases k with
  | codes cs =>
    have z := codesB_len (fun c hc => (ok.2.1 c hc).2.1) body
    show (codesB cs body).length ≤ _
    omega
  | escapes m prs =>
    have z := escB_len m prs body
    show (escB m prs body).length ≤ _
    omega
  | counts l =>
    have z := cntB_len (t := t) (e := e) ok.1 body
    show (cntB t e l body).length ≤ _
    omega
  | ranks =>
    have z := rowR_len4 h3 h16 h0 h1 h
    show (rowR t e body).length ≤ _
    omega
theorem frameW_len4 {wy : Way} (ok : wy.Ok) {body : List Int} (h : ∀ x ∈ body, 0 ≤ x ∧ x < wy.t) (hl : body.length ≤ 60) : (frameW wy body).length ≤ 241 := by
  obtain ⟨tin, tlen⟩ := turnL_ok wy.ts ok.perm body h
  have z := rowOf_len4 ok.kind ok.t3 ok.t16 ok.e0 ok.e1 tin (by omega)
  unfold frameW
  rw [List.length_append, List.length_singleton]
  omega
/-! ### reading -/
def isFr (e : Int) (ns : List Int) : Prop := ns.length ≤ 241 ∧ ns.count e = 1 ∧ ns.getLast? = some e
instance {e : Int} {ns : List Int} : Decidable (isFr e ns) := by unfold isFr; exact inferInstance
def readW (wy : Way) (ns : List Int) : Option (List Int) :=
  if isFr wy.e ns then
    match fromK wy.t wy.e wy.k ns.dropLast with
    | none => none
    | some b => if b.length ≤ 60 ∧ frameW wy (backL wy.ts b) = ns then some (backL wy.ts b) else none
  else none
theorem isFr_plain {t e : Int} {ns : List Int} (h : isFr e ns) (hn : ∀ x ∈ ns, 0 ≤ x ∧ x < t) : ns = ns.dropLast ++ [e] ∧ ∀ x ∈ ns.dropLast, Plain t e x := by
  obtain ⟨_, hc, hl⟩ := h
  have hne : ns ≠ [] := fun z => by
    rw [z] at hl
    cases hl
  have e1 := List.dropLast_concat_getLast hne
  have e2 : ns.getLast hne = e := by
    rw [List.getLast?_eq_some_getLast hne] at hl
    exact Option.some.inj hl
  rw [e2] at e1
  refine ⟨e1.symm, fun x hx => ?_⟩
  have z := hn x (mem_dl hx)
  refine ⟨z.1, z.2, fun q => ?_⟩
  subst q
  rw [← e1, List.count_append] at hc
  have z2 := List.count_pos_iff.mpr hx
  simp at hc
  omega
theorem readW_some {wy : Way} (ok : wy.Ok) {ns b : List Int} (hn : ∀ x ∈ ns, 0 ≤ x ∧ x < wy.t) (h : readW wy ns = some b) : frameW wy b = ns ∧ (∀ x ∈ b, 0 ≤ x ∧ x < wy.t) ∧ b.length ≤ 60 := by
  unfold readW at h
  split at h
  · rename_i hf
    split at h
    · cases h
    · rename_i b1 e1
      split at h
      · rename_i hb
        cases h
        obtain ⟨_, hp⟩ := isFr_plain hf hn
        obtain ⟨i1, i2⟩ := fromK_in ok.kind ok.t3 ok.e0 ok.e1 hp e1
        obtain ⟨j1, j2⟩ := backL_ok wy.ts ok.perm b1 i1
        exact ⟨hb.2, j1, by omega⟩
      · cases h
  · cases h
theorem readW_frame {wy : Way} (ok : wy.Ok) {b : List Int} (h : ∀ x ∈ b, 0 ≤ x ∧ x < wy.t) (hl : b.length ≤ 60) : readW wy (frameW wy b) = some b := by
  have c := frameW_count ok h
  have l := frameW_len4 ok h hl
  obtain ⟨tin, tlen⟩ := turnL_ok wy.ts ok.perm b h
  unfold readW
  rw [if_pos ⟨l, c, by unfold frameW; rw [List.getLast?_concat]⟩]
  have e1 : (frameW wy b).dropLast = rowOf wy.t wy.e wy.k (turnL wy.ts b) := by
    unfold frameW
    rw [List.dropLast_concat]
  rw [e1, fromK_rowOf ok.kind ok.t3 ok.e0 ok.e1 tin]
  dsimp only
  rw [backL_turnL wy.ts ok.perm b h, if_pos ⟨by omega, rfl⟩]
theorem frameW_inj {wy : Way} (ok : wy.Ok) {a b : List Int} (ha : ∀ x ∈ a, 0 ≤ x ∧ x < wy.t) (hb : ∀ x ∈ b, 0 ≤ x ∧ x < wy.t) (h : frameW wy a = frameW wy b) : a = b := by
  have ta := turnL_ok wy.ts ok.perm a ha
  have tb := turnL_ok wy.ts ok.perm b hb
  unfold frameW at h
  have e := List.append_cancel_right h
  have z1 := fromK_rowOf ok.kind ok.t3 ok.e0 ok.e1 ta.1
  rw [e, fromK_rowOf ok.kind ok.t3 ok.e0 ok.e1 tb.1] at z1
  have z2 := Option.some.inj z1
  rw [← backL_turnL wy.ts ok.perm a ha, ← backL_turnL wy.ts ok.perm b hb, z2]
end Esc

namespace Esc
open PySem PySem.Spec PyProof.Rows L2
def spNever : Sp := fun vs H Q _ => False
section
variable {P : Program} {w : World} {K : PySem.W.Frag} {mg : Str → Option Value} {base : Heap}
theorem c_never {x : Str} {st : Stmt} {ps : List Str} {k : Nat} (d : Dd K mg x st ps) : C8.Cal P w K mg base k x spNever [] := by
  obtain ⟨f, fd, F, b⟩ := d.ex
  exact ⟨f, fd, ps, [], ⟨fun _ _ _ _ z => z.elim, fun _ _ _ _ _ _ _ _ _ _ _ _ _ z => z.elim⟩, F.mgf, F.kp, b, .nil⟩
end
end Esc

namespace Esc
open PySem PySem.Spec PyProof.Rows L2
section
variable {P : Program} {w : World} {K : PySem.W.Frag} {mg : Str → Option Value} {base : Heap}
def spFromR (K : PySem.W.Frag) (good : Int → Int → Kind → Prop) : Sp := fun vs H Q _ => ∃ (p b : Addr) (t e : Int) (k : Kind) (row : List Int), vs = [.ref p, .ref b] ∧ good t e k ∧ KindAt K H p t e k ∧ KindOk t e k ∧ 3 ≤ t ∧ t ≤ 16 ∧ 0 ≤ e ∧ e < t ∧
  SqL K H b (row.map V.int) ∧ (∀ x ∈ row, Plain t e x) ∧ row.length ≤ 400 ∧ (∀ r, fromK t e k row = some r → ∀ q H', H q = none → Same H H' → H' q = some (.lst (r.map V.int)) → Q (.ref q) H') ∧ (fromK t e k row = none → ∀ H', Same H H' → Q .non H')
theorem opt_none {α : Type} {x : Option α} {f : α → α} (h : x = none) : x.map f = none := by rw [h]; rfl
end
end Esc

namespace Esc
open PySem PySem.Spec PyProof.Rows L2
section
variable {P : Program} {w : World} {K : PySem.W.Frag} {mg : Str → Option Value} {base : Heap}
end
end Esc

namespace Esc
open PySem PySem.Spec PyProof.Rows L2
def kStar (K : PySem.W.Frag) (t : TA) (Q : List V → Hp → Prop) (σ : L2.St) : VK := fun x H1 => ∃ p xs, x = V.ref p ∧ (SqT K H1 p xs ∨ SqL K H1 p xs) ∧ t σ H1 fun ys H2 => Q (xs ++ ys) H2
def kStar2 (Q : List V → Hp → Prop) (xs : List V) : List V → Hp → Prop := fun ys H2 => Q (xs ++ ys) H2
instance {K : PySem.W.Frag} {te : TE} {t : TA} {σ : L2.St} {H : Hp} {Q : List V → Hp → Prop} : Step (StX.tStar K te t σ H Q) (te σ H (kStar K t Q σ)) := ⟨fun h => h⟩
instance {H : Hp} {Q : List V → Hp → Prop} {xs ys : List V} : Step (kStar2 Q xs ys H) (Q (xs ++ ys) H) := ⟨fun h => h⟩
theorem i_star {K : PySem.W.Frag} {t : TA} {Q : List V → Hp → Prop} {σ : L2.St} {H : Hp} {p : Addr} {xs : List V} (h : SqT K H p xs) (q : t σ H (kStar2 Q xs)) : kStar K t Q σ (.ref p) H := ⟨p, xs, rfl, .inl h, q⟩
theorem i_truT {K : PySem.W.Frag} {H : Hp} {Q : Bool → Hp → Prop} {a : Addr} {xs : List V} (h : SqT K H a xs) (q : Q (!xs.isEmpty) H) : kTru K Q (.ref a) H := ⟨_, .inr (.inl ⟨xs, h, rfl⟩), q⟩
def ck : Nat → List (List Int) → List (List Key × V)
  | _, [] => []
  | n, c :: r => (ks c, V.int (n : Int)) :: ck (n + 1) r
theorem ck_len : ∀ (r : List (List Int)) (n : Nat), (ck n r).length = r.length
  | [], _ => rfl
  | _ :: r, n => congrArg (· + 1) (ck_len r (n + 1))
theorem ck_snoc : ∀ (r : List (List Int)) (n : Nat) (c : List Int), ck n (r ++ [c]) = ck n r ++ [(ks c, V.int ((n + r.length : Nat) : Int))]
  | [], n, c => rfl
  | x :: r, n, c => by
    show _ :: ck (n + 1) (r ++ [c]) = _
    rw [ck_snoc r (n + 1) c]
    show _ = _ :: (ck (n + 1) r ++ _)
    rw [List.length_cons, show n + 1 + r.length = n + (r.length + 1) by omega]
theorem ck_none : ∀ (r : List (List Int)) (n : Nat) (c : List Int), c ∉ r → valV (ck n r) (ks c) = none
  | [], _, _, _ => rfl
  | y :: r, n, c, h => by
    show valV ((ks y, V.int (n : Int)) :: ck (n + 1) r) _ = _
    rw [valV_neg (fun e => h (by rw [ks_inj e]; exact List.mem_cons_self)), ck_none r (n + 1) c fun m => h (List.mem_cons_of_mem _ m)]
theorem ck_some : ∀ (r : List (List Int)) (n j : Nat) (c : List Int), r.Nodup → r[j]? = some c → valV (ck n r) (ks c) = some (V.int ((n + j : Nat) : Int))
  | [], _, _, _, _, h => by simp at h
  | y :: r, n, 0, c, _, h => by
    cases h
    show valV ((ks y, V.int (n : Int)) :: ck (n + 1) r) _ = _
    rw [valV_pos rfl]
    rfl
  | y :: r, n, j + 1, c, hn, h => by
    have h : r[j]? = some c := h
    obtain ⟨n1, n2⟩ := List.nodup_cons.mp hn
    show valV ((ks y, V.int (n : Int)) :: ck (n + 1) r) _ = _
    rw [valV_neg (fun e => n1 (by rw [ks_inj e]; exact List.mem_of_getElem? h)), ck_some r (n + 1) j c n2 h, show n + 1 + j = n + (j + 1) by omega]
section
variable {P : Program} {w : World} {K : PySem.W.Frag} {mg : Str → Option Value} {base : Heap}
end
end Esc

namespace Esc
open PySem PySem.Spec PyProof.Rows L2
section
variable {P : Program} {w : World} {K : PySem.W.Frag} {mg : Str → Option Value} {base : Heap}
end
end Esc

namespace Esc
open PySem PySem.Spec PyProof.Rows L2
theorem TurnAt.memD {K : PySem.W.Frag} {H : Hp} : ∀ {tas : List (Addr × List Int)} {v u : V}, TurnAt K H tas v u → ∀ x ∈ tas, TupD H x.1 (x.2.map V.int)
  | [], _, _, _, x, m => by cases m
  | (a, t) :: r, _, _, ⟨p, y, _, _, h2, h3⟩, x, m => by
    rcases List.mem_cons.mp m with rfl | m
    · exact h2
    · exact h3.memD x m
section
variable {P : Program} {w : World} {K : PySem.W.Frag} {mg : Str → Option Value} {base : Heap}
def spTopOf (K : PySem.W.Frag) : Sp := fun vs H Q _ => ∃ (v : V) (wy : Way), vs = [v] ∧ WayAt K H v wy ∧ wy.Ok ∧ ∀ H', Same H H' → Q (.int wy.t) H'
theorem c_top_of (c_unturned : C8.Cal P w K mg base 1 "unturned" (spUnturned K) []) (d : Dd K mg "top_of" s_top_of P_top_of) : C8.Cal P w K mg base 2 "top_of" (spTopOf K) [] := by
  refine d.cal sc_top_of (fun vs H Q E h => ?_) (fun f cdv A outer s H vs Q E hr h => ?_)
  · obtain ⟨v, wy, rfl, _⟩ := h
    rfl
  · obtain ⟨v, wy, rfl, ⟨tas, p, hts, hw, hk⟩, ok, q⟩ := h
    have nd := sc_top_of.nd
    obtain ⟨xs, hx⟩ := hk.head
    have ltas : tas.length ≤ 3 := by
      have z := ok.few
      rw [← hts, List.length_map] at z
      exact z
    refine ⟨_, (pss_cons (ps_set (i := 1) nd rfl (Or.inl rfl) (pe_ix ix_tup (C8.pe_c c_unturned hr (by decide) (by rfl) (pa_cons (pv 0) pa_nil)) pe_int (fun _ _ => rfl)))
  (pss_one (ps_ret (pe_ix ix_tup (pv 1) pe_int (fun _ _ => rfl))))), ?_⟩
    refine i_start (σ' := [some v, none]) rfl ?_
    walk_at "go"
    walk_at "r"
    refine ⟨v, tas, p, wy.k.name, _, rfl, hw, hx, wy.k.name_ne, by omega, fun q1 l H1 _ hl s1 e1 el => ?_⟩
    have hx1 := stup s1 hx
    walk_at "r"
    exact q _ s1
def spBodyN (K : PySem.W.Frag) (n : Nat) : Sp := fun vs H Q _ => ∃ (v : V) (a : Addr) (wy : Way) (ns : List Int), vs = [v, .ref a] ∧ WayAt K H v wy ∧ wy.Ok ∧ SqL K H a (ns.map V.int) ∧ (∀ x ∈ ns, 0 ≤ x ∧ x < wy.t) ∧ ns.length ≤ n ∧ ∀ H', Same H H' → Q .non H'
theorem c_need_body (Z : Blt mg) (m_MOST_BODY : GI mg "MOST_BODY" 60) (c_top_of : C8.Cal P w K mg base 2 "top_of" (spTopOf K) []) (c_first_unsigned : C8.Cal P w K mg base 3 "first_unsigned" (spFirst K) []) (d : Dd K mg "need_body" s_need_body P_need_body) : C8.Cal P w K mg base 4 "need_body" (spBodyN K 60) [] := by
  refine d.cal sc_need_body (fun vs H Q E h => ?_) (fun f cdv A outer s H vs Q E hr h => ?_)
  · obtain ⟨v, a, wy, ns, rfl, _⟩ := h
    rfl
  · obtain ⟨v, a, wy, ns, rfl, hw, ok, ha, hns, hl, q⟩ := h
    have nd := sc_need_body.nd
    refine ⟨_, (pss_cons (ps_if (pt_cmpR op_gt (pe_callB k_len (by rfl) Z.len_ (by decide +kernel) (pa_cons (pv 1) pa_nil)) (C8.pe_gc rfl m_MOST_BODY) (nomark _)) (pss_one ps_never) pss_nil)
  (pss_cons (ps_set (i := 2) nd rfl (Or.inl rfl) (C8.pe_c c_first_unsigned hr (by decide) (by rfl) (pa_cons (pv 1) (pa_cons (C8.pe_c c_top_of hr (by decide) (by rfl) (pa_cons (pv 0) pa_nil)) pa_nil))))
  (pss_one (ps_if (pt_cmpR k_notN (pv 2) pe_non (nomark _)) (pss_one ps_never) pss_nil)))), ?_⟩
    refine i_start (σ' := [some v, some (.ref a), none]) rfl ?_
    walk_at "go"
    walk_at "r"
    refine i_no (by omega) ?_
    walk_at "r"
    refine ⟨v, wy, rfl, hw, ok, fun H1 s1 => ?_⟩
    have ha1 := s1.seq ha
    walk_at "r"
    refine ⟨a, ns, wy.t, rfl, ha1, hns, fun H2 s2 => ?_⟩
    walk_at "r"
    refine i_nyes rfl ?_
    walk_at "r"
    exact q _ (s1.trans s2)
/-- the four readers, where READERS has them -/
structure Readers (P : Program) (w : World) (K : PySem.W.Frag) (mg : Str → Option Value) (base : Heap) (pF : Addr) : Prop where
  codes : ∃ f, mg "from_codes" = some (.ref f) ∧ KDct K w pF "codes" (.ref f) ∧ C8.Cal P w K mg base 1 "from_codes" (spFromR K isCodes) []
  escapes : ∃ f, mg "from_escapes" = some (.ref f) ∧ KDct K w pF "escapes" (.ref f) ∧ C8.Cal P w K mg base 1 "from_escapes" (spFromR K isEscapes) []
  counts : ∃ f, mg "from_counts" = some (.ref f) ∧ KDct K w pF "counts" (.ref f) ∧ C8.Cal P w K mg base 2 "from_counts" (spFromR K isCounts) []
  ranks : ∃ f, mg "from_ranks" = some (.ref f) ∧ KDct K w pF "ranks" (.ref f) ∧ C8.Cal P w K mg base 2 "from_ranks" (spFromR K isRanks) []
theorem Readers.of {pF : Addr} (F : Readers P w K mg base pF) (k : Kind) : ∃ (fa : Addr) (sp : Sp), Held P w K mg base 3 fa sp ∧ KDct K w pF k.name (.ref fa) ∧
    ∀ (p b : Addr) (t e : Int) (row : List Int) H Q E, KindAt K H p t e k → KindOk t e k → 3 ≤ t → t ≤ 16 → 0 ≤ e → e < t → SqL K H b (row.map V.int) → (∀ x ∈ row, Plain t e x) → row.length ≤ 400 →
      (∀ r, fromK t e k row = some r → ∀ q H', H q = none → Same H H' → H' q = some (.lst (r.map V.int)) → Q (.ref q) H') → (fromK t e k row = none → ∀ H', Same H H' → Q .non H') → sp [.ref p, .ref b] H Q E := by
  cases k with
  | codes cs =>
    obtain ⟨f, h1, h2, c⟩ := F.codes
    exact ⟨f, _, held_of c h1 (by decide), h2, fun p b t e row H Q E a1 a2 a3 a4 a5 a6 a7 a8 a9 q qn => ⟨p, b, t, e, _, row, rfl, ⟨cs, rfl⟩, a1, a2, a3, a4, a5, a6, a7, a8, a9, q, qn⟩⟩
  | escapes m prs =>
    obtain ⟨f, h1, h2, c⟩ := F.escapes
    exact ⟨f, _, held_of c h1 (by decide), h2, fun p b t e row H Q E a1 a2 a3 a4 a5 a6 a7 a8 a9 q qn => ⟨p, b, t, e, _, row, rfl, ⟨m, prs, rfl⟩, a1, a2, a3, a4, a5, a6, a7, a8, a9, q, qn⟩⟩
  | counts l =>
    obtain ⟨f, h1, h2, c⟩ := F.counts
    exact ⟨f, _, held_of c h1 (by decide), h2, fun p b t e row H Q E a1 a2 a3 a4 a5 a6 a7 a8 a9 q qn => ⟨p, b, t, e, _, row, rfl, ⟨l, rfl⟩, a1, a2, a3, a4, a5, a6, a7, a8, a9, q, qn⟩⟩
  | ranks =>
    obtain ⟨f, h1, h2, c⟩ := F.ranks
    exact ⟨f, _, held_of c h1 (by decide), h2, fun p b t e row H Q E a1 a2 a3 a4 a5 a6 a7 a8 a9 q qn => ⟨p, b, t, e, _, row, rfl, rfl, a1, a2, a3, a4, a5, a6, a7, a8, a9, q, qn⟩⟩
/-- what is told of a list: an own list, or None -/
def TellO (H : Hp) (o : Option (List Int)) (Q : VK) : Prop := (∀ b, o = some b → ∀ q H', H q = none → Same H H' → H' q = some (.lst (b.map V.int)) → Q (.ref q) H') ∧ (o = none → ∀ H', Same H H' → Q .non H')
theorem TellO.mono {H H1 : Hp} {o : Option (List Int)} {Q : VK} (s : Same H H1) (h : TellO H o Q) : TellO H1 o Q :=
  ⟨fun b e q H' hq s2 e2 => h.1 b e q H' (s.free hq) (s.trans s2) e2, fun e H' s2 => h.2 e H' (s.trans s2)⟩
theorem tell_frame {H : Hp} {Q : VK} {wy : Way} (ok : wy.Ok) {b : List Int} (h : ∀ x ∈ b, 0 ≤ x ∧ x < wy.t) (hl : b.length ≤ 60) (q : ∀ q H', H q = none → Same H H' → H' q = some (.lst (b.map V.int)) → Q (.ref q) H') : TellO H (readW wy (frameW wy b)) Q := by
  rw [readW_frame ok h hl]
  exact ⟨fun b e => (by cases e; exact q), fun e => (by cases e)⟩
theorem tell_cnt {H : Hp} {Q : VK} {wy : Way} {ns : List Int} (h : ns.count wy.e ≠ 1) (q : ∀ H', Same H H' → Q .non H') : TellO H (readW wy ns) Q := by
  have e : readW wy ns = none := by
    unfold readW
    rw [if_neg fun z => h z.2.1]
  rw [e]
  exact ⟨fun b e => (by cases e), fun _ => q⟩
def spTakenR (K : PySem.W.Frag) : Sp := fun vs H Q _ => ∃ (v : V) (a : Addr) (wy : Way) (ns : List Int), vs = [v, .ref a] ∧ WayAt K H v wy ∧ wy.Ok ∧ SqL K H a (ns.map V.int) ∧ (∀ x ∈ ns, 0 ≤ x ∧ x < wy.t) ∧ ns.length ≤ 1000 ∧ TellO H (readW wy ns) Q
theorem readW_none {wy : Way} {ns : List Int} (h : ¬ isFr wy.e ns) : readW wy ns = none := by
  unfold readW
  rw [if_neg h]
def spFramed (K : PySem.W.Frag) : Sp := fun vs H Q _ => ∃ (v : V) (b : Addr) (wy : Way) (body : List Int), vs = [v, .ref b] ∧ WayAt K H v wy ∧ wy.Ok ∧ SqL K H b (body.map V.int) ∧ (∀ x ∈ body, 0 ≤ x ∧ x < wy.t) ∧ body.length ≤ 60 ∧
  ∀ q H', H q = none → Same H H' → H' q = some (.lst ((frameW wy body).map V.int)) → Q (.ref q) H'
theorem c_framed (c_need_way : C8.Cal P w K mg base 7 "need_way" (spNeedW K) []) (c_need_body : C8.Cal P w K mg base 4 "need_body" (spBodyN K 60) []) (c_frame_of : C8.Cal P w K mg base 3 "frame_of" (spFrameW K) []) (d : Dd K mg "framed" s_framed P_framed) : C8.Cal P w K mg base 8 "framed" (spFramed K) [] := by
  refine d.cal sc_framed (fun vs H Q E h => ?_) (fun f cdv A outer s H vs Q E hr h => ?_)
  · obtain ⟨v, b, wy, body, rfl, _⟩ := h
    rfl
  · obtain ⟨v, b, wy, body, rfl, hw, ok, hb, hin, hlen, q⟩ := h
    have nd := sc_framed.nd
    refine ⟨_, (pss_cons (ps_expr (C8.pe_c c_need_way hr (by decide) (by rfl) (pa_cons (pv 0) pa_nil)))
  (pss_cons (ps_expr (C8.pe_c c_need_body hr (by decide) (by rfl) (pa_cons (pv 0) (pa_cons (pv 1) pa_nil))))
  (pss_one (ps_ret (C8.pe_c c_frame_of hr (by decide) (by rfl) (pa_cons (pv 0) (pa_cons (pv 1) pa_nil))))))), ?_⟩
    refine i_start (σ' := [some v, some (.ref b)]) rfl ?_
    walk_at "go"
    walk_at "r"
    refine ⟨v, wy, rfl, hw, ok, fun H1 s1 => ?_⟩
    walk_at "r"
    refine ⟨v, b, wy, body, rfl, hw.same s1, ok, s1.seq hb, hin, hlen, fun H2 s2 => ?_⟩
    walk_at "r"
    exact ⟨v, b, wy, body, rfl, (hw.same s1).same s2, ok, s2.seq (s1.seq hb), hin, by omega, fun p3 H3 hp3 s3 e3 => q p3 H3 (s1.free (s2.free hp3)) (s1.trans (s2.trans s3)) e3⟩
def spTakenB (K : PySem.W.Frag) : Sp := fun vs H Q _ => ∃ (v : V) (a : Addr) (wy : Way) (ns : List Int), vs = [v, .ref a] ∧ WayAt K H v wy ∧ wy.Ok ∧ SqL K H a (ns.map V.int) ∧ (∀ x ∈ ns, 0 ≤ x ∧ x < wy.t) ∧ ns.length ≤ 400 ∧ TellO H (readW wy ns) Q
end
end Esc

/-! The longest frames. -/
namespace Esc
open PySem PySem.Spec PyProof.Rows L2
/-! ### how long frames by counts are -/
theorem groupB_size {cn : List Int} {w : Nat} (h0 : 0 < w) : ∀ (n : Nat) (row : List Int), row.length = n → (groupB cn w row).length = row.length + row.length / w + 1 := by
  intro n
  induction n using Nat.strongRecOn with
  | ind n ih =>
    intro row hn
    by_cases h : w ≤ row.length
    · have z := ih (row.length - w) (by omega) (row.drop w) (List.length_drop ..)
      rw [List.length_drop] at z
      have d : row.length / w = (row.length - w) / w + 1 := by
        rw [← Nat.div_eq_sub_div h0 h]
      rw [groupB_more h0 h, List.length_cons, List.length_append, List.length_take, z, d]
      omega
    · rw [groupB_last (by omega), List.length_cons, Nat.div_eq_of_lt (by omega)]
theorem div_add_le {w : Nat} (h0 : 0 < w) (a b : Nat) : a / w + b / w ≤ (a + b) / w := by
  rw [Nat.le_div_iff_mul_le h0, Nat.add_mul]
  exact Nat.add_le_add (Nat.div_mul_le_self a w) (Nat.div_mul_le_self b w)
def flr (w : Nat) (rs : List (List Int)) : Nat := (rs.map fun r => r.length / w).sum
theorem full_size {cn : List Int} {w : Nat} (h0 : 0 < w) : ∀ rs : List (List Int), (full cn w rs).length = (rs.map List.length).sum + flr w rs + rs.length
  | [] => rfl
  | r :: rs => by
    rw [full_cons, List.length_append, full_size h0 rs, groupB_size h0 _ r rfl]
    unfold flr
    rw [List.map_cons, List.sum_cons, List.map_cons, List.sum_cons, List.length_cons]
    omega
theorem flr_le {w : Nat} (h0 : 0 < w) : ∀ rs : List (List Int), flr w rs ≤ (rs.map List.length).sum / w
  | [] => Nat.zero_le _
  | r :: rs => by
    have ih := flr_le h0 rs
    unfold flr at ih ⊢
    rw [List.map_cons, List.sum_cons, List.map_cons, List.sum_cons]
    have z := div_add_le h0 r.length (rs.map List.length).sum
    exact Nat.le_trans (Nat.add_le_add_left ih _) z
/-- the rows of a body and how many there are -/
theorem rows_size (e : Int) (body : List Int) : ((rowsB e body).map List.length).sum + (rowsB e body).length = body.length + 1 := by
  obtain ⟨rs, ls, h, s⟩ := rowsB_all e body
  rw [h, List.map_append, List.sum_append, List.length_append]
  simp
  omega
theorem cntB_size {t e l : Int} (hl2 : 2 ≤ l) (body : List Int) : (cntB t e l body).length = body.length + 1 + flr (l.toNat - 1) (rowsB e body) - (if (rowsB e body).getLastD [] ≠ [] ∧ ((rowsB e body).getLastD []).length % (l.toNat - 1) = 0 then 1 else 0) := by
  have z := rows_size e body
  have f : ((rowsB e body).flatMap (groupB ((plainL t e).take l.toNat) (l.toNat - 1))).length = body.length + 1 + flr (l.toNat - 1) (rowsB e body) := by
    have y := full_size (cn := (plainL t e).take l.toNat) (w := l.toNat - 1) (by omega) (rowsB e body)
    unfold full at y
    omega
  unfold cntB
  dsimp only
  split
  · rw [List.length_dropLast, f]
  · rw [f]
    omega
/-- as many as a row of one sign takes -/
def cRow (w n : Nat) : Nat := if n = 0 then 1 else n + (n - 1) / w + 1
theorem cRow_mono {w : Nat} (h0 : 0 < w) {m n : Nat} (h : m ≤ n) : cRow w m ≤ cRow w n := by
  unfold cRow
  by_cases a : m = 0
  · rw [if_pos a]
    generalize (n - 1) / w = q
    split <;> omega
  · rw [if_neg a, if_neg (by omega)]
    have z := Nat.div_le_div_right (c := w) (show m - 1 ≤ n - 1 by omega)
    generalize (m - 1) / w = q1 at z ⊢
    generalize (n - 1) / w = q2 at z ⊢
    omega
theorem div_pred {w n : Nat} (h0 : 0 < w) (hn : 0 < n) : n / w = (n - 1) / w + (if n % w = 0 then 1 else 0) := by
  obtain ⟨m, rfl⟩ : ∃ m, n = m + 1 := ⟨n - 1, by omega⟩
  rw [Nat.add_sub_cancel]
  rw [Nat.succ_div]
  by_cases c : w ∣ m + 1
  · rw [if_pos c, if_pos (Nat.mod_eq_zero_of_dvd c)]
  · rw [if_neg c, if_neg fun z => c (Nat.dvd_of_mod_eq_zero z)]
theorem cntB_le {t e l : Int} (hl2 : 2 ≤ l) (body : List Int) : (cntB t e l body).length ≤ cRow (l.toNat - 1) body.length := by
  have w0 : 0 < l.toNat - 1 := by omega
  rw [cntB_size hl2]
  generalize l.toNat - 1 = w at w0
  obtain ⟨rs, ls, h, s⟩ := rowsB_all e body
  have fl := flr_le w0 rs
  have e1 : flr w (rowsB e body) = flr w rs + ls.length / w := by
    rw [h]
    unfold flr
    rw [List.map_append, List.sum_append]
    simp
  have e2 : (rowsB e body).getLastD [] = ls := by rw [h, List.getLastD_concat]
  rw [e1, e2]
  by_cases c : rs = []
  · subst c
    have lb : ls.length = body.length := by simpa using s
    have f0 : flr w ([] : List (List Int)) = 0 := rfl
    rw [f0]
    by_cases n0 : ls = []
    · rw [n0] at lb
      have lb : 0 = body.length := lb
      rw [if_neg (by simp [n0]), ← lb, n0]
      simp [cRow]
    · have lp := List.length_pos_iff.mpr n0
      unfold cRow
      rw [← lb, if_neg (show ¬ ls.length = 0 by omega)]
      have z := div_pred w0 lp
      generalize (ls.length - 1) / w = q2 at z ⊢
      generalize ls.length / w = q4 at z ⊢
      by_cases m : ls.length % w = 0
      · rw [if_pos ⟨n0, m⟩]
        rw [if_pos m] at z
        omega
      · rw [if_neg fun z => m z.2]
        rw [if_neg m] at z
        omega
  · have lr := List.length_pos_iff.mpr c
    unfold cRow
    rw [if_neg (show ¬ body.length = 0 by omega)]
    have z := div_add_le w0 (rs.map List.length).sum ls.length
    have z2 : ((rs.map List.length).sum + ls.length) / w ≤ (body.length - 1) / w := Nat.div_le_div_right (by omega)
    generalize ((rs.map List.length).sum + ls.length) / w = q1 at z z2
    generalize (body.length - 1) / w = q2 at z2 ⊢
    generalize (rs.map List.length).sum / w = q3 at z fl
    generalize ls.length / w = q4 at z ⊢
    generalize flr w rs = q5 at fl ⊢
    split <;> omega
theorem rows_rep {e x : Int} (h : x ≠ e) : ∀ n : Nat, rowsB e (List.replicate n x) = [List.replicate n x]
  | 0 => rfl
  | n + 1 => by
    rw [List.replicate_succ', rowsB_snoc, rows_rep h n]
    exact stepR_in h [] _
theorem cntB_rep {t e l x : Int} (hl2 : 2 ≤ l) (h : x ≠ e) (n : Nat) : (cntB t e l (List.replicate n x)).length = cRow (l.toNat - 1) n := by
  have w0 : 0 < l.toNat - 1 := by omega
  rw [cntB_size hl2, rows_rep h]
  generalize l.toNat - 1 = w at w0
  unfold flr cRow
  simp only [List.map_cons, List.map_nil, List.sum_cons, List.sum_nil, List.length_replicate, List.getLastD_cons, List.getLastD_nil, Nat.add_zero]
  by_cases c : n = 0
  · subst c
    simp
  · have z := div_pred w0 (by omega : 0 < n)
    have ne : List.replicate n x ≠ [] := by
      intro q
      have := congrArg List.length q
      simp at this
      exact c this
    rw [if_neg c]
    generalize (n - 1) / w = q2 at z ⊢
    generalize n / w = q4 at z ⊢
    by_cases m : n % w = 0
    · rw [if_pos m] at z
      rw [if_pos ⟨ne, m⟩]
      omega
    · rw [if_neg m] at z
      rw [if_neg fun z => m z.2]
      omega
/-! ### by ranks -/
theorem rank_rep {n : Nat} (hn : 0 < n) : ∀ k : Nat, aheadD n (k + 1) ≤ rankD n (List.replicate k (n - 1)) + 1
  | 0 => Nat.le_refl _
  | k + 1 => by
    have ih := rank_rep hn k
    rw [List.replicate_succ', rankD_snoc]
    have z := ahead_mul n (k + 1)
    have y : aheadD n (k + 1 + 1) = aheadD n (k + 1) + n ^ (k + 1) := rfl
    rw [y, ← z]
    have m1 : aheadD n (k + 1) * n ≤ (rankD n (List.replicate k (n - 1)) + 1) * n := Nat.mul_le_mul_right _ ih
    rw [Nat.add_mul, Nat.one_mul] at m1
    omega
theorem rank_most {n : Nat} (hn : 0 < n) {ds : List Nat} {k : Nat} (hk : ds.length ≤ k) (h : ∀ d ∈ ds, d < n) : rankD n ds ≤ rankD n (List.replicate k (n - 1)) := by
  have a := rank_val n ds.length ds rfl
  have b := val_lt ds.length ds rfl h
  have c := ahead_mono n (show ds.length + 1 ≤ k + 1 by omega)
  have d := rank_rep hn k
  have y : aheadD n (ds.length + 1) = aheadD n ds.length + n ^ ds.length := rfl
  omega
theorem rowR_most {t e : Int} (h3 : 3 ≤ t) (h0 : 0 ≤ e) (h1 : e < t) {body : List Int} {k : Nat} (hk : body.length ≤ k) (h : ∀ x ∈ body, 0 ≤ x ∧ x < t) : (rowR t e body).length ≤ (rowR t e (List.replicate k (t - 1))).length := by
  have np := plain_len h0 h1
  unfold rowR letters
  rw [List.length_map, List.length_map]
  have e1 : digits (countL t) (List.replicate k (t - 1)) = List.replicate k (t.toNat - 1) := by
    unfold digits
    rw [List.map_replicate]
    congr 1
    have m : (countL t)[t.toNat - 1]? = some (t - 1) := by
      unfold countL
      rw [List.getElem?_map, List.getElem?_range (by omega)]
      show some ((t.toNat - 1 : Nat) : Int) = _
      congr 1
      omega
    obtain ⟨g1, g2⟩ := List.getElem?_eq_some_iff.mp m
    rw [← g2]
    exact List.Nodup.idxOf_getElem (count_nodup t) _ g1
  rw [e1]
  refine row_len_mono (by omega) (Nat.le_refl _) _ _ (rank_most (by omega) (by unfold digits; rw [List.length_map]; exact hk) fun d hd => ?_)
  rw [← count_len]
  exact digits_lt (fun x hx => count_mem.mpr (h x hx)) d hd
/-! ### one sign at all places is as bad as any -/
theorem codesB_most {cs : List (List Int)} {L : Nat} (h : ∀ c ∈ cs, c.length ≤ L) : ∀ body : List Int, (codesB cs body).length ≤ L * body.length
  | [] => Nat.zero_le _
  | x :: r => by
    have ih := codesB_most h r
    unfold codesB at ih ⊢
    rw [List.flatMap_cons, List.length_append, List.length_cons, Nat.mul_add, Nat.mul_one]
    have z : (cs.getD x.toNat []).length ≤ L := by
      rw [List.getD_eq_getElem?_getD]
      cases e : cs[x.toNat]? with
      | none => exact Nat.zero_le _
      | some c => exact h c (List.mem_of_getElem? e)
    omega
theorem flat_rep {f : Int → List Int} (x : Int) : ∀ n : Nat, ((List.replicate n x).flatMap f).length = n * (f x).length
  | 0 => by simp
  | n + 1 => by
    rw [List.replicate_succ, List.flatMap_cons, List.length_append, flat_rep x n, Nat.add_mul, Nat.one_mul, Nat.add_comm]
theorem longest : ∀ cs : List (List Int), cs ≠ [] → ∃ (i : Nat) (h : i < cs.length), ∀ c ∈ cs, c.length ≤ (cs[i]).length
  | [], h => absurd rfl h
  | [c], _ => ⟨0, by simp, fun d hd => by rw [List.mem_singleton.mp hd]; exact Nat.le_refl _⟩
  | c :: d :: cs, _ => by
    obtain ⟨i, hi, hm⟩ := longest (d :: cs) (by simp)
    by_cases z : c.length ≤ ((d :: cs)[i]).length
    · refine ⟨i + 1, by simpa using hi, fun x hx => ?_⟩
      rcases List.mem_cons.mp hx with rfl | m
      · exact z
      · exact hm x m
    · refine ⟨0, by simp, fun x hx => ?_⟩
      rcases List.mem_cons.mp hx with rfl | m
      · exact Nat.le_refl _
      · exact Nat.le_trans (hm x m) (by show _ ≤ c.length; omega)
theorem rowOf_most {t e : Int} {k : Kind} (ok : KindOk t e k) (h3 : 3 ≤ t) (h0 : 0 ≤ e) (h1 : e < t) (n : Nat) : ∃ s : Int, 0 ≤ s ∧ s < t ∧ ∀ body : List Int, (∀ x ∈ body, 0 ≤ x ∧ x < t) → body.length ≤ n → (rowOf t e k body).length ≤ (rowOf t e k (List.replicate n s)).length := by
  cases k with
  | codes cs =>
    obtain ⟨hl, hok, _⟩ := ok
    obtain ⟨i, hi, hm⟩ := longest cs (fun z => by rw [z] at hl; have : (0 : Nat) = t.toNat := hl; omega)
    refine ⟨(i : Int), by omega, by omega, fun body _ hn => ?_⟩
    show (codesB cs body).length ≤ (codesB cs (List.replicate n (i : Int))).length
    have z := codesB_most hm body
    have y : (codesB cs (List.replicate n (i : Int))).length = n * (cs[i]).length := by
      unfold codesB
      rw [flat_rep, Int.toNat_natCast, List.getD_eq_getElem?_getD, List.getElem?_eq_getElem hi]
      rfl
    rw [y, Nat.mul_comm]
    exact Nat.le_trans z (Nat.mul_le_mul_left _ hn)
  | escapes m prs =>
    obtain ⟨hm, hw, hr0, he1, hm1, hcp, hcn⟩ := ok
    refine ⟨m, hm.1, hm.2.1, fun body _ hn => ?_⟩
    show (escB m prs body).length ≤ (escB m prs (List.replicate n m)).length
    have z := escB_len m prs body
    have hnf : (prs.map (·.1)).Nodup := hw.imp fun h => by omega
    obtain ⟨pc, hpc, e1⟩ := List.mem_map.mp hm1
    have zz := look_mem hnf hpc
    rw [e1] at zz
    have y : (escB m prs (List.replicate n m)).length = n * 2 := by
      unfold escB
      rw [flat_rep, escS_some zz]
      rfl
    rw [y]
    omega
  | counts l =>
    obtain ⟨hl2, hlt⟩ := ok
    have np := plain_len h0 h1
    obtain ⟨x, hx⟩ : ∃ x, x ∈ plainL t e := ⟨(plainL t e)[0]'(by omega), List.getElem_mem _⟩
    have px := plain_mem.mp hx
    refine ⟨x, px.1, px.2.1, fun body _ hn => ?_⟩
    show (cntB t e l body).length ≤ (cntB t e l (List.replicate n x)).length
    rw [cntB_rep hl2 px.2.2]
    exact Nat.le_trans (cntB_le hl2 body) (cRow_mono (by omega) hn)
  | ranks => exact ⟨t - 1, by omega, by omega, fun body h hn => rowR_most h3 h0 h1 hn h⟩
theorem turnL_rep (ts : List (List Int)) (s : Int) (n : Nat) : ∃ s', ∀ m, turnL ts (List.replicate m s) = List.replicate m s' := by
  induction ts generalizing s with
  | nil => exact ⟨s, fun m => rfl⟩
  | cons p ts ih =>
    obtain ⟨s', h⟩ := ih (p.getD s.toNat 0)
    refine ⟨s', fun m => ?_⟩
    show turnL ts (turnS p (List.replicate m s)) = _
    unfold turnS
    rw [List.map_replicate]
    exact h m
theorem frameW_most {wy : Way} (ok : wy.Ok) (n : Nat) : ∃ s : Int, 0 ≤ s ∧ s < wy.t ∧ ∀ body : List Int, (∀ x ∈ body, 0 ≤ x ∧ x < wy.t) → body.length ≤ n → (frameW wy body).length ≤ (frameW wy (List.replicate n s)).length := by
  obtain ⟨s, s0, s1, h⟩ := rowOf_most ok.kind ok.t3 ok.e0 ok.e1 n
  have hr : ∀ x ∈ List.replicate n s, 0 ≤ x ∧ x < wy.t := fun x hx => by
    rw [(List.mem_replicate.mp hx).2]
    exact ⟨s0, s1⟩
  have hr1 : ∀ x ∈ List.replicate 1 s, 0 ≤ x ∧ x < wy.t := fun x hx => by
    rw [(List.mem_replicate.mp hx).2]
    exact ⟨s0, s1⟩
  obtain ⟨kin, klen⟩ := backL_ok wy.ts ok.perm (List.replicate 1 s) hr1
  obtain ⟨s2, hs2⟩ : ∃ s2, backL wy.ts (List.replicate 1 s) = [s2] := by
    match hb : backL wy.ts (List.replicate 1 s), klen with
    | [s2], _ => exact ⟨s2, rfl⟩
  rw [hs2] at kin
  have k2 := kin s2 List.mem_cons_self
  obtain ⟨s3, h3⟩ := turnL_rep wy.ts s2 1
  have e1 : turnL wy.ts [s2] = [s] := by
    rw [← hs2]
    exact turnL_backL wy.ts ok.perm _ hr1
  have e2 : s3 = s := by
    have z := h3 1
    rw [show List.replicate 1 s2 = [s2] from rfl, e1] at z
    exact (List.cons.inj z).1.symm
  refine ⟨s2, k2.1, k2.2, fun body hb hl => ?_⟩
  obtain ⟨tin, tlen⟩ := turnL_ok wy.ts ok.perm body hb
  unfold frameW
  rw [List.length_append, List.length_append, h3 n, e2]
  exact Nat.add_le_add_right (h _ tin (by omega)) _
/-! ### the loop over the signs -/
def wRoom (f : Nat → Nat) : Nat → Nat
  | 0 => 0
  | i + 1 => if f i > wRoom f i then f i else wRoom f i
def wSign (f : Nat → Nat) : Nat → Option Nat
  | 0 => none
  | i + 1 => if f i > wRoom f i then some i else wSign f i
theorem wRoom_ge (f : Nat → Nat) : ∀ (n i : Nat), i < n → f i ≤ wRoom f n
  | n + 1, i, h => by
    rw [wRoom]
    rcases Nat.lt_or_ge i n with c | c
    · have z := wRoom_ge f n i c
      split <;> omega
    · have e : i = n := by omega
      subst e
      split <;> omega
theorem wSign_some (f : Nat → Nat) (hf : ∀ i, 0 < f i) : ∀ n : Nat, 0 < n → ∃ i, i < n ∧ wSign f n = some i ∧ f i = wRoom f n
  | 1, _ => by
    refine ⟨0, by decide, ?_, ?_⟩
    · show (if f 0 > 0 then some 0 else none) = some 0
      rw [if_pos (hf 0)]
    · show f 0 = if f 0 > 0 then f 0 else 0
      rw [if_pos (hf 0)]
  | n + 2, _ => by
    obtain ⟨i, h1, h2, h3⟩ := wSign_some f hf (n + 1) (by omega)
    have q1 : wSign f (n + 2) = if f (n + 1) > wRoom f (n + 1) then some (n + 1) else wSign f (n + 1) := rfl
    have q2 : wRoom f (n + 2) = if f (n + 1) > wRoom f (n + 1) then f (n + 1) else wRoom f (n + 1) := rfl
    rw [q1, q2]
    by_cases c : f (n + 1) > wRoom f (n + 1)
    · rw [if_pos c, if_pos c]
      exact ⟨n + 1, by omega, rfl, rfl⟩
    · rw [if_neg c, if_neg c]
      exact ⟨i, by omega, h2, h3⟩
/-- how long the frame of so many of one sign is -/
def sizeS (wy : Way) (n : Nat) (i : Nat) : Nat := (frameW wy (List.replicate n (i : Int))).length
def worstR (wy : Way) (n : Nat) : Nat := wRoom (sizeS wy n) wy.t.toNat
def worstBi (wy : Way) (n i : Nat) : List Int := match wSign (sizeS wy n) i with
  | none => []
  | some s => List.replicate n (s : Int)
def worstB (wy : Way) (n : Nat) : List Int := worstBi wy n wy.t.toNat
theorem frameW_pos (wy : Way) (b : List Int) : 0 < (frameW wy b).length := by
  unfold frameW
  rw [List.length_append, List.length_singleton]
  omega
theorem worst_ok {wy : Way} (ok : wy.Ok) (n : Nat) : (worstB wy n).length = n ∧ (∀ x ∈ worstB wy n, 0 ≤ x ∧ x < wy.t) ∧ (frameW wy (worstB wy n)).length = worstR wy n ∧ ∀ body : List Int, (∀ x ∈ body, 0 ≤ x ∧ x < wy.t) → body.length ≤ n → (frameW wy body).length ≤ worstR wy n := by
  have t3 := ok.t3
  obtain ⟨i, h1, h2, h3⟩ := wSign_some (sizeS wy n) (fun i => frameW_pos _ _) wy.t.toNat (by omega)
  have e : worstB wy n = List.replicate n (i : Int) := by
    unfold worstB worstBi
    rw [h2]
  rw [e]
  refine ⟨List.length_replicate, fun x hx => ?_, h3, fun body hb hl => ?_⟩
  · rw [(List.mem_replicate.mp hx).2]
    omega
  · obtain ⟨s, s0, s1, h⟩ := frameW_most ok n
    refine Nat.le_trans (h body hb hl) ?_
    have z := wRoom_ge (sizeS wy n) wy.t.toNat s.toNat (by omega)
    have y : ((s.toNat : Nat) : Int) = s := Int.toNat_of_nonneg s0
    unfold sizeS at z
    rw [y] at z
    exact z
end Esc

namespace Esc
open PySem PySem.Spec PyProof.Rows L2
theorem i_rep {H : Hp} {Q : VK} {l : Addr} {k : Int} {xs : List V} (h : H l = some (.lst xs)) (hk : 0 ≤ k ∧ k ≤ 1000) (hz : xs.length * k.toNat ≤ 100000) (q : ∀ p H', H p = none → Same H H' → H' p = some (.lst (List.replicate k.toNat xs).flatten) → Q (.ref p) H') : rRep (.ref l) (.int k) H Q :=
  ⟨l, k, xs, rfl, rfl, h, by omega, by omega, sz hz, grow q⟩
theorem rep_map (n : Nat) (xs : List Int) : (List.replicate n (xs.map V.int)).flatten = ((List.replicate n xs).flatten).map V.int := by
  rw [List.map_flatten, List.map_replicate]
theorem rep_one (n : Nat) (x : Int) : (List.replicate n [x]).flatten = List.replicate n x := by
  induction n with
  | zero => rfl
  | succ n ih =>
    rw [List.replicate_succ, List.flatten_cons, ih]
    rfl
/-- [x] * n -/
theorem i_rep1 {H : Hp} {Q : VK} {l : Addr} {k x : Int} (h : H l = some (.lst [.int x])) (hk : 0 ≤ k ∧ k ≤ 1000) (q : ∀ p H', H p = none → Same H H' → H' p = some (.lst ((List.replicate k.toNat x).map V.int)) → Q (.ref p) H') : rRep (.ref l) (.int k) H Q := by
  refine i_rep (xs := [.int x]) h hk (by show 1 * k.toNat ≤ 100000; omega) fun p H' hp s e => q p H' hp s ?_
  rw [e, show [V.int x] = [x].map V.int from rfl, rep_map, rep_one]
/-! ### all bodies -/
def longerB (t : Int) (rows : List (List Int)) : List (List Int) := rows.flatMap fun row => (countL t).map fun s => row ++ [s]
def aheadB (t : Int) : Nat → List (List Int)
  | 0 => [[]]
  | n + 1 => longerB t (aheadB t n)
def bodiesB (t : Int) : Nat → List (List Int)
  | 0 => [[]]
  | n + 1 => bodiesB t n ++ aheadB t (n + 1)
theorem longerB_snoc (t : Int) (rows : List (List Int)) (row : List Int) : longerB t (rows ++ [row]) = longerB t rows ++ (countL t).map fun s => row ++ [s] := by
  unfold longerB
  rw [List.flatMap_append, List.flatMap_cons, List.flatMap_nil, List.append_nil]
theorem longerB_len (t : Int) : ∀ rows : List (List Int), (longerB t rows).length = t.toNat * rows.length
  | [] => rfl
  | r :: rows => by
    have ih := longerB_len t rows
    unfold longerB at ih ⊢
    rw [List.flatMap_cons, List.length_append, ih, List.length_map, count_len, List.length_cons, Nat.mul_add, Nat.mul_one, Nat.add_comm]
theorem longer_take (t : Int) (rows : List (List Int)) (i : Nat) : (longerB t (rows.take i)).length ≤ (longerB t rows).length := by
  rw [longerB_len, longerB_len, List.length_take]
  exact Nat.mul_le_mul_left _ (Nat.min_le_right _ _)
theorem aheadB_mem {t : Int} : ∀ {n : Nat} {b : List Int}, b ∈ aheadB t n ↔ b.length = n ∧ ∀ x ∈ b, 0 ≤ x ∧ x < t
  | 0, b => by
    rw [show aheadB t 0 = [[]] from rfl, List.mem_singleton]
    exact ⟨fun h => by rw [h]; exact ⟨rfl, fun x hx => by cases hx⟩, fun h => List.length_eq_zero_iff.mp h.1⟩
  | n + 1, b => by
    show b ∈ longerB t (aheadB t n) ↔ _
    unfold longerB
    rw [List.mem_flatMap]
    constructor
    · rintro ⟨row, hr, hb⟩
      obtain ⟨s, hs, rfl⟩ := List.mem_map.mp hb
      obtain ⟨h1, h2⟩ := aheadB_mem.mp hr
      refine ⟨by rw [List.length_append, h1]; rfl, fun x hx => ?_⟩
      rcases List.mem_append.mp hx with m | m
      · exact h2 x m
      · rw [List.mem_singleton.mp m]
        exact count_mem.mp hs
    · rintro ⟨h1, h2⟩
      have hne : b ≠ [] := fun e => by
        rw [e] at h1
        cases h1
      have e := List.dropLast_concat_getLast hne
      refine ⟨b.dropLast, aheadB_mem.mpr ⟨by rw [List.length_dropLast, h1]; rfl, fun x hx => h2 x (mem_dl hx)⟩, List.mem_map.mpr ⟨b.getLast hne, count_mem.mpr (h2 _ (List.getLast_mem hne)), e⟩⟩
theorem bodiesB_mem {t : Int} : ∀ {n : Nat} {b : List Int}, b ∈ bodiesB t n ↔ b.length ≤ n ∧ ∀ x ∈ b, 0 ≤ x ∧ x < t
  | 0, b => by
    show b ∈ aheadB t 0 ↔ _
    rw [aheadB_mem, Nat.le_zero]
  | n + 1, b => by
    show b ∈ bodiesB t n ++ aheadB t (n + 1) ↔ _
    rw [List.mem_append, bodiesB_mem, aheadB_mem]
    constructor
    · rintro (⟨h1, h2⟩ | ⟨h1, h2⟩)
      · exact ⟨by omega, h2⟩
      · exact ⟨by omega, h2⟩
    · rintro ⟨h1, h2⟩
      by_cases c : b.length = n + 1
      · exact .inr ⟨c, h2⟩
      · exact .inl ⟨by omega, h2⟩
theorem longerB_nodup {t : Int} : ∀ {rows : List (List Int)}, rows.Nodup → (longerB t rows).Nodup
  | [], _ => List.nodup_nil
  | r :: rows, h => by
    obtain ⟨h1, h2⟩ := List.nodup_cons.mp h
    have ih := longerB_nodup (t := t) h2
    unfold longerB at ih ⊢
    rw [List.flatMap_cons]
    refine List.nodup_append.mpr ⟨?_, ih, ?_⟩
    · refine List.Pairwise.map _ (fun a b hab z => hab ?_) (count_nodup t)
      have q := List.append_cancel_left z
      exact (List.cons.inj q).1
    · intro x hx y hy z
      subst z
      obtain ⟨s, _, rfl⟩ := List.mem_map.mp hx
      obtain ⟨row, hr, hb⟩ := List.mem_flatMap.mp hy
      obtain ⟨s2, _, e⟩ := List.mem_map.mp hb
      have q := (List.append_inj' e rfl).1
      exact h1 (q ▸ hr)
theorem aheadB_nodup (t : Int) : ∀ n : Nat, (aheadB t n).Nodup
  | 0 => by
    show [([] : List Int)].Nodup
    simp
  | n + 1 => longerB_nodup (aheadB_nodup t n)
theorem bodiesB_nodup (t : Int) : ∀ n : Nat, (bodiesB t n).Nodup
  | 0 => by
    show [([] : List Int)].Nodup
    simp
  | n + 1 => by
    refine List.nodup_append.mpr ⟨bodiesB_nodup t n, aheadB_nodup t (n + 1), fun x hx y hy z => ?_⟩
    subst z
    have a := (bodiesB_mem.mp hx).1
    have b := (aheadB_mem.mp hy).1
    omega
theorem ahead_le (t : Int) : ∀ n : Nat, (aheadB t n).length ≤ (bodiesB t n).length
  | 0 => Nat.le_refl _
  | n + 1 => by
    show _ ≤ (bodiesB t n ++ aheadB t (n + 1)).length
    rw [List.length_append]
    omega
theorem bodies_mono (t : Int) {m : Nat} : ∀ {n : Nat}, m ≤ n → (bodiesB t m).length ≤ (bodiesB t n).length := fun {n} h => by
  induction n with
  | zero =>
    rw [Nat.le_zero.mp h]
    exact Nat.le_refl _
  | succ n ih =>
    rcases Nat.lt_or_ge m (n + 1) with c | c
    · have z := ih (by omega)
      show _ ≤ (bodiesB t n ++ aheadB t (n + 1)).length
      rw [List.length_append]
      omega
    · rw [show m = n + 1 by omega]
      exact Nat.le_refl _
section
variable {P : Program} {w : World} {K : PySem.W.Frag} {mg : Str → Option Value} {base : Heap}
theorem LstsAt.mem {H : Hp} : ∀ {as : List Addr} {cs : List (List Int)}, LstsAt H as cs → ∀ a ∈ as, ∃ c ∈ cs, H a = some (.lst (c.map V.int))
  | a :: as, c :: cs, ⟨h, r⟩, b, m => by
    rcases List.mem_cons.mp m with rfl | m
    · exact ⟨c, List.mem_cons_self, h⟩
    · obtain ⟨c2, m2, e⟩ := r.mem b m
      exact ⟨c2, List.mem_cons_of_mem _ m2, e⟩
/-- new ones -/
def Fr (H : Hp) (as : List Addr) : Prop := ∀ a ∈ as, H a = none
theorem Fr.app {H : Hp} {as bs : List Addr} (h : Fr H as) (k : Fr H bs) : Fr H (as ++ bs) := fun a ha => by
  rcases List.mem_append.mp ha with m | m
  · exact h a m
  · exact k a m
def spBodies : Sp := fun vs H Q _ => ∃ (t n : Int), vs = [.int t, .int n] ∧ 0 ≤ t ∧ t ≤ 16 ∧ 0 ≤ n ∧ n ≤ 100 ∧ (bodiesB t n.toNat).length ≤ 20000 ∧ ∀ r as H', H r = none → Same H H' → H' r = some (.lst (as.map V.ref)) → LstsAt H' as (bodiesB t n.toNat) → Fr H as → Q (.ref r) H'
def spPower : Sp := fun vs H Q _ => ∃ (a n : Int), vs = [.int a, .int n] ∧ 0 ≤ a ∧ a ≤ 1000 ∧ 0 ≤ n ∧ n ≤ 1000 ∧ Q (.int (a ^ n.toNat)) H
end
end Esc

/-! Lists of lists that grow while dice are thrown. -/
namespace Esc
open PySem PySem.Spec PyProof.Rows L2
theorem hide_at {d a : Addr} {H H' : Hp} {o : HO} (s : Same (hide d H) H') (n : a ≠ d) (h : H a = some o) : H' a = some o := s _ _ ((hide_ne n).trans h)
/-- good rows, each at its own place -/
def Rw (H : Hp) (d r : Addr) (t : Int) (n : Nat) (as : List Addr) : Prop := ∀ b ∈ as, b ≠ r ∧ b ≠ d ∧ ∃ ns : List Int, H b = some (.lst (ns.map V.int)) ∧ (∀ x ∈ ns, 0 ≤ x ∧ x < t) ∧ ns.length ≤ n
theorem Rw.step {H H' : Hp} {d r : Addr} {t : Int} {n : Nat} {as : List Addr} (s : Same (hide d H) H') (h : Rw H d r t n as) : Rw H' d r t n as := fun b hb => by
  obtain ⟨h1, h2, ns, e, k⟩ := h b hb
  exact ⟨h1, h2, ns, hide_at s h2 e, k⟩
theorem Rw.push {H : Hp} {d r b : Addr} {t : Int} {n : Nat} {as : List Addr} {o : HO} {ns : List Int} (h : Rw H d r t n as) (h1 : b ≠ r) (h2 : b ≠ d) (e : H b = some (.lst (ns.map V.int))) (k : ∀ x ∈ ns, 0 ≤ x ∧ x < t) (l : ns.length ≤ n) : Rw (upd H r o) d r t n (as ++ [b]) := fun c hc => by
  rcases List.mem_append.mp hc with m | m
  · obtain ⟨g1, g2, ms, f, k'⟩ := h c m
    exact ⟨g1, g2, ms, (upd_ne g1).trans f, k'⟩
  · rw [List.mem_singleton.mp m]
    exact ⟨h1, h2, ns, (upd_ne h1).trans e, k, l⟩
theorem rep_in {t x : Int} {k : Nat} (h : 0 ≤ x ∧ x < t) : ∀ y ∈ List.replicate k x, 0 ≤ y ∧ y < t := fun y hy => by
  rw [(List.mem_replicate.mp hy).2]
  exact h
theorem app_in {t : Int} {a b : List Int} (h : ∀ x ∈ a, 0 ≤ x ∧ x < t) (k : ∀ x ∈ b, 0 ≤ x ∧ x < t) : ∀ x ∈ a ++ b, 0 ≤ x ∧ x < t := fun x hx => by
  rcases List.mem_append.mp hx with m | m
  · exact h x m
  · exact k x m
theorem one_in {t y : Int} (h : 0 ≤ y ∧ y < t) : ∀ x ∈ [y], 0 ≤ x ∧ x < t := fun x hx => by
  rw [List.mem_singleton.mp hx]
  exact h
theorem take_in {t : Int} {a : List Int} {k : Nat} (h : ∀ x ∈ a, 0 ≤ x ∧ x < t) : ∀ x ∈ a.take k, 0 ≤ x ∧ x < t := fun x hx => h x (List.mem_of_mem_take hx)
theorem drop_in {t : Int} {a : List Int} {k : Nat} (h : ∀ x ∈ a, 0 ≤ x ∧ x < t) : ∀ x ∈ a.drop k, 0 ≤ x ∧ x < t := fun x hx => h x (List.mem_of_mem_drop hx)
end Esc

namespace Esc
open PySem PySem.Spec PyProof.Rows L2
/-! ### what all goings have in common -/
theorem common_is {rows : List (List Int)} {r0 X : List Int} {m : Nat} (h0 : r0 ∈ rows) (hX : ∀ r ∈ rows, X <+: r) (hn : ∃ r ∈ rows, ∃ s ∈ rows, r[X.length]? ≠ s[X.length]?)
    (h1 : ∀ r ∈ rows, r.take m = r0.take m ∧ m ≤ r.length) (h2 : ¬ ∀ r ∈ rows, r.take (m + 1) = r0.take (m + 1) ∧ m < r.length) : r0.take m = X := by
  have tk : ∀ r ∈ rows, ∀ k, k ≤ X.length → r.take k = X.take k := fun r hr k hk => by
    obtain ⟨y, rfl⟩ := hX r hr
    exact List.take_append_of_le_length hk
  have le : m ≤ X.length := by
    by_cases c : m ≤ X.length
    · exact c
    · exfalso
      obtain ⟨r, hr, s, hs, ne⟩ := hn
      apply ne
      have e1 := congrArg (fun l => l[X.length]?) (h1 r hr).1
      have e2 := congrArg (fun l => l[X.length]?) (h1 s hs).1
      have e3 := e1.trans e2.symm
      rw [List.getElem?_take, List.getElem?_take, if_pos (by omega), if_pos (by omega)] at e3
      exact e3
  have ge : X.length ≤ m := by
    by_cases c : X.length ≤ m
    · exact c
    · exfalso
      apply h2
      intro r hr
      refine ⟨(tk r hr _ (by omega)).trans (tk r0 h0 _ (by omega)).symm, ?_⟩
      have z := (hX r hr).length_le
      omega
  have em : m = X.length := by omega
  rw [em, tk r0 h0 _ (Nat.le_refl _), List.take_length]
theorem turnL_app : ∀ (ts : List (List Int)) (a b : List Int), turnL ts (a ++ b) = turnL ts a ++ turnL ts b
  | [], _, _ => rfl
  | p :: ts, a, b => by
    show turnL ts (turnS p (a ++ b)) = turnL ts (turnS p a) ++ turnL ts (turnS p b)
    rw [← turnL_app ts]
    congr 1
    exact List.map_append
/-- what is certain of a body -/
def certK (t e : Int) : Kind → List Int → List Int
  | .codes cs, b => codesB cs b
  | .escapes m prs, b => escB m prs b
  | .counts l, b => ((rowsB e b).dropLast).flatMap (groupB ((plainL t e).take l.toNat) (l.toNat - 1)) ++ (groupB ((plainL t e).take l.toNat) (l.toNat - 1) (((rowsB e b).getLastD []).take (((rowsB e b).getLastD []).length - ((rowsB e b).getLastD []).length % (l.toNat - 1)))).dropLast
  | .ranks, _ => []
def certW (wy : Way) (body : List Int) : List Int := certK wy.t wy.e wy.k (turnL wy.ts body)
theorem groupB_cut {cn : List Int} {w : Nat} (h0 : 0 < w) : ∀ (q : Nat) (A R : List Int), A.length = q * w → groupB cn w (A ++ R) = (groupB cn w A).dropLast ++ groupB cn w R
  | 0, A, R, h => by
    have e : A = [] := List.length_eq_zero_iff.mp (by omega)
    subst e
    rw [groupB_last (row := []) (by simpa using h0)]
    simp
  | q + 1, A, R, h => by
    have lw : w ≤ A.length := by
      rw [h, Nat.succ_mul]
      omega
    have ih := groupB_cut (cn := cn) h0 q (A.drop w) R (by
      rw [List.length_drop, h, Nat.succ_mul]
      omega)
    rw [groupB_more (row := A ++ R) h0 (by rw [List.length_append]; omega), groupB_more (row := A) h0 lw, List.take_append_of_le_length lw, List.drop_append_of_le_length lw, ih]
    have ne : groupB cn w (A.drop w) ≠ [] := List.length_pos_iff.mp (groupB_pos _ _ _)
    rw [List.dropLast_cons_of_ne_nil (by simp [ne]), List.dropLast_append_of_ne_nil ne]
    simp
theorem rowsB_app (e : Int) (b : List Int) (rs : List (List Int)) (ls : List Int) (h : rowsB e b = rs ++ [ls]) : ∀ n : Nat, ∀ b' : List Int, b'.length = n → ∃ x more, rowsB e (b ++ b') = rs ++ (ls ++ x) :: more := by
  intro n
  induction n with
  | zero =>
    intro b' hb
    have e0 : b' = [] := List.length_eq_zero_iff.mp hb
    subst e0
    exact ⟨[], [], by rw [List.append_nil, h, List.append_nil]⟩
  | succ n ih =>
    intro b' hb
    rcases List.eq_nil_or_concat b' with z | ⟨c, s, z⟩
    · rw [z] at hb
      cases hb
    · rw [List.concat_eq_append] at z
      subst z
      rw [List.length_append, List.length_singleton] at hb
      obtain ⟨x, more, hm⟩ := ih c (by omega)
      rw [← List.append_assoc, rowsB_snoc, hm]
      by_cases c1 : s = e
      · subst c1
        rw [stepR_end]
        exact ⟨x, more ++ [[]], by simp⟩
      · rcases List.eq_nil_or_concat more with z | ⟨mr, l2, z⟩
        · subst z
          rw [stepR_in c1]
          exact ⟨x ++ [s], [], by simp⟩
        · rw [List.concat_eq_append] at z
          subst z
          rw [show rs ++ (ls ++ x) :: (mr ++ [l2]) = (rs ++ (ls ++ x) :: mr) ++ [l2] by simp, stepR_in c1]
          exact ⟨x, mr ++ [l2 ++ [s]], by simp⟩
theorem pre_dropLast {X Y Z : List Int} (h : Z = X ++ Y) (hy : Y ≠ []) : X <+: Z ∧ X <+: Z.dropLast := by
  subst h
  exact ⟨List.prefix_append _ _, by rw [List.dropLast_append_of_ne_nil hy]; exact List.prefix_append _ _⟩
theorem codesB_app (cs : List (List Int)) (a b : List Int) : codesB cs (a ++ b) = codesB cs a ++ codesB cs b := List.flatMap_append
theorem escB_app (m : Int) (prs : List (Int × Int)) (a b : List Int) : escB m prs (a ++ b) = escB m prs a ++ escB m prs b := List.flatMap_append
end Esc

namespace Esc
open PySem PySem.Spec PyProof.Rows L2
theorem cut_len (n w : Nat) (h : 0 < w) : ∃ q, n - n % w = q * w ∧ n % w < w ∧ n - n % w ≤ n := by
  have z := Nat.div_add_mod n w
  refine ⟨n / w, ?_, Nat.mod_lt _ h, Nat.sub_le _ _⟩
  rw [Nat.mul_comm]
  omega
/-- the rows by counts: what is certain, then what the last row goes on with -/
theorem cnt_parts {t e l : Int} (hl2 : 2 ≤ l) {b : List Int} {rs : List (List Int)} {ls : List Int} (h : rowsB e b = rs ++ [ls]) :
    certK t e (.counts l) b = rs.flatMap (groupB ((plainL t e).take l.toNat) (l.toNat - 1)) ++ (groupB ((plainL t e).take l.toNat) (l.toNat - 1) (ls.take (ls.length - ls.length % (l.toNat - 1)))).dropLast := by
  show ((rowsB e b).dropLast).flatMap _ ++ (groupB _ _ (((rowsB e b).getLastD []).take _)).dropLast = _
  rw [h, List.dropLast_concat, List.getLastD_concat]
theorem cnt_goes {t e l : Int} (hl2 : 2 ≤ l) {b b' : List Int} {rs : List (List Int)} {ls x : List Int} {more : List (List Int)} (h : rowsB e b = rs ++ [ls]) (h' : rowsB e b' = rs ++ (ls ++ x) :: more) :
    (rowsB e b').flatMap (groupB ((plainL t e).take l.toNat) (l.toNat - 1)) = certK t e (.counts l) b ++ (groupB ((plainL t e).take l.toNat) (l.toNat - 1) (ls.drop (ls.length - ls.length % (l.toNat - 1)) ++ x) ++ more.flatMap (groupB ((plainL t e).take l.toNat) (l.toNat - 1))) := by
  have w0 : 0 < l.toNat - 1 := by omega
  obtain ⟨q, hq, _, hle⟩ := cut_len ls.length (l.toNat - 1) w0
  rw [cnt_parts hl2 h, h', List.flatMap_append, List.flatMap_cons]
  have z := groupB_cut (cn := (plainL t e).take l.toNat) w0 q (ls.take (ls.length - ls.length % (l.toNat - 1))) (ls.drop (ls.length - ls.length % (l.toNat - 1)) ++ x) (by rw [List.length_take, ← hq]; omega)
  rw [← List.append_assoc, List.take_append_drop] at z
  rw [z]
  simp only [List.append_assoc]
theorem app_ne {a b : List Int} (h : 0 < a.length) : a ++ b ≠ [] := fun z => by
  have := congrArg List.length z
  rw [List.length_append, List.length_nil] at this
  omega
theorem cert_pre (wy : Way) (ok : wy.Ok) (body more : List Int) : certW wy body <+: frameW wy (body ++ more) := by
  have kind := ok.kind
  unfold certW frameW
  rw [turnL_app]
  generalize turnL wy.ts body = b
  generalize turnL wy.ts more = c
  generalize hk : wy.k = k at kind
  cases k with
  | codes cs =>
    show codesB cs b <+: codesB cs (b ++ c) ++ _
    rw [codesB_app, List.append_assoc]
    exact List.prefix_append _ _
  | escapes m prs =>
    show escB m prs b <+: escB m prs (b ++ c) ++ _
    rw [escB_app, List.append_assoc]
    exact List.prefix_append _ _
  | counts l =>
    obtain ⟨rs, ls, h, _⟩ := rowsB_all wy.e b
    obtain ⟨x, mr, h'⟩ := rowsB_app wy.e b rs ls h _ c rfl
    have g := cnt_goes (t := wy.t) kind.1 h h'
    have z := pre_dropLast g (app_ne (groupB_pos _ _ _))
    refine List.IsPrefix.trans ?_ (List.prefix_append _ _)
    show _ <+: cntB wy.t wy.e l (b ++ c)
    unfold cntB
    dsimp only
    split
    · exact z.2
    · exact z.1
  | ranks => exact List.nil_prefix
theorem at_app {X Y : List Int} : (X ++ Y)[X.length]? = Y[0]? := by
  rw [List.getElem?_append_right (Nat.le_refl _), Nat.sub_self]
theorem turn_one {wy : Way} (ok : wy.Ok) {x : Int} (h : 0 ≤ x ∧ x < wy.t) : ∃ s, (0 ≤ s ∧ s < wy.t) ∧ turnL wy.ts [s] = [x] := by
  have hb : ∀ y ∈ [x], 0 ≤ y ∧ y < wy.t := fun y hy => by rw [List.mem_singleton.mp hy]; exact h
  obtain ⟨i, l⟩ := backL_ok wy.ts ok.perm [x] hb
  obtain ⟨s, hs⟩ := List.length_eq_one_iff.mp l
  refine ⟨s, i s (by rw [hs]; exact List.mem_singleton_self _), ?_⟩
  rw [← hs]
  exact turnL_backL wy.ts ok.perm [x] hb
/-- a code's first sign is no end -/
theorem code_head {t e : Int} {cs : List (List Int)} (ok : KindOk t e (.codes cs)) (h3 : 3 ≤ t) {x : Int} (hx : 0 ≤ x ∧ x < t) : ∃ y r, cs.getD x.toNat [] = y :: r ∧ y ≠ e := by
  have lx : x.toNat < cs.length := by
    rw [ok.1]
    omega
  rw [List.getD_eq_getElem?_getD, List.getElem?_eq_getElem lx, Option.getD_some]
  have c := ok.2.1 cs[x.toNat] (List.getElem_mem lx)
  cases e1 : cs[x.toNat] with
  | nil =>
    rw [e1] at c
    exact absurd c.1 (by simp)
  | cons y r =>
    rw [e1] at c
    exact ⟨y, r, rfl, (c.2.2 y List.mem_cons_self).2.2⟩
theorem esc_head {t e m : Int} {prs : List (Int × Int)} (ok : KindOk t e (.escapes m prs)) {x : Int} : ∃ y r, escS m prs x = y :: r ∧ y ≠ e := by
  obtain ⟨pm, pw, _, he, _⟩ := ok
  cases c : look prs x with
  | some y => exact ⟨m, [y], escS_some c, pm.2.2⟩
  | none =>
    refine ⟨x, [], escS_none c, fun z => ?_⟩
    subst z
    obtain ⟨p, hp, rfl⟩ := List.mem_map.mp he
    rw [look_mem (pw.imp fun h => by omega) hp] at c
    cases c
theorem group_head {cn row : List Int} {w : Nat} (w0 : 0 < w) (h0 : row ≠ []) (h : row.length ≤ w) : ∃ Y, groupB cn w row = cn.getD row.length 0 :: Y ∧ Y ≠ [] := by
  by_cases c : row.length < w
  · exact ⟨row, groupB_last c, h0⟩
  · have e : row.length = w := by omega
    rw [groupB_more w0 (by omega), e]
    refine ⟨_, rfl, ?_⟩
    rw [List.take_of_length_le (by omega)]
    exact app_ne (by omega)
theorem cnt_end {t e l : Int} (hl2 : 2 ≤ l) {b : List Int} {rs : List (List Int)} {ls : List Int} (h : rowsB e b = rs ++ [ls]) :
    ∃ r, cntB t e l (b ++ [e]) = certK t e (.counts l) b ++ ((plainL t e).take l.toNat).getD (ls.length % (l.toNat - 1)) 0 :: r := by
  have w0 : 0 < l.toNat - 1 := by omega
  have he : rowsB e (b ++ [e]) = rs ++ (ls ++ []) :: [[]] := by rw [rowsB_snoc, h, stepR_end, List.append_nil, List.append_assoc]; rfl
  have ge := cnt_goes (t := t) hl2 h he
  have lr : (ls.drop (ls.length - ls.length % (l.toNat - 1))).length = ls.length % (l.toNat - 1) := by
    rw [List.length_drop]
    have := Nat.mod_le ls.length (l.toNat - 1)
    omega
  have lm := Nat.mod_lt ls.length w0
  rw [List.append_nil, groupB_last (by omega), lr] at ge
  have gl : (rowsB e (b ++ [e])).getLastD [] = [] := by rw [he, show rs ++ (ls ++ []) :: [[]] = (rs ++ [ls ++ []]) ++ [[]] by simp, List.getLastD_concat]
  unfold cntB
  dsimp only
  rw [gl, if_neg (fun z => z.1 rfl), ge]
  exact ⟨_, rfl⟩
theorem cnt_in {t e l o : Int} (hl2 : 2 ≤ l) (ho : o ≠ e) {b : List Int} {rs : List (List Int)} {ls : List Int} (h : rowsB e b = rs ++ [ls]) :
    ∃ r, cntB t e l (b ++ [o]) = certK t e (.counts l) b ++ ((plainL t e).take l.toNat).getD (ls.length % (l.toNat - 1) + 1) 0 :: r := by
  have w0 : 0 < l.toNat - 1 := by omega
  have ho' : rowsB e (b ++ [o]) = rs ++ (ls ++ [o]) :: [] := by rw [rowsB_snoc, h, stepR_in ho]
  have go := cnt_goes (t := t) hl2 h ho'
  have lr : (ls.drop (ls.length - ls.length % (l.toNat - 1))).length = ls.length % (l.toNat - 1) := by
    rw [List.length_drop]
    have := Nat.mod_le ls.length (l.toNat - 1)
    omega
  have lm := Nat.mod_lt ls.length w0
  have l1 : (ls.drop (ls.length - ls.length % (l.toNat - 1)) ++ [o]).length = ls.length % (l.toNat - 1) + 1 := by rw [List.length_append, lr]; rfl
  obtain ⟨Y, hY, ne⟩ := group_head (cn := (plainL t e).take l.toNat) w0 (row := ls.drop (ls.length - ls.length % (l.toNat - 1)) ++ [o]) (by simp) (by omega)
  rw [hY, List.flatMap_nil, List.append_nil, l1] at go
  unfold cntB
  dsimp only
  rw [go]
  split
  · refine ⟨Y.dropLast, ?_⟩
    rw [List.dropLast_append_of_ne_nil (by simp), List.dropLast_cons_of_ne_nil ne]
  · exact ⟨Y, rfl⟩
/-- two goings that are not alike behind what is certain; by ranks from one sign on another way -/
theorem cert_unlike (wy : Way) (ok : wy.Ok) (body : List Int) (nr : wy.k ≠ .ranks) :
    (∃ s, (0 ≤ s ∧ s < wy.t) ∧ (frameW wy body)[(certW wy body).length]? ≠ (frameW wy (body ++ [s]))[(certW wy body).length]?) ∨
    ∃ s u, (0 ≤ s ∧ s < wy.t) ∧ (0 ≤ u ∧ u < wy.t) ∧ (frameW wy (body ++ [u]))[(certW wy body).length]? ≠ (frameW wy (body ++ [s]))[(certW wy body).length]? := by
  have kind := ok.kind
  have t3 := ok.t3
  obtain ⟨s0, hs0, ts0⟩ := turn_one ok (x := 0) ⟨by omega, by omega⟩
  obtain ⟨se, hse, tse⟩ := turn_one ok ⟨ok.e0, ok.e1⟩
  obtain ⟨o, ho, oe⟩ : ∃ o, (0 ≤ o ∧ o < wy.t) ∧ o ≠ wy.e := by
    by_cases z : wy.e = 0
    · exact ⟨1, ⟨by omega, by omega⟩, by omega⟩
    · exact ⟨0, ⟨by omega, by omega⟩, fun h => z h.symm⟩
  obtain ⟨so, hso, tso⟩ := turn_one ok ho
  unfold certW frameW
  simp only [turnL_app]
  generalize turnL wy.ts body = b
  generalize hk : wy.k = k at kind nr
  cases k with
  | codes cs =>
    left
    refine ⟨s0, hs0, ?_⟩
    rw [ts0]
    obtain ⟨y, r, hy, ne⟩ := code_head kind t3 (x := 0) ⟨by omega, by omega⟩
    show (codesB cs b ++ [wy.e])[(codesB cs b).length]? ≠ (codesB cs (b ++ [0]) ++ [wy.e])[(codesB cs b).length]?
    rw [codesB_snoc, at_app, hy, List.append_assoc, at_app]
    intro z
    exact ne (Option.some.inj z).symm
  | escapes m prs =>
    left
    refine ⟨s0, hs0, ?_⟩
    rw [ts0]
    obtain ⟨y, r, hy, ne⟩ := esc_head kind (x := 0)
    show (escB m prs b ++ [wy.e])[(escB m prs b).length]? ≠ (escB m prs (b ++ [0]) ++ [wy.e])[(escB m prs b).length]?
    rw [escB_snoc, at_app, hy, List.append_assoc, at_app]
    intro z
    exact ne (Option.some.inj z).symm
  | counts l =>
    right
    refine ⟨so, se, hso, hse, ?_⟩
    rw [tso, tse]
    obtain ⟨rs, ls, h, _⟩ := rowsB_all wy.e b
    have k1 := kind.1
    have k2 := kind.2
    have w0 : 0 < l.toNat - 1 := by omega
    obtain ⟨r1, e1⟩ := cnt_end (t := wy.t) k1 h
    obtain ⟨r2, e2⟩ := cnt_in (t := wy.t) k1 oe h
    show (cntB wy.t wy.e l (b ++ [wy.e]) ++ [wy.e])[(certK wy.t wy.e (.counts l) b).length]? ≠ (cntB wy.t wy.e l (b ++ [o]) ++ [wy.e])[(certK wy.t wy.e (.counts l) b).length]?
    rw [e1, e2, List.append_assoc, List.append_assoc, at_app, at_app]
    intro z
    have z2 : ((plainL wy.t wy.e).take l.toNat).getD (ls.length % (l.toNat - 1)) 0 = ((plainL wy.t wy.e).take l.toNat).getD (ls.length % (l.toNat - 1) + 1) 0 := Option.some.inj z
    have nd : ((plainL wy.t wy.e).take l.toNat).Nodup := (List.take_sublist _ _).nodup (plain_nodup _ _)
    have lcn : ((plainL wy.t wy.e).take l.toNat).length = (l.toNat - 1) + 1 := by
      have np := plain_len ok.e0 ok.e1
      rw [List.length_take]
      omega
    have lm := Nat.mod_lt ls.length w0
    rw [List.getD_eq_getElem?_getD, List.getD_eq_getElem?_getD, List.getElem?_eq_getElem (by omega), List.getElem?_eq_getElem (by omega), Option.getD_some, Option.getD_some] at z2
    have z3 := List.pairwise_iff_getElem.mp nd (ls.length % (l.toNat - 1)) (ls.length % (l.toNat - 1) + 1) (by omega) (by omega) (by omega)
    exact z3 z2
  | ranks => exact absurd rfl nr
end Esc

namespace Esc
open PySem PySem.Spec PyProof.Rows L2
/-! ### the first figure of ranks that go on -/
theorem rankD_cons (n : Nat) (d : Nat) : ∀ (k : Nat) (ds : List Nat), ds.length = k → rankD n (d :: ds) = (d + 1) * n ^ k + rankD n ds
  | 0, ds, h => by
    rw [List.length_eq_zero_iff.mp h]
    show 0 * n + d + 1 = (d + 1) * 1 + 0
    omega
  | k + 1, ds, h => by
    rcases List.eq_nil_or_concat ds with z | ⟨c, s, z⟩
    · rw [z] at h
      cases h
    · rw [List.concat_eq_append] at z
      subst z
      rw [List.length_append, List.length_singleton] at h
      have ih := rankD_cons n d k c (by omega)
      rw [← List.cons_append, rankD_snoc, rankD_snoc, ih, Nat.pow_succ, Nat.add_mul, Nat.mul_assoc]
      omega
/-- bounds of a rank by its first figure: with b figures, G = (b - 1) * rank + 1 -/
theorem rank_up1 {m : Nat} : ∀ (k : Nat) (ds : List Nat), ds.length = k → (∀ d ∈ ds, d < m + 1) → (m + 1) ^ k ≤ m * rankD (m + 1) ds + 1 ∧ m * rankD (m + 1) ds + (m + 1) ≤ (m + 1) * (m + 1) ^ k
  | 0, ds, h, _ => by
    rw [List.length_eq_zero_iff.mp h]
    show 1 ≤ m * 0 + 1 ∧ m * 0 + (m + 1) ≤ (m + 1) * 1
    omega
  | k + 1, ds, h, hd => by
    rcases List.eq_nil_or_concat ds with z | ⟨c, s, z⟩
    · rw [z] at h
      cases h
    · rw [List.concat_eq_append] at z
      subst z
      rw [List.length_append, List.length_singleton] at h
      have ih := rank_up1 k c (by omega) (fun d hd1 => hd d (List.mem_append_left _ hd1))
      have hs := hd s (List.mem_append_right _ (List.mem_singleton_self _))
      rw [rankD_snoc]
      generalize rankD (m + 1) c = r at *
      have e1 : m * (r * (m + 1) + s + 1) = (m * r) * (m + 1) + m * s + m := by
        rw [Nat.mul_add, Nat.mul_add, Nat.mul_assoc]
        omega
      have e2 : m * s ≤ m * m := Nat.mul_le_mul_left m (by omega)
      have e3 := Nat.mul_le_mul_right (m + 1) ih.1
      have e4 := Nat.mul_le_mul_right (m + 1) ih.2
      rw [Nat.pow_succ, ← Nat.mul_assoc]
      generalize (m + 1) ^ k = B at *
      generalize (m * r) = y at *
      rw [e1]
      generalize B * (m + 1) = B1 at *
      have e5 : (y + 1) * (m + 1) = y * (m + 1) + m + 1 := by rw [Nat.add_mul]; omega
      have e6 : (y + (m + 1)) * (m + 1) = y * (m + 1) + m * m + m + m + 1 := by
        rw [Nat.add_mul, Nat.mul_add (m + 1), Nat.add_mul]
        omega
      generalize (m + 1) * B * (m + 1) = B2 at *
      generalize y * (m + 1) = y1 at *
      generalize m * s = ms at *
      generalize m * m = mm at *
      omega
/-- G of a rank with the first figure d -/
theorem first_fig {m d : Nat} {ds : List Nat} (h : ∀ x ∈ d :: ds, x < m + 1) : ((m * (d + 1) + 1) * (m + 1) ^ ds.length ≤ m * rankD (m + 1) (d :: ds) + 1) ∧ m * rankD (m + 1) (d :: ds) + 1 < (m * (d + 1) + 1) * (m + 1) ^ ds.length + m * (m + 1) ^ ds.length + 1 - m ∧ 1 ≤ ds.length + 1 := by
  have z := rank_up1 ds.length ds rfl (fun x hx => h x (List.mem_cons_of_mem _ hx))
  rw [rankD_cons (m + 1) d _ ds rfl]
  have e : m * ((d + 1) * (m + 1) ^ ds.length + rankD (m + 1) ds) = (m * (d + 1)) * (m + 1) ^ ds.length + m * rankD (m + 1) ds := by rw [Nat.mul_add, Nat.mul_assoc]
  rw [e, Nat.add_mul (m * (d + 1)) 1, Nat.one_mul]
  have e2 : (m + 1) * (m + 1) ^ ds.length = m * (m + 1) ^ ds.length + (m + 1) ^ ds.length := by rw [Nat.add_mul, Nat.one_mul]
  rw [e2] at z
  generalize (m * (d + 1)) * (m + 1) ^ ds.length = x at *
  generalize m * rankD (m + 1) ds = r at *
  generalize m * (m + 1) ^ ds.length = y at *
  generalize (m + 1) ^ ds.length = B at *
  omega
end Esc

namespace Esc
open PySem PySem.Spec PyProof.Rows L2
theorem pow_tri (b n n' : Nat) (h : 1 ≤ b) : (b ^ n' ≤ b ^ n) ∨ n' = n + 1 ∨ b * b * b ^ n ≤ b ^ n' := by
  by_cases c : n' ≤ n
  · exact .inl (Nat.pow_le_pow_right h c)
  · by_cases c2 : n' = n + 1
    · exact .inr (.inl c2)
    · refine .inr (.inr ?_)
      have z : b ^ (n + 2) ≤ b ^ n' := Nat.pow_le_pow_right h (by omega)
      rw [Nat.pow_succ, Nat.pow_succ] at z
      rw [Nat.mul_comm (b * b), ← Nat.mul_assoc]
      exact z
theorem arith1 {m x B x' B' G G' c : Nat} (m2 : 2 ≤ m) (m14 : m ≤ 14) (hx : (m + 1) * B ≤ x) (hB : 1 ≤ B) (h1 : x ≤ G) (h2 : G < x + m * B + 1 - m) (h3 : x' ≤ G') (h4 : G' < x' + m * B' + 1 - m) (e : G' + (m + 1) = (m + 2) * G + m * c) (c2 : 2 ≤ c) (c3 : c ≤ m + 2) :
    ¬ (B' ≤ B ∧ x' ≤ x) ∧ ¬ ((m + 1) * (m + 1) * B ≤ B' ∧ (m + 1) * (m + 1) * x ≤ x') := by
  obtain rfl | rfl | rfl | rfl | rfl | rfl | rfl | rfl | rfl | rfl | rfl | rfl | rfl : m = 2 ∨ m = 3 ∨ m = 4 ∨ m = 5 ∨ m = 6 ∨ m = 7 ∨ m = 8 ∨ m = 9 ∨ m = 10 ∨ m = 11 ∨ m = 12 ∨ m = 13 ∨ m = 14 := by omega
  all_goals exact ⟨fun ⟨p, q⟩ => by omega, fun ⟨p, q⟩ => by omega⟩
theorem twice {m : Nat} (m2 : 2 ≤ m) (m14 : m ≤ 14) : 2 * (m + 1) ^ (m + 1) ≤ (m + 2) ^ (m + 1) := by
  obtain rfl | rfl | rfl | rfl | rfl | rfl | rfl | rfl | rfl | rfl | rfl | rfl | rfl : m = 2 ∨ m = 3 ∨ m = 4 ∨ m = 5 ∨ m = 6 ∨ m = 7 ∨ m = 8 ∨ m = 9 ∨ m = 10 ∨ m = 11 ∨ m = 12 ∨ m = 13 ∨ m = 14 := by omega
  all_goals decide +kernel
/-- figures that stay for ever there are none -/
theorem figs_go {m c d : Nat} (m1 : 1 ≤ m) (m14 : m ≤ 14) (c2 : 2 ≤ c) (c3 : c ≤ m + 2) (hd : d ≤ m) (F : Nat → Nat) (hF : ∀ k, F (k + 1) = F k * (m + 2) + c)
    (h : ∀ k, k ≤ 16 → ∃ n, (m * (d + 1) + 1) * (m + 1) ^ n ≤ m * F k + 1 ∧ m * F k + 1 < (m * (d + 1) + 1) * (m + 1) ^ n + m * (m + 1) ^ n + 1 - m) : False := by
  have hG : ∀ k, m * F (k + 1) + 1 + (m + 1) = (m + 2) * (m * F k + 1) + m * c := fun k => by
    rw [hF k, Nat.mul_add, Nat.mul_add (m + 2), ← Nat.mul_assoc, Nat.mul_comm (m * F k)]
    omega
  generalize hGd : (fun k => m * F k + 1) = G at *
  have g1 : ∀ k, m * F k + 1 = G k := fun k => by rw [← hGd]
  simp only [g1] at h hG
  clear g1 hGd hF
  have a1 : m + 1 ≤ m * (d + 1) + 1 := by
    rw [Nat.mul_add]
    omega
  by_cases mm : m = 1
  · subst mm
    obtain ⟨n0, p0, q0⟩ := h 0 (by omega)
    obtain ⟨n1, p1, q1⟩ := h 1 (by omega)
    obtain ⟨n2, p2, q2⟩ := h 2 (by omega)
    have e0 := hG 0
    have e1 := hG 1
    have t0 := pow_tri (1 + 1) n0 n1 (by omega)
    have t1 := pow_tri (1 + 1) n1 n2 (by omega)
    have b0 : 1 ≤ (1 + 1) ^ n0 := Nat.one_le_pow _ _ (by omega)
    have b1 : 1 ≤ (1 + 1) ^ n1 := Nat.one_le_pow _ _ (by omega)
    have s0 : n1 = n0 + 1 → (1 + 1) ^ n1 = (1 + 1) ^ n0 * 2 := fun z => by rw [z, Nat.pow_succ]
    have s1 : n2 = n1 + 1 → (1 + 1) ^ n2 = (1 + 1) ^ n1 * 2 := fun z => by rw [z, Nat.pow_succ]
    have t0' : (1 + 1) ^ n1 ≤ (1 + 1) ^ n0 ∨ (1 + 1) ^ n1 = (1 + 1) ^ n0 * 2 ∨ (1 + 1) * (1 + 1) * (1 + 1) ^ n0 ≤ (1 + 1) ^ n1 := t0.imp id (Or.imp s0 id)
    have t1' : (1 + 1) ^ n2 ≤ (1 + 1) ^ n1 ∨ (1 + 1) ^ n2 = (1 + 1) ^ n1 * 2 ∨ (1 + 1) * (1 + 1) * (1 + 1) ^ n1 ≤ (1 + 1) ^ n2 := t1.imp id (Or.imp s1 id)
    clear t0 t1 s0 s1
    generalize (1 + 1) ^ n0 = B0 at *
    generalize (1 + 1) ^ n1 = B1 at *
    generalize (1 + 1) ^ n2 = B2 at *
    obtain rfl | rfl : d = 0 ∨ d = 1 := by omega
    all_goals
      simp only [Nat.zero_add] at e0 e1
      generalize G 0 = G0 at *
      generalize G 1 = G1 at *
      generalize G 2 = G2 at *
      omega
  · have m2 : 2 ≤ m := by omega
    generalize hα : m * (d + 1) + 1 = α at *
    have step : ∀ k n n', k ≤ 15 → α * (m + 1) ^ n ≤ G k → G k < α * (m + 1) ^ n + m * (m + 1) ^ n + 1 - m → α * (m + 1) ^ n' ≤ G (k + 1) → G (k + 1) < α * (m + 1) ^ n' + m * (m + 1) ^ n' + 1 - m → n' = n + 1 := by
      intro k n n' _ u1 u2 u3 u4
      have hB : 1 ≤ (m + 1) ^ n := Nat.one_le_pow _ _ (by omega)
      have ar := arith1 m2 m14 (Nat.mul_le_mul_right _ a1) hB u1 u2 u3 u4 (hG k) c2 c3
      rcases pow_tri (m + 1) n n' (by omega) with z | z | z
      · exact absurd ⟨z, Nat.mul_le_mul_left _ z⟩ ar.1
      · exact z
      · refine absurd ⟨z, ?_⟩ ar.2
        have := Nat.mul_le_mul_left α z
        rw [Nat.mul_comm ((m + 1) * (m + 1)) (α * _), Nat.mul_assoc, Nat.mul_comm _ ((m + 1) * (m + 1))]
        exact this
    obtain ⟨n0, p0, q0⟩ := h 0 (by omega)
    have all : ∀ k, k ≤ 15 → α * (m + 1) ^ (n0 + k) ≤ G k ∧ G k < α * (m + 1) ^ (n0 + k) + m * (m + 1) ^ (n0 + k) + 1 - m ∧ (m + 2) ^ k * G 0 ≤ G k := by
      intro k
      induction k with
      | zero =>
        intro _
        exact ⟨p0, q0, by rw [Nat.pow_zero, Nat.one_mul]; exact Nat.le_refl _⟩
      | succ k ih =>
        intro hk
        obtain ⟨u1, u2, u3⟩ := ih (by omega)
        obtain ⟨n', v1, v2⟩ := h (k + 1) (by omega)
        have e := step k (n0 + k) n' (by omega) u1 u2 v1 v2
        subst e
        refine ⟨v1, v2, ?_⟩
        have g := hG k
        have z := Nat.mul_le_mul_left (m + 2) u3
        rw [Nat.pow_succ, Nat.mul_comm ((m + 2) ^ k), Nat.mul_assoc]
        have mc : m * 2 ≤ m * c := Nat.mul_le_mul_left m c2
        generalize (m + 2) * ((m + 2) ^ k * G 0) = y at *
        generalize (m + 2) * G k = y2 at *
        omega
    obtain ⟨u1, u2, u3⟩ := all (m + 1) (by omega)
    have tw := twice m2 m14
    have w1 := Nat.mul_le_mul_left ((m + 2) ^ (m + 1)) p0
    have w2 := Nat.mul_le_mul_right (α * (m + 1) ^ n0) tw
    have w3 := Nat.mul_le_mul_left ((m + 1) ^ (m + 1)) (Nat.mul_le_mul_right ((m + 1) ^ n0) a1)
    have r1 : α * (m + 1) ^ (n0 + (m + 1)) = (m + 1) ^ (m + 1) * (α * (m + 1) ^ n0) := by
      rw [Nat.pow_add, ← Nat.mul_assoc, Nat.mul_comm]
    have r2 : m * (m + 1) ^ (n0 + (m + 1)) = m * ((m + 1) ^ (m + 1) * (m + 1) ^ n0) := by
      rw [Nat.pow_add, Nat.mul_comm ((m + 1) ^ n0)]
    have r3 : (m + 1) ^ (m + 1) * ((m + 1) * (m + 1) ^ n0) = m * ((m + 1) ^ (m + 1) * (m + 1) ^ n0) + (m + 1) ^ (m + 1) * (m + 1) ^ n0 := by
      rw [Nat.mul_left_comm, Nat.add_mul, Nat.one_mul]
    have r4 : 2 * (m + 1) ^ (m + 1) * (α * (m + 1) ^ n0) = 2 * ((m + 1) ^ (m + 1) * (α * (m + 1) ^ n0)) := Nat.mul_assoc _ _ _
    rw [r1, r2] at u2
    rw [r3] at w3
    rw [r4] at w2
    generalize (m + 1) ^ (m + 1) * (α * (m + 1) ^ n0) = X at *
    generalize m * ((m + 1) ^ (m + 1) * (m + 1) ^ n0) = Y at *
    generalize (m + 1) ^ (m + 1) * (m + 1) ^ n0 = Y1 at *
    omega
end Esc

namespace Esc
open PySem PySem.Spec PyProof.Rows L2
theorem rank_ne {n : Nat} {ds : List Nat} (h : ds ≠ []) : rankD n ds ≠ 0 := by
  rcases List.eq_nil_or_concat ds with z | ⟨c, s, z⟩
  · exact absurd z h
  · rw [List.concat_eq_append] at z
    subst z
    rw [rankD_snoc]
    omega
/-- the first figure of a rank that is none -/
theorem fig_of {t e : Int} (h3 : 3 ≤ t) (h0 : 0 ≤ e) (h1 : e < t) {tb : List Int} (hn : tb ≠ []) : ∃ (d : Nat) (ds : List Nat), rowD (plainL t e).length (rankD t.toNat (digits (countL t) tb)) = d :: ds ∧ (∀ x ∈ d :: ds, x < (plainL t e).length) ∧ rankD (plainL t e).length (d :: ds) = rankD t.toNat (digits (countL t) tb) ∧ (rowR t e tb)[0]? = some ((plainL t e).getD d 0) := by
  have np := plain_len h0 h1
  have nz : rankD t.toNat (digits (countL t) tb) ≠ 0 := rank_ne (fun z => hn (by unfold digits at z; exact List.map_eq_nil_iff.mp z))
  have rr := rank_row (n := (plainL t e).length) (rankD t.toNat (digits (countL t) tb))
  have lt := row_lt (n := (plainL t e).length) (by omega) (rankD t.toNat (digits (countL t) tb))
  unfold rowR letters
  cases hd : rowD (plainL t e).length (rankD t.toNat (digits (countL t) tb)) with
  | nil =>
    rw [hd] at rr
    exact absurd rr.symm nz
  | cons d ds =>
    rw [hd] at rr lt
    exact ⟨d, ds, rfl, lt, rr, rfl⟩
theorem count_idx {t x : Int} (h : 0 ≤ x ∧ x < t) : (countL t).idxOf x < t.toNat ∧ ((countL t).idxOf x = 0 → x = 0) := by
  have m := count_mem.mpr h
  have l := List.idxOf_lt_length_of_mem m
  refine ⟨by rw [count_len] at l; exact l, fun z => ?_⟩
  have g := List.getElem_idxOf l
  have q : (countL t)[(countL t).idxOf x]? = some x := by rw [List.getElem?_eq_getElem l, g]
  rw [z] at q
  unfold countL at q
  rw [List.getElem?_map, List.getElem?_range (by omega)] at q
  have q2 : ((0 : Nat) : Int) = x := Option.some.inj q
  omega
theorem ranks_unlike (wy : Way) (ok : wy.Ok) (hk : wy.k = .ranks) (body : List Int) (hb : ∀ x ∈ body, 0 ≤ x ∧ x < wy.t) :
    ∃ (z : Int) (k : Nat), (z = 0 ∨ z = wy.t - 1) ∧ 1 ≤ k ∧ k ≤ 16 ∧ (frameW wy body)[0]? ≠ (frameW wy (body ++ List.replicate k z))[0]? := by
  have h3 := ok.t3
  have h16 := ok.t16
  have np := plain_len ok.e0 ok.e1
  have nd := plain_nodup wy.t wy.e
  have fr : ∀ b, b ≠ [] → (∀ x ∈ b, 0 ≤ x ∧ x < wy.t) → ∃ (d : Nat) (ds : List Nat), (∀ x ∈ d :: ds, x < (plainL wy.t wy.e).length) ∧ rankD (plainL wy.t wy.e).length (d :: ds) = rankD wy.t.toNat (digits (countL wy.t) (turnL wy.ts b)) ∧ (frameW wy b)[0]? = some ((plainL wy.t wy.e).getD d 0) := fun b hn hb => by
    have tn : turnL wy.ts b ≠ [] := fun z => by
      have l := (turnL_ok wy.ts ok.perm b hb).2
      rw [z] at l
      exact hn (List.length_eq_zero_iff.mp l.symm)
    obtain ⟨d, ds, _, u2, u3, u4⟩ := fig_of h3 ok.e0 ok.e1 tn
    refine ⟨d, ds, u2, u3, ?_⟩
    unfold frameW
    rw [hk]
    show (rowR wy.t wy.e (turnL wy.ts b) ++ [wy.e])[0]? = _
    rw [List.getElem?_append_left, u4]
    exact (List.getElem?_eq_some_iff.mp u4).1
  have rin : ∀ (k : Nat) (z : Int), (z = 0 ∨ z = wy.t - 1) → ∀ x ∈ body ++ List.replicate k z, 0 ≤ x ∧ x < wy.t := fun k z hz x hx => by
    rcases List.mem_append.mp hx with m | m
    · exact hb x m
    · rw [(List.mem_replicate.mp m).2]
      rcases hz with rfl | rfl <;> omega
  by_cases e0 : body = []
  · subst e0
    refine ⟨0, 1, .inl rfl, Nat.le_refl _, by decide, ?_⟩
    obtain ⟨d, ds, u2, _, u4⟩ := fr ([] ++ List.replicate 1 0) (by simp) (rin 1 0 (.inl rfl))
    rw [u4]
    have dl := u2 d List.mem_cons_self
    have pm : (plainL wy.t wy.e).getD d 0 ≠ wy.e := by
      rw [List.getD_eq_getElem?_getD, List.getElem?_eq_getElem dl, Option.getD_some]
      exact (plain_mem.mp (List.getElem_mem dl)).2.2
    have e1 : (frameW wy [])[0]? = some wy.e := by
      unfold frameW
      rw [hk, show turnL wy.ts [] = [] from List.length_eq_zero_iff.mp (turnL_ok wy.ts ok.perm [] (fun x hx => by cases hx)).2]
      show (rowR wy.t wy.e [] ++ [wy.e])[0]? = _
      have e2 : rowR wy.t wy.e [] = [] := by
        show letters _ (rowD _ 0) = []
        rw [rowD_zero]
        rfl
      rw [e2]
      rfl
    rw [e1]
    intro z
    exact pm (Option.some.inj z).symm
  · refine Classical.byContradiction fun non => ?_
    have eqs : ∀ (z : Int) (k : Nat), (z = 0 ∨ z = wy.t - 1) → k ≤ 16 → (frameW wy (body ++ List.replicate k z))[0]? = (frameW wy body)[0]? := fun z k hz h16 => by
      by_cases k0 : k = 0
      · rw [k0, List.replicate_zero, List.append_nil]
      · refine Classical.byContradiction fun ne => non ⟨z, k, hz, by omega, h16, fun q => ne q.symm⟩
    obtain ⟨a0, ha0⟩ := turnL_rep wy.ts 0 0
    obtain ⟨a1, ha1⟩ := turnL_rep wy.ts (wy.t - 1) 0
    have in0 := (turnL_ok wy.ts ok.perm [0] (fun x hx => by rw [List.mem_singleton.mp hx]; omega)).1
    have in1 := (turnL_ok wy.ts ok.perm [wy.t - 1] (fun x hx => by rw [List.mem_singleton.mp hx]; omega)).1
    have t0 : turnL wy.ts [0] = [a0] := ha0 1
    have t1 : turnL wy.ts [wy.t - 1] = [a1] := ha1 1
    rw [t0] at in0
    rw [t1] at in1
    have ne01 : a0 ≠ a1 := fun z => by
      have b0 := backL_turnL wy.ts ok.perm [0] (fun x hx => by rw [List.mem_singleton.mp hx]; omega)
      have b1 := backL_turnL wy.ts ok.perm [wy.t - 1] (fun x hx => by rw [List.mem_singleton.mp hx]; omega)
      rw [t0, z, ← t1, b1] at b0
      have := (List.cons.inj b0).1
      omega
    obtain ⟨z, a, hz, hat, ain, ane⟩ : ∃ z a, (z = 0 ∨ z = wy.t - 1) ∧ (∀ m, turnL wy.ts (List.replicate m z) = List.replicate m a) ∧ (0 ≤ a ∧ a < wy.t) ∧ a ≠ 0 := by
      by_cases c : a0 = 0
      · exact ⟨_, a1, .inr rfl, ha1, in1 a1 (List.mem_singleton_self _), fun q => ne01 (c.trans q.symm)⟩
      · exact ⟨_, a0, .inl rfl, ha0, in0 a0 (List.mem_singleton_self _), c⟩
    obtain ⟨ci, cz⟩ := count_idx ain
    obtain ⟨d, ds, u2, u3, u4⟩ := fr body e0 hb
    obtain ⟨m, hm⟩ : ∃ m, (plainL wy.t wy.e).length = m + 1 := ⟨(plainL wy.t wy.e).length - 1, by omega⟩
    have htm : wy.t.toNat = m + 2 := by omega
    have dl := u2 d List.mem_cons_self
    refine figs_go (m := m) (c := (countL wy.t).idxOf a + 1) (d := d) (by omega) (by omega) ?_ (by omega) (by omega) (fun k => rankD wy.t.toNat (digits (countL wy.t) (turnL wy.ts (body ++ List.replicate k z)))) (fun k => ?_) (fun k hk16 => ?_)
    · have : (countL wy.t).idxOf a ≠ 0 := fun q => ane (cz q)
      omega
    · rw [turnL_app, turnL_app, hat, hat, List.replicate_succ', ← List.append_assoc]
      unfold digits
      rw [List.map_append, List.map_cons, List.map_nil, rankD_snoc, htm]
      omega
    · obtain ⟨d', ds', v2, v3, v4⟩ := fr (body ++ List.replicate k z) (by simp [e0]) (rin k z hz)
      have eq := eqs z k hz hk16
      rw [v4, u4] at eq
      have dl' := v2 d' List.mem_cons_self
      have eq2 := Option.some.inj eq
      rw [List.getD_eq_getElem?_getD, List.getD_eq_getElem?_getD, List.getElem?_eq_getElem dl, List.getElem?_eq_getElem dl', Option.getD_some, Option.getD_some] at eq2
      have edd := (List.getElem_inj nd).mp eq2
      subst edd
      rw [hm] at v2 v3
      have ff := first_fig v2
      rw [v3] at ff
      exact ⟨ds'.length, ff.1, ff.2.1⟩
end Esc

namespace Esc
open PySem PySem.Spec PyProof.Rows L2
section
variable {P : Program} {w : World} {K : PySem.W.Frag} {mg : Str → Option Value} {base : Heap}
def isPieces : Int → Int → Kind → Prop := fun _ _ k => (∃ cs, k = .codes cs) ∨ ∃ m prs, k = .escapes m prs
theorem frameW_plain {t e : Int} {k : Kind} {body : List Int} : frameW ⟨[], t, e, k⟩ body = rowOf t e k body ++ [e] := rfl
theorem c_certain_pieces (c_frame_of : C8.Cal P w K mg base 3 "frame_of" (spFrameW K) []) (d : Dd K mg "certain_pieces" s_certain_pieces P_certain_pieces) : C8.Cal P w K mg base 4 "certain_pieces" (spByK K isPieces certK) [] := by
  refine d.cal sc_certain_pieces (fun vs H Q E h => ?_) (fun f cdv A outer s H vs Q E hr h => ?_)
  · obtain ⟨p, b, t, e, k, body, rfl, _⟩ := h
    rfl
  · obtain ⟨p, b, t, e, k, body, rfl, hg, hp, hk, h3, h16, h0, h1, hb, hin, hlen, q⟩ := h
    have nd := sc_certain_pieces.nd
    refine ⟨_, (pss_one (ps_ret (pe_slice sl_list (C8.pe_c c_frame_of hr (by decide) (by rfl) (pa_cons (pv 0) (pa_cons (pv 1) pa_nil))) po_none (po_some (pe_un un_neg pe_int))))), ?_⟩
    refine i_start (σ' := [some (.ref p), some (.ref b)]) rfl ?_
    walk_at "go"
    walk_at "r"
    refine ⟨.ref p, b, ⟨[], t, e, k⟩, body, rfl, ⟨[], p, rfl, rfl, hp⟩, ⟨Nat.zero_le _, h3, h16, h0, h1, hk, fun p m => by cases m⟩, hb, hin, hlen, fun q1 H1 hq1 s1 e1 => ?_⟩
    rw [frameW_plain, List.map_append] at e1
    walk_at "r"
    refine i_slL (sl_of e1) (fun q2 H2 hq2 s2 e2 => ?_)
    rw [show List.map V.int [e] = [V.int e] from rfl, cut_butlast] at e2
    refine q q2 H2 (s1.free hq2) (s1.trans s2) ?_
    rw [e2]
    rcases hg with ⟨cs, rfl⟩ | ⟨m, prs, rfl⟩ <;> rfl
theorem c_certain_figures (d : Dd K mg "certain_figures" s_certain_figures P_certain_figures) : C8.Cal P w K mg base 1 "certain_figures" (spByK K isRanks certK) [] := by
  refine d.cal sc_certain_figures (fun vs H Q E h => ?_) (fun f cdv A outer s H vs Q E hr h => ?_)
  · obtain ⟨p, b, t, e, k, body, rfl, _⟩ := h
    rfl
  · obtain ⟨p, b, t, e, k, body, rfl, hg, hp, hk, h3, h16, h0, h1, hb, hin, hlen, q⟩ := h
    have nd := sc_certain_figures.nd
    have hg : k = .ranks := hg
    subst hg
    refine ⟨_, (pss_one (ps_ret (pe_lst pa_nil))), ?_⟩
    refine i_start (σ' := [some (.ref p), some (.ref b)]) rfl ?_
    walk_at "go"
    walk_at "r"
    exact i_lst (Nat.zero_le _) (fun q1 H1 hq1 s1 e1 => q q1 H1 hq1 s1 e1)
theorem c_certain_groups (Z : Blt mg) (c_plain_signs : C8.Cal P w K mg base 1 "plain_signs" spPlain []) (c_rows_between : C8.Cal P w K mg base 1 "rows_between" (spRows K) []) (c_grouped : C8.Cal P w K mg base 1 "grouped" (spGroup K) []) (d : Dd K mg "certain_groups" s_certain_groups P_certain_groups) : C8.Cal P w K mg base 2 "certain_groups" (spByK K isCounts certK) [] := by
  refine d.cal sc_certain_groups (fun vs H Q E h => ?_) (fun f cdv A outer s H vs Q E hr h => ?_)
  · obtain ⟨p, b, t, e, k, body, rfl, _⟩ := h
    rfl
  · obtain ⟨p, b, t, e, k, body, rfl, ⟨l, rfl⟩, hp, ⟨hl2, hlt⟩, h3, h16, h0, h1, hb, hin, hlen, q⟩ := h
    have hp : SqT K H p [.str "counts", .int t, .int e, .int l] := hp
    have nd := sc_certain_groups.nd
    have np := plain_len h0 h1
    have hw1 : 1 ≤ l.toNat - 1 := by omega
    have lcn : ((plainL t e).take l.toNat).length = (l.toNat - 1) + 1 := by
      rw [List.length_take]
      omega
    obtain ⟨rs, ls, hrows, hsum⟩ := rowsB_all e body
    have gl : ∀ x, (groupB ((plainL t e).take l.toNat) (l.toNat - 1) x).length ≤ 2 * x.length + 1 := fun x => groupB_len hw1 _ x rfl
    have ltot : (rs.flatMap (groupB ((plainL t e).take l.toNat) (l.toNat - 1))).length ≤ 3001 := by
      have z := flat_len gl rs
      omega
    have lls : ls.length ≤ 200 := by omega
    refine ⟨_, (pss_cons (ps_asg (pv 0) (pg_tup rfl (pgs_cons (pg_name (i := 2) nd rfl (Or.inl rfl)) (pgs_cons (pg_name (i := 3) nd rfl (Or.inl rfl)) (pgs_cons (pg_name (i := 4) nd rfl (Or.inl rfl)) (pgs_cons (pg_name (i := 5) nd rfl (Or.inl rfl)) pgs_nil))))))
  (pss_cons (ps_set (i := 6) nd rfl (Or.inl rfl) (pe_slice sl_list (C8.pe_c c_plain_signs hr (by decide) (by rfl) (pa_cons (pv 3) (pa_cons (pv 4) pa_nil))) po_none (po_some (pv 5))))
  (pss_cons (ps_set (i := 7) nd rfl (Or.inl rfl) (C8.pe_c c_rows_between hr (by decide) (by rfl) (pa_cons (pv 1) (pa_cons (pv 4) pa_nil))))
  (pss_cons (ps_set (i := 8) nd rfl (Or.inl rfl) (pe_lst pa_nil))
  (pss_cons (ps_for PassesOwn.never rfl (pi_list (pe_slice sl_list (pv 7) po_none (po_some (pe_un un_neg pe_int)))) (pg_name (i := 9) nd rfl (Or.inl rfl))
    (pss_one (ps_expr (pe_bm PySem.F.plainAttrs_list PySem.F.slot_list_extend PySem.F.type_list_extend mt_extend (pv 8) (pa_cons (C8.pe_c c_grouped hr (by decide) (by rfl) (pa_cons (pv 9) (pa_cons (pv 6) pa_nil))) pa_nil)))))
  (pss_cons (ps_set (i := 10) nd rfl (Or.inl rfl) (pe_ix ix_list (pv 7) (pe_un un_neg pe_int) (fun _ _ => rfl)))
  (pss_cons (ps_set (i := 11) nd rfl (Or.inl rfl) (pe_op op_sub (pe_callB k_len (by rfl) Z.len_ (by decide +kernel) (pa_cons (pv 10) pa_nil)) (pe_op op_mod (pe_callB k_len (by rfl) Z.len_ (by decide +kernel) (pa_cons (pv 10) pa_nil)) (pe_op op_sub (pv 5) pe_int))))
  (pss_cons (ps_expr (pe_bm PySem.F.plainAttrs_list PySem.F.slot_list_extend PySem.F.type_list_extend mt_extend (pv 8) (pa_cons (pe_slice sl_list (C8.pe_c c_grouped hr (by decide) (by rfl) (pa_cons (pe_slice sl_list (pv 10) po_none (po_some (pv 11))) (pa_cons (pv 6) pa_nil))) po_none (po_some (pe_un un_neg pe_int))) pa_nil)))
  (pss_one (ps_ret (pv 8))))))))))), ?_⟩
    refine i_start (σ' := [some (.ref p), some (.ref b), none, none, none, none, none, none, none, none, none, none]) rfl ?_
    walk_at "go"
    walk_at "r"
    refine ⟨t, e, rfl, by omega, by omega, fun pl H1 _ s1 e1 => ?_⟩
    walk_at "r"
    refine i_slL (sl_of e1) (fun pc H2 _ s2 e2 => ?_)
    rw [show (l : Int) = ((l.toNat : Nat) : Int) by omega, cut_to, ← List.map_take] at e2
    have s02 := s1.trans s2
    walk_at "r"
    refine ⟨b, e, body, rfl, s02.seq hb, by omega, fun r as H3 _ s3 e3 hla => ?_⟩
    have s03 := s02.trans s3
    have e23 := s3 _ _ e2
    have las := hla.len
    obtain ⟨as', z, rfl, hz⟩ := snoc_of_len (las.trans (congrArg List.length hrows))
    rw [List.map_append, show List.map V.ref [z] = [V.ref z] from rfl] at e3
    walk_at "r"
    refine i_lst (Nat.zero_le _) (fun fr H4 hfr s4 e4 => ?_)
    have s04 := s03.trans s4
    walk_at "r"
    refine i_slL (sl_of (s4 _ _ e3)) (fun rb H5 hrb s5 e5 => ?_)
    rw [cut_butlast] at e5
    have e45 := s5 _ _ e4
    have s35 := s4.trans s5
    walk_at "r"
    refine i_for (sl_of e5) (fun i σ' H' => ∃ y, σ' = [some (.ref p), some (.ref b), some (.str "counts"), some (.int t), some (.int e), some (.int l), some (.ref pc), some (.ref r), some (.ref fr), y, none, none] ∧ Same H3 H' ∧ H' fr = some (.lst (((rs.take i).flatMap (groupB ((plainL t e).take l.toNat) (l.toNat - 1))).map V.int)) ∧ H' rb = some (.lst (as'.map V.ref)))
      ⟨none, rfl, s35, e45, e5⟩ (fun i σ' H' _ ⟨_, _, _, _, s6⟩ => sl_of s6) (fun i x σ' H' hi pv => ?_) (fun σ' H' pv => ?_)
    · obtain ⟨y, rfl, s6, ef, eb⟩ := pv
      obtain ⟨a, ha, rfl⟩ := ref_get hi
      have il := (List.getElem?_eq_some_iff.mp ha).1
      obtain ⟨row, hrow, har⟩ := hla.get (i := i) (a := a) (by rw [List.getElem?_append_left il]; exact ha)
      have lrow := rowsB_row e body row (List.mem_of_getElem? hrow)
      rw [hrows, List.getElem?_append_left (by omega)] at hrow
      have har5 := s6 _ _ har
      have hc5 := s6 _ _ e23
      have ltk := flat_take (f := groupB ((plainL t e).take l.toNat) (l.toNat - 1)) rs i
      have gr := gl row
      have nfb : rb ≠ fr := (ne_of_none e4 hrb).symm
      walk_at "r"
      refine ⟨a, pc, row, (plainL t e).take l.toNat, l.toNat - 1, rfl, har5, sl_of hc5, lcn, hw1, by omega, fun g H6 hg s7 e6 => ?_⟩
      have ef6 := s7 _ _ ef
      walk_at "r"
      refine i_extend ef6 e6 (sz (by rw [List.length_map, List.length_map]; omega)) ?_
      walk_at "r"
      refine ⟨_, rfl, smut (s6.trans s7) hfr, ?_, (upd_ne nfb).trans (s7 _ _ eb)⟩
      rw [upd_same, take_succ' hrow, List.flatMap_append, List.map_append, List.flatMap_cons, List.flatMap_nil, List.append_nil]
    · obtain ⟨y, rfl, s6, ef, eb⟩ := pv
      rw [List.length_map, hz, List.take_length] at ef
      have s0' := s03.trans s6
      have hfr0 := s03.free hfr
      have er := s6 _ _ e3
      obtain ⟨c, hc, ez⟩ := (hla.same s6).get (i := as'.length) (a := z) (by rw [List.getElem?_append_right (Nat.le_refl _), Nat.sub_self]; rfl)
      have ec : c = ls := by
        rw [hrows, hz, List.getElem?_append_right (Nat.le_refl _), Nat.sub_self] at hc
        exact (Option.some.inj hc).symm
      subst ec
      walk_at "r"
      refine i_ixL (sl_of er) (atI_last _ _) ?_
      walk_at "r"
      have hmod : ((c.length : Int) - (c.length : Int) % (l - 1)) = ((c.length - c.length % (l.toNat - 1) : Nat) : Int) := by
        rw [show l - 1 = ((l.toNat - 1 : Nat) : Int) by omega, ← Int.natCast_emod]
        have := Nat.mod_le c.length (l.toNat - 1)
        omega
      walk_at "r"
      rw [hmod]
      walk_at "r"
      refine i_slL (sl_of ez) (fun q7 H7 hq7 s7 e7 => ?_)
      rw [cut_to, ← List.map_take] at e7
      walk_at "r"
      refine ⟨q7, pc, _, (plainL t e).take l.toNat, l.toNat - 1, rfl, e7, sl_of (s7 _ _ (s6 _ _ e23)), lcn, hw1, by rw [List.length_take]; omega, fun g H8 hg s8 e8 => ?_⟩
      obtain ⟨pre, x, hpx⟩ : ∃ pre x, groupB ((plainL t e).take l.toNat) (l.toNat - 1) (c.take (c.length - c.length % (l.toNat - 1))) = pre ++ [x] := by
        rcases List.eq_nil_or_concat (groupB ((plainL t e).take l.toNat) (l.toNat - 1) (c.take (c.length - c.length % (l.toNat - 1)))) with z | ⟨pre, x, z⟩
        · have := groupB_pos ((plainL t e).take l.toNat) (l.toNat - 1) (c.take (c.length - c.length % (l.toNat - 1)))
          rw [z] at this
          exact absurd this (by decide)
        · exact ⟨pre, x, by rw [z, List.concat_eq_append]⟩
      have glen := gl (c.take (c.length - c.length % (l.toNat - 1)))
      rw [hpx, List.length_append, List.length_take] at glen
      rw [hpx, List.map_append, show List.map V.int [x] = [V.int x] from rfl] at e8
      walk_at "r"
      refine i_slL (sl_of e8) (fun q9 H9 hq9 s9 e9 => ?_)
      rw [cut_butlast] at e9
      have ef9 := s9 _ _ (s8 _ _ (s7 _ _ ef))
      walk_at "r"
      refine i_extend ef9 e9 (sz (by rw [List.length_map, List.length_map]; omega)) ?_
      walk_at "r"
      refine q fr _ hfr0 (smut (((s0'.trans s7).trans s8).trans s9) hfr0) ?_
      rw [upd_same, cnt_parts hl2 hrows, hpx, List.dropLast_concat, List.map_append]
structure Certains (P : Program) (w : World) (K : PySem.W.Frag) (mg : Str → Option Value) (base : Heap) (pF : Addr) : Prop where
  codes : ∃ f, mg "certain_pieces" = some (.ref f) ∧ KDct K w pF "codes" (.ref f) ∧ C8.Cal P w K mg base 4 "certain_pieces" (spByK K isPieces certK) []
  escapes : ∃ f, mg "certain_pieces" = some (.ref f) ∧ KDct K w pF "escapes" (.ref f) ∧ C8.Cal P w K mg base 4 "certain_pieces" (spByK K isPieces certK) []
  counts : ∃ f, mg "certain_groups" = some (.ref f) ∧ KDct K w pF "counts" (.ref f) ∧ C8.Cal P w K mg base 2 "certain_groups" (spByK K isCounts certK) []
  ranks : ∃ f, mg "certain_figures" = some (.ref f) ∧ KDct K w pF "ranks" (.ref f) ∧ C8.Cal P w K mg base 1 "certain_figures" (spByK K isRanks certK) []
theorem Certains.of {pF : Addr} (F : Certains P w K mg base pF) (k : Kind) : ∃ (fa : Addr) (sp : Sp), Held P w K mg base 4 fa sp ∧ KDct K w pF k.name (.ref fa) ∧
    ∀ (p b : Addr) (t e : Int) (body : List Int) H Q E, KindAt K H p t e k → KindOk t e k → 3 ≤ t → t ≤ 16 → 0 ≤ e → e < t → SqL K H b (body.map V.int) → (∀ x ∈ body, 0 ≤ x ∧ x < t) → body.length ≤ 200 →
      (∀ q H', H q = none → Same H H' → H' q = some (.lst ((certK t e k body).map V.int)) → Q (.ref q) H') → sp [.ref p, .ref b] H Q E := by
  cases k with
  | codes cs =>
    obtain ⟨f, h1, h2, c⟩ := F.codes
    exact ⟨f, _, held_of c h1 (by decide), h2, fun p b t e body H Q E a1 a2 a3 a4 a5 a6 a7 a8 a9 q => ⟨p, b, t, e, _, body, rfl, .inl ⟨cs, rfl⟩, a1, a2, a3, a4, a5, a6, a7, a8, a9, q⟩⟩
  | escapes m prs =>
    obtain ⟨f, h1, h2, c⟩ := F.escapes
    exact ⟨f, _, held_of c h1 (by decide), h2, fun p b t e body H Q E a1 a2 a3 a4 a5 a6 a7 a8 a9 q => ⟨p, b, t, e, _, body, rfl, .inr ⟨m, prs, rfl⟩, a1, a2, a3, a4, a5, a6, a7, a8, a9, q⟩⟩
  | counts l =>
    obtain ⟨f, h1, h2, c⟩ := F.counts
    exact ⟨f, _, held_of c h1 (by decide), h2, fun p b t e body H Q E a1 a2 a3 a4 a5 a6 a7 a8 a9 q => ⟨p, b, t, e, _, body, rfl, ⟨l, rfl⟩, a1, a2, a3, a4, a5, a6, a7, a8, a9, q⟩⟩
  | ranks =>
    obtain ⟨f, h1, h2, c⟩ := F.ranks
    exact ⟨f, _, held_of c h1 (by decide), h2, fun p b t e body H Q E a1 a2 a3 a4 a5 a6 a7 a8 a9 q => ⟨p, b, t, e, _, body, rfl, rfl, a1, a2, a3, a4, a5, a6, a7, a8, a9, q⟩⟩
def spCertW (K : PySem.W.Frag) : Sp := fun vs H Q _ => ∃ (v : V) (b : Addr) (wy : Way) (body : List Int), vs = [v, .ref b] ∧ WayAt K H v wy ∧ wy.Ok ∧ SqL K H b (body.map V.int) ∧ (∀ x ∈ body, 0 ≤ x ∧ x < wy.t) ∧ body.length ≤ 200 ∧
  ∀ q H', H q = none → Same H H' → H' q = some (.lst ((certW wy body).map V.int)) → Q (.ref q) H'
theorem c_certain_of {pF : Addr} (m_CERTAIN : GR mg "CERTAIN" pF) (F : Certains P w K mg base pF) (c_unturned : C8.Cal P w K mg base 1 "unturned" (spUnturned K) []) (c_exchanged : C8.Cal P w K mg base 1 "exchanged" (spExch K) []) (d : Dd K mg "certain_of" s_certain_of P_certain_of) : C8.Cal P w K mg base 5 "certain_of" (spCertW K) [] := by
  refine d.cal sc_certain_of (fun vs H Q E h => ?_) (fun f cdv A outer s H vs Q E hr h => ?_)
  · obtain ⟨v, b, wy, body, rfl, _⟩ := h
    rfl
  · obtain ⟨v, b, wy, body, rfl, ⟨tas, p, hts, hw, hk⟩, ok, hb, hin, hlen, q⟩ := h
    have nd := sc_certain_of.nd
    obtain ⟨fa, sp, held, hF, hsp⟩ := F.of wy.k
    have A_certain := S1_held held
    obtain ⟨xs, hx⟩ := hk.head
    have ltas : tas.length ≤ 3 := by
      have z := ok.few
      rw [← hts, List.length_map] at z
      exact z
    obtain ⟨tin, tlen⟩ := turnL_ok wy.ts ok.perm body hin
    refine ⟨_, (pss_cons (ps_asg (C8.pe_c c_unturned hr (by decide) (by rfl) (pa_cons (pv 0) pa_nil)) (pg_tup rfl (pgs_cons (pg_name (i := 2) nd rfl (Or.inl rfl)) (pgs_cons (pg_name (i := 3) nd rfl (Or.inl rfl)) pgs_nil))))
  (pss_cons (ps_set (i := 4) nd rfl (Or.inl rfl) (pe_ix ix_kdict (C8.pe_gc rfl m_CERTAIN) (pe_ix ix_tup (pv 3) pe_int (fun _ _ => rfl)) (fun _ _ => rfl)))
  (pss_one (ps_ret (pe_callA A_certain hr (x := "certain") (i := 4) rfl (by first | exact Or.inl rfl | exact Or.inr (Or.inl rfl) | exact Or.inr (Or.inr rfl)) (pa_cons (pv 3) (pa_cons (C8.pe_c c_exchanged hr (by decide) (by rfl) (pa_cons (pv 2) (pa_cons (pv 1) pa_nil))) pa_nil))))))), ?_⟩
    refine i_start (σ' := [some v, some (.ref b), none, none, none]) rfl ?_
    walk_at "go"
    walk_at "r"
    refine ⟨v, tas, p, wy.k.name, _, rfl, hw, hx, wy.k.name_ne, by omega, fun q1 l H1 _ _ s1 e1 el => ?_⟩
    have hx1 := stup s1 hx
    walk_at "r"
    refine i_kd hF ?_
    walk_at "r"
    refine i_callA S1_self ?_
    walk_at "r"
    refine ⟨l, b, tas, wy.t, body, rfl, sl_of el, fun a ha => stup s1 (hw.mem a ha), ltas, by rw [hts]; exact ok.perm, ok.t16, s1.seq hb, hin, by omega, fun tb H2 s2 htb => ?_⟩
    rw [hts] at htb
    have s12 := s1.trans s2
    have hk2 := hk.same s12
    walk_at "r"
    exact hsp _ _ _ _ _ _ _ _ hk2 ok.kind ok.t3 ok.t16 ok.e0 ok.e1 htb tin (by omega) (fun p3 H3 hp3 s3 e3 => q p3 H3 (s12.free hp3) (s12.trans s3) e3)
end
end Esc

namespace Esc
open PySem PySem.Spec PyProof.Rows L2
/-! ### a writer's attributes -/
theorem ne_wb : ¬ (("way" : Str) = "body") := by decide +kernel
theorem ne_wm : ¬ (("way" : Str) = "many_told") := by decide +kernel
theorem ne_bm : ¬ (("body" : Str) = "many_told") := by decide +kernel
def wrF (v : V) (b : Addr) (n : Int) : List (Str × V) := putF "many_told" (.int n) (putF "body" (.ref b) (putF "way" v []))
theorem wrF_eq (v : V) (b : Addr) (n : Int) : wrF v b n = ([("way", v), ("body", V.ref b), ("many_told", V.int n)] : List (Str × V)) := by
  have e1 : putF "body" (.ref b) (putF "way" v []) = ([("way", v), ("body", V.ref b)] : List (Str × V)) := by
    show (if ("way" : Str) = "body" then [(("body" : Str), V.ref b)] else (("way" : Str), v) :: putF "body" (V.ref b) []) = _
    rw [if_neg ne_wb]
    rfl
  unfold wrF
  rw [e1]
  show (if ("way" : Str) = "many_told" then _ else (("way" : Str), v) :: (if ("body" : Str) = "many_told" then _ else (("body" : Str), V.ref b) :: putF "many_told" (V.int n) [])) = _
  rw [if_neg ne_wm, if_neg ne_bm]
  rfl
theorem wrF_way (v : V) (b : Addr) (n : Int) : (wrF v b n).lookup ("way" : Str) = some v := by
  unfold wrF
  rw [lookup_putF, if_neg ne_wm, lookup_putF, if_neg ne_wb, lookup_putF, if_pos rfl]
theorem wrF_body (v : V) (b : Addr) (n : Int) : (wrF v b n).lookup ("body" : Str) = some (.ref b) := by
  unfold wrF
  rw [lookup_putF, if_neg ne_bm, lookup_putF, if_pos rfl]
theorem wrF_many (v : V) (b : Addr) (n : Int) : (wrF v b n).lookup ("many_told" : Str) = some (.int n) := by
  unfold wrF
  rw [lookup_putF, if_pos rfl]
theorem wrF_putM (v : V) (b : Addr) (n m : Int) : putF "many_told" (.int m) (wrF v b n) = wrF v b m := by
  rw [wrF_eq, wrF_eq]
  show (if ("way" : Str) = "many_told" then _ else (("way" : Str), v) :: (if ("body" : Str) = "many_told" then _ else (("body" : Str), V.ref b) :: (if ("many_told" : Str) = "many_told" then [(("many_told" : Str), V.int m)] else _))) = _
  rw [if_neg ne_wm, if_neg ne_bm, if_pos rfl]
theorem wrF_putB (v : V) (b c : Addr) (n : Int) : putF "body" (.ref c) (wrF v b n) = wrF v c n := by
  rw [wrF_eq, wrF_eq]
  show (if ("way" : Str) = "body" then _ else (("way" : Str), v) :: (if ("body" : Str) = "body" then [(("body" : Str), V.ref c), (("many_told" : Str), V.int n)] else _)) = _
  rw [if_neg ne_wb, if_pos rfl]
theorem wrF_no (v : V) (b : Addr) (n : Int) {m : Str} (h1 : ¬ m = "many_told") (h2 : ¬ m = "body") (h3 : ¬ m = "way") : (wrF v b n).lookup m = none := by
  unfold wrF
  rw [lookup_putF, if_neg h1, lookup_putF, if_neg h2, lookup_putF, if_neg h3]
  all_goals rfl
abbrev wrA : List Str := ["way", "body", "many_told"]
theorem wrA1 : ("way" : Str) ∈ wrA := List.mem_cons_self
theorem wrA2 : ("body" : Str) ∈ wrA := List.mem_cons_of_mem _ List.mem_cons_self
theorem wrA3 : ("many_told" : Str) ∈ wrA := List.mem_cons_of_mem _ (List.mem_cons_of_mem _ List.mem_cons_self)
structure WrAt (C : Addr) (H : Hp) (p b : Addr) (v : V) (body : List Int) (n : Nat) : Prop where
  ob : ∃ dx, H p = some (.ins C dx (wrF v b (n : Int)))
  ls : H b = some (.lst (body.map V.int))
theorem WrAt.ne {C : Addr} {H : Hp} {p b : Addr} {v : V} {body : List Int} {n : Nat} (h : WrAt C H p b v body n) : p ≠ b := fun z => by
  obtain ⟨dx, e⟩ := h.ob
  have l := h.ls
  rw [← z, e] at l
  cases l
theorem WrAt.noT {C : Addr} {H : Hp} {p b : Addr} {v : V} {body : List Int} {n : Nat} (h : WrAt C H p b v body n) : ∀ a ∈ [p, b], ∀ o, H a = some o → isT o = false := fun a m o e => by
  obtain ⟨dx, k⟩ := h.ob
  rcases List.mem_cons.mp m with rfl | m
  · rw [k] at e
    cases e
    rfl
  · rw [List.mem_singleton.mp m, h.ls] at e
    cases e
    rfl
theorem WrAt.go {C : Addr} {H H' : Hp} {p b : Addr} {v : V} {body : List Int} {n : Nat} (s : Same H H') (h : WrAt C H p b v body n) : WrAt C H' p b v body n := by
  obtain ⟨dx, e⟩ := h.ob
  exact ⟨⟨dx, s _ _ e⟩, s _ _ h.ls⟩
theorem WrAt.dice {C : Addr} {H H' : Hp} {d p b : Addr} {v : V} {body : List Int} {n : Nat} (s : Same (hide d H) H') (n1 : p ≠ d) (n2 : b ≠ d) (h : WrAt C H p b v body n) : WrAt C H' p b v body n := by
  obtain ⟨dx, e⟩ := h.ob
  exact ⟨⟨dx, hide_at s n1 e⟩, hide_at s n2 h.ls⟩
section
variable {P : Program} {w : World} {K : PySem.W.Frag} {mg : Str → Option Value} {base : Heap}
def spWInit (K : PySem.W.Frag) (CW : Addr) : Sp := fun vs H Q _ => ∃ (p dx : Addr) (v : V) (wy : Way), vs = [.ref p, v] ∧ H p = some (.ins CW dx []) ∧ WayAt K H v wy ∧ wy.Ok ∧ ∀ b H', H b = none → Same (hid [p] H) H' → WrAt CW H' p b v [] 0 → Q .non H'
theorem c_Writer {CW : Addr} (T : Clx K mg "Writer" CW wrA) (c_need_way : C8.Cal P w K mg base 7 "need_way" (spNeedW K) []) (d : Dm K CW "__init__" "Writer.__init__" s_Writer___init__ P_Writer___init__) : C8.Mak P w K mg base 8 "Writer" CW (spWInit K CW) [] := by
  refine d.mak T sc_Writer___init__ (fun vs H Q E h => ?_) (fun f cdv A outer s H vs Q E hr h => ?_)
  · obtain ⟨p, dx, v, wy, rfl, _⟩ := h
    rfl
  · obtain ⟨p, dx, v, wy, rfl, hp, hw, ok, q⟩ := h
    have nd := sc_Writer___init__.nd
    refine ⟨_, (pss_cons (ps_expr (C8.pe_c c_need_way hr (by decide) (by rfl) (pa_cons (pv 1) pa_nil)))
  (pss_cons (ps_fld (pv 0) (pv 1) rfl)
  (pss_cons (ps_fld (pv 0) (pe_lst pa_nil) rfl)
  (pss_one (ps_fld (pv 0) pe_int rfl))))), ?_⟩
    refine i_start (σ' := [some (.ref p), some v]) rfl ?_
    walk_at "go"
    walk_at "r"
    refine ⟨v, wy, rfl, hw, ok, fun H1 s1 => ?_⟩
    have hp1 := s1 _ _ hp
    walk_at "r"
    refine i_st T wrA1 hp1 (by decide) ?_
    walk_at "r"
    refine i_lst (Nat.zero_le _) (fun b H2 hb s2 e2 => ?_)
    have nbp : b ≠ p := fun z => by
      rw [z, upd_same] at hb
      cases hb
    have hp2 := s2 _ _ (upd_same (H := H1) (a := p) (o := .ins CW dx (putF "way" v [])))
    walk_at "r"
    refine i_st T wrA2 hp2 (by show 1 < 1000; decide) ?_
    walk_at "r"
    refine i_st T wrA3 upd_same (by show 2 < 1000; decide) ?_
    refine q b _ ?_ (fun c o e => ?_) ⟨⟨dx, upd_same⟩, (upd_ne nbp).trans ((upd_ne nbp).trans e2)⟩
    · rw [upd_ne nbp] at hb
      exact s1.free hb
    · have z := hid_of e
      have nc : c ≠ p := fun y => z.1 (by rw [y]; exact List.mem_cons_self)
      exact (upd_ne nc).trans ((upd_ne nc).trans (s2 _ _ ((upd_ne nc).trans (s1 _ _ z.2))))
def spWPut (K : PySem.W.Frag) (CW : Addr) : Sp := fun vs H Q _ => ∃ (p b : Addr) (v : V) (wy : Way) (body : List Int) (n : Nat) (x : Int), vs = [.ref p, .int x] ∧ WrAt CW H p b v body n ∧ WayAt K (tp H) v wy ∧ wy.Ok ∧ (∀ y ∈ body, 0 ≤ y ∧ y < wy.t) ∧ body.length < 60 ∧ 0 ≤ x ∧ x < wy.t ∧
  ∀ (q : Addr) (H' : Hp), H q = none → Same (hid [p, b] H) H' → WrAt CW H' p b v (body ++ [x]) (certW wy (body ++ [x])).length → H' q = some (.lst (((certW wy (body ++ [x])).drop n).map V.int)) → Q (.ref q) H'
theorem c_Writer_put (Z : Blt mg) {CW : Addr} (T : Clx K mg "Writer" CW wrA) (m_MOST_BODY : GI mg "MOST_BODY" 60) (c_is_sign : C8.Cal P w K mg base 2 "is_sign" spSignI []) (c_top_of : C8.Cal P w K mg base 2 "top_of" (spTopOf K) []) (c_certain_of : C8.Cal P w K mg base 5 "certain_of" (spCertW K) [])
    (d : Dm K CW "put" "Writer.put" s_Writer_put P_Writer_put) : C8.Met P w K mg base 6 CW "put" (spWPut K CW) [] := by
  refine d.met T sc_Writer_put (fun vs H Q E h => ?_) (fun f cdv A outer s H vs Q E hr h => ?_)
  · obtain ⟨p, b, v, wy, body, n, x, rfl, _⟩ := h
    rfl
  · obtain ⟨p, b, v, wy, body, n, x, rfl, R0, hw, ok, hin, hlen, x0, x1, q⟩ := h
    have nd := sc_Writer_put.nd
    have npb := R0.ne
    obtain ⟨⟨dx, hp⟩, hb⟩ := id R0
    have hin2 : ∀ y ∈ body ++ [x], 0 ≤ y ∧ y < wy.t := app_in hin (fun y hy => by rw [List.mem_singleton.mp hy]; exact ⟨x0, x1⟩)
    refine ⟨_, (pss_cons (ps_if (PW.pt (pw_or (pt_cmpR op_ge (pe_callB k_len (by rfl) Z.len_ (by decide +kernel) (pa_cons (pe_fld (pv 0) rfl) pa_nil)) (C8.pe_gc rfl m_MOST_BODY) (nomark _)) (pw_or1 (pt_not (pt_val (C8.pe_c c_is_sign hr (by decide) (by rfl) (pa_cons (pv 1) (pa_cons (C8.pe_c c_top_of hr (by decide) (by rfl) (pa_cons (pe_fld (pv 0) rfl) pa_nil)) pa_nil)))))))) (pss_one ps_never) pss_nil)
  (pss_cons (ps_expr (pe_bm PySem.F.plainAttrs_list PySem.F.slot_list_append PySem.F.type_list_append mt_append (pe_fld (pv 0) rfl) (pa_cons (pv 1) pa_nil)))
  (pss_cons (ps_set (i := 2) nd rfl (Or.inl rfl) (C8.pe_c c_certain_of hr (by decide) (by rfl) (pa_cons (pe_fld (pv 0) rfl) (pa_cons (pe_fld (pv 0) rfl) pa_nil))))
  (pss_cons (ps_set (i := 3) nd rfl (Or.inl rfl) (pe_slice sl_list (pv 2) (po_some (pe_fld (pv 0) rfl)) po_none))
  (pss_cons (ps_fld (pv 0) (pe_callB k_len (by rfl) Z.len_ (by decide +kernel) (pa_cons (pv 2) pa_nil)) rfl)
  (pss_one (ps_ret (pv 3)))))))), ?_⟩
    refine i_start (σ' := [some (.ref p), some (.int x), none, none]) rfl ?_
    walk_at "go"
    walk_at "r"
    refine i_fld T wrA2 hp (wrF_body v b n) ?_
    walk_at "r"
    refine i_no (by omega) ?_
    walk_at "r"
    refine i_fld T wrA1 hp (wrF_way v b n) ?_
    walk_at "r"
    refine ⟨v, wy, rfl, hw.same tp_same, ok, fun H1 s1 => ?_⟩
    walk_at "r"
    refine ⟨x, wy.t, rfl, ?_⟩
    walk_at "r"
    refine i_yes (F := kNot _) (c := 0 ≤ x ∧ x < wy.t) ⟨x0, x1⟩ ?_
    walk_at "r"
    refine i_fld T wrA2 (s1 _ _ hp) (wrF_body v b n) ?_
    have hb1 := s1 _ _ hb
    have hp1 := s1 _ _ hp
    walk_at "r"
    have eb2 : upd H1 b (.lst (body.map V.int ++ [V.int x])) b = some (.lst ((body ++ [x]).map V.int)) := by rw [upd_same, List.map_append]; rfl
    have ep2 : upd H1 b (.lst (body.map V.int ++ [V.int x])) p = some (.ins CW dx (wrF v b n)) := (upd_ne npb).trans hp1
    have s2 : Same (hid [p, b] H) (upd H1 b (.lst (body.map V.int ++ [V.int x]))) := fun c o e => by
      have z := hid_of e
      have nc : c ≠ b := fun y => z.1 (by rw [y]; exact List.mem_cons_of_mem _ List.mem_cons_self)
      exact (upd_ne nc).trans (s1 _ _ z.2)
    have gone : ∀ c, upd H1 b (.lst (body.map V.int ++ [V.int x])) c = none → H c = none := fun c e => by
      by_cases y : c = b
      · rw [y, upd_same] at e
        cases e
      · rw [upd_ne y] at e
        exact s1.free e
    have hw2 := hw.same (tp_hid R0.noT s2)
    generalize upd H1 b (.lst (body.map V.int ++ [V.int x])) = H2 at *
    walk_at "r"
    refine i_fld T wrA1 ep2 (wrF_way v b n) ?_
    walk_at "r"
    refine i_fld T wrA2 ep2 (wrF_body v b n) ?_
    walk_at "r"
    refine ⟨v, b, wy, body ++ [x], rfl, hw2.same tp_same, ok, sl_of eb2, hin2, by rw [List.length_append, List.length_singleton]; omega, fun q3 H3 hq3 s3 e3 => ?_⟩
    walk_at "r"
    refine i_fld T wrA3 (s3 _ _ ep2) (wrF_many v b n) ?_
    walk_at "r"
    refine i_slL (sl_of e3) (fun q4 H4 hq4 s4 e4 => ?_)
    rw [cut_from, ← List.map_drop] at e4
    have s34 := s3.trans s4
    have e34 := s4 _ _ e3
    have ep4 := s34 _ _ ep2
    have nqp : q4 ≠ p := (ne_of_none (s3 _ _ ep2) hq4).symm
    walk_at "r"
    refine i_st T wrA3 ep4 (by rw [wrF_eq]; show 3 < 1000; decide) ?_
    rw [wrF_putM]
    walk_at "r"
    refine q q4 _ (gone _ (s3.free hq4)) (fun c o e => ?_) ⟨⟨dx, upd_same⟩, (upd_ne npb.symm).trans (s34 _ _ eb2)⟩ ((upd_ne nqp).trans e4)
    have z := hid_of e
    have nc : c ≠ p := fun y => z.1 (by rw [y]; exact List.mem_cons_self)
    exact (upd_ne nc).trans (s34 _ _ (s2 _ _ e))
def spWClose (K : PySem.W.Frag) (CW : Addr) : Sp := fun vs H Q _ => ∃ (p b : Addr) (v : V) (wy : Way) (body : List Int) (n : Nat), vs = [.ref p] ∧ WrAt CW H p b v body n ∧ WayAt K (tp H) v wy ∧ wy.Ok ∧ (∀ y ∈ body, 0 ≤ y ∧ y < wy.t) ∧ body.length ≤ 60 ∧
  ∀ (q b' : Addr) (H' : Hp), H q = none → H b' = none → Same (hid [p] H) H' → WrAt CW H' p b' v [] 0 → H' q = some (.lst (((frameW wy body).drop n).map V.int)) → Q (.ref q) H'
theorem c_Writer_close {CW : Addr} (T : Clx K mg "Writer" CW wrA) (c_frame_of : C8.Cal P w K mg base 3 "frame_of" (spFrameW K) [])
    (d : Dm K CW "close" "Writer.close" s_Writer_close P_Writer_close) : C8.Met P w K mg base 4 CW "close" (spWClose K CW) [] := by
  refine d.met T sc_Writer_close (fun vs H Q E h => ?_) (fun f cdv A outer s H vs Q E hr h => ?_)
  · obtain ⟨p, b, v, wy, body, n, rfl, _⟩ := h
    rfl
  · obtain ⟨p, b, v, wy, body, n, rfl, R0, hw, ok, hin, hlen, q⟩ := h
    have nd := sc_Writer_close.nd
    have npb := R0.ne
    obtain ⟨⟨dx, hp⟩, hb⟩ := id R0
    refine ⟨_, (pss_cons (ps_set (i := 1) nd rfl (Or.inl rfl) (pe_slice sl_list (C8.pe_c c_frame_of hr (by decide) (by rfl) (pa_cons (pe_fld (pv 0) rfl) (pa_cons (pe_fld (pv 0) rfl) pa_nil))) (po_some (pe_fld (pv 0) rfl)) po_none))
  (pss_cons (ps_fld (pv 0) (pe_lst pa_nil) rfl)
  (pss_cons (ps_fld (pv 0) pe_int rfl)
  (pss_one (ps_ret (pv 1)))))), ?_⟩
    refine i_start (σ' := [some (.ref p), none]) rfl ?_
    walk_at "go"
    walk_at "r"
    refine i_fld T wrA1 hp (wrF_way v b n) ?_
    walk_at "r"
    refine i_fld T wrA2 hp (wrF_body v b n) ?_
    walk_at "r"
    refine ⟨v, b, wy, body, rfl, hw.same tp_same, ok, sl_of hb, hin, by omega, fun q1 H1 hq1 s1 e1 => ?_⟩
    walk_at "r"
    refine i_fld T wrA3 (s1 _ _ hp) (wrF_many v b n) ?_
    walk_at "r"
    refine i_slL (sl_of e1) (fun q2 H2 hq2 s2 e2 => ?_)
    rw [cut_from, ← List.map_drop] at e2
    have hp2 := s2 _ _ (s1 _ _ hp)
    walk_at "r"
    refine i_lst (Nat.zero_le _) (fun b' H3 hb' s3 e3 => ?_)
    have s03 := (s1.trans s2).trans s3
    have hp3 := s3 _ _ hp2
    have nbp : b' ≠ p := (ne_of_none hp2 hb').symm
    have nqp : q2 ≠ p := (ne_of_none (s1 _ _ hp) hq2).symm
    walk_at "r"
    refine i_st T wrA2 hp3 (by rw [wrF_eq]; show 3 < 1000; decide) ?_
    rw [wrF_putB]
    walk_at "r"
    refine i_st T wrA3 upd_same (by rw [wrF_eq]; show 3 < 1000; decide) ?_
    rw [wrF_putM]
    walk_at "r"
    refine q q2 b' _ (s1.free hq2) ((s1.trans s2).free hb') (fun c o e => ?_) ⟨⟨dx, upd_same⟩, (upd_ne nbp).trans ((upd_ne nbp).trans e3)⟩ ((upd_ne nqp).trans ((upd_ne nqp).trans (s3 _ _ e2)))
    have z := hid_of e
    have nc : c ≠ p := fun y => z.1 (by rw [y]; exact List.mem_cons_self)
    exact (upd_ne nc).trans ((upd_ne nc).trans (s03 _ _ z.2))
end
end Esc

namespace Esc
open PySem PySem.Spec PyProof.Rows L2
def kRng2 (g : TG) (tb : TS) (D : Ends) (σ : L2.St) : List V → Hp → Prop := fun vs H1 => ∃ i j : Int, vs = [.int i, .int j] ∧ (-(2 ^ 62) ≤ i ∧ i < 2 ^ 62 ∧ -(2 ^ 62) ≤ j ∧ j < 2 ^ 62) ∧ Loop (Itr i (j - i).toNat) g tb D σ H1
instance {ta : TA} {g : TG} {tb : TS} {D : Ends} {σ : L2.St} {H : Hp} : Step (tFor (iRng2 ta) g tb D σ H) (ta σ H (kRng2 g tb D σ)) := ⟨fun h => h⟩
theorem i_rng2 {g : TG} {tb : TS} {nx : L2.St → Hp → Prop} {rt : VK} {bk ct : L2.St → Hp → Prop} {σ : L2.St} {H : Hp} {lo hi : Int} (hb : 0 ≤ lo ∧ lo ≤ 1000000 ∧ 0 ≤ hi ∧ hi ≤ 1000000) (Pv : Nat → L2.St → Hp → Prop) (h0 : Pv 0 σ H)
    (hs : ∀ (i : Nat) σ H, i < (hi - lo).toNat → Pv i σ H → g (.int (lo + (i : Int))) σ H (tb ⟨Pv (i + 1), rt, nx, Pv (i + 1)⟩)) (hd : ∀ σ H, Pv (hi - lo).toNat σ H → nx σ H) : kRng2 g tb ⟨nx, rt, bk, ct⟩ σ [.int lo, .int hi] H :=
  ⟨lo, hi, rfl, ⟨by omega, by omega, by omega, by omega⟩, for_range (D := ⟨nx, rt, bk, ct⟩) (lo := lo) (n := (hi - lo).toNat) Pv h0 (fun i σ' H' hi p => hs i σ' H' hi p) hd⟩
section
variable {P : Program} {w : World} {K : PySem.W.Frag} {mg : Str → Option Value} {base : Heap}
def spCommon (K : PySem.W.Frag) : Sp := fun vs H Q _ => ∃ (r : Addr) (as : List Addr) (rows : List (List Int)) (r0 : List Int), vs = [.ref r] ∧ H r = some (.lst (as.map V.ref)) ∧ LstsAt H as rows ∧ rows[0]? = some r0 ∧ rows.length ≤ 1000 ∧ (∀ s ∈ rows, s.length ≤ 1000) ∧
  ∀ q H' m, H q = none → Same H H' → (∀ s ∈ rows, s.take m = r0.take m ∧ m ≤ s.length) → (¬ ∀ s ∈ rows, s.take (m + 1) = r0.take (m + 1) ∧ m < s.length) → H' q = some (.lst ((r0.take m).map V.int)) → Q (.ref q) H'
theorem c__law_common (Z : Blt mg) (d : Dd K mg "_law_common" s__law_common P__law_common) : C8.Cal P w K mg base 1 "_law_common" (spCommon K) [] := by
  refine d.cal sc__law_common (fun vs H Q E h => ?_) (fun f cdv A outer s H vs Q E hr h => ?_)
  · obtain ⟨r, as, rows, r0, rfl, _⟩ := h
    rfl
  · obtain ⟨r, as, rows, r0, rfl, er, hla, h0, hlen, hsz, q⟩ := h
    have nd := sc__law_common.nd
    have las := hla.len
    have m0 : r0 ∈ rows := List.mem_of_getElem? h0
    have l0 := hsz r0 m0
    have i0 := (List.getElem?_eq_some_iff.mp h0).1
    have g0 : as[0]? = some (as[0]'(by omega)) := List.getElem?_eq_getElem (by omega)
    obtain ⟨r0', hr0', e0⟩ := hla.get g0
    rw [h0] at hr0'
    cases Option.some.inj hr0'
    obtain ⟨a0, ga, e0⟩ : ∃ a0, as[0]? = some a0 ∧ H a0 = some (.lst (r0.map V.int)) := ⟨_, g0, e0⟩
    have hat : atI (as.map V.ref) ((0 : Nat) : Int) = some (.ref a0) := atI_nat (by rw [List.getElem?_map, ga]; rfl)
    have hat : atI (as.map V.ref) 0 = some (.ref a0) := hat
    refine ⟨_, (pss_cons (ps_set (i := 1) nd rfl (Or.inr rfl) pe_int)
  (pss_cons (ps_while PassesOwn.never (pt_cmpR op_eq (pe_callB k_len (by rfl) Z.len_ (by decide +kernel) (pa_cons (pe_lc (own := [("_law_row", 2)]) (g := gName 2) rfl nd (pi_list (pv 0)) (blkOk_by (N := N__law_common) (sc := C8.fnScope s__law_common) (own := [("_law_row", 2)]) (by decide +kernel)) (fun _ _ _ _ _ => (pg_name (i := 2) nd rfl (Or.inl rfl))) (fun _ _ _ _ _ => pts_one (PW.pt (pw_and (pt_cmpR (show OpR _ _ (rEqD K) from (op_eqD hr.units)) (pe_slice (show SlR _ (rSlL K) from sl_list) (pv 2) po_none (po_some (pe_op op_add (pv 1) pe_int))) (pe_slice (show SlR _ (rSlL K) from sl_list) (pe_ix (show IxR _ (rIxL K) from ix_list) (pv 0) pe_int (fun _ _ => rfl)) po_none (po_some (pe_op op_add (pv 1) pe_int))) (nomark _)) (pw_and1 (pt_cmpR op_gt (pe_callB (show CallR _ _ (rLen K) from k_len) (by rfl) Z.len_ (by decide +kernel) (pa_cons (pv 2) pa_nil)) (pv 1) (nomark _)))))) (fun _ _ _ _ _ => (pv 2))) pa_nil)) (pe_callB k_len (by rfl) Z.len_ (by decide +kernel) (pa_cons (pv 0) pa_nil)) (nomark _))
    (pss_one (ps_set (i := 1) nd rfl (Or.inr rfl) (pe_op op_add (pv 1) pe_int))))
  (pss_one (ps_ret (pe_slice sl_list (pe_ix ix_list (pv 0) pe_int (fun _ _ => rfl)) po_none (po_some (pv 1))))))), ?_⟩
    refine i_start (σ' := [some (.ref r), none, none]) rfl ?_
    walk_at "go"
    walk_at "r"
    refine i_while (fun k σ' H' => ∃ (m : Nat) (x : Option V), σ' = [some (.ref r), some (.int (m : Int)), x] ∧ Same H H' ∧ (∀ s ∈ rows, s.take m = r0.take m ∧ m ≤ s.length) ∧ k = r0.length - m) r0.length ⟨0, none, rfl, Same.refl _, (fun s _ => ⟨by rw [List.take_zero, List.take_zero], Nat.zero_le _⟩), rfl⟩ (fun k σ' H1 pv => ?_)
    obtain ⟨m, x, rfl, s1, hm, rfl⟩ := pv
    have er1 := s1 _ _ er
    have hla1 := hla.same s1
    walk_at "r"
    refine i_lcLI (fun D j acc H'' => Same H1 H'' ∧ H'' D = some (.lst acc) ∧ (acc.length = j ↔ ∀ s ∈ rows.take j, s.take (m + 1) = r0.take (m + 1) ∧ m < s.length)) (sl_of er1) (fun D hD => ⟨same_new hD, upd_same, by simp⟩) (fun D j acc H'' hD pv => sl_of (pv.1 _ _ er1)) (fun D j x acc H'' hD hx hla pv => ?_) (fun D acc H3 hD pv => ?_)
    · obtain ⟨s2, eD, hiff⟩ := pv
      obtain ⟨c, hc, rfl⟩ := ref_get hx
      obtain ⟨row, hrow, ec⟩ := hla1.get hc
      have jl := (List.getElem?_eq_some_iff.mp hrow).1
      have lrow := hsz row (List.mem_of_getElem? hrow)
      have ec2 := s2 _ _ ec
      have er2 := s2 _ _ er1
      have e02 := s2 _ _ (s1 _ _ e0)
      walk_at "r"
      refine i_slL (sl_of ec2) (fun p3 H3 hp3 s3 e3 => ?_)
      rw [show (m : Int) + 1 = ((m + 1 : Nat) : Int) by omega, cut_to, ← List.map_take] at e3
      have er3 := s3 _ _ er2
      walk_at "r"
      refine i_slL (sl_of (s3 _ _ e02)) (fun p4 H4 hp4 s4 e4 => ?_)
      rw [show (m : Int) + 1 = ((m + 1 : Nat) : Int) by omega, cut_to, ← List.map_take] at e4
      have s24 := s3.trans s4
      have eD4 := s24 _ _ eD
      have ec4 := s24 _ _ ec2
      walk_at "r"
      refine i_eqL (sl_of (s4 _ _ e3)) (sl_of e4) ?_
      walk_at "r"
      refine i_br (fun c1 => ?_) (fun c1 => ?_)
      · walk_at "r"
        refine i_br (fun c2 => ?_) (fun c2 => ?_)
        · walk_at "r"
          refine kY_of eD4 hla (by omega) ⟨smut (s2.trans s24) hD, upd_same, ?_⟩
          rw [List.length_append, List.length_singleton, take_succ' hrow]
          constructor
          · intro e s hs
            rcases List.mem_append.mp hs with n | n
            · exact hiff.mp (by omega) s n
            · rw [List.mem_singleton.mp n]
              exact ⟨c1, by omega⟩
          · intro a
            have := hiff.mpr fun s n => a s (List.mem_append_left _ n)
            omega
        · walk_at "r"
          refine kN_of hla ⟨s2.trans s24, eD4, ?_⟩
          rw [take_succ' hrow]
          constructor
          · intro e
            omega
          · intro a
            have := (a row (List.mem_append_right _ (List.mem_singleton_self _))).2
            omega
      · walk_at "r"
        refine kN_of hla ⟨s2.trans s24, eD4, ?_⟩
        rw [take_succ' hrow]
        constructor
        · intro e
          omega
        · intro a
          exact absurd (a row (List.mem_append_right _ (List.mem_singleton_self _))).1 c1
    · obtain ⟨s2, eD, hiff⟩ := pv
      rw [List.length_map, las, List.take_length] at hiff
      have er3 := s2 _ _ er1
      walk_at "r"
      refine i_br (fun c1 => ?_) (fun c1 => ?_)
      · have allP := hiff.mp (by rw [List.length_map, las] at c1; omega)
        have ml := (allP r0 m0).2
        walk_at "r"
        exact ⟨r0.length - (m + 1), by omega, m + 1, _, rfl, s1.trans s2, fun s hs => ⟨(allP s hs).1, (allP s hs).2⟩, rfl⟩
      · have noP : ¬ ∀ s ∈ rows, s.take (m + 1) = r0.take (m + 1) ∧ m < s.length := fun a => c1 (by
          have := hiff.mpr a
          rw [List.length_map, las]
          omega)
        walk_at "r"
        refine i_slL (sl_of (s2 _ _ (s1 _ _ e0))) (fun p4 H4 hp4 s4 e4 => ?_)
        rw [cut_to, ← List.map_take] at e4
        exact q p4 H4 m ((s1.trans s2).free hp4) ((s1.trans s2).trans s4) hm noP e4
end
end Esc

namespace Esc
open PySem PySem.Spec PyProof.Rows L2
/-- the goings of a body: it, and it with each sign more -/
def go1 (wy : Way) (body : List Int) (i : Nat) : List (List Int) := frameW wy body :: (List.range i).map fun (s : Nat) => frameW wy (body ++ [(s : Int)])
/-- .. and with many of the least, of the greatest sign more -/
def go2 (wy : Way) (body : List Int) (j : Nat) : List (List Int) := (List.range j).flatMap fun (i : Nat) => [frameW wy (body ++ List.replicate (i + 2) 0), frameW wy (body ++ List.replicate (i + 2) (wy.t - 1))]
def isR : Kind → Bool
  | .ranks => true
  | _ => false
def goA (wy : Way) (body : List Int) : List (List Int) := go1 wy body wy.t.toNat ++ go2 wy body (if isR wy.k then 23 else 0)
theorem go1_succ (wy : Way) (body : List Int) (i : Nat) : go1 wy body (i + 1) = go1 wy body i ++ [frameW wy (body ++ [(i : Int)])] := by
  unfold go1
  rw [List.range_succ, List.map_append]
  rfl
theorem go2_succ (wy : Way) (body : List Int) (i : Nat) : go2 wy body (i + 1) = go2 wy body i ++ [frameW wy (body ++ List.replicate (i + 2) 0), frameW wy (body ++ List.replicate (i + 2) (wy.t - 1))] := by
  unfold go2
  rw [List.range_succ, List.flatMap_append, List.flatMap_cons, List.flatMap_nil, List.append_nil]
theorem go1_len (wy : Way) (body : List Int) (i : Nat) : (go1 wy body i).length = i + 1 := by
  unfold go1
  rw [List.length_cons, List.length_map, List.length_range]
theorem go2_len (wy : Way) (body : List Int) : ∀ i : Nat, (go2 wy body i).length = 2 * i
  | 0 => rfl
  | i + 1 => by
    rw [go2_succ, List.length_append, go2_len wy body i]
    show 2 * i + 2 = _
    omega
theorem rep_inT {t z : Int} (h : 0 ≤ z ∧ z < t) (k : Nat) : ∀ x ∈ List.replicate k z, 0 ≤ x ∧ x < t := fun x hx => by
  rw [(List.mem_replicate.mp hx).2]
  exact h
theorem goA_mem {wy : Way} (ok : wy.Ok) {body : List Int} (hb : ∀ x ∈ body, 0 ≤ x ∧ x < wy.t) (hl : body.length ≤ 30) : ∀ r ∈ goA wy body, ∃ more, r = frameW wy (body ++ more) ∧ (∀ x ∈ body ++ more, 0 ≤ x ∧ x < wy.t) ∧ (body ++ more).length ≤ 60 := fun r hr => by
  have t3 := ok.t3
  rcases List.mem_append.mp hr with m | m
  · rcases List.mem_cons.mp m with rfl | m
    · exact ⟨[], by rw [List.append_nil], by rw [List.append_nil]; exact hb, by rw [List.append_nil]; omega⟩
    · obtain ⟨s, hs, rfl⟩ := List.mem_map.mp m
      rw [List.mem_range] at hs
      exact ⟨_, rfl, app_in hb (fun x hx => by rw [List.mem_singleton.mp hx]; omega), by rw [List.length_append, List.length_singleton]; omega⟩
  · obtain ⟨i, hi, m⟩ := List.mem_flatMap.mp m
    have hi2 : i < 23 := by
      have z := List.mem_range.mp hi
      split at z <;> omega
    rcases List.mem_cons.mp m with rfl | m
    · exact ⟨_, rfl, app_in hb (rep_inT ⟨by omega, by omega⟩ _), by rw [List.length_append, List.length_replicate]; omega⟩
    · rw [List.mem_singleton.mp m]
      exact ⟨_, rfl, app_in hb (rep_inT ⟨by omega, by omega⟩ _), by rw [List.length_append, List.length_replicate]; omega⟩
theorem goA_one {wy : Way} (body : List Int) {s : Int} (h : 0 ≤ s ∧ s < wy.t) : frameW wy (body ++ [s]) ∈ goA wy body := by
  refine List.mem_append_left _ (List.mem_cons_of_mem _ (List.mem_map.mpr ⟨s.toNat, List.mem_range.mpr (by omega), ?_⟩))
  show frameW wy (body ++ [((s.toNat : Nat) : Int)]) = _
  rw [show ((s.toNat : Nat) : Int) = s by omega]
theorem goA_here (wy : Way) (body : List Int) : frameW wy body ∈ goA wy body := List.mem_append_left _ List.mem_cons_self
theorem goA_many {wy : Way} (ok : wy.Ok) (body : List Int) (hk : wy.k = .ranks) {z : Int} (hz : z = 0 ∨ z = wy.t - 1) {k : Nat} (h1 : 1 ≤ k) (h2 : k ≤ 24) : frameW wy (body ++ List.replicate k z) ∈ goA wy body := by
  have t3 := ok.t3
  by_cases c : k = 1
  · subst c
    exact goA_one body (s := z) (by rcases hz with rfl | rfl <;> omega)
  · refine List.mem_append_right _ (List.mem_flatMap.mpr ⟨k - 2, List.mem_range.mpr ?_, ?_⟩)
    · rw [hk]
      show k - 2 < 23
      omega
    · rw [show k - 2 + 2 = k by omega]
      rcases hz with rfl | rfl
      · exact List.mem_cons_self
      · exact List.mem_cons_of_mem _ List.mem_cons_self
theorem isR_name : ∀ k : Kind, decide (k.name = "ranks") = isR k
  | .codes _ => (by decide +kernel : decide (("codes" : Str) = "ranks") = false)
  | .escapes _ _ => (by decide +kernel : decide (("escapes" : Str) = "ranks") = false)
  | .counts _ => (by decide +kernel : decide (("counts" : Str) = "ranks") = false)
  | .ranks => (by decide +kernel : decide (("ranks" : Str) = "ranks") = true)
/-- what all goings have in common is what is certain -/
theorem goA_common {wy : Way} (ok : wy.Ok) {body : List Int} (hb : ∀ x ∈ body, 0 ≤ x ∧ x < wy.t) (hl : body.length ≤ 30) {m : Nat} (h1 : ∀ s ∈ goA wy body, s.take m = (frameW wy body).take m ∧ m ≤ s.length) (h2 : ¬ ∀ s ∈ goA wy body, s.take (m + 1) = (frameW wy body).take (m + 1) ∧ m < s.length) : (frameW wy body).take m = certW wy body := by
  refine common_is (goA_here wy body) (fun r hr => ?_) ?_ h1 h2
  · obtain ⟨more, rfl, _, _⟩ := goA_mem ok hb hl r hr
    exact cert_pre wy ok body more
  · by_cases nr : wy.k = .ranks
    · obtain ⟨z, k, hz, k1, k2, ne⟩ := ranks_unlike wy ok nr body hb
      have e : certW wy body = [] := by
        unfold certW
        rw [nr]
        rfl
      rw [e]
      exact ⟨_, goA_here wy body, _, goA_many ok body nr hz k1 (by omega), ne⟩
    · rcases cert_unlike wy ok body nr with ⟨s, hs, ne⟩ | ⟨s, u, hs, hu, ne⟩
      · exact ⟨_, goA_here wy body, _, goA_one body hs, ne⟩
      · exact ⟨_, goA_one body hu, _, goA_one body hs, ne⟩
section
variable {P : Program} {w : World} {K : PySem.W.Frag} {mg : Str → Option Value} {base : Heap}
def spGoings (K : PySem.W.Frag) : Sp := fun vs H Q _ => ∃ (v : V) (b : Addr) (wy : Way) (body : List Int), vs = [v, .ref b] ∧ WayAt K H v wy ∧ wy.Ok ∧ H b = some (.lst (body.map V.int)) ∧ (∀ x ∈ body, 0 ≤ x ∧ x < wy.t) ∧ body.length ≤ 30 ∧
  ∀ q as H', H q = none → Same H H' → H' q = some (.lst (as.map V.ref)) → LstsAt H' as (goA wy body) → Q (.ref q) H'
theorem c__law_goings (Z : Blt mg) (c__law_top : C8.Cal P w K mg base 2 "_law_top" (spTopW K) []) (c__law_core : C8.Cal P w K mg base 1 "_law_core" (spCore K) []) (c_framed : C8.Cal P w K mg base 8 "framed" (spFramed K) []) (d : Dd K mg "_law_goings" s__law_goings P__law_goings) : C8.Cal P w K mg base 9 "_law_goings" (spGoings K) [] := by
  refine d.cal sc__law_goings (fun vs H Q E h => ?_) (fun f cdv A outer s H vs Q E hr h => ?_)
  · obtain ⟨v, b, wy, body, rfl, _⟩ := h
    rfl
  · obtain ⟨v, b, wy, body, rfl, hw, ok, eb, hin, hlen, q⟩ := h
    have nd := sc__law_goings.nd
    have t3 := ok.t3
    have t16 := ok.t16
    refine ⟨_, (pss_cons (ps_set (i := 2) nd rfl (Or.inl rfl) (C8.pe_c c__law_top hr (by decide) (by rfl) (pa_cons (pv 0) pa_nil)))
  (pss_cons (ps_set (i := 3) nd rfl (Or.inl rfl) (pe_lst (pa_cons (C8.pe_c c_framed hr (by decide) (by rfl) (pa_cons (pv 0) (pa_cons (pv 1) pa_nil))) pa_nil)))
  (pss_cons (ps_for PassesOwn.never rfl (pi_range1 rfl Z.range_ (pa_cons (pv 2) pa_nil)) (pg_name (i := 4) nd rfl (Or.inl rfl))
    (pss_one (ps_expr (pe_bm PySem.F.plainAttrs_list PySem.F.slot_list_append PySem.F.type_list_append mt_append (pv 3) (pa_cons (C8.pe_c c_framed hr (by decide) (by rfl) (pa_cons (pv 0) (pa_cons (pe_op op_cat (pv 1) (pe_lst (pa_cons (pv 4) pa_nil))) pa_nil))) pa_nil)))))
  (pss_cons (ps_for PassesOwn.never rfl (pi_range2 rfl Z.range_ (pa_cons pe_int (pa_cons (pe_op op_mul pe_int (pe_callTy call_int1 (by rfl) Z.int_ (by decide +kernel) (pa_cons (pe_cmpR op_eq (pe_ix ix_tup (C8.pe_c c__law_core hr (by decide) (by rfl) (pa_cons (pv 0) pa_nil)) pe_int (fun _ _ => rfl)) pe_str (nomark _)) pa_nil))) pa_nil))) (pg_name (i := 5) nd rfl (Or.inl rfl))
    (pss_cons (ps_expr (pe_bm PySem.F.plainAttrs_list PySem.F.slot_list_append PySem.F.type_list_append mt_append (pv 3) (pa_cons (C8.pe_c c_framed hr (by decide) (by rfl) (pa_cons (pv 0) (pa_cons (pe_op op_cat (pv 1) (pe_op op_rep (pe_lst (pa_cons pe_int pa_nil)) (pv 5))) pa_nil))) pa_nil)))
  (pss_one (ps_expr (pe_bm PySem.F.plainAttrs_list PySem.F.slot_list_append PySem.F.type_list_append mt_append (pv 3) (pa_cons (C8.pe_c c_framed hr (by decide) (by rfl) (pa_cons (pv 0) (pa_cons (pe_op op_cat (pv 1) (pe_op op_rep (pe_lst (pa_cons (pe_op op_sub (pv 2) pe_int) pa_nil)) (pv 5))) pa_nil))) pa_nil))))))
  (pss_one (ps_ret (pv 3))))))), ?_⟩
    refine i_start (σ' := [some v, some (.ref b), none, none, none, none]) rfl ?_
    walk_at "go"
    walk_at "r"
    refine ⟨v, wy, rfl, hw, ?_⟩
    walk_at "r"
    refine ⟨v, b, wy, body, rfl, hw, ok, sl_of eb, hin, by omega, fun p1 H1 hp1 s1 e1 => ?_⟩
    walk_at "r"
    refine i_lst (by show 1 ≤ sizeLine; decide) (fun L H2 hL s2 eL => ?_)
    have s02 := s1.trans s2
    have hL0 := s1.free hL
    have e12 := s2 _ _ e1
    have n1L : p1 ≠ L := ne_of_none e1 hL
    walk_at "r"
    refine i_rng ⟨by omega, by omega⟩ (fun i σ' H' => ∃ (as : List Addr) (y : Option V), σ' = [some v, some (.ref b), some (.int wy.t), some (.ref L), y, none] ∧ Same H H' ∧ H' L = some (.lst (as.map V.ref)) ∧ LstsAt (hid [L] H') as (go1 wy body i))
      ⟨[p1], none, rfl, s02, eL, ⟨hid_at (by simpa using n1L) e12, trivial⟩⟩ (fun i σ' H' hi pv => ?_) (fun σ' H' pv => ?_)
    · obtain ⟨as, y, rfl, s3, eL3, hla⟩ := pv
      have las := hla.len
      rw [go1_len] at las
      have il : i < 16 := by omega
      walk_at "r"
      refine i_lst (by show 1 ≤ sizeLine; decide) (fun p4 H4 hp4 s4 e4 => ?_)
      walk_at "r"
      refine i_cat (s4 _ _ (s3 _ _ eb)) e4 (sz (by rw [List.length_map, List.length_singleton]; omega)) (fun p5 H5 hp5 s5 e5 => ?_)
      rw [show [V.int (i : Int)] = [(i : Int)].map V.int from rfl, ← List.map_append] at e5
      have s05 := (s3.trans s4).trans s5
      walk_at "r"
      refine ⟨v, p5, wy, body ++ [(i : Int)], rfl, hw.same s05, ok, sl_of e5, app_in hin (fun x hx => by rw [List.mem_singleton.mp hx]; omega), by rw [List.length_append, List.length_singleton]; omega, fun p6 H6 hp6 s6 e6 => ?_⟩
      have s36 := (s4.trans s5).trans s6
      have eL6 := s36 _ _ eL3
      have n6 : p6 ≠ L := (ne_of_none (s5 _ _ (s4 _ _ eL3)) hp6).symm
      have lsz : (as.map V.ref).length < sizeLine := szl (by rw [List.length_map]; omega)
      walk_at "r"
      refine ⟨as ++ [p6], _, rfl, smut (s05.trans s6) hL0, by rw [upd_same, List.map_append]; rfl, ?_⟩
      rw [go1_succ]
      refine LstsAt.app (hla.same (hid_tr (hid_pure s36) (hid_up (hid_put List.mem_cons_self)))) ⟨hid_at (by simpa using n6) ((upd_ne n6).trans e6), trivial⟩
    · obtain ⟨as, y, rfl, s3, eL3, hla⟩ := pv
      have las := hla.len
      rw [go1_len] at las
      have hw3 := hw.same s3
      obtain ⟨tas, p, hts, hwt, hk⟩ := id hw3
      obtain ⟨xs, hx⟩ := hk.head
      walk_at "r"
      refine ⟨v, tas, p, wy.k.name, _, rfl, hwt, hx, wy.k.name_ne, ?_⟩
      walk_at "r"
      refine .inr ⟨_, rfl, ?_⟩
      rw [isR_name]
      have hJ : ((25 * (if isR wy.k = true then (1 : Int) else 0)) - 2).toNat = if isR wy.k then 23 else 0 := by
        cases isR wy.k <;> rfl
      have hJ2 : 0 ≤ 25 * (if isR wy.k = true then (1 : Int) else 0) ∧ 25 * (if isR wy.k = true then (1 : Int) else 0) ≤ 25 := by
        cases isR wy.k <;> decide
      have hJ3 : (if isR wy.k then 23 else 0) ≤ 23 := by
        cases isR wy.k <;> decide
      generalize hN : 25 * (if isR wy.k = true then (1 : Int) else 0) = N at *
      generalize hJn : (if isR wy.k then 23 else 0) = J at *
      walk_at "r"
      refine i_rng2 ⟨by decide, by decide, by omega, by omega⟩ (fun i σ'' H'' => ∃ (as : List Addr) (y2 : Option V), σ'' = [some v, some (.ref b), some (.int wy.t), some (.ref L), y, y2] ∧ Same H H'' ∧ H'' L = some (.lst (as.map V.ref)) ∧ LstsAt (hid [L] H'') as (go1 wy body wy.t.toNat ++ go2 wy body i))
        ⟨as, none, rfl, s3, eL3, by rw [show go2 wy body 0 = [] from rfl, List.append_nil]; exact hla⟩ (fun i σ'' H'' hi pv => ?_) (fun σ'' H'' pv => ?_)
      · obtain ⟨as, y2, rfl, s4, eL4, hla⟩ := pv
        have las := hla.len
        rw [List.length_append, go1_len, go2_len] at las
        have il : i < 23 := by omega
        have rp : (2 + (i : Int)).toNat = i + 2 := by omega
        have fin : ∀ z, 0 ≤ z ∧ z < wy.t → ∀ x ∈ body ++ List.replicate (i + 2) z, 0 ≤ x ∧ x < wy.t := fun z hz => app_in hin (rep_inT hz _)
        walk_at "r"
        refine i_lst (by show 1 ≤ sizeLine; decide) (fun p5 H5 hp5 s5 e5 => ?_)
        walk_at "r"
        refine i_rep1 e5 ⟨by omega, by omega⟩ (fun p6 H6 hp6 s6 e6 => ?_)
        rw [rp] at e6
        walk_at "r"
        refine i_cat (s6 _ _ (s5 _ _ (s4 _ _ eb))) e6 (sz (by rw [List.length_map, List.length_map, List.length_replicate]; omega)) (fun p7 H7 hp7 s7 e7 => ?_)
        rw [← List.map_append] at e7
        have s07 := ((s4.trans s5).trans s6).trans s7
        walk_at "r"
        refine ⟨v, p7, wy, body ++ List.replicate (i + 2) 0, rfl, hw.same s07, ok, sl_of e7, fin 0 ⟨by omega, by omega⟩, by rw [List.length_append, List.length_replicate]; omega, fun p8 H8 hp8 s8 e8 => ?_⟩
        have s48 := ((s5.trans s6).trans s7).trans s8
        have eL8 := s48 _ _ eL4
        have n8 : p8 ≠ L := (ne_of_none (s7 _ _ (s6 _ _ (s5 _ _ eL4))) hp8).symm
        have lsz : (as.map V.ref).length < sizeLine := szl (by rw [List.length_map]; omega)
        walk_at "r"
        have sA : Same H (upd H8 L (.lst (as.map V.ref ++ [.ref p8]))) := smut (s07.trans s8) hL0
        have eLA : upd H8 L (.lst (as.map V.ref ++ [.ref p8])) L = some (.lst ((as ++ [p8]).map V.ref)) := by rw [upd_same, List.map_append]; rfl
        have hlaA : LstsAt (hid [L] (upd H8 L (.lst (as.map V.ref ++ [.ref p8])))) (as ++ [p8]) ((go1 wy body wy.t.toNat ++ go2 wy body i) ++ [frameW wy (body ++ List.replicate (i + 2) 0)]) :=
          LstsAt.app (hla.same (hid_tr (hid_pure s48) (hid_up (hid_put List.mem_cons_self)))) ⟨hid_at (by simpa using n8) ((upd_ne n8).trans e8), trivial⟩
        generalize upd H8 L (.lst (as.map V.ref ++ [.ref p8])) = HA at *
        walk_at "r"
        refine i_lst (by show 1 ≤ sizeLine; decide) (fun p9 H9 hp9 s9 e9 => ?_)
        walk_at "r"
        refine i_rep1 e9 ⟨by omega, by omega⟩ (fun p10 H10 hp10 s10 e10 => ?_)
        rw [rp] at e10
        walk_at "r"
        refine i_cat (s10 _ _ (s9 _ _ (sA _ _ eb))) e10 (sz (by rw [List.length_map, List.length_map, List.length_replicate]; omega)) (fun p11 H11 hp11 s11 e11 => ?_)
        rw [← List.map_append] at e11
        have s0B := ((sA.trans s9).trans s10).trans s11
        walk_at "r"
        refine ⟨v, p11, wy, body ++ List.replicate (i + 2) (wy.t - 1), rfl, hw.same s0B, ok, sl_of e11, fin (wy.t - 1) ⟨by omega, by omega⟩, by rw [List.length_append, List.length_replicate]; omega, fun p12 H12 hp12 s12 e12 => ?_⟩
        have sAB := ((s9.trans s10).trans s11).trans s12
        have eLB := sAB _ _ eLA
        have nB : p12 ≠ L := (ne_of_none (s11 _ _ (s10 _ _ (s9 _ _ eLA))) hp12).symm
        have lsz2 : ((as ++ [p8]).map V.ref).length < sizeLine := szl (by rw [List.length_map, List.length_append, List.length_singleton]; omega)
        walk_at "r"
        refine ⟨(as ++ [p8]) ++ [p12], _, rfl, smut (s0B.trans s12) hL0, by rw [upd_same, List.map_append (l₁ := as ++ [p8])]; rfl, ?_⟩
        rw [go2_succ, show ∀ a b : List Int, [a, b] = [a] ++ [b] from fun _ _ => rfl, ← List.append_assoc, ← List.append_assoc]
        exact LstsAt.app (hlaA.same (hid_tr (hid_pure sAB) (hid_up (hid_put List.mem_cons_self)))) ⟨hid_at (by simpa using nB) ((upd_ne nB).trans e12), trivial⟩
      · obtain ⟨as, y2, rfl, s4, eL4, hla⟩ := pv
        rw [hN, hJ] at hla
        walk_at "r"
        have z := hla.same hid_same
        refine q L as _ hL0 s4 eL4 ?_
        unfold goA
        rw [hJn]
        exact z
end
end Esc

namespace Esc
open PySem PySem.Spec PyProof.Rows L2
theorem turnL_nil : ∀ ts : List (List Int), turnL ts [] = []
  | [] => rfl
  | _ :: ts => turnL_nil ts
theorem certW_nil (wy : Way) (ok : wy.Ok) : certW wy [] = [] := by
  have kind := ok.kind
  unfold certW
  rw [turnL_nil]
  generalize hk : wy.k = k at kind
  cases k with
  | codes cs => rfl
  | escapes m prs => rfl
  | ranks => rfl
  | counts l =>
    have k1 := kind.1
    rw [cnt_parts (b := []) (rs := []) (ls := []) k1 rfl, List.flatMap_nil, List.take_nil, groupB_last (row := []) (by show 0 < l.toNat - 1; omega)]
    rfl
theorem cert_mono (wy : Way) (ok : wy.Ok) (body : List Int) (x : Int) : certW wy body <+: certW wy (body ++ [x]) := by
  by_cases nr : wy.k = .ranks
  · have e : certW wy body = [] := by
      unfold certW
      rw [nr]
      rfl
    rw [e]
    exact List.nil_prefix
  · have a1 := cert_pre wy ok body [x]
    have a2 := cert_pre wy ok (body ++ [x]) []
    rw [List.append_nil] at a2
    have le : (certW wy body).length ≤ (certW wy (body ++ [x])).length := by
      refine Classical.byContradiction fun gt => ?_
      have at_ : ∀ more, (frameW wy (body ++ more))[(certW wy (body ++ [x])).length]? = (certW wy body)[(certW wy (body ++ [x])).length]? := fun more => by
        obtain ⟨y, hy⟩ := cert_pre wy ok body more
        rw [← hy, List.getElem?_append_left (by omega)]
      rcases cert_unlike wy ok (body ++ [x]) nr with ⟨s, _, ne⟩ | ⟨s, u, _, _, ne⟩
      · exact ne (by rw [at_ [x], List.append_assoc, at_])
      · exact ne (by rw [List.append_assoc, at_, List.append_assoc, at_])
    exact List.prefix_of_prefix_length_le a1 a2 le
theorem pre_drop {X Y : List Int} (h : X <+: Y) : X ++ Y.drop X.length = Y := by
  obtain ⟨z, rfl⟩ := h
  rw [List.drop_left]
theorem DiceAt.hid {H H1 : Hp} {S : List Addr} {d : Addr} (s : Same (hid S H) H1) (n : d ∉ S) (h : DiceAt H d) : DiceAt H1 d := by
  obtain ⟨x, c, rr, hd, k1, k2, k3, k4⟩ := h
  exact ⟨x, c, rr, s _ _ (hid_at n hd), k1, k2, k3, k4⟩
theorem goA_sizes {wy : Way} (ok : wy.Ok) {body : List Int} (hb : ∀ x ∈ body, 0 ≤ x ∧ x < wy.t) (hl : body.length ≤ 30) : (goA wy body)[0]? = some (frameW wy body) ∧ (goA wy body).length ≤ 1000 ∧ ∀ s ∈ goA wy body, s.length ≤ 1000 := by
  refine ⟨rfl, ?_, fun s hs => ?_⟩
  · unfold goA
    rw [List.length_append, go1_len, go2_len]
    have := ok.t16
    split <;> omega
  · obtain ⟨more, rfl, hm, lm⟩ := goA_mem ok hb hl s hs
    have := frameW_len ok hm
    omega
section
variable {P : Program} {w : World} {K : PySem.W.Frag} {mg : Str → Option Value} {base : Heap}
def spLaw (K : PySem.W.Frag) : Sp := fun vs H Q _ => ∃ (a : Addr) (ns : List Int), vs = [.ref a] ∧ SqL K H a (ns.map V.int) ∧ ns.length ≤ 63 ∧ ∀ H', Q (.bl true) H'
theorem c_law (Z : Blt mg) {CW : Addr} (T : Clx K mg "Writer" CW wrA) (c__law_dice : C8.Cal P w K mg base 1 "_law_dice" (spDice K) []) (c__law_way : C8.Cal P w K mg base 5 "_law_way" (spWay K) []) (c__law_top : C8.Cal P w K mg base 2 "_law_top" (spTopW K) []) (c__law_end : C8.Cal P w K mg base 2 "_law_end" (spEndW K) []) (c__law_off : C8.Cal P w K mg base 1 "_law_off" spOff [])
    (c__law_body : C8.Cal P w K mg base 2 "_law_body" spBody []) (c__law_common : C8.Cal P w K mg base 1 "_law_common" (spCommon K) []) (c__law_goings : C8.Cal P w K mg base 9 "_law_goings" (spGoings K) []) (c_framed : C8.Cal P w K mg base 8 "framed" (spFramed K) [])
    (c_Writer : C8.Mak P w K mg base 8 "Writer" CW (spWInit K CW) []) (c_Writer_put : C8.Met P w K mg base 6 CW "put" (spWPut K CW) []) (c_Writer_close : C8.Met P w K mg base 4 CW "close" (spWClose K CW) []) {f : Addr} {fd : FuncData} (F : C8.Def K mg "law" s_law f fd) : FnOk P w K mg base C8.CX0 11 f fd P_law (spLaw K) := by
  refine C8.fn0 F.fn sc_law (fun vs H Q E h => ?_) (fun cdv A outer s H vs Q E hr h => ?_)
  · obtain ⟨a, ns, rfl, _⟩ := h
    rfl
  · obtain ⟨a, ns, rfl, ha, hl, q⟩ := h
    have nd := sc_law.nd
    refine ⟨_, (pss_cons (ps_set (i := 1) nd rfl (Or.inl rfl) (C8.pe_c c__law_dice hr (by decide) (by rfl) (pa_cons (pv 0) (pa_cons pe_int pa_nil))))
  (pss_cons (ps_set (i := 2) nd rfl (Or.inl rfl) (C8.pe_c c__law_way hr (by decide) (by rfl) (pa_cons (pv 1) pa_nil)))
  (pss_cons (ps_set (i := 3) nd rfl (Or.inl rfl) (C8.pe_mk c_Writer hr (by decide) (by rfl) (pa_cons (pv 2) pa_nil)))
  (pss_cons (ps_for PassesOwn.never rfl (pi_range1 rfl Z.range_ (pa_cons pe_int pa_nil)) (pg_name (i := 4) nd rfl (Or.inl rfl))
    (pss_cons (ps_set (i := 5) nd rfl (Or.inl rfl) (C8.pe_c c__law_body hr (by decide) (by rfl) (pa_cons (pv 1) (pa_cons (C8.pe_c c__law_top hr (by decide) (by rfl) (pa_cons (pv 2) pa_nil)) (pa_cons (C8.pe_c c__law_end hr (by decide) (by rfl) (pa_cons (pv 2) pa_nil)) (pa_cons (pe_ix ix_list (pe_lst (pa_cons pe_int (pa_cons pe_int pa_nil))) (pe_callTy call_int1 (by rfl) Z.int_ (by decide +kernel) (pa_cons (pe_cmpR op_eq (C8.pe_c c__law_off hr (by decide) (by rfl) (pa_cons (pv 1) (pa_cons pe_int pa_nil))) pe_int (nomark _)) pa_nil)) (fun _ _ => rfl)) pa_nil))))))
  (pss_cons (ps_set (i := 6) nd rfl (Or.inl rfl) (pe_lst pa_nil))
  (pss_cons (ps_for PassesOwn.never rfl (pi_range1 rfl Z.range_ (pa_cons (pe_callB k_len (by rfl) Z.len_ (by decide +kernel) (pa_cons (pv 5) pa_nil)) pa_nil)) (pg_name (i := 7) nd rfl (Or.inl rfl))
    (pss_cons (ps_if (pt_cmpR (op_neD hr.units) (pv 6) (C8.pe_c c__law_common hr (by decide) (by rfl) (pa_cons (C8.pe_c c__law_goings hr (by decide) (by rfl) (pa_cons (pv 2) (pa_cons (pe_slice sl_list (pv 5) po_none (po_some (pv 7))) pa_nil))) pa_nil)) (nomark _)) (pss_one (ps_ret pe_bl)) pss_nil)
  (pss_one (ps_set (i := 6) nd rfl (Or.inl rfl) (pe_op op_cat (pv 6) (C8.pe_mt c_Writer_put hr (by decide) (pv 3) (pa_cons (pe_ix ix_list (pv 5) (pv 7) (fun _ _ => rfl)) pa_nil)))))))
  (pss_one (ps_if (PW.pt (pw_or (pt_cmpR (op_neD hr.units) (pv 6) (C8.pe_c c__law_common hr (by decide) (by rfl) (pa_cons (C8.pe_c c__law_goings hr (by decide) (by rfl) (pa_cons (pv 2) (pa_cons (pv 5) pa_nil))) pa_nil)) (nomark _)) (pw_or1 (pt_cmpR (op_neD hr.units) (pe_op op_cat (pv 6) (C8.pe_mt0 c_Writer_close hr (by decide) (pv 3))) (C8.pe_c c_framed hr (by decide) (by rfl) (pa_cons (pv 2) (pa_cons (pv 5) pa_nil))) (nomark _))))) (pss_one (ps_ret pe_bl)) pss_nil))))))
  (pss_one (ps_ret pe_bl)))))), ?_⟩
    refine i_start (σ' := [some (.ref a), none, none, none, none, none, none, none]) rfl ?_
    walk_at "go"
    walk_at "r"
    refine ⟨a, ns, 0, rfl, ha, by decide, by decide, hl, fun d H1 hd1 s1 d1 => ?_⟩
    walk_at "r"
    refine ⟨d, rfl, d1, fun H2 v wy ok s2 d2 hw => ?_⟩
    have t3 := ok.t3
    have t16 := ok.t16
    walk_at "r"
    refine i_mak (fun p dx H3 hp hdx ndx s3 ep edx => ?_)
    refine ⟨p, dx, v, wy, rfl, ep, (hw.same tp_same).same s3, ok, fun b H4 hb s4 R4 => ⟨rfl, ?_⟩⟩
    have s24 : Same H2 H4 := fun c o e => s4 c o (hid_at (by
      intro m
      rw [List.mem_singleton.mp m, hp] at e
      cases e) (s3 c o e))
    have npd := d2.ne hp
    have nbd := d2.ne (s3.free hb)
    have d4 := d2.same s24
    have hw4 := hw.same (tp_pure s24)
    walk_at "r"
    refine i_rng ⟨by decide, by decide⟩ (fun i σ' H' => ∃ (b : Addr) (y4 y5 y6 y7 : Option V), σ' = [some (.ref a), some (.ref d), some v, some (.ref p), y4, y5, y6, y7] ∧ DiceAt H' d ∧ WayAt K (tp H') v wy ∧ WrAt CW H' p b v [] 0 ∧ b ≠ d)
      ⟨b, none, none, none, none, rfl, d4, hw4, R4, nbd⟩ (fun i σ' H' hi pv => ?_) (fun σ' H' pv => ?_)
    · clear R4 hw4 d4 nbd s24 s4 hb
      obtain ⟨b, y4, y5, y6, y7, rfl, d5, hw5, R5, nbd⟩ := pv
      walk_at "r"
      refine ⟨v, wy, rfl, hw5.same tp_same, ?_⟩
      walk_at "r"
      refine ⟨v, wy, rfl, hw5.same tp_same, ?_⟩
      walk_at "r"
      refine i_lst (by show 2 ≤ sizeLine; decide) (fun p6 H6 hp6 s6 e6 => ?_)
      have d6 := d5.same s6
      have n6 := d5.ne hp6
      walk_at "r"
      refine ⟨d, 4, rfl, by decide, by decide, d6, fun H7 k s7 d7 k0 k1 => ?_⟩
      have e67 := hide_at s7 n6 e6
      have R7 := (R5.go s6).dice s7 npd nbd
      have hw7 := (hw5.same (tp_pure s6)).same (tp_dice d6 s7)
      walk_at "r"
      refine .inr ⟨_, rfl, ?_⟩
      obtain ⟨mx, hmx, hmx2⟩ : ∃ mx : Int, atI [V.int 12, V.int 30] (if decide (k = 0) = true then 1 else 0) = some (.int mx) ∧ 0 ≤ mx ∧ mx ≤ 30 := by
        cases decide (k = 0)
        · exact ⟨12, rfl, by decide⟩
        · exact ⟨30, rfl, by decide⟩
      walk_at "r"
      refine ⟨d, wy.t, wy.e, mx, rfl, d7, by omega, t16, ok.e0, ok.e1, by omega, by omega, fun B H8 body hB s8 d8 e8 hin hlen => ?_⟩
      have R8 := R7.dice s8 npd nbd
      have hw8 := hw7.same (tp_dice d7 s8)
      have nBd : B ≠ d := d7.ne hB
      obtain ⟨dx7, ep7⟩ := R7.ob
      have nBp : B ≠ p := (ne_of_none ep7 hB).symm
      have nBb : B ≠ b := (ne_of_none R7.ls hB).symm
      walk_at "r"
      refine i_lst (Nat.zero_le _) (fun T0 H9 hT0 s9 eT0 => ?_)
      have R9 := R8.go s9
      have e9 := s9 _ _ e8
      obtain ⟨dx8, ep8⟩ := R8.ob
      have nTp : T0 ≠ p := (ne_of_none ep8 hT0).symm
      have nTb : T0 ≠ b := (ne_of_none R8.ls hT0).symm
      walk_at "r"
      refine i_rng ⟨by omega, by omega⟩ (fun i σ' H' => ∃ (Tl : Addr) (y4 y7 : Option V), σ' = [some (.ref a), some (.ref d), some v, some (.ref p), y4, some (.ref B), some (.ref Tl), y7] ∧ DiceAt H' d ∧ WayAt K (tp H') v wy ∧ WrAt CW H' p b v (body.take i) (certW wy (body.take i)).length ∧ H' B = some (.lst (body.map V.int)) ∧ H' Tl = some (.lst ((certW wy (body.take i)).map V.int)) ∧ Tl ≠ p ∧ Tl ≠ b)
        ⟨T0, _, _, rfl, d8.same s9, hw8.same (tp_pure s9), by rw [List.take_zero, certW_nil wy ok]; exact R9, e9, by rw [List.take_zero, certW_nil wy ok]; exact eT0, nTp, nTb⟩ (fun i σ' H' hi pv => ?_) (fun σ' H' pv => ?_)
      · obtain ⟨Tl, y4, y7, rfl, d10, hw10, R10, eB, eT, nTp, nTb⟩ := pv
        have il : i < body.length := by omega
        have hx : body[i]? = some body[i] := List.getElem?_eq_getElem il
        have xin := hin _ (List.getElem_mem il)
        have tin : ∀ x ∈ body.take i, 0 ≤ x ∧ x < wy.t := take_in hin
        have tln : (body.take i).length ≤ 30 := by rw [List.length_take]; omega
        obtain ⟨g0, gl, gs⟩ := goA_sizes ok tin tln
        walk_at "r"
        refine i_slL (sl_of eB) (fun q11 H11 hq11 s11 e11 => ?_)
        rw [cut_to, ← List.map_take] at e11
        have hw11 := hw10.same (tp_pure s11)
        walk_at "r"
        refine ⟨v, q11, wy, body.take i, rfl, hw11.same tp_same, ok, e11, tin, tln, fun q12 as H12 hq12 s12 e12 hla => ?_⟩
        walk_at "r"
        refine ⟨q12, as, _, _, rfl, e12, hla, g0, gl, gs, fun q13 H13 m hq13 s13 h1 h2 e13 => ?_⟩
        have ecm := goA_common ok tin tln h1 h2
        rw [ecm] at e13
        have s03 := (s11.trans s12).trans s13
        walk_at "r"
        refine i_neL (sl_of (s03 _ _ eT)) (sl_of e13) ?_
        walk_at "r"
        refine i_nyes rfl ?_
        have R13 := R10.go s03
        obtain ⟨dx13, ep13⟩ := R13.ob
        have hw13 := hw10.same (tp_pure s03)
        have eB13 := s03 _ _ eB
        have eT13 := s03 _ _ eT
        have d13 := d10.same s03
        walk_at "r"
        refine i_met ep13 (wrF_no v b _ (by decide +kernel) (by decide +kernel) (by decide +kernel)) ?_
        have hat : atI (body.map V.int) (i : Int) = some (.int body[i]) := atI_nat (by rw [List.getElem?_map, hx]; rfl)
        walk_at "r"
        refine ⟨p, b, v, wy, body.take i, _, body[i], rfl, R13, hw13, ok, tin, by omega, xin.1, xin.2, fun q14 H14 hq14 s14 R14 e14 => ?_⟩
        have tk := take_succ' hx
        rw [← tk] at R14 e14
        have npb : ∀ c, c ≠ p → c ≠ b → c ∉ [p, b] := fun c n1 n2 => by simp [n1, n2]
        have eT14 := s14 _ _ (hid_at (npb _ nTp nTb) eT13)
        have eB14 := s14 _ _ (hid_at (npb _ nBp nBb) eB13)
        have d14 := d13.hid s14 (npb _ npd.symm nbd.symm)
        have hw14 := hw13.same (tp_hid R13.noT s14)
        have pd := pre_drop (cert_mono wy ok (body.take i) body[i])
        rw [← tk] at pd
        have tin2 : ∀ x ∈ body.take (i + 1), 0 ≤ x ∧ x < wy.t := take_in hin
        have fl := frameW_len ok tin2
        have cl1 : (certW wy (body.take (i + 1))).length ≤ 200 := by
          have z := (cert_pre wy ok (body.take (i + 1)) []).length_le
          rw [List.append_nil] at z
          rw [List.length_take] at fl
          omega
        have cl2 := (cert_mono wy ok (body.take i) body[i]).length_le
        rw [← tk] at cl2
        walk_at "r"
        refine i_cat eT14 e14 (sz (by rw [List.length_map, List.length_map, List.length_drop]; omega)) (fun T15 H15 hT15 s15 e15 => ?_)
        rw [← List.map_append, pd] at e15
        obtain ⟨dx14, ep14⟩ := R14.ob
        walk_at "r"
        exact ⟨T15, _, _, rfl, d14.same s15, hw14.same (tp_pure s15), R14.go s15, s15 _ _ eB14, e15, (ne_of_none ep14 hT15).symm, (ne_of_none R14.ls hT15).symm⟩
      · obtain ⟨Tl, y4, y7, rfl, d10, hw10, R10, eB, eT, nTp, nTb⟩ := pv
        rw [show ((body.length : Nat) : Int).toNat = body.length from rfl, List.take_length] at R10 eT
        have bl : body.length ≤ 30 := by omega
        obtain ⟨g0, gl, gs⟩ := goA_sizes ok hin bl
        walk_at "r"
        refine ⟨v, B, wy, body, rfl, hw10.same tp_same, ok, eB, hin, bl, fun q12 as H12 hq12 s12 e12 hla => ?_⟩
        walk_at "r"
        refine ⟨q12, as, _, _, rfl, e12, hla, g0, gl, gs, fun q13 H13 m hq13 s13 h1 h2 e13 => ?_⟩
        have ecm := goA_common ok hin bl h1 h2
        rw [ecm] at e13
        have s03 := s12.trans s13
        walk_at "r"
        refine i_neL (sl_of (s03 _ _ eT)) (sl_of e13) ?_
        walk_at "r"
        refine i_nyes rfl ?_
        have R13 := R10.go s03
        obtain ⟨dx13, ep13⟩ := R13.ob
        have hw13 := hw10.same (tp_pure s03)
        have eB13 := s03 _ _ eB
        have eT13 := s03 _ _ eT
        have d13 := d10.same s03
        walk_at "r"
        refine i_met ep13 (wrF_no v b _ (by decide +kernel) (by decide +kernel) (by decide +kernel)) ?_
        walk_at "r"
        refine ⟨p, b, v, wy, body, _, rfl, R13, hw13, ok, hin, by omega, fun q14 b' H14 hq14 hb' s14 R14 e14 => ?_⟩
        have np1 : ∀ c, c ≠ p → c ∉ [p] := fun c n1 => by simp [n1]
        have eT14 := s14 _ _ (hid_at (np1 _ nTp) eT13)
        have eB14 := s14 _ _ (hid_at (np1 _ nBp) eB13)
        have d14 := d13.hid s14 (np1 _ npd.symm)
        have hw14 := hw13.same (tp_hid (S := [p]) (fun c m o e => R13.noT c (by rw [List.mem_singleton.mp m]; exact List.mem_cons_self) o e) s14)
        have pre := cert_pre wy ok body []
        rw [List.append_nil] at pre
        have pd := pre_drop pre
        have fl := frameW_len ok hin
        have cl2 := pre.length_le
        walk_at "r"
        refine i_cat eT14 e14 (sz (by rw [List.length_map, List.length_map, List.length_drop]; omega)) (fun T15 H15 hT15 s15 e15 => ?_)
        rw [← List.map_append, pd] at e15
        walk_at "r"
        refine ⟨v, B, wy, body, rfl, (hw14.same tp_same).same s15, ok, sl_of (s15 _ _ eB14), hin, by omega, fun q16 H16 hq16 s16 e16 => ?_⟩
        walk_at "r"
        refine i_neL (sl_of (s16 _ _ e15)) (sl_of e16) ?_
        walk_at "r"
        refine i_nyes rfl ?_
        have s46 := s15.trans s16
        walk_at "r"
        exact ⟨b', _, _, _, _, rfl, d14.same s46, hw14.same (tp_pure s46), R14.go s46, d13.ne hb'⟩
    · obtain ⟨b, y4, y5, y6, y7, rfl, _⟩ := pv
      walk_at "r"
      exact q _
end
end Esc

namespace Esc
open PySem PySem.Spec PyProof.Rows L2
theorem dd_mk {K : PySem.W.Frag} {h : Heap} {mg : Str → Option Value} {x : Str} {st : Stmt} {ps : List Str} {f : Addr} {oc : Value} {od an : Option Addr} {sl : Array (Option Value)} {kV doc pm cdv ct : Value} (X : K.In h) (G : h.Ns mainGlobals mg)
    (a : PySem.W.nsIn K mainGlobals x = some (some (.ref f))) (l : K.lookup f = some ⟨oc, od, .func (PySem.W.fnOf x x (C8.fnArgs st) (C8.fnBody st) (C8.fnScope st) .none kV doc pm an cdv ct), sl⟩) (c : PySem.W.codeIn K cdv x = true) (k : PySem.W.keepIn K (.ref f) = true)
    (hb : ∀ (kV doc pm : Value) (an : Option Addr) (cdv ct : Value) (us : List Value), us.length = ps.length → bindArgs (PySem.W.fnOf x x (C8.fnArgs st) (C8.fnBody st) (C8.fnScope st) .none kV doc pm an cdv ct) ⟨us, []⟩ = pure (ps.zip us)) :
    ∃ fd, C8.Def K mg x st f fd ∧ Binds K fd ps [] :=
  ⟨_, ⟨⟨oc, od, .none, kV, doc, pm, an, cdv, ct, sl, rfl, l, c⟩, PySem.W.mg_of X G a, k⟩, C8.Fun.binds (F := ⟨oc, od, .none, kV, doc, pm, an, cdv, ct, sl, rfl, l, c⟩) rfl hb⟩
theorem kd_mk {K : PySem.W.Frag} {w : World} {a f : Addr} {x : Str} {es : Array DictEntry} {n : Nat} (l : K.lookup a = some ⟨.type "dict", none, .dict es n, #[]⟩) (kl : PySem.W.KeysLit w.params es.toList) (e : PySem.W.nsIn K a x = some (some (.ref f))) : KDct K w a x (.ref f) :=
  ⟨es, n, .ref f, l, kl, e, rfl⟩
theorem ki_mk {K : PySem.W.Frag} {w : World} {a : Addr} {x : Str} {i : Int} {u : Tok} {es : Array DictEntry} {n : Nat} (l : K.lookup a = some ⟨.type "dict", none, .dict es n, #[]⟩) (kl : PySem.W.KeysLit w.params es.toList) (e : PySem.W.nsIn K a x = some (some (.int i u))) : KDct K w a x (.int i) :=
  ⟨es, n, .int i u, l, kl, e, ⟨_, rfl⟩⟩
theorem gi_mk {K : PySem.W.Frag} {h : Heap} {mg : Str → Option Value} {x : Str} {i : Int} {t : Tok} (X : K.In h) (G : h.Ns mainGlobals mg) (a : PySem.W.nsIn K mainGlobals x = some (some (.int i t))) : GI mg x i := ⟨_, PySem.W.mg_of X G a, ⟨_, rfl⟩⟩
theorem gr_mk {K : PySem.W.Frag} {h : Heap} {mg : Str → Option Value} {x : Str} {b : Addr} (X : K.In h) (G : h.Ns mainGlobals mg) (a : PySem.W.nsIn K mainGlobals x = some (some (.ref b))) : GR mg x b := ⟨_, PySem.W.mg_of X G a, rfl⟩
/-- what the top leaves, all together -/
theorem dm_mk {K : PySem.W.Frag} {C : Addr} {m qual : Str} {st : Stmt} {ps : List Str} {f : Addr} {oc : Value} {od an : Option Addr} {sl : Array (Option Value)} {kV doc pm cdv ct : Value}
    (a : PySem.W.findIn K (.ref C) m = some (some (.ref f))) (i : PySem.W.isFn K (.ref f) = true) (l : K.lookup f = some ⟨oc, od, .func (PySem.W.fnOf m qual (C8.fnArgs st) (C8.fnBody st) (C8.fnScope st) .none kV doc pm an cdv ct), sl⟩) (c : PySem.W.codeIn K cdv qual = true) (k : PySem.W.keepIn K (.ref f) = true)
    (hb : ∀ (kV doc pm : Value) (an : Option Addr) (cdv ct : Value) (us : List Value), us.length = ps.length → bindArgs (PySem.W.fnOf m qual (C8.fnArgs st) (C8.fnBody st) (C8.fnScope st) .none kV doc pm an cdv ct) ⟨us, []⟩ = pure (ps.zip us)) : Dm K C m qual st ps :=
  ⟨f, _, ⟨a, i, k⟩, ⟨oc, od, .none, kV, doc, pm, an, cdv, ct, sl, rfl, l, c⟩, C8.Fun.binds (F := ⟨oc, od, .none, kV, doc, pm, an, cdv, ct, sl, rfl, l, c⟩) rfl hb⟩
theorem na_nil {K : PySem.W.Frag} {C : Addr} : ∀ f ∈ ([] : List Str), NoAttr K C f := fun f h => by cases h
theorem na_cons {K : PySem.W.Frag} {C : Addr} {f : Str} {fs : List Str} (h : PySem.W.findIn K (.ref C) f = some none) (t : ∀ g ∈ fs, NoAttr K C g) : ∀ g ∈ f :: fs, NoAttr K C g := fun g m => by
  rcases List.mem_cons.mp m with rfl | m
  · exact h
  · exact t g m
structure Top (K : PySem.W.Frag) (w : World) (mg : Str → Option Value) : Prop where
  Z : Blt mg
  d_rank_of : Dd K mg "rank_of" s_rank_of P_rank_of
  d_row_of : Dd K mg "row_of" s_row_of P_row_of
  d_need_way : Dd K mg "need_way" s_need_way P_need_way
  d_fault_of : Dd K mg "fault_of" s_fault_of P_fault_of
  d_unturned : Dd K mg "unturned" s_unturned P_unturned
  d_plain_signs : Dd K mg "plain_signs" s_plain_signs P_plain_signs
  d_first_unsigned : Dd K mg "first_unsigned" s_first_unsigned P_first_unsigned
  d_is_whole : Dd K mg "is_whole" s_is_whole P_is_whole
  d_is_top : Dd K mg "is_top" s_is_top P_is_top
  d_is_sign : Dd K mg "is_sign" s_is_sign P_is_sign
  d_is_plain : Dd K mg "is_plain" s_is_plain P_is_plain
  d_is_turning : Dd K mg "is_turning" s_is_turning P_is_turning
  d_codes_fault : Dd K mg "codes_fault" s_codes_fault P_codes_fault
  d_is_code : Dd K mg "is_code" s_is_code P_is_code
  d_stand_apart : Dd K mg "stand_apart" s_stand_apart P_stand_apart
  d_escapes_fault : Dd K mg "escapes_fault" s_escapes_fault P_escapes_fault
  d_counts_fault : Dd K mg "counts_fault" s_counts_fault P_counts_fault
  d_ranks_fault : Dd K mg "ranks_fault" s_ranks_fault P_ranks_fault
  d_framed : Dd K mg "framed" s_framed P_framed
  d_need_body : Dd K mg "need_body" s_need_body P_need_body
  d_top_of : Dd K mg "top_of" s_top_of P_top_of
  d_frame_of : Dd K mg "frame_of" s_frame_of P_frame_of
  d_exchanged : Dd K mg "exchanged" s_exchanged P_exchanged
  d_by_codes : Dd K mg "by_codes" s_by_codes P_by_codes
  d_by_escapes : Dd K mg "by_escapes" s_by_escapes P_by_escapes
  d_by_counts : Dd K mg "by_counts" s_by_counts P_by_counts
  d_rows_between : Dd K mg "rows_between" s_rows_between P_rows_between
  d_grouped : Dd K mg "grouped" s_grouped P_grouped
  d_by_ranks : Dd K mg "by_ranks" s_by_ranks P_by_ranks
  d_certain_of : Dd K mg "certain_of" s_certain_of P_certain_of
  d_certain_pieces : Dd K mg "certain_pieces" s_certain_pieces P_certain_pieces
  d_certain_groups : Dd K mg "certain_groups" s_certain_groups P_certain_groups
  d_certain_figures : Dd K mg "certain_figures" s_certain_figures P_certain_figures
  d__law_dice : Dd K mg "_law_dice" s__law_dice P__law_dice
  d__law_off : Dd K mg "_law_off" s__law_off P__law_off
  d__law_mixed : Dd K mg "_law_mixed" s__law_mixed P__law_mixed
  d__law_plain : Dd K mg "_law_plain" s__law_plain P__law_plain
  d__law_codes : Dd K mg "_law_codes" s__law_codes P__law_codes
  d__law_escapes : Dd K mg "_law_escapes" s__law_escapes P__law_escapes
  d__law_base : Dd K mg "_law_base" s__law_base P__law_base
  d__law_turned : Dd K mg "_law_turned" s__law_turned P__law_turned
  d__law_core : Dd K mg "_law_core" s__law_core P__law_core
  d__law_top : Dd K mg "_law_top" s__law_top P__law_top
  d__law_end : Dd K mg "_law_end" s__law_end P__law_end
  d__law_size : Dd K mg "_law_size" s__law_size P__law_size
  d__law_way : Dd K mg "_law_way" s__law_way P__law_way
  d__law_body : Dd K mg "_law_body" s__law_body P__law_body
  d__law_common : Dd K mg "_law_common" s__law_common P__law_common
  d__law_goings : Dd K mg "_law_goings" s__law_goings P__law_goings
  LEAST_TOP : GI mg "LEAST_TOP" 3
  MOST_TOP : GI mg "MOST_TOP" 16
  LONGEST_CODE : GI mg "LONGEST_CODE" 4
  MOST_TURNED : GI mg "MOST_TURNED" 3
  MOST_BODY : GI mg "MOST_BODY" 60
  tb_FAULTS : ∃ p, GR mg "FAULTS" p ∧ (∃ f, mg "codes_fault" = some (.ref f) ∧ KDct K w p "codes" (.ref f)) ∧ (∃ f, mg "escapes_fault" = some (.ref f) ∧ KDct K w p "escapes" (.ref f)) ∧ (∃ f, mg "counts_fault" = some (.ref f) ∧ KDct K w p "counts" (.ref f)) ∧ (∃ f, mg "ranks_fault" = some (.ref f) ∧ KDct K w p "ranks" (.ref f))
  tb_FRAMERS : ∃ p, GR mg "FRAMERS" p ∧ (∃ f, mg "by_codes" = some (.ref f) ∧ KDct K w p "codes" (.ref f)) ∧ (∃ f, mg "by_escapes" = some (.ref f) ∧ KDct K w p "escapes" (.ref f)) ∧ (∃ f, mg "by_counts" = some (.ref f) ∧ KDct K w p "counts" (.ref f)) ∧ (∃ f, mg "by_ranks" = some (.ref f) ∧ KDct K w p "ranks" (.ref f))
  tb_CERTAIN : ∃ p, GR mg "CERTAIN" p ∧ (∃ f, mg "certain_pieces" = some (.ref f) ∧ KDct K w p "codes" (.ref f)) ∧ (∃ f, mg "certain_pieces" = some (.ref f) ∧ KDct K w p "escapes" (.ref f)) ∧ (∃ f, mg "certain_groups" = some (.ref f) ∧ KDct K w p "counts" (.ref f)) ∧ (∃ f, mg "certain_figures" = some (.ref f) ∧ KDct K w p "ranks" (.ref f))
  cl_Writer : ∃ C, Clx K mg "Writer" C ["way", "body", "many_told"] ∧ Dm K C "__init__" "Writer.__init__" s_Writer___init__ P_Writer___init__ ∧ Dm K C "put" "Writer.put" s_Writer_put P_Writer_put ∧ Dm K C "close" "Writer.close" s_Writer_close P_Writer_close
set_option maxHeartbeats 0 in
theorem lawT {P : Program} {w : World} {K : PySem.W.Frag} {mg : Str → Option Value} {base : Heap} (T : Top K w mg) {f : Addr} {fd : FuncData} (F : C8.Def K mg "law" s_law f fd) : FnOk P w K mg base C8.CX0 11 f fd P_law (spLaw K) := by
  obtain ⟨p_FAULTS, g_FAULTS, ⟨f_FAULTS_codes, m_FAULTS_codes, n_FAULTS_codes⟩, ⟨f_FAULTS_escapes, m_FAULTS_escapes, n_FAULTS_escapes⟩, ⟨f_FAULTS_counts, m_FAULTS_counts, n_FAULTS_counts⟩, ⟨f_FAULTS_ranks, m_FAULTS_ranks, n_FAULTS_ranks⟩⟩ := T.tb_FAULTS
  obtain ⟨p_FRAMERS, g_FRAMERS, ⟨f_FRAMERS_codes, m_FRAMERS_codes, n_FRAMERS_codes⟩, ⟨f_FRAMERS_escapes, m_FRAMERS_escapes, n_FRAMERS_escapes⟩, ⟨f_FRAMERS_counts, m_FRAMERS_counts, n_FRAMERS_counts⟩, ⟨f_FRAMERS_ranks, m_FRAMERS_ranks, n_FRAMERS_ranks⟩⟩ := T.tb_FRAMERS
  obtain ⟨p_CERTAIN, g_CERTAIN, ⟨f_CERTAIN_codes, m_CERTAIN_codes, n_CERTAIN_codes⟩, ⟨f_CERTAIN_escapes, m_CERTAIN_escapes, n_CERTAIN_escapes⟩, ⟨f_CERTAIN_counts, m_CERTAIN_counts, n_CERTAIN_counts⟩, ⟨f_CERTAIN_ranks, m_CERTAIN_ranks, n_CERTAIN_ranks⟩⟩ := T.tb_CERTAIN
  obtain ⟨CW, t_Writer, d_Writer___init__, d_Writer_put, d_Writer_close⟩ := T.cl_Writer
  have h0 : C8.Cal P w K mg base 1 "is_whole" spWholeI [] := c_is_whole T.Z T.d_is_whole
  have h1 : C8.Cal P w K mg base 2 "is_sign" spSignI [] := c_is_sign T.Z h0 T.d_is_sign
  have h2 : C8.Cal P w K mg base 2 "is_top" spTopI [] := c_is_top T.Z h0 T.LEAST_TOP T.MOST_TOP T.d_is_top
  have h3 : C8.Cal P w K mg base 1 "plain_signs" spPlain [] := c_plain_signs T.Z T.d_plain_signs
  have h4 : C8.Cal P w K mg base 3 "first_unsigned" (spFirst K) [] := c_first_unsigned T.Z h1 T.d_first_unsigned
  have h5 : C8.Cal P w K mg base 1 "ranks_fault" spRanksFault [] := c_ranks_fault T.d_ranks_fault
  have h6 : C8.Cal P w K mg base 1 "rank_of" (spRankOf K) [] := c_rank_of T.Z T.d_rank_of
  have h7 : C8.Cal P w K mg base 1 "row_of" (spRowOf K) [] := c_row_of T.Z T.d_row_of
  have h8 : C8.Cal P w K mg base 1 "unturned" (spUnturned K) [] := c_unturned T.d_unturned
  have h9 : C8.Cal P w K mg base 1 "_law_off" spOff [] := c_off T.Z T.d__law_off
  have h10 : C8.Cal P w K mg base 1 "_law_dice" (spDice K) [] := c_dice T.Z T.d__law_dice
  have h11 : C8.Cal P w K mg base 1 "_law_plain" spPlain [] := c_law_plain T.Z T.d__law_plain
  have h12 : C8.Cal P w K mg base 2 "_law_size" spSize [] := c_law_size h9 T.d__law_size
  have h13 : C8.Cal P w K mg base 2 "_law_body" spBody [] := c_law_body T.Z h9 T.d__law_body
  have h14 : C8.Cal P w K mg base 2 "_law_mixed" (spMixed K) [] := c_mixed T.Z h9 T.d__law_mixed
  have h15 : C8.Cal P w K mg base 1 "_law_core" (spCore K) [] := c_core T.d__law_core
  have h16 : C8.Cal P w K mg base 2 "_law_top" (spTopW K) [] := c_top h15 T.d__law_top
  have h17 : C8.Cal P w K mg base 2 "_law_end" (spEndW K) [] := c_end h15 T.d__law_end
  have h18 : C8.Cal P w K mg base 3 "_law_turned" (spTurned K) [] := c_turned T.Z h9 h14 h16 T.d__law_turned
  have h19 : C8.Cal P w K mg base 3 "_law_codes" (spBase K) [] := c_codes T.Z h9 h11 h14 T.d__law_codes
  have h20 : C8.Cal P w K mg base 3 "_law_escapes" (spBase K) [] := c_escapes T.Z h9 h11 h14 T.d__law_escapes
  have h21 : C8.Cal P w K mg base 4 "_law_base" (spBaseT K) [] := c_base T.Z h9 h19 h20 T.d__law_base
  have h22 : C8.Cal P w K mg base 5 "_law_way" (spWay K) [] := c_way h12 h21 h18 T.d__law_way
  have h23 : C8.Cal P w K mg base 3 "is_plain" spPlainI [] := c_is_plain h1 T.d_is_plain
  have h24 : C8.Cal P w K mg base 2 "counts_fault" (spCountsF K) [] := c_counts_fault h0 T.d_counts_fault
  have h25 : C8.Cal P w K mg base 3 "first_unsigned" (spFirstT K) [] := c_first_unsignedT T.Z h1 T.d_first_unsigned
  have h26 : C8.Cal P w K mg base 4 "is_turning" (spTurnT K) [] := c_is_turning T.Z h25 T.d_is_turning
  have h27 : C8.Cal P w K mg base 4 "is_code" (spCodeI K) [] := c_is_code T.Z h23 T.LONGEST_CODE T.d_is_code
  have h28 : C8.Cal P w K mg base 1 "stand_apart" (spApart K) [] := c_stand_apart T.Z T.d_stand_apart
  have h29 : C8.Cal P w K mg base 5 "codes_fault" (spCodesF K) [] := c_codes_fault T.Z h27 h28 T.d_codes_fault
  have h30 : C8.Cal P w K mg base 4 "escapes_fault" (spEscF K) [] := c_escapes_fault T.Z h23 h4 T.d_escapes_fault
  have h31 : C8.Cal P w K mg base 6 "fault_of" (spNeedW K) [] := c_fault_of T.Z T.MOST_TURNED g_FAULTS ⟨⟨f_FAULTS_codes, m_FAULTS_codes, n_FAULTS_codes, h29⟩, ⟨f_FAULTS_escapes, m_FAULTS_escapes, n_FAULTS_escapes, h30⟩, ⟨f_FAULTS_counts, m_FAULTS_counts, n_FAULTS_counts, h24⟩, ⟨f_FAULTS_ranks, m_FAULTS_ranks, n_FAULTS_ranks, h5⟩⟩ h8 h2 h1 h26 T.d_fault_of
  have h32 : C8.Cal P w K mg base 7 "need_way" (spNeedW K) [] := c_need_way h31 T.d_need_way
  have h33 : C8.Cal P w K mg base 1 "by_codes" (spByK K isCodes rowOf) [] := c_by_codes T.d_by_codes
  have h34 : C8.Cal P w K mg base 1 "by_escapes" (spByK K isEscapes rowOf) [] := c_by_escapes T.d_by_escapes
  have h35 : C8.Cal P w K mg base 1 "rows_between" (spRows K) [] := c_rows_between T.d_rows_between
  have h36 : C8.Cal P w K mg base 1 "grouped" (spGroup K) [] := c_grouped T.Z T.d_grouped
  have h37 : C8.Cal P w K mg base 2 "by_counts" (spByK K isCounts rowOf) [] := c_by_counts T.Z h3 h35 h36 T.d_by_counts
  have h38 : C8.Cal P w K mg base 2 "by_ranks" (spByK K isRanks rowOf) [] := c_by_ranks T.Z h7 h6 h3 T.d_by_ranks
  have h39 : C8.Cal P w K mg base 1 "exchanged" (spExch K) [] := c_exchanged T.d_exchanged
  have h40 : C8.Cal P w K mg base 3 "frame_of" (spFrameW K) [] := c_frame_of g_FRAMERS ⟨⟨f_FRAMERS_codes, m_FRAMERS_codes, n_FRAMERS_codes, h33⟩, ⟨f_FRAMERS_escapes, m_FRAMERS_escapes, n_FRAMERS_escapes, h34⟩, ⟨f_FRAMERS_counts, m_FRAMERS_counts, n_FRAMERS_counts, h37⟩, ⟨f_FRAMERS_ranks, m_FRAMERS_ranks, n_FRAMERS_ranks, h38⟩⟩ h8 h39 T.d_frame_of
  have h41 : C8.Cal P w K mg base 0 "is_code" spNever [] := c_never T.d_is_code
  have h42 : C8.Cal P w K mg base 2 "top_of" (spTopOf K) [] := c_top_of h8 T.d_top_of
  have h43 : C8.Cal P w K mg base 4 "need_body" (spBodyN K 60) [] := c_need_body T.Z T.MOST_BODY h42 h4 T.d_need_body
  have h44 : C8.Cal P w K mg base 8 "framed" (spFramed K) [] := c_framed h32 h43 h40 T.d_framed
  have h45 : C8.Cal P w K mg base 4 "certain_pieces" (spByK K isPieces certK) [] := c_certain_pieces h40 T.d_certain_pieces
  have h46 : C8.Cal P w K mg base 1 "certain_figures" (spByK K isRanks certK) [] := c_certain_figures T.d_certain_figures
  have h47 : C8.Cal P w K mg base 2 "certain_groups" (spByK K isCounts certK) [] := c_certain_groups T.Z h3 h35 h36 T.d_certain_groups
  have h48 : C8.Cal P w K mg base 5 "certain_of" (spCertW K) [] := c_certain_of g_CERTAIN ⟨⟨f_CERTAIN_codes, m_CERTAIN_codes, n_CERTAIN_codes, h45⟩, ⟨f_CERTAIN_escapes, m_CERTAIN_escapes, n_CERTAIN_escapes, h45⟩, ⟨f_CERTAIN_counts, m_CERTAIN_counts, n_CERTAIN_counts, h47⟩, ⟨f_CERTAIN_ranks, m_CERTAIN_ranks, n_CERTAIN_ranks, h46⟩⟩ h8 h39 T.d_certain_of
  have h49 : C8.Mak P w K mg base 8 "Writer" CW (spWInit K CW) [] := c_Writer t_Writer h32 d_Writer___init__
  have h50 : C8.Met P w K mg base 6 CW "put" (spWPut K CW) [] := c_Writer_put T.Z t_Writer T.MOST_BODY h1 h42 h48 d_Writer_put
  have h51 : C8.Met P w K mg base 4 CW "close" (spWClose K CW) [] := c_Writer_close t_Writer h40 d_Writer_close
  have h52 : C8.Cal P w K mg base 1 "_law_common" (spCommon K) [] := c__law_common T.Z T.d__law_common
  have h53 : C8.Cal P w K mg base 9 "_law_goings" (spGoings K) [] := c__law_goings T.Z h16 h15 h44 T.d__law_goings
  exact c_law T.Z t_Writer h10 h22 h16 h17 h9 h13 h52 h53 h44 h49 h50 h51 F
theorem law_mk {l : PySem.W.OpenLaw} {w : World} {K : PySem.W.Frag} {h : Heap} {mg : Str → Option Value} {fa f : Addr} {oc : Value} {od an : Option Addr} {sl : Array (Option Value)} {kV doc pm cdv ct : Value} (X : K.In h) (G : h.Ns mainGlobals mg) (hfa : mg "law" = some (.ref fa))
    (a : PySem.W.nsIn K mainGlobals "law" = some (some (.ref f))) (lk : K.lookup f = some ⟨oc, od, .func (PySem.W.fnOf "law" "law" (C8.fnArgs s_law) (C8.fnBody s_law) (C8.fnScope s_law) .none kV doc pm an cdv ct), sl⟩) (c : PySem.W.codeIn K cdv "law" = true) (k : PySem.W.keepIn K (.ref f) = true)
    (T : Top K w mg) : ∃ fd : FuncData, (∀ (s : Shared) (v : Value), BindsTo s fd ⟨[v], []⟩ [("_law_script", v)]) ∧ ∀ base : Heap, K.In base → base.Ns mainGlobals mg → FnOk l.prog w K mg base C8.CX0 11 fa fd ["_law_script"] (spLaw K) := by
  have e := hfa.symm.trans (PySem.W.mg_of X G a)
  cases e
  exact ⟨PySem.W.fnOf "law" "law" (C8.fnArgs s_law) (C8.fnBody s_law) (C8.fnScope s_law) .none kV doc pm an cdv ct, fun s v => .of_eq rfl, fun base _ _ => lawT T ⟨⟨oc, od, .none, kV, doc, pm, an, cdv, ct, sl, rfl, lk, c⟩, hfa, k⟩⟩
set_option maxHeartbeats 0 in
theorem all_mk {l : PySem.W.OpenLaw} {w : World} {K : PySem.W.Frag} {h : Heap} {mg : Str → Option Value} {fa : Addr} (X : K.In h) (G : h.Ns mainGlobals mg) (hfa : mg "law" = some (.ref fa))
    {f_rank_of : Addr} {oc_rank_of : Value} {od_rank_of an_rank_of : Option Addr} {sl_rank_of : Array (Option Value)} {kV_rank_of dc_rank_of pm_rank_of cd_rank_of ct_rank_of : Value}
    {f_row_of : Addr} {oc_row_of : Value} {od_row_of an_row_of : Option Addr} {sl_row_of : Array (Option Value)} {kV_row_of dc_row_of pm_row_of cd_row_of ct_row_of : Value}
    {f_need_way : Addr} {oc_need_way : Value} {od_need_way an_need_way : Option Addr} {sl_need_way : Array (Option Value)} {kV_need_way dc_need_way pm_need_way cd_need_way ct_need_way : Value}
    {f_fault_of : Addr} {oc_fault_of : Value} {od_fault_of an_fault_of : Option Addr} {sl_fault_of : Array (Option Value)} {kV_fault_of dc_fault_of pm_fault_of cd_fault_of ct_fault_of : Value}
    {f_unturned : Addr} {oc_unturned : Value} {od_unturned an_unturned : Option Addr} {sl_unturned : Array (Option Value)} {kV_unturned dc_unturned pm_unturned cd_unturned ct_unturned : Value}
    {f_plain_signs : Addr} {oc_plain_signs : Value} {od_plain_signs an_plain_signs : Option Addr} {sl_plain_signs : Array (Option Value)} {kV_plain_signs dc_plain_signs pm_plain_signs cd_plain_signs ct_plain_signs : Value}
    {f_first_unsigned : Addr} {oc_first_unsigned : Value} {od_first_unsigned an_first_unsigned : Option Addr} {sl_first_unsigned : Array (Option Value)} {kV_first_unsigned dc_first_unsigned pm_first_unsigned cd_first_unsigned ct_first_unsigned : Value}
    {f_is_whole : Addr} {oc_is_whole : Value} {od_is_whole an_is_whole : Option Addr} {sl_is_whole : Array (Option Value)} {kV_is_whole dc_is_whole pm_is_whole cd_is_whole ct_is_whole : Value}
    {f_is_top : Addr} {oc_is_top : Value} {od_is_top an_is_top : Option Addr} {sl_is_top : Array (Option Value)} {kV_is_top dc_is_top pm_is_top cd_is_top ct_is_top : Value}
    {f_is_sign : Addr} {oc_is_sign : Value} {od_is_sign an_is_sign : Option Addr} {sl_is_sign : Array (Option Value)} {kV_is_sign dc_is_sign pm_is_sign cd_is_sign ct_is_sign : Value}
    {f_is_plain : Addr} {oc_is_plain : Value} {od_is_plain an_is_plain : Option Addr} {sl_is_plain : Array (Option Value)} {kV_is_plain dc_is_plain pm_is_plain cd_is_plain ct_is_plain : Value}
    {f_is_turning : Addr} {oc_is_turning : Value} {od_is_turning an_is_turning : Option Addr} {sl_is_turning : Array (Option Value)} {kV_is_turning dc_is_turning pm_is_turning cd_is_turning ct_is_turning : Value}
    {f_codes_fault : Addr} {oc_codes_fault : Value} {od_codes_fault an_codes_fault : Option Addr} {sl_codes_fault : Array (Option Value)} {kV_codes_fault dc_codes_fault pm_codes_fault cd_codes_fault ct_codes_fault : Value}
    {f_is_code : Addr} {oc_is_code : Value} {od_is_code an_is_code : Option Addr} {sl_is_code : Array (Option Value)} {kV_is_code dc_is_code pm_is_code cd_is_code ct_is_code : Value}
    {f_stand_apart : Addr} {oc_stand_apart : Value} {od_stand_apart an_stand_apart : Option Addr} {sl_stand_apart : Array (Option Value)} {kV_stand_apart dc_stand_apart pm_stand_apart cd_stand_apart ct_stand_apart : Value}
    {f_escapes_fault : Addr} {oc_escapes_fault : Value} {od_escapes_fault an_escapes_fault : Option Addr} {sl_escapes_fault : Array (Option Value)} {kV_escapes_fault dc_escapes_fault pm_escapes_fault cd_escapes_fault ct_escapes_fault : Value}
    {f_counts_fault : Addr} {oc_counts_fault : Value} {od_counts_fault an_counts_fault : Option Addr} {sl_counts_fault : Array (Option Value)} {kV_counts_fault dc_counts_fault pm_counts_fault cd_counts_fault ct_counts_fault : Value}
    {f_ranks_fault : Addr} {oc_ranks_fault : Value} {od_ranks_fault an_ranks_fault : Option Addr} {sl_ranks_fault : Array (Option Value)} {kV_ranks_fault dc_ranks_fault pm_ranks_fault cd_ranks_fault ct_ranks_fault : Value}
    {f_framed : Addr} {oc_framed : Value} {od_framed an_framed : Option Addr} {sl_framed : Array (Option Value)} {kV_framed dc_framed pm_framed cd_framed ct_framed : Value}
    {f_need_body : Addr} {oc_need_body : Value} {od_need_body an_need_body : Option Addr} {sl_need_body : Array (Option Value)} {kV_need_body dc_need_body pm_need_body cd_need_body ct_need_body : Value}
    {f_top_of : Addr} {oc_top_of : Value} {od_top_of an_top_of : Option Addr} {sl_top_of : Array (Option Value)} {kV_top_of dc_top_of pm_top_of cd_top_of ct_top_of : Value}
    {f_frame_of : Addr} {oc_frame_of : Value} {od_frame_of an_frame_of : Option Addr} {sl_frame_of : Array (Option Value)} {kV_frame_of dc_frame_of pm_frame_of cd_frame_of ct_frame_of : Value}
    {f_exchanged : Addr} {oc_exchanged : Value} {od_exchanged an_exchanged : Option Addr} {sl_exchanged : Array (Option Value)} {kV_exchanged dc_exchanged pm_exchanged cd_exchanged ct_exchanged : Value}
    {f_by_codes : Addr} {oc_by_codes : Value} {od_by_codes an_by_codes : Option Addr} {sl_by_codes : Array (Option Value)} {kV_by_codes dc_by_codes pm_by_codes cd_by_codes ct_by_codes : Value}
    {f_by_escapes : Addr} {oc_by_escapes : Value} {od_by_escapes an_by_escapes : Option Addr} {sl_by_escapes : Array (Option Value)} {kV_by_escapes dc_by_escapes pm_by_escapes cd_by_escapes ct_by_escapes : Value}
    {f_by_counts : Addr} {oc_by_counts : Value} {od_by_counts an_by_counts : Option Addr} {sl_by_counts : Array (Option Value)} {kV_by_counts dc_by_counts pm_by_counts cd_by_counts ct_by_counts : Value}
    {f_rows_between : Addr} {oc_rows_between : Value} {od_rows_between an_rows_between : Option Addr} {sl_rows_between : Array (Option Value)} {kV_rows_between dc_rows_between pm_rows_between cd_rows_between ct_rows_between : Value}
    {f_grouped : Addr} {oc_grouped : Value} {od_grouped an_grouped : Option Addr} {sl_grouped : Array (Option Value)} {kV_grouped dc_grouped pm_grouped cd_grouped ct_grouped : Value}
    {f_by_ranks : Addr} {oc_by_ranks : Value} {od_by_ranks an_by_ranks : Option Addr} {sl_by_ranks : Array (Option Value)} {kV_by_ranks dc_by_ranks pm_by_ranks cd_by_ranks ct_by_ranks : Value}
    {f_certain_of : Addr} {oc_certain_of : Value} {od_certain_of an_certain_of : Option Addr} {sl_certain_of : Array (Option Value)} {kV_certain_of dc_certain_of pm_certain_of cd_certain_of ct_certain_of : Value}
    {f_certain_pieces : Addr} {oc_certain_pieces : Value} {od_certain_pieces an_certain_pieces : Option Addr} {sl_certain_pieces : Array (Option Value)} {kV_certain_pieces dc_certain_pieces pm_certain_pieces cd_certain_pieces ct_certain_pieces : Value}
    {f_certain_groups : Addr} {oc_certain_groups : Value} {od_certain_groups an_certain_groups : Option Addr} {sl_certain_groups : Array (Option Value)} {kV_certain_groups dc_certain_groups pm_certain_groups cd_certain_groups ct_certain_groups : Value}
    {f_certain_figures : Addr} {oc_certain_figures : Value} {od_certain_figures an_certain_figures : Option Addr} {sl_certain_figures : Array (Option Value)} {kV_certain_figures dc_certain_figures pm_certain_figures cd_certain_figures ct_certain_figures : Value}
    {f__law_dice : Addr} {oc__law_dice : Value} {od__law_dice an__law_dice : Option Addr} {sl__law_dice : Array (Option Value)} {kV__law_dice dc__law_dice pm__law_dice cd__law_dice ct__law_dice : Value}
    {f__law_off : Addr} {oc__law_off : Value} {od__law_off an__law_off : Option Addr} {sl__law_off : Array (Option Value)} {kV__law_off dc__law_off pm__law_off cd__law_off ct__law_off : Value}
    {f__law_mixed : Addr} {oc__law_mixed : Value} {od__law_mixed an__law_mixed : Option Addr} {sl__law_mixed : Array (Option Value)} {kV__law_mixed dc__law_mixed pm__law_mixed cd__law_mixed ct__law_mixed : Value}
    {f__law_plain : Addr} {oc__law_plain : Value} {od__law_plain an__law_plain : Option Addr} {sl__law_plain : Array (Option Value)} {kV__law_plain dc__law_plain pm__law_plain cd__law_plain ct__law_plain : Value}
    {f__law_codes : Addr} {oc__law_codes : Value} {od__law_codes an__law_codes : Option Addr} {sl__law_codes : Array (Option Value)} {kV__law_codes dc__law_codes pm__law_codes cd__law_codes ct__law_codes : Value}
    {f__law_escapes : Addr} {oc__law_escapes : Value} {od__law_escapes an__law_escapes : Option Addr} {sl__law_escapes : Array (Option Value)} {kV__law_escapes dc__law_escapes pm__law_escapes cd__law_escapes ct__law_escapes : Value}
    {f__law_base : Addr} {oc__law_base : Value} {od__law_base an__law_base : Option Addr} {sl__law_base : Array (Option Value)} {kV__law_base dc__law_base pm__law_base cd__law_base ct__law_base : Value}
    {f__law_turned : Addr} {oc__law_turned : Value} {od__law_turned an__law_turned : Option Addr} {sl__law_turned : Array (Option Value)} {kV__law_turned dc__law_turned pm__law_turned cd__law_turned ct__law_turned : Value}
    {f__law_core : Addr} {oc__law_core : Value} {od__law_core an__law_core : Option Addr} {sl__law_core : Array (Option Value)} {kV__law_core dc__law_core pm__law_core cd__law_core ct__law_core : Value}
    {f__law_top : Addr} {oc__law_top : Value} {od__law_top an__law_top : Option Addr} {sl__law_top : Array (Option Value)} {kV__law_top dc__law_top pm__law_top cd__law_top ct__law_top : Value}
    {f__law_end : Addr} {oc__law_end : Value} {od__law_end an__law_end : Option Addr} {sl__law_end : Array (Option Value)} {kV__law_end dc__law_end pm__law_end cd__law_end ct__law_end : Value}
    {f__law_size : Addr} {oc__law_size : Value} {od__law_size an__law_size : Option Addr} {sl__law_size : Array (Option Value)} {kV__law_size dc__law_size pm__law_size cd__law_size ct__law_size : Value}
    {f__law_way : Addr} {oc__law_way : Value} {od__law_way an__law_way : Option Addr} {sl__law_way : Array (Option Value)} {kV__law_way dc__law_way pm__law_way cd__law_way ct__law_way : Value}
    {f__law_body : Addr} {oc__law_body : Value} {od__law_body an__law_body : Option Addr} {sl__law_body : Array (Option Value)} {kV__law_body dc__law_body pm__law_body cd__law_body ct__law_body : Value}
    {f__law_common : Addr} {oc__law_common : Value} {od__law_common an__law_common : Option Addr} {sl__law_common : Array (Option Value)} {kV__law_common dc__law_common pm__law_common cd__law_common ct__law_common : Value}
    {f__law_goings : Addr} {oc__law_goings : Value} {od__law_goings an__law_goings : Option Addr} {sl__law_goings : Array (Option Value)} {kV__law_goings dc__law_goings pm__law_goings cd__law_goings ct__law_goings : Value}
    {f_law : Addr} {oc_law : Value} {od_law an_law : Option Addr} {sl_law : Array (Option Value)} {kV_law dc_law pm_law cd_law ct_law : Value}
    {t_LEAST_TOP : Tok}
    {t_MOST_TOP : Tok}
    {t_LONGEST_CODE : Tok}
    {t_MOST_TURNED : Tok}
    {t_MOST_BODY : Tok}
    {p_FAULTS : Addr} {es_FAULTS : Array DictEntry} {n_FAULTS : Nat}
    {p_FRAMERS : Addr} {es_FRAMERS : Array DictEntry} {n_FRAMERS : Nat}
    {p_CERTAIN : Addr} {es_CERTAIN : Array DictEntry} {n_CERTAIN : Nat}
    {C_Writer : Addr}
    {f_Writer___init__ : Addr} {oc_Writer___init__ : Value} {od_Writer___init__ an_Writer___init__ : Option Addr} {sl_Writer___init__ : Array (Option Value)} {kV_Writer___init__ dc_Writer___init__ pm_Writer___init__ cd_Writer___init__ ct_Writer___init__ : Value}
    {f_Writer_put : Addr} {oc_Writer_put : Value} {od_Writer_put an_Writer_put : Option Addr} {sl_Writer_put : Array (Option Value)} {kV_Writer_put dc_Writer_put pm_Writer_put cd_Writer_put ct_Writer_put : Value}
    {f_Writer_close : Addr} {oc_Writer_close : Value} {od_Writer_close an_Writer_close : Option Addr} {sl_Writer_close : Array (Option Value)} {kV_Writer_close dc_Writer_close pm_Writer_close cd_Writer_close ct_Writer_close : Value}
    (z_abs : PySem.W.nsIn K mainGlobals "abs" = some none)
    (z_all : PySem.W.nsIn K mainGlobals "all" = some none)
    (z_enumerate : PySem.W.nsIn K mainGlobals "enumerate" = some none)
    (z_int : PySem.W.nsIn K mainGlobals "int" = some none)
    (z_len : PySem.W.nsIn K mainGlobals "len" = some none)
    (z_list : PySem.W.nsIn K mainGlobals "list" = some none)
    (z_min : PySem.W.nsIn K mainGlobals "min" = some none)
    (z_range : PySem.W.nsIn K mainGlobals "range" = some none)
    (z_set : PySem.W.nsIn K mainGlobals "set" = some none)
    (z_sorted : PySem.W.nsIn K mainGlobals "sorted" = some none)
    (z_tuple : PySem.W.nsIn K mainGlobals "tuple" = some none)
    (z_type : PySem.W.nsIn K mainGlobals "type" = some none)
    (a_rank_of : PySem.W.nsIn K mainGlobals "rank_of" = some (some (.ref f_rank_of))) (l_rank_of : K.lookup f_rank_of = some ⟨oc_rank_of, od_rank_of, .func (PySem.W.fnOf "rank_of" "rank_of" (C8.fnArgs s_rank_of) (C8.fnBody s_rank_of) (C8.fnScope s_rank_of) .none kV_rank_of dc_rank_of pm_rank_of an_rank_of cd_rank_of ct_rank_of), sl_rank_of⟩) (c_rank_of : PySem.W.codeIn K cd_rank_of "rank_of" = true) (k_rank_of : PySem.W.keepIn K (.ref f_rank_of) = true)
    (a_row_of : PySem.W.nsIn K mainGlobals "row_of" = some (some (.ref f_row_of))) (l_row_of : K.lookup f_row_of = some ⟨oc_row_of, od_row_of, .func (PySem.W.fnOf "row_of" "row_of" (C8.fnArgs s_row_of) (C8.fnBody s_row_of) (C8.fnScope s_row_of) .none kV_row_of dc_row_of pm_row_of an_row_of cd_row_of ct_row_of), sl_row_of⟩) (c_row_of : PySem.W.codeIn K cd_row_of "row_of" = true) (k_row_of : PySem.W.keepIn K (.ref f_row_of) = true)
    (a_need_way : PySem.W.nsIn K mainGlobals "need_way" = some (some (.ref f_need_way))) (l_need_way : K.lookup f_need_way = some ⟨oc_need_way, od_need_way, .func (PySem.W.fnOf "need_way" "need_way" (C8.fnArgs s_need_way) (C8.fnBody s_need_way) (C8.fnScope s_need_way) .none kV_need_way dc_need_way pm_need_way an_need_way cd_need_way ct_need_way), sl_need_way⟩) (c_need_way : PySem.W.codeIn K cd_need_way "need_way" = true) (k_need_way : PySem.W.keepIn K (.ref f_need_way) = true)
    (a_fault_of : PySem.W.nsIn K mainGlobals "fault_of" = some (some (.ref f_fault_of))) (l_fault_of : K.lookup f_fault_of = some ⟨oc_fault_of, od_fault_of, .func (PySem.W.fnOf "fault_of" "fault_of" (C8.fnArgs s_fault_of) (C8.fnBody s_fault_of) (C8.fnScope s_fault_of) .none kV_fault_of dc_fault_of pm_fault_of an_fault_of cd_fault_of ct_fault_of), sl_fault_of⟩) (c_fault_of : PySem.W.codeIn K cd_fault_of "fault_of" = true) (k_fault_of : PySem.W.keepIn K (.ref f_fault_of) = true)
    (a_unturned : PySem.W.nsIn K mainGlobals "unturned" = some (some (.ref f_unturned))) (l_unturned : K.lookup f_unturned = some ⟨oc_unturned, od_unturned, .func (PySem.W.fnOf "unturned" "unturned" (C8.fnArgs s_unturned) (C8.fnBody s_unturned) (C8.fnScope s_unturned) .none kV_unturned dc_unturned pm_unturned an_unturned cd_unturned ct_unturned), sl_unturned⟩) (c_unturned : PySem.W.codeIn K cd_unturned "unturned" = true) (k_unturned : PySem.W.keepIn K (.ref f_unturned) = true)
    (a_plain_signs : PySem.W.nsIn K mainGlobals "plain_signs" = some (some (.ref f_plain_signs))) (l_plain_signs : K.lookup f_plain_signs = some ⟨oc_plain_signs, od_plain_signs, .func (PySem.W.fnOf "plain_signs" "plain_signs" (C8.fnArgs s_plain_signs) (C8.fnBody s_plain_signs) (C8.fnScope s_plain_signs) .none kV_plain_signs dc_plain_signs pm_plain_signs an_plain_signs cd_plain_signs ct_plain_signs), sl_plain_signs⟩) (c_plain_signs : PySem.W.codeIn K cd_plain_signs "plain_signs" = true) (k_plain_signs : PySem.W.keepIn K (.ref f_plain_signs) = true)
    (a_first_unsigned : PySem.W.nsIn K mainGlobals "first_unsigned" = some (some (.ref f_first_unsigned))) (l_first_unsigned : K.lookup f_first_unsigned = some ⟨oc_first_unsigned, od_first_unsigned, .func (PySem.W.fnOf "first_unsigned" "first_unsigned" (C8.fnArgs s_first_unsigned) (C8.fnBody s_first_unsigned) (C8.fnScope s_first_unsigned) .none kV_first_unsigned dc_first_unsigned pm_first_unsigned an_first_unsigned cd_first_unsigned ct_first_unsigned), sl_first_unsigned⟩) (c_first_unsigned : PySem.W.codeIn K cd_first_unsigned "first_unsigned" = true) (k_first_unsigned : PySem.W.keepIn K (.ref f_first_unsigned) = true)
    (a_is_whole : PySem.W.nsIn K mainGlobals "is_whole" = some (some (.ref f_is_whole))) (l_is_whole : K.lookup f_is_whole = some ⟨oc_is_whole, od_is_whole, .func (PySem.W.fnOf "is_whole" "is_whole" (C8.fnArgs s_is_whole) (C8.fnBody s_is_whole) (C8.fnScope s_is_whole) .none kV_is_whole dc_is_whole pm_is_whole an_is_whole cd_is_whole ct_is_whole), sl_is_whole⟩) (c_is_whole : PySem.W.codeIn K cd_is_whole "is_whole" = true) (k_is_whole : PySem.W.keepIn K (.ref f_is_whole) = true)
    (a_is_top : PySem.W.nsIn K mainGlobals "is_top" = some (some (.ref f_is_top))) (l_is_top : K.lookup f_is_top = some ⟨oc_is_top, od_is_top, .func (PySem.W.fnOf "is_top" "is_top" (C8.fnArgs s_is_top) (C8.fnBody s_is_top) (C8.fnScope s_is_top) .none kV_is_top dc_is_top pm_is_top an_is_top cd_is_top ct_is_top), sl_is_top⟩) (c_is_top : PySem.W.codeIn K cd_is_top "is_top" = true) (k_is_top : PySem.W.keepIn K (.ref f_is_top) = true)
    (a_is_sign : PySem.W.nsIn K mainGlobals "is_sign" = some (some (.ref f_is_sign))) (l_is_sign : K.lookup f_is_sign = some ⟨oc_is_sign, od_is_sign, .func (PySem.W.fnOf "is_sign" "is_sign" (C8.fnArgs s_is_sign) (C8.fnBody s_is_sign) (C8.fnScope s_is_sign) .none kV_is_sign dc_is_sign pm_is_sign an_is_sign cd_is_sign ct_is_sign), sl_is_sign⟩) (c_is_sign : PySem.W.codeIn K cd_is_sign "is_sign" = true) (k_is_sign : PySem.W.keepIn K (.ref f_is_sign) = true)
    (a_is_plain : PySem.W.nsIn K mainGlobals "is_plain" = some (some (.ref f_is_plain))) (l_is_plain : K.lookup f_is_plain = some ⟨oc_is_plain, od_is_plain, .func (PySem.W.fnOf "is_plain" "is_plain" (C8.fnArgs s_is_plain) (C8.fnBody s_is_plain) (C8.fnScope s_is_plain) .none kV_is_plain dc_is_plain pm_is_plain an_is_plain cd_is_plain ct_is_plain), sl_is_plain⟩) (c_is_plain : PySem.W.codeIn K cd_is_plain "is_plain" = true) (k_is_plain : PySem.W.keepIn K (.ref f_is_plain) = true)
    (a_is_turning : PySem.W.nsIn K mainGlobals "is_turning" = some (some (.ref f_is_turning))) (l_is_turning : K.lookup f_is_turning = some ⟨oc_is_turning, od_is_turning, .func (PySem.W.fnOf "is_turning" "is_turning" (C8.fnArgs s_is_turning) (C8.fnBody s_is_turning) (C8.fnScope s_is_turning) .none kV_is_turning dc_is_turning pm_is_turning an_is_turning cd_is_turning ct_is_turning), sl_is_turning⟩) (c_is_turning : PySem.W.codeIn K cd_is_turning "is_turning" = true) (k_is_turning : PySem.W.keepIn K (.ref f_is_turning) = true)
    (a_codes_fault : PySem.W.nsIn K mainGlobals "codes_fault" = some (some (.ref f_codes_fault))) (l_codes_fault : K.lookup f_codes_fault = some ⟨oc_codes_fault, od_codes_fault, .func (PySem.W.fnOf "codes_fault" "codes_fault" (C8.fnArgs s_codes_fault) (C8.fnBody s_codes_fault) (C8.fnScope s_codes_fault) .none kV_codes_fault dc_codes_fault pm_codes_fault an_codes_fault cd_codes_fault ct_codes_fault), sl_codes_fault⟩) (c_codes_fault : PySem.W.codeIn K cd_codes_fault "codes_fault" = true) (k_codes_fault : PySem.W.keepIn K (.ref f_codes_fault) = true)
    (a_is_code : PySem.W.nsIn K mainGlobals "is_code" = some (some (.ref f_is_code))) (l_is_code : K.lookup f_is_code = some ⟨oc_is_code, od_is_code, .func (PySem.W.fnOf "is_code" "is_code" (C8.fnArgs s_is_code) (C8.fnBody s_is_code) (C8.fnScope s_is_code) .none kV_is_code dc_is_code pm_is_code an_is_code cd_is_code ct_is_code), sl_is_code⟩) (c_is_code : PySem.W.codeIn K cd_is_code "is_code" = true) (k_is_code : PySem.W.keepIn K (.ref f_is_code) = true)
    (a_stand_apart : PySem.W.nsIn K mainGlobals "stand_apart" = some (some (.ref f_stand_apart))) (l_stand_apart : K.lookup f_stand_apart = some ⟨oc_stand_apart, od_stand_apart, .func (PySem.W.fnOf "stand_apart" "stand_apart" (C8.fnArgs s_stand_apart) (C8.fnBody s_stand_apart) (C8.fnScope s_stand_apart) .none kV_stand_apart dc_stand_apart pm_stand_apart an_stand_apart cd_stand_apart ct_stand_apart), sl_stand_apart⟩) (c_stand_apart : PySem.W.codeIn K cd_stand_apart "stand_apart" = true) (k_stand_apart : PySem.W.keepIn K (.ref f_stand_apart) = true)
    (a_escapes_fault : PySem.W.nsIn K mainGlobals "escapes_fault" = some (some (.ref f_escapes_fault))) (l_escapes_fault : K.lookup f_escapes_fault = some ⟨oc_escapes_fault, od_escapes_fault, .func (PySem.W.fnOf "escapes_fault" "escapes_fault" (C8.fnArgs s_escapes_fault) (C8.fnBody s_escapes_fault) (C8.fnScope s_escapes_fault) .none kV_escapes_fault dc_escapes_fault pm_escapes_fault an_escapes_fault cd_escapes_fault ct_escapes_fault), sl_escapes_fault⟩) (c_escapes_fault : PySem.W.codeIn K cd_escapes_fault "escapes_fault" = true) (k_escapes_fault : PySem.W.keepIn K (.ref f_escapes_fault) = true)
    (a_counts_fault : PySem.W.nsIn K mainGlobals "counts_fault" = some (some (.ref f_counts_fault))) (l_counts_fault : K.lookup f_counts_fault = some ⟨oc_counts_fault, od_counts_fault, .func (PySem.W.fnOf "counts_fault" "counts_fault" (C8.fnArgs s_counts_fault) (C8.fnBody s_counts_fault) (C8.fnScope s_counts_fault) .none kV_counts_fault dc_counts_fault pm_counts_fault an_counts_fault cd_counts_fault ct_counts_fault), sl_counts_fault⟩) (c_counts_fault : PySem.W.codeIn K cd_counts_fault "counts_fault" = true) (k_counts_fault : PySem.W.keepIn K (.ref f_counts_fault) = true)
    (a_ranks_fault : PySem.W.nsIn K mainGlobals "ranks_fault" = some (some (.ref f_ranks_fault))) (l_ranks_fault : K.lookup f_ranks_fault = some ⟨oc_ranks_fault, od_ranks_fault, .func (PySem.W.fnOf "ranks_fault" "ranks_fault" (C8.fnArgs s_ranks_fault) (C8.fnBody s_ranks_fault) (C8.fnScope s_ranks_fault) .none kV_ranks_fault dc_ranks_fault pm_ranks_fault an_ranks_fault cd_ranks_fault ct_ranks_fault), sl_ranks_fault⟩) (c_ranks_fault : PySem.W.codeIn K cd_ranks_fault "ranks_fault" = true) (k_ranks_fault : PySem.W.keepIn K (.ref f_ranks_fault) = true)
    (a_framed : PySem.W.nsIn K mainGlobals "framed" = some (some (.ref f_framed))) (l_framed : K.lookup f_framed = some ⟨oc_framed, od_framed, .func (PySem.W.fnOf "framed" "framed" (C8.fnArgs s_framed) (C8.fnBody s_framed) (C8.fnScope s_framed) .none kV_framed dc_framed pm_framed an_framed cd_framed ct_framed), sl_framed⟩) (c_framed : PySem.W.codeIn K cd_framed "framed" = true) (k_framed : PySem.W.keepIn K (.ref f_framed) = true)
    (a_need_body : PySem.W.nsIn K mainGlobals "need_body" = some (some (.ref f_need_body))) (l_need_body : K.lookup f_need_body = some ⟨oc_need_body, od_need_body, .func (PySem.W.fnOf "need_body" "need_body" (C8.fnArgs s_need_body) (C8.fnBody s_need_body) (C8.fnScope s_need_body) .none kV_need_body dc_need_body pm_need_body an_need_body cd_need_body ct_need_body), sl_need_body⟩) (c_need_body : PySem.W.codeIn K cd_need_body "need_body" = true) (k_need_body : PySem.W.keepIn K (.ref f_need_body) = true)
    (a_top_of : PySem.W.nsIn K mainGlobals "top_of" = some (some (.ref f_top_of))) (l_top_of : K.lookup f_top_of = some ⟨oc_top_of, od_top_of, .func (PySem.W.fnOf "top_of" "top_of" (C8.fnArgs s_top_of) (C8.fnBody s_top_of) (C8.fnScope s_top_of) .none kV_top_of dc_top_of pm_top_of an_top_of cd_top_of ct_top_of), sl_top_of⟩) (c_top_of : PySem.W.codeIn K cd_top_of "top_of" = true) (k_top_of : PySem.W.keepIn K (.ref f_top_of) = true)
    (a_frame_of : PySem.W.nsIn K mainGlobals "frame_of" = some (some (.ref f_frame_of))) (l_frame_of : K.lookup f_frame_of = some ⟨oc_frame_of, od_frame_of, .func (PySem.W.fnOf "frame_of" "frame_of" (C8.fnArgs s_frame_of) (C8.fnBody s_frame_of) (C8.fnScope s_frame_of) .none kV_frame_of dc_frame_of pm_frame_of an_frame_of cd_frame_of ct_frame_of), sl_frame_of⟩) (c_frame_of : PySem.W.codeIn K cd_frame_of "frame_of" = true) (k_frame_of : PySem.W.keepIn K (.ref f_frame_of) = true)
    (a_exchanged : PySem.W.nsIn K mainGlobals "exchanged" = some (some (.ref f_exchanged))) (l_exchanged : K.lookup f_exchanged = some ⟨oc_exchanged, od_exchanged, .func (PySem.W.fnOf "exchanged" "exchanged" (C8.fnArgs s_exchanged) (C8.fnBody s_exchanged) (C8.fnScope s_exchanged) .none kV_exchanged dc_exchanged pm_exchanged an_exchanged cd_exchanged ct_exchanged), sl_exchanged⟩) (c_exchanged : PySem.W.codeIn K cd_exchanged "exchanged" = true) (k_exchanged : PySem.W.keepIn K (.ref f_exchanged) = true)
    (a_by_codes : PySem.W.nsIn K mainGlobals "by_codes" = some (some (.ref f_by_codes))) (l_by_codes : K.lookup f_by_codes = some ⟨oc_by_codes, od_by_codes, .func (PySem.W.fnOf "by_codes" "by_codes" (C8.fnArgs s_by_codes) (C8.fnBody s_by_codes) (C8.fnScope s_by_codes) .none kV_by_codes dc_by_codes pm_by_codes an_by_codes cd_by_codes ct_by_codes), sl_by_codes⟩) (c_by_codes : PySem.W.codeIn K cd_by_codes "by_codes" = true) (k_by_codes : PySem.W.keepIn K (.ref f_by_codes) = true)
    (a_by_escapes : PySem.W.nsIn K mainGlobals "by_escapes" = some (some (.ref f_by_escapes))) (l_by_escapes : K.lookup f_by_escapes = some ⟨oc_by_escapes, od_by_escapes, .func (PySem.W.fnOf "by_escapes" "by_escapes" (C8.fnArgs s_by_escapes) (C8.fnBody s_by_escapes) (C8.fnScope s_by_escapes) .none kV_by_escapes dc_by_escapes pm_by_escapes an_by_escapes cd_by_escapes ct_by_escapes), sl_by_escapes⟩) (c_by_escapes : PySem.W.codeIn K cd_by_escapes "by_escapes" = true) (k_by_escapes : PySem.W.keepIn K (.ref f_by_escapes) = true)
    (a_by_counts : PySem.W.nsIn K mainGlobals "by_counts" = some (some (.ref f_by_counts))) (l_by_counts : K.lookup f_by_counts = some ⟨oc_by_counts, od_by_counts, .func (PySem.W.fnOf "by_counts" "by_counts" (C8.fnArgs s_by_counts) (C8.fnBody s_by_counts) (C8.fnScope s_by_counts) .none kV_by_counts dc_by_counts pm_by_counts an_by_counts cd_by_counts ct_by_counts), sl_by_counts⟩) (c_by_counts : PySem.W.codeIn K cd_by_counts "by_counts" = true) (k_by_counts : PySem.W.keepIn K (.ref f_by_counts) = true)
    (a_rows_between : PySem.W.nsIn K mainGlobals "rows_between" = some (some (.ref f_rows_between))) (l_rows_between : K.lookup f_rows_between = some ⟨oc_rows_between, od_rows_between, .func (PySem.W.fnOf "rows_between" "rows_between" (C8.fnArgs s_rows_between) (C8.fnBody s_rows_between) (C8.fnScope s_rows_between) .none kV_rows_between dc_rows_between pm_rows_between an_rows_between cd_rows_between ct_rows_between), sl_rows_between⟩) (c_rows_between : PySem.W.codeIn K cd_rows_between "rows_between" = true) (k_rows_between : PySem.W.keepIn K (.ref f_rows_between) = true)
    (a_grouped : PySem.W.nsIn K mainGlobals "grouped" = some (some (.ref f_grouped))) (l_grouped : K.lookup f_grouped = some ⟨oc_grouped, od_grouped, .func (PySem.W.fnOf "grouped" "grouped" (C8.fnArgs s_grouped) (C8.fnBody s_grouped) (C8.fnScope s_grouped) .none kV_grouped dc_grouped pm_grouped an_grouped cd_grouped ct_grouped), sl_grouped⟩) (c_grouped : PySem.W.codeIn K cd_grouped "grouped" = true) (k_grouped : PySem.W.keepIn K (.ref f_grouped) = true)
    (a_by_ranks : PySem.W.nsIn K mainGlobals "by_ranks" = some (some (.ref f_by_ranks))) (l_by_ranks : K.lookup f_by_ranks = some ⟨oc_by_ranks, od_by_ranks, .func (PySem.W.fnOf "by_ranks" "by_ranks" (C8.fnArgs s_by_ranks) (C8.fnBody s_by_ranks) (C8.fnScope s_by_ranks) .none kV_by_ranks dc_by_ranks pm_by_ranks an_by_ranks cd_by_ranks ct_by_ranks), sl_by_ranks⟩) (c_by_ranks : PySem.W.codeIn K cd_by_ranks "by_ranks" = true) (k_by_ranks : PySem.W.keepIn K (.ref f_by_ranks) = true)
    (a_certain_of : PySem.W.nsIn K mainGlobals "certain_of" = some (some (.ref f_certain_of))) (l_certain_of : K.lookup f_certain_of = some ⟨oc_certain_of, od_certain_of, .func (PySem.W.fnOf "certain_of" "certain_of" (C8.fnArgs s_certain_of) (C8.fnBody s_certain_of) (C8.fnScope s_certain_of) .none kV_certain_of dc_certain_of pm_certain_of an_certain_of cd_certain_of ct_certain_of), sl_certain_of⟩) (c_certain_of : PySem.W.codeIn K cd_certain_of "certain_of" = true) (k_certain_of : PySem.W.keepIn K (.ref f_certain_of) = true)
    (a_certain_pieces : PySem.W.nsIn K mainGlobals "certain_pieces" = some (some (.ref f_certain_pieces))) (l_certain_pieces : K.lookup f_certain_pieces = some ⟨oc_certain_pieces, od_certain_pieces, .func (PySem.W.fnOf "certain_pieces" "certain_pieces" (C8.fnArgs s_certain_pieces) (C8.fnBody s_certain_pieces) (C8.fnScope s_certain_pieces) .none kV_certain_pieces dc_certain_pieces pm_certain_pieces an_certain_pieces cd_certain_pieces ct_certain_pieces), sl_certain_pieces⟩) (c_certain_pieces : PySem.W.codeIn K cd_certain_pieces "certain_pieces" = true) (k_certain_pieces : PySem.W.keepIn K (.ref f_certain_pieces) = true)
    (a_certain_groups : PySem.W.nsIn K mainGlobals "certain_groups" = some (some (.ref f_certain_groups))) (l_certain_groups : K.lookup f_certain_groups = some ⟨oc_certain_groups, od_certain_groups, .func (PySem.W.fnOf "certain_groups" "certain_groups" (C8.fnArgs s_certain_groups) (C8.fnBody s_certain_groups) (C8.fnScope s_certain_groups) .none kV_certain_groups dc_certain_groups pm_certain_groups an_certain_groups cd_certain_groups ct_certain_groups), sl_certain_groups⟩) (c_certain_groups : PySem.W.codeIn K cd_certain_groups "certain_groups" = true) (k_certain_groups : PySem.W.keepIn K (.ref f_certain_groups) = true)
    (a_certain_figures : PySem.W.nsIn K mainGlobals "certain_figures" = some (some (.ref f_certain_figures))) (l_certain_figures : K.lookup f_certain_figures = some ⟨oc_certain_figures, od_certain_figures, .func (PySem.W.fnOf "certain_figures" "certain_figures" (C8.fnArgs s_certain_figures) (C8.fnBody s_certain_figures) (C8.fnScope s_certain_figures) .none kV_certain_figures dc_certain_figures pm_certain_figures an_certain_figures cd_certain_figures ct_certain_figures), sl_certain_figures⟩) (c_certain_figures : PySem.W.codeIn K cd_certain_figures "certain_figures" = true) (k_certain_figures : PySem.W.keepIn K (.ref f_certain_figures) = true)
    (a__law_dice : PySem.W.nsIn K mainGlobals "_law_dice" = some (some (.ref f__law_dice))) (l__law_dice : K.lookup f__law_dice = some ⟨oc__law_dice, od__law_dice, .func (PySem.W.fnOf "_law_dice" "_law_dice" (C8.fnArgs s__law_dice) (C8.fnBody s__law_dice) (C8.fnScope s__law_dice) .none kV__law_dice dc__law_dice pm__law_dice an__law_dice cd__law_dice ct__law_dice), sl__law_dice⟩) (c__law_dice : PySem.W.codeIn K cd__law_dice "_law_dice" = true) (k__law_dice : PySem.W.keepIn K (.ref f__law_dice) = true)
    (a__law_off : PySem.W.nsIn K mainGlobals "_law_off" = some (some (.ref f__law_off))) (l__law_off : K.lookup f__law_off = some ⟨oc__law_off, od__law_off, .func (PySem.W.fnOf "_law_off" "_law_off" (C8.fnArgs s__law_off) (C8.fnBody s__law_off) (C8.fnScope s__law_off) .none kV__law_off dc__law_off pm__law_off an__law_off cd__law_off ct__law_off), sl__law_off⟩) (c__law_off : PySem.W.codeIn K cd__law_off "_law_off" = true) (k__law_off : PySem.W.keepIn K (.ref f__law_off) = true)
    (a__law_mixed : PySem.W.nsIn K mainGlobals "_law_mixed" = some (some (.ref f__law_mixed))) (l__law_mixed : K.lookup f__law_mixed = some ⟨oc__law_mixed, od__law_mixed, .func (PySem.W.fnOf "_law_mixed" "_law_mixed" (C8.fnArgs s__law_mixed) (C8.fnBody s__law_mixed) (C8.fnScope s__law_mixed) .none kV__law_mixed dc__law_mixed pm__law_mixed an__law_mixed cd__law_mixed ct__law_mixed), sl__law_mixed⟩) (c__law_mixed : PySem.W.codeIn K cd__law_mixed "_law_mixed" = true) (k__law_mixed : PySem.W.keepIn K (.ref f__law_mixed) = true)
    (a__law_plain : PySem.W.nsIn K mainGlobals "_law_plain" = some (some (.ref f__law_plain))) (l__law_plain : K.lookup f__law_plain = some ⟨oc__law_plain, od__law_plain, .func (PySem.W.fnOf "_law_plain" "_law_plain" (C8.fnArgs s__law_plain) (C8.fnBody s__law_plain) (C8.fnScope s__law_plain) .none kV__law_plain dc__law_plain pm__law_plain an__law_plain cd__law_plain ct__law_plain), sl__law_plain⟩) (c__law_plain : PySem.W.codeIn K cd__law_plain "_law_plain" = true) (k__law_plain : PySem.W.keepIn K (.ref f__law_plain) = true)
    (a__law_codes : PySem.W.nsIn K mainGlobals "_law_codes" = some (some (.ref f__law_codes))) (l__law_codes : K.lookup f__law_codes = some ⟨oc__law_codes, od__law_codes, .func (PySem.W.fnOf "_law_codes" "_law_codes" (C8.fnArgs s__law_codes) (C8.fnBody s__law_codes) (C8.fnScope s__law_codes) .none kV__law_codes dc__law_codes pm__law_codes an__law_codes cd__law_codes ct__law_codes), sl__law_codes⟩) (c__law_codes : PySem.W.codeIn K cd__law_codes "_law_codes" = true) (k__law_codes : PySem.W.keepIn K (.ref f__law_codes) = true)
    (a__law_escapes : PySem.W.nsIn K mainGlobals "_law_escapes" = some (some (.ref f__law_escapes))) (l__law_escapes : K.lookup f__law_escapes = some ⟨oc__law_escapes, od__law_escapes, .func (PySem.W.fnOf "_law_escapes" "_law_escapes" (C8.fnArgs s__law_escapes) (C8.fnBody s__law_escapes) (C8.fnScope s__law_escapes) .none kV__law_escapes dc__law_escapes pm__law_escapes an__law_escapes cd__law_escapes ct__law_escapes), sl__law_escapes⟩) (c__law_escapes : PySem.W.codeIn K cd__law_escapes "_law_escapes" = true) (k__law_escapes : PySem.W.keepIn K (.ref f__law_escapes) = true)
    (a__law_base : PySem.W.nsIn K mainGlobals "_law_base" = some (some (.ref f__law_base))) (l__law_base : K.lookup f__law_base = some ⟨oc__law_base, od__law_base, .func (PySem.W.fnOf "_law_base" "_law_base" (C8.fnArgs s__law_base) (C8.fnBody s__law_base) (C8.fnScope s__law_base) .none kV__law_base dc__law_base pm__law_base an__law_base cd__law_base ct__law_base), sl__law_base⟩) (c__law_base : PySem.W.codeIn K cd__law_base "_law_base" = true) (k__law_base : PySem.W.keepIn K (.ref f__law_base) = true)
    (a__law_turned : PySem.W.nsIn K mainGlobals "_law_turned" = some (some (.ref f__law_turned))) (l__law_turned : K.lookup f__law_turned = some ⟨oc__law_turned, od__law_turned, .func (PySem.W.fnOf "_law_turned" "_law_turned" (C8.fnArgs s__law_turned) (C8.fnBody s__law_turned) (C8.fnScope s__law_turned) .none kV__law_turned dc__law_turned pm__law_turned an__law_turned cd__law_turned ct__law_turned), sl__law_turned⟩) (c__law_turned : PySem.W.codeIn K cd__law_turned "_law_turned" = true) (k__law_turned : PySem.W.keepIn K (.ref f__law_turned) = true)
    (a__law_core : PySem.W.nsIn K mainGlobals "_law_core" = some (some (.ref f__law_core))) (l__law_core : K.lookup f__law_core = some ⟨oc__law_core, od__law_core, .func (PySem.W.fnOf "_law_core" "_law_core" (C8.fnArgs s__law_core) (C8.fnBody s__law_core) (C8.fnScope s__law_core) .none kV__law_core dc__law_core pm__law_core an__law_core cd__law_core ct__law_core), sl__law_core⟩) (c__law_core : PySem.W.codeIn K cd__law_core "_law_core" = true) (k__law_core : PySem.W.keepIn K (.ref f__law_core) = true)
    (a__law_top : PySem.W.nsIn K mainGlobals "_law_top" = some (some (.ref f__law_top))) (l__law_top : K.lookup f__law_top = some ⟨oc__law_top, od__law_top, .func (PySem.W.fnOf "_law_top" "_law_top" (C8.fnArgs s__law_top) (C8.fnBody s__law_top) (C8.fnScope s__law_top) .none kV__law_top dc__law_top pm__law_top an__law_top cd__law_top ct__law_top), sl__law_top⟩) (c__law_top : PySem.W.codeIn K cd__law_top "_law_top" = true) (k__law_top : PySem.W.keepIn K (.ref f__law_top) = true)
    (a__law_end : PySem.W.nsIn K mainGlobals "_law_end" = some (some (.ref f__law_end))) (l__law_end : K.lookup f__law_end = some ⟨oc__law_end, od__law_end, .func (PySem.W.fnOf "_law_end" "_law_end" (C8.fnArgs s__law_end) (C8.fnBody s__law_end) (C8.fnScope s__law_end) .none kV__law_end dc__law_end pm__law_end an__law_end cd__law_end ct__law_end), sl__law_end⟩) (c__law_end : PySem.W.codeIn K cd__law_end "_law_end" = true) (k__law_end : PySem.W.keepIn K (.ref f__law_end) = true)
    (a__law_size : PySem.W.nsIn K mainGlobals "_law_size" = some (some (.ref f__law_size))) (l__law_size : K.lookup f__law_size = some ⟨oc__law_size, od__law_size, .func (PySem.W.fnOf "_law_size" "_law_size" (C8.fnArgs s__law_size) (C8.fnBody s__law_size) (C8.fnScope s__law_size) .none kV__law_size dc__law_size pm__law_size an__law_size cd__law_size ct__law_size), sl__law_size⟩) (c__law_size : PySem.W.codeIn K cd__law_size "_law_size" = true) (k__law_size : PySem.W.keepIn K (.ref f__law_size) = true)
    (a__law_way : PySem.W.nsIn K mainGlobals "_law_way" = some (some (.ref f__law_way))) (l__law_way : K.lookup f__law_way = some ⟨oc__law_way, od__law_way, .func (PySem.W.fnOf "_law_way" "_law_way" (C8.fnArgs s__law_way) (C8.fnBody s__law_way) (C8.fnScope s__law_way) .none kV__law_way dc__law_way pm__law_way an__law_way cd__law_way ct__law_way), sl__law_way⟩) (c__law_way : PySem.W.codeIn K cd__law_way "_law_way" = true) (k__law_way : PySem.W.keepIn K (.ref f__law_way) = true)
    (a__law_body : PySem.W.nsIn K mainGlobals "_law_body" = some (some (.ref f__law_body))) (l__law_body : K.lookup f__law_body = some ⟨oc__law_body, od__law_body, .func (PySem.W.fnOf "_law_body" "_law_body" (C8.fnArgs s__law_body) (C8.fnBody s__law_body) (C8.fnScope s__law_body) .none kV__law_body dc__law_body pm__law_body an__law_body cd__law_body ct__law_body), sl__law_body⟩) (c__law_body : PySem.W.codeIn K cd__law_body "_law_body" = true) (k__law_body : PySem.W.keepIn K (.ref f__law_body) = true)
    (a__law_common : PySem.W.nsIn K mainGlobals "_law_common" = some (some (.ref f__law_common))) (l__law_common : K.lookup f__law_common = some ⟨oc__law_common, od__law_common, .func (PySem.W.fnOf "_law_common" "_law_common" (C8.fnArgs s__law_common) (C8.fnBody s__law_common) (C8.fnScope s__law_common) .none kV__law_common dc__law_common pm__law_common an__law_common cd__law_common ct__law_common), sl__law_common⟩) (c__law_common : PySem.W.codeIn K cd__law_common "_law_common" = true) (k__law_common : PySem.W.keepIn K (.ref f__law_common) = true)
    (a__law_goings : PySem.W.nsIn K mainGlobals "_law_goings" = some (some (.ref f__law_goings))) (l__law_goings : K.lookup f__law_goings = some ⟨oc__law_goings, od__law_goings, .func (PySem.W.fnOf "_law_goings" "_law_goings" (C8.fnArgs s__law_goings) (C8.fnBody s__law_goings) (C8.fnScope s__law_goings) .none kV__law_goings dc__law_goings pm__law_goings an__law_goings cd__law_goings ct__law_goings), sl__law_goings⟩) (c__law_goings : PySem.W.codeIn K cd__law_goings "_law_goings" = true) (k__law_goings : PySem.W.keepIn K (.ref f__law_goings) = true)
    (a_law : PySem.W.nsIn K mainGlobals "law" = some (some (.ref f_law))) (l_law : K.lookup f_law = some ⟨oc_law, od_law, .func (PySem.W.fnOf "law" "law" (C8.fnArgs s_law) (C8.fnBody s_law) (C8.fnScope s_law) .none kV_law dc_law pm_law an_law cd_law ct_law), sl_law⟩) (c_law : PySem.W.codeIn K cd_law "law" = true) (k_law : PySem.W.keepIn K (.ref f_law) = true)
    (g_LEAST_TOP : PySem.W.nsIn K mainGlobals "LEAST_TOP" = some (some (.int 3 t_LEAST_TOP)))
    (g_MOST_TOP : PySem.W.nsIn K mainGlobals "MOST_TOP" = some (some (.int 16 t_MOST_TOP)))
    (g_LONGEST_CODE : PySem.W.nsIn K mainGlobals "LONGEST_CODE" = some (some (.int 4 t_LONGEST_CODE)))
    (g_MOST_TURNED : PySem.W.nsIn K mainGlobals "MOST_TURNED" = some (some (.int 3 t_MOST_TURNED)))
    (g_MOST_BODY : PySem.W.nsIn K mainGlobals "MOST_BODY" = some (some (.int 60 t_MOST_BODY)))
    (g_FAULTS : PySem.W.nsIn K mainGlobals "FAULTS" = some (some (.ref p_FAULTS))) (m_FAULTS : K.lookup p_FAULTS = some ⟨.type "dict", none, .dict es_FAULTS n_FAULTS, #[]⟩) (e_FAULTS : PySem.W.KeysLit w.params es_FAULTS.toList)
    (h_FAULTS_codes : PySem.W.nsIn K p_FAULTS "codes" = some (some (.ref f_codes_fault)))
    (h_FAULTS_escapes : PySem.W.nsIn K p_FAULTS "escapes" = some (some (.ref f_escapes_fault)))
    (h_FAULTS_counts : PySem.W.nsIn K p_FAULTS "counts" = some (some (.ref f_counts_fault)))
    (h_FAULTS_ranks : PySem.W.nsIn K p_FAULTS "ranks" = some (some (.ref f_ranks_fault)))
    (g_FRAMERS : PySem.W.nsIn K mainGlobals "FRAMERS" = some (some (.ref p_FRAMERS))) (m_FRAMERS : K.lookup p_FRAMERS = some ⟨.type "dict", none, .dict es_FRAMERS n_FRAMERS, #[]⟩) (e_FRAMERS : PySem.W.KeysLit w.params es_FRAMERS.toList)
    (h_FRAMERS_codes : PySem.W.nsIn K p_FRAMERS "codes" = some (some (.ref f_by_codes)))
    (h_FRAMERS_escapes : PySem.W.nsIn K p_FRAMERS "escapes" = some (some (.ref f_by_escapes)))
    (h_FRAMERS_counts : PySem.W.nsIn K p_FRAMERS "counts" = some (some (.ref f_by_counts)))
    (h_FRAMERS_ranks : PySem.W.nsIn K p_FRAMERS "ranks" = some (some (.ref f_by_ranks)))
    (g_CERTAIN : PySem.W.nsIn K mainGlobals "CERTAIN" = some (some (.ref p_CERTAIN))) (m_CERTAIN : K.lookup p_CERTAIN = some ⟨.type "dict", none, .dict es_CERTAIN n_CERTAIN, #[]⟩) (e_CERTAIN : PySem.W.KeysLit w.params es_CERTAIN.toList)
    (h_CERTAIN_codes : PySem.W.nsIn K p_CERTAIN "codes" = some (some (.ref f_certain_pieces)))
    (h_CERTAIN_escapes : PySem.W.nsIn K p_CERTAIN "escapes" = some (some (.ref f_certain_pieces)))
    (h_CERTAIN_counts : PySem.W.nsIn K p_CERTAIN "counts" = some (some (.ref f_certain_groups)))
    (h_CERTAIN_ranks : PySem.W.nsIn K p_CERTAIN "ranks" = some (some (.ref f_certain_figures)))
    (aC_Writer : PySem.W.nsIn K mainGlobals "Writer" = some (some (.ref C_Writer))) (pg_Writer : PySem.W.plainGet K C_Writer Str.empty = true) (hd_Writer : PySem.W.hasDictIn K C_Writer = true) (po_Writer : PySem.W.plainOver K C_Writer = true) (sa_Writer : PySem.W.findIn K (.ref C_Writer) "__setattr__" = some (some (.builtin "object.__setattr__"))) (mk_Writer : PySem.W.makesIn K C_Writer = true) (kc_Writer : PySem.W.keepIn K (.ref C_Writer) = true)
    (n_Writer_way : PySem.W.findIn K (.ref C_Writer) "way" = some none)
    (n_Writer_body : PySem.W.findIn K (.ref C_Writer) "body" = some none)
    (n_Writer_many_told : PySem.W.findIn K (.ref C_Writer) "many_told" = some none)
    (a_Writer___init__ : PySem.W.findIn K (.ref C_Writer) "__init__" = some (some (.ref f_Writer___init__))) (i_Writer___init__ : PySem.W.isFn K (.ref f_Writer___init__) = true) (l_Writer___init__ : K.lookup f_Writer___init__ = some ⟨oc_Writer___init__, od_Writer___init__, .func (PySem.W.fnOf "__init__" "Writer.__init__" (C8.fnArgs s_Writer___init__) (C8.fnBody s_Writer___init__) (C8.fnScope s_Writer___init__) .none kV_Writer___init__ dc_Writer___init__ pm_Writer___init__ an_Writer___init__ cd_Writer___init__ ct_Writer___init__), sl_Writer___init__⟩) (c_Writer___init__ : PySem.W.codeIn K cd_Writer___init__ "Writer.__init__" = true) (k_Writer___init__ : PySem.W.keepIn K (.ref f_Writer___init__) = true)
    (a_Writer_put : PySem.W.findIn K (.ref C_Writer) "put" = some (some (.ref f_Writer_put))) (i_Writer_put : PySem.W.isFn K (.ref f_Writer_put) = true) (l_Writer_put : K.lookup f_Writer_put = some ⟨oc_Writer_put, od_Writer_put, .func (PySem.W.fnOf "put" "Writer.put" (C8.fnArgs s_Writer_put) (C8.fnBody s_Writer_put) (C8.fnScope s_Writer_put) .none kV_Writer_put dc_Writer_put pm_Writer_put an_Writer_put cd_Writer_put ct_Writer_put), sl_Writer_put⟩) (c_Writer_put : PySem.W.codeIn K cd_Writer_put "Writer.put" = true) (k_Writer_put : PySem.W.keepIn K (.ref f_Writer_put) = true)
    (a_Writer_close : PySem.W.findIn K (.ref C_Writer) "close" = some (some (.ref f_Writer_close))) (i_Writer_close : PySem.W.isFn K (.ref f_Writer_close) = true) (l_Writer_close : K.lookup f_Writer_close = some ⟨oc_Writer_close, od_Writer_close, .func (PySem.W.fnOf "close" "Writer.close" (C8.fnArgs s_Writer_close) (C8.fnBody s_Writer_close) (C8.fnScope s_Writer_close) .none kV_Writer_close dc_Writer_close pm_Writer_close an_Writer_close cd_Writer_close ct_Writer_close), sl_Writer_close⟩) (c_Writer_close : PySem.W.codeIn K cd_Writer_close "Writer.close" = true) (k_Writer_close : PySem.W.keepIn K (.ref f_Writer_close) = true) :
    ∃ fd : FuncData, (∀ (s : Shared) (v : Value), BindsTo s fd ⟨[v], []⟩ [("_law_script", v)]) ∧ ∀ base : Heap, K.In base → base.Ns mainGlobals mg → FnOk l.prog w K mg base C8.CX0 11 fa fd ["_law_script"] (spLaw K) := by
  have T : Top K w mg := ⟨⟨PySem.W.mg_none_of X G z_abs, PySem.W.mg_none_of X G z_all, PySem.W.mg_none_of X G z_enumerate, PySem.W.mg_none_of X G z_int, PySem.W.mg_none_of X G z_len, PySem.W.mg_none_of X G z_list, PySem.W.mg_none_of X G z_min, PySem.W.mg_none_of X G z_range, PySem.W.mg_none_of X G z_set, PySem.W.mg_none_of X G z_sorted, PySem.W.mg_none_of X G z_tuple, PySem.W.mg_none_of X G z_type⟩, ⟨⟨f_rank_of, dd_mk X G a_rank_of l_rank_of c_rank_of k_rank_of fun _ _ _ _ _ _ us hl => match us, hl with | [_, _], _ => rfl⟩⟩, ⟨⟨f_row_of, dd_mk X G a_row_of l_row_of c_row_of k_row_of fun _ _ _ _ _ _ us hl => match us, hl with | [_, _], _ => rfl⟩⟩, ⟨⟨f_need_way, dd_mk X G a_need_way l_need_way c_need_way k_need_way fun _ _ _ _ _ _ us hl => match us, hl with | [_], _ => rfl⟩⟩, ⟨⟨f_fault_of, dd_mk X G a_fault_of l_fault_of c_fault_of k_fault_of fun _ _ _ _ _ _ us hl => match us, hl with | [_], _ => rfl⟩⟩, ⟨⟨f_unturned, dd_mk X G a_unturned l_unturned c_unturned k_unturned fun _ _ _ _ _ _ us hl => match us, hl with | [_], _ => rfl⟩⟩, ⟨⟨f_plain_signs, dd_mk X G a_plain_signs l_plain_signs c_plain_signs k_plain_signs fun _ _ _ _ _ _ us hl => match us, hl with | [_, _], _ => rfl⟩⟩, ⟨⟨f_first_unsigned, dd_mk X G a_first_unsigned l_first_unsigned c_first_unsigned k_first_unsigned fun _ _ _ _ _ _ us hl => match us, hl with | [_, _], _ => rfl⟩⟩, ⟨⟨f_is_whole, dd_mk X G a_is_whole l_is_whole c_is_whole k_is_whole fun _ _ _ _ _ _ us hl => match us, hl with | [_], _ => rfl⟩⟩, ⟨⟨f_is_top, dd_mk X G a_is_top l_is_top c_is_top k_is_top fun _ _ _ _ _ _ us hl => match us, hl with | [_], _ => rfl⟩⟩, ⟨⟨f_is_sign, dd_mk X G a_is_sign l_is_sign c_is_sign k_is_sign fun _ _ _ _ _ _ us hl => match us, hl with | [_, _], _ => rfl⟩⟩, ⟨⟨f_is_plain, dd_mk X G a_is_plain l_is_plain c_is_plain k_is_plain fun _ _ _ _ _ _ us hl => match us, hl with | [_, _, _], _ => rfl⟩⟩, ⟨⟨f_is_turning, dd_mk X G a_is_turning l_is_turning c_is_turning k_is_turning fun _ _ _ _ _ _ us hl => match us, hl with | [_, _], _ => rfl⟩⟩, ⟨⟨f_codes_fault, dd_mk X G a_codes_fault l_codes_fault c_codes_fault k_codes_fault fun _ _ _ _ _ _ us hl => match us, hl with | [_], _ => rfl⟩⟩, ⟨⟨f_is_code, dd_mk X G a_is_code l_is_code c_is_code k_is_code fun _ _ _ _ _ _ us hl => match us, hl with | [_, _, _], _ => rfl⟩⟩, ⟨⟨f_stand_apart, dd_mk X G a_stand_apart l_stand_apart c_stand_apart k_stand_apart fun _ _ _ _ _ _ us hl => match us, hl with | [_], _ => rfl⟩⟩, ⟨⟨f_escapes_fault, dd_mk X G a_escapes_fault l_escapes_fault c_escapes_fault k_escapes_fault fun _ _ _ _ _ _ us hl => match us, hl with | [_], _ => rfl⟩⟩, ⟨⟨f_counts_fault, dd_mk X G a_counts_fault l_counts_fault c_counts_fault k_counts_fault fun _ _ _ _ _ _ us hl => match us, hl with | [_], _ => rfl⟩⟩, ⟨⟨f_ranks_fault, dd_mk X G a_ranks_fault l_ranks_fault c_ranks_fault k_ranks_fault fun _ _ _ _ _ _ us hl => match us, hl with | [_], _ => rfl⟩⟩, ⟨⟨f_framed, dd_mk X G a_framed l_framed c_framed k_framed fun _ _ _ _ _ _ us hl => match us, hl with | [_, _], _ => rfl⟩⟩, ⟨⟨f_need_body, dd_mk X G a_need_body l_need_body c_need_body k_need_body fun _ _ _ _ _ _ us hl => match us, hl with | [_, _], _ => rfl⟩⟩, ⟨⟨f_top_of, dd_mk X G a_top_of l_top_of c_top_of k_top_of fun _ _ _ _ _ _ us hl => match us, hl with | [_], _ => rfl⟩⟩, ⟨⟨f_frame_of, dd_mk X G a_frame_of l_frame_of c_frame_of k_frame_of fun _ _ _ _ _ _ us hl => match us, hl with | [_, _], _ => rfl⟩⟩, ⟨⟨f_exchanged, dd_mk X G a_exchanged l_exchanged c_exchanged k_exchanged fun _ _ _ _ _ _ us hl => match us, hl with | [_, _], _ => rfl⟩⟩, ⟨⟨f_by_codes, dd_mk X G a_by_codes l_by_codes c_by_codes k_by_codes fun _ _ _ _ _ _ us hl => match us, hl with | [_, _], _ => rfl⟩⟩, ⟨⟨f_by_escapes, dd_mk X G a_by_escapes l_by_escapes c_by_escapes k_by_escapes fun _ _ _ _ _ _ us hl => match us, hl with | [_, _], _ => rfl⟩⟩, ⟨⟨f_by_counts, dd_mk X G a_by_counts l_by_counts c_by_counts k_by_counts fun _ _ _ _ _ _ us hl => match us, hl with | [_, _], _ => rfl⟩⟩, ⟨⟨f_rows_between, dd_mk X G a_rows_between l_rows_between c_rows_between k_rows_between fun _ _ _ _ _ _ us hl => match us, hl with | [_, _], _ => rfl⟩⟩, ⟨⟨f_grouped, dd_mk X G a_grouped l_grouped c_grouped k_grouped fun _ _ _ _ _ _ us hl => match us, hl with | [_, _], _ => rfl⟩⟩, ⟨⟨f_by_ranks, dd_mk X G a_by_ranks l_by_ranks c_by_ranks k_by_ranks fun _ _ _ _ _ _ us hl => match us, hl with | [_, _], _ => rfl⟩⟩, ⟨⟨f_certain_of, dd_mk X G a_certain_of l_certain_of c_certain_of k_certain_of fun _ _ _ _ _ _ us hl => match us, hl with | [_, _], _ => rfl⟩⟩, ⟨⟨f_certain_pieces, dd_mk X G a_certain_pieces l_certain_pieces c_certain_pieces k_certain_pieces fun _ _ _ _ _ _ us hl => match us, hl with | [_, _], _ => rfl⟩⟩, ⟨⟨f_certain_groups, dd_mk X G a_certain_groups l_certain_groups c_certain_groups k_certain_groups fun _ _ _ _ _ _ us hl => match us, hl with | [_, _], _ => rfl⟩⟩, ⟨⟨f_certain_figures, dd_mk X G a_certain_figures l_certain_figures c_certain_figures k_certain_figures fun _ _ _ _ _ _ us hl => match us, hl with | [_, _], _ => rfl⟩⟩, ⟨⟨f__law_dice, dd_mk X G a__law_dice l__law_dice c__law_dice k__law_dice fun _ _ _ _ _ _ us hl => match us, hl with | [_, _], _ => rfl⟩⟩, ⟨⟨f__law_off, dd_mk X G a__law_off l__law_off c__law_off k__law_off fun _ _ _ _ _ _ us hl => match us, hl with | [_, _], _ => rfl⟩⟩, ⟨⟨f__law_mixed, dd_mk X G a__law_mixed l__law_mixed c__law_mixed k__law_mixed fun _ _ _ _ _ _ us hl => match us, hl with | [_, _], _ => rfl⟩⟩, ⟨⟨f__law_plain, dd_mk X G a__law_plain l__law_plain c__law_plain k__law_plain fun _ _ _ _ _ _ us hl => match us, hl with | [_, _], _ => rfl⟩⟩, ⟨⟨f__law_codes, dd_mk X G a__law_codes l__law_codes c__law_codes k__law_codes fun _ _ _ _ _ _ us hl => match us, hl with | [_, _, _], _ => rfl⟩⟩, ⟨⟨f__law_escapes, dd_mk X G a__law_escapes l__law_escapes c__law_escapes k__law_escapes fun _ _ _ _ _ _ us hl => match us, hl with | [_, _, _], _ => rfl⟩⟩, ⟨⟨f__law_base, dd_mk X G a__law_base l__law_base c__law_base k__law_base fun _ _ _ _ _ _ us hl => match us, hl with | [_, _], _ => rfl⟩⟩, ⟨⟨f__law_turned, dd_mk X G a__law_turned l__law_turned c__law_turned k__law_turned fun _ _ _ _ _ _ us hl => match us, hl with | [_, _, _], _ => rfl⟩⟩, ⟨⟨f__law_core, dd_mk X G a__law_core l__law_core c__law_core k__law_core fun _ _ _ _ _ _ us hl => match us, hl with | [_], _ => rfl⟩⟩, ⟨⟨f__law_top, dd_mk X G a__law_top l__law_top c__law_top k__law_top fun _ _ _ _ _ _ us hl => match us, hl with | [_], _ => rfl⟩⟩, ⟨⟨f__law_end, dd_mk X G a__law_end l__law_end c__law_end k__law_end fun _ _ _ _ _ _ us hl => match us, hl with | [_], _ => rfl⟩⟩, ⟨⟨f__law_size, dd_mk X G a__law_size l__law_size c__law_size k__law_size fun _ _ _ _ _ _ us hl => match us, hl with | [_], _ => rfl⟩⟩, ⟨⟨f__law_way, dd_mk X G a__law_way l__law_way c__law_way k__law_way fun _ _ _ _ _ _ us hl => match us, hl with | [_], _ => rfl⟩⟩, ⟨⟨f__law_body, dd_mk X G a__law_body l__law_body c__law_body k__law_body fun _ _ _ _ _ _ us hl => match us, hl with | [_, _, _, _], _ => rfl⟩⟩, ⟨⟨f__law_common, dd_mk X G a__law_common l__law_common c__law_common k__law_common fun _ _ _ _ _ _ us hl => match us, hl with | [_], _ => rfl⟩⟩, ⟨⟨f__law_goings, dd_mk X G a__law_goings l__law_goings c__law_goings k__law_goings fun _ _ _ _ _ _ us hl => match us, hl with | [_, _], _ => rfl⟩⟩, gi_mk X G g_LEAST_TOP, gi_mk X G g_MOST_TOP, gi_mk X G g_LONGEST_CODE, gi_mk X G g_MOST_TURNED, gi_mk X G g_MOST_BODY, ⟨p_FAULTS, gr_mk X G g_FAULTS, ⟨f_codes_fault, PySem.W.mg_of X G a_codes_fault, kd_mk m_FAULTS e_FAULTS h_FAULTS_codes⟩, ⟨f_escapes_fault, PySem.W.mg_of X G a_escapes_fault, kd_mk m_FAULTS e_FAULTS h_FAULTS_escapes⟩, ⟨f_counts_fault, PySem.W.mg_of X G a_counts_fault, kd_mk m_FAULTS e_FAULTS h_FAULTS_counts⟩, ⟨f_ranks_fault, PySem.W.mg_of X G a_ranks_fault, kd_mk m_FAULTS e_FAULTS h_FAULTS_ranks⟩⟩, ⟨p_FRAMERS, gr_mk X G g_FRAMERS, ⟨f_by_codes, PySem.W.mg_of X G a_by_codes, kd_mk m_FRAMERS e_FRAMERS h_FRAMERS_codes⟩, ⟨f_by_escapes, PySem.W.mg_of X G a_by_escapes, kd_mk m_FRAMERS e_FRAMERS h_FRAMERS_escapes⟩, ⟨f_by_counts, PySem.W.mg_of X G a_by_counts, kd_mk m_FRAMERS e_FRAMERS h_FRAMERS_counts⟩, ⟨f_by_ranks, PySem.W.mg_of X G a_by_ranks, kd_mk m_FRAMERS e_FRAMERS h_FRAMERS_ranks⟩⟩, ⟨p_CERTAIN, gr_mk X G g_CERTAIN, ⟨f_certain_pieces, PySem.W.mg_of X G a_certain_pieces, kd_mk m_CERTAIN e_CERTAIN h_CERTAIN_codes⟩, ⟨f_certain_pieces, PySem.W.mg_of X G a_certain_pieces, kd_mk m_CERTAIN e_CERTAIN h_CERTAIN_escapes⟩, ⟨f_certain_groups, PySem.W.mg_of X G a_certain_groups, kd_mk m_CERTAIN e_CERTAIN h_CERTAIN_counts⟩, ⟨f_certain_figures, PySem.W.mg_of X G a_certain_figures, kd_mk m_CERTAIN e_CERTAIN h_CERTAIN_ranks⟩⟩, ⟨C_Writer, ⟨⟨pg_Writer, hd_Writer, po_Writer, sa_Writer⟩, PySem.W.mg_of X G aC_Writer, mk_Writer, kc_Writer, (na_cons n_Writer_way (na_cons n_Writer_body (na_cons n_Writer_many_told na_nil)))⟩, dm_mk a_Writer___init__ i_Writer___init__ l_Writer___init__ c_Writer___init__ k_Writer___init__ fun _ _ _ _ _ _ us hl => match us, hl with | [_, _], _ => rfl, dm_mk a_Writer_put i_Writer_put l_Writer_put c_Writer_put k_Writer_put fun _ _ _ _ _ _ us hl => match us, hl with | [_, _], _ => rfl, dm_mk a_Writer_close i_Writer_close l_Writer_close c_Writer_close k_Writer_close fun _ _ _ _ _ _ us hl => match us, hl with | [_], _ => rfl⟩⟩
  exact law_mk X G hfa a_law l_law c_law k_law T
end Esc

open PySem PySem.W PyProof.Rows
set_option maxHeartbeats 0 in
theorem PySem.Challenge.cw_escaperow_k10_whole_as_soon_as_certain_holds : PySem.Challenge.rw_escaperow_k10_whole_as_soon_as_certain.Holds := by
  w_on; o_law; k_head; (case hw => w_witness2)
  k_fill
  refine L2.walk_of (l := PySem.Challenge.rw_escaperow_k10_whole_as_soon_as_certain) (n := 63) (k := 11) (x := "_law_script") (CX := fun _ => C8.CX0) (sp := fun w => Esc.spLaw _) rfl (by decide) rfl ⟨rfl, by decide, by decide⟩ (fun w h Y => PySem.W.kIn_of Y) ?F (fun _ _ a ns hl _ hS => ⟨a, ns, rfl, hS, hl, fun _ => rfl⟩) (fun _ _ _ _ _ h => h)
  case F =>
    intro w mg fa h KX G hmg
    refine' Esc.all_mk KX G hmg ?z_abs ?z_all ?z_enumerate ?z_int ?z_len ?z_list ?z_min ?z_range ?z_set ?z_sorted ?z_tuple ?z_type ?a_rank_of ?l_rank_of ?c_rank_of ?k_rank_of ?a_row_of ?l_row_of ?c_row_of ?k_row_of ?a_need_way ?l_need_way ?c_need_way ?k_need_way ?a_fault_of ?l_fault_of ?c_fault_of ?k_fault_of ?a_unturned ?l_unturned ?c_unturned ?k_unturned ?a_plain_signs ?l_plain_signs ?c_plain_signs ?k_plain_signs ?a_first_unsigned ?l_first_unsigned ?c_first_unsigned ?k_first_unsigned ?a_is_whole ?l_is_whole ?c_is_whole ?k_is_whole ?a_is_top ?l_is_top ?c_is_top ?k_is_top ?a_is_sign ?l_is_sign ?c_is_sign ?k_is_sign ?a_is_plain ?l_is_plain ?c_is_plain ?k_is_plain ?a_is_turning ?l_is_turning ?c_is_turning ?k_is_turning ?a_codes_fault ?l_codes_fault ?c_codes_fault ?k_codes_fault ?a_is_code ?l_is_code ?c_is_code ?k_is_code ?a_stand_apart ?l_stand_apart ?c_stand_apart ?k_stand_apart ?a_escapes_fault ?l_escapes_fault ?c_escapes_fault ?k_escapes_fault ?a_counts_fault ?l_counts_fault ?c_counts_fault ?k_counts_fault ?a_ranks_fault ?l_ranks_fault ?c_ranks_fault ?k_ranks_fault ?a_framed ?l_framed ?c_framed ?k_framed ?a_need_body ?l_need_body ?c_need_body ?k_need_body ?a_top_of ?l_top_of ?c_top_of ?k_top_of ?a_frame_of ?l_frame_of ?c_frame_of ?k_frame_of ?a_exchanged ?l_exchanged ?c_exchanged ?k_exchanged ?a_by_codes ?l_by_codes ?c_by_codes ?k_by_codes ?a_by_escapes ?l_by_escapes ?c_by_escapes ?k_by_escapes ?a_by_counts ?l_by_counts ?c_by_counts ?k_by_counts ?a_rows_between ?l_rows_between ?c_rows_between ?k_rows_between ?a_grouped ?l_grouped ?c_grouped ?k_grouped ?a_by_ranks ?l_by_ranks ?c_by_ranks ?k_by_ranks ?a_certain_of ?l_certain_of ?c_certain_of ?k_certain_of ?a_certain_pieces ?l_certain_pieces ?c_certain_pieces ?k_certain_pieces ?a_certain_groups ?l_certain_groups ?c_certain_groups ?k_certain_groups ?a_certain_figures ?l_certain_figures ?c_certain_figures ?k_certain_figures ?a__law_dice ?l__law_dice ?c__law_dice ?k__law_dice ?a__law_off ?l__law_off ?c__law_off ?k__law_off ?a__law_mixed ?l__law_mixed ?c__law_mixed ?k__law_mixed ?a__law_plain ?l__law_plain ?c__law_plain ?k__law_plain ?a__law_codes ?l__law_codes ?c__law_codes ?k__law_codes ?a__law_escapes ?l__law_escapes ?c__law_escapes ?k__law_escapes ?a__law_base ?l__law_base ?c__law_base ?k__law_base ?a__law_turned ?l__law_turned ?c__law_turned ?k__law_turned ?a__law_core ?l__law_core ?c__law_core ?k__law_core ?a__law_top ?l__law_top ?c__law_top ?k__law_top ?a__law_end ?l__law_end ?c__law_end ?k__law_end ?a__law_size ?l__law_size ?c__law_size ?k__law_size ?a__law_way ?l__law_way ?c__law_way ?k__law_way ?a__law_body ?l__law_body ?c__law_body ?k__law_body ?a__law_common ?l__law_common ?c__law_common ?k__law_common ?a__law_goings ?l__law_goings ?c__law_goings ?k__law_goings ?a_law ?l_law ?c_law ?k_law ?g_LEAST_TOP ?g_MOST_TOP ?g_LONGEST_CODE ?g_MOST_TURNED ?g_MOST_BODY ?g_FAULTS ?m_FAULTS ?e_FAULTS ?h_FAULTS_codes ?h_FAULTS_escapes ?h_FAULTS_counts ?h_FAULTS_ranks ?g_FRAMERS ?m_FRAMERS ?e_FRAMERS ?h_FRAMERS_codes ?h_FRAMERS_escapes ?h_FRAMERS_counts ?h_FRAMERS_ranks ?g_CERTAIN ?m_CERTAIN ?e_CERTAIN ?h_CERTAIN_codes ?h_CERTAIN_escapes ?h_CERTAIN_counts ?h_CERTAIN_ranks ?aC_Writer ?pg_Writer ?hd_Writer ?po_Writer ?sa_Writer ?mk_Writer ?kc_Writer ?n_Writer_way ?n_Writer_body ?n_Writer_many_told ?a_Writer___init__ ?i_Writer___init__ ?l_Writer___init__ ?c_Writer___init__ ?k_Writer___init__ ?a_Writer_put ?i_Writer_put ?l_Writer_put ?c_Writer_put ?k_Writer_put ?a_Writer_close ?i_Writer_close ?l_Writer_close ?c_Writer_close ?k_Writer_close
    (case z_abs => k_is)
    (case z_all => k_is)
    (case z_enumerate => k_is)
    (case z_int => k_is)
    (case z_len => k_is)
    (case z_list => k_is)
    (case z_min => k_is)
    (case z_range => k_is)
    (case z_set => k_is)
    (case z_sorted => k_is)
    (case z_tuple => k_is)
    (case z_type => k_is)
    (case a_rank_of => k_is)
    (case l_rank_of => k_is)
    (case c_rank_of => k_is)
    (case k_rank_of => k_is)
    (case a_row_of => k_is)
    (case l_row_of => k_is)
    (case c_row_of => k_is)
    (case k_row_of => k_is)
    (case a_need_way => k_is)
    (case l_need_way => k_is)
    (case c_need_way => k_is)
    (case k_need_way => k_is)
    (case a_fault_of => k_is)
    (case l_fault_of => k_is)
    (case c_fault_of => k_is)
    (case k_fault_of => k_is)
    (case a_unturned => k_is)
    (case l_unturned => k_is)
    (case c_unturned => k_is)
    (case k_unturned => k_is)
    (case a_plain_signs => k_is)
    (case l_plain_signs => k_is)
    (case c_plain_signs => k_is)
    (case k_plain_signs => k_is)
    (case a_first_unsigned => k_is)
    (case l_first_unsigned => k_is)
    (case c_first_unsigned => k_is)
    (case k_first_unsigned => k_is)
    (case a_is_whole => k_is)
    (case l_is_whole => k_is)
    (case c_is_whole => k_is)
    (case k_is_whole => k_is)
    (case a_is_top => k_is)
    (case l_is_top => k_is)
    (case c_is_top => k_is)
    (case k_is_top => k_is)
    (case a_is_sign => k_is)
    (case l_is_sign => k_is)
    (case c_is_sign => k_is)
    (case k_is_sign => k_is)
    (case a_is_plain => k_is)
    (case l_is_plain => k_is)
    (case c_is_plain => k_is)
    (case k_is_plain => k_is)
    (case a_is_turning => k_is)
    (case l_is_turning => k_is)
    (case c_is_turning => k_is)
    (case k_is_turning => k_is)
    (case a_codes_fault => k_is)
    (case l_codes_fault => k_is)
    (case c_codes_fault => k_is)
    (case k_codes_fault => k_is)
    (case a_is_code => k_is)
    (case l_is_code => k_is)
    (case c_is_code => k_is)
    (case k_is_code => k_is)
    (case a_stand_apart => k_is)
    (case l_stand_apart => k_is)
    (case c_stand_apart => k_is)
    (case k_stand_apart => k_is)
    (case a_escapes_fault => k_is)
    (case l_escapes_fault => k_is)
    (case c_escapes_fault => k_is)
    (case k_escapes_fault => k_is)
    (case a_counts_fault => k_is)
    (case l_counts_fault => k_is)
    (case c_counts_fault => k_is)
    (case k_counts_fault => k_is)
    (case a_ranks_fault => k_is)
    (case l_ranks_fault => k_is)
    (case c_ranks_fault => k_is)
    (case k_ranks_fault => k_is)
    (case a_framed => k_is)
    (case l_framed => k_is)
    (case c_framed => k_is)
    (case k_framed => k_is)
    (case a_need_body => k_is)
    (case l_need_body => k_is)
    (case c_need_body => k_is)
    (case k_need_body => k_is)
    (case a_top_of => k_is)
    (case l_top_of => k_is)
    (case c_top_of => k_is)
    (case k_top_of => k_is)
    (case a_frame_of => k_is)
    (case l_frame_of => k_is)
    (case c_frame_of => k_is)
    (case k_frame_of => k_is)
    (case a_exchanged => k_is)
    (case l_exchanged => k_is)
    (case c_exchanged => k_is)
    (case k_exchanged => k_is)
    (case a_by_codes => k_is)
    (case l_by_codes => k_is)
    (case c_by_codes => k_is)
    (case k_by_codes => k_is)
    (case a_by_escapes => k_is)
    (case l_by_escapes => k_is)
    (case c_by_escapes => k_is)
    (case k_by_escapes => k_is)
    (case a_by_counts => k_is)
    (case l_by_counts => k_is)
    (case c_by_counts => k_is)
    (case k_by_counts => k_is)
    (case a_rows_between => k_is)
    (case l_rows_between => k_is)
    (case c_rows_between => k_is)
    (case k_rows_between => k_is)
    (case a_grouped => k_is)
    (case l_grouped => k_is)
    (case c_grouped => k_is)
    (case k_grouped => k_is)
    (case a_by_ranks => k_is)
    (case l_by_ranks => k_is)
    (case c_by_ranks => k_is)
    (case k_by_ranks => k_is)
    (case a_certain_of => k_is)
    (case l_certain_of => k_is)
    (case c_certain_of => k_is)
    (case k_certain_of => k_is)
    (case a_certain_pieces => k_is)
    (case l_certain_pieces => k_is)
    (case c_certain_pieces => k_is)
    (case k_certain_pieces => k_is)
    (case a_certain_groups => k_is)
    (case l_certain_groups => k_is)
    (case c_certain_groups => k_is)
    (case k_certain_groups => k_is)
    (case a_certain_figures => k_is)
    (case l_certain_figures => k_is)
    (case c_certain_figures => k_is)
    (case k_certain_figures => k_is)
    (case a__law_dice => k_is)
    (case l__law_dice => k_is)
    (case c__law_dice => k_is)
    (case k__law_dice => k_is)
    (case a__law_off => k_is)
    (case l__law_off => k_is)
    (case c__law_off => k_is)
    (case k__law_off => k_is)
    (case a__law_mixed => k_is)
    (case l__law_mixed => k_is)
    (case c__law_mixed => k_is)
    (case k__law_mixed => k_is)
    (case a__law_plain => k_is)
    (case l__law_plain => k_is)
    (case c__law_plain => k_is)
    (case k__law_plain => k_is)
    (case a__law_codes => k_is)
    (case l__law_codes => k_is)
    (case c__law_codes => k_is)
    (case k__law_codes => k_is)
    (case a__law_escapes => k_is)
    (case l__law_escapes => k_is)
    (case c__law_escapes => k_is)
    (case k__law_escapes => k_is)
    (case a__law_base => k_is)
    (case l__law_base => k_is)
    (case c__law_base => k_is)
    (case k__law_base => k_is)
    (case a__law_turned => k_is)
    (case l__law_turned => k_is)
    (case c__law_turned => k_is)
    (case k__law_turned => k_is)
    (case a__law_core => k_is)
    (case l__law_core => k_is)
    (case c__law_core => k_is)
    (case k__law_core => k_is)
    (case a__law_top => k_is)
    (case l__law_top => k_is)
    (case c__law_top => k_is)
    (case k__law_top => k_is)
    (case a__law_end => k_is)
    (case l__law_end => k_is)
    (case c__law_end => k_is)
    (case k__law_end => k_is)
    (case a__law_size => k_is)
    (case l__law_size => k_is)
    (case c__law_size => k_is)
    (case k__law_size => k_is)
    (case a__law_way => k_is)
    (case l__law_way => k_is)
    (case c__law_way => k_is)
    (case k__law_way => k_is)
    (case a__law_body => k_is)
    (case l__law_body => k_is)
    (case c__law_body => k_is)
    (case k__law_body => k_is)
    (case a__law_common => k_is)
    (case l__law_common => k_is)
    (case c__law_common => k_is)
    (case k__law_common => k_is)
    (case a__law_goings => k_is)
    (case l__law_goings => k_is)
    (case c__law_goings => k_is)
    (case k__law_goings => k_is)
    (case a_law => k_is)
    (case l_law => k_is)
    (case c_law => k_is)
    (case k_law => k_is)
    (case g_LEAST_TOP => k_is)
    (case g_MOST_TOP => k_is)
    (case g_LONGEST_CODE => k_is)
    (case g_MOST_TURNED => k_is)
    (case g_MOST_BODY => k_is)
    (case g_FAULTS => k_is)
    (case m_FAULTS => k_is)
    (case e_FAULTS => exact ⟨⟨_, _, rfl, rfl⟩, ⟨_, _, rfl, rfl⟩, ⟨_, _, rfl, rfl⟩, ⟨_, _, rfl, rfl⟩, trivial⟩)
    (case h_FAULTS_codes => k_is)
    (case h_FAULTS_escapes => k_is)
    (case h_FAULTS_counts => k_is)
    (case h_FAULTS_ranks => k_is)
    (case g_FRAMERS => k_is)
    (case m_FRAMERS => k_is)
    (case e_FRAMERS => exact ⟨⟨_, _, rfl, rfl⟩, ⟨_, _, rfl, rfl⟩, ⟨_, _, rfl, rfl⟩, ⟨_, _, rfl, rfl⟩, trivial⟩)
    (case h_FRAMERS_codes => k_is)
    (case h_FRAMERS_escapes => k_is)
    (case h_FRAMERS_counts => k_is)
    (case h_FRAMERS_ranks => k_is)
    (case g_CERTAIN => k_is)
    (case m_CERTAIN => k_is)
    (case e_CERTAIN => exact ⟨⟨_, _, rfl, rfl⟩, ⟨_, _, rfl, rfl⟩, ⟨_, _, rfl, rfl⟩, ⟨_, _, rfl, rfl⟩, trivial⟩)
    (case h_CERTAIN_codes => k_is)
    (case h_CERTAIN_escapes => k_is)
    (case h_CERTAIN_counts => k_is)
    (case h_CERTAIN_ranks => k_is)
    (case aC_Writer => k_is)
    (case pg_Writer => k_is)
    (case hd_Writer => k_is)
    (case po_Writer => k_is)
    (case sa_Writer => k_is)
    (case mk_Writer => k_is)
    (case kc_Writer => k_is)
    (case n_Writer_way => k_is)
    (case n_Writer_body => k_is)
    (case n_Writer_many_told => k_is)
    (case a_Writer___init__ => k_is)
    (case i_Writer___init__ => k_is)
    (case l_Writer___init__ => k_is)
    (case c_Writer___init__ => k_is)
    (case k_Writer___init__ => k_is)
    (case a_Writer_put => k_is)
    (case i_Writer_put => k_is)
    (case l_Writer_put => k_is)
    (case c_Writer_put => k_is)
    (case k_Writer_put => k_is)
    (case a_Writer_close => k_is)
    (case i_Writer_close => k_is)
    (case l_Writer_close => k_is)
    (case c_Writer_close => k_is)
    (case k_Writer_close => k_is)
