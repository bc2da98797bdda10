import PyProof.Rows.All
import Wide.All
import OpenK.AllK
import Wide.FinOn
import HandS.ForMost
import HandS.Codes
import HandS.More
import HandS.SetFor
import HandS.Style
import HandS.CallLocal
import HandS.DictComp
import HandS.Rev
import HandS.Conv
import HandS.WrittenGet
import KE.LtData
import HandS.Deep
import HandS.SortInts
import HandS.Star
import HandS.IsInst
import KE.DataFind
import KE.GoesEnum
import HandS.Strs
import HandS.TupSets
import HandS.DictTup
import KE.KDictDisplayH
import KE.SortData
import KE.KExcSuper
import HandS.ExcInit
import HandS.ClsMeth
import HandS.NestedK
import HandS.ExcField
import HandS.ExcIs
import HandS.ExcOwn
import HandS.WordsExc
import HandS.HotCalls
import HandS.Comp
import HandS.Lambda
import HandS.ExcCtx
import HandS.ExcInitHot
import KE.KDflt
import HandS.TupAny
import HandS.EndOwn
import HandS.Text
import HandS.FStr
import HandS.RevRange
import HandS.RevTup
import PySem.Challenge.RW_escaperow_k18_written_and_read
set_option Elab.async false
set_option linter.all false
set_option maxRecDepth 100000
set_option synthInstance.maxSize 100000
set_option synthInstance.maxHeartbeats 4000000
/-! Steps of readings, found by their heads; heaps that only grow. -/
namespace Esc
open PySem PySem.Spec PyProof.Rows L2

/-- to show p, show q -/
class Step (p : Prop) (q : outParam Prop) : Prop where
  h : q → p
class Steps (p : Prop) (q : outParam Prop) : Prop where
  h : q → p
instance (priority := low) Steps.refl {p : Prop} : Steps p p := ⟨id⟩
instance Steps.cons {p q r : Prop} [a : Step p q] [b : Steps q r] : Steps p r := ⟨fun x => a.h (b.h x)⟩
/-- what a slot holds -/
class Lk (i : Nat) (σ : L2.St) (v : outParam V) : Prop where
  h : σ[i]? = some (some v)
instance Lk.z {v : V} {r : L2.St} : Lk 0 (some v :: r) v := ⟨rfl⟩
instance Lk.s {i : Nat} {x : Option V} {v : V} {r : L2.St} [a : Lk i r v] : Lk (i + 1) (x :: r) v := ⟨a.h⟩
class Pu (i : Nat) (v : V) (σ : L2.St) (σ' : outParam L2.St) : Prop where
  h : σ.set i (some v) = σ'
instance Pu.z {v : V} {x : Option V} {r : L2.St} : Pu 0 v (x :: r) (some v :: r) := ⟨rfl⟩
instance Pu.s {i : Nat} {x : Option V} {v : V} {r r' : L2.St} [a : Pu i v r r'] : Pu (i + 1) v (x :: r) (x :: r') := ⟨by rw [List.set_cons_succ, a.h]⟩

/-! ### what is done with a value -/
section
variable (r r' : R2) (ta tb tc te : TE) (tr : TA) (t u : TT) (Q : VK) (QT : Bool → Hp → Prop) (QV : List V → Hp → Prop) (σ : L2.St) (x y : V) (K : PySem.W.Frag)
def kOp1 : VK := fun x H => tb σ H fun y H2 => r x y H2 Q
def kOp2 : VK := fun y H => r x y H Q
def kUn (r : V → Hp → VK → Prop) : VK := fun x H => r x H Q
def kBool : VK := fun x H => ∃ k, x = .bl k ∧ QT k H
def kAnd : Bool → Hp → Prop := fun c H => if c = true then u σ H QT else QT false H
def kOr : Bool → Hp → Prop := fun c H => if c = true then QT true H else u σ H QT
def kNot : Bool → Hp → Prop := fun c H => QT (!c) H
def kAndV : VK := fun x H => ∃ c, x = .bl c ∧ if c = true then tb σ H Q else Q (.bl false) H
def kAndB : Bool → Hp → Prop := fun c H => if c = true then tb σ H Q else Q (.bl false) H
def kOrV : VK := fun x H => ∃ c, x = .bl c ∧ if c = true then Q (.bl true) H else tb σ H Q
def kOrB : Bool → Hp → Prop := fun c H => if c = true then Q (.bl true) H else tb σ H Q
def kNotV : VK := fun x H => ∃ c, x = .bl c ∧ Q (.bl (!c)) H
def kNotB : Bool → Hp → Prop := fun c H => Q (.bl (!c)) H
def kIf : Bool → Hp → Prop := fun c H => if c = true then ta σ H Q else tb σ H Q
def kCh1 : VK := fun x H1 => tb σ H1 fun y H2 => r x y H2 fun z H3 => ∃ k, z = .bl k ∧ (if k = true then tc σ H3 fun z H4 => r' y z H4 Q else Q (.bl false) H3)
def kCh2 : VK := fun y H2 => r x y H2 fun z H3 => ∃ k, z = .bl k ∧ (if k = true then tc σ H3 fun z H4 => r' y z H4 Q else Q (.bl false) H3)
def kCh3 : VK := fun z H3 => ∃ k, z = .bl k ∧ (if k = true then tc σ H3 fun z H4 => r' y z H4 Q else Q (.bl false) H3)
def kCh4 : Bool → Hp → Prop := fun k H3 => if k = true then tc σ H3 fun z H4 => r' y z H4 Q else Q (.bl false) H3
def kCons : VK := fun x H => tr σ H fun xs H2 => QV (x :: xs) H2
def kPre : List V → Hp → Prop := fun xs H => QV (x :: xs) H
def kCB (r : List V → Hp → VK → Prop) : List V → Hp → Prop := fun vs H => r vs H Q
def kCall (sp : Sp) (E : XK) : List V → Hp → Prop := fun vs H => sp vs H Q E
def kBM (T : String) (r : V → List V → Hp → VK → Prop) : VK := fun x H => tyV K T x H ∧ tr σ H fun xs H2 => r x xs H2 Q
def kBM0 (T : String) (r : V → List V → Hp → VK → Prop) : VK := fun x H => tyV K T x H ∧ r x [] H Q
def kRv (r : V → List V → Hp → VK → Prop) : List V → Hp → Prop := fun xs H => r x xs H Q
def kLst : List V → Hp → Prop := fun xs H => xs.length ≤ sizeLine ∧ ∀ p, H p = none → Q (.ref p) (upd H p (.lst xs))
def kTup : List V → Hp → Prop := fun xs H => xs.length ≤ sizeLine ∧ ∀ p, H p = none → Q (.ref p) (upd H p (.tup xs))
def kSl1 (r : V → Option Int → Option Int → Hp → VK → Prop) (tl th : TO) : VK := fun x H1 => tl σ H1 fun l H2 => th σ H2 fun u H3 => r x l u H3 Q
def kSl2 (r : V → Option Int → Option Int → Hp → VK → Prop) (th : TO) : Option Int → Hp → Prop := fun l H2 => th σ H2 fun u H3 => r x l u H3 Q
def kSl3 (r : V → Option Int → Option Int → Hp → VK → Prop) (l : Option Int) : Option Int → Hp → Prop := fun u H3 => r x l u H3 Q
def kPart (QO : Option Int → Hp → Prop) : VK := fun x H => ∃ i, x = .int i ∧ QO (some i) H
def kLstRg : VK := fun x H => ∃ n, x = .int n ∧ RgOk 0 n ∧ ∀ q, H q = none → Q (.ref q) (upd H q (.lst (rgV 0 n)))
def kRev : VK := fun x H1 => ∃ a xs, x = .ref a ∧ SqL K H1 a xs ∧ ∀ p, H1 p = none → Q (.ref p) (upd H1 p (.lst xs.reverse))
def kDGet1 (ty : TE) : VK := fun x H1 => ty σ H1 fun y H2 => ∃ a v, x = .ref a ∧ DGet H2 a y (some v) ∧ Q v H2
def kDGet2 : VK := fun y H2 => ∃ a v, x = .ref a ∧ DGet H2 a y (some v) ∧ Q v H2
def kDIn1 (td : TE) : VK := fun y H1 => td σ H1 fun x H2 => ∃ a o, x = .ref a ∧ DGet H2 a y o ∧ Q (.bl o.isSome) H2
def kDIn2 : VK := fun x H2 => ∃ a o, x = .ref a ∧ DGet H2 a y o ∧ Q (.bl o.isSome) H2
def kCallA (sp : Sp) : List V → Hp → Prop := fun vs H1 => sp vs H1 Q (fun _ _ _ => False)
/-- behind a statement -/
def kAsg (g : TG) (nx : L2.St → Hp → Prop) : VK := fun x H => g x σ H nx
def kDrop (nx : L2.St → Hp → Prop) : VK := fun _ H => nx σ H
def kIfS (t u : TS) (D : Ends) : Bool → Hp → Prop := fun b H => if b = true then t D σ H else u D σ H
def kG (u : TGs) (vs : List V) (QS : L2.St → Hp → Prop) : L2.St → Hp → Prop := fun σ H => u vs σ H QS
def kGs1 (ti : TE) (t : TSet) (v : V) (QS : L2.St → Hp → Prop) : VK := fun o H1 => ti σ H1 fun i H2 => t o i v H2 fun H3 => QS σ H3
def kGs2 (t : TSet) (o v : V) (QS : L2.St → Hp → Prop) : VK := fun i H2 => t o i v H2 fun H3 => QS σ H3
def kPar (i j : Nat) (nx : L2.St → Hp → Prop) : List V → Hp → Prop := fun vs H => ∃ v w, vs = [v, w] ∧ nx ((σ.set i (some v)).set j (some w)) H
def kAug (i : Nat) (ti : TIp) (nx : L2.St → Hp → Prop) : VK := fun y H1 => ti x y H1 fun z H2 => nx (σ.set i (some z)) H2
def kPut (i : Nat) (nx : L2.St → Hp → Prop) : VK := fun z H => nx (σ.set i (some z)) H
end

/-! ### rules under names of their own -/
def rLen (K : PySem.W.Frag) : List V → Hp → VK → Prop := fun xs H Q => ∃ p ys, xs = [.ref p] ∧ (SqL K H p ys ∨ SqT K H p ys) ∧ Q (.int (ys.length : Nat)) H
def rAbs : List V → Hp → VK → Prop := fun xs H Q => ∃ i, xs = [.int i] ∧ Q (.int (if i < 0 then -i else i)) H
def rListOf (K : PySem.W.Frag) : List V → Hp → VK → Prop := fun xs H Q => ∃ p ys, xs = [.ref p] ∧ (SqL K H p ys ∨ SqT K H p ys) ∧ ∀ l, H l = none → Q (.ref l) (upd H l (.lst ys))
def rTupOf (K : PySem.W.Frag) : List V → Hp → VK → Prop := fun xs H Q => ∃ p ys, xs = [.ref p] ∧ ((SqL K H p ys ∧ ∀ l, H l = none → Q (.ref l) (upd H l (.tup ys))) ∨ (SqT K H p ys ∧ Q (.ref p) H))
def rIsN : R2 := fun x y H Q => y = .non ∧ Q (.bl (decide (x = .non))) H
def rNotN : R2 := fun x y H Q => y = .non ∧ Q (.bl (!decide (x = .non))) H
def rIsTy : R2 := fun x y H Q => ∃ a b, x = .ty a ∧ y = .ty b ∧ Q (.bl (decide (a = b))) H
def rInsert : V → List V → Hp → VK → Prop := fun x vs H Q => ∃ (l : Addr) (xs : List V) (i : Int) (y : V), x = .ref l ∧ vs = [.int i, y] ∧ H l = some (.lst xs) ∧ xs.length < sizeLine ∧ 0 ≤ i ∧ i < 2 ^ 63 ∧ Q .non (upd H l (.lst (xs.take i.toNat ++ [y] ++ xs.drop i.toNat)))
def rMin2 : List V → Hp → VK → Prop := fun xs H Q => ∃ i j, xs = [.int i, .int j] ∧ Q (.int (if j < i then j else i)) H
def rMax2 : List V → Hp → VK → Prop := fun xs H Q => ∃ i j, xs = [.int i, .int j] ∧ Q (.int (if j > i then j else i)) H
section
variable {X : Cx}
theorem k_len : CallR X (.builtin "len") (rLen X.K) := call_len_seq
theorem k_abs : CallR X (.builtin "abs") rAbs := call_abs
theorem k_listOf : CallR X (.type "list") (rListOf X.K) := call_list_of
theorem k_tupOf : CallR X (.type "tuple") (rTupOf X.K) := call_tuple_of
theorem k_isN : OpR X (compareOp .Is) rIsN := op_isN
theorem k_notN : OpR X (compareOp .IsNot) rNotN := op_notN
theorem k_isTy : OpR X (compareOp .Is) rIsTy := op_isTyB
theorem k_insert : MtR X "list.insert" rInsert := mt_insert
theorem k_min2 (hc : X.calm = true) : CallR X (.builtin "min") rMin2 := call_min2 hc
theorem k_max2 (hc : X.calm = true) : CallR X (.builtin "max") rMax2 := call_max2 hc
end
theorem dec_int (a b : Int) : decide (V.int a = V.int b) = decide (a = b) := by
  by_cases h : a = b
  · rw [decide_eq_true h, h, decide_eq_true rfl]
  · rw [decide_eq_false h, decide_eq_false fun z => h (V.int.inj z)]
theorem dec_str (a b : Str) : decide (V.str a = V.str b) = decide (a = b) := by
  by_cases h : a = b
  · rw [decide_eq_true h, h, decide_eq_true rfl]
  · rw [decide_eq_false h, decide_eq_false fun z => h (V.str.inj z)]
theorem dec_bl (a b : Bool) : decide (V.bl a = V.bl b) = decide (a = b) := by
  by_cases h : a = b
  · rw [decide_eq_true h, h, decide_eq_true rfl]
  · rw [decide_eq_false h, decide_eq_false fun z => h (V.bl.inj z)]

/-! ### the steps -/
section
variable {r r' : R2} {ta tb tc te ti : TE} {tr : TA} {t u : TT} {Q : VK} {QT : Bool → Hp → Prop} {QV : List V → Hp → Prop} {QS : L2.St → Hp → Prop} {σ σ' σ2 : L2.St} {v w x y : V} {K : PySem.W.Frag} {H : Hp} {i j : Nat} {b : Bool} {a c : Int}
  {ts us : TS} {nx : L2.St → Hp → Prop} {rt : VK} {bk ct : L2.St → Hp → Prop} {D : Ends} {g : TG} {gs : TGs} {vs xs : List V}
instance : Step (tSeq ts us ⟨nx, rt, bk, ct⟩ σ H) (ts ⟨us ⟨nx, rt, bk, ct⟩, rt, bk, ct⟩ σ H) := ⟨fun h => h⟩
instance : Step (tNext ⟨nx, rt, bk, ct⟩ σ H) (nx σ H) := ⟨fun h => h⟩
instance : Step (tBreak ⟨nx, rt, bk, ct⟩ σ H) (bk σ H) := ⟨fun h => h⟩
instance : Step (tCont ⟨nx, rt, bk, ct⟩ σ H) (ct σ H) := ⟨fun h => h⟩
instance : Step (tAsg te g ⟨nx, rt, bk, ct⟩ σ H) (te σ H (kAsg σ g nx)) := ⟨fun h => h⟩
instance : Step (kAsg σ g nx x H) (g x σ H nx) := ⟨fun h => h⟩
instance : Step (tDrop te ⟨nx, rt, bk, ct⟩ σ H) (te σ H (kDrop σ nx)) := ⟨fun h => h⟩
instance : Step (kDrop σ nx x H) (nx σ H) := ⟨fun h => h⟩
instance : Step (tRet te ⟨nx, rt, bk, ct⟩ σ H) (te σ H rt) := ⟨fun h => h⟩
instance : Step (tRetN ⟨nx, rt, bk, ct⟩ σ H) (rt .non H) := ⟨fun h => h⟩
instance : Step (tIfS t ts us D σ H) (t σ H (kIfS σ ts us D)) := ⟨fun h => h⟩
instance : Step (kIfS σ ts us D true H) (ts D σ H) := ⟨fun h => iteT h⟩
instance : Step (kIfS σ ts us D false H) (us D σ H) := ⟨fun h => iteF h⟩
instance [e : Pu i v σ σ'] : Step (gName i v σ H QS) (QS σ' H) := ⟨fun h => by show QS (σ.set i (some v)) H; rw [e.h]; exact h⟩
instance : Step (gCons g gs (v :: vs) σ H QS) (g v σ H (kG gs vs QS)) := ⟨fun h => ⟨v, vs, rfl, h⟩⟩
instance : Step (kG gs vs QS σ H) (gs vs σ H QS) := ⟨fun h => h⟩
instance : Step (gNil [] σ H QS) (QS σ H) := ⟨fun h => ⟨rfl, h⟩⟩
instance {tset : TSet} : Step (gSub te ti tset v σ H QS) (te σ H (kGs1 σ ti tset v QS)) := ⟨fun h => h⟩
instance {tset : TSet} : Step (kGs1 σ ti tset v QS x H) (ti σ H (kGs2 σ tset x v QS)) := ⟨fun h => h⟩
instance {tset : TSet} : Step (kGs2 σ tset x v QS y H) (tset x y v H (QS σ)) := ⟨fun h => h⟩
instance : Step (tPar i j tr ⟨nx, rt, bk, ct⟩ σ H) (tr σ H (kPar σ i j nx)) := ⟨fun h => h⟩
instance [e : Pu i v σ σ'] [f : Pu j w σ' σ2] : Step (kPar σ i j nx [v, w] H) (nx σ2 H) := ⟨fun h => ⟨v, w, rfl, by rw [e.h, f.h]; exact h⟩⟩
instance {ti : TIp} [e : Lk i σ x] : Step (tAug i te ti ⟨nx, rt, bk, ct⟩ σ H) (te σ H (kAug σ x i ti nx)) := ⟨fun h => ⟨x, e.h, h⟩⟩
instance {f : Int → Int → Int} : Step (kAug σ (.int a) i (ipI f) nx (.int c) H) (kPut σ i nx (.int (f a c)) H) := ⟨fun h => ⟨a, c, rfl, rfl, h⟩⟩
instance [e : Pu i v σ σ'] : Step (kPut σ i nx v H) (nx σ' H) := ⟨fun h => by show nx (σ.set i (some v)) H; rw [e.h]; exact h⟩
instance [e : Lk i σ v] : Step (tVar i σ H Q) (Q v H) := ⟨fun h => ⟨v, e.h, h⟩⟩
instance : Step (tC v σ H Q) (Q v H) := ⟨fun h => h⟩
instance : Step (tOp r ta tb σ H Q) (ta σ H (kOp1 r tb Q σ)) := ⟨fun h => h⟩
instance : Step (kOp1 r tb Q σ x H) (tb σ H (kOp2 r Q x)) := ⟨fun h => h⟩
instance : Step (kOp2 r Q x y H) (r x y H Q) := ⟨fun h => h⟩
instance {ru : V → Hp → VK → Prop} : Step (tUn ru ta σ H Q) (ta σ H (kUn Q ru)) := ⟨fun h => h⟩
instance {ru : V → Hp → VK → Prop} : Step (kUn Q ru x H) (ru x H Q) := ⟨fun h => h⟩
instance {gu : Int → V} : Step (rU gu (.int a) H Q) (Q (gu a) H) := ⟨fun h => ⟨a, rfl, h⟩⟩
instance {gi : Int → Int → V} : Step (rI0 gi (.int a) (.int c) H Q) (Q (gi a c) H) := ⟨fun h => ⟨a, c, rfl, rfl, h⟩⟩
instance : Step (rEq (.int a) (.int c) H Q) (Q (.bl (decide (a = c))) H) := ⟨fun h => ⟨rfl, by rw [dec_int]; exact h⟩⟩
instance : Step (rNe (.int a) (.int c) H Q) (Q (.bl (!decide (a = c))) H) := ⟨fun h => ⟨rfl, by rw [dec_int]; exact h⟩⟩
instance {a c : Str} : Step (rEq (.str a) (.str c) H Q) (Q (.bl (decide (a = c))) H) := ⟨fun h => ⟨rfl, by rw [dec_str]; exact h⟩⟩
instance {a c : Str} : Step (rNe (.str a) (.str c) H Q) (Q (.bl (!decide (a = c))) H) := ⟨fun h => ⟨rfl, by rw [dec_str]; exact h⟩⟩
instance {a c : Bool} : Step (rEq (.bl a) (.bl c) H Q) (Q (.bl (decide (a = c))) H) := ⟨fun h => ⟨rfl, by rw [dec_bl]; exact h⟩⟩
instance {a c : Bool} : Step (rNe (.bl a) (.bl c) H Q) (Q (.bl (!decide (a = c))) H) := ⟨fun h => ⟨rfl, by rw [dec_bl]; exact h⟩⟩
instance : Step (rIsN v .non H Q) (Q (.bl (decide (v = .non))) H) := ⟨fun h => ⟨rfl, h⟩⟩
instance : Step (rNotN v .non H Q) (Q (.bl (!decide (v = .non))) H) := ⟨fun h => ⟨rfl, h⟩⟩
instance {s s' : String} : Step (rIsTy (.ty s) (.ty s') H Q) (Q (.bl (decide (s = s'))) H) := ⟨fun h => ⟨s, s', rfl, rfl, h⟩⟩
instance : Step (rTyp K [.int a] H Q) (Q (.ty "int") H) := ⟨fun h => ⟨.int a, "int", rfl, .int a, h⟩⟩
instance : Step (tTest te σ H QT) (te σ H (kBool QT)) := ⟨fun h => h⟩
instance : Step (tB te σ H QT) (te σ H (kBool QT)) := ⟨fun h => h⟩
instance : Step (kBool QT (.bl b) H) (QT b H) := ⟨fun h => ⟨b, rfl, h⟩⟩
instance : Step (tAnd t u σ H QT) (t σ H (kAnd u QT σ)) := ⟨fun h => h⟩
instance : Step (kAnd u QT σ true H) (u σ H QT) := ⟨fun h => iteT h⟩
instance : Step (kAnd u QT σ false H) (QT false H) := ⟨fun h => iteF h⟩
instance : Step (tOr t u σ H QT) (t σ H (kOr u QT σ)) := ⟨fun h => h⟩
instance : Step (kOr u QT σ true H) (QT true H) := ⟨fun h => iteT h⟩
instance : Step (kOr u QT σ false H) (u σ H QT) := ⟨fun h => iteF h⟩
instance : Step (tNot t σ H QT) (t σ H (kNot QT)) := ⟨fun h => h⟩
instance : Step (kNot QT true H) (QT false H) := ⟨fun h => h⟩
instance : Step (kNot QT false H) (QT true H) := ⟨fun h => h⟩
instance : Step (tAndV ta tb σ H Q) (ta σ H (kAndV tb Q σ)) := ⟨fun h => h⟩
instance : Step (kAndV tb Q σ (.bl b) H) (kAndB tb Q σ b H) := ⟨fun h => ⟨b, rfl, h⟩⟩
instance : Step (kAndB tb Q σ true H) (tb σ H Q) := ⟨fun h => iteT h⟩
instance : Step (kAndB tb Q σ false H) (Q (.bl false) H) := ⟨fun h => iteF h⟩
instance : Step (tOrV ta tb σ H Q) (ta σ H (kOrV tb Q σ)) := ⟨fun h => h⟩
instance : Step (kOrV tb Q σ (.bl b) H) (kOrB tb Q σ b H) := ⟨fun h => ⟨b, rfl, h⟩⟩
instance : Step (kOrB tb Q σ true H) (Q (.bl true) H) := ⟨fun h => iteT h⟩
instance : Step (kOrB tb Q σ false H) (tb σ H Q) := ⟨fun h => iteF h⟩
instance : Step (tNotV ta σ H Q) (ta σ H (kNotV Q)) := ⟨fun h => h⟩
instance : Step (kNotV Q (.bl b) H) (kNotB Q b H) := ⟨fun h => ⟨b, rfl, h⟩⟩
instance : Step (kNotB Q true H) (Q (.bl false) H) := ⟨fun h => h⟩
instance : Step (kNotB Q false H) (Q (.bl true) H) := ⟨fun h => h⟩
instance : Step (tIf t ta tb σ H Q) (t σ H (kIf ta tb Q σ)) := ⟨fun h => h⟩
instance : Step (kIf ta tb Q σ true H) (ta σ H Q) := ⟨fun h => iteT h⟩
instance : Step (kIf ta tb Q σ false H) (tb σ H Q) := ⟨fun h => iteF h⟩
instance : Step (tChain r r' ta tb tc σ H Q) (ta σ H (kCh1 r r' tb tc Q σ)) := ⟨fun h => h⟩
instance : Step (kCh1 r r' tb tc Q σ x H) (tb σ H (kCh2 r r' tc Q σ x)) := ⟨fun h => h⟩
instance : Step (kCh2 r r' tc Q σ x y H) (r x y H (kCh3 r' tc Q σ y)) := ⟨fun h => h⟩
instance : Step (kCh3 r' tc Q σ y (.bl b) H) (kCh4 r' tc Q σ y b H) := ⟨fun h => ⟨b, rfl, h⟩⟩
instance : Step (kCh4 r' tc Q σ y true H) (tc σ H (kOp2 r' Q y)) := ⟨fun h => iteT h⟩
instance : Step (kCh4 r' tc Q σ y false H) (Q (.bl false) H) := ⟨fun h => iteF h⟩
instance : Step (tNil σ H QV) (QV [] H) := ⟨fun h => h⟩
instance : Step (tCons ta tr σ H QV) (ta σ H (kCons tr QV σ)) := ⟨fun h => h⟩
instance : Step (kCons tr QV σ x H) (tr σ H (kPre QV x)) := ⟨fun h => h⟩
instance : Step (kPre QV x xs H) (QV (x :: xs) H) := ⟨fun h => h⟩
instance {rc : List V → Hp → VK → Prop} : Step (tCB rc tr σ H Q) (tr σ H (kCB Q rc)) := ⟨fun h => h⟩
instance {rc : List V → Hp → VK → Prop} : Step (kCB Q rc xs H) (rc xs H Q) := ⟨fun h => h⟩
instance : Step (rAbs [.int a] H Q) (Q (.int (if a < 0 then -a else a)) H) := ⟨fun h => ⟨a, rfl, h⟩⟩
instance : Step (rMin2 [.int a, .int c] H Q) (Q (.int (if c < a then c else a)) H) := ⟨fun h => ⟨a, c, rfl, h⟩⟩
instance : Step (rMax2 [.int a, .int c] H Q) (Q (.int (if c > a then c else a)) H) := ⟨fun h => ⟨a, c, rfl, h⟩⟩
theorem call_nil {sp : Sp} {E : XK} (h : tr σ H (kCall Q sp E)) : tCall sp [] E tr σ H Q := by
  have e0 : (fun (vs : List V) (H1 : Hp) => sp (vs ++ []) H1 Q E) = kCall Q sp E := by
    funext vs H1
    rw [List.append_nil]
    rfl
  show tr σ H (fun vs H1 => sp (vs ++ []) H1 Q E)
  rw [e0]
  exact h
instance {sp : Sp} {E : XK} : Step (tCall sp [] E tr σ H Q) (tr σ H (kCall Q sp E)) := ⟨call_nil⟩
instance {sp : Sp} {E : XK} : Step (kCall Q sp E xs H) (sp xs H Q E) := ⟨fun h => h⟩
instance {T : String} {rm : V → List V → Hp → VK → Prop} : Step (tBM K T rm te tr σ H Q) (te σ H (kBM tr Q σ K T rm)) := ⟨fun h => h⟩
instance {T : String} {rm : V → List V → Hp → VK → Prop} : Step (tBM0 K T rm te σ H Q) (te σ H (kBM0 Q K T rm)) := ⟨fun h => h⟩
instance {rm : V → List V → Hp → VK → Prop} : Step (kRv Q x rm xs H) (rm x xs H Q) := ⟨fun h => h⟩
instance : Step (tLst tr σ H Q) (tr σ H (kLst Q)) := ⟨fun h => h⟩
instance : Step (tTup tr σ H Q) (tr σ H (kTup Q)) := ⟨fun h => h⟩
instance {QO : Option Int → Hp → Prop} : Step (tNoPart σ H QO) (QO none H) := ⟨fun h => h⟩
instance {QO : Option Int → Hp → Prop} : Step (tPart ta σ H QO) (ta σ H (kPart QO)) := ⟨fun h => h⟩
instance {QO : Option Int → Hp → Prop} : Step (kPart QO (.int a) H) (QO (some a) H) := ⟨fun h => ⟨a, rfl, h⟩⟩
instance {rs : V → Option Int → Option Int → Hp → VK → Prop} {tl th : TO} : Step (tSl rs te tl th σ H Q) (te σ H (kSl1 Q σ rs tl th)) := ⟨fun h => h⟩
instance {rs : V → Option Int → Option Int → Hp → VK → Prop} {tl th : TO} : Step (kSl1 Q σ rs tl th x H) (tl σ H (kSl2 Q σ x rs th)) := ⟨fun h => h⟩
instance {rs : V → Option Int → Option Int → Hp → VK → Prop} {th : TO} {l : Option Int} : Step (kSl2 Q σ x rs th l H) (th σ H (kSl3 Q x rs l)) := ⟨fun h => h⟩
instance {rs : V → Option Int → Option Int → Hp → VK → Prop} {l o : Option Int} : Step (kSl3 Q x rs l o H) (rs x l o H Q) := ⟨fun h => h⟩
instance : Step (tLstRg (tRg1 ta) σ H Q) (ta σ H (kLstRg Q)) := ⟨fun h => h⟩
instance : Step (tRevL K ta σ H Q) (ta σ H (kRev Q K)) := ⟨fun h => h⟩
instance : Step (tDGet ta tb σ H Q) (ta σ H (kDGet1 Q σ tb)) := ⟨fun h => h⟩
instance : Step (kDGet1 Q σ tb x H) (tb σ H (kDGet2 Q x)) := ⟨fun h => h⟩
instance : Step (tDIn ta tb σ H Q) (ta σ H (kDIn1 Q σ tb)) := ⟨fun h => h⟩
instance : Step (kDIn1 Q σ tb y H) (tb σ H (kDIn2 Q y)) := ⟨fun h => h⟩
instance {sp : Sp} : Step (kCallA Q sp xs H) (sp xs H Q (fun _ _ _ => False)) := ⟨fun h => h⟩
end

/-! ### steps that ask something -/
section
variable {K : PySem.W.Frag} {H : Hp} {Q : VK} {xs ys zs : List V} {a l b p : Addr} {x y z v : V} {σ : L2.St} {tr : TA} {QS : L2.St → Hp → Prop}
theorem i_start {t : TS} {D : Ends} {σ σ' : L2.St} {H : Hp} (e : σ = σ') (q : t D σ' H) : t D σ H := by
  rw [e]
  exact q
/-- by cases on a test -/
theorem i_br {F : Bool → Hp → Prop} {c : Prop} [Decidable c] (h1 : c → F true H) (h2 : ¬ c → F false H) : F (decide c) H := by
  by_cases h : c
  · rw [decide_eq_true h]
    exact h1 h
  · rw [decide_eq_false h]
    exact h2 h
theorem i_nbr {F : Bool → Hp → Prop} {c : Prop} [Decidable c] (h1 : c → F false H) (h2 : ¬ c → F true H) : F (!decide c) H := by
  by_cases h : c
  · rw [decide_eq_true h]
    exact h1 h
  · rw [decide_eq_false h]
    exact h2 h
theorem i_yes {F : Bool → Hp → Prop} {c : Prop} [Decidable c] (h : c) (q : F true H) : F (decide c) H := by
  rw [decide_eq_true h]
  exact q
theorem i_no {F : Bool → Hp → Prop} {c : Prop} [Decidable c] (h : ¬ c) (q : F false H) : F (decide c) H := by
  rw [decide_eq_false h]
  exact q
theorem i_nyes {F : Bool → Hp → Prop} {c : Prop} [Decidable c] (h : c) (q : F false H) : F (!decide c) H := by
  rw [decide_eq_true h]
  exact q
theorem i_nno {F : Bool → Hp → Prop} {c : Prop} [Decidable c] (h : ¬ c) (q : F true H) : F (!decide c) H := by
  rw [decide_eq_false h]
  exact q
theorem i_bool {F : Bool → Hp → Prop} {c : Bool} (h1 : c = true → F true H) (h2 : c = false → F false H) : F c H := by
  cases c with
  | true => exact h1 rfl
  | false => exact h2 rfl
theorem i_I {C : Int → Int → Prop} {g : Int → Int → V} {i j : Int} (c : C i j) (q : Q (g i j) H) : rI C g (.int i) (.int j) H Q := ⟨i, j, rfl, rfl, c, q⟩
theorem i_ixL {i : Int} (h : SqL K H p xs) (e : atI xs i = some v) (q : Q v H) : rIxL K (.ref p) (.int i) H Q := ⟨p, xs, i, v, rfl, rfl, h, e, q⟩
theorem i_ixT {i : Int} (h : SqT K H p xs) (e : atI xs i = some v) (q : Q v H) : rIxT K (.ref p) (.int i) H Q := ⟨p, xs, i, v, rfl, rfl, h, e, q⟩
theorem i_setL {k : Int} {j : Nat} {w : V} {Q : Hp → Prop} (h : H l = some (.lst xs)) (e : ixN xs.length k = some j) (q : Q (upd H l (.lst (xs.set j w)))) : rSetL (.ref l) (.int k) w H Q := ⟨l, xs, k, j, rfl, rfl, h, e, q⟩
theorem i_gtup {n : Nat} {t : TGs} (h : SqT K H a xs) (e : xs.length = n) (q : t xs σ H QS) : gTup K n t (.ref a) σ H QS := ⟨a, xs, rfl, h, e, q⟩
theorem i_bm {r : V → List V → Hp → VK → Prop} (h : SqL K H a xs) (q : tr σ H (kRv Q (.ref a) r)) : kBM tr Q σ K "list" r (.ref a) H := ⟨.inl ⟨rfl, _, h⟩, q⟩
theorem i_bm0 {r : V → List V → Hp → VK → Prop} (h : SqL K H a xs) (q : r (.ref a) [] H Q) : kBM0 Q K "list" r (.ref a) H := ⟨.inl ⟨rfl, _, h⟩, q⟩
theorem i_len (h : SqL K H a xs) (q : Q (.int (xs.length : Nat)) H) : rLen K [.ref a] H Q := ⟨a, xs, rfl, .inl h, q⟩
theorem i_lenI {ns : List Int} (h : SqL K H a (ns.map V.int)) (q : Q (.int (ns.length : Nat)) H) : rLen K [.ref a] H Q := ⟨a, _, rfl, .inl h, by rw [List.length_map]; exact q⟩
theorem i_lenT (h : SqT K H a xs) (q : Q (.int (xs.length : Nat)) H) : rLen K [.ref a] H Q := ⟨a, xs, rfl, .inr h, q⟩
theorem i_append (h : H l = some (.lst xs)) (hz : xs.length < sizeLine) (q : Q .non (upd H l (.lst (xs ++ [y])))) : rAppend (.ref l) [y] H Q := ⟨l, xs, y, rfl, rfl, h, hz, q⟩
theorem i_extend (h : H l = some (.lst xs)) (h' : H b = some (.lst zs)) (hz : xs.length + zs.length ≤ sizeLine) (q : Q .non (upd H l (.lst (xs ++ zs)))) : rExtend (.ref l) [.ref b] H Q := ⟨l, b, xs, zs, rfl, rfl, h, h', hz, q⟩
theorem i_pop (h : H l = some (.lst xs)) (hy : xs[xs.length - 1]? = some y) (q : Q y (upd H l (.lst xs.dropLast))) : rPop (.ref l) [] H Q := ⟨l, xs, y, rfl, rfl, h, hy, q⟩
theorem ixN_of {n j : Nat} {i : Int} (e : i = (j : Int)) (hj : j < n) : ixN n i = some j := by
  subst e
  unfold ixN
  rw [if_pos (by omega), if_pos (by omega)]
  simp
theorem at_of {j : Nat} {i : Int} (e : i = (j : Int)) (h : xs[j]? = some v) : atI xs i = some v := by
  subst e
  exact atI_nat h
theorem i_popAt {j : Nat} {i : Int} (h : H l = some (.lst xs)) (e : i = (j : Int)) (hj : xs[j]? = some y) (hl : xs.length ≤ 100000) (q : Q y (upd H l (.lst (xs.eraseIdx j)))) : rPopAt (.ref l) [.int i] H Q := by
  have hlt : j < xs.length := (List.getElem?_eq_some_iff.mp hj).1
  have e1 : ixN xs.length (j : Int) = some j := ixN_of rfl hlt
  subst e
  exact ⟨l, xs, (j : Int), j, y, rfl, rfl, h, by omega, by omega, (ixN_seq e1).1, hj, q⟩
theorem i_insert0 (h : H l = some (.lst xs)) (hz : xs.length < sizeLine) (q : Q .non (upd H l (.lst (y :: xs)))) : rInsert (.ref l) [.int 0, y] H Q := ⟨l, xs, 0, y, rfl, rfl, h, hz, by decide, by decide, q⟩
/-- a new object: the heap behind it is one that grew -/
theorem i_lst (hz : xs.length ≤ sizeLine) (q : ∀ p H', H p = none → Same H H' → H' p = some (.lst xs) → Q (.ref p) H') : kLst Q xs H := ⟨hz, fun p hp => q p _ hp (fun b x e => by rw [upd_ne (ne_of_none e hp)]; exact e) upd_same⟩
theorem i_tup (hz : xs.length ≤ sizeLine) (q : ∀ p H', H p = none → Same H H' → H' p = some (.tup xs) → Q (.ref p) H') : kTup Q xs H := ⟨hz, fun p hp => q p _ hp (fun b x e => by rw [upd_ne (ne_of_none e hp)]; exact e) upd_same⟩
theorem grow {o : HO} (q : ∀ p H', H p = none → Same H H' → H' p = some o → Q (.ref p) H') : ∀ p, H p = none → Q (.ref p) (upd H p o) := fun p hp => q p _ hp (fun b x e => by rw [upd_ne (ne_of_none e hp)]; exact e) upd_same
theorem i_cat (h1 : H l = some (.lst xs)) (h' : H b = some (.lst zs)) (hz : xs.length + zs.length ≤ sizeLine) (q : ∀ p H', H p = none → Same H H' → H' p = some (.lst (xs ++ zs)) → Q (.ref p) H') : rCat (.ref l) (.ref b) H Q := ⟨l, b, xs, zs, rfl, rfl, h1, h', hz, grow q⟩
theorem i_slL {lo hi : Option Int} (h : SqL K H a xs) (q : ∀ p H', H p = none → Same H H' → H' p = some (.lst (cutV xs lo hi)) → Q (.ref p) H') : rSlL K (.ref a) lo hi H Q := ⟨a, xs, rfl, h, grow q⟩
theorem i_listOf (h : SqL K H a xs) (q : ∀ p H', H p = none → Same H H' → H' p = some (.lst xs) → Q (.ref p) H') : rListOf K [.ref a] H Q := ⟨a, xs, rfl, .inl h, grow q⟩
theorem i_listOfT (h : SqT K H a xs) (q : ∀ p H', H p = none → Same H H' → H' p = some (.lst xs) → Q (.ref p) H') : rListOf K [.ref a] H Q := ⟨a, xs, rfl, .inr h, grow q⟩
theorem i_tupOf (h : SqL K H a xs) (q : ∀ p H', H p = none → Same H H' → H' p = some (.tup xs) → Q (.ref p) H') : rTupOf K [.ref a] H Q := ⟨a, xs, rfl, .inl ⟨h, grow q⟩⟩
theorem i_lstRg {n : Int} (hn : 0 ≤ n ∧ n ≤ 16777216) (q : ∀ p H', H p = none → Same H H' → H' p = some (.lst (rgV 0 n)) → Q (.ref p) H') : kLstRg Q (.int n) H := ⟨n, rfl, RgOk.of_le (Int.le_refl 0) hn.2 (by decide) hn.1, grow q⟩
theorem i_rev (h : SqL K H a xs) (q : ∀ p H', H p = none → Same H H' → H' p = some (.lst xs.reverse) → Q (.ref p) H') : kRev Q K (.ref a) H := ⟨a, xs, rfl, h, grow q⟩
theorem i_cut {t u : TS} {nx : L2.St → Hp → Prop} {rt : VK} {bk ct : L2.St → Hp → Prop} {σ : L2.St} (Mid : L2.St → Hp → Prop) (h1 : t ⟨Mid, rt, bk, ct⟩ σ H) (h2 : ∀ σ' H', Mid σ' H' → u ⟨nx, rt, bk, ct⟩ σ' H') : C8.tCut t u ⟨nx, rt, bk, ct⟩ σ H := ⟨Mid, h1, h2⟩
end

/-! ### heaps -/
theorem upd_at {H : Hp} {a b : Addr} {o u : HO} (n : b ≠ a) (h : H b = some u) : upd H a o b = some u := (upd_ne n).trans h
theorem mut_at {H H' : Hp} {a p : Addr} {o u : HO} (s : Same H H') (n : H p = none) (h : H a = some u) : upd H' p o a = some u := by
  rw [upd_ne (ne_of_none h n)]
  exact s a u h
theorem same_at {H H' : Hp} {a : Addr} {o : HO} (s : Same H H') (h : H a = some o) : H' a = some o := s a o h
theorem same_new {H : Hp} {p : Addr} {o : HO} (h : H p = none) : Same H (upd H p o) := fun b x e => by
  rw [upd_ne (ne_of_none e h)]
  exact e
/-- what the first heap doesn't know may change -/
theorem smut {H H' : Hp} {p : Addr} {o : HO} (s : Same H H') (h : H p = none) : Same H (upd H' p o) := fun b x e => by
  rw [upd_ne (ne_of_none e h)]
  exact s b x e
theorem stup {K : PySem.W.Frag} {H H' : Hp} {a : Addr} {xs : List V} (e : Same H H') (h : SqT K H a xs) : SqT K H' a xs := by
  rcases h with (h | ⟨o, h⟩) | h
  · exact .inl (.inl (e _ _ h))
  · exact .inl (.inr ⟨o, e _ _ h⟩)
  · exact .inr h
theorem mut_l {K : PySem.W.Frag} {H H' : Hp} {a p : Addr} {o : HO} {xs : List V} (s : Same H H') (n : H p = none) (h : SqL K H a xs) : SqL K (upd H' p o) a xs := (smut s n).seq h
theorem mut_t {K : PySem.W.Frag} {H H' : Hp} {a p : Addr} {o : HO} {xs : List V} (s : Same H H') (n : H p = none) (h : SqT K H a xs) : SqT K (upd H' p o) a xs := stup (smut s n) h
/-- the heap without what stands at d -/
def hide (d : Addr) (H : Hp) : Hp := fun a => if a = d then none else H a
theorem hide_d {d : Addr} {H : Hp} : hide d H d = none := by
  unfold hide
  rw [if_pos rfl]
theorem hide_ne {d a : Addr} {H : Hp} (h : a ≠ d) : hide d H a = H a := by
  unfold hide
  rw [if_neg h]
theorem hide_same {d : Addr} {H : Hp} : Same (hide d H) H := fun b o e => by
  by_cases h : b = d
  · rw [h, hide_d] at e
    cases e
  · rw [hide_ne h] at e
    exact e
theorem hide_of {d : Addr} {H0 H : Hp} (n : H0 d = none) (s : Same H0 H) : Same H0 (hide d H) := fun b o e => by
  rw [hide_ne (ne_of_none e n)]
  exact s b o e
theorem hide_tr {d : Addr} {H H1 H2 : Hp} (s : Same (hide d H) H1) (t : Same (hide d H1) H2) : Same (hide d H) H2 := fun b o e => by
  have nb : b ≠ d := fun y => by
    rw [y, hide_d] at e
    cases e
  exact t b o ((hide_ne nb).trans (s b o e))
theorem hide_mut {d : Addr} {H : Hp} {o : HO} : Same (hide d H) (upd H d o) := smut hide_same hide_d
theorem sl_of {K : PySem.W.Frag} {H : Hp} {a : Addr} {xs : List V} (h : H a = some (.lst xs)) : SqL K H a xs := .inl (.inl h)
theorem st_of {K : PySem.W.Frag} {H : Hp} {a : Addr} {xs : List V} (h : H a = some (.tup xs)) : SqT K H a xs := .inl (.inl h)
theorem sz {n : Nat} (h : n ≤ 100000) : n ≤ sizeLine := Nat.le_trans h (by decide)
theorem szl {n : Nat} (h : n < 100000) : n < sizeLine := Nat.lt_of_lt_of_le h (by decide)

/-! ### a def of the module with its parameters -/
structure Dd (K : PySem.W.Frag) (mg : Str → Option Value) (x : Str) (st : Stmt) (ps : List Str) : Prop where
  ex : ∃ f fd, C8.Def K mg x st f fd ∧ Binds K fd ps []
section
variable {P : Program} {w : World} {K : PySem.W.Frag} {mg : Str → Option Value} {base : Heap}
theorem Dd.cal {x : Str} {st : Stmt} {N ps : List Str} {k : Nat} {sp : Sp} (d : Dd K mg x st ps) (S : FnScope N ps (C8.fnScope st)) (len : ∀ vs H Q E, sp vs H Q E → vs.length = ps.length)
    (hbody : ∀ (f : Addr) (cdv : Value) (A : Around) (outer : List Env) (s : Shared) (H : Hp) (vs : List V) (Q : VK) (E : XK), Room k (A.deeper (envOfC x (C8.fnScope st) s.heap.objs.size f cdv)) → sp vs H Q E →
      ∃ t, PSs (cxOf C8.CX0 P w K mg base N x (C8.fnScope st) f cdv A outer s H E).nox (C8.fnBody st) t ∧ t { nx := fun _ H' => Q .non H', rt := Q } (start N vs) H) : C8.Cal P w K mg base (k + 1) x sp [] := by
  obtain ⟨f, fd, F, b⟩ := d.ex
  exact C8.cal0 F b .nil S len fun cdv A outer s H vs Q E hr h => hbody f cdv A outer s H vs Q E hr h
end
end Esc

/-! Loops and comprehensions. -/
namespace Esc
open PySem PySem.Spec PyProof.Rows L2

/-! ### slots forgotten -/
class Pn (i : Nat) (σ : L2.St) (σ' : outParam L2.St) : Prop where
  h : σ.set i none = σ'
instance Pn.z {x : Option V} {r : L2.St} : Pn 0 (x :: r) (none :: r) := ⟨rfl⟩
instance Pn.s {i : Nat} {x : Option V} {r r' : L2.St} [a : Pn i r r'] : Pn (i + 1) (x :: r) (x :: r') := ⟨by rw [List.set_cons_succ, a.h]⟩
class Wp (vs : List Nat) (σ : L2.St) (σ' : outParam L2.St) : Prop where
  h : wipe σ vs = σ'
instance Wp.nil {σ : L2.St} : Wp [] σ σ := ⟨rfl⟩
instance Wp.mnil {σ : L2.St} : Wp (List.map (fun (x : Str × Nat) => x.snd) []) σ σ := ⟨rfl⟩
instance Wp.mcons {y : Str} {v : Nat} {r : List (Str × Nat)} {σ σ1 σ2 : L2.St} [a : Wp (List.map (fun (x : Str × Nat) => x.snd) r) σ σ1] [b : Pn v σ1 σ2] : Wp (List.map (fun (x : Str × Nat) => x.snd) ((y, v) :: r)) σ σ2 := ⟨by
  show (wipe σ (List.map (fun (x : Str × Nat) => x.snd) r)).set v none = σ2
  rw [a.h, b.h]⟩
instance Wp.cons {v : Nat} {vs : List Nat} {σ σ1 σ2 : L2.St} [a : Wp vs σ σ1] [b : Pn v σ1 σ2] : Wp (v :: vs) σ σ2 := ⟨by
  show (wipe σ vs).set v none = σ2
  rw [a.h, b.h]⟩

/-! ### for -/
def Loop (J : It) (g : TG) (tb : TS) (D : Ends) (σ : L2.St) (H1 : Hp) : Prop := ∃ W : Nat → Nat → L2.St → Hp → Prop, (∃ m, W 0 m σ H1) ∧ ∀ i m σ H, W i m σ H →
  (J.stop i H ∧ D.nx σ H) ∨ (J.go i H ∧ ∃ N : L2.St → Hp → Prop, (∀ σ' H', N σ' H' → ∃ m', m' < m ∧ W (i + 1) m' σ' H') ∧ ∀ x H', J.yld i H x H' → g x σ H' fun σ2 H2 => tb { D with nx := N, ct := N, bk := D.nx } σ2 H2)
section
variable {K : PySem.W.Frag} {H : Hp} {g : TG} {tb : TS} {nx : L2.St → Hp → Prop} {rt : VK} {bk ct : L2.St → Hp → Prop} {σ : L2.St} {D : Ends} {te : TE} {ta : TA} {a : Addr} {xs : List V}
def kFor (K : PySem.W.Frag) (g : TG) (tb : TS) (D : Ends) (σ : L2.St) : VK := fun x H1 => ∃ a, x = .ref a ∧ (∃ xs, SqL K H1 a xs) ∧ Loop (Itl K a) g tb D σ H1
def kForT (K : PySem.W.Frag) (g : TG) (tb : TS) (D : Ends) (σ : L2.St) : VK := fun x H1 => ∃ a, x = .ref a ∧ (∃ xs, SqT K H1 a xs) ∧ Loop (Itt K a) g tb D σ H1
def kRng (g : TG) (tb : TS) (D : Ends) (σ : L2.St) : List V → Hp → Prop := fun vs H1 => ∃ j : Int, vs = [.int j] ∧ -(2 ^ 62) ≤ j ∧ j < 2 ^ 62 ∧ Loop (Itr 0 j.toNat) g tb D σ H1
def kEnm (K : PySem.W.Frag) (g : TG) (tb : TS) (D : Ends) (σ : L2.St) : List V → Hp → Prop := fun vs H1 => ∃ a xs, vs = [.ref a] ∧ SqL K H1 a xs ∧ Loop (Ite K a) g tb D σ H1
def kRvs (K : PySem.W.Frag) (g : TG) (tb : TS) (D : Ends) (σ : L2.St) : List V → Hp → Prop := fun vs H1 => ∃ (a : Addr) (xs : List V), vs = [.ref a] ∧ SqL K H1 a xs ∧ Loop (Itv K a xs.length) g tb D σ H1
instance : Step (tFor (iList K te) g tb D σ H) (te σ H (kFor K g tb D σ)) := ⟨fun h => h⟩
instance : Step (tFor (iTup K te) g tb D σ H) (te σ H (kForT K g tb D σ)) := ⟨fun h => h⟩
instance : Step (tFor (iRng1 ta) g tb D σ H) (ta σ H (kRng g tb D σ)) := ⟨fun h => h⟩
instance : Step (tFor (iEnum K ta) g tb D σ H) (ta σ H (kEnm K g tb D σ)) := ⟨fun h => h⟩
instance : Step (tFor (iRev K ta) g tb D σ H) (ta σ H (kRvs K g tb D σ)) := ⟨fun h => h⟩
theorem i_for (hx : SqL K H a xs) (Pv : Nat → L2.St → Hp → Prop) (h0 : Pv 0 σ H) (hl : ∀ i σ H, i ≤ xs.length → Pv i σ H → SqL K H a xs)
    (hs : ∀ i x σ H, xs[i]? = some x → Pv i σ H → g x σ H (tb ⟨Pv (i + 1), rt, nx, Pv (i + 1)⟩)) (hd : ∀ σ H, Pv xs.length σ H → nx σ H) : kFor K g tb ⟨nx, rt, bk, ct⟩ σ (.ref a) H :=
  ⟨a, rfl, ⟨xs, hx⟩, for_list (D := ⟨nx, rt, bk, ct⟩) (xs := xs) Pv h0 hl hs hd⟩
theorem i_forT (hx : SqT K H a xs) (Pv : Nat → L2.St → Hp → Prop) (h0 : Pv 0 σ H) (hl : ∀ i σ H, i ≤ xs.length → Pv i σ H → SqT K H a xs)
    (hs : ∀ i x σ H, xs[i]? = some x → Pv i σ H → g x σ H (tb ⟨Pv (i + 1), rt, nx, Pv (i + 1)⟩)) (hd : ∀ σ H, Pv xs.length σ H → nx σ H) : kForT K g tb ⟨nx, rt, bk, ct⟩ σ (.ref a) H :=
  ⟨a, rfl, ⟨xs, hx⟩, for_tup (D := ⟨nx, rt, bk, ct⟩) (xs := xs) Pv h0 hl hs hd⟩
theorem i_rng {n : Int} (hn : 0 ≤ n ∧ n ≤ 1000000) (Pv : Nat → L2.St → Hp → Prop) (h0 : Pv 0 σ H)
    (hs : ∀ (i : Nat) σ H, (i : Int) < n → Pv i σ H → g (.int (i : Int)) σ H (tb ⟨Pv (i + 1), rt, nx, Pv (i + 1)⟩)) (hd : ∀ σ H, Pv n.toNat σ H → nx σ H) : kRng g tb ⟨nx, rt, bk, ct⟩ σ [.int n] H :=
  ⟨n, rfl, by omega, by omega, for_range (D := ⟨nx, rt, bk, ct⟩) (lo := 0) (n := n.toNat) Pv h0 (fun i σ' H' hi p => by
    have e0 : (0 : Int) + (i : Int) = (i : Int) := Int.zero_add _
    rw [e0]
    exact hs i σ' H' (by omega) p) hd⟩
theorem i_enum (hx : SqL K H a xs) (Pv : Nat → L2.St → Hp → Prop) (h0 : Pv 0 σ H) (hl : ∀ i σ H, i ≤ xs.length → Pv i σ H → SqL K H a xs)
    (hs : ∀ i x σ H T H', xs[i]? = some x → Pv i σ H → H T = none → Same H H' → H' T = some (.tup [.int (i : Nat), x]) → g (.ref T) σ H' (tb ⟨Pv (i + 1), rt, nx, Pv (i + 1)⟩)) (hd : ∀ σ H, Pv xs.length σ H → nx σ H) :
    kEnm K g tb ⟨nx, rt, bk, ct⟩ σ [.ref a] H := by
  refine ⟨a, xs, rfl, hx, fun i m σ H => m = xs.length - i ∧ i ≤ xs.length ∧ Pv i σ H, ⟨xs.length, by simp, Nat.zero_le _, h0⟩, ?_⟩
  rintro i m σ H ⟨rfl, hi, p⟩
  have q := hl i σ H hi p
  by_cases hlt : i < xs.length
  · refine .inr ⟨⟨xs, xs[i], q, by simp [hlt]⟩, Pv (i + 1), fun σ' H' p' => ⟨xs.length - (i + 1), by omega, rfl, hlt, p'⟩, fun x H' y => ?_⟩
    obtain ⟨T, x, rfl, nT, rfl, y⟩ := y
    exact hs i x σ H T _ (y xs q) p nT (same_new nT) upd_same
  · have e : i = xs.length := by omega
    subst e
    exact .inl ⟨⟨xs, q, Nat.le_refl _⟩, hd σ H p⟩
theorem i_rvs (hx : SqL K H a xs) (Pv : Nat → L2.St → Hp → Prop) (h0 : Pv 0 σ H) (hl : ∀ i σ H, i ≤ xs.length → Pv i σ H → SqL K H a xs)
    (hs : ∀ i x σ H, i < xs.length → xs[xs.length - 1 - i]? = some x → Pv i σ H → g x σ H (tb ⟨Pv (i + 1), rt, nx, Pv (i + 1)⟩)) (hd : ∀ σ H, Pv xs.length σ H → nx σ H) :
    kRvs K g tb ⟨nx, rt, bk, ct⟩ σ [.ref a] H := by
  refine ⟨a, xs, rfl, hx, fun i m σ H => m = xs.length - i ∧ i ≤ xs.length ∧ Pv i σ H, ⟨xs.length, by simp, Nat.zero_le _, h0⟩, ?_⟩
  rintro i m σ H ⟨rfl, hi, p⟩
  have q := hl i σ H hi p
  by_cases hlt : i < xs.length
  · refine .inr ⟨⟨hlt, xs, xs[xs.length - 1 - i], q, List.getElem?_eq_getElem (by omega)⟩, Pv (i + 1), fun σ' H' p' => ⟨xs.length - (i + 1), by omega, rfl, hlt, p'⟩, fun x H' y => ?_⟩
    obtain ⟨e, y⟩ := y
    subst e
    exact hs i x σ _ hlt (y xs q) p
  · have e : i = xs.length := by omega
    subst e
    exact .inl ⟨Nat.le_refl _, hd σ H p⟩
end

/-! ### while -/
def kLess (W : Nat → L2.St → Hp → Prop) (m : Nat) : L2.St → Hp → Prop := fun σ H => ∃ m', m' < m ∧ W m' σ H
def kWh (tb : TS) (W : Nat → L2.St → Hp → Prop) (m : Nat) (nx : L2.St → Hp → Prop) (rt : VK) (σ : L2.St) : Bool → Hp → Prop := fun b H1 =>
  if b = true then ∃ N : L2.St → Hp → Prop, (∀ σ' H', N σ' H' → ∃ m', m' < m ∧ W m' σ' H') ∧ tb ⟨N, rt, nx, N⟩ σ H1 else nx σ H1
section
variable {H : Hp} {tb : TS} {tc : TT} {nx : L2.St → Hp → Prop} {rt : VK} {bk ct : L2.St → Hp → Prop} {σ : L2.St} {W : Nat → L2.St → Hp → Prop} {m : Nat}
instance : Step (kWh tb W m nx rt σ true H) (tb ⟨kLess W m, rt, nx, kLess W m⟩ σ H) := ⟨fun h => iteT ⟨kLess W m, fun _ _ q => q, h⟩⟩
instance : Step (kWh tb W m nx rt σ false H) (nx σ H) := ⟨fun h => iteF h⟩
theorem i_while (W : Nat → L2.St → Hp → Prop) (m0 : Nat) (h0 : W m0 σ H) (hs : ∀ m σ H, W m σ H → tc σ H (kWh tb W m nx rt σ)) : tWhile tc tb ⟨nx, rt, bk, ct⟩ σ H := ⟨W, ⟨m0, h0⟩, hs⟩
end

/-! ### comprehensions -/
def LcLoop (J : It) (g : TG) (tt : TT) (te : TE) (vs : List Nat) (σ : L2.St) (Q : VK) (H1 : Hp) : Prop := ∀ D, H1 D = none → ∃ W : Nat → Nat → Hp → Prop, (∃ m, W 0 m (upd H1 D (.lst []))) ∧ ∀ i m H, W i m H →
  (J.stop i H ∧ Q (.ref D) H) ∨ (J.go i H ∧ ∃ Nx : Hp → Prop, (∀ H', Nx H' → ∃ m', m' < m ∧ W (i + 1) m' H') ∧ ∀ x H', J.yld i H x H' → g x (wipe σ vs) H' fun σ2 H2 => wipe σ2 vs = wipe σ vs ∧ tt σ2 H2 fun b H3 =>
    if b = true then te σ2 H3 fun y H4 => ∃ acc, H4 D = some (.lst acc) ∧ acc.length < sizeLine ∧ Nx (upd H4 D (.lst (acc ++ [y]))) else Nx H3)
def kLc (te : TE) (QN : Hp → Prop) (QY : VK) (σ : L2.St) : Bool → Hp → Prop := fun b H => if b = true then te σ H QY else QN H
def kLcB (σ0 : L2.St) (vs : List Nat) (tt : TT) (te : TE) (QN : Hp → Prop) (QY : VK) : L2.St → Hp → Prop := fun σ2 H2 => wipe σ2 vs = σ0 ∧ tt σ2 H2 (kLc te QN QY σ2)
def kLcL (K : PySem.W.Frag) (g : TG) (tt : TT) (te : TE) (vs : List Nat) (σ : L2.St) (Q : VK) : VK := fun x H1 => ∃ a, x = .ref a ∧ (∃ xs, SqL K H1 a xs) ∧ LcLoop (Itl K a) g tt te vs σ Q H1
def kLcT (K : PySem.W.Frag) (g : TG) (tt : TT) (te : TE) (vs : List Nat) (σ : L2.St) (Q : VK) : VK := fun x H1 => ∃ a, x = .ref a ∧ (∃ xs, SqT K H1 a xs) ∧ LcLoop (Itt K a) g tt te vs σ Q H1
def kLcR (g : TG) (tt : TT) (te : TE) (vs : List Nat) (σ : L2.St) (Q : VK) : List V → Hp → Prop := fun us H1 => ∃ j : Int, us = [.int j] ∧ -(2 ^ 62) ≤ j ∧ j < 2 ^ 62 ∧ LcLoop (Itr 0 j.toNat) g tt te vs σ Q H1
section
variable {K : PySem.W.Frag} {H : Hp} {g : TG} {tt : TT} {te tl : TE} {ta : TA} {vs : List Nat} {σ σ0 σ2 : L2.St} {Q : VK} {a : Addr} {xs : List V} {QN : Hp → Prop} {QY : VK} {QT : Bool → Hp → Prop}
instance : Step (tLc (iList K tl) g tt te vs σ H Q) (tl σ H (kLcL K g tt te vs σ Q)) := ⟨fun h => h⟩
instance : Step (tLc (iTup K tl) g tt te vs σ H Q) (tl σ H (kLcT K g tt te vs σ Q)) := ⟨fun h => h⟩
instance : Step (tLc (iRng1 ta) g tt te vs σ H Q) (ta σ H (kLcR g tt te vs σ Q)) := ⟨fun h => h⟩
instance : Step (tYes σ H QT) (QT true H) := ⟨fun h => h⟩
instance : Step (kLc te QN QY σ true H) (te σ H QY) := ⟨fun h => iteT h⟩
instance : Step (kLc te QN QY σ false H) (QN H) := ⟨fun h => iteF h⟩
instance [w : Wp vs σ2 σ0] : Step (kLcB σ0 vs tt te QN QY σ2 H) (tt σ2 H (kLc te QN QY σ2)) := ⟨fun h => ⟨w.h, h⟩⟩
theorem fm_take {α β : Type} (F : α → Option β) {l : List α} {i : Nat} {x : α} (h : l[i]? = some x) : (l.take (i + 1)).filterMap F = (l.take i).filterMap F ++ (F x).toList := by
  rw [List.take_add_one, h, List.filterMap_append]
  cases e : F x <;> simp [List.filterMap, e]
theorem fm_len {α β : Type} (F : α → Option β) (l : List α) (i : Nat) : ((l.take i).filterMap F).length ≤ l.length :=
  Nat.le_trans (List.length_filterMap_le _ _) (by rw [List.length_take]; exact Nat.min_le_right _ _)
/-- a comprehension whose turns change nothing: F x is what x gives, none if it is left out -/
theorem i_lcL [w : Wp vs σ σ0] (F : V → Option V) (hx : SqL K H a xs) (hz : xs.length < 100000)
    (hs : ∀ x ∈ xs, ∀ H1, Same H H1 → ∀ (QN : Hp → Prop) (QY : VK), (F x = none → ∀ H2, Same H1 H2 → QN H2) → (∀ y, F x = some y → ∀ H2, Same H1 H2 → QY y H2) → g x σ0 H1 (kLcB σ0 vs tt te QN QY))
    (q : ∀ p H', H p = none → Same H H' → H' p = some (.lst (xs.filterMap F)) → Q (.ref p) H') : kLcL K g tt te vs σ Q (.ref a) H := by
  have w' := w.h
  subst w'
  refine ⟨a, rfl, ⟨xs, hx⟩, fun D hD => lc_list (xs := xs) (fun i H' => Same H H' ∧ H' D = some (.lst ((xs.take i).filterMap F))) ⟨same_new hD, upd_same⟩ (fun i H' _ p => p.1.seq hx) (fun i x H' hi p => ?_) (fun H' p => ?_)⟩
  · obtain ⟨s, e⟩ := p
    refine hs x (List.mem_of_getElem? hi) H' s (fun H2 => Same H H2 ∧ H2 D = some (.lst ((xs.take (i + 1)).filterMap F))) _ (fun hn H2 s2 => ⟨s.trans s2, ?_⟩) (fun y hy H2 s2 => ⟨_, s2 _ _ e, szl (Nat.lt_of_le_of_lt (fm_len F xs i) hz), smut (s.trans s2) hD, ?_⟩)
    · rw [fm_take F hi, hn]
      show H2 D = some (.lst (_ ++ []))
      rw [List.append_nil]
      exact s2 _ _ e
    · rw [fm_take F hi, hy]
      exact upd_same
  · rw [List.take_of_length_le (Nat.le_refl _)] at p
    exact q D H' hD p.1 p.2
theorem i_lcT [w : Wp vs σ σ0] (F : V → Option V) (hx : SqT K H a xs) (hz : xs.length < 100000)
    (hs : ∀ x ∈ xs, ∀ H1, Same H H1 → ∀ (QN : Hp → Prop) (QY : VK), (F x = none → ∀ H2, Same H1 H2 → QN H2) → (∀ y, F x = some y → ∀ H2, Same H1 H2 → QY y H2) → g x σ0 H1 (kLcB σ0 vs tt te QN QY))
    (q : ∀ p H', H p = none → Same H H' → H' p = some (.lst (xs.filterMap F)) → Q (.ref p) H') : kLcT K g tt te vs σ Q (.ref a) H := by
  have w' := w.h
  subst w'
  refine ⟨a, rfl, ⟨xs, hx⟩, fun D hD => lc_tup (xs := xs) (fun i H' => Same H H' ∧ H' D = some (.lst ((xs.take i).filterMap F))) ⟨same_new hD, upd_same⟩ (fun i H' _ p => stup p.1 hx) (fun i x H' hi p => ?_) (fun H' p => ?_)⟩
  · obtain ⟨s, e⟩ := p
    refine hs x (List.mem_of_getElem? hi) H' s (fun H2 => Same H H2 ∧ H2 D = some (.lst ((xs.take (i + 1)).filterMap F))) _ (fun hn H2 s2 => ⟨s.trans s2, ?_⟩) (fun y hy H2 s2 => ⟨_, s2 _ _ e, szl (Nat.lt_of_le_of_lt (fm_len F xs i) hz), smut (s.trans s2) hD, ?_⟩)
    · rw [fm_take F hi, hn]
      show H2 D = some (.lst (_ ++ []))
      rw [List.append_nil]
      exact s2 _ _ e
    · rw [fm_take F hi, hy]
      exact upd_same
  · rw [List.take_of_length_le (Nat.le_refl _)] at p
    exact q D H' hD p.1 p.2
/-- .. over range(n) -/
theorem i_lcR [w : Wp vs σ σ0] {n : Int} (F : Nat → Option V) (hn : 0 ≤ n ∧ n < 100000)
    (hs : ∀ i : Nat, (i : Int) < n → ∀ H1, Same H H1 → ∀ (QN : Hp → Prop) (QY : VK), (F i = none → ∀ H2, Same H1 H2 → QN H2) → (∀ y, F i = some y → ∀ H2, Same H1 H2 → QY y H2) → g (.int (i : Int)) σ0 H1 (kLcB σ0 vs tt te QN QY))
    (q : ∀ p H', H p = none → Same H H' → H' p = some (.lst ((List.range n.toNat).filterMap F)) → Q (.ref p) H') : kLcR g tt te vs σ Q [.int n] H := by
  have w' := w.h
  subst w'
  have fr : ∀ i, (List.range (i + 1)).filterMap F = (List.range i).filterMap F ++ (F i).toList := fun i => by
    rw [List.range_succ, List.filterMap_append]
    cases e : F i <;> simp [List.filterMap, e]
  refine ⟨n, rfl, by omega, by omega, fun D hD => lc_range (lo := 0) (n := n.toNat) (fun i H' => Same H H' ∧ H' D = some (.lst ((List.range i).filterMap F))) ⟨same_new hD, upd_same⟩ (fun i H' hi p => ?_) (fun H' p => q D H' hD p.1 p.2)⟩
  obtain ⟨s, e⟩ := p
  have e0 : (0 : Int) + (i : Int) = (i : Int) := Int.zero_add _
  rw [e0]
  refine hs i (by omega) H' s (fun H2 => Same H H2 ∧ H2 D = some (.lst ((List.range (i + 1)).filterMap F))) _ (fun hn H2 s2 => ⟨s.trans s2, ?_⟩) (fun y hy H2 s2 => ⟨_, s2 _ _ e, szl (Nat.lt_of_le_of_lt (Nat.le_trans (List.length_filterMap_le _ _) (by rw [List.length_range]; exact Nat.le_of_lt hi)) (by omega)), smut (s.trans s2) hD, ?_⟩)
  · rw [fr, hn]
    show H2 D = some (.lst (_ ++ []))
    rw [List.append_nil]
    exact s2 _ _ e
  · rw [fr, hy]
    exact upd_same
/-- .. whose turns may change what stands: an invariant over the turn's number, the items so far and the heap -/
def kN (Pv : Addr → Nat → List V → Hp → Prop) (D : Addr) (i : Nat) : Hp → Prop := fun H => ∃ acc, acc.length ≤ i + 1 ∧ Pv D (i + 1) acc H
def kY (Pv : Addr → Nat → List V → Hp → Prop) (D : Addr) (i : Nat) : VK := fun y H => ∃ acc, H D = some (.lst acc) ∧ acc.length < sizeLine ∧ kN Pv D i (upd H D (.lst (acc ++ [y])))
theorem kN_of {Pv : Addr → Nat → List V → Hp → Prop} {D : Addr} {i : Nat} {acc : List V} (hl : acc.length ≤ i) (p : Pv D (i + 1) acc H) : kN Pv D i H := ⟨acc, by omega, p⟩
theorem kY_of {Pv : Addr → Nat → List V → Hp → Prop} {D : Addr} {i : Nat} {acc : List V} {y : V} (h : H D = some (.lst acc)) (hl : acc.length ≤ i) (hi : i < 100000) (p : Pv D (i + 1) (acc ++ [y]) (upd H D (.lst (acc ++ [y])))) : kY Pv D i y H :=
  ⟨acc, h, szl (by omega), acc ++ [y], by rw [List.length_append, List.length_singleton]; omega, p⟩
theorem i_lcLI [w : Wp vs σ σ0] (Pv : Addr → Nat → List V → Hp → Prop) (hx0 : SqL K H a xs) (h0 : ∀ D, H D = none → Pv D 0 [] (upd H D (.lst []))) (hx : ∀ D i acc H', H D = none → Pv D i acc H' → SqL K H' a xs)
    (hs : ∀ D i x acc H', H D = none → xs[i]? = some x → acc.length ≤ i → Pv D i acc H' → g x σ0 H' (kLcB σ0 vs tt te (kN Pv D i) (kY Pv D i)))
    (q : ∀ D acc H', H D = none → Pv D xs.length acc H' → Q (.ref D) H') : kLcL K g tt te vs σ Q (.ref a) H := by
  have w' := w.h
  subst w'
  exact ⟨a, rfl, ⟨xs, hx0⟩, fun D hD => lc_list (xs := xs) (fun i H' => ∃ acc, acc.length ≤ i ∧ Pv D i acc H') ⟨[], Nat.le_refl _, h0 D hD⟩ (fun i H' _ ⟨acc, _, p⟩ => hx D i acc H' hD p) (fun i x H' hi ⟨acc, hl, p⟩ => hs D i x acc H' hD hi hl p) (fun H' ⟨acc, _, p⟩ => q D acc H' hD p)⟩
theorem i_lcRI [w : Wp vs σ σ0] {n : Int} (Pv : Addr → Nat → List V → Hp → Prop) (hn : 0 ≤ n ∧ n < 100000) (h0 : ∀ D, H D = none → Pv D 0 [] (upd H D (.lst [])))
    (hs : ∀ D (i : Nat) acc H', H D = none → (i : Int) < n → acc.length ≤ i → Pv D i acc H' → g (.int (i : Int)) σ0 H' (kLcB σ0 vs tt te (kN Pv D i) (kY Pv D i)))
    (q : ∀ D acc H', H D = none → Pv D n.toNat acc H' → Q (.ref D) H') : kLcR g tt te vs σ Q [.int n] H := by
  have w' := w.h
  subst w'
  refine ⟨n, rfl, by omega, by omega, fun D hD => lc_range (lo := 0) (n := n.toNat) (fun i H' => ∃ acc, acc.length ≤ i ∧ Pv D i acc H') ⟨[], Nat.le_refl _, h0 D hD⟩ (fun i H' hi ⟨acc, hl, p⟩ => ?_) (fun H' ⟨acc, _, p⟩ => q D acc H' hD p)⟩
  have e0 : (0 : Int) + (i : Int) = (i : Int) := Int.zero_add _
  rw [e0]
  exact hs D i acc H' hD (by omega) hl p
end

/-! ### dict comprehensions over enumerate -/
def kDcB (σ0 : L2.St) (vs : List Nat) (tt : TT) (tk tv : TE) (D : Addr) (Nx : Hp → Prop) : L2.St → Hp → Prop := fun σ2 H2 => wipe σ2 vs = σ0 ∧ tt σ2 H2 fun b H3 =>
    if b = true then tk σ2 H3 fun y H4 => tv σ2 H4 fun z H5 => ∃ kvs k, y = kV k ∧ H5 D = some (.dK kvs) ∧ kvs.length < sizeLine ∧ Nx (upd H5 D (.dK (putK kvs k z))) else Nx H3
def kDc (tk tv : TE) (D : Addr) (Nx : Hp → Prop) (σ2 : L2.St) : Bool → Hp → Prop := fun b H3 => if b = true then tk σ2 H3 fun y H4 => tv σ2 H4 fun z H5 => ∃ kvs k, y = kV k ∧ H5 D = some (.dK kvs) ∧ kvs.length < sizeLine ∧ Nx (upd H5 D (.dK (putK kvs k z))) else Nx H3
def kDc1 (tv : TE) (D : Addr) (Nx : Hp → Prop) (σ2 : L2.St) : VK := fun y H4 => tv σ2 H4 fun z H5 => ∃ kvs k, y = kV k ∧ H5 D = some (.dK kvs) ∧ kvs.length < sizeLine ∧ Nx (upd H5 D (.dK (putK kvs k z)))
def kDc2 (D : Addr) (Nx : Hp → Prop) (y : V) : VK := fun z H5 => ∃ kvs k, y = kV k ∧ H5 D = some (.dK kvs) ∧ kvs.length < sizeLine ∧ Nx (upd H5 D (.dK (putK kvs k z)))
def DcLoop (J : It) (g : TG) (tt : TT) (tk tv : TE) (vs : List Nat) (σ : L2.St) (Q : VK) (H1 : Hp) : Prop := ∀ D, H1 D = none → ∃ W : Nat → Nat → Hp → Prop, (∃ m, W 0 m (upd H1 D (.dK []))) ∧ ∀ i m H, W i m H →
  (J.stop i H ∧ Q (.ref D) H) ∨ (J.go i H ∧ ∃ Nx : Hp → Prop, (∀ H', Nx H' → ∃ m', m' < m ∧ W (i + 1) m' H') ∧ ∀ x H', J.yld i H x H' → g x (wipe σ vs) H' fun σ2 H2 => wipe σ2 vs = wipe σ vs ∧ tt σ2 H2 fun b H3 =>
    if b = true then tk σ2 H3 fun y H4 => tv σ2 H4 fun z H5 => ∃ kvs k, y = kV k ∧ H5 D = some (.dK kvs) ∧ kvs.length < sizeLine ∧ Nx (upd H5 D (.dK (putK kvs k z))) else Nx H3)
def kDcE (K : PySem.W.Frag) (g : TG) (tt : TT) (tk tv : TE) (vs : List Nat) (σ : L2.St) (Q : VK) : List V → Hp → Prop := fun us H1 => ∃ a xs, us = [.ref a] ∧ SqL K H1 a xs ∧ DcLoop (Ite K a) g tt tk tv vs σ Q H1
section
variable {K : PySem.W.Frag} {H : Hp} {g : TG} {tt : TT} {tk tv : TE} {ta : TA} {vs : List Nat} {σ σ0 σ2 : L2.St} {Q : VK} {a D : Addr} {xs : List V} {Nx : Hp → Prop} {y z : V}
instance : Step (tDc (iEnum K ta) g tt tk tv vs σ H Q) (ta σ H (kDcE K g tt tk tv vs σ Q)) := ⟨fun h => h⟩
instance [w : Wp vs σ2 σ0] : Step (kDcB σ0 vs tt tk tv D Nx σ2 H) (tt σ2 H (kDc tk tv D Nx σ2)) := ⟨fun h => ⟨w.h, h⟩⟩
instance : Step (kDc tk tv D Nx σ2 true H) (tk σ2 H (kDc1 tv D Nx σ2)) := ⟨fun h => iteT h⟩
instance : Step (kDc tk tv D Nx σ2 false H) (Nx H) := ⟨fun h => iteF h⟩
instance : Step (kDc1 tv D Nx σ2 y H) (tv σ2 H (kDc2 D Nx y)) := ⟨fun h => h⟩
theorem i_dcE [w : Wp vs σ σ0] (E : Nat → List (Key × V)) (e0 : E 0 = []) (hE : ∀ i, (E i).length ≤ i) (hx : SqL K H a xs) (hz : xs.length < 100000)
    (hs : ∀ D i x T H1, H D = none → xs[i]? = some x → Same H H1 → H1 D = some (.dK (E i)) → H1 T = some (.tup [.int (i : Nat), x]) → T ≠ D → ∀ Nx : Hp → Prop, (∀ H2, Same H H2 → H2 D = some (.dK (E (i + 1))) → Nx H2) → g (.ref T) σ0 H1 (kDcB σ0 vs tt tk tv D Nx))
    (q : ∀ p H', H p = none → Same H H' → H' p = some (.dK (E xs.length)) → Q (.ref p) H') : kDcE K g tt tk tv vs σ Q [.ref a] H := by
  have w' := w.h
  subst w'
  refine ⟨a, xs, rfl, hx, fun D hD => ⟨fun i m H' => m = xs.length - i ∧ i ≤ xs.length ∧ Same H H' ∧ H' D = some (.dK (E i)), ⟨xs.length, by simp, Nat.zero_le _, same_new hD, by rw [e0]; exact upd_same⟩, ?_⟩⟩
  rintro i m H' ⟨rfl, hi, s, e⟩
  have hq := s.seq hx
  by_cases hlt : i < xs.length
  · refine .inr ⟨⟨xs, xs[i], hq, by simp [hlt]⟩, fun H2 => Same H H2 ∧ H2 D = some (.dK (E (i + 1))), fun H2 p' => ⟨xs.length - (i + 1), by omega, rfl, hlt, p'⟩, fun x H2 y => ?_⟩
    obtain ⟨T, x, rfl, nT, rfl, y⟩ := y
    have nTD : T ≠ D := (ne_of_none e nT).symm
    exact hs D i x T _ hD (y xs hq) (s.trans (same_new nT)) (by rw [upd_ne nTD.symm]; exact e) upd_same nTD _ fun H2 s2 e2 => ⟨s2, e2⟩
  · have ei : i = xs.length := by omega
    subst ei
    exact .inl ⟨⟨xs, hq, Nat.le_refl _⟩, q D H' hD s e⟩
end
/-! ### a dict comprehension that is given to a name -/
section
variable {X : Cx}
theorem sw_dc {kx vx : Expr} {cs : List Comprehension} {sc : Scope} {p py : Pos} {y : Str} {ln : Nat} {ev : Env} (hk : ev.scope.kind = .function) (hy : ev.scope.names.lookup y = some .local) (hl : (py.line == p.line) = true)
    (hn : (sc.names.any fun (n, k) => n == y && (k == .local || k == .cell)) = false) : swapsWith (.DictComp kx vx cs sc p) (some (.Name y py)) ln ev = pure true := by
  have k1 : ev.kindOf y = some .local := hy
  have k2 : ev.blockKind = .function := by unfold Env.blockKind; rw [hk]; rfl
  unfold swapsWith
  simp only [k2, k1, hn, Expr.pos, hl]
  rfl
theorem ps_setDc {i : Nat} {y : Str} {py : Pos} {kx vx tg it : Expr} {ifs : List Expr} {sc : Scope} {own : List (Str × Nat)} {p sp : Pos} {wi : TI} {g : TG} {tt : TT} {tk tv : TE} (hc : X.calm = true) (hN : X.N.Nodup) (hy : X.N[i]? = some y) (hl : X.env.scope.names.lookup y = some .local)
    (hw : swapsWith (.DictComp kx vx [⟨tg, it, ifs, 0⟩] sc p) (some (.Name y py)) sp.line X.env = pure true) (hi : PI X tg it wi) (ok : BlkOk X.N X.env.scope sc own)
    (hg : ∀ (s : Shared) (H : Hp) (C : Addr) (cl : List (Str × Addr)) (fp : List Addr), PG (X.blk s H sc (compEnvC sc cl C X.env) fp) tg g) (ht : ∀ (s : Shared) (H : Hp) (C : Addr) (cl : List (Str × Addr)) (fp : List Addr), PTs (X.blk s H sc (compEnvC sc cl C X.env) fp) ifs tt)
    (hk : ∀ (s : Shared) (H : Hp) (C : Addr) (cl : List (Str × Addr)) (fp : List Addr), PE (X.blk s H sc (compEnvC sc cl C X.env) fp) kx tk)
    (hv : ∀ (s : Shared) (H : Hp) (C : Addr) (cl : List (Str × Addr)) (fp : List Addr), PE (X.blk s H sc (compEnvC sc cl C X.env) fp) vx tv) (hs : ∀ x, foldedSetIterable it X.env x = pure x := by intro _; rfl) :
    PS X (.Assign [.Name y py] (.DictComp kx vx [⟨tg, it, ifs, 0⟩] sc p) sp) (tAsg (tDc wi g tt tk tv (own.map (·.2))) (gName i)) := by
  refine ⟨fun pn s σ H D J q => ?_⟩
  rw [exec_Assign_Name_used _ _ _ _ hw]
  refine wpAny_bind (wpAny_standAt (wpAny_bind ?_))
  show wpAny _ X.A (do let _ ← comprehension (.DictComp kx vx [⟨tg, it, ifs, 0⟩] sc p) sc X.env (firstIterPos [⟨tg, it, ifs, 0⟩] p) newDict false (eval it X.env) (some (assign (.Name y py) X.env))) _ _ s
  have q0 : tDc wi g tt tk tv (own.map (·.2)) σ H (fun x H1 => gName i x σ H1 D.nx) := q
  refine wpAny_bind (thn (dc_core (Qf := fun _ z => SP X pn D .next z) hc hN J hi ok hg ht hk hv hs q0 fun L C z m H' J' q1 nC f => ?_) fun _ z hz => wpAny_pure (wpAny_pure hz))
  show wpAny _ _ (assign (.Name y py) X.env (.ref L)) _ _ _
  refine wpAny_assign_Name (store_ok2 (v := V.ref L) J' hN hy (.inl hl) rfl (fun z2 J2 ⟨a, sb, ha⟩ => ?_) (.inr hl))
  obtain ⟨a0, a1, a2, a3, a4, a5⟩ := f
  have nCa : C ≠ a := by
    rcases ha with e | e
    · rw [e]; exact a1
    · exact fun e' => a4 y a e e'.symm
  refine ⟨m, nC.sameBut sb nCa, fun h3 sb3 => ?_⟩
  exact ⟨_, H', J2.turned (t' := z2.toks) (fun b o hb e => (sb3.2 b hb).trans e) a0 a1 a3 a4 a5, q1⟩
end
end Esc

/-! Rows of digits and their numbers. -/
namespace Esc
theorem mem_dl {α : Type} {l : List α} {x : α} (h : x ∈ l.dropLast) : x ∈ l := List.dropLast_subset l h
def rankD (n : Nat) (ds : List Nat) : Nat := ds.foldl (fun r d => r * n + d + 1) 0
theorem rankD_snoc (n : Nat) (ds : List Nat) (d : Nat) : rankD n (ds ++ [d]) = rankD n ds * n + d + 1 := by
  unfold rankD
  rw [List.foldl_append]
  rfl
def rowD (n r : Nat) : List Nat := if h : r = 0 then [] else rowD n ((r - 1) / n) ++ [(r - 1) % n]
termination_by r
decreasing_by exact Nat.lt_of_le_of_lt (Nat.div_le_self _ _) (by omega)
theorem rowD_zero (n : Nat) : rowD n 0 = [] := by
  rw [rowD]
  exact dif_pos rfl
theorem rowD_pos {n r : Nat} (h : r ≠ 0) : rowD n r = rowD n ((r - 1) / n) ++ [(r - 1) % n] := by
  rw [rowD]
  exact dif_neg h
theorem div_lt' {n r : Nat} (h : r ≠ 0) : (r - 1) / n < r := Nat.lt_of_le_of_lt (Nat.div_le_self _ _) (by omega)
theorem rank_row {n : Nat} : ∀ r : Nat, rankD n (rowD n r) = r := fun r => by
  induction r using Nat.strongRecOn with
  | _ r ih =>
    by_cases h : r = 0
    · rw [h, rowD_zero]
      rfl
    · rw [rowD_pos h, rankD_snoc, ih _ (div_lt' h)]
      have e := Nat.div_add_mod (r - 1) n
      rw [Nat.mul_comm] at e
      omega
theorem row_rank {n : Nat} (hn : 0 < n) : ∀ (k : Nat) (ds : List Nat), ds.length = k → (∀ d ∈ ds, d < n) → rowD n (rankD n ds) = ds
  | 0, [], _, _ => rowD_zero n
  | k + 1, ds, hk, h => by
    have hne : ds ≠ [] := fun e => by
      rw [e] at hk
      cases hk
    have e := List.dropLast_concat_getLast hne
    have hd : ds.getLast hne < n := h _ (List.getLast_mem hne)
    have ih := row_rank hn k ds.dropLast (by rw [List.length_dropLast, hk]; rfl) (fun d m => h d (mem_dl m))
    rw [← e, rankD_snoc, rowD_pos (by omega)]
    have e1 : rankD n ds.dropLast * n + ds.getLast hne + 1 - 1 = ds.getLast hne + n * rankD n ds.dropLast := by
      rw [Nat.mul_comm]
      omega
    rw [e1, Nat.add_mul_div_left _ _ hn, Nat.div_eq_of_lt hd, Nat.zero_add, ih, Nat.add_mul_mod_self_left, Nat.mod_eq_of_lt hd]
theorem row_lt {n : Nat} (hn : 0 < n) : ∀ (r : Nat), ∀ d ∈ rowD n r, d < n := fun r => by
  induction r using Nat.strongRecOn with
  | _ r ih =>
    intro d hd
    by_cases h : r = 0
    · rw [h, rowD_zero] at hd
      cases hd
    · rw [rowD_pos h] at hd
      rcases List.mem_append.mp hd with hd | hd
      · exact ih _ (div_lt' h) d hd
      · rw [List.mem_singleton.mp hd]
        exact Nat.mod_lt _ hn
theorem row_len_mono {m n : Nat} (hm : 0 < m) (hmn : m ≤ n) : ∀ (s r : Nat), r ≤ s → (rowD n r).length ≤ (rowD m s).length := fun s => by
  induction s using Nat.strongRecOn with
  | _ s ih =>
    intro r hr
    by_cases h : r = 0
    · rw [h, rowD_zero]
      exact Nat.zero_le _
    · have hs : s ≠ 0 := by omega
      rw [rowD_pos h, rowD_pos hs, List.length_append, List.length_append]
      have e : (r - 1) / n ≤ (s - 1) / m := Nat.le_trans (Nat.div_le_div_left hmn hm) (Nat.div_le_div_right (by omega))
      exact Nat.add_le_add_right (ih _ (div_lt' hs) _ e) _
/-- shorter rows have lesser numbers -/
theorem rank_short {n : Nat} (hn : 0 < n) : ∀ (k : Nat) (a b : List Nat), b.length = k → a.length < b.length → (∀ d ∈ a, d < n) → rankD n a < rankD n b
  | 0, a, b, hk, h, _ => by omega
  | k + 1, a, b, hk, h, ha => by
    have hb : b ≠ [] := fun e => by
      rw [e] at hk
      cases hk
    have e := List.dropLast_concat_getLast hb
    rw [← e, rankD_snoc]
    by_cases hz : a = []
    · rw [hz]
      show 0 < _
      omega
    · have e2 := List.dropLast_concat_getLast hz
      have hd : a.getLast hz < n := ha _ (List.getLast_mem hz)
      have l1 : a.length = a.dropLast.length + 1 := by
        rw [List.length_dropLast]
        have : a.length ≠ 0 := fun q => hz (List.length_eq_zero_iff.mp q)
        omega
      have l2 : b.dropLast.length = k := by
        rw [List.length_dropLast, hk]
        rfl
      have ih := rank_short hn k a.dropLast b.dropLast l2 (by omega) (fun d m => ha d (mem_dl m))
      have r1 : rankD n a = rankD n a.dropLast * n + a.getLast hz + 1 := by
        have z := rankD_snoc n a.dropLast (a.getLast hz)
        rw [e2] at z
        exact z
      have m1 : (rankD n a.dropLast + 1) * n ≤ rankD n b.dropLast * n := Nat.mul_le_mul_right _ ih
      rw [Nat.add_mul, Nat.one_mul] at m1
      rw [r1]
      omega
/-- a list ahead of another one, sign by sign -/
def lexN : List Nat → List Nat → Bool
  | [], [] => false
  | [], _ :: _ => true
  | _ :: _, [] => false
  | a :: x, b :: y => if a = b then lexN x y else decide (a < b)
theorem lexN_snoc : ∀ (x y : List Nat) (a b : Nat), x.length = y.length → lexN (x ++ [a]) (y ++ [b]) = (lexN x y || (decide (x = y) && decide (a < b)))
  | [], [], a, b, _ => by
    show (if a = b then false else decide (a < b)) = _
    by_cases h : a = b
    · rw [if_pos h, h]
      simp [lexN]
    · rw [if_neg h]
      simp [lexN]
  | [], _ :: _, _, _, h => by simp at h
  | _ :: _, [], _, _, h => by simp at h
  | p :: x, q :: y, a, b, h => by
    show (if p = q then lexN (x ++ [a]) (y ++ [b]) else decide (p < q)) = ((if p = q then lexN x y else decide (p < q)) || _)
    by_cases e : p = q
    · rw [if_pos e, if_pos e, lexN_snoc x y a b (by simpa using h), e]
      simp
    · rw [if_neg e, if_neg e]
      simp [e]
theorem rank_lex {n : Nat} (hn : 0 < n) : ∀ (k : Nat) (a b : List Nat), a.length = k → b.length = k → (∀ d ∈ a, d < n) → (∀ d ∈ b, d < n) → decide (rankD n a < rankD n b) = lexN a b
  | 0, [], [], _, _, _, _ => rfl
  | k + 1, a, b, h1, h2, ha, hb => by
    have na : a ≠ [] := fun e => by
      rw [e] at h1
      cases h1
    have nb : b ≠ [] := fun e => by
      rw [e] at h2
      cases h2
    have ea := List.dropLast_concat_getLast na
    have eb := List.dropLast_concat_getLast nb
    have la : a.dropLast.length = k := by
      rw [List.length_dropLast, h1]
      rfl
    have lb : b.dropLast.length = k := by
      rw [List.length_dropLast, h2]
      rfl
    have ha' : ∀ d ∈ a.dropLast, d < n := fun d m => ha d (mem_dl m)
    have hb' : ∀ d ∈ b.dropLast, d < n := fun d m => hb d (mem_dl m)
    have ih := rank_lex hn k a.dropLast b.dropLast la lb ha' hb'
    have da : a.getLast na < n := ha _ (List.getLast_mem na)
    have db : b.getLast nb < n := hb _ (List.getLast_mem nb)
    rw [← ea, ← eb, lexN_snoc _ _ _ _ (la.trans lb.symm), rankD_snoc, rankD_snoc, ← ih]
    generalize hA : rankD n a.dropLast = A
    generalize hB : rankD n b.dropLast = B
    generalize a.getLast na = x at da
    generalize b.getLast nb = y at db
    have hAB : (a.dropLast = b.dropLast) ↔ A = B := ⟨fun e => by rw [← hA, ← hB, e], fun e => by
      rw [← row_rank hn k _ la ha', ← row_rank hn k _ lb hb', hA, hB, e]⟩
    rw [show decide (a.dropLast = b.dropLast) = decide (A = B) from decide_eq_decide.mpr hAB]
    by_cases c1 : A < B
    · have m1 : (A + 1) * n ≤ B * n := Nat.mul_le_mul_right _ c1
      rw [Nat.add_mul, Nat.one_mul] at m1
      rw [decide_eq_true c1, decide_eq_true (by omega)]
      rfl
    · by_cases c2 : A = B
      · rw [c2]
        simp
      · have m1 : (B + 1) * n ≤ A * n := Nat.mul_le_mul_right _ (by omega)
        rw [Nat.add_mul, Nat.one_mul] at m1
        rw [decide_eq_false c1, decide_eq_false c2, decide_eq_false (by omega)]
        rfl
/-- fewer signs first, of as many those that are less -/
def lessD (a b : List Nat) : Bool := decide (a.length < b.length) || (decide (a.length = b.length) && lexN a b)
theorem rank_less {n : Nat} (hn : 0 < n) {a b : List Nat} (ha : ∀ d ∈ a, d < n) (hb : ∀ d ∈ b, d < n) : lessD a b = decide (rankD n a < rankD n b) := by
  unfold lessD
  by_cases c1 : a.length < b.length
  · rw [decide_eq_true c1, decide_eq_true (rank_short hn _ a b rfl c1 ha)]
    rfl
  · by_cases c2 : a.length = b.length
    · rw [decide_eq_false c1, decide_eq_true c2, rank_lex hn b.length a b c2 rfl ha hb]
      simp
    · have z := rank_short hn _ b a rfl (by omega) hb
      rw [decide_eq_false c1, decide_eq_false c2, decide_eq_false (by omega)]
      rfl
/-- a longer number than that of a row has at most one sign more -/
theorem row_next_len {n : Nat} (hn : 0 < n) (ds : List Nat) (h : ∀ d ∈ ds, d < n) : (rowD n (rankD n ds + 1)).length ≤ ds.length + 1 := by
  have h1 := row_lt hn (rankD n ds + 1)
  by_cases c : (rowD n (rankD n ds + 1)).length ≤ ds.length + 1
  · exact c
  · exfalso
    have hz : ∀ d ∈ List.replicate (ds.length + 1) 0, d < n := fun d m => by
      rw [(List.mem_replicate.mp m).2]
      exact hn
    have z1 := rank_short hn _ ds (List.replicate (ds.length + 1) 0) rfl (by simp) h
    have z2 := rank_short hn _ (List.replicate (ds.length + 1) 0) (rowD n (rankD n ds + 1)) rfl (by rw [List.length_replicate]; omega) hz
    rw [rank_row] at z2
    omega
/-- the number by places: what the signs are worth, and the shorter lists -/
def numD (m : Nat) (ds : List Nat) : Nat × Nat × Nat := ds.foldl (fun (s : Nat × Nat × Nat) d => (s.1 * m + d, s.2.1 + s.2.2, s.2.2 * m)) (0, 0, 1)
theorem numD_snoc (m : Nat) (ds : List Nat) (d : Nat) : numD m (ds ++ [d]) = ((numD m ds).1 * m + d, (numD m ds).2.1 + (numD m ds).2.2, (numD m ds).2.2 * m) := by
  unfold numD
  rw [List.foldl_append]
  rfl
theorem num_inv (m : Nat) (hm : 0 < m) : ∀ (k : Nat) (ds : List Nat), ds.length = k → (numD m ds).2.2 + (numD m ds).2.1 = (numD m ds).2.1 * m + 1 ∧ (numD m ds).1 + (numD m ds).2.1 = rankD m ds ∧ (numD m ds).2.2 = m ^ k
  | 0, [], _ => by
    refine ⟨?_, rfl, rfl⟩
    show 1 + 0 = 0 * m + 1
    omega
  | k + 1, ds, hk => by
    have hne : ds ≠ [] := fun e => by
      rw [e] at hk
      cases hk
    have e := List.dropLast_concat_getLast hne
    have ih := num_inv m hm k ds.dropLast (by rw [List.length_dropLast, hk]; rfl)
    rw [← e, numD_snoc, rankD_snoc]
    generalize numD m ds.dropLast = s at ih
    obtain ⟨v, a, l⟩ := s
    obtain ⟨i1, i2, i3⟩ := ih
    dsimp only at i1 i2 i3 ⊢
    have z : (l + a) * m = (a * m + 1) * m := by rw [i1]
    rw [Nat.add_mul, Nat.add_mul, Nat.one_mul] at z
    refine ⟨?_, ?_, ?_⟩
    · rw [Nat.add_mul]
      omega
    · rw [← i2, Nat.add_mul]
      omega
    · rw [i3]
      rfl
/-! ### what the signs are worth, how many shorter rows there are -/
def valD (m : Nat) (ds : List Nat) : Nat := ds.foldl (fun r d => r * m + d) 0
theorem valD_snoc (m : Nat) (ds : List Nat) (d : Nat) : valD m (ds ++ [d]) = valD m ds * m + d := by
  unfold valD
  rw [List.foldl_append]
  rfl
def aheadD (m : Nat) : Nat → Nat
  | 0 => 0
  | k + 1 => aheadD m k + m ^ k
theorem ahead_mul (m : Nat) : ∀ k : Nat, aheadD m k * m + 1 = aheadD m k + m ^ k
  | 0 => by
    show 0 * m + 1 = 0 + 1
    omega
  | k + 1 => by
    have ih := ahead_mul m k
    show (aheadD m k + m ^ k) * m + 1 = (aheadD m k + m ^ k) + m ^ (k + 1)
    rw [Nat.add_mul, Nat.pow_succ]
    omega
theorem rank_val (m : Nat) : ∀ (k : Nat) (ds : List Nat), ds.length = k → rankD m ds = valD m ds + aheadD m k
  | 0, [], _ => rfl
  | k + 1, ds, hk => by
    have hne : ds ≠ [] := fun e => by
      rw [e] at hk
      cases hk
    have e := List.dropLast_concat_getLast hne
    have ih := rank_val m k ds.dropLast (by rw [List.length_dropLast, hk]; rfl)
    rw [← e, rankD_snoc, valD_snoc, ih, Nat.add_mul]
    have z := ahead_mul m k
    show _ = _ + (aheadD m k + m ^ k)
    omega
theorem val_lt {m : Nat} : ∀ (k : Nat) (ds : List Nat), ds.length = k → (∀ d ∈ ds, d < m) → valD m ds < m ^ k
  | 0, [], _, _ => Nat.one_pos
  | k + 1, ds, hk, h => by
    have hne : ds ≠ [] := fun e => by
      rw [e] at hk
      cases hk
    have e := List.dropLast_concat_getLast hne
    have hd : ds.getLast hne < m := h _ (List.getLast_mem hne)
    have ih := val_lt k ds.dropLast (by rw [List.length_dropLast, hk]; rfl) (fun d z => h d (mem_dl z))
    rw [← e, valD_snoc]
    have m1 : (valD m ds.dropLast + 1) * m ≤ m ^ k * m := Nat.mul_le_mul_right _ ih
    rw [Nat.add_mul, Nat.one_mul] at m1
    rw [Nat.pow_succ]
    omega
theorem ahead_mono (m : Nat) : ∀ {j k : Nat}, j ≤ k → aheadD m j ≤ aheadD m k := fun {j k} h => by
  induction k with
  | zero =>
    rw [Nat.le_zero.mp h]
    exact Nat.le_refl _
  | succ k ih =>
    rcases Nat.lt_or_ge j (k + 1) with c | c
    · exact Nat.le_trans (ih (by omega)) (Nat.le_add_right _ _)
    · rw [show j = k + 1 by omega]
      exact Nat.le_refl _
/-! ### how long rows are -/
theorem rank_up {n : Nat} : ∀ (k : Nat) (ds : List Nat), ds.length = k → (∀ d ∈ ds, d < n) → rankD n ds + 1 ≤ (n + 1) ^ k
  | 0, [], _, _ => Nat.le_refl _
  | k + 1, ds, hk, h => by
    have hne : ds ≠ [] := fun e => by
      rw [e] at hk
      cases hk
    have e := List.dropLast_concat_getLast hne
    have hd : ds.getLast hne < n := h _ (List.getLast_mem hne)
    have ih := rank_up k ds.dropLast (by rw [List.length_dropLast, hk]; rfl) (fun d z => h d (mem_dl z))
    rw [← e, rankD_snoc, Nat.pow_succ]
    have m1 : (rankD n ds.dropLast + 1) * (n + 1) ≤ (n + 1) ^ k * (n + 1) := Nat.mul_le_mul_right _ ih
    rw [Nat.add_mul, Nat.mul_add, Nat.mul_one, Nat.one_mul] at m1
    omega
theorem rank_down {m : Nat} (hm : 2 ≤ m) : ∀ (k : Nat) (ds : List Nat), ds.length = k → 2 ^ k ≤ rankD m ds + 1
  | 0, [], _ => Nat.le_refl _
  | k + 1, ds, hk => by
    have hne : ds ≠ [] := fun e => by
      rw [e] at hk
      cases hk
    have e := List.dropLast_concat_getLast hne
    have ih := rank_down hm k ds.dropLast (by rw [List.length_dropLast, hk]; rfl)
    rw [← e, rankD_snoc, Nat.pow_succ]
    have m1 : rankD m ds.dropLast * 2 ≤ rankD m ds.dropLast * m := Nat.mul_le_mul_left _ hm
    omega
theorem row_short {m n : Nat} (hm : 2 ≤ m) (hn : n ≤ 31) {ds : List Nat} (h : ∀ d ∈ ds, d < n) : (rowD m (rankD n ds)).length ≤ 5 * ds.length := by
  have a := rank_up ds.length ds rfl h
  have b := rank_down hm (rowD m (rankD n ds)).length (rowD m (rankD n ds)) rfl
  rw [rank_row] at b
  have c : (n + 1) ^ ds.length ≤ 32 ^ ds.length := Nat.pow_le_pow_left (by omega) _
  have d : (32 : Nat) ^ ds.length = 2 ^ (5 * ds.length) := by
    rw [Nat.pow_mul]
  rw [d] at c
  exact (Nat.pow_le_pow_iff_right (by decide : 1 < 2)).mp (Nat.le_trans b (Nat.le_trans a c))
end Esc

/-! More steps: slices, dicts of the module, defs held by names, data compared. -/
namespace Esc
open PySem PySem.Spec PyProof.Rows L2
section
variable {K : PySem.W.Frag} {w : World} {H : Hp} {Q : VK} {xs ys zs : List V} {a l b p : Addr} {x y z v : V} {σ : L2.St} {t : TA} {i : Nat}
theorem i_slT {lo hi : Option Int} (h : SqT K H a xs) (n : ¬ (HT.sIx xs.length 0 lo = 0 ∧ HT.sIx xs.length xs.length hi = xs.length)) (q : ∀ p H', H p = none → Same H H' → H' p = some (.tup (cutV xs lo hi)) → Q (.ref p) H') : rSlT K (.ref a) lo hi H Q := ⟨a, xs, rfl, h, n, grow q⟩
theorem cut_to (xs : List V) (k : Nat) : cutV xs none (some (k : Int)) = xs.take k := by
  unfold cutV
  rw [HT.sIx_none, HT.sIx_nat, Nat.sub_zero, List.drop_zero]
  rcases Nat.lt_or_ge k xs.length with h | h
  · rw [Nat.min_eq_left (Nat.le_of_lt h)]
  · rw [Nat.min_eq_right h, List.take_length, List.take_of_length_le h]
theorem cut_from (xs : List V) (k : Nat) : cutV xs (some (k : Int)) none = xs.drop k := by
  unfold cutV
  rw [HT.sIx_none, HT.sIx_nat]
  rcases Nat.lt_or_ge k xs.length with h | h
  · rw [Nat.min_eq_left (Nat.le_of_lt h), List.take_of_length_le (by rw [List.length_drop]; exact Nat.le_refl _)]
  · rw [Nat.min_eq_right h, Nat.sub_self, List.drop_of_length_le h]
    rfl
theorem cut_butlast (xs : List V) (v : V) : cutV (xs ++ [v]) none (some (-1)) = xs := by
  unfold cutV
  rw [HT.sIx_none, Nat.sub_zero, List.drop_zero]
  have e : HT.sIx (xs ++ [v]).length (xs ++ [v]).length (some (-1)) = xs.length := by
    show (if (-1 : Int) < 0 then ((-1 : Int) + ((xs ++ [v]).length : Int)).toNat else min (-1 : Int).toNat (xs ++ [v]).length) = _
    rw [if_pos (by decide), List.length_append, List.length_singleton]
    omega
  rw [e, List.take_left]
theorem i_count {ns : List Int} {k : Int} (h : SqL K H a (ns.map V.int)) (q : Q (.int (ns.count k : Nat)) H) : rCntI K (.ref a) [.int k] H Q := ⟨a, ns, k, rfl, rfl, h, q⟩
theorem i_all {bs : List Bool} (h : SqL K H a (bs.map V.bl)) (q : Q (.bl (bs.all id)) H) : rAll K [.ref a] H Q := ⟨a, bs, rfl, h, q⟩
theorem i_callA {S : Addr → Option Sp} {f : Addr} {sp : Sp} [e : Lk i σ (.ref f)] (hS : S f = some sp) (h : t σ H (kCallA Q sp)) : tCallA i S t σ H Q := ⟨f, sp, e.h, hS, h⟩
theorem i_kd {z : Str} (h : KDct K w p z v) (q : Q v H) : rIxD K w (.ref p) (.str z) H Q := ⟨p, z, v, rfl, rfl, h, q⟩
end
theorem held_of {P : Program} {w : World} {K : PySem.W.Frag} {mg : Str → Option Value} {base : Heap} {k j : Nat} {x : Str} {sp : Sp} {f : Addr} (c : C8.Cal P w K mg base k x sp []) (hm : mg x = some (.ref f)) (h : k ≤ j) : Held P w K mg base j f sp := by
  obtain ⟨f', fd, ps, ds, F, m, kp, b, d⟩ := c.ex
  have e := m.symm.trans hm
  cases e
  cases d
  exact ⟨fd, ps, F.mono h, kp, b⟩
/-! ### data -/
def intsD (ns : List Int) : PyData := .list (ns.map PyData.int)
theorem eqvAll_ints : ∀ xs ys : List Int, PyData.eqvAll (xs.map PyData.int) (ys.map PyData.int) = decide (xs = ys)
  | [], [] => by simp [PyData.eqvAll]
  | [], _ :: _ => by simp [PyData.eqvAll]
  | _ :: _, [] => by simp [PyData.eqvAll]
  | x :: xs, y :: ys => by
    rw [List.map_cons, List.map_cons, PyData.eqvAll, eqvAll_ints xs ys]
    by_cases h : x = y
    · rw [h]
      simp [PyData.eqv]
    · simp [PyData.eqv, h]
theorem eqv_ints (xs ys : List Int) : PyData.eqv (intsD xs) (intsD ys) = decide (xs = ys) := by
  unfold intsD
  rw [PyData.eqv]
  exact eqvAll_ints xs ys
theorem lay_ints : ∀ xs : List Int, PyData.canLayAll0 (xs.map PyData.int) = true
  | [] => by simp [PyData.canLayAll0]
  | x :: xs => by
    rw [List.map_cons, PyData.canLayAll0, lay_ints xs]
    simp [PyData.canLay0]
theorem depth_ints : ∀ xs : List Int, PyData.depthAll (xs.map PyData.int) = 0
  | [] => by simp [PyData.depthAll]
  | x :: xs => by
    rw [List.map_cons, PyData.depthAll, depth_ints xs]
    simp [PyData.depth]
theorem shaped_ints (xs : List Int) : SeqAt.shaped (intsD xs) = true := by
  unfold SeqAt.shaped intsD
  rw [PyData.canLay0, lay_ints, PyData.depth, depth_ints]
  rfl
theorem dpa_ints {K : PySem.W.Frag} {H : Hp} : ∀ xs : List Int, DpAll K H (xs.map V.int) (xs.map PyData.int)
  | [] => .nil
  | x :: xs => .cons (.int x) (dpa_ints xs)
theorem dp_ints {K : PySem.W.Frag} {H : Hp} {a : Addr} {xs : List Int} (h : SqL K H a (xs.map V.int)) : Dp K H (.ref a) (intsD xs) := .lst h (dpa_ints xs)
theorem i_eqL {K : PySem.W.Frag} {H : Hp} {Q : VK} {a b : Addr} {xs ys : List Int} (h : SqL K H a (xs.map V.int)) (h' : SqL K H b (ys.map V.int)) (q : Q (.bl (decide (xs = ys))) H) : rEqD K (.ref a) (.ref b) H Q :=
  ⟨_, _, dp_ints h, dp_ints h', shaped_ints xs, shaped_ints ys, by rw [eqv_ints]; exact q⟩
theorem i_neL {K : PySem.W.Frag} {H : Hp} {Q : VK} {a b : Addr} {xs ys : List Int} (h : SqL K H a (xs.map V.int)) (h' : SqL K H b (ys.map V.int)) (q : Q (.bl (!decide (xs = ys))) H) : rNeD K (.ref a) (.ref b) H Q :=
  ⟨_, _, dp_ints h, dp_ints h', shaped_ints xs, shaped_ints ys, by rw [eqv_ints]; exact q⟩
/-! ### a < b of data -/
def rLtD (K : PySem.W.Frag) : R2 := fun x y H Q => ∃ d e, Dp K H x d ∧ Dp K H y e ∧ PySem.W.alike d e = true ∧ d ≠ .none ∧ d.depth ≤ 64 ∧ Q (.bl (PySem.W.dataLt d e)) H
theorem op_ltD {X : Cx} (hu : X.A.units + 64 < cLine) : OpR X (compareOp .Lt) (rLtD X.K) := by
  intro pn s σ H x y v u Q J rx ry h
  obtain ⟨d, e, hd, he, al, nn, dd, q⟩ := h
  obtain ⟨as, r1⟩ := Dp.reads J d x v hd rx
  obtain ⟨bs, r2⟩ := Dp.reads J e y u he ry
  have hm : min d.depth e.depth ≤ d.depth := Nat.min_le_left _ _
  exact PySem.W.rcLt_alike d e X.A s v u as bs r1 r2 al nn (by omega) X.prog X.w X.xe _ ⟨.bl _, H, J, rfl, q⟩
def lexI : List Int → List Int → Bool
  | [], [] => false
  | [], _ :: _ => true
  | _ :: _, [] => false
  | a :: x, b :: y => if a = b then lexI x y else decide (a < b)
theorem alike_ints : ∀ xs ys : List Int, PySem.W.alikeAll (xs.map PyData.int) (ys.map PyData.int) = true
  | [], _ => by simp [PySem.W.alikeAll]
  | _ :: _, [] => by simp [PySem.W.alikeAll]
  | x :: xs, y :: ys => by
    rw [List.map_cons, List.map_cons, PySem.W.alikeAll, alike_ints xs ys]
    simp [PySem.W.alike]
theorem toks_nil : PySem.W.keyToksAll [] = [.inl 0] := by rw [PySem.W.keyToksAll]
theorem toks_int (x : Int) : PySem.W.keyToks (.int x) = [.inl x] := by rw [PySem.W.keyToks]
theorem lex_ints : ∀ xs ys : List Int, PyProof.Rows.lexLt PyProof.Rows.itemOrd (PySem.W.keyToksAll (xs.map PyData.int)) (PySem.W.keyToksAll (ys.map PyData.int)) = lexI xs ys
  | [], [] => by
    rw [List.map_nil, toks_nil, PyProof.Rows.lex_self]
    rfl
  | [], y :: ys => by
    rw [List.map_nil, toks_nil, List.map_cons, PySem.W.toks_all_cons, PyProof.Rows.lex_diff (by simp)]
    rfl
  | x :: xs, [] => by
    rw [List.map_nil, toks_nil, List.map_cons, PySem.W.toks_all_cons, PyProof.Rows.lex_diff (by simp)]
    rfl
  | x :: xs, y :: ys => by
    rw [List.map_cons, List.map_cons, PySem.W.toks_all_cons, PySem.W.toks_all_cons, PyProof.Rows.lex_self, toks_int, toks_int]
    show PyProof.Rows.lexLt PyProof.Rows.itemOrd (.inl x :: _) (.inl y :: _) = if x = y then lexI xs ys else decide (x < y)
    by_cases h : x = y
    · rw [h, if_pos rfl]
      show PyProof.Rows.lexLt PyProof.Rows.itemOrd (.inl y :: ([] ++ _)) (.inl y :: ([] ++ _)) = _
      rw [PyProof.Rows.lex_self]
      exact lex_ints xs ys
    · rw [if_neg h, PyProof.Rows.lex_diff (by simpa using h)]
      rfl
theorem lexI_self : ∀ xs : List Int, lexI xs xs = false
  | [] => rfl
  | x :: xs => by
    show (if x = x then lexI xs xs else _) = false
    rw [if_pos rfl, lexI_self xs]
/-- (n, xs) < (m, ys) -/
def pairD (n : Int) (xs : List Int) : PyData := .tuple [.int n, intsD xs]
theorem lt_pair (n m : Int) (xs ys : List Int) : PySem.W.dataLt (pairD n xs) (pairD m ys) = if n = m then lexI xs ys else decide (n < m) := by
  unfold pairD
  by_cases h : n = m
  · rw [if_pos h, PySem.W.dataLt_tuple, PySem.W.dataLt_all_yes (by rw [PySem.W.alike]) (by rw [h]; simp [PyData.eqv])]
    by_cases e : xs = ys
    · rw [e, PySem.W.dataLt_all_yes (by unfold intsD; rw [PySem.W.alike]; exact alike_ints ys ys) (by rw [eqv_ints]; simp), toks_nil, PyProof.Rows.lex_self, lexI_self]
      rfl
    · rw [PySem.W.dataLt_all_no (by unfold intsD; rw [PySem.W.alike]; exact alike_ints xs ys) (by rw [eqv_ints]; simpa using e)]
      unfold intsD
      rw [PySem.W.dataLt_list, lex_ints]
  · rw [if_neg h, PySem.W.dataLt_tuple, PySem.W.dataLt_all_no (by rw [PySem.W.alike]) (by simp [PyData.eqv, h]), PySem.W.dataLt_int]
theorem dp_pair {K : PySem.W.Frag} {H : Hp} {p a : Addr} {n : Int} {xs : List Int} (h : SqT K H p [.int n, .ref a]) (h' : SqL K H a (xs.map V.int)) : Dp K H (.ref p) (pairD n xs) := .tup h (.cons (.int n) (.cons (dp_ints h') .nil))
theorem i_ltP {K : PySem.W.Frag} {H : Hp} {Q : VK} {p q a b : Addr} {n m : Int} {xs ys : List Int} (h1 : SqT K H p [.int n, .ref a]) (h2 : SqL K H a (xs.map V.int)) (h3 : SqT K H q [.int m, .ref b]) (h4 : SqL K H b (ys.map V.int))
    (k : Q (.bl (if n = m then lexI xs ys else decide (n < m))) H) : rLtD K (.ref p) (.ref q) H Q := by
  refine ⟨_, _, dp_pair h1 h2, dp_pair h3 h4, ?_, (fun z => by cases z), ?_, by rw [lt_pair]; exact k⟩
  · unfold pairD intsD
    simp only [PySem.W.alike, PySem.W.alikeAll, alike_ints]
    rfl
  · unfold pairD intsD
    simp [PyData.depth, PyData.depthAll, depth_ints]
end Esc

namespace Esc
open PySem PySem.Spec PyProof.Rows L2
theorem eqV_int (a b : Int) : eqV (.int a) (.int b) = decide (a = b) := by
  unfold eqV
  by_cases h : a = b <;> simp [h]
theorem flat_ints (ls : List Int) : (ls.map V.int).all flatV = true := by
  rw [List.all_eq_true]
  intro x hx
  obtain ⟨n, _, rfl⟩ := List.mem_map.mp hx
  rfl
theorem i_indexI {K : PySem.W.Frag} {H : Hp} {Q : VK} {a : Addr} {ls : List Int} {x : Int} (h : SqL K H a (ls.map V.int)) (m : x ∈ ls) (q : Q (.int ((ls.idxOf x : Nat) : Int)) H) : rIndex K (.ref a) [.int x] H Q := by
  have hi := List.idxOf_lt_length_of_mem m
  refine ⟨a, _, .int x, ls.idxOf x, .int x, rfl, rfl, h, rfl, flat_ints ls, ?_, by rw [eqV_int]; simp, fun j z hj hz => ?_, q⟩
  · rw [List.getElem?_map, List.getElem?_eq_getElem hi, List.getElem_idxOf hi]
    rfl
  · rw [List.getElem?_map] at hz
    have hj' : j < ls.length := by omega
    rw [List.getElem?_eq_getElem hj'] at hz
    cases hz
    rw [eqV_int]
    have z := List.not_of_lt_findIdx (p := fun y => y == x) hj
    simpa using z
/-! ### order -/
theorem lexI_letters {ls : List Int} (pw : ls.Pairwise (· < ·)) : ∀ (x y : List Nat), (∀ d ∈ x, d < ls.length) → (∀ d ∈ y, d < ls.length) → lexI (x.map fun d => ls.getD d 0) (y.map fun d => ls.getD d 0) = lexN x y
  | [], [], _, _ => rfl
  | [], _ :: _, _, _ => rfl
  | _ :: _, [], _, _ => rfl
  | a :: x, b :: y, hx, hy => by
    have ha := hx a List.mem_cons_self
    have hb := hy b List.mem_cons_self
    have ih := lexI_letters pw x y (fun d m => hx d (List.mem_cons_of_mem _ m)) (fun d m => hy d (List.mem_cons_of_mem _ m))
    have g : ∀ {i : Nat} (h : i < ls.length), ls.getD i 0 = ls[i] := fun {i} h => by
      rw [List.getD_eq_getElem?_getD, List.getElem?_eq_getElem h]
      rfl
    have mono : ∀ {i j : Nat} (hi : i < ls.length) (hj : j < ls.length), i < j → ls[i] < ls[j] := fun {i j} hi hj h => List.pairwise_iff_getElem.mp pw i j hi hj h
    show (if ls.getD a 0 = ls.getD b 0 then lexI (x.map _) (y.map _) else decide (ls.getD a 0 < ls.getD b 0)) = if a = b then lexN x y else decide (a < b)
    rw [g ha, g hb]
    rcases Nat.lt_trichotomy a b with h | h | h
    · have z := mono ha hb h
      rw [if_neg (by omega), if_neg (by omega), decide_eq_true z, decide_eq_true h]
    · subst h
      rw [if_pos rfl, if_pos rfl]
      exact ih
    · have z := mono hb ha h
      rw [if_neg (by omega), if_neg (by omega), decide_eq_false (by omega), decide_eq_false (by omega)]
def lessI (k : Nat) (a b : List Int) : Bool := if ((a.length + k : Nat) : Int) = ((b.length + k : Nat) : Int) then lexI a b else decide (((a.length + k : Nat) : Int) < ((b.length + k : Nat) : Int))
theorem lessI_letters {k : Nat} {ls : List Int} (pw : ls.Pairwise (· < ·)) {x y : List Nat} (hx : ∀ d ∈ x, d < ls.length) (hy : ∀ d ∈ y, d < ls.length) : lessI k (x.map fun d => ls.getD d 0) (y.map fun d => ls.getD d 0) = lessD x y := by
  unfold lessI lessD
  rw [List.length_map, List.length_map, lexI_letters pw x y hx hy]
  by_cases h : x.length = y.length
  · rw [h, if_pos rfl]
    simp
  · rw [if_neg (by omega), decide_eq_false h]
    by_cases c : x.length < y.length
    · rw [decide_eq_true c, decide_eq_true (by omega)]
      rfl
    · rw [decide_eq_false c, decide_eq_false (by omega)]
      rfl
end Esc

set_option maxHeartbeats 1000000
namespace Esc
open PySem PySem.Spec PyProof.Rows L2
/-! ### l.remove(x) of data -/
def rRemD (K : PySem.W.Frag) : V → List V → Hp → VK → Prop := fun x xs H Q => ∃ (l : Addr) (vs : List V) (y : V) (d : PyData) (ds : List PyData) (j : Nat) (z : PyData), x = .ref l ∧ xs = [y] ∧ H l = some (.lst vs) ∧ DpAll K H vs ds ∧ Dp K H y d ∧
  SeqAt.shaped (.list ds) = true ∧ SeqAt.shaped d = true ∧ ds[j]? = some z ∧ PyData.eqv z d = true ∧ (∀ (m : Nat) (z' : PyData), m < j → ds[m]? = some z' → PyData.eqv z' d = false) ∧ Q .non (upd H l (.lst (vs.eraseIdx j)))
theorem mt_removeD {X : Cx} (hu : X.A.units + 65 < cLine) : MtM X "list.remove" (rRemD X.K) := by
  intro pn s σ H x xs v us Q J rx rxs h
  obtain ⟨l, vs, y, d, ds, j, z, rfl, rfl, hH, ha, hy, sl, sd, hz, hzj, hno, q⟩ := h
  cases rx
  obtain ⟨u, rfl, ru⟩ := rxs.one
  obtain ⟨bs, r1⟩ := Dp.reads J d y u hy ru
  obtain ⟨zz, its, n, r, hl, e⟩ := J.lstM hH
  have lay : PyData.canLayAll0 ds = true := SeqAt.canLay_of_shaped sl
  have room : X.A.units + 1 + min (PyData.depthAll ds) d.depth < cLine := room_in_shaped sd hu
  obtain ⟨as, h4⟩ := Dp.readsAll J ds _ its ha r
  have hn : its.length = ds.length := SeqAt.ReadsAll.length ds its as h4
  have mp : its.map (SeqAt.readOf s.heap) = ds := SeqAt.readsAll_map ds its as lay h4
  have hjd := (List.getElem?_eq_some_iff.mp hz).1
  have hj : j < its.toArray.size := by
    rw [List.size_toArray]
    omega
  have place : ∀ (m : Nat) (hm : m < its.toArray.size) (z' : PyData), ds[m]? = some z' → SeqAt.readOf s.heap its.toArray[m] = z' := fun m hm z' hz' => by
    have hml : m < its.length := by simpa using hm
    rw [← mp, List.getElem?_map, List.getElem?_eq_getElem hml] at hz'
    have e1 : SeqAt.readOf s.heap its[m] = z' := by
      simpa using hz'
    simpa using e1
  have ends := SeqAt.items_eqAt (vs := its.toArray) (show ReadsAll s.heap its.toArray.toList ds as from h4) r1 lay (SeqAt.canLay_of_shaped sd) room
  have rr := r.eraseIdx j
  have zl : its.length ≤ sizeLine := by omega
  refine call_meets PySem.F.slot_list_remove ⟨_, e, rfl⟩ PySem.F.entry_list_remove (PySem.F.args_list_remove_2 _ _) (SeqAt.list_removeAt l its.toArray n _ _ u (fun w => PyData.eqv (SeqAt.readOf s.heap w) d) j hj ?_ ?_ (by rw [List.size_toArray]; exact zl)) ⟨e, ends, ?_⟩
  · show PyData.eqv (SeqAt.readOf s.heap its.toArray[j]) d = true
    rw [place j hj z hz]
    exact hzj
  · intro m hm hmj
    have hmd : m < ds.length := by omega
    show PyData.eqv (SeqAt.readOf s.heap its.toArray[m]) d = false
    rw [place m hm _ (List.getElem?_eq_getElem hmd)]
    exact hno m _ hmj (List.getElem?_eq_getElem hmd)
  · refine ⟨.non, _, J.lset (its' := its.eraseIdx j) (t' := s.toks) hH e ?_ rr ?_, rfl, q⟩
    · show its.toArray.eraseIdxIfInBounds j = (its.eraseIdx j).toArray
      rw [List.eraseIdxIfInBounds_toArray]
    · have z2 := List.length_eraseIdx_le vs j
      omega
end Esc

/-! Ways: what they are, how they stand in a heap, which are good. -/
namespace Esc
open PySem PySem.Spec PyProof.Rows L2
/-! ### tuples of which the object is known to have no dict -/
def NoD (o : Obj) : Prop := o.cls = .type "tuple" ∧ o.dict = none
def TupD (H : Hp) (a : Addr) (xs : List V) : Prop := ∃ o, NoD o ∧ H a = some (.frz o (.tup xs))
theorem TupD.st {K : PySem.W.Frag} {H : Hp} {a : Addr} {xs : List V} (h : TupD H a xs) : SqT K H a xs := by
  obtain ⟨o, _, e⟩ := h
  exact .inl (.inr ⟨o, e⟩)
theorem TupD.same {H H' : Hp} {a : Addr} {xs : List V} (s : Same H H') (h : TupD H a xs) : TupD H' a xs := by
  obtain ⟨o, n, e⟩ := h
  exact ⟨o, n, s _ _ e⟩
/-- tuple(l), the object told -/
def rTupOfF (K : PySem.W.Frag) : List V → Hp → VK → Prop := fun xs H Q => ∃ p ys, xs = [.ref p] ∧ SqL K H p ys ∧ ∀ l o, NoD o → H l = none → Q (.ref l) (upd H l (.frz o (.tup ys)))
theorem k_tupOfF {X : Cx} : CallR X (.type "tuple") (rTupOfF X.K) := by
  intro pn s σ H vs us Q J r h
  obtain ⟨p, ys, rfl, hq, q⟩ := h
  rw [Vals.ref1 r]
  obtain ⟨its, rv, pl, hz⟩ := J.list hq
  have len := rv.length
  refine call_tuple_list pl.isList (fun h1 k => ?_) (by rw [List.size_toArray]; omega)
  have J1 : Inv X pn σ H { s with heap := h1 } := J.kept (t' := s.toks) k
  exact ⟨.ref h1.objs.size, _, J1.laid (o := .frz { cls := .type "tuple", data := .seq its.toArray } (.tup ys)) (t' := s.toks) (fun b u e => Heap.get?_push_of_some _ e) (Nat.le_refl _) ⟨Heap.get?_push_size _ rfl, hz, its, rv, IsTup.new _ _⟩, rfl, q _ _ ⟨rfl, rfl⟩ (J1.hok.fresh (Nat.le_refl _))⟩
theorem i_tupOfF {K : PySem.W.Frag} {H : Hp} {Q : VK} {a : Addr} {xs : List V} (h : SqL K H a xs) (q : ∀ p H', H p = none → Same H H' → TupD H' p xs → Q (.ref p) H') : rTupOfF K [.ref a] H Q :=
  ⟨a, xs, rfl, h, fun l o n hl => q l _ hl (same_new hl) ⟨o, n, upd_same⟩⟩
/-! ### tuples that stay -/
/-- at each of as a tuple of ints -/
def TupsAt (K : PySem.W.Frag) (H : Hp) : List Addr → List (List Int) → Prop
  | [], [] => True
  | a :: as, c :: cs => H a = some (.tup (c.map V.int)) ∧ TupsAt K H as cs
  | _, _ => False
theorem TupsAt.same {K : PySem.W.Frag} {H H' : Hp} (s : Same H H') : ∀ {as : List Addr} {cs : List (List Int)}, TupsAt K H as cs → TupsAt K H' as cs
  | [], [], _ => trivial
  | _ :: _, _ :: _, ⟨h, r⟩ => ⟨s _ _ h, TupsAt.same s r⟩
theorem TupsAt.len {K : PySem.W.Frag} {H : Hp} : ∀ {as : List Addr} {cs : List (List Int)}, TupsAt K H as cs → as.length = cs.length
  | [], [], _ => rfl
  | _ :: _, _ :: _, ⟨_, r⟩ => congrArg (· + 1) r.len
theorem TupsAt.get {K : PySem.W.Frag} {H : Hp} : ∀ {as : List Addr} {cs : List (List Int)} {i : Nat} {a : Addr}, TupsAt K H as cs → as[i]? = some a → ∃ c, cs[i]? = some c ∧ SqT K H a (c.map V.int)
  | [], _, _, _, _, e => by simp at e
  | _ :: _, c :: _, 0, a, ⟨h, _⟩, e => by
    cases e
    exact ⟨c, rfl, st_of h⟩
  | _ :: as, _ :: cs, i + 1, a, ⟨_, r⟩, e => TupsAt.get (as := as) (cs := cs) (i := i) r e
theorem TupsAt.getS {K : PySem.W.Frag} {H : Hp} : ∀ {as : List Addr} {cs : List (List Int)} {i : Nat} {a : Addr}, TupsAt K H as cs → as[i]? = some a → ∃ c, cs[i]? = some c ∧ H a = some (.tup (c.map V.int))
  | [], _, _, _, _, e => by simp at e
  | _ :: _, c :: _, 0, a, ⟨h, _⟩, e => by
    cases e
    exact ⟨c, rfl, h⟩
  | _ :: as, _ :: cs, i + 1, a, ⟨_, r⟩, e => TupsAt.getS (as := as) (cs := cs) (i := i) r e
theorem TupsAt.getc {K : PySem.W.Frag} {H : Hp} : ∀ {as : List Addr} {cs : List (List Int)} {i : Nat} {c : List Int}, TupsAt K H as cs → cs[i]? = some c → ∃ a, as[i]? = some a ∧ SqT K H a (c.map V.int)
  | [], [], _, _, _, e => by simp at e
  | a :: _, _ :: _, 0, c, ⟨h, _⟩, e => by
    cases e
    exact ⟨a, rfl, st_of h⟩
  | _ :: as, _ :: cs, i + 1, c, ⟨_, r⟩, e => TupsAt.getc (as := as) (cs := cs) (i := i) r e
theorem TupsAt.app {K : PySem.W.Frag} {H : Hp} : ∀ {as : List Addr} {cs : List (List Int)} {bs : List Addr} {ds : List (List Int)}, TupsAt K H as cs → TupsAt K H bs ds → TupsAt K H (as ++ bs) (cs ++ ds)
  | [], [], _, _, _, h => h
  | _ :: as, _ :: cs, bs, ds, ⟨h, r⟩, h2 => ⟨h, TupsAt.app (as := as) (cs := cs) (bs := bs) (ds := ds) r h2⟩
theorem TupsAt.erase {K : PySem.W.Frag} {H : Hp} : ∀ {as : List Addr} {cs : List (List Int)} (i : Nat), TupsAt K H as cs → TupsAt K H (as.eraseIdx i) (cs.eraseIdx i)
  | [], [], _, h => by simpa using h
  | _ :: _, _ :: _, 0, ⟨_, r⟩ => r
  | _ :: _, _ :: _, i + 1, ⟨h, r⟩ => ⟨h, r.erase i⟩
theorem TupsAt.take {K : PySem.W.Frag} {H : Hp} : ∀ {as : List Addr} {cs : List (List Int)} (n : Nat), TupsAt K H as cs → TupsAt K H (as.take n) (cs.take n)
  | [], [], n, h => by simpa using h
  | _ :: _, _ :: _, 0, _ => trivial
  | _ :: _, _ :: _, n + 1, ⟨h, r⟩ => ⟨h, r.take n⟩
/-- as data -/
def intsT (c : List Int) : PyData := .tuple (c.map PyData.int)
theorem TupsAt.dpa {K : PySem.W.Frag} {H : Hp} : ∀ {as : List Addr} {cs : List (List Int)}, TupsAt K H as cs → DpAll K H (as.map V.ref) (cs.map intsT)
  | [], [], _ => .nil
  | _ :: _, _ :: _, ⟨h, r⟩ => .cons (.tup (st_of h) (dpa_ints _)) r.dpa
theorem eqv_intsT (a b : List Int) : PyData.eqv (intsT a) (intsT b) = decide (a = b) := by
  unfold intsT
  rw [PyData.eqv]
  exact eqvAll_ints a b
theorem lay_intsT : ∀ cs : List (List Int), PyData.canLayAll0 (cs.map intsT) = true
  | [] => by simp [PyData.canLayAll0]
  | c :: cs => by
    rw [List.map_cons, PyData.canLayAll0, lay_intsT cs]
    unfold intsT
    rw [PyData.canLay0, lay_ints]
    rfl
theorem depth_intsT : ∀ cs : List (List Int), PyData.depthAll (cs.map intsT) ≤ 1
  | [] => by simp [PyData.depthAll]
  | c :: cs => by
    have ih := depth_intsT cs
    rw [List.map_cons, PyData.depthAll]
    unfold intsT at ih ⊢
    rw [PyData.depth, depth_ints]
    omega
theorem shaped_intsT (c : List Int) : SeqAt.shaped (intsT c) = true := by
  unfold SeqAt.shaped intsT
  rw [PyData.canLay0, lay_ints, PyData.depth, depth_ints]
  rfl
theorem shaped_intsTs (cs : List (List Int)) : SeqAt.shaped (.list (cs.map intsT)) = true := by
  unfold SeqAt.shaped
  have h := depth_intsT cs
  rw [PyData.canLay0, lay_intsT, PyData.depth, decide_eq_true (by omega)]
  rfl
/-! ### lists that may be compared -/
/-- data that == can look at -/
def Fl (K : PySem.W.Frag) (H : Hp) (v : V) : Prop := ∃ d, Dp K H v d ∧ d.canLay0 = true ∧ d.depth ≤ 8
mutual
theorem dp_same {K : PySem.W.Frag} {H H' : Hp} (s : Same H H') : ∀ {v : V} {d : PyData}, Dp K H v d → Dp K H' v d
  | _, _, .non => .non
  | _, _, .bl b => .bl b
  | _, _, .int i => .int i
  | _, _, .str x => .str x
  | _, _, .lst h a => .lst (s.seq h) (dpa_same s a)
  | _, _, .tup h a => .tup (stup s h) (dpa_same s a)
theorem dpa_same {K : PySem.W.Frag} {H H' : Hp} (s : Same H H') : ∀ {vs : List V} {ds : List PyData}, DpAll K H vs ds → DpAll K H' vs ds
  | _, _, .nil => .nil
  | _, _, .cons h a => .cons (dp_same s h) (dpa_same s a)
end
theorem Fl.same {K : PySem.W.Frag} {H H' : Hp} (s : Same H H') {v : V} (h : Fl K H v) : Fl K H' v := by
  obtain ⟨d, a, b⟩ := h
  exact ⟨d, dp_same s a, b⟩
theorem fl_int {K : PySem.W.Frag} {H : Hp} (n : Int) : Fl K H (.int n) := ⟨_, .int n, by simp [PyData.canLay0], by simp [PyData.depth]⟩
theorem fl_tup {K : PySem.W.Frag} {H : Hp} {a : Addr} {c : List Int} (h : SqT K H a (c.map V.int)) : Fl K H (.ref a) := ⟨_, .tup h (dpa_ints c), by rw [PyData.canLay0, lay_ints], by rw [PyData.depth, depth_ints]; decide⟩
theorem fl_all {K : PySem.W.Frag} {H : Hp} : ∀ {vs : List V}, (∀ v ∈ vs, Fl K H v) → ∃ ds, DpAll K H vs ds ∧ PyData.canLayAll0 ds = true ∧ PyData.depthAll ds ≤ 8 ∧ ds.length = vs.length
  | [], _ => ⟨[], .nil, by simp [PyData.canLayAll0], by simp [PyData.depthAll], rfl⟩
  | v :: vs, h => by
    obtain ⟨d, a, b, c⟩ := h v List.mem_cons_self
    obtain ⟨ds, a', b', c', e'⟩ := fl_all fun x m => h x (List.mem_cons_of_mem _ m)
    refine ⟨d :: ds, .cons a a', by rw [PyData.canLayAll0, b, b']; rfl, by rw [PyData.depthAll]; omega, by rw [List.length_cons, List.length_cons, e']⟩
/-- xs != [] -/
theorem i_neNil {K : PySem.W.Frag} {H : Hp} {Q : VK} {a b : Addr} {xs : List V} (h : SqL K H a xs) (hf : ∀ v ∈ xs, Fl K H v) (h' : SqL K H b []) (q : Q (.bl (!decide (xs = []))) H) : rNeD K (.ref a) (.ref b) H Q := by
  obtain ⟨ds, h1, h2, h3, h4⟩ := fl_all hf
  refine ⟨.list ds, .list [], .lst h h1, .lst h' .nil, ?_, by decide, ?_⟩
  · unfold SeqAt.shaped
    rw [PyData.canLay0, h2, PyData.depth, decide_eq_true (by omega)]
    rfl
  · have e : PyData.eqv (.list ds) (.list []) = decide (xs = []) := by
      rw [PyData.eqv]
      cases xs with
      | nil =>
        cases ds with
        | nil => simp [PyData.eqvAll]
        | cons d ds => simp at h4
      | cons x xs =>
        cases ds with
        | nil => simp at h4
        | cons d ds => simp [PyData.eqvAll]
    rw [e]
    exact q
/-! ### sorts of ways -/
inductive Kind where
  | codes (cs : List (List Int))
  | escapes (m : Int) (prs : List (Int × Int))
  | counts (l : Int)
  | ranks
def Plain (t e x : Int) : Prop := 0 ≤ x ∧ x < t ∧ x ≠ e
def CodesOk (t e : Int) (cs : List (List Int)) : Prop := (∀ c ∈ cs, 1 ≤ c.length ∧ c.length ≤ 4 ∧ ∀ x ∈ c, Plain t e x) ∧ cs.Pairwise fun a b => ¬ a <+: b ∧ ¬ b <+: a
def KindOk (t e : Int) : Kind → Prop
  | .codes cs => cs.length = t.toNat ∧ CodesOk t e cs
  | .escapes m prs => Plain t e m ∧ (prs.map (·.1)).Pairwise (· < ·) ∧ (∀ s ∈ prs.map (·.1), 0 ≤ s ∧ s < t) ∧ e ∈ prs.map (·.1) ∧ m ∈ prs.map (·.1) ∧ (∀ c ∈ prs.map (·.2), Plain t e c) ∧ (prs.map (·.2)).Nodup
  | .counts l => 2 ≤ l ∧ l < t
  | .ranks => True
def PairsAt (K : PySem.W.Frag) (H : Hp) : List Addr → List (Int × Int) → Prop
  | [], [] => True
  | a :: as, c :: cs => SqT K H a [.int c.1, .int c.2] ∧ PairsAt K H as cs
  | _, _ => False
theorem PairsAt.same {K : PySem.W.Frag} {H H' : Hp} (s : Same H H') : ∀ {as : List Addr} {cs : List (Int × Int)}, PairsAt K H as cs → PairsAt K H' as cs
  | [], [], _ => trivial
  | _ :: _, _ :: _, ⟨h, r⟩ => ⟨stup s h, PairsAt.same s r⟩
theorem PairsAt.len {K : PySem.W.Frag} {H : Hp} : ∀ {as : List Addr} {cs : List (Int × Int)}, PairsAt K H as cs → as.length = cs.length
  | [], [], _ => rfl
  | _ :: _, _ :: _, ⟨_, r⟩ => congrArg (· + 1) r.len
theorem PairsAt.get {K : PySem.W.Frag} {H : Hp} : ∀ {as : List Addr} {cs : List (Int × Int)} {i : Nat} {a : Addr}, PairsAt K H as cs → as[i]? = some a → ∃ c, cs[i]? = some c ∧ SqT K H a [.int c.1, .int c.2]
  | [], _, _, _, _, e => by simp at e
  | _ :: _, c :: _, 0, a, ⟨h, _⟩, e => by
    cases e
    exact ⟨c, rfl, h⟩
  | _ :: as, _ :: cs, i + 1, a, ⟨_, r⟩, e => PairsAt.get (as := as) (cs := cs) (i := i) r e
theorem PairsAt.app {K : PySem.W.Frag} {H : Hp} : ∀ {as : List Addr} {cs : List (Int × Int)} {bs : List Addr} {ds : List (Int × Int)}, PairsAt K H as cs → PairsAt K H bs ds → PairsAt K H (as ++ bs) (cs ++ ds)
  | [], [], _, _, _, h => h
  | _ :: as, _ :: cs, bs, ds, ⟨h, r⟩, h2 => ⟨h, PairsAt.app (as := as) (cs := cs) (bs := bs) (ds := ds) r h2⟩
def KindAt (K : PySem.W.Frag) (H : Hp) (p : Addr) (t e : Int) : Kind → Prop
  | .codes cs => ∃ c as, SqT K H p [.str "codes", .int t, .int e, .ref c] ∧ TupD H c (as.map V.ref) ∧ TupsAt K H as cs
  | .escapes m prs => ∃ c as, SqT K H p [.str "escapes", .int t, .int e, .int m, .ref c] ∧ SqT K H c (as.map V.ref) ∧ PairsAt K H as prs
  | .counts l => SqT K H p [.str "counts", .int t, .int e, .int l]
  | .ranks => SqT K H p [.str "ranks", .int t, .int e]
theorem KindAt.same {K : PySem.W.Frag} {H H' : Hp} {p : Addr} {t e : Int} (s : Same H H') : ∀ {k : Kind}, KindAt K H p t e k → KindAt K H' p t e k
  | .codes _, ⟨c, as, h1, h2, h3⟩ => ⟨c, as, stup s h1, h2.same s, h3.same s⟩
  | .escapes _ _, ⟨c, as, h1, h2, h3⟩ => ⟨c, as, stup s h1, stup s h2, h3.same s⟩
  | .counts _, h => stup s h
  | .ranks, h => stup s h
def Kind.name : Kind → Str
  | .codes _ => "codes"
  | .escapes _ _ => "escapes"
  | .counts _ => "counts"
  | .ranks => "ranks"
theorem Kind.name_ne : ∀ k : Kind, k.name ≠ "turned"
  | .codes _ => (by decide +kernel : ("codes" : Str) ≠ "turned")
  | .escapes _ _ => (by decide +kernel : ("escapes" : Str) ≠ "turned")
  | .counts _ => (by decide +kernel : ("counts" : Str) ≠ "turned")
  | .ranks => (by decide +kernel : ("ranks" : Str) ≠ "turned")
theorem KindAt.head {K : PySem.W.Frag} {H : Hp} {p : Addr} {t e : Int} : ∀ {k : Kind}, KindAt K H p t e k → ∃ xs, SqT K H p (.str k.name :: .int t :: .int e :: xs)
  | .codes _, ⟨c, as, h1, _, _⟩ => ⟨[.ref c], h1⟩
  | .escapes m _, ⟨c, as, h1, _, _⟩ => ⟨[.int m, .ref c], h1⟩
  | .counts l, h => ⟨[.int l], h⟩
  | .ranks, h => ⟨[], h⟩
/-- v is turned by each of ts (at its address), the outermost first; u stands within -/
def TurnAt (K : PySem.W.Frag) (H : Hp) : List (Addr × List Int) → V → V → Prop
  | [], v, u => v = u
  | (a, t) :: r, v, u => ∃ p x, v = .ref p ∧ SqT K H p [.str "turned", .ref a, x] ∧ TupD H a (t.map V.int) ∧ TurnAt K H r x u
theorem TurnAt.same {K : PySem.W.Frag} {H H' : Hp} (s : Same H H') : ∀ {ts : List (Addr × List Int)} {v u : V}, TurnAt K H ts v u → TurnAt K H' ts v u
  | [], _, _, h => h
  | (_, _) :: _, _, _, ⟨p, x, e, h1, h2, h3⟩ => ⟨p, x, e, stup s h1, h2.same s, h3.same s⟩
structure Way where
  ts : List (List Int)
  t : Int
  e : Int
  k : Kind
def countL (t : Int) : List Int := (List.range t.toNat).map fun (i : Nat) => (i : Int)
def WayAt (K : PySem.W.Frag) (H : Hp) (v : V) (w : Way) : Prop := ∃ (tas : List (Addr × List Int)) (p : Addr), tas.map (·.2) = w.ts ∧ TurnAt K H tas v (.ref p) ∧ KindAt K H p w.t w.e w.k
theorem WayAt.same {K : PySem.W.Frag} {H H' : Hp} {v : V} {w : Way} (s : Same H H') (h : WayAt K H v w) : WayAt K H' v w := by
  obtain ⟨tas, p, a, b, c⟩ := h
  exact ⟨tas, p, a, b.same s, c.same s⟩
structure Way.Ok (w : Way) : Prop where
  few : w.ts.length ≤ 3
  t3 : 3 ≤ w.t
  t16 : w.t ≤ 16
  e0 : 0 ≤ w.e
  e1 : w.e < w.t
  kind : KindOk w.t w.e w.k
  perm : ∀ p ∈ w.ts, p.Perm (countL w.t)
end Esc

/-! Plain signs; rows of letters and their digits; frames by ranks. -/
namespace Esc
open PySem PySem.Spec PyProof.Rows L2
def plainL (t e : Int) : List Int := (List.range t.toNat).filterMap fun (i : Nat) => if (i : Int) = e then none else some (i : Int)
theorem plainL_map (t e : Int) : (List.range t.toNat).filterMap (fun (i : Nat) => if (i : Int) = e then none else some (V.int (i : Int))) = (plainL t e).map V.int := by
  unfold plainL
  rw [List.map_filterMap]
  congr 1
  funext i
  by_cases h : (i : Int) = e
  · rw [if_pos h, if_pos h]
    rfl
  · rw [if_neg h, if_neg h]
    rfl
def pk : Nat → List Int → List (Key × V)
  | _, [] => []
  | n, l :: r => (Sum.inl l, V.int (n : Int)) :: pk (n + 1) r
theorem pk_snoc : ∀ (r : List Int) (n : Nat) (l : Int), pk n (r ++ [l]) = pk n r ++ [(Sum.inl l, V.int ((n + r.length : Nat) : Int))]
  | [], n, l => rfl
  | x :: r, n, l => by
    show _ :: pk (n + 1) (r ++ [l]) = _
    rw [pk_snoc r (n + 1) l]
    show _ = _ :: (pk (n + 1) r ++ _)
    rw [List.length_cons, show n + 1 + r.length = n + (r.length + 1) by omega]
theorem pk_len : ∀ (r : List Int) (n : Nat), (pk n r).length = r.length
  | [], _ => rfl
  | x :: r, n => by
    show (pk (n + 1) r).length + 1 = r.length + 1
    rw [pk_len r (n + 1)]
theorem pk_none : ∀ (r : List Int) (n : Nat) (x : Int), x ∉ r → valV (pk n r) (Sum.inl x) = none
  | [], _, _, _ => rfl
  | y :: r, n, x, h => by
    show valV ((Sum.inl y, V.int (n : Int)) :: pk (n + 1) r) _ = _
    rw [valV_neg (fun e => h (by rw [Sum.inl.inj e]; exact List.mem_cons_self)), pk_none r (n + 1) x fun m => h (List.mem_cons_of_mem _ m)]
theorem pk_some : ∀ (r : List Int) (n : Nat) (x : Int), x ∈ r → valV (pk n r) (Sum.inl x) = some (V.int ((n + r.idxOf x : Nat) : Int))
  | y :: r, n, x, h => by
    show valV ((Sum.inl y, V.int (n : Int)) :: pk (n + 1) r) _ = _
    by_cases e : y = x
    · rw [valV_pos (by rw [e]), e, List.idxOf_cons_self]
      rfl
    · have m : x ∈ r := by
        rcases List.mem_cons.mp h with q | q
        · exact absurd q.symm e
        · exact q
      rw [valV_neg (fun q => e (Sum.inl.inj q)), pk_some r (n + 1) x m, List.idxOf_cons, show (y == x) = false from beq_false_of_ne e, cond_false, show n + 1 + r.idxOf x = n + (r.idxOf x + 1) by omega]
theorem map_get {ns : List Int} {i : Nat} {x : V} (h : (ns.map V.int)[i]? = some x) : ∃ n, ns[i]? = some n ∧ x = .int n := by
  rw [List.getElem?_map] at h
  cases e : ns[i]? with
  | none =>
    rw [e] at h
    cases h
  | some n =>
    rw [e] at h
    exact ⟨n, rfl, (Option.some.inj h).symm⟩
theorem take_succ' {α : Type} {l : List α} {i : Nat} {x : α} (h : l[i]? = some x) : l.take (i + 1) = l.take i ++ [x] := by
  rw [List.take_add_one, h]
  rfl
theorem nodup_take {α : Type} [DecidableEq α] {l : List α} {i : Nat} {x : α} (hn : l.Nodup) (h : l[i]? = some x) : x ∉ l.take i := fun m => by
  obtain ⟨j, hj, e⟩ := List.getElem_of_mem m
  rw [List.length_take] at hj
  obtain ⟨hi, e2⟩ := List.getElem?_eq_some_iff.mp h
  rw [List.getElem_take] at e
  have := (List.getElem_inj hn).mp (e.trans e2.symm)
  omega
theorem plain_mem {t e x : Int} : x ∈ plainL t e ↔ 0 ≤ x ∧ x < t ∧ x ≠ e := by
  unfold plainL
  rw [List.mem_filterMap]
  constructor
  · rintro ⟨i, hi, h⟩
    rw [List.mem_range] at hi
    by_cases c : (i : Int) = e
    · rw [if_pos c] at h
      cases h
    · rw [if_neg c] at h
      cases h
      exact ⟨by omega, by omega, c⟩
  · rintro ⟨h1, h2, h3⟩
    refine ⟨x.toNat, by rw [List.mem_range]; omega, ?_⟩
    rw [Int.toNat_of_nonneg h1, if_neg h3]
theorem rg_count (t : Int) : rgV 0 t = (countL t).map V.int := by
  unfold rgV countL
  rw [List.map_map, Int.sub_zero]
  congr 1
  funext i
  show V.int (0 + (i : Int)) = V.int (i : Int)
  rw [Int.zero_add]
theorem count_len {t : Int} : (countL t).length = t.toNat := by
  unfold countL
  rw [List.length_map, List.length_range]
theorem count_mem {t x : Int} : x ∈ countL t ↔ 0 ≤ x ∧ x < t := by
  unfold countL
  rw [List.mem_map]
  constructor
  · rintro ⟨i, hi, rfl⟩
    rw [List.mem_range] at hi
    exact ⟨by omega, by omega⟩
  · rintro ⟨h1, h2⟩
    exact ⟨x.toNat, by rw [List.mem_range]; omega, Int.toNat_of_nonneg h1⟩
theorem count_nodup (t : Int) : (countL t).Nodup := by
  unfold countL
  exact List.Pairwise.map _ (fun a b (h : a ≠ b) z => h (Int.ofNat.inj z)) List.nodup_range
theorem plain_pw (t e : Int) : (plainL t e).Pairwise (· < ·) := by
  unfold plainL
  refine List.Pairwise.filterMap _ ?_ List.pairwise_lt_range
  intro a b hab x hx y hy
  by_cases c : (a : Int) = e
  · rw [if_pos c] at hx
    cases hx
  · by_cases c2 : (b : Int) = e
    · rw [if_pos c2] at hy
      cases hy
    · rw [if_neg c] at hx
      rw [if_neg c2] at hy
      cases hx
      cases hy
      omega
theorem plain_nodup (t e : Int) : (plainL t e).Nodup := (plain_pw t e).imp fun h => by omega
theorem range_filter_len (e : Nat) : ∀ n : Nat, e < n → ((List.range n).filterMap fun (i : Nat) => if (i : Int) = (e : Int) then none else some (i : Int)).length + 1 = n
  | 0, h => by omega
  | n + 1, h => by
    rw [List.range_succ, List.filterMap_append, List.length_append]
    by_cases c : e < n
    · have ih := range_filter_len e n c
      have q : ¬ ((n : Nat) : Int) = (e : Int) := by omega
      have z : (List.filterMap (fun (i : Nat) => if (i : Int) = (e : Int) then none else some (i : Int)) [n]).length = 1 := by
        rw [List.filterMap_cons, if_neg q]
        rfl
      omega
    · have en : e = n := by omega
      subst en
      have z : (List.filterMap (fun (i : Nat) => if (i : Int) = (e : Int) then none else some (i : Int)) [e]).length = 0 := by
        rw [List.filterMap_cons, if_pos rfl]
        rfl
      have z2 : (List.filterMap (fun (i : Nat) => if (i : Int) = (e : Int) then none else some (i : Int)) (List.range e)).length = e := by
        have : ∀ l : List Nat, (∀ i ∈ l, i < e) → (List.filterMap (fun (i : Nat) => if (i : Int) = (e : Int) then none else some (i : Int)) l).length = l.length := fun l => by
          induction l with
          | nil => intro _; rfl
          | cons a r ih =>
            intro hl
            have ha := hl a List.mem_cons_self
            rw [List.filterMap_cons, if_neg (by omega)]
            show _ + 1 = _ + 1
            rw [ih fun i hi => hl i (List.mem_cons_of_mem _ hi)]
        rw [this _ fun i hi => List.mem_range.mp hi, List.length_range]
      omega
theorem plain_len {t e : Int} (h0 : 0 ≤ e) (h1 : e < t) : (plainL t e).length + 1 = t.toNat := by
  have z := range_filter_len e.toNat t.toNat (by omega)
  rw [Int.toNat_of_nonneg h0] at z
  exact z
/-- the digits of a row of letters -/
def digits (ls : List Int) (row : List Int) : List Nat := row.map fun x => ls.idxOf x
def letters (ls : List Int) (ds : List Nat) : List Int := ds.map fun d => ls.getD d 0
theorem digits_lt {ls row : List Int} (h : ∀ x ∈ row, x ∈ ls) : ∀ d ∈ digits ls row, d < ls.length := fun d hd => by
  obtain ⟨x, hx, rfl⟩ := List.mem_map.mp hd
  exact List.idxOf_lt_length_of_mem (h x hx)
theorem letters_digits {ls row : List Int} (h : ∀ x ∈ row, x ∈ ls) : letters ls (digits ls row) = row := by
  unfold letters digits
  rw [List.map_map]
  conv => rhs; rw [← List.map_id row]
  refine List.map_congr_left fun x hx => ?_
  have hi := List.idxOf_lt_length_of_mem (h x hx)
  show ls.getD (ls.idxOf x) 0 = x
  rw [List.getD_eq_getElem?_getD, List.getElem?_eq_getElem hi, List.getElem_idxOf hi]
  rfl
theorem digits_letters {ls : List Int} (hn : ls.Nodup) {ds : List Nat} (h : ∀ d ∈ ds, d < ls.length) : digits ls (letters ls ds) = ds := by
  unfold letters digits
  rw [List.map_map]
  conv => rhs; rw [← List.map_id ds]
  refine List.map_congr_left fun d hd => ?_
  show ls.idxOf (ls.getD d 0) = d
  rw [List.getD_eq_getElem?_getD, List.getElem?_eq_getElem (h d hd)]
  exact List.Nodup.idxOf_getElem hn d (h d hd)
theorem letters_mem {ls : List Int} {ds : List Nat} (h : ∀ d ∈ ds, d < ls.length) : ∀ x ∈ letters ls ds, x ∈ ls := fun x hx => by
  obtain ⟨d, hd, rfl⟩ := List.mem_map.mp hx
  rw [List.getD_eq_getElem?_getD, List.getElem?_eq_getElem (h d hd)]
  exact List.getElem_mem (h d hd)
/-- the frame of a body without its end, by ranks -/
def rowR (t e : Int) (body : List Int) : List Int := letters (plainL t e) (rowD (plainL t e).length (rankD t.toNat (digits (countL t) body)))
def bodyR (t e : Int) (row : List Int) : List Int := letters (countL t) (rowD t.toNat (rankD (plainL t e).length (digits (plainL t e) row)))
theorem let_map (ls : List Int) (ds : List Nat) : ds.map (fun d => V.int (ls.getD d 0)) = (letters ls ds).map V.int := by
  unfold letters
  rw [List.map_map]
  rfl
theorem bodyR_len {t e : Int} (h3 : 3 ≤ t) (h0 : 0 ≤ e) (h1 : e < t) {row : List Int} (h : ∀ x ∈ row, x ∈ plainL t e) : (bodyR t e row).length ≤ row.length := by
  have z := plain_len h0 h1
  unfold bodyR letters
  rw [List.length_map]
  have a := row_len_mono (m := (plainL t e).length) (n := t.toNat) (by omega) (by omega) (rankD (plainL t e).length (digits (plainL t e) row)) _ (Nat.le_refl _)
  rw [row_rank (by omega) _ (digits (plainL t e) row) rfl (digits_lt h)] at a
  have b : (digits (plainL t e) row).length = row.length := List.length_map _
  omega
theorem bodyR_mem {t e : Int} (h3 : 3 ≤ t) (row : List Int) : ∀ n ∈ bodyR t e row, 0 ≤ n ∧ n < t := fun n hn => by
  refine count_mem.mp (letters_mem (fun d hd => ?_) n hn)
  rw [count_len]
  exact row_lt (by omega) _ d hd
theorem rowR_bodyR {t e : Int} (h3 : 3 ≤ t) (h0 : 0 ≤ e) (h1 : e < t) {row : List Int} (h : ∀ x ∈ row, x ∈ plainL t e) : rowR t e (bodyR t e row) = row := by
  have z := plain_len h0 h1
  unfold rowR bodyR
  rw [digits_letters (count_nodup t) (fun d hd => by rw [count_len]; exact row_lt (by omega) _ d hd), rank_row, row_rank (by omega) _ _ rfl (digits_lt h), letters_digits h]
theorem rowR_mem {t e : Int} (h3 : 3 ≤ t) (h0 : 0 ≤ e) (h1 : e < t) (body : List Int) : ∀ x ∈ rowR t e body, x ∈ plainL t e := by
  have z := plain_len h0 h1
  exact letters_mem (row_lt (by omega) _)
theorem rowR_len {t e : Int} (h3 : 3 ≤ t) (h16 : t ≤ 16) (h0 : 0 ≤ e) (h1 : e < t) {body : List Int} (h : ∀ n ∈ body, 0 ≤ n ∧ n < t) : (rowR t e body).length ≤ 5 * body.length := by
  have z := plain_len h0 h1
  unfold rowR letters
  rw [List.length_map]
  have a := row_short (m := (plainL t e).length) (n := t.toNat) (by omega) (by omega) (ds := digits (countL t) body) (fun d hd => by
    rw [← count_len (t := t)]
    exact digits_lt (fun x hx => count_mem.mpr (h x hx)) d hd)
  have b : (digits (countL t) body).length = body.length := List.length_map _
  omega
end Esc

/-! What stands in tuples stays; codes of which none is the beginning of another one. -/
namespace Esc
open PySem PySem.Spec PyProof.Rows L2
/-- a tuple -/
def isT : HO → Bool
  | .tup _ => true
  | .frz _ (.tup _) => true
  | _ => false
/-- the tuples of a heap alone -/
def tp (H : Hp) : Hp := fun a => (H a).filter isT
theorem tp_all {H : Hp} {a : Addr} {o : HO} (h : H a = some o) (t : isT o = true) : tp H a = some o := by
  unfold tp
  rw [h, Option.filter_some, if_pos t]
theorem tp_at {H : Hp} {a : Addr} {xs : List V} (h : H a = some (.tup xs)) : tp H a = some (.tup xs) := tp_all h rfl
theorem tp_of {H : Hp} {a : Addr} {o : HO} (h : tp H a = some o) : isT o = true ∧ H a = some o := by
  unfold tp at h
  have z := Option.filter_eq_some_iff.mp h
  exact ⟨z.2, z.1⟩
theorem tp_same {H : Hp} : Same (tp H) H := fun b o e => (tp_of e).2
theorem tp_up {H H' : Hp} (s : Same (tp H) H') : Same (tp H) (tp H') := fun b o e => tp_all (s b o e) (tp_of e).1
theorem tp_pure {H H' : Hp} (s : Same H H') : Same (tp H) (tp H') := tp_up fun b o e => s b o (tp_same b o e)
theorem tp_ne {H : Hp} {b d : Addr} {o : HO} {xs : List V} (e : tp H b = some o) (hd : H d = some (.lst xs)) : b ≠ d := fun z => by
  obtain ⟨t, h⟩ := tp_of e
  rw [z, hd] at h
  cases h
  cases t
theorem tp_hide {H H' : Hp} {d : Addr} {xs : List V} (hd : H d = some (.lst xs)) (s : Same (hide d H) H') : Same (tp H) (tp H') := tp_up fun b o e => s b _ ((hide_ne (tp_ne e hd)).trans (tp_of e).2)
theorem tp_put {H : Hp} {l : Addr} {xs : List V} {o : HO} (hl : H l = some (.lst xs)) : Same (tp H) (tp (upd H l o)) := tp_up fun b u e => (upd_ne (tp_ne e hl)).trans (tp_of e).2
theorem tp_new {H : Hp} {l : Addr} {o : HO} (hl : H l = none) : Same (tp H) (tp (upd H l o)) := tp_pure (same_new hl)
theorem tp_sqt {K : PySem.W.Frag} {H : Hp} {a : Addr} {xs : List V} (h : H a = some (.tup xs)) : SqT K (tp H) a xs := st_of (tp_at h)
theorem tp_tupd {H : Hp} {a : Addr} {xs : List V} (h : TupD H a xs) : TupD (tp H) a xs := by
  obtain ⟨o, n, e⟩ := h
  exact ⟨o, n, tp_all e rfl⟩
/-! ### leaves of a tree -/
def Apart (a b : List Int) : Prop := ¬ a <+: b ∧ ¬ b <+: a
theorem Apart.symm {a b : List Int} (h : Apart a b) : Apart b a := ⟨h.2, h.1⟩
def LeavesOk (t e : Int) (m : Nat) (cs : List (List Int)) : Prop := (∀ c ∈ cs, 1 ≤ c.length ∧ c.length ≤ m ∧ ∀ x ∈ c, Plain t e x) ∧ cs.Pairwise Apart
theorem LeavesOk.codes {t e : Int} {cs : List (List Int)} (h : LeavesOk t e 4 cs) : CodesOk t e cs := h
theorem LeavesOk.perm {t e : Int} {m : Nat} {cs ds : List (List Int)} (h : LeavesOk t e m cs) (p : ds.Perm cs) : LeavesOk t e m ds :=
  ⟨fun c hc => h.1 c (p.subset hc), (p.pairwise_iff (fun {_ _} z => Apart.symm z)).mpr h.2⟩
theorem LeavesOk.sub {t e : Int} {m : Nat} {cs ds : List (List Int)} (h : LeavesOk t e m cs) (p : ds.Sublist cs) : LeavesOk t e m ds :=
  ⟨fun c hc => h.1 c (p.subset hc), h.2.sublist p⟩
theorem LeavesOk.mono {t e : Int} {m n : Nat} {cs : List (List Int)} (h : LeavesOk t e m cs) (l : m ≤ n) : LeavesOk t e n cs :=
  ⟨fun c hc => ⟨(h.1 c hc).1, by have := (h.1 c hc).2.1; omega, (h.1 c hc).2.2⟩, h.2⟩
theorem perm_erase {α : Type} : ∀ (l : List α) (i : Nat) (h : i < l.length), (l[i] :: l.eraseIdx i).Perm l
  | a :: l, 0, _ => List.Perm.refl _
  | a :: l, i + 1, h => ((List.Perm.swap a (l[i]'(Nat.lt_of_succ_lt_succ h)) (l.eraseIdx i))).trans ((perm_erase l i (Nat.lt_of_succ_lt_succ h)).cons a)
theorem pre_snoc {a c : List Int} {s : Int} (h : a <+: c ++ [s]) : a <+: c ∨ a = c ++ [s] := by
  obtain ⟨r, hr⟩ := h
  rcases List.eq_nil_or_concat r with e | ⟨r', x, e⟩
  · right
    rw [← hr, e, List.append_nil]
  · left
    rw [e, List.concat_eq_append, ← List.append_assoc] at hr
    exact ⟨r', (List.append_inj' hr rfl).1⟩
theorem leaves_more {t e : Int} {m : Nat} {cs : List (List Int)} {j : Nat} (hj : j < cs.length) (h : LeavesOk t e m cs) : LeavesOk t e (m + 1) (cs.eraseIdx j ++ (plainL t e).map fun s => cs[j] ++ [s]) := by
  have hc := h.1 cs[j] (List.getElem_mem hj)
  have hp := (h.perm (perm_erase cs j hj)).2
  obtain ⟨hx, hr⟩ := List.pairwise_cons.mp hp
  refine ⟨fun c m1 => ?_, List.pairwise_append.mpr ⟨hr, ?_, fun x hx1 y hy => ?_⟩⟩
  · rcases List.mem_append.mp m1 with m1 | m1
    · have z := h.1 c (List.mem_of_mem_eraseIdx m1)
      exact ⟨z.1, by omega, z.2.2⟩
    · obtain ⟨s, hs, rfl⟩ := List.mem_map.mp m1
      refine ⟨by rw [List.length_append, List.length_singleton]; omega, by rw [List.length_append, List.length_singleton]; omega, fun x hx2 => ?_⟩
      rcases List.mem_append.mp hx2 with z | z
      · exact hc.2.2 x z
      · rw [List.mem_singleton.mp z]
        exact plain_mem.mp hs
  · rw [List.pairwise_map]
    refine (plain_nodup t e).imp fun {a b} hab => ?_
    have key : ∀ {a b : Int}, a ≠ b → ¬ (cs[j] ++ [a] <+: cs[j] ++ [b]) := fun {a b} hab z => by
      have q := z.eq_of_length (by rw [List.length_append, List.length_append]; rfl)
      exact hab (by simpa using List.append_cancel_left q)
    exact ⟨key hab, key fun z => hab z.symm⟩
  · obtain ⟨s, hs, rfl⟩ := List.mem_map.mp hy
    have ap := hx x hx1
    constructor
    · intro z
      rcases pre_snoc z with q | q
      · exact ap.2 q
      · exact ap.1 ⟨[s], q.symm⟩
    · intro z
      exact ap.1 ((List.prefix_append cs[j] [s]).trans z)
theorem leaves_first {t e : Int} : LeavesOk t e 1 ((plainL t e).map fun s => [s]) := by
  refine ⟨fun c hc => ?_, ?_⟩
  · obtain ⟨s, hs, rfl⟩ := List.mem_map.mp hc
    exact ⟨Nat.le_refl _, Nat.le_refl _, fun x hx => by rw [List.mem_singleton.mp hx]; exact plain_mem.mp hs⟩
  · rw [List.pairwise_map]
    refine (plain_nodup t e).imp fun {a b} hab => ?_
    have key : ∀ {a b : Int}, a ≠ b → ¬ ([a] <+: [b]) := fun {a b} hab z => by
      have q := z.eq_of_length rfl
      exact hab (by simpa using q)
    exact ⟨key hab, key fun z => hab z.symm⟩
theorem leaves_nodup {t e : Int} {m : Nat} {cs : List (List Int)} (h : LeavesOk t e m cs) : cs.Nodup := h.2.imp fun {a b} hab z => hab.1 (by rw [z]; exact List.prefix_refl _)
end Esc

set_option maxHeartbeats 2000000
/-! enumerate(t), sorted(t) of tuples. -/
namespace Esc
open PySem PySem.Spec PyProof.Rows L2
open Sem (wp)
open AutoSeq1 (wpAny_loadPart')
def enO (a : Addr) : Obj := { cls := .type "enumerate", data := .fields #[.none, .bool false, .ref a, rawInt 0, .none, .none] }
theorem new_en {v : Value} {o : Obj} {C : Heap → Prop} (B : Begins v o C) : Meets (Builtin.«enumerate.__new__» ⟨[.type "enumerate", v], []⟩) (fun _ R s => C s.heap ∧ R (.ok (.ret (.ref (s.heap.push o).objs.size))) { s with heap := (s.heap.push o).push (enO s.heap.objs.size) }) :=
  .of_wp fun prog w A R s ⟨h1, h⟩ => by
    obtain ⟨hp, g, d, tk, os⟩ := s
    have su := sub_enumerate
    have go : ∀ {A' : Around} {E Q : Value → Shared → Prop}, Q (.ref hp.objs.size) ⟨hp.push o, g, d, tk, os⟩ → wpAny (model prog w) A' (pyIter v) Q E ⟨hp, g, d, tk, os⟩ := fun q => B.iter prog w _ _ ⟨hp, g, d, tk, os⟩ _ h1 q
    wp_walk using go
    refine wpAny_stack_any (fun _ => wpAny_pure ?_)
    split
    · rename_i c _ _ _ _ _
      cases c == Value.type "enumerate" <;> (wp_walk using go; exact ⟨_, rfl, h⟩)
    · wp_walk using go
      exact ⟨_, rfl, h⟩
theorem call_en {prog : Program} {w : World} {A : Around} {E Q : Value → Shared → Prop} {s : Shared} {v : Value} {o : Obj} {C : Heap → Prop} (B : Begins v o C) (h1 : C s.heap)
    (h : ∀ h', IsEnum h' (s.heap.objs.size + 1) s.heap.objs.size 0 .none → h'.get? s.heap.objs.size = some o → h'.objs.size = s.heap.objs.size + 2 → (∀ b u, s.heap.get? b = some u → h'.get? b = some u) → Q (.ref (s.heap.objs.size + 1)) { s with heap := h' }) :
    wpAny (model prog w) A (call (.type "enumerate") [v]) Q E s := by
  have z : (s.heap.push o).objs.size = s.heap.objs.size + 1 := Heap.size_push ..
  have e1 : ((s.heap.push o).push (enO s.heap.objs.size)).get? (s.heap.objs.size + 1) = some (enO s.heap.objs.size) := by
    have q := Heap.get?_push_size (s.heap.push o) (o := enO s.heap.objs.size) rfl
    rwa [z] at q
  refine callType_new F.called_enumerate (by decide) (F.typeCall_enumerate_1 _) (F.newCall_enumerate_1 _) (fun obj => F.args_object_init_2 obj _) F.entry_enumerate_new (new_en B) ⟨h1, ?_⟩
  show _ ∧ _
  rw [z]
  exact ⟨⟨_, e1, rfl⟩, h _ e1 (Heap.get?_push_of_some _ (Heap.get?_push_size _ B.free)) (by rw [Heap.size_push, z]) fun b u x => Heap.get?_push_of_some _ (Heap.get?_push_of_some _ x)⟩
/-- the tuple at a, each item in a new pair -/
def IteT (K : PySem.W.Frag) (a : Addr) : It :=
  ⟨fun i H => ∃ (xs : List V) (x : V), SqT K H a xs ∧ xs[i]? = some x, fun i H v H' => ∃ T x, v = .ref T ∧ H T = none ∧ H' = upd H T (.tup [.int (i : Nat), x]) ∧ ∀ xs, SqT K H a xs → xs[i]? = some x, fun i H => ∃ xs : List V, SqT K H a xs ∧ xs.length = i⟩
theorem turn_enT {P : Program} {w : World} {K : PySem.W.Frag} {elts : List Expr} {kk : Nat} {tpos : Pos} (a e it : Addr) (nea : e ≠ a) (nit : a ≠ it) :
    Turn P w K (.Tuple elts kk tpos) (IteT K a) [e, it] e (fun i h => (∃ old, IsEnum h e it ((i : Nat) : Int) old) ∧ h.IsTupleIter it a i ∧ e ≠ it) where
  mem := List.mem_cons_self
  obj := fun i h ⟨⟨old, he⟩, ⟨o, ho, hc, hd⟩, _⟩ b hb => by
    rcases List.mem_cons.mp hb with z | z
    · subst z
      exact ⟨_, he, fun v q => nomatch q⟩
    · rw [List.mem_singleton.mp z]
      exact ⟨o, ho, fun v q => by rw [hd] at q; cases q⟩
  keep := fun i h h' ⟨⟨old, he⟩, hi, hne⟩ k => ⟨⟨old, k e List.mem_cons_self _ he⟩, hi.at fun o q => k it (List.mem_cons_of_mem _ List.mem_cons_self) o q, hne⟩
  item := by
    intro X hP hw hK hc i pins s σ H E I hf st hg
    subst hP hw hK
    obtain ⟨⟨old, he⟩, hit, hne⟩ := st
    obtain ⟨xs, x, hq, hx⟩ := hg
    obtain ⟨its, rv, p, hz⟩ := I.tuple hq
    obtain ⟨u, hu, ru⟩ := rv.get hx
    have lt : i < its.toArray.size := by
      rw [List.size_toArray]
      exact (List.getElem?_eq_some_iff.mp hu).1
    have hel : e < s.heap.objs.size := Heap.lt_size he
    have hil : it < s.heap.objs.size := by
      obtain ⟨_, q, _⟩ := hit
      exact Heap.lt_size q
    refine wpAny_pyNext_enum_itemC (Draws.tuple (show X.A.in1.handled = none from I.ok.hd hc) it a nit its.toArray) he ⟨hit, p⟩ lt hne (by simp [hne, nea]) fun y h' tk hy ho hst hT hsz hk => ?_
    have ey : y = u := by
      have q : its.toArray[i]? = some u := by simpa using hu
      exact Option.some.inj (hy.symm.trans q)
    subst ey
    refine ⟨_, rfl, wpAny_letOwnedTupleGo_enum (s := { s with heap := h', toks := tk + 1 }) ho fun h2 he2 sb => ?_⟩
    have hT2 := (sb.2 _ (Nat.ne_of_gt hel)).trans hT
    have I1 : Inv X pins σ (upd H s.heap.objs.size (.tup [.int (i : Nat), x])) { s with heap := h2, toks := tk + 1 } :=
      I.turnedNew (ch := [e, it]) (fun b ob hb q => (sb.2 b (fun z => hb (z ▸ List.mem_cons_self))).trans (hk b ob (fun z => hb (z ▸ List.mem_cons_self)) (fun z => hb (z ▸ List.mem_cons_of_mem _ List.mem_cons_self)) q)) hf (Nat.le_refl _)
        ⟨by show 2 ≤ sizeLine; decide, [.int i tk, y], .cons ⟨_, rfl⟩ (.cons ru .nil), _, hT2, rfl, _, rfl⟩
    refine ⟨.ref s.heap.objs.size, _, I1, rfl, ⟨_, x, rfl, I.hok.fresh (Nat.le_refl _), rfl, fun ys h3 => by rw [I.tuple_inj h3 hq]; exact hx⟩, ⟨⟨y, ?_⟩, hst.1.at fun o q => (sb.2 it (Ne.symm hne)).trans q, hne⟩, fun b hb => ?_⟩
    · rw [show ((i + 1 : Nat) : Int) = (i : Int) + 1 by omega]
      exact he2
    · have hb' : b ≠ s.heap.objs.size := by
        rcases List.mem_cons.mp hb with z | z
        · exact z ▸ Nat.ne_of_lt hel
        · exact (List.mem_singleton.mp z) ▸ Nat.ne_of_lt hil
      exact (upd_ne hb').trans (hf b hb).1
  done := by
    intro X hP hw hK hc i pins s σ H E I hf st hg
    subst hP hw hK
    obtain ⟨⟨old, he⟩, hit, hne⟩ := st
    obtain ⟨xs, hq, hx⟩ := hg
    obtain ⟨its, rv, p, hz⟩ := I.tuple hq
    have hl := rv.length
    obtain ⟨f0, f1, f2, f3, f4, f5⟩ := hf it (List.mem_cons_of_mem _ List.mem_cons_self)
    have li : its.toArray.size = i := by
      rw [List.size_toArray, ← hl]
      exact hx
    subst li
    exact wpAny_pyNext_enum_endD (Draws.tuple (show X.A.in1.handled = none from I.ok.hd hc) it a nit its.toArray) he ⟨hit, p⟩ fun h' eb => ⟨rfl, I.turned (t' := s.toks) (fun b o hb q => eb b o hb q) f0 f1 f3 f4 f5⟩
  self := fun A i s Q E ⟨⟨_, he⟩, _⟩ h => wpAny_pyIter_enum he h
def iEnT (K : PySem.W.Frag) (ta : TA) : TI := fun σ H R => ta σ H fun vs H1 => ∃ a xs, vs = [.ref a] ∧ SqT K H1 a xs ∧ R (IteT K a) H1
theorem pi_enT {X : Cx} {e : Expr} {ta : TA} {p pos tpos : Pos} {elts : List Expr} {kk : Nat} (hg : Gl X "enumerate") (hm : X.mg "enumerate" = none) (ha : PA X [e] ta) (hs : starEach [e] X.env = [(false, eval e X.env)] := by rfl) :
    PI X (.Tuple elts kk tpos) (.Call (.Name "enumerate" p) [e] [] pos) (iEnT X.K ta) := by
  refine ⟨fun pins s σ H R I h => Call_ (ld_blt I hg hm boot_enumerate (PyProof.Rows.callWith_type1 (thn (ha.run pos pins s σ H _ I h) fun us s1 ⟨vs, H1, I1, r1, a, xs, ex, hq, q⟩ => ?_) hs rfl))⟩
  subst ex
  cases r1 with
  | cons r rr =>
    cases rr
    cases r
    obtain ⟨its, rv, p2, hz⟩ := I1.tuple hq
    have al : a < s1.heap.objs.size := by
      obtain ⟨o, q1, _⟩ := p2
      exact Heap.lt_size q1
    refine call_en (begins_tuple a its.toArray) p2 fun h' he hit hsz hk => wpAny_pyIter_enum he ?_
    refine ⟨s1.heap.objs.size + 1, [s1.heap.objs.size + 1, s1.heap.objs.size], _, _, H1, rfl, I1.kept (t' := s1.toks) hk, turn_enT a (s1.heap.objs.size + 1) s1.heap.objs.size (Nat.ne_of_gt (Nat.lt_succ_of_lt al)) (Nat.ne_of_lt al), ⟨⟨.none, he⟩, ⟨_, hit, rfl, rfl⟩, Nat.succ_ne_self _⟩, fun b hb => ?_, q⟩
    have hle : s1.heap.objs.size ≤ b := by
      rcases List.mem_cons.mp hb with z | z
      · exact z ▸ Nat.le_succ _
      · exact Nat.le_of_eq (List.mem_singleton.mp z).symm
    exact I1.fpOk hle (I1.hok.fresh hle)
section
variable {K : PySem.W.Frag} {H : Hp} {xs : List V} {a : Addr} {σ : L2.St} {g : TG} {tb : TS} {ta : TA} {nx : L2.St → Hp → Prop} {rt : VK} {bk ct : L2.St → Hp → Prop}
def kEnmT (K : PySem.W.Frag) (g : TG) (tb : TS) (D : Ends) (σ : L2.St) : List V → Hp → Prop := fun vs H1 => ∃ a xs, vs = [.ref a] ∧ SqT K H1 a xs ∧ Loop (IteT K a) g tb D σ H1
instance {D : Ends} : Step (tFor (iEnT K ta) g tb D σ H) (ta σ H (kEnmT K g tb D σ)) := ⟨fun h => h⟩
theorem i_enumT (hx : SqT K H a xs) (Pv : Nat → L2.St → Hp → Prop) (h0 : Pv 0 σ H) (hl : ∀ i σ H, i ≤ xs.length → Pv i σ H → SqT K H a xs)
    (hs : ∀ i x σ H T H', xs[i]? = some x → Pv i σ H → H T = none → Same H H' → H' T = some (.tup [.int (i : Nat), x]) → g (.ref T) σ H' (tb ⟨Pv (i + 1), rt, nx, Pv (i + 1)⟩)) (hd : ∀ σ H, Pv xs.length σ H → nx σ H) :
    kEnmT K g tb ⟨nx, rt, bk, ct⟩ σ [.ref a] H := by
  refine ⟨a, xs, rfl, hx, fun i m σ H => m = xs.length - i ∧ i ≤ xs.length ∧ Pv i σ H, ⟨xs.length, by simp, Nat.zero_le _, h0⟩, ?_⟩
  rintro i m σ H ⟨rfl, hi, p⟩
  have q := hl i σ H hi p
  by_cases hlt : i < xs.length
  · refine .inr ⟨⟨xs, xs[i], q, by simp [hlt]⟩, Pv (i + 1), fun σ' H' p' => ⟨xs.length - (i + 1), by omega, rfl, hlt, p'⟩, fun x H' y => ?_⟩
    obtain ⟨T, x, rfl, nT, rfl, y⟩ := y
    exact hs i x σ H T _ (y xs q) p nT (same_new nT) upd_same
  · have e : i = xs.length := by omega
    subst e
    exact .inl ⟨⟨xs, q, rfl⟩, hd σ H p⟩
end
end Esc

set_option maxHeartbeats 2000000
namespace Esc
open PySem PySem.Spec PyProof.Rows L2
/-- sorted(t), a tuple of ints -/
def rSortedIT (K : PySem.W.Frag) : List V → Hp → VK → Prop := fun vs H Q => ∃ (a : Addr) (ns : List Int), vs = [V.ref a] ∧ SqT K H a (ns.map V.int) ∧ ∀ (ms : List Int) (p : Addr), ms.Perm ns → ms.Pairwise (· ≤ ·) → H p = none → Q (.ref p) (upd H p (.lst (ms.map V.int)))
theorem cr_sortedIT {X : Cx} : CallR X (.builtin "sorted") (rSortedIT X.K) := by
  intro pn s σ H vs us Q J r h
  obtain ⟨a, ns, rfl, hs, q⟩ := h
  obtain ⟨its, rv, hl, hz⟩ := J.tuple hs
  have hi := rv.ints
  have hv : its.length ≤ sizeLine := by
    rw [← rv.length]
    exact hz
  rw [Vals.ref1 r]
  obtain ⟨o, ho, hc, n, hd⟩ := hl
  refine (Calls.call_function_entry kind_sorted plain_sorted entry_sorted (args_sorted1 _) ?_ :)
  unfold Builtin.«sorted»
  refine wpAny_bind (m := checkCount "sorted" 1 1 _) (wpAny_pure (wpAny_bind (wpAny_collect_seq a (.inr rfl) ho hc hd (fun h1 k => ?_) (by rw [List.size_toArray]; exact hv))))
  have J1 : Inv X pn σ H { s with heap := h1 } := J.kept (t' := s.toks) k
  refine wpAny_bind (wpAny_newList ?_ hv)
  have hn : (h1.push (seqObj "list" its.toArray 0)).get? h1.objs.size = some (seqObj "list" its.toArray 0) := Heap.get?_push_size _ rfl
  have hn2 : (Shared.heap { s with heap := h1.push (seqObj "list" its.toArray 0) }).get? h1.objs.size = some (seqObj "list" its.toArray 0) := hn
  refine wpAny_bind (wpAny_holding (wpAny_call_entry (s := { s with heap := h1.push (seqObj "list" its.toArray 0) }) slot_list_sort ⟨_, hn2, rfl⟩ entry_list_sort (SrtO.list_sort_ord SrtO.swo_int hn2 hv (fun h2 => SrtO.ints_sortable hi h2) fun out o1 o2 => ⟨_, rfl, ?_⟩) (args_list_sort _)))
  refine wpAny_pure ⟨_, rfl, ?_⟩
  obtain ⟨k1, k2, k3⟩ := SrtO.ints_out hi o1 o2
  obtain ⟨ep, he⟩ := PyProof.Rows.sortedHeap_at (vs := its) (out := out.toArray) hn
  have hlen : ((out.map SrtO.iv).map V.int).length ≤ sizeLine := by
    have z := k2.length_eq
    simp only [List.length_map] at z hz ⊢
    omega
  exact ⟨.ref h1.objs.size, upd H h1.objs.size (.lst ((out.map SrtO.iv).map V.int)), J1.laid (t' := s.toks) (fun b u e => by
    rw [PyProof.Rows.sortedHeap_old (Nat.ne_of_lt (Heap.lt_size e)) (by rw [Heap.size_push]; exact Nat.lt_succ_of_lt (Heap.lt_size e))]
    exact Heap.get?_push_of_some _ e) (Nat.le_refl _) ⟨hlen, out, ep, vals_of_ints k1, he⟩, rfl, q _ _ k2 k3 (J1.hok.fresh (Nat.le_refl _))⟩
theorem i_sortedIT {K : PySem.W.Frag} {H : Hp} {Q : VK} {a : Addr} {ns : List Int} (h : SqT K H a (ns.map V.int)) (q : ∀ (ms : List Int) p H', ms.Perm ns → ms.Pairwise (· ≤ ·) → H p = none → Same H H' → H' p = some (.lst (ms.map V.int)) → Q (.ref p) H') : rSortedIT K [.ref a] H Q :=
  ⟨a, ns, rfl, h, fun ms p hp hw hn => q ms p _ hp hw hn (same_new hn) upd_same⟩
end Esc

set_option maxHeartbeats 4000000
/-! set(l) of a list of ints. -/
namespace Esc
open PySem PySem.Spec PyProof.Rows L2
/-- a set just made -/
def noS (w : World) : Obj := { cls := .type "set", dict := none, data := .set #[] 0 (.fresh 0 0 (!w.params.followText "set-order")) }
section
variable {P : Program} {w : World} {A : Around} {E : Value → Shared → Prop} {s : Shared}
theorem call_set_li {l : Addr} {items : Array Value} (ns : List Int) {Q : Value → Shared → Prop} (hh : A.handled = none) (hl : s.heap.IsList l items) (hit : IntsAre items.toList ns) (hb : ns.length + 1 < scanBound)
    (h : ∀ (h' : Heap) (tk c : Nat), SetR w h' s.heap.objs.size (fun j => decide (j ∈ ns)) c → c ≤ ns.length → (∀ b o, s.heap.get? b = some o → h'.get? b = some o) → Q (.ref s.heap.objs.size) { s with heap := h', toks := tk }) :
    wpAny (model P w) A (call (.type "set") [.ref l]) Q E s := by
  have sizes : items.size = ns.length := (Array.length_toList (xs := items)).symm.trans (IntsAre.length hit)
  obtain ⟨c, tl, hmro⟩ := F.called_set.mro
  have hmade := F.called_set.made
  have hsub := F.called_set.sub
  refine wpAny_call (codeAny_of_tree ?_); show wpAny _ _ (callAny (.type "set") _) _ _ _
  refine wpAny_pure ⟨Code.quiet_builtin _ (by decide +kernel), (codeAny_builtin PySem.F.entry_type_call ?_ :)⟩
  rw [Around.under_plain (weight_type_call_type "set" [.ref l] ([])) (rfl)]
  have h1 := F.called_set.notType
  have h2 := F.called_set.canCreate
  have hct := F.typeCall_set_1 (.ref l)
  repeat any_goals first | assumption | wp_step
  refine codeAny_mono (code_set_led1 (.ref l) (E := E) (Q₁ := fun x s1 => x = .ref s.heap.objs.size ∧ s1 = { s with heap := s.heap.push (noS w) }) ⟨rfl, rfl⟩) fun r s1 hr => ?_
  cases r with
  | error e => exact hr
  | ok fl =>
    cases fl with
    | ret obj =>
      obtain ⟨rfl, rfl⟩ := hr
      have g0 : (s.heap.push (noS w)).get? s.heap.objs.size = some (noS w) := Heap.get?_push_size _ rfl
      have hT : Shared.TypeIs { s with heap := s.heap.push (noS w) } (.ref s.heap.objs.size) "set" := ⟨_, g0, rfl⟩
      have hli := F.called_set.init.lookup
      have hbi := F.called_set.init.bind (.ref s.heap.objs.size)
      repeat any_goals first | assumption | wp_step
      refine codeAny_mono (codeAny_call_builtin (R := wants (fun r s2 => r = .none ∧ ∃ h' tk c, s2 = { s with heap := h', toks := tk } ∧ SetR w h' s.heap.objs.size (fun j => decide (j ∈ ns)) c ∧ c ≤ ns.length ∧ ∀ b o, s.heap.get? b = some o → h'.get? b = some o) E) F.called_set.init.plain F.entry_set_init (check_set_init_1 hT ?_)) fun r2 s2 hr2 => ?_
      · obtain ⟨⟨ocls, odict, odata, oslots⟩, hol, hcl, nl, hdl⟩ := hl
        simp only at hcl hdl
        subst hcl hdl
        have hol' := Heap.get?_push_of_some (noS w) hol
        have hsls := F.sub_list_set
        have hslf := F.sub_list_frozenset
        have hne : (Value.type "list" == Value.type "dict") = false := by decide
        have hl1 : (s.heap.push (noS w)).IsList l items := ⟨_, hol', rfl, nl, rfl⟩
        unfold Builtin.«set.__init__» noKeywords Builtin.Frozenset.updateFrom
        generalize ePI : pyIter = PI
        wp_walk
        subst ePI
        refine wpAny_pyIter_list hl1 (wpAny_bind (wpAny_runValue ?_))
        have lt : l < s.heap.objs.size := Heap.lt_size hol
        have z1 : (s.heap.push (noS w)).objs.size = s.heap.objs.size + 1 := Heap.size_push ..
        have nI : l ≠ (s.heap.push (noS w)).objs.size := by rw [z1]; exact Nat.ne_of_lt (Nat.lt_succ_of_lt lt)
        have nS : s.heap.objs.size ∉ [(s.heap.push (noS w)).objs.size, l] := fun m => by
          rw [z1] at m
          rcases List.mem_cons.mp m with m | m
          · exact Nat.ne_of_lt (Nat.lt_succ_self _) m
          · exact Nat.ne_of_gt lt (List.mem_singleton.mp m)
        have val : ∀ (i : Nat) (v : Value), items[i]? = some v → ∃ k t, ns[i]? = some k ∧ v = .int k t := fun i v hv => by
          have hi : i < ns.length := sizes ▸ (Array.getElem?_eq_some_iff.mp hv).1
          obtain ⟨t, e⟩ := IntsAre.int_at hit i v ((Array.getElem?_toList (xs := items)).trans hv)
          exact ⟨ns[i], t, List.getElem?_eq_getElem hi, by rw [e, List.getD_eq_getElem?_getD, List.getElem?_eq_getElem hi]; rfl⟩
        refine set_update_ints ((Walks.list (show A.in1.in1.in1.handled = none by simp [hh]) _ l nI items).toS) s.heap.objs.size nS ns sizes hb val (items.size - 0) 0 _ (by omega) (Nat.zero_le _) ⟨⟨_, Heap.get?_push_size _ rfl, rfl, rfl⟩, hl1.push _⟩ ?S0 ?SR
        case S0 => exact ⟨0, Nat.le_refl 0, setR_new_at (Heap.get?_push_of_some _ g0)⟩
        case SR =>
          intro s' c' hm hc' hS'
          obtain ⟨h', g2, d', tk', os'⟩ := s'
          obtain rfl : g2 = s.gens := hm.gens
          obtain rfl : d' = s.drawn := hm.drawn
          obtain rfl : os' = s.os := hm.os
          show wpAny _ _ _ _ _ _
          refine wpAny_pure ?_
          show wpAny _ _ (ret Value.none) _ _ _
          refine wpAny_pure ⟨rfl, h', tk', c', rfl, hS', sizes ▸ hc', fun b o e => ?_⟩
          have b0 : b < s.heap.objs.size := Heap.lt_size e
          refine hm.heap b o (fun m => ?_) (Heap.get?_push_of_some _ (Heap.get?_push_of_some _ e))
          rcases List.mem_cons.mp m with m | m
          · exact Nat.ne_of_lt b0 m
          · rw [z1] at m
            exact Nat.ne_of_lt (Nat.lt_succ_of_lt b0) (List.mem_singleton.mp m)
      · cases r2 with
        | error e => exact hr2
        | ok f2 =>
          cases f2 with
          | ret r =>
            obtain ⟨rfl, h', tk, c', rfl, hS', hc', hk'⟩ := hr2
            repeat any_goals first | assumption | wp_step
            exact h _ _ _ hS' hc' hk'
          | _ => exact hr2.elim
    | _ => exact hr.elim
end
/-- set(l), a list of ints -/
def rSetI (K : PySem.W.Frag) (w : World) : List V → Hp → VK → Prop := fun xs H Q => ∃ (l : Addr) (ns : List Int), xs = [V.ref l] ∧ SqL K H l (ns.map V.int) ∧ ns.length ≤ 1000 ∧ ∀ (p : Addr) (c : Nat), c ≤ ns.length → H p = none → Q (.ref p) (upd H p (SetO w p (fun j => decide (j ∈ ns)) c))
theorem cr_setI {X : Cx} (hc : X.calm = true) : CallR X (.type "set") (rSetI X.K X.w) := by
  intro pn s σ H vs us Q J r h
  obtain ⟨l, ns, rfl, hs, hn, q⟩ := h
  obtain ⟨its, rv, pl, hz⟩ := J.list hs
  rw [Vals.ref1 r]
  refine call_set_li ns (J.ok.hd hc) pl.isList (by simpa using rv.ints) (by unfold scanBound; omega) fun h' tk c R hc' k => ?_
  exact ⟨.ref s.heap.objs.size, upd H s.heap.objs.size (SetO X.w s.heap.objs.size (fun j => decide (j ∈ ns)) c), J.laid (t' := tk) k (Nat.le_refl _) (setO_new R), rfl, q _ c hc' (J.hok.fresh (Nat.le_refl _))⟩
end Esc

/-! More steps: comprehensions over tuples with an invariant, members, sets. -/
namespace Esc
open PySem PySem.Spec PyProof.Rows L2
section
variable {K : PySem.W.Frag} {w : World} {H : Hp} {Q : VK} {xs : List V} {a : Addr} {σ σ0 : L2.St} {g : TG} {tt : TT} {te : TE} {vs : List Nat} {ta : TE}
theorem i_lcTI [w : Wp vs σ σ0] (Pv : Addr → Nat → List V → Hp → Prop) (hx0 : SqT K H a xs) (h0 : ∀ D, H D = none → Pv D 0 [] (upd H D (.lst []))) (hx : ∀ D i acc H', H D = none → Pv D i acc H' → SqT K H' a xs)
    (hs : ∀ D i x acc H', H D = none → xs[i]? = some x → acc.length ≤ i → Pv D i acc H' → g x σ0 H' (kLcB σ0 vs tt te (kN Pv D i) (kY Pv D i)))
    (q : ∀ D acc H', H D = none → Pv D xs.length acc H' → Q (.ref D) H') : kLcT K g tt te vs σ Q (.ref a) H := by
  have w' := w.h
  subst w'
  exact ⟨a, rfl, ⟨xs, hx0⟩, fun D hD => lc_tup (xs := xs) (fun i H' => ∃ acc, acc.length ≤ i ∧ Pv D i acc H') ⟨[], Nat.le_refl _, h0 D hD⟩ (fun i H' _ ⟨acc, _, p⟩ => hx D i acc H' hD p) (fun i x H' hi ⟨acc, hl, p⟩ => hs D i x acc H' hD hi hl p) (fun H' ⟨acc, _, p⟩ => q D acc H' hD p)⟩
theorem inV_int (x : Int) : ∀ ns : List Int, inV (.int x) (ns.map V.int) = decide (x ∈ ns)
  | [] => rfl
  | n :: ns => by
    have ih := inV_int x ns
    unfold inV at ih ⊢
    rw [List.map_cons, List.any_cons, ih, eqV_int]
    by_cases h : n = x
    · subst h
      simp
    · rw [decide_eq_false h, Bool.false_or]
      refine decide_eq_decide.mpr ⟨List.mem_cons_of_mem _, fun m => ?_⟩
      rcases List.mem_cons.mp m with z | z
      · exact absurd z.symm h
      · exact z
theorem i_notInI {x : Int} {ns : List Int} (h : SqL K H a (ns.map V.int)) (q : Q (.bl (!decide (x ∈ ns))) H) : rIn K true (.int x) (.ref a) H Q :=
  ⟨a, _, rfl, .inl h, rfl, flat_ints ns, by rw [inV_int]; exact q⟩
theorem i_inI {x : Int} {ns : List Int} (h : SqL K H a (ns.map V.int)) (q : Q (.bl (decide (x ∈ ns))) H) : rIn K false (.int x) (.ref a) H Q :=
  ⟨a, _, rfl, .inl h, rfl, flat_ints ns, by rw [inV_int]; exact q⟩
def kLenSet (K : PySem.W.Frag) (Q : VK) : VK := fun x H1 => ∃ (l : Addr) (ns : List Int), x = V.ref l ∧ SqL K H1 l (ns.map V.int) ∧ ns.length < 64 ∧ ns.Nodup ∧ Q (.int ns.length) H1
instance : Step (tLenSetI K ta σ H Q) (ta σ H (kLenSet K Q)) := ⟨fun h => h⟩
theorem i_lenSet {ns : List Int} (h : SqL K H a (ns.map V.int)) (hl : ns.length < 64) (hn : ns.Nodup) (q : Q (.int ns.length) H) : kLenSet K Q (.ref a) H := ⟨a, ns, rfl, h, hl, hn, q⟩
theorem i_setI {ns : List Int} (h : SqL K H a (ns.map V.int)) (hl : ns.length ≤ 1000) (q : ∀ p c H', c ≤ ns.length → H p = none → Same H H' → H' p = some (SetO w p (fun j => decide (j ∈ ns)) c) → Q (.ref p) H') : rSetI K w [.ref a] H Q :=
  ⟨a, ns, rfl, h, hl, fun p c hc hp => q p c _ hc hp (same_new hp) upd_same⟩
/-- two rising lists of the same members -/
theorem rise_eq : ∀ {xs ys : List Int}, xs.Pairwise (· < ·) → ys.Pairwise (· < ·) → (∀ k, k ∈ xs ↔ k ∈ ys) → xs = ys
  | [], [], _, _, _ => rfl
  | [], y :: ys, _, _, h => by
    have := (h y).mpr List.mem_cons_self
    cases this
  | x :: xs, [], _, _, h => by
    have := (h x).mp List.mem_cons_self
    cases this
  | x :: xs, y :: ys, hx, hy, h => by
    obtain ⟨x1, x2⟩ := List.pairwise_cons.mp hx
    obtain ⟨y1, y2⟩ := List.pairwise_cons.mp hy
    have e : x = y := by
      rcases List.mem_cons.mp ((h x).mp List.mem_cons_self) with z | z
      · exact z
      · rcases List.mem_cons.mp ((h y).mpr List.mem_cons_self) with u | u
        · exact u.symm
        · have a := y1 x z
          have b := x1 y u
          omega
    subst e
    refine congrArg _ (rise_eq x2 y2 fun k => ⟨fun m => ?_, fun m => ?_⟩)
    · rcases List.mem_cons.mp ((h k).mp (List.mem_cons_of_mem _ m)) with z | z
      · have := x1 k m
        omega
      · exact z
    · rcases List.mem_cons.mp ((h k).mpr (List.mem_cons_of_mem _ m)) with z | z
      · have := y1 k m
        omega
      · exact z
theorem i_sortedSet {ns : List Int} {c : Nat} (h : H a = some (SetO w a (fun j => decide (j ∈ ns)) c)) (hc : c < 64) (hw : ns.Pairwise (· < ·)) (q : ∀ p H', H p = none → Same H H' → H' p = some (.lst (ns.map V.int)) → Q (.ref p) H') : rSortedSet w [.ref a] H Q :=
  ⟨a, _, c, rfl, h, hc, fun ms p hms hmem _ hn => by
    have e : ms = ns := rise_eq hms hw fun k => by rw [hmem k, decide_eq_true_iff]
    rw [e]
    exact q p _ hn (same_new hn) upd_same⟩
theorem PairsAt.mem {as : List Addr} {cs : List (Int × Int)} {b : Addr} (h : PairsAt K H as cs) (m : b ∈ as) : ∃ c ∈ cs, SqT K H b [.int c.1, .int c.2] := by
  obtain ⟨i, hi, e⟩ := List.getElem_of_mem m
  obtain ⟨c, h1, h2⟩ := h.get (by rw [List.getElem?_eq_getElem hi, e])
  exact ⟨c, List.mem_of_getElem? h1, h2⟩
end
theorem ref_get {as : List Addr} {i : Nat} {x : V} (h : (as.map V.ref)[i]? = some x) : ∃ a, as[i]? = some a ∧ x = .ref a := by
  rw [List.getElem?_map] at h
  cases e : as[i]? with
  | none =>
    rw [e] at h
    cases h
  | some a =>
    rw [e] at h
    exact ⟨a, rfl, (Option.some.inj h).symm⟩
end Esc

/-! Comprehensions of two fors: over a list, within over a tuple. -/
namespace Esc
open PySem PySem.Spec PyProof.Rows L2
section
variable {K : PySem.W.Frag} {H : Hp} {Q : VK} {xs : List V} {a : Addr} {σ σ0 : L2.St} {g g1 : TG} {tt tt1 : TT} {te tl ti : TE} {wi1 : TI} {vs vs1 : List Nat} {D : Addr} {Nx : Hp → Prop} {b : Bool}
/-- the inner walk -/
def In2 (g1 : TG) (tt1 : TT) (te : TE) (vs1 : List Nat) (D : Addr) (Nx : Hp → Prop) (σ2 : L2.St) : It → Hp → Prop := fun J1 H4 => ∃ W1 : Nat → Nat → Hp → Prop, (∃ m, W1 0 m H4) ∧ ∀ j k H, W1 j k H →
  (J1.stop j H ∧ Nx H) ∨ (J1.go j H ∧ ∃ Nx1 : Hp → Prop, (∀ H', Nx1 H' → ∃ k', k' < k ∧ W1 (j + 1) k' H') ∧ ∀ x H', J1.yld j H x H' → g1 x (wipe σ2 vs1) H' (kLcB (wipe σ2 vs1) vs1 tt1 te Nx1 fun y H7 => ∃ acc, H7 D = some (.lst acc) ∧ acc.length < sizeLine ∧ Nx1 (upd H7 D (.lst (acc ++ [y])))))
def kLc2 (wi1 : TI) (g1 : TG) (tt1 : TT) (te : TE) (vs1 : List Nat) (D : Addr) (Nx : Hp → Prop) (σ2 : L2.St) : Bool → Hp → Prop := fun b H3 => if b = true then wi1 σ2 H3 (In2 g1 tt1 te vs1 D Nx σ2) else Nx H3
def kLcB2 (σ0 : L2.St) (vs : List Nat) (tt : TT) (wi1 : TI) (g1 : TG) (tt1 : TT) (te : TE) (vs1 : List Nat) (D : Addr) (Nx : Hp → Prop) : L2.St → Hp → Prop := fun σ2 H2 => wipe σ2 vs = σ0 ∧ tt σ2 H2 (kLc2 wi1 g1 tt1 te vs1 D Nx σ2)
def Lc2Loop (J : It) (g : TG) (tt : TT) (wi1 : TI) (g1 : TG) (tt1 : TT) (te : TE) (vs vs1 : List Nat) (σ : L2.St) (Q : VK) (H1 : Hp) : Prop := ∀ D, H1 D = none → ∃ W : Nat → Nat → Hp → Prop, (∃ m, W 0 m (upd H1 D (.lst []))) ∧ ∀ i m H, W i m H →
  (J.stop i H ∧ Q (.ref D) H) ∨ (J.go i H ∧ ∃ Nx : Hp → Prop, (∀ H', Nx H' → ∃ m', m' < m ∧ W (i + 1) m' H') ∧ ∀ x H', J.yld i H x H' → g x (wipe σ vs) H' (kLcB2 (wipe σ vs) vs tt wi1 g1 tt1 te vs1 D Nx))
def kLc2L (K : PySem.W.Frag) (g : TG) (tt : TT) (wi1 : TI) (g1 : TG) (tt1 : TT) (te : TE) (vs vs1 : List Nat) (σ : L2.St) (Q : VK) : VK := fun x H1 => ∃ a, x = .ref a ∧ (∃ xs, SqL K H1 a xs) ∧ Lc2Loop (Itl K a) g tt wi1 g1 tt1 te vs vs1 σ Q H1
def kIn2T (K : PySem.W.Frag) (g1 : TG) (tt1 : TT) (te : TE) (vs1 : List Nat) (D : Addr) (Nx : Hp → Prop) (σ2 : L2.St) : VK := fun y H4 => ∃ b, y = .ref b ∧ (∃ ys, SqT K H4 b ys) ∧ In2 g1 tt1 te vs1 D Nx σ2 (Itt K b) H4
instance : Step (tLc2 (iList K tl) g tt wi1 g1 tt1 te vs vs1 σ H Q) (tl σ H (kLc2L K g tt wi1 g1 tt1 te vs vs1 σ Q)) := ⟨fun h => h⟩
instance {σ2 : L2.St} : Step (kLc2 wi1 g1 tt1 te vs1 D Nx σ2 true H) (wi1 σ2 H (In2 g1 tt1 te vs1 D Nx σ2)) := ⟨fun h => iteT h⟩
instance {σ2 : L2.St} : Step (iTup K ti σ2 H (In2 g1 tt1 te vs1 D Nx σ2)) (ti σ2 H (kIn2T K g1 tt1 te vs1 D Nx σ2)) := ⟨fun h => h⟩
instance {σ2 : L2.St} [w : Wp vs σ2 σ0] : Step (kLcB2 σ0 vs tt wi1 g1 tt1 te vs1 D Nx σ2 H) (tt σ2 H (kLc2 wi1 g1 tt1 te vs1 D Nx σ2)) := ⟨fun h => ⟨w.h, h⟩⟩
def kN2 (Pv : Addr → Nat → List V → Hp → Prop) (D : Addr) (i : Nat) : Hp → Prop := fun H => ∃ acc, Pv D i acc H
theorem i_lc2L [w : Wp vs σ σ0] (Pv : Addr → Nat → List V → Hp → Prop) (hx0 : SqL K H a xs) (h0 : ∀ D, H D = none → Pv D 0 [] (upd H D (.lst []))) (hx : ∀ D i acc H', H D = none → Pv D i acc H' → SqL K H' a xs)
    (hs : ∀ D i x acc H', H D = none → xs[i]? = some x → Pv D i acc H' → g x σ0 H' (kLcB2 σ0 vs tt wi1 g1 tt1 te vs1 D (kN2 Pv D (i + 1))))
    (q : ∀ D acc H', H D = none → Pv D xs.length acc H' → Q (.ref D) H') : kLc2L K g tt wi1 g1 tt1 te vs vs1 σ Q (.ref a) H := by
  have w' := w.h
  subst w'
  refine ⟨a, rfl, ⟨xs, hx0⟩, fun D hD => ⟨fun i m H => m = xs.length - i ∧ i ≤ xs.length ∧ kN2 Pv D i H, ⟨xs.length, by simp, Nat.zero_le _, [], h0 D hD⟩, ?_⟩⟩
  rintro i m H' ⟨rfl, hi, acc, p⟩
  have hq := hx D i acc H' hD p
  by_cases hlt : i < xs.length
  · refine .inr ⟨⟨xs, xs[i], hq, by simp [hlt]⟩, kN2 Pv D (i + 1), fun H2 p2 => ⟨xs.length - (i + 1), by omega, rfl, hlt, p2⟩, fun x H2 y => ?_⟩
    obtain ⟨e, y⟩ := y
    subst e
    exact hs D i x acc _ hD (y xs hq) p
  · have e : i = xs.length := by omega
    subst e
    exact .inl ⟨⟨xs, hq, Nat.le_refl _⟩, q D acc H' hD p⟩
theorem i_in2T {σ2 σ1 : L2.St} {ys : List V} [w : Wp vs1 σ2 σ1] (Pw : Nat → Hp → Prop) (hy0 : SqT K H a ys) (h0 : Pw 0 H) (hy : ∀ j H', Pw j H' → SqT K H' a ys)
    (hs : ∀ j y H', ys[j]? = some y → Pw j H' → g1 y σ1 H' (kLcB σ1 vs1 tt1 te (Pw (j + 1)) fun y H7 => ∃ acc, H7 D = some (.lst acc) ∧ acc.length < sizeLine ∧ Pw (j + 1) (upd H7 D (.lst (acc ++ [y])))))
    (q : ∀ H', Pw ys.length H' → Nx H') : kIn2T K g1 tt1 te vs1 D Nx σ2 (.ref a) H := by
  have w' := w.h
  subst w'
  refine ⟨a, rfl, ⟨ys, hy0⟩, fun j m H => m = ys.length - j ∧ j ≤ ys.length ∧ Pw j H, ⟨ys.length, by simp, Nat.zero_le _, h0⟩, ?_⟩
  rintro j m H' ⟨rfl, hj, p⟩
  have hq := hy j H' p
  by_cases hlt : j < ys.length
  · refine .inr ⟨⟨ys, ys[j], hq, by simp [hlt]⟩, Pw (j + 1), fun H2 p2 => ⟨ys.length - (j + 1), by omega, rfl, hlt, p2⟩, fun x H2 y => ?_⟩
    obtain ⟨e, y⟩ := y
    subst e
    exact hs j x _ (y ys hq) p
  · have e : j = ys.length := by omega
    subst e
    exact .inl ⟨⟨ys, hq, Nat.le_refl _⟩, q H' p⟩
end
end Esc

/-! The frames of bodies, by each sort of way. -/
namespace Esc
open PySem PySem.Spec PyProof.Rows L2
def codesB (cs : List (List Int)) (body : List Int) : List Int := body.flatMap fun x => cs.getD x.toNat []
/-- what stands for x -/
def look (l : List (Int × Int)) (x : Int) : Option Int := (l.find? fun c => decide (c.1 = x)).map (·.2)
def escS (m : Int) (prs : List (Int × Int)) (x : Int) : List Int := match look prs x with
  | some c => [m, c]
  | none => [x]
def escB (m : Int) (prs : List (Int × Int)) (body : List Int) : List Int := body.flatMap (escS m prs)
def stepR (e : Int) (rows : List (List Int)) (x : Int) : List (List Int) := if x = e then rows ++ [[]] else rows.dropLast ++ [rows.getLastD [] ++ [x]]
def rowsB (e : Int) (body : List Int) : List (List Int) := body.foldl (stepR e) [[]]
def groupB (cn : List Int) (w : Nat) (row : List Int) : List Int := if h : 0 < w ∧ w ≤ row.length then cn.getD w 0 :: (row.take w ++ groupB cn w (row.drop w)) else cn.getD row.length 0 :: row
  termination_by row.length
  decreasing_by rw [List.length_drop]; omega
def cntB (t e l : Int) (body : List Int) : List Int :=
  let f := (rowsB e body).flatMap (groupB ((plainL t e).take l.toNat) (l.toNat - 1))
  let last := (rowsB e body).getLastD []
  if last ≠ [] ∧ last.length % (l.toNat - 1) = 0 then f.dropLast else f
/-- the frame of a body within, without its end -/
def rowOf (t e : Int) : Kind → List Int → List Int
  | .codes cs, body => codesB cs body
  | .escapes m prs, body => escB m prs body
  | .counts l, body => cntB t e l body
  | .ranks, body => rowR t e body
theorem codesB_len {cs : List (List Int)} (h : ∀ c ∈ cs, c.length ≤ 4) : ∀ body : List Int, (codesB cs body).length ≤ 4 * body.length
  | [] => Nat.le_refl _
  | x :: r => by
    have ih := codesB_len h r
    unfold codesB at ih ⊢
    rw [List.flatMap_cons, List.length_append, List.length_cons]
    have z : (cs.getD x.toNat []).length ≤ 4 := by
      rw [List.getD_eq_getElem?_getD]
      cases e : cs[x.toNat]? with
      | none => exact Nat.zero_le _
      | some c => exact h c (List.mem_of_getElem? e)
    omega
theorem codesB_snoc (cs : List (List Int)) (body : List Int) (x : Int) : codesB cs (body ++ [x]) = codesB cs body ++ cs.getD x.toNat [] := by
  unfold codesB
  rw [List.flatMap_append, List.flatMap_cons, List.flatMap_nil, List.append_nil]
theorem escB_snoc (m : Int) (prs : List (Int × Int)) (body : List Int) (x : Int) : escB m prs (body ++ [x]) = escB m prs body ++ escS m prs x := by
  unfold escB
  rw [List.flatMap_append, List.flatMap_cons, List.flatMap_nil, List.append_nil]
theorem escB_len (m : Int) (prs : List (Int × Int)) : ∀ body : List Int, (escB m prs body).length ≤ 2 * body.length
  | [] => Nat.le_refl _
  | x :: r => by
    have ih := escB_len m prs r
    unfold escB at ih ⊢
    rw [List.flatMap_cons, List.length_append, List.length_cons]
    have z : (escS m prs x).length ≤ 2 := by
      unfold escS
      split <;> simp
    omega
/-! ### pairs as a dict -/
def kvOf (l : List (Int × Int)) : List (Key × V) := l.map fun c => (Sum.inl c.1, V.int c.2)
theorem kv_val (x : Int) : ∀ l : List (Int × Int), valV (kvOf l) (Sum.inl x) = (look l x).map V.int
  | [] => rfl
  | c :: l => by
    show valV ((Sum.inl c.1, V.int c.2) :: kvOf l) _ = _
    by_cases e : c.1 = x
    · rw [valV_pos (by rw [e])]
      unfold look
      rw [List.find?_cons_of_pos (by simpa using e)]
      rfl
    · rw [valV_neg (fun q => e (Sum.inl.inj q)), kv_val x l]
      unfold look
      rw [List.find?_cons_of_neg (by simpa using e)]
theorem look_none {l : List (Int × Int)} {x : Int} (h : x ∉ l.map (·.1)) : look l x = none := by
  unfold look
  rw [List.find?_eq_none.mpr fun c hc => by
    have : c.1 ≠ x := fun z => h (z ▸ List.mem_map_of_mem hc)
    simpa using this]
  rfl
theorem look_mem {l : List (Int × Int)} (hn : (l.map (·.1)).Nodup) {c : Int × Int} (hc : c ∈ l) : look l c.1 = some c.2 := by
  induction l with
  | nil => cases hc
  | cons a l ih =>
    rw [List.map_cons, List.nodup_cons] at hn
    unfold look at ih ⊢
    rcases List.mem_cons.mp hc with rfl | hc
    · rw [List.find?_cons_of_pos (by simp)]
      rfl
    · have ne : a.1 ≠ c.1 := fun z => hn.1 (z ▸ List.mem_map_of_mem hc)
      rw [List.find?_cons_of_neg (by simpa using ne)]
      exact ih hn.2 hc
theorem look_some {l : List (Int × Int)} {x y : Int} (h : look l x = some y) : (x, y) ∈ l := by
  unfold look at h
  cases e : l.find? fun c => decide (c.1 = x) with
  | none =>
    rw [e] at h
    cases h
  | some c =>
    rw [e] at h
    have z := List.find?_some e
    have m := List.mem_of_find?_eq_some e
    have e1 : c.1 = x := by simpa using z
    have e2 : c.2 = y := Option.some.inj h
    rw [← e1, ← e2]
    exact m
theorem kv_snoc (l : List (Int × Int)) (c : Int × Int) (h : c.1 ∉ l.map (·.1)) : putK (kvOf l) (Sum.inl c.1) (V.int c.2) = kvOf (l ++ [c]) := by
  rw [putK_new _ (by rw [kv_val, look_none h]; rfl)]
  unfold kvOf
  rw [List.map_append]
  rfl
/-! ### dict comprehensions over tuples -/
section
variable {K : PySem.W.Frag} {H : Hp} {g : TG} {tt : TT} {tk tv td : TE} {vs : List Nat} {σ σ0 : L2.St} {Q : VK} {a : Addr} {xs : List V}
def kDcT (K : PySem.W.Frag) (g : TG) (tt : TT) (tk tv : TE) (vs : List Nat) (σ : L2.St) (Q : VK) : VK := fun x H1 => ∃ a, x = .ref a ∧ (∃ xs, SqT K H1 a xs) ∧ DcLoop (Itt K a) g tt tk tv vs σ Q H1
instance : Step (tDc (iTup K td) g tt tk tv vs σ H Q) (td σ H (kDcT K g tt tk tv vs σ Q)) := ⟨fun h => h⟩
theorem i_dcT [w : Wp vs σ σ0] (E : Nat → List (Key × V)) (e0 : E 0 = []) (hx : SqT K H a xs)
    (hs : ∀ D i x H1, H D = none → xs[i]? = some x → Same H H1 → H1 D = some (.dK (E i)) → ∀ Nx : Hp → Prop, (∀ H2, Same H H2 → H2 D = some (.dK (E (i + 1))) → Nx H2) → g x σ0 H1 (kDcB σ0 vs tt tk tv D Nx))
    (q : ∀ p H', H p = none → Same H H' → H' p = some (.dK (E xs.length)) → Q (.ref p) H') : kDcT K g tt tk tv vs σ Q (.ref a) H := by
  have w' := w.h
  subst w'
  refine ⟨a, rfl, ⟨xs, hx⟩, fun D hD => ⟨fun i m H' => m = xs.length - i ∧ i ≤ xs.length ∧ Same H H' ∧ H' D = some (.dK (E i)), ⟨xs.length, by simp, Nat.zero_le _, same_new hD, by rw [e0]; exact upd_same⟩, ?_⟩⟩
  rintro i m H' ⟨rfl, hi, s, e⟩
  have hq := stup s hx
  by_cases hlt : i < xs.length
  · refine .inr ⟨⟨xs, xs[i], hq, by simp [hlt]⟩, fun H2 => Same H H2 ∧ H2 D = some (.dK (E (i + 1))), fun H2 p' => ⟨xs.length - (i + 1), by omega, rfl, hlt, p'⟩, fun x H2 y => ?_⟩
    obtain ⟨e2, y⟩ := y
    subst e2
    exact hs D i x _ hD (y xs hq) s e _ fun H3 s3 e3 => ⟨s3, e3⟩
  · have ei : i = xs.length := by omega
    subst ei
    exact .inl ⟨⟨xs, hq, Nat.le_refl _⟩, q D H' hD s e⟩
end
end Esc

set_option maxHeartbeats 1000000
/-! t.index(n) of a tuple of ints. -/
namespace Esc
open PySem PySem.Spec PyProof.Rows L2
def rTIdx (K : PySem.W.Frag) : V → List V → Hp → VK → Prop := fun x vs H Q => ∃ (p : Addr) (ns : List Int) (k : Int), x = .ref p ∧ vs = [.int k] ∧ SqT K H p (ns.map V.int) ∧ k ∈ ns ∧ Q (.int ((ns.idxOf k : Nat) : Int)) H
theorem mt_tindex {X : Cx} : MtR X "tuple.index" (rTIdx X.K) := by
  intro pn s σ H x vs v us Q J rx rs h
  obtain ⟨p, ns, k, rfl, rfl, hq, hk, q⟩ := h
  cases rx
  obtain ⟨u, rfl, t, rfl⟩ := vals1 rs
  obtain ⟨its, r, ⟨⟨cls, dd, dt, sl⟩, ho, hc, n, hd⟩, hz⟩ := J.tuple hq
  simp only at hc hd
  subst hc hd
  have hi := List.idxOf_lt_length_of_mem hk
  have len : its.length = ns.length := r.length.symm.trans (List.length_map _)
  have hj : ns.idxOf k < its.toArray.size := by
    rw [List.size_toArray, len]
    exact hi
  have place : ∀ (m : Nat) (hm : m < its.toArray.size) (hn : m < ns.length), ∃ t2, its.toArray[m] = Value.int ns[m] t2 := fun m hm hn => by
    obtain ⟨w, hw, t2, e2⟩ := r.get (i := m) (x := .int ns[m]) (by rw [List.getElem?_map, List.getElem?_eq_getElem hn]; rfl)
    obtain ⟨_, e⟩ := List.getElem?_eq_some_iff.mp hw
    exact ⟨t2, by rw [← e2, ← e]; simp⟩
  refine call_meets PySem.F.slot_tuple_index ⟨_, ho, rfl⟩ PySem.F.entry_tuple_index (PySem.F.args_tuple_index_2 _ _) (TI.tuple_indexAt p its.toArray n dd sl (.int k t) (eqU (.int k)) (ns.idxOf k) hj ?_ fun m hm hmj => ?_)
    ⟨ho, fun w hw => mem_eqAt (x := .int k) ⟨t, rfl⟩ rfl r (flat_ints ns) w (by simpa using hw), .int ((ns.idxOf k : Nat) : Int), H, J.tok _, ⟨_, rfl⟩, q⟩
  · obtain ⟨t2, e⟩ := place _ hj hi
    rw [e, List.getElem_idxOf hi]
    show (k == k) = true
    exact beq_self_eq_true k
  · have hn : m < ns.length := by omega
    obtain ⟨t2, e⟩ := place m hm hn
    rw [e]
    show (ns[m] == k) = false
    simpa using List.not_of_lt_findIdx (p := fun y => y == k) hmj
section
variable {K : PySem.W.Frag} {H : Hp} {Q : VK} {p : Addr} {ns : List Int} {k : Int} {σ : L2.St} {tr : TA}
theorem i_tidx (h : SqT K H p (ns.map V.int)) (hk : k ∈ ns) (q : Q (.int ((ns.idxOf k : Nat) : Int)) H) : rTIdx K (.ref p) [.int k] H Q := ⟨p, ns, k, rfl, rfl, h, hk, q⟩
/-- t.m(..) of a tuple of which the object is known -/
def tBMD (r : V → List V → Hp → VK → Prop) (to : TE) (t : TA) : TE := fun σ H Q => to σ H fun x H1 => (∃ a xs, x = .ref a ∧ TupD H1 a xs) ∧ t σ H1 fun vs H2 => r x vs H2 Q
def kBMD (r : V → List V → Hp → VK → Prop) (t : TA) (Q : VK) (σ : L2.St) : VK := fun x H1 => (∃ a xs, x = .ref a ∧ TupD H1 a xs) ∧ t σ H1 (kRv Q x r)
instance {r : V → List V → Hp → VK → Prop} {to : TE} {t : TA} : Step (tBMD r to t σ H Q) (to σ H (kBMD r t Q σ)) := ⟨fun h => h⟩
theorem i_bmD {xs : List V} {r : V → List V → Hp → VK → Prop} (h : TupD H p xs) (q : tr σ H (kRv Q (.ref p) r)) : kBMD r tr Q σ (.ref p) H := ⟨⟨p, xs, rfl, h⟩, q⟩
end
section
variable {X : Cx} {o e : Expr} {es : List Expr} {to : TE} {t : TA} {name : Str} {apos cpos : Pos} {id : String} {r : V → List V → Hp → VK → Prop}
theorem pe_bmD (pa : PlainAttrs "tuple") (slot : Slot "tuple" name id) (hty : typeOf (.builtin id) = pure (.type "method_descriptor")) (hm : MtR X id r) (ho : PE X o to) (ha : PA X (e :: es) t) (hb : attributeBase o name X.env (eval o X.env) = eval o X.env := by rfl)
    (hf : ((backTo cpos (starEach (e :: es) X.env)).all (fun x => !x.1) && (backToKw cpos (keywordEach [] X.env)).all (fun x => x.1.isSome) && decide ((e :: es).length + ([] : List Keyword).length + (if ([] : List Keyword).isEmpty then 0 else 1) < 30)) = true := by rfl)
    (hl : (apos.endLine == cpos.line) = true := by rfl) (hs : starEach (e :: es) X.env = (false, eval e X.env) :: starEach es X.env := by rfl) (hp : (backTo cpos (starEach es X.env)).any (·.1) = false := by rfl) : PE X (.Call (.Attribute o name apos) (e :: es) [] cpos) (tBMD r to t) := by
  refine ⟨fun pn s σ H Q J h => wpAny_Call_method_late hb hf hl rfl (thn (ho.run pn s σ H _ J h) fun v s1 ⟨x, H1, J1, r1, ⟨a, xs, ex, ob, nd, eb⟩, q1⟩ => ?_)⟩
  subst ex
  cases r1
  have hob := (J1.hok a _ eb).1
  refine ⟨"tuple", id, pa, slot, hty, ⟨_, hob, nd.1⟩, fun b z => ?_, ?_⟩
  · cases z
    exact ⟨_, hob, nd.2⟩
  · have hA := ha.run cpos pn s1 σ H1 _ J1 q1
    rw [hs] at hA ⊢
    refine Calls.callWith_builtin (by show (false || (backTo cpos (starEach es X.env)).any (·.1)) = false; rw [hp]; rfl) (Calls.evalArgs_plain (thn hA fun us s2 ⟨vs, H2, J2, r2, q2⟩ => ?_))
    exact hm pn s2 σ H2 (.ref a) vs (.ref a) us Q J2 rfl r2 q2
end
end Esc

set_option maxHeartbeats 4000000
/-! Dict comprehensions of which the keys are tuples. -/
namespace Esc
open PySem PySem.Spec PyProof.Rows L2
abbrev kvT (k : List Key) : List V := k.map kV
/-- d[t] = v by a comprehension -/
theorem dt_set {X : Cx} {pn : List (Addr × Obj)} {σ : L2.St} {H : Hp} {s : Shared} {E : Value → Shared → Prop} {D c : Addr} {kvs : List (List Key × V)} {k : List Key} {v : V} {r : Value} {Q : Unit → Shared → Prop} (hu : X.A.units + 1 < cLine) (J : Inv X pn σ H s) (e : H D = some (.dT kvs)) (eb : H c = some (.tup (k.map kV))) (l : kvs.length < sizeLine) (rv : RelV v r)
    (h : ∀ s', Inv X pn σ (upd H D (.dT (putK kvs k v))) s' → Q () s') : wpAny (model X.prog X.w) X.A (dictSet D (.ref c) r) Q E s := by
  obtain ⟨z, hd, xs, rel, dd⟩ := dt_of J.hok e
  have hz : xs.length ≤ sizeLine := Nat.le_trans (Nat.le_of_eq (Paired.length rel).symm) z
  have hl : (putK kvs k v).length ≤ sizeLine := Nat.le_trans (length_putK kvs k v) l
  refine wpAny_dictSet_heap (hsz := hz) (show (tupleKind (mixKind X.prog X.w)).room X.A from Nat.lt_of_succ_lt hu) (key_of J.hok eb) dd fun h' ⟨q, es, ep, hq, h2, h3, h4, _, h5⟩ hs => h _ ?_
  exact d_write J (by rw [e]; trivial) hs ⟨q, hq⟩ ⟨hl, hd, _, (rel.put k eb rv).keeps fun c ys ec => (upd_ne (ne_of ec e (fun z => nomatch z))).trans ec, q, es, ep, hq, h2, h3, h4, h5⟩
def kDT (tk tv : TE) (D : Addr) (Nx : Hp → Prop) (σ2 : L2.St) : Bool → Hp → Prop := fun b H3 => if b = true then tk σ2 H3 fun y H4 => tv σ2 H4 fun z H5 => ∃ kvs k c, y = .ref c ∧ H5 c = some (.tup (kvT k)) ∧ H5 D = some (.dT kvs) ∧ kvs.length < sizeLine ∧ Nx (upd H5 D (.dT (putK kvs k z))) else Nx H3
def kDTB (σ0 : L2.St) (vs : List Nat) (tt : TT) (tk tv : TE) (D : Addr) (Nx : Hp → Prop) : L2.St → Hp → Prop := fun σ2 H2 => wipe σ2 vs = σ0 ∧ tt σ2 H2 (kDT tk tv D Nx σ2)
def DtLoop (J : It) (g : TG) (tt : TT) (tk tv : TE) (vs : List Nat) (σ : L2.St) (Q : VK) (H1 : Hp) : Prop := ∀ D, H1 D = none → ∃ W : Nat → Nat → Hp → Prop, (∃ m, W 0 m (upd H1 D (.dT []))) ∧ ∀ i m H, W i m H →
  (J.stop i H ∧ Q (.ref D) H) ∨ (J.go i H ∧ ∃ Nx : Hp → Prop, (∀ H', Nx H' → ∃ m', m' < m ∧ W (i + 1) m' H') ∧ ∀ x H', J.yld i H x H' → g x (wipe σ vs) H' (kDTB (wipe σ vs) vs tt tk tv D Nx))
/-- {k: v for ..}, the keys tuples of ints and texts -/
def tDt (wi : TI) (g : TG) (tt : TT) (tk tv : TE) (vs : List Nat) : TE := fun σ H Q => wi σ H fun J H1 => DtLoop J g tt tk tv vs σ Q H1
section
variable {X : Cx}
theorem dt_core {pn : List (Addr × Obj)} {s : Shared} {σ : L2.St} {H : Hp} {Q : VK} {kx vx tg it : Expr} {ifs : List Expr} {sc : Scope} {own : List (Str × Nat)} {p p2 : Pos} {wi : TI} {g : TG} {tt : TT} {tk tv : TE} {use : Option (Value → Sem Unit)} {Qf : Value → Shared → Prop}
    (hu : X.A.units + 1 < cLine) (hc : X.calm = true) (hN : X.N.Nodup) (J : Inv X pn σ H s) (hi : PI X tg it wi) (ok : BlkOk X.N X.env.scope sc own)
    (hg : ∀ (s : Shared) (H : Hp) (C : Addr) (cl : List (Str × Addr)) (fp : List Addr), PG (X.blk s H sc (compEnvC sc cl C X.env) fp) tg g) (ht : ∀ (s : Shared) (H : Hp) (C : Addr) (cl : List (Str × Addr)) (fp : List Addr), PTs (X.blk s H sc (compEnvC sc cl C X.env) fp) ifs tt)
    (hk : ∀ (s : Shared) (H : Hp) (C : Addr) (cl : List (Str × Addr)) (fp : List Addr), PE (X.blk s H sc (compEnvC sc cl C X.env) fp) kx tk)
    (hv : ∀ (s : Shared) (H : Hp) (C : Addr) (cl : List (Str × Addr)) (fp : List Addr), PE (X.blk s H sc (compEnvC sc cl C X.env) fp) vx tv) (hs : ∀ x, foldedSetIterable it X.env x = pure x)
    (h : tDt wi g tt tk tv (own.map (·.2)) σ H Q) (hR : ∀ D C s' m H', Inv X pn σ H' s' → Q (.ref D) H' → s'.heap.Ns C m → FpOk X pn H' C → compPost (model X.prog X.w) X.A X.xe use Qf (.ref D) C (.ok .next) s') :
    wpAny (model X.prog X.w) X.A (comprehension (.DictComp kx vx [⟨tg, it, ifs, 0⟩] sc p) sc X.env p2 newDict false (eval it X.env) use) Qf X.xe s := by
  have fr : ∀ y ∈ sc.names, y.2 = .free → ∃ c, X.env.cells.lookup y.1 = some c := fun y hy e => (ok.free y hy e).elim (fun k => J.ok.has _ (.inl k)) fun k => J.ok.has _ (.inr k)
  refine wpAny_comprehension_free (use := use) rfl hs (closure_ok fr) ok.kind (fun y hy e => by rw [ok.uniq y hy, e]) (thn (hi.run pn s σ H _ J h) fun xv s1 hx => thn hx fun itv s2 ⟨ia, fp, tn, Jt, H2, e, J2, T, st2, f2, q⟩ => ?_)
  subst e
  refine wpAny_newObj_type (newEnv_comp ?_)
  generalize eD : s2.heap.objs.size = D
  obtain ⟨W, ⟨m0, w0⟩, turn⟩ := q D (J2.hok.fresh (Nat.le_of_eq eD))
  generalize e3 : ({ s2 with heap := s2.heap.push { cls := .type "dict", data := .dict #[] } } : Shared) = s3
  have h3 : s3.heap = s2.heap.push { cls := .type "dict", data := .dict #[] } := by rw [← e3]
  have J3 : Inv X pn σ (upd H2 D (.dT [])) s3 := by
    rw [← e3]
    exact J2.laid (t' := s2.toks) (fun b o e => Heap.get?_push_of_some _ e) (Nat.le_of_eq eD) (by rw [← eD]; exact dt_empty s2.heap J2.big)
  have f3 : ∀ b ∈ fp, FpOk X pn (upd H2 D (.dT [])) b ∧ b < s3.heap.objs.size := fun b hb => by
    obtain ⟨o, eo, _⟩ := T.obj _ _ st2 b hb
    have lt : b < s2.heap.objs.size := Heap.lt_size eo
    exact ⟨⟨(upd_ne (by rw [← eD]; exact Nat.ne_of_lt lt)).trans (f2 b hb).1, (f2 b hb).2⟩, by rw [h3, Heap.size_push]; exact Nat.lt_succ_of_lt lt⟩
  have st3 : tn 0 s3.heap := T.keep _ _ _ st2 fun b _ o e => by rw [h3]; exact Heap.get?_push_of_some _ e
  have J4 := block_start J3 ok hN f3
  let cl := cellsFrom (s3.heap.objs.size + 1) sc.names (cloFrom X.env.cells sc.names [])
  have pg := hg s3 (upd H2 D (.dT [])) s3.heap.objs.size cl fp
  have pt := ht s3 (upd H2 D (.dT [])) s3.heap.objs.size cl fp
  have pk := hk s3 (upd H2 D (.dT [])) s3.heap.objs.size cl fp
  have pv := hv s3 (upd H2 D (.dT [])) s3.heap.objs.size cl fp
  show codeAny _ _ (.compStart (.DictComp kx vx [⟨tg, it, ifs, 0⟩] sc p) 0 (.ref ia) (.ref D) (compEnvC sc cl s3.heap.objs.size X.env)) (compPost (model X.prog X.w) X.A X.xe use Qf (.ref D) s3.heap.objs.size) { s3 with heap := pushCells (s3.heap.push { cls := .type "dict", data := .dict #[] }) sc.names }
  have nfp : ∀ b ∈ fp, (upd H2 D (.dT [])) b = none := fun b hb => (f3 b hb).1.1
  generalize ece : compEnvC sc cl s3.heap.objs.size X.env = ce at J4 pg pt pk pv ⊢
  have cL : ce.locals = s3.heap.objs.size := ece ▸ rfl
  generalize eH3 : upd H2 D (.dT []) = H3 at J3 J4 pg pt pk pv w0 nfp f3
  generalize e4 : ({ s3 with heap := pushCells (s3.heap.push { cls := .type "dict", data := .dict #[] }) sc.names } : Shared) = s4 at J4 ⊢
  have st4 : tn 0 s4.heap := T.keep _ _ _ st3 fun b _ o e => by rw [← e4]; exact pushCells_keeps _ _ _ _ (Heap.get?_push_of_some _ e)
  have stat : ∀ {σ' : L2.St} {H' : Hp} {s' : Shared}, Inv (X.blk s3 H3 sc ce fp) [] σ' H' s' → (∀ b ∈ fp, H' b = none) → ∀ b ∈ fp, FpOk (X.blk s3 H3 sc ce fp) [] H' b := fun I' hn b hb => ⟨hn b hb, (I'.ok.exf b hb).1, I'.ok.exfs b hb, .inl hb, fun x c e => (I'.ok.exf b hb).2 x c e, fun p hp => by cases hp⟩
  have walk : codeAny (model X.prog X.w) X.A (.compLoop (.DictComp kx vx [⟨tg, it, ifs, 0⟩] sc p) 0 (.ref ia) (.ref D) ce) (compPost (model X.prog X.w) X.A X.xe use Qf (.ref D) s3.heap.objs.size) s4 := by
    refine compLoop_anyD (fun n s' => ∃ i H', Inv (X.blk s3 H3 sc ce fp) [] (wipe σ (own.map (·.2))) H' s' ∧ tn i s'.heap ∧ (∀ b ∈ fp, H' b = none) ∧ W i n H') (fun n s5 ⟨i, H5, J5, st5, n5, w5⟩ => ?_) m0 ⟨0, H3, J4, st4, nfp, w0⟩
    rcases turn i n H5 w5 with ⟨stop, qq⟩ | ⟨go, Nx, hNx, step⟩
    · refine thnF (T.done (X.blk s3 H3 sc ce fp) rfl rfl rfl hc i [] s5 _ H5 (fun _ _ => False) J5 (stat J5 n5) st5 stop) fun r s6 ⟨er, J6⟩ => ?_
      subst er
      have J7 : Inv X pn σ H5 s6 := J3.call' (ch := fp) J6.os J6.base J6.hok J6.bare fun b hb => let z := (f3 b hb).1.2; ⟨z.2.2.1, z.1, z.2.2.2.1, z.2.2.2.2⟩
      have nC : H5 s3.heap.objs.size = none := cL ▸ (show H5 ce.locals = none from J6.free)
      obtain ⟨m, hn, _⟩ := J6.loc
      exact hR D s3.heap.objs.size s6 m H5 J7 qq (cL ▸ (show s6.heap.Ns ce.locals m from hn)) (J3.fpOk (Nat.le_refl _) nC)
    · refine thnF (T.item (X.blk s3 H3 sc ce fp) rfl rfl rfl hc i [] s5 _ H5 (fun _ _ => False) J5 (stat J5 n5) st5 go) fun r s6 ⟨u, er, h6⟩ => ?_
      subst er
      refine thnF h6 fun _ s7 ⟨x, H7, J7, r7, y7, st7, n7⟩ => ?_
      refine thnF (pg.run _ s7 _ H7 x u _ (J7.pinned (stat J7 n7) (T.obj _ _ st7)) r7 (step x H7 y7)) fun _ s8 ⟨σ8, H8, J8, w8, q8⟩ => thnF (pt.run _ s8 σ8 H8 _ J8 q8) fun b s9 ⟨H9, J9, q9⟩ => ?_
      have fin : ∀ {s' : Shared} {H' : Hp}, Inv (X.blk s3 H3 sc ce fp) ([] ++ pinsAt fp s7.heap) σ8 H' s' → Nx H' → ∃ m, m < n ∧ ∃ i H', Inv (X.blk s3 H3 sc ce fp) [] (wipe σ (own.map (·.2))) H' s' ∧ tn i s'.heap ∧ (∀ b ∈ fp, H' b = none) ∧ W i m H' := fun {s' H'} J' nx => by
        obtain ⟨m2, hm, w2⟩ := hNx H' nx
        have pin : ∀ b ∈ fp, ∀ o, s7.heap.get? b = some o → s'.heap.get? b = some o ∧ H' b = none := fun b hb o e => ⟨(J'.pin (b, o) (List.mem_append_right _ (List.mem_append_right _ (mem_pinsAt hb e)))).1, (J'.pin (b, o) (List.mem_append_right _ (List.mem_append_right _ (mem_pinsAt hb e)))).2.1⟩
        exact ⟨m2, hm, i + 1, H', (J'.unpinned (pins := [])).weak (by rw [← w8, wipe_length]) (fun j v e => (wipe_some (w8 ▸ e)).1), T.keep _ _ _ st7 fun b hb o e => (pin b hb o e).1, fun b hb => let ⟨o, e, _⟩ := T.obj _ _ st7 b hb; (pin b hb o e).2, w2⟩
      unfold kDT at q9
      cases b with
      | false =>
        rw [if_neg Bool.false_ne_true] at q9
        rw [if_neg Bool.false_ne_true]; exact fin J9 q9
      | true =>
        rw [if_pos rfl] at q9
        rw [if_pos rfl]; refine thnF (pk.run _ s9 σ8 H9 _ J9 q9) fun z s10 ⟨yk, H10, J10, r10, q10⟩ => thnF (pv.run _ s10 σ8 H10 _ J10 q10) fun z2 s11 ⟨yv, H11, J11, r11, kvs, k, c, ek, hc11, hD11, hz11, nx⟩ => ?_
        subst ek
        cases r10
        exact dt_set (X := X.blk s3 H3 sc ce fp) hu J11 hD11 hc11 hz11 r11 fun s12 J12 => fin J12 nx
  exact codeAny_compStart_dict walk (T.self X.A 0 _ _ _ st4 walk)
theorem ps_setDt {i : Nat} {y : Str} {py : Pos} {kx vx tg it : Expr} {ifs : List Expr} {sc : Scope} {own : List (Str × Nat)} {p sp : Pos} {wi : TI} {g : TG} {tt : TT} {tk tv : TE} (hu : X.A.units + 1 < cLine) (hc : X.calm = true) (hN : X.N.Nodup) (hy : X.N[i]? = some y) (hl : X.env.scope.names.lookup y = some .local)
    (hw : swapsWith (.DictComp kx vx [⟨tg, it, ifs, 0⟩] sc p) (some (.Name y py)) sp.line X.env = pure true) (hi : PI X tg it wi) (ok : BlkOk X.N X.env.scope sc own)
    (hg : ∀ (s : Shared) (H : Hp) (C : Addr) (cl : List (Str × Addr)) (fp : List Addr), PG (X.blk s H sc (compEnvC sc cl C X.env) fp) tg g) (ht : ∀ (s : Shared) (H : Hp) (C : Addr) (cl : List (Str × Addr)) (fp : List Addr), PTs (X.blk s H sc (compEnvC sc cl C X.env) fp) ifs tt)
    (hk : ∀ (s : Shared) (H : Hp) (C : Addr) (cl : List (Str × Addr)) (fp : List Addr), PE (X.blk s H sc (compEnvC sc cl C X.env) fp) kx tk)
    (hv : ∀ (s : Shared) (H : Hp) (C : Addr) (cl : List (Str × Addr)) (fp : List Addr), PE (X.blk s H sc (compEnvC sc cl C X.env) fp) vx tv) (hs : ∀ x, foldedSetIterable it X.env x = pure x := by intro _; rfl) :
    PS X (.Assign [.Name y py] (.DictComp kx vx [⟨tg, it, ifs, 0⟩] sc p) sp) (tAsg (tDt wi g tt tk tv (own.map (·.2))) (gName i)) := by
  refine ⟨fun pn s σ H D J q => ?_⟩
  rw [exec_Assign_Name_used _ _ _ _ hw]
  refine wpAny_bind (wpAny_standAt (wpAny_bind ?_))
  show wpAny _ X.A (do let _ ← comprehension (.DictComp kx vx [⟨tg, it, ifs, 0⟩] sc p) sc X.env (firstIterPos [⟨tg, it, ifs, 0⟩] p) newDict false (eval it X.env) (some (assign (.Name y py) X.env))) _ _ s
  have q0 : tDt wi g tt tk tv (own.map (·.2)) σ H (fun x H1 => gName i x σ H1 D.nx) := q
  refine wpAny_bind (thn (dt_core (Qf := fun _ z => SP X pn D .next z) hu hc hN J hi ok hg ht hk hv hs q0 fun L C z m H' J' q1 nC f => ?_) fun _ z hz => wpAny_pure (wpAny_pure hz))
  show wpAny _ _ (assign (.Name y py) X.env (.ref L)) _ _ _
  refine wpAny_assign_Name (store_ok2 (v := V.ref L) J' hN hy (.inl hl) rfl (fun z2 J2 ⟨a, sb, ha⟩ => ?_) (.inr hl))
  obtain ⟨a0, a1, a2, a3, a4, a5⟩ := f
  have nCa : C ≠ a := by
    rcases ha with e | e
    · rw [e]; exact a1
    · exact fun e' => a4 y a e e'.symm
  refine ⟨m, nC.sameBut sb nCa, fun h3 sb3 => ?_⟩
  exact ⟨_, H', J2.turned (t' := z2.toks) (fun b o hb e => (sb3.2 b hb).trans e) a0 a1 a3 a4 a5, q1⟩
end
section
variable {K : PySem.W.Frag} {H : Hp} {g : TG} {tt : TT} {tk tv : TE} {ta : TA} {vs : List Nat} {σ σ0 σ2 : L2.St} {Q : VK} {a D : Addr} {xs : List V} {Nx : Hp → Prop} {y z : V}
def kDtE (K : PySem.W.Frag) (g : TG) (tt : TT) (tk tv : TE) (vs : List Nat) (σ : L2.St) (Q : VK) : List V → Hp → Prop := fun us H1 => ∃ a xs, us = [.ref a] ∧ SqT K H1 a xs ∧ DtLoop (IteT K a) g tt tk tv vs σ Q H1
def kDT1 (tv : TE) (D : Addr) (Nx : Hp → Prop) (σ2 : L2.St) : VK := fun y H4 => tv σ2 H4 fun z H5 => ∃ kvs k c, y = .ref c ∧ H5 c = some (.tup (kvT k)) ∧ H5 D = some (.dT kvs) ∧ kvs.length < sizeLine ∧ Nx (upd H5 D (.dT (putK kvs k z)))
def kDT2 (D : Addr) (Nx : Hp → Prop) (y : V) : VK := fun z H5 => ∃ kvs k c, y = .ref c ∧ H5 c = some (.tup (kvT k)) ∧ H5 D = some (.dT kvs) ∧ kvs.length < sizeLine ∧ Nx (upd H5 D (.dT (putK kvs k z)))
instance : Step (tDt (iEnT K ta) g tt tk tv vs σ H Q) (ta σ H (kDtE K g tt tk tv vs σ Q)) := ⟨fun h => h⟩
instance [w : Wp vs σ2 σ0] : Step (kDTB σ0 vs tt tk tv D Nx σ2 H) (tt σ2 H (kDT tk tv D Nx σ2)) := ⟨fun h => ⟨w.h, h⟩⟩
instance : Step (kDT tk tv D Nx σ2 true H) (tk σ2 H (kDT1 tv D Nx σ2)) := ⟨fun h => iteT h⟩
instance : Step (kDT1 tv D Nx σ2 y H) (tv σ2 H (kDT2 D Nx y)) := ⟨fun h => h⟩
theorem i_dtE [w : Wp vs σ σ0] (E : Nat → List (List Key × V)) (e0 : E 0 = []) (hx : SqT K H a xs)
    (hs : ∀ D i x T H1, H D = none → xs[i]? = some x → Same H H1 → H1 D = some (.dT (E i)) → H1 T = some (.tup [.int (i : Nat), x]) → T ≠ D → ∀ Nx : Hp → Prop, (∀ H2, Same H H2 → H2 D = some (.dT (E (i + 1))) → Nx H2) → g (.ref T) σ0 H1 (kDTB σ0 vs tt tk tv D Nx))
    (q : ∀ p H', H p = none → Same H H' → H' p = some (.dT (E xs.length)) → Q (.ref p) H') : kDtE K g tt tk tv vs σ Q [.ref a] H := by
  have w' := w.h
  subst w'
  refine ⟨a, xs, rfl, hx, fun D hD => ⟨fun i m H' => m = xs.length - i ∧ i ≤ xs.length ∧ Same H H' ∧ H' D = some (.dT (E i)), ⟨xs.length, by simp, Nat.zero_le _, same_new hD, by rw [e0]; exact upd_same⟩, ?_⟩⟩
  rintro i m H' ⟨rfl, hi, s, e⟩
  have hq := stup s hx
  by_cases hlt : i < xs.length
  · refine .inr ⟨⟨xs, xs[i], hq, by simp [hlt]⟩, fun H2 => Same H H2 ∧ H2 D = some (.dT (E (i + 1))), fun H2 p' => ⟨xs.length - (i + 1), by omega, rfl, hlt, p'⟩, fun x H2 y => ?_⟩
    obtain ⟨T, x, rfl, nT, rfl, y⟩ := y
    have nTD : T ≠ D := (ne_of_none e nT).symm
    exact hs D i x T _ hD (y xs hq) (s.trans (same_new nT)) (by rw [upd_ne nTD.symm]; exact e) upd_same nTD _ fun H2 s2 e2 => ⟨s2, e2⟩
  · have ei : i = xs.length := by omega
    subst ei
    exact .inl ⟨⟨xs, hq, rfl⟩, q D H' hD s e⟩
end
end Esc

/-! Dicts: d.get(k, x), d[k] = v. -/
namespace Esc
open PySem PySem.Spec PyProof.Rows L2
def kGetA (Q : VK) (σ : L2.St) (ty tx : TE) : VK := fun x H1 => ∃ a, x = .ref a ∧ IsD H1 a ∧ ty σ H1 fun y H2 => tx σ H2 fun z H3 => ∃ o, DGet H3 a y o ∧ Q (o.getD z) H3
def kGetB (Q : VK) (σ : L2.St) (tx : TE) (a : Addr) : VK := fun y H2 => tx σ H2 fun z H3 => ∃ o, DGet H3 a y o ∧ Q (o.getD z) H3
def kGetC (Q : VK) (a : Addr) (y : V) : VK := fun z H3 => ∃ o, DGet H3 a y o ∧ Q (o.getD z) H3
def kPutA (nx : L2.St → Hp → Prop) (σ : L2.St) (td ty : TE) : VK := fun v H1 => td σ H1 fun x H2 => ty σ H2 fun y H3 => ∃ a H4, x = .ref a ∧ DPut H3 a y v H4 ∧ nx σ H4
def kPutB (nx : L2.St → Hp → Prop) (σ : L2.St) (ty : TE) (v : V) : VK := fun x H2 => ty σ H2 fun y H3 => ∃ a H4, x = .ref a ∧ DPut H3 a y v H4 ∧ nx σ H4
def kPutC (nx : L2.St → Hp → Prop) (σ : L2.St) (v x : V) : VK := fun y H3 => ∃ a H4, x = .ref a ∧ DPut H3 a y v H4 ∧ nx σ H4
section
variable {Q : VK} {σ : L2.St} {td ty tx tv : TE} {H : Hp} {nx : L2.St → Hp → Prop} {rt : VK} {bk ct : L2.St → Hp → Prop} {x y z v : V} {a : Addr}
instance : Step (tDGet2 td ty tx σ H Q) (td σ H (kGetA Q σ ty tx)) := ⟨fun h => h⟩
instance : Step (kGetB Q σ tx a y H) (tx σ H (kGetC Q a y)) := ⟨fun h => h⟩
instance : Step (sDPut td ty tv ⟨nx, rt, bk, ct⟩ σ H) (tv σ H (kPutA nx σ td ty)) := ⟨fun h => h⟩
instance : Step (kPutA nx σ td ty v H) (td σ H (kPutB nx σ ty v)) := ⟨fun h => h⟩
instance : Step (kPutB nx σ ty v x H) (ty σ H (kPutC nx σ v x)) := ⟨fun h => h⟩
theorem i_getA (d : IsD H a) (q : ty σ H (kGetB Q σ tx a)) : kGetA Q σ ty tx (.ref a) H := ⟨a, rfl, d, q⟩
theorem i_getC {o : Option V} (g : DGet H a y o) (q : Q (o.getD z) H) : kGetC Q a y z H := ⟨o, g, q⟩
theorem isD_T {kvs : List (List Key × V)} (h : H a = some (.dT kvs)) : IsD H a := .inr ⟨kvs, .inl h⟩
theorem isD_K {kvs : List (Key × V)} (h : H a = some (.dK kvs)) : IsD H a := .inl ⟨kvs, .inl h⟩
theorem i_putT {kvs : List (List Key × V)} {k : List Key} {b : Addr} (h : H a = some (.dT kvs)) (hb : H b = some (.tup (k.map kV))) (hl : kvs.length < sizeLine) (q : nx σ (upd H a (.dT (putK kvs k v)))) : kPutC nx σ v (.ref a) (.ref b) H := ⟨a, _, rfl, .t h hb hl, q⟩
theorem i_putK {kvs : List (Key × V)} {k : Key} (h : H a = some (.dK kvs)) (hl : kvs.length < sizeLine) (q : nx σ (upd H a (.dK (putK kvs k v)))) : kPutC nx σ v (.ref a) (kV k) H := ⟨a, _, rfl, .k h hl, q⟩
theorem i_newT {Q : VK} (q : ∀ p H', H p = none → Same H H' → H' p = some (.dT []) → Q (.ref p) H') : tDNewT σ H Q := fun p hp => q p _ hp (same_new hp) upd_same
theorem i_newK {Q : VK} (q : ∀ p H', H p = none → Same H H' → H' p = some (.dK []) → Q (.ref p) H') : tDNewK σ H Q := fun p hp => q p _ hp (same_new hp) upd_same
end
/-! ### lists of ints as keys, addresses as values -/
def ks (c : List Int) : List Key := c.map Sum.inl
theorem ks_kv (c : List Int) : kvT (ks c) = c.map V.int := by
  unfold kvT ks
  rw [List.map_map]
  rfl
theorem ks_kV (c : List Int) : (ks c).map kV = c.map V.int := by
  unfold ks
  rw [List.map_map]
  rfl
theorem ks_inj {c d : List Int} (h : ks c = ks d) : c = d := (List.map_inj_right fun _ _ z => Sum.inl.inj z).mp h
end Esc

/-! Objects: attributes, methods, making. -/
namespace Esc
open PySem PySem.Spec PyProof.Rows L2
/-- a class of the program: what the walk asks of it -/
structure Clx (K : PySem.W.Frag) (mg : Str → Option Value) (x : Str) (C : Addr) (attrs : List Str) : Prop where
  cl : Cls K C
  mgC : mg x = some (.ref C)
  mkc : PySem.W.makesIn K C = true
  kc : PySem.W.keepIn K (.ref C) = true
  na : ∀ f ∈ attrs, NoAttr K C f
/-- a method of it -/
structure Dm (K : PySem.W.Frag) (C : Addr) (m qual : Str) (st : Stmt) (ps : List Str) : Prop where
  ex : ∃ f fd, Meth K C m f ∧ C8.Fun K m qual st f fd ∧ Binds K fd ps []
section
variable {P : Program} {w : World} {K : PySem.W.Frag} {mg : Str → Option Value} {base : Heap}
theorem Dm.met {C : Addr} {x m qual : Str} {attrs : List Str} {st : Stmt} {N ps : List Str} {k : Nat} {sp : Sp} (d : Dm K C m qual st ps) (T : Clx K mg x C attrs) (S : FnScope N ps (C8.fnScope st)) (len : ∀ vs H Q E, sp vs H Q E → vs.length = ps.length)
    (hbody : ∀ (f : Addr) (cdv : Value) (A : Around) (outer : List Env) (s : Shared) (H : Hp) (vs : List V) (Q : VK) (E : XK), Room k (A.deeper (envOfC qual (C8.fnScope st) s.heap.objs.size f cdv)) → sp vs H Q E →
      ∃ t, PSs (cxOf C8.CX0 P w K mg base N qual (C8.fnScope st) f cdv A outer s H E).nox (C8.fnBody st) t ∧ t { nx := fun _ H' => Q .non H', rt := Q } (start N vs) H) : C8.Met P w K mg base (k + 1) C m sp [] := by
  obtain ⟨f, fd, me, F, b⟩ := d.ex
  exact C8.met0 T.cl me F b S len fun cdv A outer s H vs Q E hr h => hbody f cdv A outer s H vs Q E hr h
theorem Dm.mak {C : Addr} {x qual : Str} {attrs : List Str} {st : Stmt} {N ps : List Str} {k : Nat} {sp : Sp} (d : Dm K C "__init__" qual st ps) (T : Clx K mg x C attrs) (S : FnScope N ps (C8.fnScope st)) (len : ∀ vs H Q E, sp vs H Q E → vs.length = ps.length)
    (hbody : ∀ (f : Addr) (cdv : Value) (A : Around) (outer : List Env) (s : Shared) (H : Hp) (vs : List V) (Q : VK) (E : XK), Room k (A.deeper (envOfC qual (C8.fnScope st) s.heap.objs.size f cdv)) → sp vs H Q E →
      ∃ t, PSs (cxOf C8.CX0 P w K mg base N qual (C8.fnScope st) f cdv A outer s H E).nox (C8.fnBody st) t ∧ t { nx := fun _ H' => Q .non H', rt := Q } (start N vs) H) : C8.Mak P w K mg base (k + 1) x C sp [] := by
  obtain ⟨f, fd, me, F, b⟩ := d.ex
  exact C8.mak0 ⟨T.mkc, me.at_, me.fn, T.kc⟩ T.mgC F b .nil S len fun cdv A outer s H vs Q E hr h => hbody f cdv A outer s H vs Q E hr h
end
def kFld (K : PySem.W.Frag) (f : Str) (Q : VK) : VK := fun x H1 => ∃ a C dx fs v, x = .ref a ∧ H1 a = some (.ins C dx fs) ∧ Cls K C ∧ NoAttr K C f ∧ fs.lookup f = some v ∧ Q v H1
def kStA (K : PySem.W.Frag) (f : Str) (nx : L2.St → Hp → Prop) (σ : L2.St) (ta : TE) : VK := fun y H1 => ta σ H1 fun x H2 => ∃ a C dx fs, x = .ref a ∧ H2 a = some (.ins C dx fs) ∧ Cls K C ∧ NoAttr K C f ∧ fs.length < 1000 ∧ nx σ (upd H2 a (.ins C dx (putF f y fs)))
def kStB (K : PySem.W.Frag) (f : Str) (nx : L2.St → Hp → Prop) (σ : L2.St) (y : V) : VK := fun x H2 => ∃ a C dx fs, x = .ref a ∧ H2 a = some (.ins C dx fs) ∧ Cls K C ∧ NoAttr K C f ∧ fs.length < 1000 ∧ nx σ (upd H2 a (.ins C dx (putF f y fs)))
def kMet (C : Addr) (m : Str) (sp : Sp) (E : XK) (t : TA) (σ : L2.St) (Q : VK) : VK := fun x H1 => ∃ a dx fs, x = .ref a ∧ H1 a = some (.ins C dx fs) ∧ fs.lookup m = none ∧ t σ H1 fun vs H2 => sp (x :: (vs ++ [])) H2 Q E
def kMeA (sp : Sp) (E : XK) (x : V) (Q : VK) : List V → Hp → Prop := fun vs H2 => sp (x :: vs) H2 Q E
def kMak (C : Addr) (sp : Sp) (E : XK) (Q : VK) : List V → Hp → Prop := fun vs H1 => ∀ x dx, H1 x = none → H1 dx = none → dx ≠ x → sp (.ref x :: (vs ++ [])) (upd (upd H1 dx (.own x)) x (.ins C dx [])) (fun v H2 => v = .non ∧ Q (.ref x) H2) E
section
variable {K : PySem.W.Frag} {H : Hp} {Q : VK} {σ : L2.St} {ta tv : TE} {t : TA} {f m x : Str} {nx : L2.St → Hp → Prop} {rt : VK} {bk ct : L2.St → Hp → Prop} {C a dx : Addr} {sp : Sp} {E : XK} {v y : V} {fs : List (Str × V)} {mg : Str → Option Value} {attrs : List Str} {vs : List V}
instance : Step (tFld K ta f σ H Q) (ta σ H (kFld K f Q)) := ⟨fun h => h⟩
instance : Step (sFld K ta tv f ⟨nx, rt, bk, ct⟩ σ H) (tv σ H (kStA K f nx σ ta)) := ⟨fun h => h⟩
instance : Step (kStA K f nx σ ta y H) (ta σ H (kStB K f nx σ y)) := ⟨fun h => h⟩
instance : Step (tMeth C m sp [] E ta t σ H Q) (ta σ H (kMet C m sp E t σ Q)) := ⟨fun h => h⟩
instance : Step (tMake C sp [] E t σ H Q) (t σ H (kMak C sp E Q)) := ⟨fun h => h⟩
instance : Step (kMeA sp E v Q vs H) (sp (v :: vs) H Q E) := ⟨fun h => h⟩
theorem i_fld (T : Clx K mg x C attrs) (hf : f ∈ attrs) (h : H a = some (.ins C dx fs)) (l : fs.lookup f = some v) (q : Q v H) : kFld K f Q (.ref a) H := ⟨a, C, dx, fs, v, rfl, h, T.cl, T.na f hf, l, q⟩
theorem i_st (T : Clx K mg x C attrs) (hf : f ∈ attrs) (h : H a = some (.ins C dx fs)) (hl : fs.length < 1000) (q : nx σ (upd H a (.ins C dx (putF f y fs)))) : kStB K f nx σ y (.ref a) H := ⟨a, C, dx, fs, rfl, h, T.cl, T.na f hf, hl, q⟩
theorem i_met (h : H a = some (.ins C dx fs)) (l : fs.lookup m = none) (q : t σ H (kMeA sp E (.ref a) Q)) : kMet C m sp E t σ Q (.ref a) H := by
  refine ⟨a, dx, fs, rfl, h, l, ?_⟩
  have e0 : (fun (vs : List V) (H2 : Hp) => sp (.ref a :: (vs ++ [])) H2 Q E) = kMeA sp E (.ref a) Q := by
    funext vs H2
    rw [List.append_nil]
    rfl
  rw [e0]
  exact q
theorem i_mak (q : ∀ p dx H1, H p = none → H dx = none → dx ≠ p → Same H H1 → H1 p = some (.ins C dx []) → H1 dx = some (.own p) → sp (.ref p :: vs) H1 (fun v H2 => v = .non ∧ Q (.ref p) H2) E) : kMak C sp E Q vs H := fun p dx hp hd n => by
  rw [List.append_nil]
  refine q p dx _ hp hd n (fun b o e => ?_) upd_same ?_
  · rw [upd_ne (ne_of_none e hp), upd_ne (ne_of_none e hd)]
    exact e
  · rw [upd_ne n, upd_same]
end
end Esc

/-! Heaps without what stands at some places. -/
namespace Esc
open PySem PySem.Spec PyProof.Rows L2
def hid (S : List Addr) (H : Hp) : Hp := fun a => if a ∈ S then none else H a
theorem hid_in {S : List Addr} {a : Addr} {H : Hp} (h : a ∈ S) : hid S H a = none := by
  unfold hid
  rw [if_pos h]
theorem hid_out {S : List Addr} {a : Addr} {H : Hp} (h : a ∉ S) : hid S H a = H a := by
  unfold hid
  rw [if_neg h]
theorem hid_of {S : List Addr} {a : Addr} {H : Hp} {o : HO} (e : hid S H a = some o) : a ∉ S ∧ H a = some o := by
  by_cases h : a ∈ S
  · rw [hid_in h] at e
    cases e
  · rw [hid_out h] at e
    exact ⟨h, e⟩
theorem hid_at {S : List Addr} {a : Addr} {H : Hp} {o : HO} (h : a ∉ S) (e : H a = some o) : hid S H a = some o := (hid_out h).trans e
theorem hid_same {S : List Addr} {H : Hp} : Same (hid S H) H := fun b o e => (hid_of e).2
theorem hid_up {S : List Addr} {H H1 : Hp} (s : Same (hid S H) H1) : Same (hid S H) (hid S H1) := fun b o e => hid_at (hid_of e).1 (s b o e)
theorem hid_mono {S T : List Addr} {H H1 : Hp} (h : ∀ a ∈ S, a ∈ T) (s : Same (hid S H) H1) : Same (hid T H) H1 := fun b o e => s b o (hid_at (fun m => (hid_of e).1 (h b m)) (hid_of e).2)
theorem hid_pure {S : List Addr} {H H1 : Hp} (s : Same H H1) : Same (hid S H) H1 := fun b o e => s b o (hid_of e).2
theorem hid_put {S : List Addr} {p : Addr} {H : Hp} {o : HO} (h : p ∈ S) : Same (hid S H) (upd H p o) := fun b u e => (upd_ne (fun z => (hid_of e).1 (by rw [z]; exact h))).trans (hid_of e).2
theorem hid_tr {S : List Addr} {H H1 H2 : Hp} (s : Same (hid S H) H1) (t : Same (hid S H1) H2) : Same (hid S H) H2 := fun b o e => t b o (hid_up s b o e)
theorem hid_one {d : Addr} {H H1 : Hp} (s : Same (hide d H) H1) : Same (hid [d] H) H1 := fun b o e => by
  have z := hid_of e
  exact s b o ((hide_ne fun q => z.1 (by rw [q]; exact List.mem_cons_self)).trans z.2)
theorem one_hid {d : Addr} {H H1 : Hp} (s : Same (hid [d] H) H1) : Same (hide d H) H1 := fun b o e => by
  have nb : b ≠ d := fun z => by
    rw [z, hide_d] at e
    cases e
  rw [hide_ne nb] at e
  exact s b o (hid_at (by simpa using nb) e)
theorem hid_dice {d : Addr} {S : List Addr} {H H1 : Hp} (h : d ∈ S) (s : Same (hide d H) H1) : Same (hid S H) H1 := hid_mono (fun a m => by rw [List.mem_singleton.mp m]; exact h) (hid_one s)
/-- places that are new, or stood among them, may join; others may leave -/
theorem hid_swap {S T : List Addr} {H H1 : Hp} (s : Same (hid S H) H1) (h : ∀ a ∈ T, a ∈ S ∨ H a = none) : Same (hid S H) (hid T H1) := fun b o e => by
  have z := hid_of e
  refine hid_at (fun m => ?_) (s b o e)
  rcases h b m with k | k
  · exact z.1 k
  · rw [z.2] at k
    cases k
theorem hid_free {S : List Addr} {p : Addr} {H H1 : Hp} (s : Same (hid S H) H1) (n : p ∉ S) (h : H1 p = none) : H p = none := by
  have z := s.free h
  rw [hid_out n] at z
  exact z
/-! ### None, or a list of ints -/
def OptAt (H : Hp) (v : V) : Option (List Int) → Prop
  | none => v = .non
  | some b => ∃ a, v = .ref a ∧ H a = some (.lst (b.map V.int))
theorem OptAt.same {H H' : Hp} (s : Same H H') {v : V} : ∀ {o : Option (List Int)}, OptAt H v o → OptAt H' v o
  | none, h => h
  | some _, ⟨a, e, k⟩ => ⟨a, e, s _ _ k⟩
def OptsAt (H : Hp) : List V → List (Option (List Int)) → Prop
  | [], [] => True
  | v :: vs, o :: os => OptAt H v o ∧ OptsAt H vs os
  | _, _ => False
theorem OptsAt.same {H H' : Hp} (s : Same H H') : ∀ {vs : List V} {os : List (Option (List Int))}, OptsAt H vs os → OptsAt H' vs os
  | [], [], _ => trivial
  | _ :: _, _ :: _, ⟨h, r⟩ => ⟨h.same s, OptsAt.same s r⟩
theorem OptsAt.len {H : Hp} : ∀ {vs : List V} {os : List (Option (List Int))}, OptsAt H vs os → vs.length = os.length
  | [], [], _ => rfl
  | _ :: _, _ :: _, ⟨_, r⟩ => congrArg (· + 1) r.len
theorem OptsAt.app {H : Hp} : ∀ {vs : List V} {os : List (Option (List Int))} {us : List V} {ps : List (Option (List Int))}, OptsAt H vs os → OptsAt H us ps → OptsAt H (vs ++ us) (os ++ ps)
  | [], [], _, _, _, h => h
  | _ :: vs, _ :: os, us, ps, ⟨h, r⟩, h2 => ⟨h, OptsAt.app (vs := vs) (os := os) (us := us) (ps := ps) r h2⟩
theorem OptsAt.get {H : Hp} : ∀ {vs : List V} {os : List (Option (List Int))} {i : Nat} {v : V}, OptsAt H vs os → vs[i]? = some v → ∃ o, os[i]? = some o ∧ OptAt H v o
  | [], _, _, _, _, e => by simp at e
  | _ :: _, o :: _, 0, v, ⟨h, _⟩, e => by
    cases e
    exact ⟨o, rfl, h⟩
  | _ :: vs, _ :: os, i + 1, v, ⟨_, r⟩, e => OptsAt.get (vs := vs) (os := os) (i := i) r e
theorem OptsAt.take {H : Hp} : ∀ {vs : List V} {os : List (Option (List Int))} (n : Nat), OptsAt H vs os → OptsAt H (vs.take n) (os.take n)
  | [], [], n, h => by simpa using h
  | _ :: _, _ :: _, 0, _ => trivial
  | _ :: _, _ :: _, n + 1, ⟨h, r⟩ => ⟨h, r.take n⟩
theorem OptsAt.drop {H : Hp} : ∀ {vs : List V} {os : List (Option (List Int))} (n : Nat), OptsAt H vs os → OptsAt H (vs.drop n) (os.drop n)
  | [], [], n, h => by simpa using h
  | _ :: _, _ :: _, 0, h => h
  | _ :: vs, _ :: os, n + 1, ⟨_, r⟩ => OptsAt.drop (vs := vs) (os := os) n r
/-! ### ways among tuples -/
theorem sqt_tp {K : PySem.W.Frag} {H : Hp} {a : Addr} {xs : List V} (h : SqT K H a xs) : SqT K (tp H) a xs := by
  rcases h with (h | ⟨o, h⟩) | h
  · exact .inl (.inl (tp_all h rfl))
  · exact .inl (.inr ⟨o, tp_all h rfl⟩)
  · exact .inr h
theorem tupd_tp {H : Hp} {a : Addr} {xs : List V} (h : TupD H a xs) : TupD (tp H) a xs := by
  obtain ⟨o, n, e⟩ := h
  exact ⟨o, n, tp_all e rfl⟩
theorem TupsAt.tp {K : PySem.W.Frag} {H : Hp} : ∀ {as : List Addr} {cs : List (List Int)}, TupsAt K H as cs → TupsAt K (Esc.tp H) as cs
  | [], [], _ => trivial
  | _ :: _, _ :: _, ⟨h, r⟩ => ⟨tp_all h rfl, TupsAt.tp r⟩
theorem PairsAt.tp {K : PySem.W.Frag} {H : Hp} : ∀ {as : List Addr} {cs : List (Int × Int)}, PairsAt K H as cs → PairsAt K (Esc.tp H) as cs
  | [], [], _ => trivial
  | _ :: _, _ :: _, ⟨h, r⟩ => ⟨sqt_tp h, PairsAt.tp r⟩
theorem KindAt.tp {K : PySem.W.Frag} {H : Hp} {p : Addr} {t e : Int} : ∀ {k : Kind}, KindAt K H p t e k → KindAt K (Esc.tp H) p t e k
  | .codes _, ⟨c, as, h1, h2, h3⟩ => ⟨c, as, sqt_tp h1, tupd_tp h2, h3.tp⟩
  | .escapes _ _, ⟨c, as, h1, h2, h3⟩ => ⟨c, as, sqt_tp h1, sqt_tp h2, h3.tp⟩
  | .counts _, h => sqt_tp h
  | .ranks, h => sqt_tp h
theorem TurnAt.tp {K : PySem.W.Frag} {H : Hp} : ∀ {ts : List (Addr × List Int)} {v u : V}, TurnAt K H ts v u → TurnAt K (Esc.tp H) ts v u
  | [], _, _, h => h
  | (_, _) :: _, _, _, ⟨p, x, e, h1, h2, h3⟩ => ⟨p, x, e, sqt_tp h1, tupd_tp h2, h3.tp⟩
theorem WayAt.tp {K : PySem.W.Frag} {H : Hp} {v : V} {w : Way} (h : WayAt K H v w) : WayAt K (Esc.tp H) v w := by
  obtain ⟨tas, p, a, b, c⟩ := h
  exact ⟨tas, p, a, b.tp, c.tp⟩
theorem tp_hid {S : List Addr} {H H' : Hp} (h : ∀ a ∈ S, ∀ o, H a = some o → isT o = false) (s : Same (hid S H) H') : Same (tp H) (tp H') := tp_up fun b o e => by
  have z := tp_of e
  refine s b o (hid_at (fun m => ?_) z.2)
  have y := h b m o z.2
  rw [z.1] at y
  cases y
end Esc

/-! The pairs of a dict whose keys are tuples, one after another. -/
namespace Esc
open PySem PySem.W PySem.Calls PyProof.Rows PyProof.V PySem.Spec L2
section
variable {X : Cx} {pins : List (Addr × Obj)} {σ : L2.St} {H : Hp} {s : Shared} {d : Addr} {o : Obj}
theorem frzTv {kvs : List (List Key × V)} (I : Inv X pins σ H s) (h : H d = some (.frz o (.dT kvs))) :
    (d == sysModules) = false ∧ s.heap.get? d = some o ∧ o.ExactDict ∧ ∃ (es : Array DictEntry) (ep : Nat), o.data = .dict es ep ∧ es.size = kvs.length ∧
      ∀ (i : Nat) (k : List Key) (v : V), kvs[i]? = some (k, v) → ∃ (en : DictEntry) (q : Addr), es[i]? = some en ∧ en.key = .ref q ∧ H q = some (.tup (k.map kV)) ∧ RelV v en.val := by
  obtain ⟨hd, z, hs, xs, pr, o', es, ep, ho, hx, hdt, he, _⟩ := I.hok d _ h
  rw [hd] at ho
  cases ho
  refine ⟨hs, hd, hx, es, ep, hdt, ?_, fun i k v e => ?_⟩
  · have l1 : es.size = xs.length := size_of_entries he
    have l2 : kvs.length = xs.length := Paired.length pr
    omega
  · obtain ⟨b, hb, e1, e2, e3⟩ := paired_get pr e
    have q := entry_at he i
    rw [hb] at q
    exact ⟨_, b.2.1, q, rfl, e2, e3⟩
end
/-- the pairs of the locked dict at d, each a new tuple -/
def ItiT (d : Addr) (o : Obj) (kvs : List (List Key × V)) : It :=
  ⟨fun i H => H d = some (.frz o (.dT kvs)) ∧ i < kvs.length, fun i H x H' => ∃ (T : Addr) (k : List Key) (v : V) (q : Addr), kvs[i]? = some (k, v) ∧ x = .ref T ∧ H T = none ∧ H q = some (.tup (k.map kV)) ∧ H' = upd H T (.tup [.ref q, v]), fun i H => H d = some (.frz o (.dT kvs)) ∧ kvs.length ≤ i⟩
section
variable {P : Program} {w : World} {K : PySem.W.Frag} {d : Addr} {o : Obj} {es : Array DictEntry} {ep : Nat}
theorem turn_itemsT {kvs : List (List Key × V)} {elts : List Expr} {kk : Nat} {tpos : Pos} (it : Addr) (hod : o.data = .dict es ep) :
    Turn P w K (.Tuple elts kk tpos) (ItiT d o kvs) [it] it (fun i h => ∃ ok ov, IsItemIter h it d i kvs.length ep ok ov) where
  mem := by simp
  obj := fun i h st b hb => by
    have e : b = it := by simpa using hb
    subst e
    obtain ⟨ok, ov, e⟩ := st
    exact ⟨_, e, fun v z => nomatch z⟩
  keep := fun i h h' st k => let ⟨ok, ov, e⟩ := st; ⟨ok, ov, k it (by simp) _ e⟩
  item := by
    intro X hP hw hK hc i pins s σ H E I hf st hg
    subst hP hw hK
    obtain ⟨hd, hi⟩ := hg
    obtain ⟨hs, hgd, hx, es', ep', hdt, hsz, ent⟩ := frzTv I hd
    obtain ⟨rfl, rfl⟩ := dict_ep hod hdt
    obtain ⟨⟨k, v⟩, hkv⟩ : ∃ p, kvs[i]? = some p := ⟨kvs[i], List.getElem?_eq_getElem hi⟩
    obtain ⟨en, q, hen, hkey, hq, rv⟩ := ent i k v hkv
    obtain ⟨hi2, een⟩ := Array.getElem?_eq_some_iff.mp hen
    obtain ⟨ok, ov, he⟩ := st
    rw [← hsz] at he
    have hlt : it < s.heap.objs.size := Heap.lt_size he
    refine DT.nextI he ⟨o, hgd, hx, hdt⟩ hi2 fun h' ho hT hz hk => ?_
    rw [een, hkey] at ho hT
    refine ⟨_, rfl, wpAny_letOwnedTupleGo_items (s := { s with heap := h' }) ho fun h'' he' sb => ?_⟩
    have hT2 : h''.get? s.heap.objs.size = some { cls := .type "tuple", data := .seq #[.ref q, en.val] } := (sb.2 _ (Nat.ne_of_gt hlt)).trans hT
    have new : ObjOk X.prog X.w (upd H s.heap.objs.size (.tup [.ref q, v])) h'' s.heap.objs.size (.tup [.ref q, v]) :=
      ⟨by show 2 ≤ sizeLine; decide, [.ref q, en.val], .cons rfl (.cons rv .nil), ⟨_, hT2, rfl, _, rfl⟩⟩
    have I1 : Inv X pins σ (upd H s.heap.objs.size (.tup [.ref q, v])) { s with heap := h'' } :=
      I.turnedNew (t' := s.toks) (ch := [it]) (fun b ob hb e => (sb.2 b (by simpa using hb)).trans (hk b ob (by simpa using hb) e)) hf (Nat.le_refl _) new
    refine ⟨.ref s.heap.objs.size, _, I1, rfl, ⟨_, k, v, q, hkv, rfl, I.hok.fresh (Nat.le_refl _), hq, rfl⟩, ⟨.ref q, en.val, ?_⟩, fun b hb => ?_⟩
    · rw [← hsz]; exact he'
    · have e : b = it := by simpa using hb
      rw [e, upd_ne (Nat.ne_of_lt hlt)]
      exact (hf it (by simp)).1
  done := by
    intro X hP hw hK hc i pins s σ H E I hf st hg
    subst hP hw hK
    obtain ⟨hd, hi⟩ := hg
    obtain ⟨f0, f1, f2, f3, f4, f5⟩ := hf it (by simp)
    obtain ⟨hs, hgd, hx, es', ep', hdt, hsz, ent⟩ := frzTv I hd
    obtain ⟨rfl, rfl⟩ := dict_ep hod hdt
    obtain ⟨ok, ov, he⟩ := st
    rw [← hsz] at he
    exact DT.endI (I.ok.hd hc) he ⟨o, hgd, hx, hdt⟩ (by omega) fun h' eb => ⟨rfl, I.turned (t' := s.toks) (fun b ob hb e => eb b ob hb e) f0 f1 f3 f4 f5⟩
  self := fun A i s Q E st h => let ⟨_, _, e⟩ := st; PySem.W.kcp_self e h
end
def iItemsT (td : TE) : TI := fun σ H R => td σ H fun x H1 => ∃ d o kvs, x = .ref d ∧ H1 d = some (.frz o (.dT kvs)) ∧ R (ItiT d o kvs) H1
section
variable {X : Cx} {tg e : Expr} {td : TE} {apos cpos : Pos}
theorem pi_itemsT {elts : List Expr} {kk : Nat} {tpos : Pos} (he : PE X e td) (hbase : attributeBase e "items" X.env (eval e X.env) = eval e X.env := by rfl) (hline : (apos.endLine == cpos.line) = true := by rfl) :
    PI X (.Tuple elts kk tpos) (.Call (.Attribute e "items" apos) [] [] cpos) (iItemsT td) := by
  refine ⟨fun pins s σ H R I h => ?_⟩
  refine wpAny_Call_method (T := "dict") (id := "dict.items") hbase rfl hline F.plainAttrs_dict F.slot_dict_items F.type_dict_items (thn (he.run pins s σ H _ I h) fun u s1 ⟨x, H1, I1, rx, d, o, kvs, ex, hd, q⟩ => ?_)
  subst ex
  obtain rfl : u = Value.ref d := rx
  obtain ⟨hs, hgd, hx, es, ep, hdt, hsz, ent⟩ := frzTv I1 hd
  have raw : DT.Raw s1.heap d es ep := ⟨o, hgd, hx, hdt⟩
  refine ⟨raw.typeIs, ?_, ?_⟩
  · intro a ea
    cases ea
    exact ⟨o, hgd, hx.2.1⟩
  have I2 : Inv X pins σ H1 { s1 with heap := s1.heap.push { cls := .type "dict_items", data := .fields #[.ref d] } } := I1.kept (t' := s1.toks) fun b ob q => Heap.get?_push_of_some _ q
  have fin : wpAny (model X.prog X.w) X.A (pyIter (.ref s1.heap.objs.size)) (PIE X pins σ (.Tuple elts kk tpos) R) X.xe { s1 with heap := s1.heap.push { cls := .type "dict_items", data := .fields #[.ref d] } } := by
    refine DT.iterI (d := d) (es := es) (ep := ep) ⟨_, Heap.get?_push_size _ rfl, rfl, rfl⟩ (raw.push _) (pi_one (tk := s1.toks) I2 _ (turn_itemsT _ hdt) ⟨.none, .none, ?_⟩ q)
    rw [← hsz]
    exact Heap.get?_push_size _ rfl
  show wpAny _ _ (callWith cpos (.builtin "dict.items") [.ref d] [] []) _ X.xe s1
  exact method_meetsIn F.slot_dict_items F.entry_dict_items rfl (PySem.evalArgs_none ⟨rfl, raw.typeIs, F.args_dict_items_1 _, _, DT.meetsItems hs, raw, fin⟩)
/-- {t: v}, the key a tuple -/
def tDispT (tk tv : TE) : TE := fun σ H Q => ∀ p, H p = none → tk σ (upd H p (.dT [])) fun x H1 => tv σ H1 fun y H2 => H2 p = some (.dT []) ∧ ∃ (k : List Key) (c : Addr), x = .ref c ∧ H2 c = some (.tup (k.map kV)) ∧ Q (.ref p) (upd H2 p (.dT [(k, y)]))
theorem pe_dispT {k v : Expr} {tk tv : TE} {pos : Pos} (hu : X.A.units + 1 < cLine) (hk : PE X k tk) (hv : PE X v tv) : PE X (.Dict [some k] [v] pos) (tDispT tk tv) := by
  refine ⟨fun pins s σ H Q I q => ?_⟩
  have hn := I.hok.fresh (Nat.le_refl s.heap.objs.size)
  have I1 := I.laid (a := s.heap.objs.size) (o := .dT []) (h' := s.heap.push { cls := .type "dict", data := .dict #[] }) (t' := s.toks) (fun _ _ q => Heap.get?_push_of_some _ q) (Nat.le_refl _) (dt_empty s.heap I.big)
  rw [arm_eval_Dict, zip_pairTrees [some k] [v] X.env pos rfl rfl, dictDisplay_pairs _ (fun z => by have l := pairTrees_length [some k] [v] X.env pos rfl rfl; rw [z] at l; cases l) (by rw [pairTrees_length [some k] [v] X.env pos rfl rfl]; exact Nat.le_of_ble_eq_true rfl)]
  refine wpAny_bind (wpAny_standAt (wpAny_bind (wpAny_subDictH (knd := tupleKind (mixKind X.prog X.w)) (Q := fun d s' => wpAny (model X.prog X.w) X.A (pure (Value.ref d)) _ _ s') (show (tupleKind (mixKind X.prog X.w)).room X.A from Nat.lt_of_succ_lt hu) (by rw [pairTrees_length [some k] [v] X.env pos rfl rfl]; exact Nat.le_of_ble_eq_true rfl) ?_)))
  refine pairTrees_cons_walk (thn (hk.run pins _ σ _ _ I1 (q _ hn)) fun u s1 ⟨x, H1, J1, rx, q1⟩ => thn (hv.run pins s1 σ H1 _ J1 q1) fun w2 s2 ⟨y, H2, I2, ry, e, kk, c, ex, ec, q2⟩ => pairTrees_nil_walk ?_)
  subst ex
  obtain rfl : u = Value.ref c := rx
  obtain ⟨z, hd, xs, rel, dd⟩ := dt_of I2.hok e
  cases rel
  refine ⟨[(kk, c, w2)], ⟨rfl, rfl, key_of I2.hok ec, trivial⟩, dd, fun h' tk ⟨q, es, ep, hq, h2, h3, h4, _, h5⟩ hs => wpAny_pure ⟨.ref s.heap.objs.size, _, ?_, rfl, q2⟩⟩
  exact d_write I2 (by rw [e]; trivial) hs ⟨q, hq⟩ ⟨by show 1 ≤ sizeLine; decide, hd, _, .cons ⟨rfl, (upd_ne (ne_of ec e (fun z => nomatch z))).trans ec, ry⟩ .nil, q, es, ep, hq, h2, h3, h4, h5⟩
end
end Esc

/-! sorted of a list of tuples (a number, a list of numbers). -/
namespace Esc
open PySem PySem.Spec PyProof.Rows L2
def enTL (b : Addr × Int × List Int) : PyData := .tuple [.int b.2.1, .list (b.2.2.map PyData.int)]
def leTL (b c : Addr × Int × List Int) : Bool := PySem.W.dataLe false enTL b c
theorem alike_TL (b c : Addr × Int × List Int) : PySem.W.alike (enTL b) (enTL c) = true := by
  unfold enTL
  simp [PySem.W.alike, PySem.W.alikeAll, alike_ints]
theorem depth_TL (b : Addr × Int × List Int) : (enTL b).depth ≤ 2 := by
  unfold enTL
  simp [PyData.depth, PyData.depthAll, depth_ints]
def rSortedTL (K : PySem.W.Frag) : List V → Hp → VK → Prop := fun vs H Q => ∃ (a : Addr) (bs : List (Addr × Int × List Int)), vs = [V.ref a] ∧ SqL K H a (bs.map fun b => V.ref b.1) ∧ (∀ b ∈ bs, Dp K H (.ref b.1) (enTL b)) ∧
  ∀ p, H p = none → Q (.ref p) (upd H p (.lst ((bs.mergeSort leTL).map fun b => V.ref b.1)))
theorem each_refs : ∀ {bs : List (Addr × Int × List Int)} {us : List Value}, Vals (bs.map fun b => V.ref b.1) us → PySem.W.EachIs (fun v b => v = Value.ref b.1) us bs
  | [], _, h => by
    cases h
    exact .nil
  | b :: bs, _, h => by
    cases h with
    | cons r t =>
      have r : _ = Value.ref b.1 := r
      exact .cons r (each_refs t)
theorem each_imp {R R' : Value → (Addr × Int × List Int) → Prop} : ∀ {us : List Value} {bs : List (Addr × Int × List Int)}, (∀ b ∈ bs, ∀ v, R v b → R' v b) → PySem.W.EachIs R us bs → PySem.W.EachIs R' us bs
  | _, _, _, .nil => .nil
  | _, _, h, .cons r t => .cons (h _ List.mem_cons_self _ r) (each_imp (fun b m => h b (List.mem_cons_of_mem _ m)) t)
theorem vals_refs : ∀ {us : List Value} {bs : List (Addr × Int × List Int)}, PySem.W.EachIs (fun v b => v = Value.ref b.1) us bs → Vals (bs.map fun b => V.ref b.1) us
  | _, _, .nil => .nil
  | _, _, .cons r t => by
    subst r
    exact .cons rfl (vals_refs t)
section
variable {X : Cx}
theorem cr_sortedTL (hu : X.A.units + 64 < cLine) : CallR X (.builtin "sorted") (rSortedTL X.K) := by
  intro pins s σ H vs us Q I r h
  obtain ⟨a, bs, rfl, hs, hx, q⟩ := h
  obtain ⟨its, rv, hl, hz⟩ := I.list hs
  obtain ⟨u, rfl, ru⟩ := vals1 r
  obtain rfl : u = Value.ref a := ru
  have e := each_refs rv
  have er : PySem.W.EachIs (fun v b => ∃ as, Reads s.heap v (enTL b) as) its bs := each_imp (fun b m v ev => by
    subst ev
    exact Dp.reads I _ _ _ (hx b m) rfl) e
  refine PySem.W.sorted_data (enc := enTL) hl.isList e er (PySem.W.AllAlike.of alike_TL) (PySem.W.Sortable.tuples fun b => ⟨_, _, rfl⟩) (by rw [List.length_map] at hz; exact hz) (fun b _ => ?_) fun out _ eo => ?_
  · have := depth_TL b
    omega
  · obtain ⟨n, hn⟩ := sortedAll_at s.heap its (List.toArray out)
    refine ⟨.ref (s.heap.objs.size + 1), _, I.laid (t' := s.toks) (o := .lst ((bs.mergeSort leTL).map fun b => V.ref b.1)) (fun b o e => sortedAll_old e) (Nat.le_succ _) ⟨?_, out, n, vals_refs eo, hn⟩, rfl, q _ (I.hok.fresh (Nat.le_succ _))⟩
    rw [List.length_map, List.length_mergeSort]
    rw [List.length_map] at hz
    exact hz
end
/-! ### tuple(range(n)) -/
def kTupRg (Q : VK) : VK := fun x H => ∃ n, x = .int n ∧ RgOk 0 n ∧ ∀ q, H q = none → Q (.ref q) (upd H q (.tup (rgV 0 n)))
instance {ta : TE} {σ : L2.St} {H : Hp} {Q : VK} : Step (tTupRg (tRg1 ta) σ H Q) (ta σ H (kTupRg Q)) := ⟨fun h => h⟩
theorem i_tupRg {H : Hp} {Q : VK} {n : Int} (hn : 0 ≤ n ∧ n ≤ 16777216) (q : ∀ p H', H p = none → Same H H' → H' p = some (.tup (rgV 0 n)) → Q (.ref p) H') : kTupRg Q (.int n) H := ⟨n, rfl, RgOk.of_le (Int.le_refl 0) hn.2 (by decide) hn.1, grow q⟩
/-- the object told -/
def tTupRgF (te : L2.St → Hp → (Int → Int → Hp → Prop) → Prop) : TE := fun σ H Q => te σ H fun a b H1 => RgOk a b ∧ ∀ q o, NoD o → H1 q = none → Q (.ref q) (upd H1 q (.frz o (.tup (rgV a b))))
theorem pe_tupRgF {X : Cx} {e : Expr} {te : L2.St → Hp → (Int → Int → Hp → Prop) → Prop} {p pos : Pos} (hc : X.calm = true) (hg : Gl X "tuple") (hm : X.mg "tuple" = none) (he : PRg X e te) (na : starEach [e] X.env = (false, eval e X.env) :: starEach [] X.env := by rfl) : PE X (.Call (.Name "tuple" p) [e] [] pos) (tTupRgF te) := by
  refine ⟨fun pins s σ H Q I h => ?_⟩
  refine Call_ (ld_blt I hg hm boot_tuple (PyProof.Rows.callWith_type1 (args_cons (thn (he pins s σ H _ I h) fun x s1 ⟨r, a, b, t, u, v, H1, ex, hr, I1, ok, q⟩ => args_nil ?_) na) na))
  subst ex
  obtain ⟨b1, b2, b3, b4, b5⟩ := ok
  refine call_tuple_range (n := (b - a).toNat) (I1.ok.hd hc) hr (small_one b1 b2 b3 b4) (rangeSize_nat a b) b5 fun h' tk acc hk hi => ?_
  have I2 : Inv X pins σ H1 { s1 with heap := h', toks := tk } := I1.kept hk
  refine ⟨.ref h'.objs.size, _, I2.laid (o := .frz { cls := .type "tuple", data := .seq acc } (.tup (rgV a b))) (t' := tk) (fun c o e => Heap.get?_push_of_some _ e) (Nat.le_refl _) ⟨Heap.get?_push_size _ rfl, ?_, acc.toList, vals_rg hi, ?_⟩, rfl, q _ _ ⟨rfl, rfl⟩ (I2.hok.fresh (Nat.le_refl _))⟩
  · rw [rgV_length, sizeLine_eq]; omega
  · rw [Array.toArray_toList]; exact IsTup.new _ _
def kTupRgF (Q : VK) : VK := fun x H => ∃ n, x = .int n ∧ RgOk 0 n ∧ ∀ q o, NoD o → H q = none → Q (.ref q) (upd H q (.frz o (.tup (rgV 0 n))))
instance {ta : TE} {σ : L2.St} {H : Hp} {Q : VK} : Step (tTupRgF (tRg1 ta) σ H Q) (ta σ H (kTupRgF Q)) := ⟨fun h => h⟩
theorem i_tupRgF {H : Hp} {Q : VK} {n : Int} (hn : 0 ≤ n ∧ n ≤ 16777216) (q : ∀ p H', H p = none → Same H H' → TupD H' p (rgV 0 n) → Q (.ref p) H') : kTupRgF Q (.int n) H :=
  ⟨n, rfl, RgOk.of_le (Int.le_refl 0) hn.2 (by decide) hn.1, fun p o no hp => q p _ hp (same_new hp) ⟨o, no, upd_same⟩⟩
theorem perm_TL (bs : List (Addr × Int × List Int)) : (bs.mergeSort leTL).Perm bs := List.mergeSort_perm bs leTL
end Esc

/-! super().__init__(..) of an own exception over ValueError. -/
namespace Esc
open PySem PySem.W PySem.Calls PyProof.Rows PySem.Spec L2 NdefX LamX
section
variable {X : Cx} {pins : List (Addr × Obj)} {σ : L2.St} {H : Hp} {s : Shared} {A : Around} {E : Value → Shared → Prop}
/-- the built-in __init__ bound to the exception, called -/
theorem call_mw {a C u : Addr} {us : List Value} {Q : Value → Shared → Prop} (T : OexC X.K C) (I : L2.Inv X pins σ H s) (e : H a = some (exo a C none)) (hu : s.heap.get? u = some (kxs_mw "ValueError.__init__" a)) (hl : us.length ≤ sizeLine)
    (h : ∀ s', L2.Inv X pins σ H s' → Q .none s') : wpAny (model X.prog X.w) A (call (.ref u) us) Q E s := by
  obtain ⟨nm, q, N, bs, bm, sn, sub, ab, col, dd, k0, k1, k2, k3, k5, hC, hbm⟩ := T.cls
  obtain ⟨t1, ho⟩ := exo_at I.hok e
  have KI := I.kIn
  obtain ⟨hp, g, d, t, os⟩ := s
  have ho' : hp.get? a = some (excObj C t1 none .none) := ho
  refine wpAny_call (codeAny_of_tree ?_)
  show wpAny _ A.in1 (callAny (.ref u) ⟨us, []⟩) _ _ _
  simp only [callAny]
  refine wpAny_bind (wpAny_load hu ?_)
  simp only [kxs_mw, show (Value.type "method-wrapper" == Value.type "method" || Value.type "method-wrapper" == Value.type "builtin_function_or_method" || Value.type "method-wrapper" == Value.type "method-wrapper") = true by decide, if_true]
  refine KFB.if_so (by decide) ?_
  refine wpAny_bind (check_bound_init F.excBase_ValueError.toExcCallFacts (KI _ _ hC) ho' rfl ?_)
  refine wpAny_bind (wpAny_pure (wpAny_pure ?_))
  refine ⟨plainId_quiet F.excBase_ValueError.init.plain _, codeAny_builtin F.excBase_ValueError.initEntry ?_⟩
  refine exc_init_tree (cls := .ref C) (t0 := t1) (dv := none) (c2 := .none) (c3 := .none) (b4 := .bool false) ho' hl fun h' k hx _ => ?_
  have J := I.write (t' := t) (x := a) (e := a) (o := exo a C none) (by rw [e]; exact True.intro) (.inl rfl) k ⟨_, hx⟩ (exo_ok hx)
  have eu : upd H a (exo a C none) = H := by
    funext b
    by_cases hb : b = a
    · rw [hb, upd_same, e]
    · rw [upd_ne hb]
  rw [eu] at J
  exact h _ J
end
/-- what such an __init__ keeps: the exception gets its one field -/
def spInit (K : PySem.W.Frag) (D : Addr) (fld : Str) (good : V → Prop) : Sp := fun vs H Q _ => ∃ (a C : Addr) (y : V), vs = [.ref a, y] ∧ good y ∧ OexC K C ∧ mroIn K C (.ref D) = some true ∧ subIn K (.ref C) (.type "ValueError") = some true ∧
  ks_superIn K C D "__init__" = some (some (.builtin "ValueError.__init__")) ∧ findIn K (.ref C) fld = some none ∧ H a = some (exo a C none) ∧ ∀ dx, H dx = none → dx ≠ a → Q .non (upd (upd H dx (exd dx [(fld, y)])) a (exo a C (some dx)))
theorem fn_super {P : Program} {w : World} {K : PySem.W.Frag} {mg : Str → Option Value} {base : Heap} {F : NF} {f cc D : Addr} {oc cl ccl dV kV doc pm ct : Value} {od an cld cdd : Option Addr} {osl csl ccs : Array (Option Value)}
    {vs : Array Value} {file : Str} {tf : Tok} {cdD : ClassData} {ar : Arg} {prm fld : Str} {k : Nat} {good : V → Prop} {e : PySem.Expr} {te : TE} {p0 p1 p2 p3 p4 q1 q2 q3 q4 : Pos}
    (hf : K.lookup f = some ⟨oc, od, .func (fnX F.name F.qual F.params F.body F.scope F.cl dV kV doc pm an (.ref F.c) ct), osl⟩) (hFcl : F.cl = [(("__class__" : Str), cc)]) (hcd : codeIn K (.ref F.c) F.qual = true)
    (hcode : K.lookup F.c = some ⟨ccl, cdd, .fields vs, ccs⟩) (hvs : vs[2]? = some (.str file tf)) (hfile : ((P.main.file : Str) == file) = true)
    (hcell : K.lookup cc = some ⟨cl, cld, .cell (some (.ref D)), csl⟩) (hD : clsIn K D = some cdD) (hsuper : mg "super" = none) (htop : (P.main.scope.names.lookup ("super" : Str)).isSome = false) (hstat : nsIn K cStatics "thirdparty.any" = some none)
    (hpar : (F.params.posonlyargs ++ F.params.args).head? = some ar) (har : ar.arg = "self") (S : NScope ["self", prm, "__class__"] ["self", prm] ["__class__"] F.scope) (hks : F.scope.names.lookup ("super" : Str) = some .globalImplicit)
    (hbody : F.body = [.Expr (.Call (.Attribute (.Call (.Name "super" p0) [] [] p1) "__init__" p2) [e] [] p3) p4, .Assign [.Attribute (.Name "self" q1) fld q2] (.Name prm q3) q4])
    (he : ∀ (A : Around) (outer : List Env) (s : Shared) (H : Hp) (E : XK), Room k (A.deeper (envF F f s.heap.objs.size)) → PE (ncx C8.CX0 P w K mg base ["self", prm, "__class__"] F f A outer s H E) e te)
    (hte : ∀ (a : Addr) (y c : V) (H : Hp) (Q : VK), good y → (∀ z, Q (.str z) H) → te [some (.ref a), some y, some c] H Q)
    (hev : ∀ env : Env, ∃ pl : Sem Bool, eval (.Call (.Attribute (.Call (.Name "super" p0) [] [] p1) "__init__" p2) [e] [] p3) env = (do
      let ov ← attributeBase (.Call (.Name "super" p0) [] [] p1) "__init__" env (eval (.Call (.Name "super" p0) [] [] p1) env)
      standAt p2.atName
      let (f, first) ← holding [ov] (getMethod ov "__init__" pl)
      callWith p3 f first (backTo p3 (starEach [e] env)) []))
    (hst : ∀ env : Env, starEach [e] env = (false, eval e env) :: starEach [] env) (hprm : (prm == ("__debug__" : Str)) = false) (hprm2 : (prm == ("__classdict__" : Str)) = false) :
    FnOk P w K mg base C8.CX0 (k + 1) f (fnX F.name F.qual F.params F.body F.scope F.cl dV kV doc pm an (.ref F.c) ct) ["self", prm] (spInit K D fld good) := by
  refine ⟨fun vs H Q E h => ?_, fun A outer s H args us vs' Q E hr e0 hb r hsp => ?_⟩
  · obtain ⟨a, C, y, rfl, _⟩ := h
    rfl
  · have KX : K.In s.heap := e0.mod.kin.keeps fun b o e => (e0.bs b o e).1
    have lim : s.heap.NoLimit := e0.mod.nolimit.keeps fun b o e => (e0.bs b o e).1
    have KB := e0.mod.kin
    obtain ⟨a, C, y, rfl, hg, T, hmro, hsub, hsup, hno, ea, q⟩ := hsp
    have C0 : CellsAt F.cl ["__class__"] [some (V.ref D)] s.heap H := by
      have hcs := KX _ _ hcell
      have z : ∀ {v : Str} {d : Addr}, F.cl.lookup v = some d → v = "__class__" ∧ d = cc := fun {v d} h => by
        rw [hFcl] at h
        simp only [List.lookup] at h
        split at h
        · rename_i hq
          exact ⟨eq_of_beq hq, (Option.some.inj h).symm⟩
        · cases h
      refine ⟨rfl, fun y c hy => ?_, fun x y c h1 h2 => ?_, fun i y hi => ?_⟩
      · obtain ⟨_, rfl⟩ := z hy
        exact ⟨(e0.bs _ _ (KB _ _ hcell)).2, _, _, hcs, rfl⟩
      · rw [(z h1).1, (z h2).1]
      · match i, hi with
        | 0, hi =>
          cases hi
          refine ⟨cc, by rw [hFcl]; simp [List.lookup], fun v hv => ?_⟩
          cases hv
          exact ⟨.ref D, rfl, _, hcs, rfl⟩
        | i + 1, hi => cases hi
    refine codeAny_call_function hr.depth (KX _ _ hf) rfl S.co S.gen rfl (PySem.W.codeRec_of KX hcd) (hb _ _ _ _ ?_)
    refine wpAny_newFunctionEnv S.nocell (fun ⟨n, _⟩ hy => S.par n (List.of_mem_zip hy).1) (fun h₁ hns hsb => ⟨lim.fresh _ hsb, ?_⟩) S.kind
    show codeAny _ _ (.func F.body (envF F f s.heap.objs.size)) _ _
    have kp : ∀ b o, s.heap.get? b = some o → h₁.get? b = some o := fun b o e => hsb.extBut b o (Nat.ne_of_lt (Heap.lt_size e)) (Heap.get?_push_of_some _ e)
    have I : L2.Inv (ncx C8.CX0 P w K mg base ["self", prm, "__class__"] F f A outer s H E) [] (startF ["self", prm, "__class__"] [.ref a, y] [some (V.ref D)]) H { s with heap := h₁, toks := s.toks + (([("self" : Str), prm]).zip us).length } :=
      inv_startN S hr.hd e0 rfl r C0 hns kp
    refine ks_codeAny_funcAt ?_
    rw [hbody]
    obtain ⟨pl, hev⟩ := hev (envF F f s.heap.objs.size)
    refine ks_wpAt_execs_cons (ks_wpAt_Expr_any (ks_wpAt_MethodCall (pl := pl) ?_ hev) (by unfold interactive; simp [S.kind]))
    have KI := I.kIn
    obtain ⟨oD, hD1, hD2⟩ : ∃ oD, h₁.get? D = some oD ∧ oD.data = .cls cdD := by
      have hD' := hD
      unfold PySem.W.clsIn at hD'
      split at hD'
      · rename_i c d cd' sl ho
        cases hD'
        exact ⟨_, KI _ _ ho, rfl⟩
      · cases hD'
    refine ks_wpAt_super_base hks (S.frk _ (List.mem_singleton.mpr rfl)) (by decide) rfl (KI _ _ hf) rfl hpar rfl (KI _ _ hcode) rfl hvs hfile htop ?_
    obtain ⟨mb, b1, b2⟩ := I.mod.blt
    refine ks_loadName_global S.kind hks (Calls.loadGlobal_builtin (I.mod.glob.keeps I.bk) hsuper (b1.keeps I.bk) ((b2 _ (by decide +kernel)).trans (by first | boot_by_name | rfl | kernel_rfl)) ⟨rfl, ?_⟩)
    refine wpAny_loadName_free S.kind (S.frk _ (List.mem_singleton.mpr rfl)) (by show F.cl.lookup _ = some cc; rw [hFcl]; simp [List.lookup]) ⟨_, KI _ _ hcell, rfl⟩ ?_
    rw [har]
    obtain ⟨nm, qn, N, bs, bm, sn, sub, ab, col, dd, k0, k1, k2, k3, k5, hC, hbm⟩ := T.cls
    have hcl : clsIn K C = some { name := nm, bases := bs, mro := .ref C :: bm, ns := N, qualname := qn, hasDict := true, slotNames := sn, subclasses := sub, abstract := ab, collection := col, hasDel := false } := by unfold clsIn; rw [hC] <;> rfl
    obtain ⟨u1, u2, hus, ru1, ru2⟩ : ∃ u1 u2, us = [u1, u2] ∧ RelV (.ref a) u1 ∧ RelV y u2 := by
      cases r with
      | cons r1 t =>
        cases t with
        | cons r2 t2 =>
          cases t2
          exact ⟨_, _, rfl, r1, r2⟩
    obtain rfl : u1 = Value.ref a := ru1
    refine wpAny_loadName_local (v := .ref a) S.kind (S.par _ List.mem_cons_self) hns (by subst hus; exact zip_look (i := 0) (S.nd.sublist (List.sublist_append_left [("self" : Str), prm] [("__class__" : Str)])) rfl rfl) ?_
    refine ks_wpAny_isType_cls hD1 hD2 ⟨rfl, ?_⟩
    obtain ⟨t1, ho⟩ := exo_at I.hok ea
    have IA : PySem.W.InstAt h₁ a _ C none := ⟨ho, rfl, rfl, trivial⟩
    refine ks_wpAny_call_super hD1 hD2 ho rfl (fun c hc => by cases hc) (looks_mroIn KI hmro) (fun h' e1 k1 => ?_)
    have I1 : L2.Inv (ncx C8.CX0 P w K mg base ["self", prm, "__class__"] F f A outer s H E) [] (startF ["self", prm, "__class__"] [.ref a, y] [some (V.ref D)]) H { s with heap := h', toks := s.toks + (([("self" : Str), prm]).zip us).length } := I.kept k1
    have KI1 := I1.kIn
    have IA1 : PySem.W.InstAt h' a _ C none := ⟨k1 _ _ ho, rfl, rfl, trivial⟩
    refine kxs_getMethod kxs_ValueError e1 (looks_opaque KI1 hstat) (l₀ := .ref C :: bm) (fun A Q E s k q => wpAny_bind ((looks_clsIn KI1 hcl) A _ E s k (wpAny_pure q))) rfl KI1 (by have hs2 := hsup; unfold ks_superIn at hs2; rw [hcl] at hs2; exact hs2) (IA1.type.andThen (looks_subIn KI1 hsub)) (ks_ne KI IA hcl) (by decide) ?_
    have I2 := ClX.pin_new (a := h'.objs.size) (o := kxs_mw "ValueError.__init__" a) (h' := h'.push (kxs_mw "ValueError.__init__" a)) (t' := s.toks + (([("self" : Str), prm]).zip us).length + 1) I1 (fun b o q => Heap.get?_push_of_some _ q) (Nat.le_refl _) (Heap.get?_push_size _ rfl) (fun v hv => by cases hv)
    refine kxs_callWith (i := "ValueError.__init__") (x := a) (by rw [hst]; rfl) ?_
    rw [hst]
    refine evalArgs_plain ?_
    refine Calls.spliced_cons (wpAny_mono ((he A outer s H E (hr.deeper _)).run _ _ _ H (fun v H' => ∃ z, v = .str z ∧ H' = H) I2 (hte a y _ H _ hg fun z => ⟨z, rfl, rfl⟩)) (fun uz s3 ⟨v, H3, I3, rv, z, ev, eH⟩ => ?_) fun _ _ h => h)
    subst eH
    refine Calls.spliced_nil ⟨ClX.pin_at I3, ?_⟩
    refine call_mw T (ClX.unpin I3) ea (ClX.pin_at I3) (by show 1 ≤ sizeLine; decide) fun s4 I4 => ?_
    refine wpAt_of_wpAny ?_
    have hp0 : PE (ncx C8.CX0 P w K mg base ["self", prm, "__class__"] F f A outer s H3 E) (.Name "self" q1) (tVar 0) := pe_var (i := 0) rfl (.inl (S.par _ List.mem_cons_self)) (by decide) (by decide)
    have hp1 : PE (ncx C8.CX0 P w K mg base ["self", prm, "__class__"] F f A outer s H3 E) (.Name prm q3) (tVar 1) := pe_var (i := 1) rfl (.inl (S.par _ (List.mem_cons_of_mem _ List.mem_cons_self))) hprm hprm2
    have hs : PSs (ncx C8.CX0 P w K mg base ["self", prm, "__class__"] F f A outer s H3 E) [.Assign [.Attribute (.Name "self" q1) fld q2] (.Name prm q3) q4] _ := pss_one (ps_ost hp0 hp1)
    refine wpAny_mono (hs.run [] _ _ H3 { nx := fun _ H' => Q .non H', rt := Q } I4 ⟨y, rfl, .ref a, rfl, a, C, rfl, T, hno, .inl ⟨ea, fun dx n ne => q dx n ne⟩⟩) (fun fl s' hs => ?_) fun e s' hs => hs
    have fin : ∀ {σ' : L2.St} {H' : Hp} {v : V} {u : Value}, L2.Inv (ncx C8.CX0 P w K mg base ["self", prm, "__class__"] F f A outer s H3 E) [] σ' H' s' → L2.RelV v u → Q v H' → CE outer P w H3 s Q u s' :=
      fun {σ' H' v u} J rv q => ⟨v, H', J.os, J.bare, J.base, J.hok, rv, q⟩
    cases fl with
    | ret u =>
      obtain ⟨v, σ', H', J, rv, q⟩ := hs
      exact fin J rv q
    | next =>
      obtain ⟨σ', H', J, q⟩ := hs
      exact fin (v := V.non) (u := Value.none) J rfl q
    | brk =>
      obtain ⟨_, _, _, q⟩ := hs
      exact False.elim q
    | cont =>
      obtain ⟨_, _, _, q⟩ := hs
      exact False.elim q
end Esc

/-! Own exceptions with one field: made, raised, let out of defs. -/
namespace Esc
open PySem PySem.W PySem.Calls PyProof.Rows PySem.Spec L2
/-- what the written part says of an own exception class whose __init__ (of its own, with a class cell D) sets one field -/
structure ExX (P : Program) (w : World) (K : PySem.W.Frag) (mg : Str → Option Value) (base : Heap) (k : Nat) (x : Str) (C D : Addr) (fld : Str) (good : V → Prop) : Prop where
  T : OexC K C
  fn : ∃ fI fd prm, findIn K (.ref C) "__init__" = some (some (.ref fI)) ∧ typeIn K (.ref fI) = some (.type "function") ∧ FnOk P w K mg base C8.CX0 k fI fd ["self", prm] (spInit K D fld good) ∧ Binds K fd ["self", prm] []
  mro : mroIn K C (.ref D) = some true
  sub : subIn K (.ref C) (.type "ValueError") = some true
  sup : ks_superIn K C D "__init__" = some (some (.builtin "ValueError.__init__"))
  no : findIn K (.ref C) fld = some none
  gm : mg x = some (.ref C)
section
variable {X : Cx} {p pos : Pos} {e : PySem.Expr} {ta : TA} {x fld : Str} {C D : Addr} {good : V → Prop} {k j : Nat}
/-- behind the making's arguments -/
def kMkO (C : Addr) (sp : Sp) (dvs : List V) (Q : XK) : List V → Hp → Prop := fun vs H1 => vs.length ≤ 1000 ∧ ∀ a, H1 a = none → sp (.ref a :: (vs ++ dvs)) (upd H1 a (exo a C none))
  (fun v H2 => v = .non ∧ ∃ (d : Addr) (fs : List (Str × V)), H2 a = some (exo a C (some d)) ∧ H2 d = some (exd d fs) ∧ H1 d = none ∧ Q (.ref C) (some d) (upd (L2.del H2 a) d (.xd fs))) (fun _ _ _ => False)
theorem i_mkx {P : Program} {w : World} {K : PySem.W.Frag} {mg : Str → Option Value} {base : Heap} {H1 : Hp} {Q : XK} {y : V} (E : ExX P w K mg base k x C D fld good) (hg : good y) (q : ∀ d, H1 d = none → Q (.ref C) (some d) (upd H1 d (.xd [(fld, y)]))) : kMkO C (spInit K D fld good) [] Q [y] H1 := by
  refine ⟨by show 1 ≤ 1000; decide, fun a ha => ⟨a, C, y, rfl, hg, E.T, E.mro, E.sub, E.sup, E.no, upd_same, fun dx n ne => ⟨rfl, dx, [(fld, y)], upd_same, ?_, ?_, ?_⟩⟩⟩
  · rw [upd_ne ne, upd_same]
  · rw [upd_ne ne] at n
    exact n
  · rw [upd_ne ne] at n
    have eH : upd (L2.del (upd (upd (upd H1 a (exo a C none)) dx (exd dx [(fld, y)])) a (exo a C (some dx))) a) dx (.xd [(fld, y)]) = upd H1 dx (.xd [(fld, y)]) := by
      funext b
      by_cases hb : b = dx
      · rw [hb, upd_same, upd_same]
      · rw [upd_ne hb, upd_ne hb]
        by_cases hc : b = a
        · rw [hc, del_same, ha]
        · rw [del_ne hc, upd_ne hc, upd_ne hb, upd_ne hc]
    rw [eH]
    exact q dx n
/-- x(e), x such a class -/
theorem pmk_x (E : ExX X.prog X.w X.K X.mg X.base k x C D fld good) (hr : Room j X.A) (hk : k + 1 ≤ j) (hg : Gl X x) (ha : PA X [e] ta)
    (hdb : (x == ("__debug__" : Str)) = false := by decide) (he : starEach [e] X.env = (false, eval e X.env) :: starEach [] X.env := by rfl) (hpl : (backTo pos (starEach [] X.env)).any (·.1) = false := by rfl) :
    PMk X (.Call (.Name x p) [e] [] pos) (tMkO C (spInit X.K D fld good) [] ta) := by
  obtain ⟨fI, fd, prm, iC, tI, F1, hb⟩ := E.fn
  exact pmk_oex E.T iC tI F1 (hr.mono hk) hb .nil C8.pass0 hg E.gm ha hdb he hpl
/-- raise x(e) -/
def tRaX (m : L2.St → Hp → XK → Prop) (W : WX) : TS := fun _ σ H => m σ H fun cls d H' => W cls d σ H'
theorem ps_raX {W : WX} {pos2 : Pos} {m : L2.St → Hp → XK → Prop} (hc : X.calm = true) (tk : Takes X W) (h : PMk X e m) : PS X (.Raise (some e) none pos2) (tRaX m W) := ps_raise hc tk h
instance {sp : Sp} {dvs : List V} {W : WX} {D : Ends} {σ : L2.St} {H : Hp} : Step (tRaX (tMkO C sp dvs ta) W D σ H) (ta σ H (kMkO C sp dvs fun cls d H' => W cls d σ H')) := ⟨fun h => h⟩
end
/-! ### defs that may let an exception out -/
structure CalX (P : Program) (w : World) (K : PySem.W.Frag) (mg : Str → Option Value) (base : Heap) (k : Nat) (x : Str) (sp : Sp) : Prop where
  ex : ∃ (f : Addr) (fd : FuncData) (ps : List Str), FnOk P w K mg base (L2.CX P w) k f fd ps sp ∧ mg x = some (.ref f) ∧ PySem.W.keepIn K (.ref f) = true ∧ Binds K fd ps []
section
variable {X : Cx} {k j : Nat} {x : Str} {sp : Sp} {p pos : Pos} {e : PySem.Expr} {es : List PySem.Expr} {t : TA}
/-- called where it lets nothing out -/
theorem pe_cx (c : CalX X.prog X.w X.K X.mg X.base k x sp) (hr : Room j X.A) (hk : k ≤ j) (hg : Gl X x) (ha : PA X (e :: es) t)
    (hdb : (x == ("__debug__" : Str)) = false := by decide) (he : starEach (e :: es) X.env = (false, eval e X.env) :: starEach es X.env := by rfl) (hpl : (backTo pos (starEach es X.env)).any (·.1) = false := by rfl) :
    PE X (.Call (.Name x p) (e :: es) [] pos) (tCall sp [] C8.E0 t) := by
  obtain ⟨f, fd, ps, F, hm, kp, b⟩ := c.ex
  exact pe_call F (hr.mono hk) hg hm kp b .nil L2.passL ha hdb he hpl
/-- called where it may let something out -/
theorem pe_cxs {E : L2.St → XK} (c : CalX X.prog X.w X.K X.mg X.base k x sp) (hr : Room j X.A) (hk : k ≤ j) (hg : Gl X x) (hx : ∀ σ, PassesAt (L2.CX X.prog X.w) X σ (E σ)) (ha : PA X (e :: es) t)
    (hdb : (x == ("__debug__" : Str)) = false := by decide) (he : starEach (e :: es) X.env = (false, eval e X.env) :: starEach es X.env := by rfl) (hpl : (backTo pos (starEach es X.env)).any (·.1) = false := by rfl) :
    PE X (.Call (.Name x p) (e :: es) [] pos) (tCallS sp E t) := by
  obtain ⟨f, fd, ps, F, hm, kp, b⟩ := c.ex
  exact pe_callS F (hr.mono hk) hg hm kp b hx ha hdb he hpl
end
section
variable {P : Program} {w : World} {K : PySem.W.Frag} {mg : Str → Option Value} {base : Heap}
theorem fnx {x qual : Str} {st : Stmt} {f : Addr} {fd : FuncData} {N ps : List Str} {k : Nat} {sp : Sp} (F : C8.Fun K x qual st f fd) (S : FnScope N ps (C8.fnScope st)) (len : ∀ vs H Q E, sp vs H Q E → vs.length = ps.length)
    (hbody : ∀ (cdv : Value) (A : Around) (outer : List Env) (s : Shared) (H : Hp) (vs : List V) (Q : VK) (E : XK), Room k (A.deeper (envOfC qual (C8.fnScope st) s.heap.objs.size f cdv)) → sp vs H Q E →
      ∃ t, PSs (cxOf (L2.CX P w) P w K mg base N qual (C8.fnScope st) f cdv A outer s H E) (C8.fnBody st) t ∧ t { nx := fun _ H' => Q .non H', rt := Q } (L2.start N vs) H) : FnOk P w K mg base (L2.CX P w) (k + 1) f fd ps sp := by
  obtain ⟨oc, od, dV, kV, doc, pm, an, cdv, ct, osl, rfl, lk, hcd⟩ := F.ex
  exact fn_of lk hcd S len fun A outer s H vs Q E hr hsp => hbody cdv A outer s H vs Q E hr hsp
theorem _root_.Esc.Dd.calX {x : Str} {st : Stmt} {N ps : List Str} {k : Nat} {sp : Sp} (d : Dd K mg x st ps) (S : FnScope N ps (C8.fnScope st)) (len : ∀ vs H Q E, sp vs H Q E → vs.length = ps.length)
    (hbody : ∀ (f : Addr) (cdv : Value) (A : Around) (outer : List Env) (s : Shared) (H : Hp) (vs : List V) (Q : VK) (E : XK), Room k (A.deeper (envOfC x (C8.fnScope st) s.heap.objs.size f cdv)) → sp vs H Q E →
      ∃ t, PSs (cxOf (L2.CX P w) P w K mg base N x (C8.fnScope st) f cdv A outer s H E) (C8.fnBody st) t ∧ t { nx := fun _ H' => Q .non H', rt := Q } (L2.start N vs) H) : CalX P w K mg base (k + 1) x sp := by
  obtain ⟨f, fd, F, b⟩ := d.ex
  exact ⟨f, fd, ps, fnx F.fn S len fun cdv A outer s H vs Q E hr h => hbody f cdv A outer s H vs Q E hr h, F.mgf, F.kp, b⟩
end
end Esc

/-! A caught exception with a field: handed to a def, asked what it is. -/
namespace Esc
open PySem PySem.W PySem.Calls PyProof.Rows PySem.Spec L2
section
variable {prog : Program} {w : World} {A : Around} {E : Value → Shared → Prop} {s : Shared} {K : Frag} {x D : Addr} {ox : Obj} {odx : Option Obj}
theorem findObj_dataO {C : Addr} {name : Str} {a g : Value} (hc : (clsIn K C).isSome = true) (ha : findIn K (.ref C) name = some (some a)) (hg : specialIn K a "__get__" = some (some g)) (ht : takesIn K a = some true) : findObj K C odx name = some (.bind g a) := by
  obtain ⟨cd, hc⟩ := Option.isSome_iff_exists.mp hc
  unfold findObj
  rw [hc, Option.bind_some, ha, Option.bind_some]
  simp [hg, ht]
theorem kin_classO {Q : Option Value → Shared → Prop} (T : ExcC K D) (X : K.In s.heap) (I : InstAt s.heap x ox D odx) (h : Q (some (.ref D)) { s with toks := s.toks + 1 }) : wpAny (model prog w) A (getAttr? (.ref x) "__class__") Q E s := by
  have hf : findObj K D odx "__class__" = some (.bind (.builtin "getset_descriptor.__get__") (.builtin "object.__class__")) := findObj_dataO (by obtain ⟨cd, hc, _⟩ := any_some T.hd; rw [hc]; rfl) T.ha T.hn T.ht
  obtain ⟨hp, g, d, t, os⟩ := s
  have L0 := I.type (M := model prog w)
  have L1 := looks_findIn (M := model prog w) X T.hg
  have L2 := looks_findIn (M := model prog w) X T.hk
  have L3 := looks_find (M := model prog w) X I hf
  have sub : Looks (model prog w) hp (isInstance (.ref x) (.type "BaseException")) true := L0.andThen (looks_subIn X T.hs)
  have hx0 : (false && onTheHeap (Value.builtin "BaseException.__getattribute__")) = false := rfl
  have hx2 : (Value.builtin "BaseException.__getattribute__" == Value.builtin "object.__getattribute__") = false := by decide +kernel
  have hx1 : (onTheHeap (Value.ref D) && Value.builtin "BaseException.__getattribute__" == Value.builtin "object.__getattribute__") = false := by rw [hx2]; rfl
  unfold getAttr? getAttrBy? getAttrBy
  refine wpAny_bind (wpAny_mkText (wpAny_bind (wpAny_attempt (wpAny_holding (wpAny_bind (L0.at (wpAny_bind (L1.at ?_))))))))
  show wpAny _ _ (if (onTheHeap (Value.ref D) && Value.builtin "BaseException.__getattribute__" == Value.builtin "object.__getattribute__") = true then _ else _) _ _ _
  rw [hx1, if_neg Bool.false_ne_true]
  unfold getAttrByItsOwn hookBefore
  refine wpAny_bind ?_
  rw [if_pos (show onTheHeap (Value.ref D) = true from rfl)]
  refine L2.at ?_
  refine wpAny_bind (wpAny_attempt (wpAny_holding ?_))
  unfold callGetattribute
  rw [hx0, if_neg Bool.false_ne_true]
  unfold boundAndCalled
  rw [PySem.F.excAttr_ValueError.ga.bind (.ref x)]
  refine wpAny_bind (wpAny_pure ?_)
  show wpAny _ _ (call (.builtin "BaseException.__getattribute__") [.ref x, .str "__class__" t]) _ _ _
  refine wpAny_call (codeAny_call_builtin PySem.F.excAttr_ValueError.ga.plain PySem.F.entry_bexc_ga ?_)
  refine @check_slot (model prog w) _ _ ⟨hp, g, d, t + 1, os⟩ "BaseException.__getattribute__" "BaseException" "__getattribute__" (.ref x) [.str "__class__" t] [] _ (by decide +kernel) (by decide +kernel) sub (PySem.F.args_bexc_ga (.ref x) (.str "__class__" t)) ?_
  unfold Builtin.«object.__getattribute__»
  refine wpAny_bind (wpAny_of_eq (a := ((Value.ref x : Value), [Value.str "__class__" t])) (by first | rfl | (simp only [slotArgs]; rfl)) ?_)
  refine wpAny_bind (wpAny_pure (wpAny_bind (L0.at (wpAny_bind (L3.at ?_)))))
  show wpAny _ _ (holding [Value.builtin "object.__class__"] (call (.builtin "getset_descriptor.__get__") [.builtin "object.__class__", .ref x, .ref D]) >>= ret) _ _ _
  refine wpAny_bind (wpAny_holding (wpAny_call (class_get (s := ⟨hp, g, d, t + 1, os⟩) (ox := ox) (od := odx) X I T.hm ?_)))
  refine wpAny_pure ?_
  show wpAny _ _ (handedOut (.ref D)) _ _ _
  rw [handedOut_of (v := .ref D) rfl]
  first
    | exact wpAny_pure (wpAny_pure h)
    | exact wpAny_pure h
    | exact wpAny_pure (wpAny_bind (wpAny_pure (wpAny_pure h)))
theorem kitx_O (T : ExcC K D) : KitX K (.ref x) (.ref D) (fun h => InstAt h x ox D odx) where
  ty := fun _ _ _ I => I.type
  it := fun _ _ X _ => by
    obtain ⟨cdD, hcD, _⟩ := any_some T.hd
    unfold clsIn at hcD
    split at hcD
    · rename_i c' d' cd' sl' ho
      intro A' Q' E' s' k q
      unfold isType loadHead
      exact wpAny_bind (wpAny_loadPart (k _ _ (X _ _ ho)) (wpAny_pure q))
    · cases hcD
  ne := fun h tp dd its n sl X htp => by
    obtain ⟨cdD, hcD, _⟩ := any_some T.hd
    refine Bool.eq_false_iff.mpr fun q => ?_
    have e : D = tp := Value.ref.inj (beq_iff_eq.mp q)
    subst e
    unfold clsIn at hcD
    split at hcD
    · rename_i c' d' cd' sl' ho
      have z := (X _ _ ho).symm.trans htp
      cases z
    · cases hcD
  ca := fun X I k => kin_classO T X I k
end
/-- at a stands just this object -/
def exq (a : Addr) (oe : Obj) : HO := .ext fun h => h.get? a = some oe
theorem exq_ok {P : Program} {w : World} {H : Hp} {h : Heap} {a : Addr} {oe : Obj} (he : h.get? a = some oe) : ObjOk P w H h a (exq a oe) := ⟨he, ⟨_, he⟩, fun h1 h2 z k => k _ z⟩
theorem exq_at {P : Program} {w : World} {H : Hp} {h : Heap} {a : Addr} {oe : Obj} (hok : HOk P w H h) (e : H a = some (exq a oe)) : h.get? a = some oe := by
  have x : ObjOk P w H h a (.ext fun h => h.get? a = some oe) := hok a _ e
  exact x.1
theorem exq_tup {a : Addr} {oe : Obj} {xs : List V} : exq a oe ≠ .tup xs := fun z => by
  unfold exq at z
  cases z
theorem exq_frz {a : Addr} {oe o : Obj} {u : HO} : exq a oe ≠ .frz o u := fun z => by
  unfold exq at z
  cases z
theorem exq_tbl {a : Addr} {oe : Obj} {ps : Array Value} : exq a oe ≠ .tbl ps := fun z => by
  unfold exq at z
  cases z
theorem exq_own {a x : Addr} {oe : Obj} : exq a oe ≠ .own x := fun z => by
  unfold exq at z
  cases z
/-- isinstance(e, c), e such an exception -/
def rIsQ (K : PySem.W.Frag) : List V → Hp → VK → Prop := fun xs H Q => ∃ (a D dd : Addr) (oe : Obj) (fs : List (Str × V)) (c : V) (cv : Value) (b : Bool), xs = [.ref a, c] ∧ H a = some (exq a oe) ∧ Zc (.ref D) (some dd) oe ∧ (∃ vs, oe.data = .fields vs) ∧ H dd = some (.xd fs) ∧ ExcC K D ∧ (∀ u, RelV c u → u = cv) ∧
  kitOne K (.ref D) cv = some b ∧ Q (.bl b) H
theorem call_isQ {X : Cx} : CallR X (.builtin "isinstance") (rIsQ X.K) := by
  intro pins s σ H xs us Q I r h
  obtain ⟨a, D, dd, oe, fs, c, cv, b, rfl, ea, hz, hf, ed, C, hcv, e, q⟩ := h
  cases r with
  | cons rx rr =>
    cases rr with
    | cons rt rr =>
      cases rr
      cases rx
      have ec := hcv _ rt
      subst ec
      have hget := exq_at I.hok ea
      obtain ⟨vs, hv⟩ := hf
      have hx : ObjOk X.prog X.w H s.heap dd (.xd fs) := I.hok dd _ ed
      obtain ⟨mA, hns, hr⟩ := hx
      obtain ⟨od, ho, hl⟩ := lookIn_ns hns
      have J : PySem.W.InstAt s.heap a oe D (some od) := ⟨hget, hz.1, by unfold PySem.W.notCls; rw [hv] <;> rfl, by rw [hz.2]; exact ho⟩
      exact PySem.W.kia_one (kitx_O C) I.kIn J e (fun z => nomatch z) fun tk => ⟨.bl b, H, I.kept (t' := tk) fun _ _ z => z, rfl, q⟩
end Esc

/-! Where an exception is handled: a list comprehension over a list, defs called with that exception, isinstance of it. -/
namespace Esc
open PySem PySem.W PySem.Calls PyProof.Rows PySem.Spec L2 HotX L2H
/-- a list's end, an exception handled -/
theorem list_end_hot {prog : Program} {w : World} {A : Around} {E : Value → Shared → Prop} {s : Shared} {it l x1 : Addr} {i : Nat} {items} {Q : Option Value → Shared → Prop} (hot : HotAt A x1 s.heap) (hx1 : x1 ≠ it)
    (hit : s.heap.IsListIter it l i) (hl : s.heap.IsList l items) (hx : items[i]? = none)
    (hQ : ∀ h', (∀ b o, b ≠ it → s.heap.get? b = some o → h'.get? b = some o) → Q none { s with heap := h' }) : wpAny (model prog w) A (pyNext (.ref it)) Q E s := by
  obtain ⟨o, ho, hc, hd⟩ := id hit
  obtain ⟨ol, hol, _, nl, hdl⟩ := hl
  obtain ⟨hh, o1, vs1, h1, d1, c1⟩ := hot
  unfold pyNext
  refine wpAny_bind (wpAny_attempt (wpAny_callSpecial?_slot (name := Str.ofString "__next__") hit.typeIs slot_listiter_next
    (wpAny_call_entry slot_listiter_next hit.typeIs entry_listiter_next ?_ (args_listiter_next _))))
  show wpAny _ _ (field (.ref it) 0 >>= _) _ _ s
  refine wpAny_bind (wpAny_field ho hd (x := .ref l) rfl ?_)
  show wpAny _ _ (if (Value.ref l == Value.none) = true then _ else _) _ _ s
  rw [if_neg (show ¬ ((Value.ref l == Value.none) = true) from Bool.false_ne_true)]
  show wpAny _ _ (field (.ref it) 1 >>= _) _ _ s
  refine wpAny_bind (wpAny_field ho hd (x := .int i 0) rfl ?_)
  show wpAny _ _ (seqItems? (.ref l) >>= _) _ _ s
  refine wpAny_bind (wpAny_seqItems hol hdl ?_)
  simp only [Int.toNat_natCast, hx]
  refine wpAny_bind (wpAny_rule (wpAny_bind (wpAny_setField ho hd (by simp) ?_)))
  show wpAny _ _ (newExc (.type "StopIteration") [] >>= _) _ _ _
  refine wpAny_bind ?_
  simp only [newExc, newTuple]
  refine wpAny_bind (wpAny_newObj_type ?_ (by size_fits))
  refine wpAny_bind (m := firstArgMember _ _) (wpAny_of_eq (a := Value.none) (by first | rfl | (simp only [firstArgMember]; rfl)) ?_)
  refine wpAny_newObj_type ?_ (by size_fits)
  have h1' : ∀ (f : Obj → Obj), (s.heap.update it f).get? x1 = some o1 := fun f => by
    rw [Heap.get?_update_other _ _ (Ne.symm hx1)]
    exact h1
  refine raiseNew_hot ⟨hh, o1, vs1, Heap.get?_push_of_some _ (Heap.get?_push_of_some _ (h1' _)), d1, c1⟩ (Nat.ne_of_lt (Heap.lt_size (Heap.get?_push_of_some _ (h1' _)))) (Heap.get?_push_size _ rfl) rfl (by first | (simp; done) | (simp; omega) | (simp only [Array.size_append]; simp; omega)) ?_
  refine wpAny_bind (wpAny_isInstance (T := "StopIteration") (b := true) ⟨_, Heap.get?_update_self _ (Heap.get?_push_size _ rfl) rfl, rfl⟩ isSubtype_stop ?_)
  refine wpAny_pure (hQ _ fun b o nb e => ?_)
  have e' : ∀ (f : Obj → Obj), (s.heap.update it f).get? b = some o := fun f => by
    rw [Heap.get?_update_other _ _ (Ne.symm nb)]
    exact e
  rw [Heap.get?_update_other _ _ (Nat.ne_of_gt (Heap.lt_size (Heap.get?_push_of_some _ (e' _))))]
  exact Heap.get?_push_of_some _ (Heap.get?_push_of_some _ (e' _))
section
variable {X : Cx}
/-- [elt for target in l], l a list, an exception handled -/
theorem pe_lcQ {elt tg iter : Expr} {scope : Scope} {own : List (Str × Nat)} {pos : Pos} {tl : TE} {g : TG} {te : TE} (hc : HotC X) (hN : X.N.Nodup) (hl : PE X iter tl) (ok : BlkOk X.N X.env.scope scope own)
    (hg : ∀ (s : Shared) (H : Hp) (C : Addr) (cl : List (Str × Addr)) (fp : List Addr), PG (X.blk s H scope (compEnvC scope cl C X.env) fp) tg g)
    (he : ∀ (s : Shared) (H : Hp) (C : Addr) (cl : List (Str × Addr)) (fp : List Addr), PE (X.blk s H scope (compEnvC scope cl C X.env) fp) elt te) (hs : ∀ x, foldedSetIterable iter X.env x = pure x := by intro _; rfl) :
    PE X (.ListComp elt [⟨tg, iter, [], 0⟩] scope pos) (tLc (iList X.K tl) g tYes te (own.map (·.2))) := by
  refine ⟨fun pins s σ H Q I h => ?_⟩
  obtain ⟨p, ⟨hh, v1, ep, cp⟩, hp⟩ := hc
  rw [eval_ListComp]
  have hfree : ∀ y ∈ scope.names, y.2 = .free → ∃ c, X.env.cells.lookup y.1 = some c := fun y hy e => by
    rcases ok.free y hy e with k | k
    · exact I.ok.has _ (.inl k)
    · exact I.ok.has _ (.inr k)
  refine wpAny_comprehension_free rfl hs (closure_ok hfree) ok.kind (fun y hy e => by rw [ok.uniq y hy, e])
    (thn (hl.run pins s σ H _ I h) fun xv s1 ⟨x, H2, I1, r1, q1⟩ => ?_)
  obtain ⟨a, e, ⟨xs0, hq0⟩, q⟩ := q1
  subst e
  cases r1
  obtain ⟨its0, rv0, pl0, hz0⟩ := I1.list hq0
  refine wpAny_pyIter_list pl0.isList ?_
  generalize hit : s1.heap.objs.size = it
  have I2 : Inv X pins σ H2 { s1 with heap := s1.heap.push { cls := .type "list_iterator", data := .fields #[.ref a, .int 0 0] } } := I1.kept (t' := s1.toks) fun b o e => Heap.get?_push_of_some _ e
  have st2 : ({ s1 with heap := s1.heap.push { cls := .type "list_iterator", data := .fields #[.ref a, .int 0 0] } } : Shared).heap.IsListIter it a 0 := by
    rw [← hit]
    exact ⟨_, Heap.get?_push_size _ rfl, rfl, rfl⟩
  have f2 : ∀ b ∈ [it], FpOk X pins H2 b := fun b hb => by
    have e : b = it := by simpa using hb
    rw [e, ← hit]
    exact I1.fpOk (Nat.le_refl _) (I1.hok.fresh (Nat.le_refl _))
  generalize hs2 : ({ s1 with heap := s1.heap.push { cls := .type "list_iterator", data := .fields #[.ref a, .int 0 0] } } : Shared) = s2 at I2 st2 ⊢
  have T : Turn X.prog X.w X.K tg (Itl X.K a) [it] it (fun i h => h.IsListIter it a i) := turn_list a it
  refine wpAny_newObj_type (newEnv_comp ?_) (by show 0 ≤ sizeLine; decide)
  generalize hD : s2.heap.objs.size = D
  have hDn : H2 D = none := I2.hok.fresh (Nat.le_of_eq hD)
  obtain ⟨W, ⟨m0, w0⟩, turn⟩ := q D hDn
  generalize hs3 : ({ s2 with heap := s2.heap.push { cls := .type "list", data := .seq ([] : List Value).toArray } } : Shared) = s3
  have I3 : Inv X pins σ (upd H2 D (.lst [])) s3 := by
    rw [← hs3]
    refine I2.laid (t' := s2.toks) (fun b o e => Heap.get?_push_of_some _ e) (Nat.le_of_eq hD) ⟨Nat.zero_le _, [], 0, .nil, ?_⟩
    rw [← hD]
    exact Heap.get?_push_size _ rfl
  have h3 : s3.heap = s2.heap.push { cls := .type "list", data := .seq ([] : List Value).toArray } := by rw [← hs3]
  have sz : ∀ b ∈ [it], b < s2.heap.objs.size := fun b hb => by
    obtain ⟨o, e, _⟩ := T.obj _ _ st2 b hb
    exact Heap.lt_size e
  have f3 : ∀ b ∈ [it], FpOk X pins (upd H2 D (.lst [])) b ∧ b < s3.heap.objs.size := fun b hb => by
    have hlt := sz b hb
    refine ⟨⟨?_, (f2 b hb).2⟩, by rw [h3, Heap.size_push]; exact Nat.lt_succ_of_lt hlt⟩
    rw [upd_ne (by rw [← hD]; exact Nat.ne_of_lt hlt)]
    exact (f2 b hb).1
  have st3 : s3.heap.IsListIter it a 0 := T.keep _ _ _ st2 fun b _ o e => by rw [h3]; exact Heap.get?_push_of_some _ e
  have I4 := block_start I3 ok hN f3
  have pg := hg s3 (upd H2 D (.lst [])) s3.heap.objs.size (cellsFrom (s3.heap.objs.size + 1) scope.names (cloFrom X.env.cells scope.names [])) [it]
  have pe := he s3 (upd H2 D (.lst [])) s3.heap.objs.size (cellsFrom (s3.heap.objs.size + 1) scope.names (cloFrom X.env.cells scope.names [])) [it]
  show codeAny _ _ (.compStart (.ListComp elt [⟨tg, iter, [], 0⟩] scope pos) 0 (.ref it) (.ref D) (compEnvC scope (cellsFrom (s3.heap.objs.size + 1) scope.names (cloFrom X.env.cells scope.names [])) s3.heap.objs.size X.env)) _ { s3 with heap := pushCells (s3.heap.push { cls := .type "dict", data := .dict #[] }) scope.names }
  have nfp : ∀ b ∈ [it], (upd H2 D (.lst [])) b = none := fun b hb => (f3 b hb).1.1
  have P3 := I3.pin p (List.mem_append_left _ hp)
  generalize hce : compEnvC scope (cellsFrom (s3.heap.objs.size + 1) scope.names (cloFrom X.env.cells scope.names [])) s3.heap.objs.size X.env = ce at I4 pg pe ⊢
  have cL : ce.locals = s3.heap.objs.size := by subst hce; rfl
  generalize hH3 : upd H2 D (.lst []) = H3 at I3 I4 pg pe w0 nfp f3 P3
  generalize hs4 : ({ s3 with heap := pushCells (s3.heap.push { cls := .type "dict", data := .dict #[] }) scope.names } : Shared) = s4 at I4 ⊢
  have st4 : s4.heap.IsListIter it a 0 := T.keep _ _ _ st3 fun b _ o e => by rw [← hs4]; exact pushCells_keeps _ _ _ _ (Heap.get?_push_of_some _ e)
  have pit : p.1 ≠ it := (f3 it (by simp)).1.2.2.2.2.2 p (List.mem_append_left _ hp)
  have stat : ∀ {σ' : L2.St} {H' : Hp} {s' : Shared}, Inv (X.blk s3 H3 scope ce [it]) [] σ' H' s' → (∀ b ∈ [it], H' b = none) → ∀ b ∈ [it], FpOk (X.blk s3 H3 scope ce [it]) [] H' b := fun {σ' H' s'} I' hn b hb =>
    ⟨hn b hb, (I'.ok.exf b hb).1, I'.ok.exfs b hb, .inl hb, fun x c e => (I'.ok.exf b hb).2 x c e, fun p hp => absurd (show p ∈ ([] : List (Addr × Obj)) ++ [] from hp) (by simp)⟩
  -- the handled exception stands in the block
  have hotB : ∀ {σ' : L2.St} {H' : Hp} {s' : Shared}, Inv (X.blk s3 H3 scope ce [it]) [] σ' H' s' → HotAt X.A p.1 s'.heap := fun {σ' H' s'} I' => by
    refine ⟨hh, p.2, v1, I'.base.keep p.1 p.2 P3.1 P3.2.1 (fun hm => ?_) (fun hm => pit (by simpa using hm)), ep, cp⟩
    exact (List.mem_cons.mp (I3.stkSub p.1 hm)).elim P3.2.2.1 P3.2.2.2.1
  have loop : codeAny (model X.prog X.w) X.A (.compLoop (.ListComp elt [⟨tg, iter, [], 0⟩] scope pos) 0 (.ref it) (.ref D) ce) (compPost (model X.prog X.w) X.A X.xe none (EP X pins σ Q) (.ref D) s3.heap.objs.size) s4 := by
    refine compLoop_any (fun n s' => ∃ i H', Inv (X.blk s3 H3 scope ce [it]) [] (wipe σ (own.map (·.2))) H' s' ∧ s'.heap.IsListIter it a i ∧ (∀ b ∈ [it], H' b = none) ∧ W i n H') ?_ m0 ⟨0, H3, I4, st4, nfp, w0⟩
    rintro n s5 ⟨i, H5, I5, st5, n5, w5⟩
    obtain ⟨g0, g1, g2, g3, g4, g5⟩ := stat I5 n5 it (by simp)
    rcases turn i n H5 w5 with ⟨stop, qq⟩ | ⟨go, Nx, hNx, step⟩
    · obtain ⟨xs, hq, hx⟩ := stop
      obtain ⟨its, rv, pl, hz⟩ := I5.list hq
      have hlen := rv.length
      refine list_end_hot (hotB I5) pit st5 pl.isList (by simp; omega) fun h' eb => ?_
      have I6 : Inv (X.blk s3 H3 scope ce [it]) [] (wipe σ (own.map (·.2))) H5 { s5 with heap := h' } := I5.turned (t' := s5.toks) (fun b o hb e => eb b o hb e) g0 g1 g3 g4 g5
      have I7 : Inv X pins σ H5 { s5 with heap := h' } := I3.call' (ch := [it]) I6.os I6.base I6.hok I6.bare fun b hb => ⟨(f3 b hb).1.2.2.2.1, (f3 b hb).1.2.1, (f3 b hb).1.2.2.2.2.1, (f3 b hb).1.2.2.2.2.2⟩
      have nC : H5 s3.heap.objs.size = none := by
        have z : H5 ce.locals = none := I6.free
        rw [cL] at z
        exact z
      obtain ⟨m, hn, _⟩ := I6.loc
      have hn : h'.Ns ce.locals m := hn
      rw [cL] at hn
      refine ⟨m, hn, fun h'' sb => ?_⟩
      obtain ⟨f0, f1, f2', f3', f4, f5⟩ := I3.fpOk (Nat.le_refl _) nC
      exact ⟨.ref D, H5, I7.turned (t' := s5.toks) (fun b o hb e => (sb.2 b hb).trans e) f0 f1 f3' f4 f5, rfl, qq⟩
    · obtain ⟨xs, x, hq, hx⟩ := go
      obtain ⟨its, rv, pl, hz⟩ := I5.list hq
      obtain ⟨u, hu, ru⟩ := rv.get hx
      refine wpAny_pyNext_list_item st5 pl.isList (x := u) (by simpa using hu) fun h' st' sb => ?_
      have I7 : Inv (X.blk s3 H3 scope ce [it]) [] (wipe σ (own.map (·.2))) H5 { s5 with heap := h' } := I5.turned (t' := s5.toks) (fun b o hb e => (sb.2 b hb).trans e) g0 g1 g3 g4 g5
      obtain ⟨o, e, c, d⟩ := id st'
      refine go_of (s := { s5 with heap := h' }) e c d (by decide) ?_
      have y7 : (Itl X.K a).yld i H5 x H5 := ⟨rfl, fun ys hy => by rw [I5.list_inj hy hq]; exact hx⟩
      have I7' := I7.pinned (stat I7 n5) (T.obj _ _ st')
      refine thnF (pg.run _ _ _ H5 x u _ I7' ru (step x H5 y7)) fun _ s8 ⟨σ8, H8, I8, hw8, q8⟩ => ?_
      refine wpAny_tests_nil ?_
      have q8 : te σ8 H8 fun y H4 => ∃ acc, H4 D = some (.lst acc) ∧ acc.length < sizeLine ∧ Nx (upd H4 D (.lst (acc ++ [y]))) := by
        simpa [tYes] using q8
      have fin : ∀ {s' : Shared} {H' : Hp}, Inv (X.blk s3 H3 scope ce [it]) ([] ++ pinsAt [it] h') σ8 H' s' → Nx H' → ∃ m, m < n ∧ ∃ i H', Inv (X.blk s3 H3 scope ce [it]) [] (wipe σ (own.map (·.2))) H' s' ∧ s'.heap.IsListIter it a i ∧ (∀ b ∈ [it], H' b = none) ∧ W i m H' := fun {s' H'} I' nx => by
        obtain ⟨m', hm, w'⟩ := hNx H' nx
        have pin' : ∀ b ∈ [it], ∀ o, h'.get? b = some o → s'.heap.get? b = some o ∧ H' b = none := fun b hb o e =>
          let z := I'.pin (b, o) (List.mem_append_right _ (List.mem_append_right _ (mem_pinsAt hb e)))
          ⟨z.1, z.2.1⟩
        have hl : (wipe σ (own.map (·.2))).length = σ8.length := by rw [← hw8, wipe_length]
        refine ⟨m', hm, i + 1, H', (I'.unpinned (pins := [])).weak hl (fun j v e => ?_), T.keep _ _ _ st' fun b hb o e => (pin' b hb o e).1, fun b hb => ?_, w'⟩
        · rw [← hw8] at e
          exact (wipe_some e).1
        · obtain ⟨o, e, _⟩ := T.obj _ _ st' b hb
          exact (pin' b hb o e).2
      show wpAny _ _ _ _ _ _
      refine thnF (pe.run _ s8 σ8 H8 _ I8 q8) fun z s10 ⟨yv, H10, I10, r10, acc, hD10, hz10, nx⟩ => ?_
      exact app_ok (X := X.blk s3 H3 scope ce [it]) I10 hD10 hz10 r10 fun s11 I11 => fin I11 nx
  exact codeAny_compStart_list loop (T.self X.A 0 _ _ _ st4 loop)
end
/-! ### defs that are handed what is handled -/
structure FnQ (P : Program) (w : World) (K : PySem.W.Frag) (mg : Str → Option Value) (base : Heap) (k : Nat) (f : Addr) (fd : FuncData) (ps : List Str) (sp : Addr × Obj → Sp) : Prop where
  len : ∀ p vs H Q E, sp p vs H Q E → vs.length = ps.length
  run : ∀ (A : Around) (outer : List Env) (s : Shared) (H : Hp) (args : Args) (us : List Value) (vs : List V) (Q : VK) (p : Addr × Obj), RoomH k A → Hot1 A p → PinOk outer H s p → Env0 P w K mg base A outer s H → BindsTo s fd args (ps.zip us) → Vals vs us → sp p vs H Q C8.E0 →
    codeAny (model P w) A (.call (.ref f) args) (CR C8.CX0 outer P w H s Q C8.E0) s
theorem fn_ofQ {P : Program} {w : World} {K : PySem.W.Frag} {mg : Str → Option Value} {base : Heap} {k : Nat} {x : Str} {st : Stmt} {f : Addr} {fd : FuncData} {N ps : List Str} {sp : Addr × Obj → Sp} (F : C8.Fun K x x st f fd) (S : FnScope N ps (C8.fnScope st))
    (len : ∀ p vs H Q E, sp p vs H Q E → vs.length = ps.length)
    (hbody : ∀ (cdv : Value) (A : Around) (outer : List Env) (s : Shared) (H : Hp) (vs : List V) (Q : VK) (p : Addr × Obj), Hot1 A p → RoomH k (A.deeper (envOfC x (C8.fnScope st) s.heap.objs.size f cdv)) → sp p vs H Q C8.E0 →
      ∃ t, PSs (cxH C8.CX0 P w K mg base N x (C8.fnScope st) f cdv A outer s H C8.E0 p) (C8.fnBody st) t ∧ t { nx := fun _ H' => Q .non H', rt := Q } (L2.start N vs) H) :
    FnQ P w K mg base (k + 1) f fd ps sp := by
  obtain ⟨oc, od, dV, kV, doc, pm, an, cdv, ct, osl, rfl, lk, hcd⟩ := F.ex
  refine ⟨len, fun A outer s H args us vs Q p hr hot hpin e0 hb r hsp => ?_⟩
  have hl := len _ _ _ _ _ hsp
  have KX : K.In s.heap := e0.mod.kin.keeps fun b o e => (e0.bs b o e).1
  have lim : s.heap.NoLimit := e0.mod.nolimit.keeps fun b o e => (e0.bs b o e).1
  have hkind : ∀ y ∈ ps.zip us, (C8.fnScope st).names.lookup y.1 = some .local ∨ ((C8.fnScope st).names.lookup y.1 = some .cell ∧ ((cellsFrom (s.heap.objs.size + 1) (C8.fnScope st).names []).lookup y.1).isSome = true) := fun ⟨n, v⟩ hy => by
    rcases S.par n (List.of_mem_zip hy).1 with q | q
    · exact .inl q
    · exact .inr ⟨q, PySem.W.cellsFrom_some _ _ _ (.inl q)⟩
  refine codeAny_call_function hr.depth (KX _ _ lk) rfl S.co S.gen rfl (PySem.W.codeRec_of KX hcd) (hb _ _ _ _ ?_)
  refine wpAny_newFunctionEnv_cells S.kind hkind fun env he s1 x1 => ?_
  subst he
  refine ⟨lim.keeps x1.toInCall.keep, codeAny_func ?_⟩
  obtain ⟨t, ht, hq⟩ := hbody cdv A outer s H vs Q p hot (hr.deeper _) hsp
  have I : Inv (cxH C8.CX0 P w K mg base N x (C8.fnScope st) f cdv A outer s H C8.E0 p) [] (L2.start N vs) H s1 := inv_startH S hpin e0 hl r x1
  refine wpAny_mono (ht.run [] s1 (L2.start N vs) H _ I hq) (fun fl s' hs => ?_) fun e s' hs => hs
  have fin : ∀ {σ' : L2.St} {H' : Hp} {v : V} {u : Value}, Inv (cxH C8.CX0 P w K mg base N x (C8.fnScope st) f cdv A outer s H C8.E0 p) [] σ' H' s' → L2.RelV v u → Q v H' → CE outer P w H s Q u s' :=
    fun {σ' H' v u} J rv q => ⟨v, H', J.os, J.bare, J.base, J.hok, rv, q⟩
  cases fl with
  | ret u =>
    obtain ⟨v, σ', H', J, rv, q⟩ := hs
    exact fin J rv q
  | next =>
    obtain ⟨σ', H', J, q⟩ := hs
    exact fin (v := V.non) (u := Value.none) J rfl q
  | brk =>
    obtain ⟨_, _, _, q⟩ := hs
    exact False.elim q
  | cont =>
    obtain ⟨_, _, _, q⟩ := hs
    exact False.elim q
section
variable {X : Cx} {k j : Nat} {f : Addr} {fd : FuncData} {ps : List Str} {sp : Addr × Obj → Sp} {x : Str} {q pos : Pos} {e : PySem.Expr} {es : List PySem.Expr} {t : TA}
theorem pe_callQ {p : Addr × Obj} (F : FnQ X.prog X.w X.K X.mg X.base k f fd ps sp) (hr : RoomH k X.A) (hot : Hot1 X.A p) (hp : p ∈ X.pn) (hg : Gl X x) (hm : X.mg x = some (.ref f)) (hk : PySem.W.keepIn X.K (.ref f) = true) (hb : Binds X.K fd ps [])
    (ha : PA X (e :: es) t) (hdb : (x == ("__debug__" : Str)) = false := by decide) (he : starEach (e :: es) X.env = (false, eval e X.env) :: starEach es X.env := by rfl) (hpl : (backTo pos (starEach es X.env)).any (·.1) = false := by rfl) :
    PE X (.Call (.Name x q) (e :: es) [] pos) (tCall (sp p) [] C8.E0 t) := by
  refine ⟨fun pins s σ H Q I h => ?_⟩
  refine wpAny_Call_Name_kw (ld_glob I hg hm ?_ hdb)
  refine PySem.W.callWith_K (h₀ := X.base) I.ok.mod.kin hk (thn (ha.run pos pins s σ H _ I h) fun us s1 ⟨vs, H1, I1, r, q⟩ => ⟨I1.kIn, ?_⟩) he hpl
  have q : sp p vs H1 Q C8.E0 := by simpa using q
  have hl : us.length = ps.length := by rw [← r.length]; exact F.len _ _ _ _ _ q
  have b := hb s1 us I1.kIn (by rw [List.append_nil]; exact hl)
  rw [List.append_nil] at b
  have P1 := I1.pin p (List.mem_append_left _ hp)
  have hpin : PinOk X.stack H1 s1 p := ⟨P1.1, P1.2.1, fun hm => (List.mem_cons.mp (I1.stkSub p.1 hm)).elim P1.2.2.1 P1.2.2.2.1, P1.2.2.2.2⟩
  refine wpAny_call (codeAny_mono (F.run X.A X.stack s1 H1 ⟨us, []⟩ us vs Q p hr hot hpin I1.env0 b r q) fun r s' hq => ?_)
  cases r with
  | error e => exact (show False from hq).elim
  | ok fl =>
    cases fl with
    | ret u => exact I1.after hq
    | next => exact False.elim hq
    | brk => exact False.elim hq
    | cont => exact False.elim hq
end
/-- the dict that an exception has, or has not -/
def DctX (H : Hp) : Option Addr → Prop
  | none => True
  | some dd => ∃ fs : List (Str × V), H dd = some (.xd fs)
/-- isinstance(e, c), e what is handled -/
def rIsP (K : PySem.W.Frag) (p : Addr × Obj) : List V → Hp → VK → Prop := fun xs H Q => ∃ (D : Addr) (d : Option Addr) (c : V) (cv : Value) (b : Bool), xs = [.ref p.1, c] ∧ Zc (.ref D) d p.2 ∧ (∃ vs, p.2.data = .fields vs) ∧ DctX H d ∧ ExcC K D ∧ (∀ u, RelV c u → u = cv) ∧
  kitOne K (.ref D) cv = some b ∧ Q (.bl b) H
theorem call_isP {X : Cx} {p : Addr × Obj} (hp : p ∈ X.pn) : CallR X (.builtin "isinstance") (rIsP X.K p) := by
  intro pins s σ H xs us Q I r h
  obtain ⟨D, d, c, cv, b, rfl, hz, hf, ed, C, hcv, e, q⟩ := h
  cases r with
  | cons rx rr =>
    cases rr with
    | cons rt rr =>
      cases rr
      cases rx
      have ec := hcv _ rt
      subst ec
      have hget := (I.pin p (List.mem_append_left _ hp)).1
      obtain ⟨vs, hv⟩ := hf
      cases d with
      | some dd =>
        obtain ⟨fs, ed⟩ := ed
        have hx : ObjOk X.prog X.w H s.heap dd (.xd fs) := I.hok dd _ ed
        obtain ⟨mA, hns, hr⟩ := hx
        obtain ⟨od, ho, hl⟩ := lookIn_ns hns
        have J : PySem.W.InstAt s.heap p.1 p.2 D (some od) := ⟨hget, hz.1, by unfold PySem.W.notCls; rw [hv] <;> rfl, by rw [hz.2]; exact ho⟩
        exact PySem.W.kia_one (kitx_O C) I.kIn J e (fun z => nomatch z) fun tk => ⟨.bl b, H, I.kept (t' := tk) fun _ _ z => z, rfl, q⟩
      | none =>
        have J : PySem.W.InstAt s.heap p.1 p.2 D none := ⟨hget, hz.1, by unfold PySem.W.notCls; rw [hv] <;> rfl, by rw [hz.2]; trivial⟩
        exact PySem.W.kia_one (kitx_O C) I.kIn J e (fun z => nomatch z) fun tk => ⟨.bl b, H, I.kept (t' := tk) fun _ _ z => z, rfl, q⟩
/-- a def called with what is handled -/
structure CalQ (P : Program) (w : World) (K : PySem.W.Frag) (mg : Str → Option Value) (base : Heap) (k : Nat) (x : Str) (sp : Addr × Obj → Sp) : Prop where
  ex : ∃ (f : Addr) (fd : FuncData) (ps : List Str), FnQ P w K mg base k f fd ps sp ∧ mg x = some (.ref f) ∧ PySem.W.keepIn K (.ref f) = true ∧ Binds K fd ps []
section
variable {X : Cx} {k j : Nat} {x : Str} {sp : Addr × Obj → Sp} {q pos : Pos} {e : PySem.Expr} {es : List PySem.Expr} {t : TA}
theorem pe_cq {p : Addr × Obj} (c : CalQ X.prog X.w X.K X.mg X.base k x sp) (hr : RoomH j X.A) (hk : k ≤ j) (hot : Hot1 X.A p) (hp : p ∈ X.pn) (hg : Gl X x) (ha : PA X (e :: es) t)
    (hdb : (x == ("__debug__" : Str)) = false := by decide) (he : starEach (e :: es) X.env = (false, eval e X.env) :: starEach es X.env := by rfl) (hpl : (backTo pos (starEach es X.env)).any (·.1) = false := by rfl) :
    PE X (.Call (.Name x q) (e :: es) [] pos) (tCall (sp p) [] C8.E0 t) := by
  obtain ⟨f, fd, ps, F, hm, kp, b⟩ := c.ex
  exact pe_callQ F (hr.mono hk) hot hp hg hm kp b ha hdb he hpl
end
section
variable {P : Program} {w : World} {K : PySem.W.Frag} {mg : Str → Option Value} {base : Heap}
theorem _root_.Esc.Dd.calQ {x : Str} {st : Stmt} {N ps : List Str} {k : Nat} {sp : Addr × Obj → Sp} (d : Dd K mg x st ps) (S : FnScope N ps (C8.fnScope st)) (len : ∀ p vs H Q E, sp p vs H Q E → vs.length = ps.length)
    (hbody : ∀ (f : Addr) (cdv : Value) (A : Around) (outer : List Env) (s : Shared) (H : Hp) (vs : List V) (Q : VK) (p : Addr × Obj), Hot1 A p → RoomH k (A.deeper (envOfC x (C8.fnScope st) s.heap.objs.size f cdv)) → sp p vs H Q C8.E0 →
      ∃ t, PSs (cxH C8.CX0 P w K mg base N x (C8.fnScope st) f cdv A outer s H C8.E0 p) (C8.fnBody st) t ∧ t { nx := fun _ H' => Q .non H', rt := Q } (L2.start N vs) H) : CalQ P w K mg base (k + 1) x sp := by
  obtain ⟨f, fd, F, b⟩ := d.ex
  exact ⟨f, fd, ps, fn_ofQ F.fn S len fun cdv A outer s H vs Q p hot hr h => hbody f cdv A outer s H vs Q p hot hr h, F.mgf, F.kp, b⟩
end
end Esc

/-! Own exceptions whose context is None; a lambda and more handed to a def that calls it within a try. -/
namespace Esc
open PySem PySem.W PySem.Calls PyProof.Rows PySem.Spec L2 LamX
section
variable {X : Cx} {p pos : Pos} {e : PySem.Expr} {es : List PySem.Expr} {ta : TA}
theorem pmk_oexN {CX : CXT} {x : Str} {C fI : Addr} {k : Nat} {fd : FuncData} {ps : List Str} {sp : Sp} (T : OexC X.K C) (iC : PySem.W.findIn X.K (.ref C) "__init__" = some (some (.ref fI))) (tI : PySem.W.typeIn X.K (.ref fI) = some (.type "function"))
    (F1 : FnOk X.prog X.w X.K X.mg X.base CX k fI fd ps sp) (hr : Room (k + 1) X.A) (hb : Binds X.K fd ps []) (hx : Passes CX X (fun _ _ _ => False)) (hg : Gl X x) (hm : X.mg x = some (.ref C)) (ha : PA X (e :: es) ta)
    (hdb : (x == ("__debug__" : Str)) = false := by decide) (he : starEach (e :: es) X.env = (false, eval e X.env) :: starEach es X.env := by rfl) (hpl : (backTo pos (starEach es X.env)).any (·.1) = false := by rfl) :
    L2N.PMk X (.Call (.Name x p) (e :: es) [] pos) (tMkO C sp [] ta) := by
  intro pins s σ H Q I h
  obtain ⟨nm, q, N, bs, bm, sn, sub, ab, col, dd, k0, k1, k2, k3, k5, hC, hbm⟩ := T.cls
  refine wpAny_Call_Name_kw (ld_glob I hg hm ?_ hdb)
  refine PySem.W.callWith_K (h₀ := X.base) I.ok.mod.kin T.kC (thn (ha.run pos pins s σ H _ I h) fun us s1 ⟨vs, H1, I1, r1, hz, q1⟩ => ⟨I1.kIn, ?_⟩) he hpl
  show wpAny _ _ (call (.ref C) us) _ _ _
  obtain ⟨hp, g, dr, tk, os⟩ := s1
  have hsz : hp.objs.size ≤ hp.objs.size + 1 := Nat.le_succ _
  have hn : H1 (hp.objs.size + 1) = none := I1.hok.fresh hsz
  have hq := q1 (hp.objs.size + 1) hn
  rw [List.append_nil] at hq
  have kk : ∀ b o, hp.get? b = some o → ((hp.push (PySem.W.kdv_tup us)).push (PySem.HandSPX.excO C hp.objs.size)).get? b = some o := fun b o e => Heap.get?_push_of_some _ (Heap.get?_push_of_some _ e)
  have hget : ((hp.push (PySem.W.kdv_tup us)).push (PySem.HandSPX.excO C hp.objs.size)).get? (hp.objs.size + 1) = some (PySem.HandSPX.excO C hp.objs.size) := by heap_get
  have I2 : Inv X pins σ (upd H1 (hp.objs.size + 1) (exo (hp.objs.size + 1) C none)) ⟨(hp.push (PySem.W.kdv_tup us)).push (PySem.HandSPX.excO C hp.objs.size), g, dr, tk, os⟩ :=
    I1.laid (t' := tk) (a := hp.objs.size + 1) (o := exo (hp.objs.size + 1) C none) (h' := (hp.push (PySem.W.kdv_tup us)).push (PySem.HandSPX.excO C hp.objs.size)) kk hsz (exo_ok hget)
  have r2 : Vals (V.ref (hp.objs.size + 1) :: vs) (Value.ref (hp.objs.size + 1) :: us) := .cons rfl r1
  have hl : (Value.ref (hp.objs.size + 1) :: us ++ []).length = ps.length := by
    have e := r2.length
    rw [F1.len _ _ _ _ hq] at e
    rw [List.append_nil]
    exact e.symm
  have hus : us.length ≤ sizeLine := by
    rw [← Paired.length r1, sizeLine_eq]
    omega
  have b2 := hb _ (Value.ref (hp.objs.size + 1) :: us) I2.kIn hl
  rw [List.append_nil] at b2
  refine wpAny_call (PySem.HandSPX.call_own F.excBase_ValueError (fun Y => PySem.HandSPX.refsVE_contains Y bm hbm) (I1.kIn _ _ hC) (PySem.W.looks_findIn I1.kIn iC) (fun self => PySem.W.bind_fn I1.kIn self tI) hus
    (codeAny_mono (F1.run _ X.stack _ _ ⟨Value.ref (hp.objs.size + 1) :: us, []⟩ (Value.ref (hp.objs.size + 1) :: us) _ _ (fun _ _ _ => False) (hr.make C us []) (I2.env0.make C us []) b2 r2 hq) fun r s' hq' => ?_))
  cases r with
  | error er => exact hx pins σ _ _ er s' I2 hq'
  | ok fl =>
    cases fl with
    | ret u =>
      obtain ⟨v, H2, os2, bare2, un2, hok2, rv, ev, d, fs, ea, ed, hd1, q2⟩ := hq'
      subst ev
      obtain ⟨h2, g2, d2, t2, os'⟩ := s'
      obtain ⟨t0, G, J, kG, ge, hoe, na⟩ := mk_end0 (d2 := d2) (t2 := t2) I1 hsz kk un2 hok2 os2 bare2 ea ed hd1
      refine ⟨rv, hp.objs.size + 1, _, _, ⟨G, g2, d2, t2, os'⟩, _, .ref C, some d, rfl, J, kG, ge, hoe, ⟨rfl, rfl, fun vs hv => ?_⟩, rfl, rfl, na, rfl, bare2, raises_own T.exC T.tyC, q2⟩
      cases hv
      rfl
    | next => exact False.elim hq'
    | brk => exact False.elim hq'
    | cont => exact False.elim hq'
end
section
variable {X : Cx} {p pos : Pos} {e : PySem.Expr} {ta : TA} {x fld : Str} {C D : Addr} {good : V → Prop} {k j : Nat}
/-- x(e), x such a class -/
theorem pmk_xN (E : ExX X.prog X.w X.K X.mg X.base k x C D fld good) (hr : Room j X.A) (hk : k + 1 ≤ j) (hg : Gl X x) (ha : PA X [e] ta)
    (hdb : (x == ("__debug__" : Str)) = false := by decide) (he : starEach [e] X.env = (false, eval e X.env) :: starEach [] X.env := by rfl) (hpl : (backTo pos (starEach [] X.env)).any (·.1) = false := by rfl) :
    L2N.PMk X (.Call (.Name x p) [e] [] pos) (tMkO C (spInit X.K D fld good) [] ta) := by
  obtain ⟨fI, fd, prm, iC, tI, F1, hb⟩ := E.fn
  exact pmk_oexN E.T iC tI F1 (hr.mono hk) hb C8.pass0 hg E.gm ha hdb he hpl
theorem ps_raXN {W : WX} {pos2 : Pos} {m : L2.St → Hp → XK → Prop} (hc : X.calm = true) (tk : L2N.Takes X W) (h : L2N.PMk X e m) : PS X (.Raise (some e) none pos2) (tRaX m W) := L2N.ps_raise hc tk h
end
/-! ### defs that may let an exception out, its context None -/
structure CalXN (P : Program) (w : World) (K : PySem.W.Frag) (mg : Str → Option Value) (base : Heap) (k : Nat) (x : Str) (sp : Sp) : Prop where
  ex : ∃ (f : Addr) (fd : FuncData) (ps : List Str), FnOk P w K mg base (L2N.CX P w) k f fd ps sp ∧ mg x = some (.ref f) ∧ PySem.W.keepIn K (.ref f) = true ∧ Binds K fd ps []
theorem passLN {P : Program} {w : World} {X : Cx} : Passes (L2N.CX P w) X C8.E0 := fun _ _ _ _ _ _ _ c => by
  obtain ⟨_, _, _, _, _, _, _, _, _, _, _, _, z⟩ := c
  exact False.elim z
section
variable {X : Cx} {k j : Nat} {x : Str} {sp : Sp} {p pos : Pos} {e : PySem.Expr} {es : List PySem.Expr} {t : TA}
/-- called where it lets nothing out -/
theorem pe_cxN (c : CalXN X.prog X.w X.K X.mg X.base k x sp) (hr : Room j X.A) (hk : k ≤ j) (hg : Gl X x) (ha : PA X (e :: es) t)
    (hdb : (x == ("__debug__" : Str)) = false := by decide) (he : starEach (e :: es) X.env = (false, eval e X.env) :: starEach es X.env := by rfl) (hpl : (backTo pos (starEach es X.env)).any (·.1) = false := by rfl) :
    PE X (.Call (.Name x p) (e :: es) [] pos) (tCall sp [] C8.E0 t) := by
  obtain ⟨f, fd, ps, F, hm, kp, b⟩ := c.ex
  exact pe_call F (hr.mono hk) hg hm kp b .nil passLN ha hdb he hpl
/-- called where it may let something out -/
theorem pe_cxsN {E : L2.St → XK} (c : CalXN X.prog X.w X.K X.mg X.base k x sp) (hr : Room j X.A) (hk : k ≤ j) (hg : Gl X x) (hx : ∀ σ, PassesAt (L2N.CX X.prog X.w) X σ (E σ)) (ha : PA X (e :: es) t)
    (hdb : (x == ("__debug__" : Str)) = false := by decide) (he : starEach (e :: es) X.env = (false, eval e X.env) :: starEach es X.env := by rfl) (hpl : (backTo pos (starEach es X.env)).any (·.1) = false := by rfl) :
    PE X (.Call (.Name x p) (e :: es) [] pos) (tCallS sp E t) := by
  obtain ⟨f, fd, ps, F, hm, kp, b⟩ := c.ex
  exact pe_callS F (hr.mono hk) hg hm kp b hx ha hdb he hpl
end
section
variable {P : Program} {w : World} {K : PySem.W.Frag} {mg : Str → Option Value} {base : Heap}
theorem fnxN {x qual : Str} {st : Stmt} {f : Addr} {fd : FuncData} {N ps : List Str} {k : Nat} {sp : Sp} (F : C8.Fun K x qual st f fd) (S : FnScope N ps (C8.fnScope st)) (len : ∀ vs H Q E, sp vs H Q E → vs.length = ps.length)
    (hbody : ∀ (cdv : Value) (A : Around) (outer : List Env) (s : Shared) (H : Hp) (vs : List V) (Q : VK) (E : XK), Room k (A.deeper (envOfC qual (C8.fnScope st) s.heap.objs.size f cdv)) → sp vs H Q E →
      ∃ t, PSs (cxOf (L2N.CX P w) P w K mg base N qual (C8.fnScope st) f cdv A outer s H E) (C8.fnBody st) t ∧ t { nx := fun _ H' => Q .non H', rt := Q } (L2.start N vs) H) : FnOk P w K mg base (L2N.CX P w) (k + 1) f fd ps sp := by
  obtain ⟨oc, od, dV, kV, doc, pm, an, cdv, ct, osl, rfl, lk, hcd⟩ := F.ex
  exact fn_of lk hcd S len fun A outer s H vs Q E hr hsp => hbody cdv A outer s H vs Q E hr hsp
theorem _root_.Esc.Dd.calXN {x : Str} {st : Stmt} {N ps : List Str} {k : Nat} {sp : Sp} (d : Dd K mg x st ps) (S : FnScope N ps (C8.fnScope st)) (len : ∀ vs H Q E, sp vs H Q E → vs.length = ps.length)
    (hbody : ∀ (f : Addr) (cdv : Value) (A : Around) (outer : List Env) (s : Shared) (H : Hp) (vs : List V) (Q : VK) (E : XK), Room k (A.deeper (envOfC x (C8.fnScope st) s.heap.objs.size f cdv)) → sp vs H Q E →
      ∃ t, PSs (cxOf (L2N.CX P w) P w K mg base N x (C8.fnScope st) f cdv A outer s H E) (C8.fnBody st) t ∧ t { nx := fun _ H' => Q .non H', rt := Q } (L2.start N vs) H) : CalXN P w K mg base (k + 1) x sp := by
  obtain ⟨f, fd, F, b⟩ := d.ex
  exact ⟨f, fd, ps, fnxN F.fn S len fun cdv A outer s H vs Q E hr h => hbody f cdv A outer s H vs Q E hr h, F.mgf, F.kp, b⟩
end
/-- the context of a lambda's body, entered at s from the frames outer -/
def lamCxN (X : Cx) (A : Around) (outer : List Env) (s : Shared) (H : Hp) (E : XK) (scope : Scope) (f c' : Addr) : Cx :=
  (lamCx X A outer s H E scope f c').wish fun e s' => wpAny (model X.prog X.w) (A.deeper (lamEnv X scope s.heap.objs.size f c')) (leaving (lamEnv X scope s.heap.objs.size f c') e) (fun _ s'' => L2N.CX X.prog X.w outer H s E e s'') (fun e' s'' => L2N.CX X.prog X.w outer H s E e' s'') s'
section
variable {X : Cx} {pins : List (Addr × Obj)} {σ : L2.St} {H HZ : Hp} {s s1 : Shared}
/-- x(), in the def that got the lambda: Z is that def's context, entered at s -/
theorem pe_actN {CXg : CXT} {Eg : XK} {Ng : List Str} {qg : Str} {sg : Scope} {g f c' : Addr} {cdg pm ctv : Value} {params : Arguments} {body : Expr} {scope : Scope} {k i : Nat} {a : Str} {pn : List (Addr × Obj)} {xe : Value → Shared → Prop} {W : WX} {tb : XK → TE} {p1 p2 : Pos}
    (I : Inv X pins σ H s) (L : LamS X.env.scope scope) (hf : s.heap.get? f = some (PySem.W.kla_obj "<lambda>" (X.env.qual ++ "<lambda>") params body scope (cloFrom X.env.cells scope.names []) pm c' ctv)) (hfn : H f = none) (hfr : f ∉ frs X.stack)
    (hbind : bindArgs (PySem.W.kla_fn "<lambda>" (X.env.qual ++ "<lambda>") params body scope (cloFrom X.env.cells scope.names []) pm (.ref c') ctv) ⟨[], []⟩ = pure [])
    (tk : L2N.Takes ((cxOf CXg X.prog X.w X.K X.mg X.base Ng qg sg g cdg X.A X.stack s H Eg).tr pn xe) W) (hr : Room (k + 1) (X.A.deeper (envOfC qg sg s.heap.objs.size g cdg)))
    (hbody : ∀ (A : Around) (outer : List Env) (s : Shared) (H : Hp) (E : XK), Room k (A.deeper (lamEnv X scope s.heap.objs.size f c')) → PE (lamCxN X A outer s H E scope f c') body (tb E))
    (hN : Ng[i]? = some a) (hv : Vis sg a) (hd : (a == ("__debug__" : Str)) = false := by decide) (hcd : (a == ("__classdict__" : Str)) = false := by decide) :
    PE ((cxOf CXg X.prog X.w X.K X.mg X.base Ng qg sg g cdg X.A X.stack s H Eg).tr pn xe) (.Call (.Name a p1) [] [] p2)
      (fun σZ HZ Q => ∃ E : XK, (∀ cls d H', E cls d H' → W cls d σZ H') ∧ σZ[i]? = some (some (.ref f)) ∧ HZ c' = some (CodeO c' (X.env.qual ++ "<lambda>")) ∧ tb E σ HZ Q) := by
  refine ⟨fun pinsZ sZ σZ HZ Q IZ h => ?_⟩
  obtain ⟨E, hW, hs, hc, ht⟩ := h
  refine wpAny_Call_Name_kw (thn ((pe_var (pos := p1) (i := i) hN hv hd hcd).run pinsZ sZ σZ HZ (fun v H1 => v = .ref f ∧ H1 = HZ) IZ ⟨.ref f, hs, rfl, rfl⟩) fun u s1 ⟨v, H1, I1, r1, q1⟩ => ?_)
  obtain ⟨ev, eH⟩ := q1
  subst ev
  rw [eH] at I1
  obtain rfl : u = Value.ref f := r1
  have of1 : s1.heap.get? f = some (PySem.W.kla_obj "<lambda>" (X.env.qual ++ "<lambda>") params body scope (cloFrom X.env.cells scope.names []) pm c' ctv) := I1.base.keep f _ hf hfn hfr (fun z => nomatch (show f ∈ ([] : List Addr) from z))
  refine PySem.W.callWith_F0 ⟨_, _, _, _, of1⟩ ?_
  have un : Un (frs X.stack) [] H HZ s.heap s1.heap := I1.base
  obtain ⟨⟨oc, vs, t, hoc, hdc, hvc⟩, _, _⟩ := I1.hok c' _ hc
  have rc : codeAny (model X.prog X.w) (X.A.deeper (envOfC qg sg s.heap.objs.size g cdg)) (.call (.ref f) ⟨[], []⟩) (CR (L2N.CX X.prog X.w) (envOfC qg sg s.heap.objs.size g cdg :: X.stack) X.prog X.w HZ s1 Q E) s1 := by
    refine PySem.W.kla_callFunE hr.depth of1 rfl L.co L.gen rfl ⟨c', oc, vs, t, rfl, hoc, hdc, hvc⟩ ?_
    rw [hbind]
    refine wpAny_pure (wpAny_newFunctionEnv (fun y hy => (L.own y hy).2) (fun y hy => absurd hy (by simp)) (fun h₁ hns hsb => ⟨I1.nolimit.fresh _ hsb, ?_⟩) L.kind)
    show codeAny _ _ (.expr body (lamEnv X scope s1.heap.objs.size f c')) _ _
    have kp : ∀ b o, s1.heap.get? b = some o → h₁.get? b = some o := fun b o e => hsb.extBut b o (Nat.ne_of_lt (Heap.lt_size e)) (Heap.get?_push_of_some _ e)
    have J : Inv (lamCxN X (X.A.deeper (envOfC qg sg s.heap.objs.size g cdg)) (envOfC qg sg s.heap.objs.size g cdg :: X.stack) s1 HZ E scope f c') [] σ HZ { s1 with heap := h₁, toks := s1.toks + ([] : List (Str × Value)).length } :=
      (lam_start2 I L I1.env0 hr.hd un hns kp).wish _
    refine PySem.W.kla_codeExpr (wpAny_mono ((hbody _ _ s1 HZ E (hr.deeper _)).run [] _ _ HZ Q J ht) (fun v s' hq => ?_) fun e s' hq => hq)
    obtain ⟨w', H', J', rv, q⟩ := hq
    exact ⟨w', H', J'.os, J'.bare, J'.base, J'.hok, rv, q⟩
  refine wpAny_call (codeAny_mono rc fun r s' hq => ?_)
  cases r with
  | error e => exact tk e s' (L2N.XE.of_call I1 hW hq)
  | ok fl =>
    cases fl with
    | ret u => exact I1.after hq
    | next => exact False.elim hq
    | brk => exact False.elim hq
    | cont => exact False.elim hq
end
/-- the def that calls what it got first; the rest of what it got: vs2 -/
def GivesTo3 (X : Cx) (Ng : List Str) (x : Str) (sg : Scope) (g : Addr) (cdg : Value) (bg : List Stmt) (a : Str) (q : Str) (vs2 : List V) (TT : (XK → Hp → VK → Prop) → Hp → VK → Prop) : Prop :=
  ∀ (f c' : Addr) (s : Shared) (H : Hp) (Q : VK) (tl : XK → Hp → VK → Prop), Room 5 (X.A.deeper (envOfC x sg s.heap.objs.size g cdg)) →
    (∀ (W : WX) (pn : List (Addr × Obj)) (xe : Value → Shared → Prop) (p1 p2 : Pos), L2N.Takes ((cxOf C8.CX0 X.prog X.w X.K X.mg X.base Ng x sg g cdg X.A X.stack s H C8.E0).tr pn xe) W →
      PE ((cxOf C8.CX0 X.prog X.w X.K X.mg X.base Ng x sg g cdg X.A X.stack s H C8.E0).tr pn xe) (.Call (.Name a p1) [] [] p2) (fun σZ HZ Q => ∃ E : XK, (∀ cls d H', E cls d H' → W cls d σZ H') ∧ σZ[0]? = some (some (.ref f)) ∧ HZ c' = some (CodeO c' q) ∧ tl E HZ Q)) →
    H c' = some (CodeO c' q) → TT tl H Q →
    ∃ t, PSs (cxOf C8.CX0 X.prog X.w X.K X.mg X.base Ng x sg g cdg X.A X.stack s H C8.E0).nox bg t ∧ t { nx := fun _ H' => Q .non H', rt := Q } (L2.start Ng (.ref f :: vs2)) H
def tLam3 (T : List (Addr × Str)) (n : Nat) (TT : List V → (XK → Hp → VK → Prop) → Hp → VK → Prop) (ta : TA) (t : XK → TE) : TE := fun σ H Q => Tabs T H ∧ ∀ H1, ExtN H H1 → Tabs T H1 → ta σ H1 fun vs H2 => H2 = H1 ∧ vs.length = n ∧ TT vs (fun E H' Q' => t E σ H' Q') H1 Q
section
variable {X : Cx}
theorem pin_more {pins : List (Addr × Obj)} {σ : L2.St} {H : Hp} {s : Shared} {f : Addr} {o : Obj} (I : Inv X pins σ H s) (ho : s.heap.get? f = some o) (hn : H f = none) (h1 : f ≠ X.env.locals) (h2 : f ∉ X.fs) (h3 : ∀ v, o.data ≠ .cell v) : Inv X (pins ++ [(f, o)]) σ H s := by
  have hpin : ∀ p ∈ X.pn ++ (pins ++ [(f, o)]), s.heap.get? p.1 = some p.2 ∧ H p.1 = none ∧ p.1 ≠ X.env.locals ∧ p.1 ∉ X.fs ∧ ∀ v, p.2.data ≠ .cell v := fun p hp => by
    rw [← List.append_assoc] at hp
    rcases List.mem_append.mp hp with z | z
    · exact I.pin p z
    · have e : p = (f, o) := by simpa using z
      rw [e]
      exact ⟨ho, hn, h1, h2, h3⟩
  exact { I with pin := hpin }
theorem pin_less {pins more : List (Addr × Obj)} {σ : L2.St} {H : Hp} {s : Shared} (I : Inv X (pins ++ more) σ H s) : Inv X pins σ H s := by
  have hpin : ∀ p ∈ X.pn ++ pins, s.heap.get? p.1 = some p.2 ∧ H p.1 = none ∧ p.1 ≠ X.env.locals ∧ p.1 ∉ X.fs ∧ ∀ v, p.2.data ≠ .cell v := fun p hp => I.pin p (by
    rw [← List.append_assoc]
    exact List.mem_append_left _ hp)
  exact { I with pin := hpin }
/-- x(lambda: body, ..) -/
theorem pe_lam3 {T : List (Addr × Str)} {TT : List V → (XK → Hp → VK → Prop) → Hp → VK → Prop} {x a : Str} {g c P : Addr} {pg : Arguments} {bg : List Stmt} {sg : Scope} {dV kV doc pm cdv ct oc : Value} {an od : Option Addr} {osl : Array (Option Value)} {Ng ps : List Str}
    {params : Arguments} {body : Expr} {scope : Scope} {t : XK → TE} {es : List Expr} {ta : TA} {p lpos pos : Pos} (hg : Gl X x) (hm : X.mg x = some (.ref g)) (hk : PySem.W.keepIn X.K (.ref g) = true)
    (lk : X.K.lookup g = some ⟨oc, od, .func (PySem.W.fnOf x x pg bg sg dV kV doc pm an cdv ct), osl⟩) (hcg : PySem.W.codeIn X.K cdv x = true) (hb : L2.Binds X.K (PySem.W.fnOf x x pg bg sg dV kV doc pm an cdv ct) (a :: ps) []) (Sg : FnScope Ng (a :: ps) sg) (hNg : Ng[0]? = some a) (hva : Vis sg a)
    (hG : ∀ vs, vs.length = ps.length → GivesTo3 X Ng x sg g cdv bg a (X.env.qual ++ "<lambda>") vs (TT vs))
    (TB : TabB X.base X.mg c P) (hcode : X.env.code = .ref c) (hmT : (P, X.env.qual ++ "<lambda>") ∈ T) (hu : ∀ p ∈ T, p.1 = P → p.2 = X.env.qual ++ "<lambda>") {k : Nat} (hk3 : 3 ≤ k) (hr : Room (k + 3) X.A) (L : LamS X.env.scope scope) (hdef : defaultsOf params X.env = ([], []))
    (hbind : ∀ (q : Str) (cl : List (Str × Addr)) (pm cv ctv : Value), bindArgs (PySem.W.kla_fn "<lambda>" q params body scope cl pm cv ctv) ⟨[], []⟩ = pure [])
    (hbody : ∀ (A : Around) (outer : List Env) (s : Shared) (H : Hp) (E : XK) (f c' : Addr), Room k (A.deeper (lamEnv X scope s.heap.objs.size f c')) → PE (lamCxN X A outer s H E scope f c') body (t E))
    (ha : PA X es ta) (hst : X.stack = X.env :: X.outer) (hfm : X.env.frame = some X.env.locals)
    (hs : starEach (.Lambda params body scope lpos :: es) X.env = (false, eval (.Lambda params body scope lpos) X.env) :: starEach es X.env := by rfl) (hpl : (backTo pos (starEach es X.env)).any (·.1) = false := by rfl)
    (hdb : (x == ("__debug__" : Str)) = false := by decide) (hd : (a == ("__debug__" : Str)) = false := by decide) (hcd : (a == ("__classdict__" : Str)) = false := by decide) :
    PE X (.Call (.Name x p) (.Lambda params body scope lpos :: es) [] pos) (tLam3 T ps.length TT ta t) := by
  refine ⟨fun pins s σ H Q I h => ?_⟩
  obtain ⟨hT, h⟩ := h
  refine wpAny_Call_Name_kw (ld_glob I hg hm ?_ hdb)
  refine PySem.W.callWith_K (h₀ := X.base) I.ok.mod.kin hk ?_ hs hpl
  show wpAny _ _ (spliced ((false, eval (.Lambda params body scope lpos) X.env) :: backTo pos (starEach es X.env))) _ _ s
  refine Calls.spliced_cons (lam_make2 I TB hcode hmT hu hT hdef (L.has I.ok) fun f c' pm' ctv H1 s' I1 eN T1 hf hfn hfr hco => ?_)
  have hloc : f ≠ X.env.locals := fun z => hfr (by
    rw [hst]
    exact List.mem_filterMap.mpr ⟨X.env, List.mem_cons_self, by rw [hfm, z]⟩)
  have hfs : f ∉ X.fs := fun hm => hfr (by
    rw [hst]
    obtain ⟨e, he, q⟩ := List.mem_filterMap.mp hm
    exact List.mem_filterMap.mpr ⟨e, List.mem_cons_of_mem _ he, q⟩)
  have I1' := pin_more I1 hf hfn hloc hfs (fun v z => by cases z)
  refine thn (ha.run pos _ s' σ H1 _ I1' (h H1 eN T1)) fun us s2 ⟨vs, H2, I2', r, e2, hl, q⟩ => ?_
  subst e2
  have hf2 := (I2'.pin (f, _) (List.mem_append_right _ (List.mem_append_right _ (List.mem_singleton_self _)))).1
  have I2 := pin_less I2'
  refine ⟨I2.kIn, ?_⟩
  have hlu : us.length = ps.length := by rw [← r.length]; exact hl
  have rc : codeAny (model X.prog X.w) X.A (.call (.ref g) ⟨.ref f :: us, []⟩) (CR C8.CX0 X.stack X.prog X.w H2 s2 Q C8.E0) s2 := by
    have b := hb s2 (.ref f :: us) I2.kIn (by rw [List.append_nil]; simp [hlu])
    rw [List.append_nil] at b
    refine run_ofS (N := Ng) (ps := a :: ps) (us := .ref f :: us) (vs := .ref f :: vs) lk hcg Sg hr I2.env0 b (.cons rfl r) (by simp [hl]) fun hr' => ?_
    obtain ⟨t', ht', hq'⟩ := hG vs hl f c' s2 H2 Q (fun E H' Q' => t E σ H' Q') (hr'.mono (by omega)) (fun W pn xe p1 p2 tk => pe_actN (i := 0) (tb := t) I2 L hf2 hfn hfr (hbind _ _ _ _ _) tk (hr'.mono (by omega)) (fun A outer s H E hr2 => hbody A outer s H E f c' hr2) hNg hva hd hcd) hco q
    exact ⟨t', ht'.nox, hq'⟩
  refine wpAny_call (codeAny_mono rc fun r s2 hq => ?_)
  cases r with
  | error e => exact (show False from hq).elim
  | ok fl =>
    cases fl with
    | ret u => exact I2.after hq
    | next => exact False.elim hq
    | brk => exact False.elim hq
    | cont => exact False.elim hq
end
/-! ### within an except suite -/
def tMono (t : TA) : TA := fun σ H Q => ∃ R : List V → Hp → Prop, t σ H R ∧ ∀ vs H', R vs H' → Q vs H'
theorem pa_mono {X : Cx} {es : List PySem.Expr} {t : TA} (h : PA X es t) : PA X es (tMono t) := ⟨fun pos pins s σ H Q I hw => by
  obtain ⟨R, h1, h2⟩ := hw
  exact thn (h.run pos pins s σ H R I h1) fun us s1 ⟨vs, H1, I1, r, q⟩ => ⟨vs, H1, I1, r, h2 _ _ q⟩⟩
def tCallP (a : Addr) (cls : Value) (d : Option Addr) (sp : Addr × Obj → Sp) (t : TA) : TE := fun σ H Q => t σ H fun vs H1 => ∀ oe : Obj, L2N.Zn cls d oe → (∃ us, oe.data = .fields us) → sp (a, oe) vs H1 Q C8.E0
theorem hot_suite {X : Cx} {a : Addr} {oe : Obj} {cls : Value} {d : Option Addr} {pn : List (Addr × Obj)} (hz : L2N.Zn cls d oe) (hf : ∃ vs, oe.data = .fields vs) : L2H.Hot1 (X.suite a ((a, oe) :: pn)).A (a, oe) := by
  obtain ⟨vs, e⟩ := hf
  exact ⟨rfl, vs, e, hz.2.2 vs e⟩
theorem pe_cqP {X : Cx} {k j : Nat} {x : Str} {sp : Addr × Obj → Sp} {q pos : Pos} {e : PySem.Expr} {es : List PySem.Expr} {t : TA} {a : Addr} {oe : Obj} {cls : Value} {d : Option Addr} {pn : List (Addr × Obj)} (c : CalQ X.prog X.w X.K X.mg X.base k x sp) (hr : Room j X.A) (hk : k ≤ j)
    (hz : L2N.Zn cls d oe) (hf : ∃ vs, oe.data = .fields vs) (hg : Gl X x) (ha : PA (X.suite a ((a, oe) :: pn)) (e :: es) t)
    (hdb : (x == ("__debug__" : Str)) = false := by decide) (he : starEach (e :: es) X.env = (false, eval e X.env) :: starEach es X.env := by rfl) (hpl : (backTo pos (starEach es X.env)).any (·.1) = false := by rfl) :
    PE (X.suite a ((a, oe) :: pn)) (.Call (.Name x q) (e :: es) [] pos) (tCallP a cls d sp t) :=
  ⟨fun pins s σ H Q I h => (pe_cq (X := X.suite a ((a, oe) :: pn)) (p := (a, oe)) c (L2H.roomH_mark (hr.mono hk) _) (Nat.le_refl _) (hot_suite hz hf) List.mem_cons_self hg (pa_mono ha) hdb he hpl).run pins s σ H Q I ⟨_, h, fun vs H' r => by
    show sp (a, oe) (vs ++ []) H' Q C8.E0
    rw [List.append_nil]
    exact r oe hz hf⟩⟩
def tOr (t u : TE) : TE := fun σ H Q => t σ H Q ∨ u σ H Q
theorem pe_or2 {X : Cx} {e : PySem.Expr} {t u : TE} (h : PE X e t) (h' : PE X e u) : PE X e (tOr t u) := ⟨fun pins s σ H Q I hw => hw.elim (h.run pins s σ H Q I) (h'.run pins s σ H Q I)⟩
instance {a : Addr} {cls : Value} {d : Option Addr} {sp : Addr × Obj → Sp} {t : TA} {σ : L2.St} {H : Hp} {Q : VK} : Step (tCallP a cls d sp t σ H Q) (t σ H fun vs H1 => ∀ oe : Obj, L2N.Zn cls d oe → (∃ us, oe.data = .fields us) → sp (a, oe) vs H1 Q C8.E0) := ⟨fun h => h⟩
theorem takes0N {X : Cx} : L2N.Takes X (fun _ _ _ _ => False) := fun _ _ x => by
  obtain ⟨_, _, _, _, _, _, _, _, _, _, _, _, _, _, _, _, z⟩ := x
  exact z.elim
end Esc

/-! A lambda with one parameter that has a whole number as its default. -/
namespace Esc
open PySem PySem.W PySem.Calls PyProof.Rows PySem.Spec L2 LamX
section
variable {X : Cx} {pins : List (Addr × Obj)} {σ : L2.St} {H : Hp} {s : Shared}
/-- it is made: its code object is new, or found in the table; t: the tuple of its default -/
theorem lam_makeD {T : List (Addr × Str)} {c P : Addr} {params : Arguments} {body : PySem.Expr} {scope : Scope} {pos p0 : Pos} {Q : Value → Shared → Prop} {i0 : Int} {k0 : Nat} (I : Inv X pins σ H s) (TB : TabB X.base X.mg c P) (hcode : X.env.code = .ref c)
    (hm : (P, X.env.qual ++ "<lambda>") ∈ T) (hu : ∀ p ∈ T, p.1 = P → p.2 = X.env.qual ++ "<lambda>") (hT : Tabs T H) (hd : params.defaults = [.Constant (.int i0) k0 p0]) (hk : params.kw_defaults = []) (hfree : ∀ y ∈ scope.names, y.2 = .free → ∃ c, X.env.cells.lookup y.1 = some c)
    (h : ∀ (f c' t : Addr) (tk0 : Tok) (doc pm ctv : Value) (H1 : Hp) (s' : Shared), Inv X pins σ H1 s' → ExtN H H1 → Tabs T H1 →
      s'.heap.get? f = some (kdv_obj "<lambda>" (X.env.qual ++ "<lambda>") params (.expr body) scope (cloFrom X.env.cells scope.names []) (.ref t) doc pm c' ctv) → H1 f = none → f ∉ frs X.stack →
      s'.heap.get? t = some (kdv_tup [.int i0 tk0]) → H1 t = none → t ∉ frs X.stack → H1 c' = some (CodeO c' (X.env.qual ++ "<lambda>")) → Q (.ref f) s') :
    wpAny (model X.prog X.w) X.A (eval (.Lambda params body scope pos) X.env) Q X.xe s := by
  refine kdv_lam (by rw [hd]; rfl) hk ?_
  rw [hd]
  refine kdv_all1 (thn ((pe_int (X := X) (i := i0) (j := k0) (pos := p0)).run pins s σ H (fun v H1 => v = .int i0 ∧ H1 = H) I ⟨rfl, rfl⟩) fun u s0 ⟨v, H0, I0, r0, q0⟩ => ?_)
  obtain ⟨ev, eH⟩ := q0
  subst ev
  rw [eH] at I0
  obtain ⟨tk0, rfl⟩ := r0
  refine kdv_all0 ?_
  rw [makeFunction_eq]
  simp only [List.zip_nil_right, List.filterMap_nil, List.isEmpty_nil, if_true, pure_bind, List.isEmpty_cons, Bool.false_eq_true, if_false]
  refine wpAny_bind (wpAny_newTextTuple ?_)
  have nofr : ∀ {s0 : Shared}, Inv X pins σ H s0 → ∀ f, s0.heap.objs.size ≤ f → f ∉ frs X.stack := fun {s0} I0 f hf z => by
    rcases List.mem_cons.mp (I0.stkSub _ z) with e | e
    · have h1 := I0.lt
      rw [← e] at h1
      exact Nat.lt_irrefl _ (Nat.lt_of_lt_of_le h1 hf)
    · exact I0.nofs hf e
  have nT := nofr I0 s0.heap.objs.size (Nat.le_refl _)
  have hT0 : H s0.heap.objs.size = none := I0.hok.fresh (Nat.le_refl _)
  have gT : (s0.heap.push (kdv_tup [.int i0 tk0])).get? s0.heap.objs.size = some (kdv_tup [.int i0 tk0]) := Heap.get?_push_size _ rfl
  have I2 : Inv X pins σ H { s0 with heap := s0.heap.push (kdv_tup [.int i0 tk0]) } := I0.kept (t' := s0.toks) fun b o e => Heap.get?_push_of_some _ e
  generalize hs2 : ({ s0 with heap := s0.heap.push (kdv_tup [.int i0 tk0]) } : Shared) = s2 at I2
  have gT2 : s2.heap.get? s0.heap.objs.size = some (kdv_tup [.int i0 tk0]) := by rw [← hs2]; exact gT
  show wpAny _ _ (makeTail "<lambda>" (X.env.qual ++ "<lambda>") params (.expr body) scope X.env (.ref s0.heap.objs.size) .none none pos pos.line) _ _ _
  generalize s0.heap.objs.size = t at hT0 gT2 nT ⊢
  have es : ({ s0 with heap := s0.heap.push (kdv_tup [.int i0 tk0]) } : Shared) = s2 := hs2
  first
    | rw [es]
    | skip
  obtain ⟨ps, hP, ht, ha⟩ := hT _ hm
  have bP : s2.heap.BuiltinsAt X.mg P := TB.bm.keeps I2.bk
  have hP' : s2.heap.get? P = some { cls := .none, data := .fields ps } := I2.hok P _ hP
  have ntP : t ≠ P := fun z => by
    rw [z, hP] at hT0
    cases hT0
  cases hc : codeAmong pos ps.toList with
  | none =>
    refine kdv_makeTail (mg := X.mg) (c := c) (P := P) (ps := ps) (closure_ok hfree) I2.ok.glob (I2.mod.glob.keeps I2.bk) hcode (TB.code.keeps I2.bk) hP' ht hc TB.gP bP fun c' ctv doc h' tk hx hge hlt hrec htb => ?_
    obtain ⟨c2, oc, vs, tt, e2, hoc, hdd, hv⟩ := hrec
    cases e2
    have hsz : s2.heap.objs.size ≤ h'.objs.size := Nat.le_trans hge (Nat.le_of_lt hlt)
    have nC : H c' = none := I2.hok.fresh hge
    have I1 := inv_table (t' := tk) (more := #[rawInt pos.line, rawInt pos.col, .ref c']) (h' := h'.push (kdv_obj "<lambda>" (X.env.qual ++ "<lambda>") params (.expr body) scope (cloFrom X.env.cells scope.names []) (.ref t) doc ((X.mg "__name__").getD .none) c' ctv)) I2 hP
      (fun b o hb e => Heap.get?_push_of_some _ (hx b o hb e)) (Heap.get?_push_of_some _ htb) hge ⟨oc, vs, tt, Heap.get?_push_of_some _ hoc, hdd, hv⟩
    have hE : ExtN H (upd (upd H P (.tbl (ps ++ #[rawInt pos.line, rawInt pos.col, .ref c']))) c' (CodeO c' (X.env.qual ++ "<lambda>"))) := fun b o e n => by
      rw [upd_ne (ne_of_none e nC), upd_ne (fun z => n ps (Option.some.inj (e.symm.trans (by rw [z]; exact hP))))]
      exact e
    have eL : (ps ++ #[rawInt pos.line, rawInt pos.col, .ref c']).toList = ps.toList ++ [rawInt pos.line, rawInt pos.col, .ref c'] := by simp
    have tlt : t < s2.heap.objs.size := Heap.lt_size gT2
    refine h h'.objs.size c' t tk0 doc ((X.mg "__name__").getD .none) ctv _ _ I1 hE (fun p hp => ?_) (Heap.get?_push_size _ rfl) ?_ (nofr I2 _ hsz) (Heap.get?_push_of_some _ (hx _ _ ntP gT2)) ?_ nT upd_same
    · by_cases hb : p.1 = P
      · rw [hu p hp hb, hb]
        refine ⟨_, by rw [upd_ne (ne_of_none hP nC), upd_same], by rw [eL]; exact PySem.TriplesOk_snoc _ _ _ _ ht, fun p' cv hcv => ?_⟩
        rw [eL] at hcv
        rcases among_app _ ht hcv with z | z
        · obtain ⟨c0, e1, e2⟩ := ha p' cv z
          exact ⟨c0, e1, hE _ _ e2 codeO_ne⟩
        · exact ⟨c', z, upd_same⟩
      · obtain ⟨ps', a1, a2, a3⟩ := hT p hp
        refine ⟨ps', by rw [upd_ne (ne_of_none a1 nC), upd_ne hb]; exact a1, a2, fun p' cv hcv => ?_⟩
        obtain ⟨c0, e1, e2⟩ := a3 p' cv hcv
        exact ⟨c0, e1, hE _ _ e2 codeO_ne⟩
    · have n1 : h'.objs.size ≠ c' := Nat.ne_of_gt hlt
      have n2 : h'.objs.size ≠ P := Nat.ne_of_gt (Nat.lt_of_lt_of_le (Heap.lt_size hP') hsz)
      rw [upd_ne n1, upd_ne n2]
      exact I2.hok.fresh hsz
    · have n1 : t ≠ c' := Nat.ne_of_lt (Nat.lt_of_lt_of_le tlt hge)
      rw [upd_ne n1, upd_ne ntP]
      exact hT0
  | some cv =>
    obtain ⟨c', e, hco⟩ := ha pos cv hc
    subst e
    refine kdv_makeTailHit (mg := X.mg) (c := c) (P := P) (ps := ps) (closure_ok hfree) I2.ok.glob (I2.mod.glob.keeps I2.bk) hcode (TB.code.keeps I2.bk) hP' ht hc bP fun ctv doc h' tk hx hsz => ?_
    have I1 : Inv X pins σ H { s2 with heap := h'.push (kdv_obj "<lambda>" (X.env.qual ++ "<lambda>") params (.expr body) scope (cloFrom X.env.cells scope.names []) (.ref t) doc ((X.mg "__name__").getD .none) c' ctv), toks := tk } := I2.kept fun b o e => Heap.get?_push_of_some _ (hx b o e)
    exact h h'.objs.size c' t tk0 doc ((X.mg "__name__").getD .none) ctv H _ I1 (ExtN.refl H) hT (Heap.get?_push_size _ rfl) (I2.hok.fresh hsz) (nofr I2 _ hsz) (Heap.get?_push_of_some _ (hx _ _ gT2)) hT0 nT hco
end
/-! ### it is called -/
structure LamSD (N : List Str) (sc scope : Scope) (x : Str) : Prop where
  kind : scope.kind = .function
  co : scope.isCoroutine = false
  gen : scope.isGenerator = false
  ncell : ∀ y ∈ scope.names, y.2 ≠ .cell
  nloc : ∀ y ∈ N, scope.names.lookup y ≠ some .local
  par : scope.names.lookup x = some .local
  free : ∀ y ∈ scope.names, y.2 = .free → sc.names.lookup y.1 = some .cell ∨ sc.names.lookup y.1 = some .free
def lamSDB (N : List Str) (sc scope : Scope) (x : Str) : Bool :=
  decide (scope.kind = .function) && !scope.isCoroutine && !scope.isGenerator && (scope.names.all fun y => !decide (y.2 = .cell)) && (N.all fun y => !decide (scope.names.lookup y = some .local)) && decide (scope.names.lookup x = some .local) &&
    scope.names.all fun y => (!decide (y.2 = .free) || decide (sc.names.lookup y.1 = some .cell) || decide (sc.names.lookup y.1 = some .free))
theorem lamSD_by {N : List Str} {sc scope : Scope} {x : Str} (h : lamSDB N sc scope x = true) : LamSD N sc scope x := by
  unfold lamSDB at h
  simp only [Bool.and_eq_true, Bool.or_eq_true, Bool.not_eq_true', decide_eq_true_eq, decide_eq_false_iff_not, List.all_eq_true] at h
  obtain ⟨⟨⟨⟨⟨⟨h1, h2⟩, h3⟩, h4⟩, h5⟩, h6⟩, h7⟩ := h
  refine ⟨h1, h2, h3, fun y hy => h4 y hy, fun y hy => h5 y hy, h6, fun y hy e => ?_⟩
  rcases h7 y hy with (z | z) | z
  · exact absurd e z
  · exact .inl z
  · exact .inr z
theorem LamSD.has {X : Cx} {scope : Scope} {x : Str} (L : LamSD X.N X.env.scope scope x) (ok : X.Ok) : ∀ y ∈ scope.names, y.2 = .free → ∃ c, X.env.cells.lookup y.1 = some c := fun y hy e => by
  rcases L.free y hy e with k | k
  · exact ok.has _ (.inl k)
  · exact ok.has _ (.inr k)
section
variable {X : Cx} {pins : List (Addr × Obj)} {σ : L2.St} {H HZ : Hp} {s s1 : Shared}
theorem lam_startD {A : Around} {outer : List Env} {E : XK} {scope : Scope} {f c' : Addr} {h₁ : Heap} {tk : Nat} {x : Str} {u0 : Value} (I : Inv X pins σ H s) (L : LamSD X.N X.env.scope scope x) (e0 : Env0 X.prog X.w X.K X.mg X.base A outer s1 HZ) (hd : A.handled = none)
    (un : Un (frs X.stack) [] H HZ s.heap s1.heap) (hns : h₁.Ns s1.heap.objs.size fun y => ([(x, u0)] : List (Str × Value)).reverse.lookup y) (kp : ∀ b o, s1.heap.get? b = some o → h₁.get? b = some o) :
    Inv (lamCx X A outer s1 HZ E scope f c') [] σ HZ { s1 with heap := h₁, toks := tk } := by
  have hfree := L.has I.ok
  have cm : ∀ {y c}, (cloFrom X.env.cells scope.names []).lookup y = some c → X.env.cells.lookup y = some c := fun {y c} e => by
    rcases cloFrom_mem (PySem.mem_of_lookup e) with hm | ⟨h1, h2⟩
    · cases hm
    · obtain ⟨c1, hc⟩ := hfree _ h1 rfl
      have hc : X.env.cells.lookup y = some c1 := hc
      have e2 : c = c1 := by
        rw [h2, hc] <;> rfl
      rw [e2]
      exact hc
  have look : ∀ {y}, scope.names.lookup y = some .free → ∃ c, (cloFrom X.env.cells scope.names []).lookup y = some c := fun {y} hl => by
    have hy : (y, NameKind.free) ∈ scope.names := PySem.mem_of_lookup hl
    exact mem_lookup (cloFrom_has (cells := X.env.cells) (acc := []) hy)
  have cellK : ∀ {c : Addr} {v : Option Value}, H c = none → s.heap.IsCell c v → h₁.IsCell c v := fun {c v} n ⟨o, ho, hd⟩ => by
    obtain ⟨sl, q⟩ := un.any ho n (by simp)
    exact ⟨_, kp _ _ q, hd⟩
  have noA : ∀ b : Addr, b ∉ (lamCx X A outer s1 HZ E scope f c').ex := fun b z => absurd (show b ∈ ([] : List Addr) from z) (by simp)
  refine ⟨⟨e0.mod, L.kind, rfl, rfl, Nat.le_refl _, fun y z c e1 e2 => I.ok.inj y z c (cm e1) (cm e2), fun y hy => ?_, fun y c z _ => ?_, fun _ => hd, Around.frames_deeper e0.frames, .inr ⟨rfl, rfl⟩, fun b z => absurd z (noA b), e0.bs, e0.bsz, fun b _ _ => noA b,
      fun b z => absurd z (noA b), e0.funs, e0.frf⟩,
    rfl, e0.bare, Un.kept kp, ⟨_, hns, fun i y v e1 e2 e3 => ?_⟩, fun y c e => ?_, e0.hok.fresh (Nat.le_refl _), fun y c e => ?_, fun q hq => absurd (show q ∈ ([] : List (Addr × Obj)) ++ [] from hq) (by simp), e0.hok.kept kp, I.len⟩
  · have hy : scope.names.lookup y = some .cell ∨ scope.names.lookup y = some .free := hy
    rcases hy with hy | hy
    · exact absurd rfl (L.ncell _ (PySem.mem_of_lookup hy))
    · exact look hy
  · have z : false = true := z
    cases z
  · have e3 : Vis scope y := e3
    have e1 : X.N[i]? = some y := e1
    rcases e3 with k | k | k
    · exact absurd k (L.nloc y (List.mem_of_getElem? e1))
    · exact absurd rfl (L.ncell _ (PySem.mem_of_lookup k))
    · obtain ⟨m, hn, hl⟩ := I.loc
      have hvis : Vis X.env.scope y := (L.free _ (PySem.mem_of_lookup k) rfl).elim (fun k => .inr (.inl k)) (fun k => .inr (.inr k))
      obtain ⟨w', r, q⟩ := hl i y v e1 e2 hvis
      obtain ⟨c2, h2⟩ := look k
      refine ⟨w', r, .inr ⟨.inr k, c2, h2, ?_⟩⟩
      have c1 := cm h2
      rcases q with ⟨k', _⟩ | ⟨_, c3, e', z⟩
      · have k' : X.env.scope.names.lookup y = some .local := k'
        rcases L.free _ (PySem.mem_of_lookup k) rfl with k2 | k2 <;> rw [show X.env.scope.names.lookup y = _ from k2] at k' <;> cases k'
      · rw [c1] at e'
        cases e'
        exact cellK (I.freeC y _ c1) z
  · obtain ⟨w', z⟩ := I.cell y c (cm e)
    exact ⟨w', cellK (I.freeC y c (cm e)) z⟩
  · obtain ⟨v, o, ho, hd⟩ := I.cell y c (cm e)
    exact un.free c o ho (I.freeC y c (cm e)) (by simp)
/-- x(), in the def that got the lambda: Z is that def's context, entered at s -/
theorem pe_actD {CXg : CXT} {Eg : XK} {Ng : List Str} {qg : Str} {sg : Scope} {g f c' t : Addr} {cdg pm ctv doc : Value} {x0 : Str} {i0 : Int} {tk0 : Tok} {params : Arguments} {body : Expr} {scope : Scope} {k i : Nat} {a : Str} {pn : List (Addr × Obj)} {xe : Value → Shared → Prop} {W : WX} {tb : XK → TE} {p1 p2 : Pos}
    (I : Inv X pins σ H s) (L : LamSD X.N X.env.scope scope x0) (hf : s.heap.get? f = some (PySem.W.kdv_obj "<lambda>" (X.env.qual ++ "<lambda>") params (.expr body) scope (cloFrom X.env.cells scope.names []) (.ref t) doc pm c' ctv)) (hfn : H f = none) (hfr : f ∉ frs X.stack) (ht0 : s.heap.get? t = some (kdv_tup [.int i0 tk0])) (htn : H t = none) (htr : t ∉ frs X.stack)
    (hbind : ∃ k, bindArgs (kdv_fn "<lambda>" (X.env.qual ++ "<lambda>") params (.expr body) scope (cloFrom X.env.cells scope.names []) (.ref t) doc pm (.ref c') ctv) ⟨[], []⟩ = seqItems? (.ref t) >>= k ∧ k (some #[.int i0 tk0]) = pure [(x0, .int i0 tk0)])
    (tk : L2N.Takes ((cxOf CXg X.prog X.w X.K X.mg X.base Ng qg sg g cdg X.A X.stack s H Eg).tr pn xe) W) (hr : Room (k + 1) (X.A.deeper (envOfC qg sg s.heap.objs.size g cdg)))
    (hbody : ∀ (A : Around) (outer : List Env) (s : Shared) (H : Hp) (E : XK), Room k (A.deeper (lamEnv X scope s.heap.objs.size f c')) → PE (lamCxN X A outer s H E scope f c') body (tb E))
    (hN : Ng[i]? = some a) (hv : Vis sg a) (hd : (a == ("__debug__" : Str)) = false := by decide) (hcd : (a == ("__classdict__" : Str)) = false := by decide) :
    PE ((cxOf CXg X.prog X.w X.K X.mg X.base Ng qg sg g cdg X.A X.stack s H Eg).tr pn xe) (.Call (.Name a p1) [] [] p2)
      (fun σZ HZ Q => ∃ E : XK, (∀ cls d H', E cls d H' → W cls d σZ H') ∧ σZ[i]? = some (some (.ref f)) ∧ HZ c' = some (CodeO c' (X.env.qual ++ "<lambda>")) ∧ tb E σ HZ Q) := by
  refine ⟨fun pinsZ sZ σZ HZ Q IZ h => ?_⟩
  obtain ⟨E, hW, hs, hc, ht⟩ := h
  refine wpAny_Call_Name_kw (thn ((pe_var (pos := p1) (i := i) hN hv hd hcd).run pinsZ sZ σZ HZ (fun v H1 => v = .ref f ∧ H1 = HZ) IZ ⟨.ref f, hs, rfl, rfl⟩) fun u s1 ⟨v, H1, I1, r1, q1⟩ => ?_)
  obtain ⟨ev, eH⟩ := q1
  subst ev
  rw [eH] at I1
  obtain rfl : u = Value.ref f := r1
  have of1 : s1.heap.get? f = some (PySem.W.kdv_obj "<lambda>" (X.env.qual ++ "<lambda>") params (.expr body) scope (cloFrom X.env.cells scope.names []) (.ref t) doc pm c' ctv) := I1.base.keep f _ hf hfn hfr (fun z => nomatch (show f ∈ ([] : List Addr) from z))
  have ot1 : s1.heap.get? t = some (kdv_tup [.int i0 tk0]) := I1.base.keep t _ ht0 htn htr (fun z => nomatch (show t ∈ ([] : List Addr) from z))
  refine PySem.W.callWith_F0 ⟨_, _, _, _, of1⟩ ?_
  have un : Un (frs X.stack) [] H HZ s.heap s1.heap := I1.base
  obtain ⟨⟨oc, vs, t, hoc, hdc, hvc⟩, _, _⟩ := I1.hok c' _ hc
  have rc : codeAny (model X.prog X.w) (X.A.deeper (envOfC qg sg s.heap.objs.size g cdg)) (.call (.ref f) ⟨[], []⟩) (CR (L2N.CX X.prog X.w) (envOfC qg sg s.heap.objs.size g cdg :: X.stack) X.prog X.w HZ s1 Q E) s1 := by
    refine PySem.W.kla_callFunE hr.depth of1 rfl L.co L.gen rfl ⟨c', oc, vs, t, rfl, hoc, hdc, hvc⟩ ?_
    obtain ⟨kb, hb1, hb2⟩ := hbind
    rw [hb1]
    refine wpAny_bind (wpAny_seqItems ot1 rfl ?_)
    rw [show (some ([Value.int i0 tk0] : List Value).toArray) = some #[Value.int i0 tk0] from rfl, hb2]
    refine wpAny_pure (wpAny_newFunctionEnv (fun y hy => L.ncell y hy) (fun y hy => by
      have e : y = (x0, Value.int i0 tk0) := by simpa using hy
      rw [e]
      exact L.par) (fun h₁ hns hsb => ⟨I1.nolimit.fresh _ hsb, ?_⟩) L.kind)
    show codeAny _ _ (.expr body (lamEnv X scope s1.heap.objs.size f c')) _ _
    have kp : ∀ b o, s1.heap.get? b = some o → h₁.get? b = some o := fun b o e => hsb.extBut b o (Nat.ne_of_lt (Heap.lt_size e)) (Heap.get?_push_of_some _ e)
    have J : Inv (lamCxN X (X.A.deeper (envOfC qg sg s.heap.objs.size g cdg)) (envOfC qg sg s.heap.objs.size g cdg :: X.stack) s1 HZ E scope f c') [] σ HZ { s1 with heap := h₁, toks := s1.toks + ([(x0, Value.int i0 tk0)] : List (Str × Value)).length } :=
      (lam_startD I L I1.env0 hr.hd un hns kp).wish _
    refine PySem.W.kla_codeExpr (wpAny_mono ((hbody _ _ s1 HZ E (hr.deeper _)).run [] _ _ HZ Q J ht) (fun v s' hq => ?_) fun e s' hq => hq)
    obtain ⟨w', H', J', rv, q⟩ := hq
    exact ⟨w', H', J'.os, J'.bare, J'.base, J'.hok, rv, q⟩
  refine wpAny_call (codeAny_mono rc fun r s' hq => ?_)
  cases r with
  | error e => exact tk e s' (L2N.XE.of_call I1 hW hq)
  | ok fl =>
    cases fl with
    | ret u => exact I1.after hq
    | next => exact False.elim hq
    | brk => exact False.elim hq
    | cont => exact False.elim hq
end
section
variable {X : Cx}
/-- x(lambda x0=i0: body, ..) -/
theorem pe_lam3D {T : List (Addr × Str)} {TT : List V → (XK → Hp → VK → Prop) → Hp → VK → Prop} {x a : Str} {g c P : Addr} {pg : Arguments} {bg : List Stmt} {sg : Scope} {dV kV doc pm cdv ct oc : Value} {an od : Option Addr} {osl : Array (Option Value)} {Ng ps : List Str}
    {params : Arguments} {body : Expr} {scope : Scope} {t : XK → TE} {es : List Expr} {ta : TA} {p lpos pos p0 : Pos} {x0 : Str} {i0 : Int} {k0 : Nat} (hg : Gl X x) (hm : X.mg x = some (.ref g)) (hk : PySem.W.keepIn X.K (.ref g) = true)
    (lk : X.K.lookup g = some ⟨oc, od, .func (PySem.W.fnOf x x pg bg sg dV kV doc pm an cdv ct), osl⟩) (hcg : PySem.W.codeIn X.K cdv x = true) (hb : L2.Binds X.K (PySem.W.fnOf x x pg bg sg dV kV doc pm an cdv ct) (a :: ps) []) (Sg : FnScope Ng (a :: ps) sg) (hNg : Ng[0]? = some a) (hva : Vis sg a)
    (hG : ∀ vs, vs.length = ps.length → GivesTo3 X Ng x sg g cdv bg a (X.env.qual ++ "<lambda>") vs (TT vs))
    (TB : TabB X.base X.mg c P) (hcode : X.env.code = .ref c) (hmT : (P, X.env.qual ++ "<lambda>") ∈ T) (hu : ∀ p ∈ T, p.1 = P → p.2 = X.env.qual ++ "<lambda>") {k : Nat} (hk3 : 3 ≤ k) (hr : Room (k + 3) X.A) (L : LamSD X.N X.env.scope scope x0) (hd0 : params.defaults = [.Constant (.int i0) k0 p0]) (hk0 : params.kw_defaults = [])
    (hbind : ∀ (q : Str) (cl : List (Str × Addr)) (t : Addr) (doc pm cv ctv u : Value), ∃ k, bindArgs (kdv_fn "<lambda>" q params (.expr body) scope cl (.ref t) doc pm cv ctv) ⟨[], []⟩ = seqItems? (.ref t) >>= k ∧ k (some #[u]) = pure [(x0, u)])
    (hbody : ∀ (A : Around) (outer : List Env) (s : Shared) (H : Hp) (E : XK) (f c' : Addr), Room k (A.deeper (lamEnv X scope s.heap.objs.size f c')) → PE (lamCxN X A outer s H E scope f c') body (t E))
    (ha : PA X es ta) (hst : X.stack = X.env :: X.outer) (hfm : X.env.frame = some X.env.locals)
    (hs : starEach (.Lambda params body scope lpos :: es) X.env = (false, eval (.Lambda params body scope lpos) X.env) :: starEach es X.env := by rfl) (hpl : (backTo pos (starEach es X.env)).any (·.1) = false := by rfl)
    (hdb : (x == ("__debug__" : Str)) = false := by decide) (hd : (a == ("__debug__" : Str)) = false := by decide) (hcd : (a == ("__classdict__" : Str)) = false := by decide) :
    PE X (.Call (.Name x p) (.Lambda params body scope lpos :: es) [] pos) (tLam3 T ps.length TT ta t) := by
  refine ⟨fun pins s σ H Q I h => ?_⟩
  obtain ⟨hT, h⟩ := h
  refine wpAny_Call_Name_kw (ld_glob I hg hm ?_ hdb)
  refine PySem.W.callWith_K (h₀ := X.base) I.ok.mod.kin hk ?_ hs hpl
  show wpAny _ _ (spliced ((false, eval (.Lambda params body scope lpos) X.env) :: backTo pos (starEach es X.env))) _ _ s
  refine Calls.spliced_cons (lam_makeD I TB hcode hmT hu hT hd0 hk0 (L.has I.ok) fun f c' tt tk0 doc pm' ctv H1 s' I1 eN T1 hf hfn hfr ht0 htn htr hco => ?_)
  have hlocs : ∀ {b : Addr}, b ∉ frs X.stack → b ≠ X.env.locals := fun {b} hb z => hb (by
    rw [hst]
    exact List.mem_filterMap.mpr ⟨X.env, List.mem_cons_self, by rw [hfm, z]⟩)
  have hfss : ∀ {b : Addr}, b ∉ frs X.stack → b ∉ X.fs := fun {b} hb hm => hb (by
    rw [hst]
    obtain ⟨e, he, q⟩ := List.mem_filterMap.mp hm
    exact List.mem_filterMap.mpr ⟨e, List.mem_cons_of_mem _ he, q⟩)
  have I1' := pin_more (pin_more I1 hf hfn (hlocs hfr) (hfss hfr) (fun v z => by cases z)) ht0 htn (hlocs htr) (hfss htr) (fun v z => by cases z)
  refine thn (ha.run pos _ s' σ H1 _ I1' (h H1 eN T1)) fun us s2 ⟨vs, H2, I2', r, e2, hl, q⟩ => ?_
  subst e2
  have hf2 := (I2'.pin (f, _) (List.mem_append_right _ (List.mem_append_left _ (List.mem_append_right _ (List.mem_singleton_self _))))).1
  have ht2 := (I2'.pin (tt, _) (List.mem_append_right _ (List.mem_append_right _ (List.mem_singleton_self _)))).1
  have I2 := pin_less (pin_less I2')
  refine ⟨I2.kIn, ?_⟩
  have hlu : us.length = ps.length := by rw [← r.length]; exact hl
  have rc : codeAny (model X.prog X.w) X.A (.call (.ref g) ⟨.ref f :: us, []⟩) (CR C8.CX0 X.stack X.prog X.w H2 s2 Q C8.E0) s2 := by
    have b := hb s2 (.ref f :: us) I2.kIn (by rw [List.append_nil]; simp [hlu])
    rw [List.append_nil] at b
    refine run_ofS (N := Ng) (ps := a :: ps) (us := .ref f :: us) (vs := .ref f :: vs) lk hcg Sg hr I2.env0 b (.cons rfl r) (by simp [hl]) fun hr' => ?_
    obtain ⟨t', ht', hq'⟩ := hG vs hl f c' s2 H2 Q (fun E H' Q' => t E σ H' Q') (hr'.mono (by omega)) (fun W pn xe p1 p2 tk => pe_actD (i := 0) (tb := t) I2 L hf2 hfn hfr ht2 htn htr (hbind _ _ _ _ _ _ _ _) tk (hr'.mono (by omega)) (fun A outer s H E hr2 => hbody A outer s H E f c' hr2) hNg hva hd hcd) hco q
    exact ⟨t', ht'.nox, hq'⟩
  refine wpAny_call (codeAny_mono rc fun r s2 hq => ?_)
  cases r with
  | error e => exact (show False from hq).elim
  | ok fl =>
    cases fl with
    | ret u => exact I2.after hq
    | next => exact False.elim hq
    | brk => exact False.elim hq
    | cont => exact False.elim hq
end
end Esc

set_option maxHeartbeats 1000000
/-! x in t, t.index(x) of tuples of tuples. -/
namespace Esc
open PySem PySem.Spec PyProof.Rows L2
/-- x in t, of data -/
def rInT (K : PySem.W.Frag) : R2 := fun x y H Q => ∃ d ds, Dp K H x d ∧ Dp K H y (.tuple ds) ∧ SeqAt.shaped d = true ∧ SeqAt.shaped (.tuple ds) = true ∧ Q (.bl (ds.any fun z => PyData.eqv z d)) H
theorem op_inT {X : Cx} (hu : X.A.units + 65 < cLine) : OpR X (compareOp .In) (rInT X.K) := by
  intro pins s σ H x y v u Q I rx ry h
  obtain ⟨d, ds, hd, he, sd, se, q⟩ := h
  obtain ⟨as, r1⟩ := Dp.reads I d x v hd rx
  obtain ⟨bs, r2⟩ := Dp.reads I (.tuple ds) y u he ry
  exact SeqAt.in_tuple_reads r2 r1 (SeqAt.canLay_of_shaped se) (SeqAt.canLay_of_shaped sd) (room_in_shaped sd hu) ⟨.bl _, H, I, rfl, q⟩
/-- t.index(x), of data -/
def rTIdxD (K : PySem.W.Frag) : V → List V → Hp → VK → Prop := fun x xs H Q => ∃ (a : Addr) (y : V) (vs : List V) (d : PyData) (ds : List PyData) (j : Nat) (z : PyData), x = .ref a ∧ xs = [y] ∧ SqT K H a vs ∧ DpAll K H vs ds ∧ Dp K H y d ∧
  SeqAt.shaped (.list ds) = true ∧ SeqAt.shaped d = true ∧ ds[j]? = some z ∧ PyData.eqv z d = true ∧ (∀ (m : Nat) (z' : PyData), m < j → ds[m]? = some z' → PyData.eqv z' d = false) ∧ Q (.int (j : Nat)) H
theorem mt_tindexD {X : Cx} (hu : X.A.units + 65 < cLine) : MtR X "tuple.index" (rTIdxD X.K) := by
  intro pn s σ H x xs v us Q J rx rxs h
  obtain ⟨a, y, vs, d, ds, j, z, rfl, rfl, hq, ha, hy, sl, sd, hz, hzj, hno, q⟩ := h
  cases rx
  obtain ⟨u, rfl, ru⟩ := rxs.one
  obtain ⟨bs, r1⟩ := Dp.reads J d y u hy ru
  obtain ⟨its, r, ⟨⟨cls, dd, dt, slo⟩, ho, hc, n, hd⟩, hz'⟩ := J.tuple hq
  simp only at hc hd
  subst hc hd
  have lay : PyData.canLayAll0 ds = true := SeqAt.canLay_of_shaped sl
  have room : X.A.units + 1 + min (PyData.depthAll ds) d.depth < cLine := room_in_shaped sd hu
  obtain ⟨as, h4⟩ := Dp.readsAll J ds _ its ha r
  have hn : its.length = ds.length := SeqAt.ReadsAll.length ds its as h4
  have mp : its.map (SeqAt.readOf s.heap) = ds := SeqAt.readsAll_map ds its as lay h4
  have hjd := (List.getElem?_eq_some_iff.mp hz).1
  have hj : j < its.toArray.size := by
    rw [List.size_toArray]
    omega
  have place : ∀ (m : Nat) (hm : m < its.toArray.size) (z' : PyData), ds[m]? = some z' → SeqAt.readOf s.heap its.toArray[m] = z' := fun m hm z' hz' => by
    have hml : m < its.length := by simpa using hm
    rw [← mp, List.getElem?_map, List.getElem?_eq_getElem hml] at hz'
    have e1 : SeqAt.readOf s.heap its[m] = z' := by
      simpa using hz'
    simpa using e1
  have ends := SeqAt.items_eqAt (vs := its.toArray) (show ReadsAll s.heap its.toArray.toList ds as from h4) r1 lay (SeqAt.canLay_of_shaped sd) room
  refine call_meets PySem.F.slot_tuple_index ⟨_, ho, rfl⟩ PySem.F.entry_tuple_index (PySem.F.args_tuple_index_2 _ _) (TI.tuple_indexAt a its.toArray n dd slo u (fun w => PyData.eqv (SeqAt.readOf s.heap w) d) j hj ?_ fun m hm hmj => ?_)
    ⟨ho, ends, .int (j : Nat), H, J.tok _, ⟨_, rfl⟩, q⟩
  · show PyData.eqv (SeqAt.readOf s.heap its.toArray[j]) d = true
    rw [place j hj z hz]
    exact hzj
  · have hmd : m < ds.length := by
      rw [List.size_toArray] at hm
      omega
    show PyData.eqv (SeqAt.readOf s.heap its.toArray[m]) d = false
    rw [place m hm _ (List.getElem?_eq_getElem hmd)]
    exact hno m _ hmj (List.getElem?_eq_getElem hmd)
section
variable {K : PySem.W.Frag} {H : Hp} {Q : VK} {a b : Addr} {as : List Addr} {cs : List (List Int)} {c : List Int}
theorem shaped_intsTt (cs : List (List Int)) : SeqAt.shaped (.tuple (cs.map intsT)) = true := by
  unfold SeqAt.shaped
  have h := depth_intsT cs
  rw [PyData.canLay0, lay_intsT, PyData.depth, decide_eq_true (by omega)]
  rfl
theorem any_intsT (c : List Int) : ∀ cs : List (List Int), ((cs.map intsT).any fun z => PyData.eqv z (intsT c)) = decide (c ∈ cs)
  | [] => by simp
  | x :: cs => by
    rw [List.map_cons, List.any_cons, any_intsT c cs, eqv_intsT]
    by_cases h : x = c
    · subst h
      simp
    · rw [decide_eq_false h, Bool.false_or]
      refine decide_eq_decide.mpr ⟨List.mem_cons_of_mem _, fun m => ?_⟩
      rcases List.mem_cons.mp m with z | z
      · exact absurd z.symm h
      · exact z
theorem i_inT (ha : SqT K H a (c.map V.int)) (hb : SqT K H b (as.map V.ref)) (ht : TupsAt K H as cs) (q : Q (.bl (decide (c ∈ cs))) H) : rInT K (.ref a) (.ref b) H Q :=
  ⟨intsT c, cs.map intsT, .tup ha (dpa_ints c), .tup hb ht.dpa, shaped_intsT c, shaped_intsTt cs, by rw [any_intsT]; exact q⟩
theorem i_tidxD (ha : SqT K H a (c.map V.int)) (hb : SqT K H b (as.map V.ref)) (ht : TupsAt K H as cs) (m : c ∈ cs) (q : Q (.int ((cs.idxOf c : Nat) : Int)) H) : rTIdxD K (.ref b) [.ref a] H Q := by
  have hi := List.idxOf_lt_length_of_mem m
  refine ⟨b, .ref a, as.map V.ref, intsT c, cs.map intsT, cs.idxOf c, intsT c, rfl, rfl, hb, ht.dpa, .tup ha (dpa_ints c), shaped_intsTs cs, shaped_intsT c, ?_, ?_, fun k z' hk hz => ?_, q⟩
  · rw [List.getElem?_map, List.getElem?_eq_getElem hi, List.getElem_idxOf hi]
    rfl
  · rw [eqv_intsT, decide_eq_true rfl]
  · rw [List.getElem?_map] at hz
    have hk' : k < cs.length := by omega
    rw [List.getElem?_eq_getElem hk'] at hz
    cases hz
    rw [eqv_intsT]
    refine decide_eq_false fun z => ?_
    have := List.not_of_lt_findIdx (p := fun y => y == c) hk
    simp [z] at this
theorem i_catTA {xs ys : List V} (h1 : SqT K H a xs) (h2 : SqT K H b ys) (n2 : ys ≠ []) (hz : xs.length + ys.length ≤ sizeLine) (q : ∀ p H', Same H H' → SqT K H' p (xs ++ ys) → Q (.ref p) H') : rCatA K (.ref a) (.ref b) H Q :=
  ⟨a, b, xs, ys, rfl, rfl, h1, h2, hz, fun e => q b H (Same.refl _) (by rw [e]; exact h2), fun _ e => absurd e n2, fun _ _ p hp => q p _ (same_new hp) (st_of upd_same)⟩
end
end Esc

set_option maxHeartbeats 1000000
/-! Methods that may let an exception out; defs of which the code object is known; the end where a def of the text holds a lambda. -/
namespace Esc
open PySem PySem.Spec PyProof.Rows L2 LamX
/-! ### methods -/
structure MetXN (P : Program) (w : World) (K : PySem.W.Frag) (mg : Str → Option Value) (base : Heap) (k : Nat) (C : Addr) (m : Str) (sp : Sp) : Prop where
  ex : ∃ (f : Addr) (fd : FuncData) (ps : List Str), Cls K C ∧ Meth K C m f ∧ FnOk P w K mg base (L2N.CX P w) k f fd ps sp ∧ Binds K fd ps []
def tMethX (C : Addr) (m : Str) (sp : Sp) (E : L2.St → XK) (ta : TE) (t : TA) : TE := fun σ H Q => ta σ H fun x H1 => ∃ a dx fs, x = .ref a ∧ H1 a = some (.ins C dx fs) ∧ fs.lookup m = none ∧ t σ H1 fun vs H2 => sp (x :: vs) H2 Q (E σ)
section
variable {X : Cx} {k j : Nat} {C : Addr} {m : Str} {sp : Sp} {pos apos : Pos} {o e : PySem.Expr} {es : List PySem.Expr} {ta : TE} {t : TA}
/-- called where it lets nothing out -/
theorem pe_mtN {pl : Sem Bool} (c : MetXN X.prog X.w X.K X.mg X.base k C m sp) (hr : Room j X.A) (hk : k ≤ j) (he : PE X o ta) (ha : PA X (e :: es) t)
    (hst : starEach (e :: es) X.env = (false, eval e X.env) :: starEach es X.env := by rfl) (hpl : (backTo pos (starEach es X.env)).any (·.1) = false := by rfl)
    (ht : eval (.Call (.Attribute o m apos) (e :: es) [] pos) X.env = (do
      let ov ← eval o X.env
      standAt apos.atName
      let (f, first) ← holding [ov] (getMethod ov m pl)
      callWith pos f first (backTo pos (starEach (e :: es) X.env)) (backToKw pos (keywordEach [] X.env))) := by rfl) :
    PE X (.Call (.Attribute o m apos) (e :: es) [] pos) (tMeth C m sp [] C8.E0 ta t) := by
  obtain ⟨f, fd, ps, hc, hm, F, b⟩ := c.ex
  exact pe_meth (pl := pl) he hc hm F (hr.mono hk) b .nil passLN ha hst hpl ht
/-- called where it may let something out -/
theorem pe_mtxsN {E : L2.St → XK} {pl : Sem Bool} (c : MetXN X.prog X.w X.K X.mg X.base k C m sp) (hr : Room j X.A) (hk : k ≤ j) (hx : ∀ σ, PassesAt (L2N.CX X.prog X.w) X σ (E σ)) (he : PE X o ta) (ha : PA X (e :: es) t)
    (hst : starEach (e :: es) X.env = (false, eval e X.env) :: starEach es X.env := by rfl) (hpl : (backTo pos (starEach es X.env)).any (·.1) = false := by rfl)
    (ht : eval (.Call (.Attribute o m apos) (e :: es) [] pos) X.env = (do
      let ov ← eval o X.env
      standAt apos.atName
      let (f, first) ← holding [ov] (getMethod ov m pl)
      callWith pos f first (backTo pos (starEach (e :: es) X.env)) (backToKw pos (keywordEach [] X.env))) := by rfl) :
    PE X (.Call (.Attribute o m apos) (e :: es) [] pos) (tMethX C m sp E ta t) := by
  obtain ⟨f, fd, ps, c, hm, F, b⟩ := c.ex
  refine ⟨fun pins s σ H Q I h => ?_⟩
  refine PySem.W.methodCall_KW (pl := pl) (thn (he.run pins s σ H _ I h) fun u s1 ⟨x, H1, I1, rx, a, dx, fs, ex, ea, l, q⟩ => ?_) ht
  subst ex
  obtain rfl : u = Value.ref a := rx
  refine getmeth_ok I1 ea c hm l ?_
  refine PySem.W.callWith_K (first := [.ref a]) (h₀ := X.base) I.ok.mod.kin hm.kp (thn (ha.run pos pins s1 σ H1 _ I1 q) fun us s2 ⟨vs, H2, I2, r, q2⟩ => ⟨I2.kIn, ?_⟩) hst hpl
  exact run_fnS (us := .ref a :: us) (vs := .ref a :: vs) F (hr.mono hk) b (hx σ) I2 (.cons rfl r) q2
end
section
variable {P : Program} {w : World} {K : PySem.W.Frag} {mg : Str → Option Value} {base : Heap}
theorem Dm.metXN {C : Addr} {m qual : Str} {st : Stmt} {N ps attrs : List Str} {k : Nat} {sp : Sp} {y : Str} (d : Dm K C m qual st ps) (T : Clx K mg y C attrs) (S : FnScope N ps (C8.fnScope st)) (len : ∀ vs H Q E, sp vs H Q E → vs.length = ps.length)
    (hbody : ∀ (f : Addr) (cdv : Value) (A : Around) (outer : List Env) (s : Shared) (H : Hp) (vs : List V) (Q : VK) (E : XK), Room k (A.deeper (envOfC qual (C8.fnScope st) s.heap.objs.size f cdv)) → sp vs H Q E →
      ∃ t, PSs (cxOf (L2N.CX P w) P w K mg base N qual (C8.fnScope st) f cdv A outer s H E) (C8.fnBody st) t ∧ t { nx := fun _ H' => Q .non H', rt := Q } (L2.start N vs) H) : MetXN P w K mg base (k + 1) C m sp := by
  obtain ⟨f, fd, me, F, b⟩ := d.ex
  exact ⟨f, fd, ps, T.cl, me, fnxN F S len fun cdv A outer s H vs Q E hr h => hbody f cdv A outer s H vs Q E hr h, b⟩
/-! ### a def of which the code object is known -/
structure Dc (K : PySem.W.Frag) (mg : Str → Option Value) (x : Str) (st : Stmt) (ps : List Str) (cc : Addr) : Prop where
  ex : ∃ f fd, C8.Def K mg x st f fd ∧ Binds K fd ps [] ∧ fd.code = .ref cc
theorem Dc.cal {x : Str} {st : Stmt} {N ps : List Str} {k : Nat} {sp : Sp} {cc : Addr} (d : Dc K mg x st ps cc) (S : FnScope N ps (C8.fnScope st)) (len : ∀ vs H Q E, sp vs H Q E → vs.length = ps.length)
    (hbody : ∀ (f : Addr) (A : Around) (outer : List Env) (s : Shared) (H : Hp) (vs : List V) (Q : VK) (E : XK), Room k (A.deeper (envOfC x (C8.fnScope st) s.heap.objs.size f (.ref cc))) → sp vs H Q E →
      ∃ t, PSs (cxOf C8.CX0 P w K mg base N x (C8.fnScope st) f (.ref cc) A outer s H E).nox (C8.fnBody st) t ∧ t { nx := fun _ H' => Q .non H', rt := Q } (L2.start N vs) H) : C8.Cal P w K mg base (k + 1) x sp [] := by
  obtain ⟨f, fd, F, b, e⟩ := d.ex
  obtain ⟨oc, od, dV, kV, doc, pm, an, cdv, ct, osl, rfl, lk, hcd⟩ := F.fn.ex
  have ecd : cdv = .ref cc := e
  subst ecd
  refine ⟨f, _, ps, [], fn_of lk hcd S len (fun A outer s H vs Q E hr h => ?_), F.mgf, F.kp, b, .nil⟩
  obtain ⟨t, h1, h2⟩ := hbody f A outer s H vs Q E hr h
  exact ⟨t, h1.nox, h2⟩
end
end Esc
/-! ### the end -/
namespace LamX
open PySem PySem.Spec PyProof.Rows L2
theorem walk_ofOwnA {l : PySem.W.OpenLaw} {n k : Nat} {q : Program} {loose : List Str} {XP : (Str → Option Value) → Heap → Prop} {YP : World → Heap → Prop} {d : DefRec} {K : Params → PySem.W.Frag} {CX : World → CXT} {x : Str}
    (hn : l.most = some n) (hn2 : n ≤ sizeLine) (hdf : d.params.defaults = []) (hr : Room k callerA) (hY : ∀ (w : World) (h : Heap), YP w h → (K w.params).In h)
    (F : ∀ (w : World) (mg : Str → Option Value) (fa : Addr) (h : Heap), YP w h → (K w.params).In h → h.Ns mainGlobals mg → mg d.name = some (.ref fa) → (∀ (y : Str) (fb : Addr), ((recsOf q).any fun e => e.name == y) = true → mg y = some (.ref fb) → OwnTab (K w.params) fb h) → LawAtS l w (K w.params) (CX w) k n x mg fa h)
    (hCX : ∀ (w : World) (H : Hp) (s : Shared) (e : Value) (s' : Shared), CX w [] H s (fun _ _ _ => False) e s' → False) :
    PySem.W.WalkO q loose XP YP l.row.toRowW d [] (fun f vs => PySem.call f vs) := by
  refine Att.attach_callB hn hdf fun w s₀ s₁ mg mb fa o pm cd doc a vs ns G Y ho hd hcd hmg hobj hints hlen hbits hg => ?_
  have KX := hY w _ Y
  have own : ∀ (y : Str) (fb : Addr), ((recsOf q).any fun e => e.name == y) = true → mg y = some (.ref fb) → OwnTab (K w.params) fb s₁.heap := fun y fb hrec hy c P o1 fd1 e dd vs1 sl k1 k2 k3 k4 k5 => by
    obtain ⟨dL, hm, hn1⟩ := List.any_eq_true.mp hrec
    have hn2 : dL.name = y := beq_iff_eq.mp hn1
    obtain ⟨a', o', fd', c', P', h1, h2, h3, h4, h5, h6⟩ := G.T.tab dL hm
    rw [hn2, hy] at h1
    cases h1
    have g1 := KX _ _ k1
    rw [g1] at h2
    cases h2
    rw [k2] at h3
    cases h3
    rw [k3] at h4
    cases h4
    obtain ⟨⟨oc, vc, e1, _, e3, e4⟩, hP⟩ := h6
    have g2 := KX _ _ k4
    rw [g2] at e1
    cases e1
    cases e3
    rw [k5] at e4
    cases e4
    exact hP
  obtain ⟨fd, cs, sp, hT, nT, C, hb, hsp, hF⟩ := F w mg fa _ Y KX G.T.g hmg own
  exact law_callTs KX G.T.g G.T.b G.T.builtins G.T.nolimit hg hT nT C G.T.bmain hobj hints (Nat.le_trans hlen hn2) hr hF hb (fun H hH hS => hsp H a ns hlen hbits hH hS) fun H e s' => hCX w H s₁ e s'
end LamX

set_option maxHeartbeats 1000000
/-! Texts: split, join, str(n), int(s), len(s), s[i], c in s, f-strings, [.. for c in s]; a written dict's keys. -/
namespace Esc
open PySem PySem.Spec PyProof.Rows L2
def rSplitW : V → List V → Hp → VK → Prop := fun x xs H Q => ∃ a b : Str, x = .str a ∧ xs = [.str b] ∧ (b.length == 0) = false ∧ a.length + 2 ≤ sizeLine ∧ rNewStrs (Txt.split a b) H Q
def rJoinW (K : PySem.W.Frag) : V → List V → Hp → VK → Prop := fun x xs H Q => ∃ a p, ∃ ys : List Str, x = .str a ∧ xs = [.ref p] ∧ (SqL K H p (ys.map V.str) ∨ SqT K H p (ys.map V.str)) ∧ (ys.map (·.length)).sum + ys.length * a.length ≤ 16777216 ∧ Q (.str (Txt.join a ys)) H
def rStrI : List V → Hp → VK → Prop := fun xs H Q => ∃ i : Int, xs = [.int i] ∧ i.natAbs.log2 < 1920 ∧ Q (.str (toString i)) H
def rIntS : List V → Hp → VK → Prop := fun xs H Q => ∃ (a : Str) (n : Int), xs = [.str a] ∧ PySem.intText? a = some n ∧ a.length ≤ 640 ∧ Q (.int n) H
def rLenS : List V → Hp → VK → Prop := fun xs H Q => ∃ z : Str, xs = [.str z] ∧ z.length ≤ sizeLine ∧ Q (.int z.length) H
def rInS : R2 := fun x y H Q => ∃ (c : Nat) (z : Str), x = .str ⟨#[c]⟩ ∧ y = .str z ∧ Q (.bl (decide (c ∈ z.cps.toList))) H
/-- whether a written dict has a text as a key -/
def KDin (K : PySem.W.Frag) (w : World) (p : Addr) (z : Str) (b : Bool) : Prop := ∃ es n r, K.lookup p = some ⟨.type "dict", none, .dict es n, #[]⟩ ∧ PySem.W.KeysLit w.params es.toList ∧ (p == sysModules) = false ∧ PySem.W.nsIn K p z = some r ∧ r.isSome = b
def rNotInKd (K : PySem.W.Frag) (w : World) : R2 := fun x y H Q => ∃ (z : Str) (p : Addr) (b : Bool), x = .str z ∧ y = .ref p ∧ KDin K w p z b ∧ Q (.bl (!b)) H
def tJ (ts : List TE) : TE := fun σ H Q => tJs ts Str.empty σ H fun out H1 => Q (.str out) H1
section
variable {X : Cx} {o e : Expr} {to te : TE} {apos pos : Pos}
theorem pe_splitW (ho : PE X o to) (he : PE X e te) (hs : starEach [e] X.env = [(false, eval e X.env)] := by rfl) (hbase : attributeBase o "split" X.env (eval o X.env) = eval o X.env := by rfl) (hline : (apos.endLine == pos.line) = true := by rfl) :
    PE X (.Call (.Attribute o "split" apos) [e] [] pos) (tM1 rSplitW to te) := pe_split ho he hs hbase hline
theorem pe_joinW (ho : PE X o to) (he : PE X e te) (hs : starEach [e] X.env = [(false, eval e X.env)] := by rfl) (hbase : attributeBase o "join" X.env (eval o X.env) = eval o X.env := by rfl) (hline : (apos.endLine == pos.line) = true := by rfl) :
    PE X (.Call (.Attribute o "join" apos) [e] [] pos) (tM1 (rJoinW X.K) to te) := pe_join ho he hs hbase hline
theorem pe_joinedW {v1 v2 : Expr} {rest : List Expr} {ts : List TE} (h : PJ X (v1 :: v2 :: rest) ts) : PE X (.JoinedStr (v1 :: v2 :: rest) pos) (tJ ts) := pe_joined h
theorem k_strI : CallR X (.type "str") rStrI := call_str_int
theorem k_intS : CallR X (.type "int") rIntS := call_int_str
theorem k_lenS : CallR X (.builtin "len") rLenS := call_len_str
theorem k_inS : OpR X (compareOp .In) rInS := op_in_sign
theorem op_notIn_kdct : OpR X (compareOp .NotIn) (rNotInKd X.K X.w) := by
  intro pins s σ H x y v u Q I rx ry h
  obtain ⟨z, p, b, rfl, rfl, ⟨es, n, r, h1, h2, h3, h4, rfl⟩, q⟩ := h
  exact op_notIn_kd (X := X) (d := p) ⟨h1, h2, h3⟩ pins s σ H _ _ v u Q I rx ry ⟨z, r, rfl, rfl, h4, q⟩
end
/-! ### steps -/
def kM1 (r : V → List V → Hp → VK → Prop) (te : TE) (σ : L2.St) (Q : VK) : VK := fun x H1 => (∃ a, x = .str a) ∧ te σ H1 fun y H2 => r x [y] H2 Q
def kM2 (r : V → List V → Hp → VK → Prop) (x : V) (Q : VK) : VK := fun y H2 => r x [y] H2 Q
def kFmt (Q : VK) : VK := fun x H1 => (∃ y : Str, x = .str y ∧ y.length ≤ sizeLine ∧ Q (.str y) H1) ∨ ∃ i : Int, x = .int i ∧ i.natAbs.log2 < 1920 ∧ Q (.str (toString i)) H1
def kJo (Q : VK) : Str → Hp → Prop := fun out H1 => Q (.str out) H1
def kJs (ts : List TE) (acc : Str) (σ : L2.St) (R : Str → Hp → Prop) : VK := fun x H1 => ∃ y : Str, x = .str y ∧ (acc ++ y).length ≤ sizeLine ∧ tJs ts (acc ++ y) σ H1 R
def kLcS (g : TG) (tt : TT) (te : TE) (vs : List Nat) (σ : L2.St) (Q : VK) : VK := fun x H1 => ∃ z, x = .str z ∧ LcLoop (Its z) g tt te vs σ Q H1
section
variable {K : PySem.W.Frag} {w : World} {H : Hp} {g : TG} {tt : TT} {to te tl : TE} {vs : List Nat} {σ σ0 : L2.St} {Q : VK} {a : Str} {x y : V} {r : V → List V → Hp → VK → Prop} {ts : List TE} {t : TE} {acc : Str} {R : Str → Hp → Prop} {QN : Hp → Prop} {QY : VK}
instance : Step (tM1 r to te σ H Q) (to σ H (kM1 r te σ Q)) := ⟨fun h => h⟩
instance : Step (kM1 r te σ Q (.str a) H) (te σ H (kM2 r (.str a) Q)) := ⟨fun h => ⟨⟨a, rfl⟩, h⟩⟩
instance : Step (kM2 r x Q y H) (r x [y] H Q) := ⟨fun h => h⟩
instance : Step (tFmt te σ H Q) (te σ H (kFmt Q)) := ⟨fun h => h⟩
instance : Step (tJ ts σ H Q) (tJs ts Str.empty σ H (kJo Q)) := ⟨fun h => h⟩
instance : Step (tJs (t :: ts) acc σ H R) (t σ H (kJs ts acc σ R)) := ⟨fun h => h⟩
instance : Step (tJs [] acc σ H R) (R acc H) := ⟨fun h => h⟩
instance : Step (kJo Q acc H) (Q (.str acc) H) := ⟨fun h => h⟩
instance : Step (tLc (iStr tl) g tt te vs σ H Q) (tl σ H (kLcS g tt te vs σ Q)) := ⟨fun h => h⟩
theorem i_split {b : Str} (h1 : (b.length == 0) = false) (h2 : a.length ≤ 1000000) (q : ∀ p H', H p = none → Same H H' → H' p = some (.lst ((Txt.split a b).map V.str)) → Q (.ref p) H') : rSplitW (.str a) [.str b] H Q :=
  ⟨a, b, rfl, rfl, h1, Nat.le_trans (Nat.add_le_add_right h2 2) (by decide), grow q⟩
theorem i_join {p : Addr} {ys : List Str} (h : SqL K H p (ys.map V.str)) (hz : (ys.map (·.length)).sum + ys.length * a.length ≤ 16777216) (q : Q (.str (Txt.join a ys)) H) : rJoinW K (.str a) [.ref p] H Q := ⟨a, p, ys, rfl, rfl, .inl h, hz, q⟩
theorem log_small {i : Int} (h0 : 0 ≤ i) (h1 : i < 1000000) : i.natAbs.log2 < 1920 := by
  have z : i.natAbs < 2 ^ 1920 := Nat.lt_of_lt_of_le (show i.natAbs < 2 ^ 20 by omega) (Nat.pow_le_pow_right (by decide) (by decide))
  by_cases c : i.natAbs = 0
  · rw [c]
    decide
  · exact (Nat.log2_lt c).mpr z
theorem i_strI {i : Int} (h0 : 0 ≤ i) (h1 : i < 1000000) (q : Q (.str (toString i)) H) : rStrI [.int i] H Q := ⟨i, rfl, log_small h0 h1, q⟩
theorem i_intS {n : Int} (h : PySem.intText? a = some n) (hl : a.length ≤ 640) (q : Q (.int n) H) : rIntS [.str a] H Q := ⟨a, n, rfl, h, hl, q⟩
theorem i_lenS (h : a.length ≤ 1000000) (q : Q (.int a.length) H) : rLenS [.str a] H Q := ⟨a, rfl, Nat.le_trans h (by decide), q⟩
theorem i_inS {c : Nat} (q : Q (.bl (decide (c ∈ a.cps.toList))) H) : rInS (.str ⟨#[c]⟩) (.str a) H Q := ⟨c, a, rfl, rfl, q⟩
theorem i_ixS {i : Int} {c : Nat} (h : a.length ≤ 1000000) (e : atI a.cps.toList i = some c) (q : Q (.str ⟨#[c]⟩) H) : rIxS (.str a) (.int i) H Q := ⟨a, i, c, rfl, rfl, Nat.le_trans h (by decide), e, q⟩
theorem i_notInKd {p : Addr} {b : Bool} (h : KDin K w p a b) (q : Q (.bl (!b)) H) : rNotInKd K w (.str a) (.ref p) H Q := ⟨a, p, b, rfl, rfl, h, q⟩
theorem i_fmtI {i : Int} (h0 : 0 ≤ i) (h1 : i < 1000000) (q : Q (.str (toString i)) H) : kFmt Q (.int i) H := .inr ⟨i, rfl, log_small h0 h1, q⟩
theorem i_js {y : Str} (h : (acc ++ y).length ≤ 1000000) (q : tJs ts (acc ++ y) σ H R) : kJs ts acc σ R (.str y) H := ⟨y, rfl, Nat.le_trans h (by decide), q⟩
theorem lc_str {z : Str} {D : Addr} {Qd : Hp → Prop} {H1 : Hp} (Pv : Nat → Hp → Prop) (h0 : Pv 0 (upd H1 D (.lst [])))
    (hs : ∀ i c H, z.cps[i]? = some c → Pv i H → g (.str ⟨#[c]⟩) (wipe σ vs) H fun σ2 H2 => wipe σ2 vs = wipe σ vs ∧ tt σ2 H2 fun b H3 =>
      if b = true then te σ2 H3 fun y H4 => ∃ acc, H4 D = some (.lst acc) ∧ acc.length < sizeLine ∧ Pv (i + 1) (upd H4 D (.lst (acc ++ [y]))) else Pv (i + 1) H3) (hd : ∀ H, Pv z.cps.size H → Qd H) :
    ∃ W : Nat → Nat → Hp → Prop, (∃ m, W 0 m (upd H1 D (.lst []))) ∧ ∀ i m H, W i m H →
      ((Its z).stop i H ∧ Qd H) ∨ ((Its z).go i H ∧ ∃ Nx : Hp → Prop, (∀ H', Nx H' → ∃ m', m' < m ∧ W (i + 1) m' H') ∧ ∀ x H', (Its z).yld i H x H' → g x (wipe σ vs) H' fun σ2 H2 => wipe σ2 vs = wipe σ vs ∧ tt σ2 H2 fun b H3 =>
        if b = true then te σ2 H3 fun y H4 => ∃ acc, H4 D = some (.lst acc) ∧ acc.length < sizeLine ∧ Nx (upd H4 D (.lst (acc ++ [y]))) else Nx H3) := by
  refine ⟨fun i m H => m = z.cps.size - i ∧ i ≤ z.cps.size ∧ Pv i H, ⟨z.cps.size, by simp, Nat.zero_le _, h0⟩, ?_⟩
  rintro i m H ⟨rfl, hi, p⟩
  by_cases hlt : i < z.cps.size
  · refine .inr ⟨hlt, Pv (i + 1), fun H' p' => ⟨z.cps.size - (i + 1), by omega, rfl, hlt, p'⟩, fun x H' y => ?_⟩
    obtain ⟨e, c, hc, rfl⟩ := y
    subst e
    exact hs i c _ hc p
  · have e : i = z.cps.size := by omega
    subst e
    exact .inl ⟨Nat.le_refl _, hd H p⟩
/-- .. over the signs of a text; the turns change nothing -/
theorem i_lcS [w : Wp vs σ σ0] {z : Str} (F : Nat → V) (hz : z.length ≤ 1000000)
    (hs : ∀ c ∈ z.cps.toList, ∀ H1, Same H H1 → ∀ (QN : Hp → Prop) (QY : VK), (∀ H2, Same H1 H2 → QY (F c) H2) → g (.str ⟨#[c]⟩) σ0 H1 (kLcB σ0 vs tt te QN QY))
    (q : ∀ p H', H p = none → Same H H' → H' p = some (.lst (z.cps.toList.map F)) → Q (.ref p) H') : kLcS g tt te vs σ Q (.str z) H := by
  have w' := w.h
  subst w'
  refine ⟨z, rfl, fun D hD => lc_str (fun i H' => Same H H' ∧ H' D = some (.lst ((z.cps.toList.take i).map F))) ⟨same_new hD, upd_same⟩ (fun i c H' hi p => ?_) (fun H' p => ?_)⟩
  · obtain ⟨s, e⟩ := p
    have hi' : z.cps.toList[i]? = some c := by rw [Array.getElem?_toList]; exact hi
    have hl : i < z.cps.toList.length := (List.getElem?_eq_some_iff.mp hi').1
    refine hs c (List.mem_of_getElem? hi') H' s (fun H2 => Same H H2 ∧ H2 D = some (.lst ((z.cps.toList.take (i + 1)).map F))) _ fun H2 s2 => ⟨_, s2 _ _ e, ?_, smut (s.trans s2) hD, ?_⟩
    · rw [List.length_map, List.length_take]
      have z1 : z.cps.toList.length = z.length := by simp [Str.length]
      exact Nat.lt_of_le_of_lt (Nat.le_trans (Nat.min_le_right _ _) (z1 ▸ hz)) (by decide)
    · rw [List.take_add_one, hi', List.map_append]
      exact upd_same
  · have p2 := p.2
    rw [show z.cps.size = z.cps.toList.length by simp, List.take_length] at p2
    exact q D H' hD p.1 p2
end
end Esc

set_option maxHeartbeats 1000000
/-! tuple(reversed(range(n))). -/
namespace Esc
open PySem PySem.Spec PyProof.Rows L2
theorem nolen_rit : typeLookup (.type "range_iterator") "__len__" = pure none := by rw [typeLookup_type, builtinLookup_eq_fast]; kernel_rfl
theorem hint_rit : typeLookup (.type "range_iterator") "__length_hint__" = pure (some (.builtin "range_iterator.__length_hint__")) := by rw [typeLookup_type, builtinLookup_eq_fast]; kernel_rfl
section
variable {prog : Program} {w : World} {A : Around} {E : Value → Shared → Prop} {s : Shared}
theorem collect_rit {it : Addr} {a c : Int} {n : Nat} {Q : List Value → Shared → Prop} (hh : A.handled = none) (hit : IsRangeIter s.heap it a (n : Int) c) (hn : n ≤ sizeLine)
    (hQ : ∀ (h' : Heap) (tk : Nat) (acc : Array Value), (∀ b o, b ≠ it → s.heap.get? b = some o → h'.get? b = some o) → ItemsOf (fun i v => ∃ t, v = .int (a + i * c) t) acc n → Q acc.toList { s with heap := h', toks := tk }) :
    wpAny (model prog w) A (collect (.ref it)) Q E s := by
  have W := (Walks.range (prog := prog) (w := w) (A := A.in1) hh it a c n).toS
  have hSi : s.heap.objs.size ≠ it := Nat.ne_of_gt (Heap.lt_size hit)
  have hSf : s.heap.objs.size ∉ [it] := by simp only [List.mem_cons, List.not_mem_nil, or_false]; exact hSi
  unfold collect
  refine wpAny_bind (wpAny_runValue (codeAny_builtin F.entry_proto_collect ?_))
  rw [Around.under_plainId F.plain_proto_collect _]
  show wpAny _ A.in1 (newList [] >>= fun l' => again (.builtin "list.__iadd__" ⟨[l', .ref it], []⟩)) _ _ s
  refine wpAny_bind (wpAny_newObj_type ?_)
  refine wpAny_pure ⟨plainId_quiet F.plain_list_iadd _, codeAny_builtin F.entry_list_iadd ?_⟩
  rw [Around.under_plainId F.plain_list_iadd _]
  have hS₁ : (s.heap.push { cls := .type "list", data := .seq ([] : List Value).toArray }).get? s.heap.objs.size = some { cls := .type "list", data := .seq ([] : List Value).toArray } := Heap.get?_push_size _ rfl
  have hit1 : IsRangeIter (s.heap.push { cls := .type "list", data := .seq ([] : List Value).toArray }) it a (n : Int) c := Heap.get?_push_of_some _ hit
  have hT : ({ s with heap := s.heap.push { cls := .type "list", data := .seq ([] : List Value).toArray } } : Shared).TypeIs (.ref it) "range_iterator" := ⟨_, hit1, rfl⟩
  have h1 : Builtin.List.listSameRef (.ref s.heap.objs.size) (.ref it) = false := by simp [Builtin.List.listSameRef, hSi]
  show wpAny _ A.in1 (Builtin.List.listExtendWith (.ref s.heap.objs.size) (.ref it) (.ref s.heap.objs.size)) _ _ _
  unfold Builtin.List.listExtendWith
  refine wpAny_bind (wpAny_typeOf hT ?_)
  rw [if_neg (by rw [h1]; decide)]
  refine wpAny_bind (wpAny_pyIter_rangeiter (s := { s with heap := s.heap.push { cls := .type "list", data := .seq ([] : List Value).toArray } }) hit1 ?_)
  refine wpAny_bind (wpAny_holding ?_)
  unfold Builtin.List.listLengthHint
  refine wpAny_bind (wpAny_specialOf hT nolen_rit ?_)
  show wpAny _ A.in1 (specialOf (Value.ref it) (Str.ofString "__length_hint__") >>= _) _ _ _
  refine wpAny_bind (wpAny_specialOf hT hint_rit ?_)
  generalize hid : ("range_iterator.__length_hint__" : String) = id0
  wp_delta
  rw [show splitId id0 = some ("range_iterator", "__length_hint__") from by subst hid; decide +kernel]
  subst hid
  refine wpAny_bind (wpAny_isInstance (b := true) hT (by rw [isSubtype_type]; kernel_rfl) ?_)
  refine wpAny_ite_split (fun hab => absurd hab (by decide)) (fun _ => ?_)
  refine wpAny_ite_split (fun _ => ?_) (fun hab => absurd hab (by decide +kernel))
  refine wpAny_ite_split (fun _ => ?_) (fun hab => absurd rfl hab)
  refine wpAny_bind (wpAny_call_entry F.slot_range_iterator_length_hint hT F.entry_range_iterator_length_hint ?_ (F.args_range_iterator_length_hint_1 _))
  · unfold Builtin.«range_iterator.__length_hint__»
    refine wpAny_bind (wpAny_of_eq (a := Value.ref it) rfl ?_)
    refine wpAny_bind (wpAny_field hit1 rfl (x := rawInt (n : Int)) rfl ?_)
    show wpAny _ _ (mkInt (n : Int) >>= fun v => ret v) _ _ _
    refine wpAny_bind (wpAny_mkInt ?_)
    refine wpAny_pure ⟨_, rfl, ?_⟩
    refine wpAny_bind (m := asInt? _) (wpAny_pure ?_)
    have htl : Builtin.List.listTooLong ((n : Int).toNat) = false := by simp [Builtin.List.listTooLong]; omega
    refine wpAny_ite_split (fun hab => absurd hab (by rw [htl]; decide)) (fun _ => wpAny_pure ?_)
    refine wpAny_ite_split (fun hab => absurd hab (by decide)) (fun _ => ?_)
    have hit0 : IsRangeIter (s.heap.push { cls := .type "list", data := .seq ([] : List Value).toArray }) it (a + ((0 : Nat) : Int) * c) ((n : Int) - ((0 : Nat) : Int)) c := by
      rw [show a + ((0 : Nat) : Int) * c = a by simp, show (n : Int) - ((0 : Nat) : Int) = n by omega]
      exact hit1
    refine wpAny_pure ⟨plainId_quiet F.plain_extend_loop _, codeAny_extend_loopS W hn _ hSf _ n 0 _ _ _ rfl (Nat.zero_le _) hit0 hS₁ (ItemsOf.nil _) fun s' acc' c' hm hS' hacc => ?_⟩
    show wpAny _ A (load s.heap.objs.size >>= _) _ _ s'
    refine wpAny_bind (wpAny_load hS' ?_)
    refine wpAny_pure ?_
    rw [Moved.eq_with hm]
    refine hQ s'.heap s'.toks acc' (fun b o hb e => hm.heap b o (fun hmem => ?_) (Heap.get?_push_of_some _ e)) hacc
    rcases List.mem_cons.mp hmem with e' | hmem
    · exact absurd (Heap.lt_size e) (by rw [e']; exact Nat.lt_irrefl _)
    · exact hb (List.mem_singleton.mp hmem)
theorem code_tuple_new_rit {it : Addr} {a c : Int} {n : Nat} {Q₁ : Value → Shared → Prop} (hh : A.handled = none) (hit : IsRangeIter s.heap it a (n : Int) c) (hn : n ≤ sizeLine)
    (h : ∀ (h' : Heap) (tk : Nat) (acc : Array Value), (∀ b o, b ≠ it → s.heap.get? b = some o → h'.get? b = some o) → ItemsOf (fun i v => ∃ t, v = .int (a + i * c) t) acc n →
      Q₁ (.ref h'.objs.size) { s with heap := h'.push { cls := .type "tuple", data := .seq acc }, toks := tk }) :
    codeAny (model prog w) A (.call (.builtin "tuple.__new__") ⟨[.type "tuple", .ref it], []⟩) (wants Q₁ E) s := by
  refine codeAny_of_tree ?_
  show wpAny _ A.in1 (do checkBuiltinCall "tuple.__new__" ⟨[.type "tuple", .ref it], []⟩; again (.builtin "tuple.__new__" ⟨[.type "tuple", .ref it], []⟩)) _ _ s
  refine wpAny_bind (wpAny_of_eq (F.newCall_tuple_1 _) (wpAny_pure ⟨plainId_quiet F.plain_tuple_new _, codeAny_builtin F.entry_tuple_new ?_⟩))
  rw [Around.under_plainId F.plain_tuple_new _]
  have hsub := sub_tuple_self
  have hinit := init_tuple_lookup
  have hmh := madeHere_tuple
  have hTI : s.TypeIs (.ref it) "range_iterator" := ⟨_, hit, rfl⟩
  have hh1 : A.in1.handled = none := hh
  wp_walk using wpAny_typeOf hTI, collect_rit (A := A.in1) hh1 hit hn
  intro h' tk acc hk hacc
  show wpAny _ _ (Builtin.Tuple.tupleExact acc.toList.toArray >>= fun v => ret v) _ _ _
  unfold Builtin.Tuple.tupleExact
  refine wpAny_bind (wpAny_newObj_type ?_ (by show acc.toList.toArray.size ≤ sizeLine; simp only [Array.toArray_toList]; rw [hacc.1]; exact hn))
  refine wpAny_pure ?_
  have e : acc.toList.toArray = acc := by simp
  rw [e]
  exact h h' tk acc hk hacc
theorem call_tuple_rit {it : Addr} {a c : Int} {n : Nat} {Q : Value → Shared → Prop} (hh : A.handled = none) (hit : IsRangeIter s.heap it a (n : Int) c) (hn : n ≤ sizeLine)
    (hQ : ∀ (h' : Heap) (tk : Nat) (acc : Array Value), (∀ b o, b ≠ it → s.heap.get? b = some o → h'.get? b = some o) → ItemsOf (fun i v => ∃ t, v = .int (a + i * c) t) acc n →
      Q (.ref h'.objs.size) { s with heap := h'.push { cls := .type "tuple", data := .seq acc }, toks := tk }) :
    wpAny (model prog w) A (call (.type "tuple") [.ref it]) Q E s := by
  refine callType_codes (Q₁ := fun obj s₁ => s₁.TypeIs obj "tuple" ∧ Q obj s₁) F.called_tuple (F.typeCall_tuple_1 _) F.entry_object_init
    (code_tuple_new_rit (A := A.in1) hh hit hn fun h' tk acc hk hacc => ⟨⟨_, Heap.get?_push_size _ rfl, rfl⟩, hQ h' tk acc hk hacc⟩) fun obj s₁ h₁ => ?_
  exact ⟨h₁.1, F.args_object_init_2 obj _, object_init_meets F.called_tuple.init.lookup F.called_tuple.made (by decide) prog w A.in1 _ s₁ ⟨h₁.1, rfl, h₁.2⟩⟩
end
/-- the numbers from n - 1 down to 0 -/
def downL (n : Nat) : List Int := (List.range n).map fun (i : Nat) => (n : Int) - 1 - (i : Int)
def tTupRvF (te : L2.St → Hp → (Int → Int → Hp → Prop) → Prop) : TE := fun σ H Q => te σ H fun a b H1 => a = 0 ∧ 0 ≤ b ∧ b ≤ 1000 ∧ ∀ q o, NoD o → H1 q = none → Q (.ref q) (upd H1 q (.frz o (.tup ((downL b.toNat).map V.int))))
theorem vals_down {n : Nat} {acc : Array Value} (h : ItemsOf (fun i v => ∃ t, v = .int ((n : Int) - 1 + i * (-1)) t) acc n) : Vals ((downL n).map V.int) acc.toList := by
  have e : acc.toList.length = n := by rw [Array.length_toList]; exact h.1
  unfold downL
  rw [List.map_map]
  have e2 : List.range n = List.range acc.toList.length := by rw [e]
  rw [e2]
  refine vals_of_get acc.toList _ fun j u hj => ?_
  obtain ⟨t, rfl⟩ := h.2 j u (by rw [← hj, Array.getElem?_toList])
  exact ⟨t, by show _ = Value.int ((n : Int) - 1 - (j : Int)) t; rw [show (n : Int) - 1 + (j : Int) * (-1) = (n : Int) - 1 - (j : Int) by omega]⟩
theorem pe_tupRvF {X : Cx} {e : Expr} {te : L2.St → Hp → (Int → Int → Hp → Prop) → Prop} {p p2 pos pos2 : Pos} (hc : X.calm = true) (hg : Gl X "tuple") (hm : X.mg "tuple" = none) (hg2 : Gl X "reversed") (hm2 : X.mg "reversed" = none) (he : PRg X e te)
    (hs : starEach [e] X.env = (false, eval e X.env) :: starEach [] X.env := by rfl)
    (hs2 : starEach [.Call (.Name "reversed" p2) [e] [] pos2] X.env = (false, eval (.Call (.Name "reversed" p2) [e] [] pos2) X.env) :: starEach [] X.env := by rfl) :
    PE X (.Call (.Name "tuple" p) [.Call (.Name "reversed" p2) [e] [] pos2] [] pos) (tTupRvF te) := by
  refine ⟨fun pins s σ H Q I h => ?_⟩
  refine Call_ (ld_blt I hg hm boot_tuple (PyProof.Rows.callWith_type1 (args_cons (Call_ (ld_blt I hg2 hm2 PyProof.Rows.boot_reversed (PyProof.Rows.callWith_type1 (args_cons (thn (he pins s σ H _ I h) fun u s1 hx => args_nil ?_) hs) hs rfl))) hs2) hs2 rfl))
  obtain ⟨r, a, b, t, w1, v, H1, eu, hr, I1, rfl, b0, b1, q⟩ := hx
  subst eu
  have hn : Builtin.Range.rangeSize 0 b 1 = (((b - 0).toNat : Nat) : Int) := rangeSize_nat 0 b
  refine call_reversed_range hr (smallRev_one (by omega) (by omega) (by omega) (by omega)) (args_nil ?_)
  obtain ⟨f0, f1, f2, f3, f4, f5⟩ := I1.fpOk (H' := H1) (b := s1.heap.objs.size) (Nat.le_refl _) (I1.hok.fresh (Nat.le_refl _))
  have I2 : Inv X pins σ H1 { s1 with heap := s1.heap.push (rngRevObj 0 b 1) } := I1.kept (t' := s1.toks) fun c o e => Heap.get?_push_of_some _ e
  have hit : IsRangeIter (s1.heap.push (rngRevObj 0 b 1)) s1.heap.objs.size ((b.toNat : Int) - 1) (b.toNat : Int) (-1) := by
    have e1 : ((b.toNat : Nat) : Int) - 1 = 0 + (Builtin.Range.rangeSize 0 b 1 - 1) * 1 := by rw [hn]; omega
    have e2 : ((b.toNat : Nat) : Int) = Builtin.Range.rangeSize 0 b 1 := by rw [hn]; omega
    show IsRangeIter _ _ _ _ _
    rw [e1]
    conv => arg 4; rw [e2]
    exact Heap.get?_push_size _ rfl
  refine call_tuple_rit (s := { s1 with heap := s1.heap.push (rngRevObj 0 b 1) }) (I1.ok.hd hc) hit (Nat.le_trans (show b.toNat ≤ 1000 by omega) (by decide)) fun h' tk acc hk hi => ?_
  have I3 : Inv X pins σ H1 { s1 with heap := h', toks := tk } := I2.turned (t' := tk) (fun b o hb e => hk b o hb e) f0 f1 f3 f4 f5
  refine ⟨.ref h'.objs.size, _, I3.laid (o := .frz { cls := .type "tuple", data := .seq acc } (.tup ((downL b.toNat).map V.int))) (t' := tk) (fun c o e => Heap.get?_push_of_some _ e) (Nat.le_refl _) ⟨Heap.get?_push_size _ rfl, ?_, acc.toList, vals_down hi, ?_⟩, rfl, q _ _ ⟨rfl, rfl⟩ (I3.hok.fresh (Nat.le_refl _))⟩
  · rw [List.length_map]
    unfold downL
    rw [List.length_map, List.length_range]
    exact Nat.le_trans (show b.toNat ≤ 1000 by omega) (by decide)
  · rw [Array.toArray_toList]
    exact IsTup.new _ _
def kTupRv (Q : VK) : VK := fun x H => ∃ n : Int, x = .int n ∧ (0 : Int) = 0 ∧ 0 ≤ n ∧ n ≤ 1000 ∧ ∀ q o, NoD o → H q = none → Q (.ref q) (upd H q (.frz o (.tup ((downL n.toNat).map V.int))))
instance {ta : TE} {σ : L2.St} {H : Hp} {Q : VK} : Step (tTupRvF (tRg1 ta) σ H Q) (ta σ H (kTupRv Q)) := ⟨fun h => h⟩
theorem i_tupRv {H : Hp} {Q : VK} {n : Int} (hn : 0 ≤ n ∧ n ≤ 1000) (q : ∀ p H', H p = none → Same H H' → TupD H' p ((downL n.toNat).map V.int) → Q (.ref p) H') : kTupRv Q (.int n) H :=
  ⟨n, rfl, rfl, hn.1, hn.2, fun p o no hp => q p _ hp (same_new hp) ⟨o, no, upd_same⟩⟩
end Esc

set_option maxHeartbeats 1000000
/-! len(set(xs)), sorted(set(xs)) of any ints. -/
namespace Esc
open PySem PySem.Spec PyProof.Rows L2
theorem nodup_len {l m : List Int} (hn : l.Nodup) (h : ∀ x ∈ l, x ∈ m) : l.length ≤ m.length := by
  induction l generalizing m with
  | nil => exact Nat.zero_le _
  | cons a l ih =>
    obtain ⟨n1, n2⟩ := List.nodup_cons.mp hn
    have ha := h a List.mem_cons_self
    have z := ih (m := m.erase a) n2 fun x hx => (List.mem_erase_of_ne (fun z => n1 (by rw [← z]; exact hx) : x ≠ a)).mpr (h x (List.mem_cons_of_mem _ hx))
    rw [List.length_erase_of_mem ha] at z
    have := List.length_pos_of_mem ha
    rw [List.length_cons]
    omega
theorem nodup_of_len : ∀ {m l : List Int}, l.Nodup → (∀ x ∈ l, x ∈ m) → (∀ x ∈ m, x ∈ l) → l.length = m.length → m.Nodup
  | [], _, _, _, _, _ => List.nodup_nil
  | a :: m, l, hn, h1, h2, hl => by
    have ha : a ∈ l := h2 a List.mem_cons_self
    have hne := hn.erase a
    have lpos := List.length_pos_of_mem ha
    by_cases c : a ∈ m
    · have z := nodup_len (m := m) hn fun x hx => (List.mem_cons.mp (h1 x hx)).elim (fun e => by rw [e]; exact c) id
      rw [List.length_cons] at hl
      omega
    · refine List.nodup_cons.mpr ⟨c, nodup_of_len (l := l.erase a) hne (fun x hx => ?_) (fun x hx => ?_) ?_⟩
      · have y := List.mem_of_mem_erase hx
        rcases List.mem_cons.mp (h1 x y) with e | e
        · rw [e] at hx
          exact absurd hx (List.Nodup.not_mem_erase hn)
        · exact e
      · exact (List.mem_erase_of_ne (fun e => c (by rw [← e]; exact hx))).mpr (h2 x (List.mem_cons_of_mem _ hx))
      · rw [List.length_erase_of_mem ha]
        rw [List.length_cons] at hl
        omega
def tLenSetB (K : PySem.W.Frag) (ta : TE) : TE := fun σ H Q => ta σ H fun x H1 => ∃ (l : Addr) (ns : List Int), x = V.ref l ∧ SqL K H1 l (ns.map V.int) ∧ ns.length ≤ 1000 ∧ ∀ n : Nat, n ≤ ns.length → (n = ns.length ↔ ns.Nodup) → Q (.int n) H1
theorem pe_lenSetB {X : Cx} {a : Expr} {ta : TE} {p p2 q pos : Pos} (hc : X.calm = true) (hg : Gl X "len") (hm : X.mg "len" = none) (hg2 : Gl X "set") (hm2 : X.mg "set" = none) (ha : PE X a ta)
    (na : starEach [a] X.env = (false, eval a X.env) :: starEach [] X.env := by rfl) : PE X (.Call (.Name "len" p) [.Call (.Name "set" p2) [a] [] q] [] pos) (tLenSetB X.K ta) := by
  refine ⟨fun pins s σ H Q I h => ?_⟩
  refine Call_ (ld_blt I hg hm PySem.boot_len ?_)
  refine PyProof.Rows.callWith_builtin1 (PyProof.Rows.args_cons ?_ rfl) rfl rfl
  refine Call_ (ld_blt I hg2 hm2 PyProof.Rows.boot_set ?_)
  refine PyProof.Rows.callWith_type1 (PyProof.Rows.args_cons (thn (ha.run pins s σ H _ I h) fun v s1 ⟨x, H1, I1, r1, q1⟩ => PyProof.Rows.args_nil ?_) na) na rfl
  obtain ⟨l, ns, rfl, hq, h1, q1⟩ := q1
  cases r1
  obtain ⟨its, r, pl, hz⟩ := I1.list hq
  refine call_set_li (w := X.w) ns (I1.ok.hd hc) pl.isList (by simpa using r.ints) (by unfold scanBound; omega) fun h' tk c R hc' k => ?_
  refine PyProof.Rows.args_nil ?_
  obtain ⟨o, es, ep, t, ho, hex, hd, hgood, hnd, hmem, hsz, hf, hn, _⟩ := R
  have I2 : Inv X pins σ H1 { s1 with heap := h', toks := tk } := I1.kept fun b o e => k b o e
  have lk : (es.toList.map keyOf).length = c := by rw [List.length_map, Array.length_toList, hn]
  have m1 : ∀ x ∈ es.toList.map keyOf, x ∈ ns := fun x hx => by
    have z := (hmem x).mpr hx
    exact of_decide_eq_true z
  have m2 : ∀ x ∈ ns, x ∈ es.toList.map keyOf := fun x hx => (hmem x).mp (decide_eq_true hx)
  refine call_len_set ho hex hd hf (by rw [hn]; omega) ⟨.int c, H1, I2.tok _, ⟨_, by rw [hn]⟩, q1 c hc' ⟨fun e => nodup_of_len hnd m1 m2 (by rw [lk]; exact e), fun e => ?_⟩⟩
  have z := nodup_len e m2
  omega
def kLenSetB (K : PySem.W.Frag) (Q : VK) : VK := fun x H1 => ∃ (l : Addr) (ns : List Int), x = V.ref l ∧ SqL K H1 l (ns.map V.int) ∧ ns.length ≤ 1000 ∧ ∀ n : Nat, n ≤ ns.length → (n = ns.length ↔ ns.Nodup) → Q (.int n) H1
instance {K : PySem.W.Frag} {ta : TE} {σ : L2.St} {H : Hp} {Q : VK} : Step (tLenSetB K ta σ H Q) (ta σ H (kLenSetB K Q)) := ⟨fun h => h⟩
theorem i_lenSetB {K : PySem.W.Frag} {H : Hp} {Q : VK} {a : Addr} {ns : List Int} (h : SqL K H a (ns.map V.int)) (hl : ns.length ≤ 1000) (q : ∀ n : Nat, n ≤ ns.length → (n = ns.length ↔ ns.Nodup) → Q (.int n) H) : kLenSetB K Q (.ref a) H := ⟨a, ns, rfl, h, hl, q⟩
/-- sorted(set(..)): rising, with the same members -/
theorem i_sortedSetB {w : World} {H : Hp} {Q : VK} {a : Addr} {ns : List Int} {c : Nat} (h : H a = some (SetO w a (fun j => decide (j ∈ ns)) c)) (hc : c < 64) (q : ∀ (ms : List Int) (p : Addr) (H' : Hp), ms.Pairwise (· < ·) → (∀ k : Int, k ∈ ms ↔ k ∈ ns) → H p = none → Same H H' → H' p = some (.lst (ms.map V.int)) → Q (.ref p) H') : rSortedSet w [.ref a] H Q :=
  ⟨a, _, c, rfl, h, hc, fun ms p hms hmem _ hn => q ms p _ hms (fun k => by rw [hmem k, decide_eq_true_iff]) hn (same_new hn) upd_same⟩
end Esc

set_option maxHeartbeats 1000000
/-! New tuples, their objects told or not: displays, sums, slices; list(range(a, b)). -/
namespace Esc
open PySem PySem.Spec PyProof.Rows L2
/-- a new tuple: all that is told, or its object's dict too -/
def NewT (H : Hp) (xs : List V) (Q : VK) : Prop := (∀ p, H p = none → Q (.ref p) (upd H p (.tup xs))) ∨ ∀ p o, NoD o → H p = none → Q (.ref p) (upd H p (.frz o (.tup xs)))
def tTupC (t : TA) : TE := fun σ H Q => t σ H fun xs H1 => xs.length ≤ sizeLine ∧ NewT H1 xs Q
def rCatC (K : PySem.W.Frag) : R2 := fun x y H Q => ∃ a b xs ys, x = .ref a ∧ y = .ref b ∧ SqT K H a xs ∧ SqT K H b ys ∧ xs.length + ys.length ≤ sizeLine ∧
  (xs = [] → Q (.ref b) H) ∧ (xs ≠ [] → ys = [] → Q (.ref a) H) ∧ (xs ≠ [] → ys ≠ [] → NewT H (xs ++ ys) Q)
def rSlC (K : PySem.W.Frag) : V → Option Int → Option Int → Hp → VK → Prop := fun x lo hi H Q => ∃ a xs, x = .ref a ∧ SqT K H a xs ∧
  (HT.sIx xs.length 0 lo = 0 ∧ HT.sIx xs.length xs.length hi = xs.length → Q (.ref a) H) ∧ (¬ (HT.sIx xs.length 0 lo = 0 ∧ HT.sIx xs.length xs.length hi = xs.length) → NewT H (cutV xs lo hi) Q)
section
variable {X : Cx} {es : List Expr} {t : TA} {pos : Pos}
theorem pe_tupC {x1} (h : PA X es t) : PE X (.Tuple es x1 pos) (tTupC t) := by
  refine ⟨fun pins s σ H Q I hq => ?_⟩
  refine wpAny_Tuple_spliced (thn (h.run pos pins s σ H _ I hq) fun us s1 ⟨xs, H1, I1, r, z, q⟩ => ⟨by rw [← r.length]; exact z, ?_⟩)
  have hf : H1 s1.heap.objs.size = none := I1.hok.fresh (Nat.le_refl _)
  rcases q with q | q
  · exact ⟨.ref s1.heap.objs.size, upd H1 s1.heap.objs.size (.tup xs), I1.laid (t' := s1.toks) (fun b u e => Heap.get?_push_of_some _ e) (Nat.le_refl _) ⟨z, us, r, ⟨_, Heap.get?_push_size _ rfl, rfl, _, rfl⟩⟩, rfl, q _ hf⟩
  · exact ⟨.ref s1.heap.objs.size, _, I1.laid (t' := s1.toks) (o := .frz { cls := .type "tuple", data := .seq us.toArray } (.tup xs)) (fun b u e => Heap.get?_push_of_some _ e) (Nat.le_refl _) ⟨Heap.get?_push_size _ rfl, z, us, r, ⟨_, Heap.get?_push_size _ rfl, rfl, _, rfl⟩⟩, rfl, q _ _ ⟨rfl, rfl⟩ hf⟩
theorem op_catC : OpR X (binaryOp .Add) (rCatC X.K) := by
  intro pins s σ H x y v u Q I rx ry h
  obtain ⟨a, b, xs, ys, rfl, rfl, ha, hb, hz, q0, q1, q2⟩ := h
  by_cases hx : xs = []
  · exact op_catA pins s σ H _ _ v u Q I rx ry ⟨a, b, xs, ys, rfl, rfl, ha, hb, hz, q0, q1, fun z => absurd hx z⟩
  · by_cases hy : ys = []
    · exact op_catA pins s σ H _ _ v u Q I rx ry ⟨a, b, xs, ys, rfl, rfl, ha, hb, hz, q0, q1, fun _ z => absurd hy z⟩
    · rcases q2 hx hy with q2 | q2
      · exact op_catA pins s σ H _ _ v u Q I rx ry ⟨a, b, xs, ys, rfl, rfl, ha, hb, hz, q0, q1, fun _ _ => q2⟩
      · cases rx
        cases ry
        obtain ⟨its, r1, p1, _⟩ := I.tuple ha
        obtain ⟨its2, r2, p2, _⟩ := I.tuple hb
        refine HT.cat_tup p1 p2 (fun z => hx (r1.nil_iff.mp z)) (fun z => ⟨.ref a, H, I, rfl, q1 hx (r2.nil_iff.mp z)⟩) (fun z => ?_) (by rw [← r1.length, ← r2.length]; exact hz)
        refine ⟨.ref s.heap.objs.size, _, I.laid (t' := s.toks) (o := .frz { cls := .type "tuple", data := .seq (its ++ its2).toArray } (.tup (xs ++ ys))) (fun b ob q => Heap.get?_push_of_some _ q) (Nat.le_refl _) ?_, rfl, q2 _ _ ⟨rfl, rfl⟩ (I.hok.fresh (Nat.le_refl _))⟩
        exact ⟨Heap.get?_push_size _ rfl, by rw [List.length_append]; exact hz, _, r1.append r2, IsTup.new _ _⟩
theorem sl_tupC : SlR X (rSlC X.K) := by
  intro pins s σ H x v vl vu lo hi sl Q I rx hs pl pu h
  obtain ⟨a, xs, rfl, hx, q1, q2⟩ := h
  by_cases hw : HT.sIx xs.length 0 lo = 0 ∧ HT.sIx xs.length xs.length hi = xs.length
  · exact sl_tupA pins s σ H _ v vl vu lo hi sl Q I rx hs pl pu ⟨a, xs, rfl, hx, q1, fun z => absurd hw z⟩
  · rcases q2 hw with q2 | q2
    · exact sl_tupA pins s σ H _ v vl vu lo hi sl Q I rx hs pl pu ⟨a, xs, rfl, hx, q1, fun _ => q2⟩
    · cases rx
      obtain ⟨its, r, ht, hz⟩ := I.tuple hx
      have hlen : its.toArray.size = xs.length := by rw [List.size_toArray]; exact r.length.symm
      refine ⟨"tuple", _, PyProof.Rows.slot_tuple_getitem.lookup, ht.typeIs, ?_⟩
      refine HT.getItem_tuple_cut ht hs pl pu (by rw [hlen]; exact hw) ?_ (by rw [hlen]; exact hz)
      rw [hlen]
      exact ⟨.ref s.heap.objs.size, _, I.laid (t' := s.toks) (o := .frz _ (.tup (cutV xs lo hi))) (fun b ob q => Heap.get?_push_of_some _ q) (Nat.le_refl _) ⟨Heap.get?_push_size _ rfl, Nat.le_trans (cutV_length xs lo hi) hz, _, (r.drop (HT.sIx xs.length 0 lo)).take (HT.sIx xs.length xs.length hi - HT.sIx xs.length 0 lo), IsTup.new _ _⟩, rfl, q2 _ _ (by exact ⟨rfl, rfl⟩) (I.hok.fresh (Nat.le_refl _))⟩
end
/-! ### steps -/
def kTupC (Q : VK) : List V → Hp → Prop := fun xs H => xs.length ≤ sizeLine ∧ NewT H xs Q
def kLR2 (tb : TE) (σ : L2.St) (Q : VK) : VK := fun x H1 => tb σ H1 fun y H2 => ∃ i j, x = .int i ∧ y = .int j ∧ RgOk i j ∧ ∀ q, H2 q = none → Q (.ref q) (upd H2 q (.lst (rgV i j)))
def kLR3 (x : V) (Q : VK) : VK := fun y H2 => ∃ i j, x = .int i ∧ y = .int j ∧ RgOk i j ∧ ∀ q, H2 q = none → Q (.ref q) (upd H2 q (.lst (rgV i j)))
section
variable {K : PySem.W.Frag} {H : Hp} {ta tb : TE} {tr : TA} {σ : L2.St} {Q : VK} {x y : V} {xs ys : List V} {a b : Addr}
instance : Step (tTupC tr σ H Q) (tr σ H (kTupC Q)) := ⟨fun h => h⟩
instance : Step (tLstRg (tRg2 ta tb) σ H Q) (ta σ H (kLR2 tb σ Q)) := ⟨fun h => h⟩
instance : Step (kLR2 tb σ Q x H) (tb σ H (kLR3 x Q)) := ⟨fun h => h⟩
theorem new_T (q : ∀ p H', H p = none → Same H H' → H' p = some (.tup xs) → Q (.ref p) H') : NewT H xs Q := .inl fun p hp => q p _ hp (same_new hp) upd_same
theorem new_F (q : ∀ p H', H p = none → Same H H' → TupD H' p xs → Q (.ref p) H') : NewT H xs Q := .inr fun p o n hp => q p _ hp (same_new hp) ⟨o, n, upd_same⟩
theorem i_tupCT (hz : xs.length ≤ sizeLine) (q : ∀ p H', H p = none → Same H H' → H' p = some (.tup xs) → Q (.ref p) H') : kTupC Q xs H := ⟨hz, new_T q⟩
theorem i_tupCF (hz : xs.length ≤ sizeLine) (q : ∀ p H', H p = none → Same H H' → TupD H' p xs → Q (.ref p) H') : kTupC Q xs H := ⟨hz, new_F q⟩
theorem i_catCT (h1 : H a = some (.tup xs)) (h2 : H b = some (.tup ys)) (hz : xs.length + ys.length ≤ sizeLine) (q : ∀ p H', Same H H' → H' p = some (.tup (xs ++ ys)) → Q (.ref p) H') : rCatC K (.ref a) (.ref b) H Q :=
  ⟨a, b, xs, ys, rfl, rfl, st_of h1, st_of h2, hz, fun z => q b H (Same.refl _) (by rw [z]; exact h2), fun _ z => q a H (Same.refl _) (by rw [z, List.append_nil]; exact h1), fun _ _ => new_T fun p H' _ s e => q p H' s e⟩
theorem i_catCF (h1 : TupD H a xs) (h2 : TupD H b ys) (hz : xs.length + ys.length ≤ sizeLine) (q : ∀ p H', Same H H' → TupD H' p (xs ++ ys) → Q (.ref p) H') : rCatC K (.ref a) (.ref b) H Q :=
  ⟨a, b, xs, ys, rfl, rfl, h1.st, h2.st, hz, fun z => q b H (Same.refl _) (by rw [z]; exact h2), fun _ z => q a H (Same.refl _) (by rw [z, List.append_nil]; exact h1), fun _ _ => new_F fun p H' _ s e => q p H' s e⟩
theorem i_catCS (h1 : SqT K H a xs) (h2 : SqT K H b ys) (hz : xs.length + ys.length ≤ sizeLine) (q : ∀ p H', Same H H' → SqT K H' p (xs ++ ys) → Q (.ref p) H') : rCatC K (.ref a) (.ref b) H Q :=
  ⟨a, b, xs, ys, rfl, rfl, h1, h2, hz, fun z => q b H (Same.refl _) (by rw [z]; exact h2), fun _ z => q a H (Same.refl _) (by rw [z, List.append_nil]; exact h1), fun _ _ => new_T fun p H' _ s e => q p H' s (st_of e)⟩
theorem cut_allC (xs : List V) {lo hi : Option Int} (h1 : HT.sIx xs.length 0 lo = 0) (h2 : HT.sIx xs.length xs.length hi = xs.length) : cutV xs lo hi = xs := by
  unfold cutV
  rw [h1, h2, Nat.sub_zero, List.drop_zero, List.take_length]
theorem i_slCT {lo hi : Option Int} (h : H a = some (.tup xs)) (q : ∀ p H', Same H H' → H' p = some (.tup (cutV xs lo hi)) → Q (.ref p) H') : rSlC K (.ref a) lo hi H Q :=
  ⟨a, xs, rfl, st_of h, fun ⟨h1, h2⟩ => q a H (Same.refl _) (by rw [cut_allC xs h1 h2]; exact h), fun _ => new_T fun p H' _ s e => q p H' s e⟩
theorem i_slCF {lo hi : Option Int} (h : TupD H a xs) (q : ∀ p H', Same H H' → TupD H' p (cutV xs lo hi) → Q (.ref p) H') : rSlC K (.ref a) lo hi H Q :=
  ⟨a, xs, rfl, h.st, fun ⟨h1, h2⟩ => q a H (Same.refl _) (by rw [cut_allC xs h1 h2]; exact h), fun _ => new_F fun p H' _ s e => q p H' s e⟩
theorem i_slCS {lo hi : Option Int} (h : SqT K H a xs) (q : ∀ p H', Same H H' → SqT K H' p (cutV xs lo hi) → Q (.ref p) H') : rSlC K (.ref a) lo hi H Q :=
  ⟨a, xs, rfl, h, fun ⟨h1, h2⟩ => q a H (Same.refl _) (by rw [cut_allC xs h1 h2]; exact h), fun _ => new_T fun p H' _ s e => q p H' s (st_of e)⟩
/-- lo, lo + 1, .. below hi -/
def fromL (lo hi : Int) : List Int := (List.range (hi - lo).toNat).map fun (i : Nat) => lo + (i : Int)
theorem rg_from (lo hi : Int) : rgV lo hi = (fromL lo hi).map V.int := by
  unfold rgV fromL
  rw [List.map_map]
  rfl
theorem from_mem {lo hi x : Int} : x ∈ fromL lo hi ↔ lo ≤ x ∧ x < hi := by
  unfold fromL
  constructor
  · intro h
    obtain ⟨i, hi', rfl⟩ := List.mem_map.mp h
    have := List.mem_range.mp hi'
    omega
  · intro h
    exact List.mem_map.mpr ⟨(x - lo).toNat, List.mem_range.mpr (by omega), by omega⟩
theorem i_lstRg2 {i j : Int} (h : 0 ≤ i ∧ i ≤ 1000 ∧ 0 ≤ j ∧ j ≤ 1000) (q : ∀ p H', H p = none → Same H H' → H' p = some (.lst ((fromL i j).map V.int)) → Q (.ref p) H') : kLR3 (.int i) Q (.int j) H :=
  ⟨i, j, rfl, rfl, RgOk.of_le h.1 (by omega) (by omega) h.2.2.1, fun p hp => by
    rw [rg_from]
    exact q p _ hp (same_new hp) upd_same⟩
end
end Esc
namespace Esc
open PySem PySem.Spec PyProof.Rows L2
def rAddS : R2 := fun x y H Q => ∃ i j : Str, x = .str i ∧ y = .str j ∧ i.length + j.length ≤ sizeLine ∧ Q (.str (i ++ j)) H
theorem k_addS {X : Cx} : OpR X (binaryOp .Add) rAddS := op_add_str
theorem i_addS {H : Hp} {Q : VK} {a b : Str} (h : a.length + b.length ≤ 1000000) (q : Q (.str (a ++ b)) H) : rAddS (.str a) (.str b) H Q := ⟨a, b, rfl, rfl, Nat.le_trans h (by decide), q⟩
theorem str_app (x y : Str) : (x ++ y).length = x.length + y.length := by
  rw [TL.len_tl, TL.tl_append, List.length_append, ← TL.len_tl, ← TL.len_tl]
end Esc

local macro_rules | `(tactic| walk_at "hp") => `(tactic| first
  | assumption
  | (with_reducible exact L2.upd_same)
  | ((with_reducible apply Esc.mut_at); (focus assumption); (focus assumption); (focus (walk_at "hp")))
  | ((with_reducible apply Esc.upd_at); (focus (first | assumption | exact Ne.symm (by assumption))); (focus (walk_at "hp")))
  | ((with_reducible apply Esc.same_at); (focus assumption); (focus (walk_at "hp"))))
local macro_rules | `(tactic| walk_at "sq") => `(tactic| first
  | assumption
  | ((with_reducible apply Esc.sl_of); (focus (walk_at "hp")))
  | ((with_reducible apply Esc.st_of); (focus (walk_at "hp")))
  | ((with_reducible apply Esc.mut_l); (focus assumption); (focus assumption); (focus (walk_at "sq")))
  | ((with_reducible apply Esc.mut_t); (focus assumption); (focus assumption); (focus (walk_at "sq")))
  | ((with_reducible apply L2.Same.seq); (focus assumption); (focus (walk_at "sq")))
  | ((with_reducible apply Esc.stup); (focus assumption); (focus (walk_at "sq"))))
local macro_rules | `(tactic| walk_at "at") => `(tactic| first
  | assumption
  | exact L2.atI_nat (j := 0) rfl | exact L2.atI_nat (j := 1) rfl | exact L2.atI_nat (j := 2) rfl | exact L2.atI_nat (j := 3) rfl | exact L2.atI_nat (j := 4) rfl)
local macro_rules | `(tactic| walk_at "num") => `(tactic| first
  | assumption | omega
  | exact ⟨by omega, by omega⟩
  | exact Or.inl ⟨by omega, by omega⟩ | exact Or.inr ⟨by omega, by omega⟩)
local macro_rules | `(tactic| walk_at "sz") => `(tactic| first
  | assumption
  | exact Esc.szl (by simp only [List.length_append, List.length_map, List.length_cons, List.length_nil, List.length_singleton]; omega)
  | exact Esc.sz (by simp only [List.length_append, List.length_map, List.length_cons, List.length_nil, List.length_singleton]; omega))
local macro_rules | `(tactic| walk_at "r") => `(tactic| (refine Esc.Steps.h ?_; repeat' (first
  | ((with_reducible apply Esc.i_ixL); (focus (walk_at "sq")); (focus (walk_at "at")); refine Esc.Steps.h ?_)
  | ((with_reducible apply Esc.i_I); (focus (walk_at "num")); refine Esc.Steps.h ?_)
  | ((with_reducible apply Esc.i_ixT); (focus (walk_at "sq")); (focus (walk_at "at")); refine Esc.Steps.h ?_)
  | ((with_reducible apply Esc.i_bm); (focus (walk_at "sq")); refine Esc.Steps.h ?_)
  | ((with_reducible apply Esc.i_bm0); (focus (walk_at "sq")); refine Esc.Steps.h ?_)
  | ((with_reducible apply Esc.i_lenI); (focus (walk_at "sq")); refine Esc.Steps.h ?_)
  | ((with_reducible apply Esc.i_len); (focus (walk_at "sq")); refine Esc.Steps.h ?_)
  | ((with_reducible apply Esc.i_lenT); (focus (walk_at "sq")); refine Esc.Steps.h ?_)
  | ((with_reducible apply Esc.i_gtup); (focus (walk_at "sq")); (focus rfl); refine Esc.Steps.h ?_)
  | ((with_reducible apply Esc.i_append); (focus (walk_at "hp")); (focus (walk_at "sz")); refine Esc.Steps.h ?_)
  | ((with_reducible apply Esc.i_insert0); (focus (walk_at "hp")); (focus (walk_at "sz")); refine Esc.Steps.h ?_))))
local macro_rules | `(tactic| walk_at "go") => `(tactic| (try dsimp only [L2.cxOf, L2.Cx.nox, L2.Cx.wish, List.map_cons, List.map_nil]))

namespace Esc
open PySem PySem.Spec PyProof.Rows L2
def topS (i : Nat) : Stmt := PySem.Challenge.pw_escaperow_k18_written_and_read.main.body.getD i (.Pass ⟨0, 0, 0, 0⟩)
abbrev s_need_way : Stmt := topS 12
abbrev N_need_way : List Str := ["way", "why"]
abbrev P_need_way : List Str := ["way"]
theorem sc_need_way : FnScope N_need_way P_need_way (C8.fnScope s_need_way) := C8.fnScope_by (by decide +kernel)

abbrev s_fault_of : Stmt := topS 13
abbrev N_fault_of : List Str := ["way", "turnings", "inner", "top", "end", "find_fault", "why", "signs"]
abbrev P_fault_of : List Str := ["way"]
theorem sc_fault_of : FnScope N_fault_of P_fault_of (C8.fnScope s_fault_of) := C8.fnScope_by (by decide +kernel)

abbrev s_unturned : Stmt := topS 14
abbrev N_unturned : List Str := ["way", "turnings", "inner"]
abbrev P_unturned : List Str := ["way"]
theorem sc_unturned : FnScope N_unturned P_unturned (C8.fnScope s_unturned) := C8.fnScope_by (by decide +kernel)

abbrev s_first_unsigned : Stmt := topS 15
abbrev N_first_unsigned : List Str := ["signs", "top", "at", "sign"]
abbrev P_first_unsigned : List Str := ["signs", "top"]
theorem sc_first_unsigned : FnScope N_first_unsigned P_first_unsigned (C8.fnScope s_first_unsigned) := C8.fnScope_by (by decide +kernel)

abbrev s_is_whole : Stmt := topS 16
abbrev N_is_whole : List Str := ["number"]
abbrev P_is_whole : List Str := ["number"]
theorem sc_is_whole : FnScope N_is_whole P_is_whole (C8.fnScope s_is_whole) := C8.fnScope_by (by decide +kernel)

abbrev s_is_top : Stmt := topS 17
abbrev N_is_top : List Str := ["number"]
abbrev P_is_top : List Str := ["number"]
theorem sc_is_top : FnScope N_is_top P_is_top (C8.fnScope s_is_top) := C8.fnScope_by (by decide +kernel)

abbrev s_is_sign : Stmt := topS 18
abbrev N_is_sign : List Str := ["number", "top"]
abbrev P_is_sign : List Str := ["number", "top"]
theorem sc_is_sign : FnScope N_is_sign P_is_sign (C8.fnScope s_is_sign) := C8.fnScope_by (by decide +kernel)

abbrev s_is_plain : Stmt := topS 19
abbrev N_is_plain : List Str := ["number", "top", "end"]
abbrev P_is_plain : List Str := ["number", "top", "end"]
theorem sc_is_plain : FnScope N_is_plain P_is_plain (C8.fnScope s_is_plain) := C8.fnScope_by (by decide +kernel)

abbrev s_is_turning : Stmt := topS 20
abbrev N_is_turning : List Str := ["signs", "top"]
abbrev P_is_turning : List Str := ["signs", "top"]
theorem sc_is_turning : FnScope N_is_turning P_is_turning (C8.fnScope s_is_turning) := C8.fnScope_by (by decide +kernel)

abbrev s_codes_fault : Stmt := topS 21
abbrev N_codes_fault : List Str := ["way", "_", "top", "end", "codes", "code"]
abbrev P_codes_fault : List Str := ["way"]
theorem sc_codes_fault : FnScope N_codes_fault P_codes_fault (C8.fnScope s_codes_fault) := C8.fnScope_by (by decide +kernel)

abbrev s_is_code : Stmt := topS 22
abbrev N_is_code : List Str := ["code", "top", "end", "sign"]
abbrev P_is_code : List Str := ["code", "top", "end"]
theorem sc_is_code : FnScope N_is_code P_is_code (C8.fnScope s_is_code) := C8.fnScope_by (by decide +kernel)

abbrev s_stand_apart : Stmt := topS 23
abbrev N_stand_apart : List Str := ["codes", "at", "code", "other", "shared"]
abbrev P_stand_apart : List Str := ["codes"]
theorem sc_stand_apart : FnScope N_stand_apart P_stand_apart (C8.fnScope s_stand_apart) := C8.fnScope_by (by decide +kernel)

abbrev s_escapes_fault : Stmt := topS 24
abbrev N_escapes_fault : List Str := ["way", "_", "top", "end", "mark", "pairs", "signs", "codes", "code", "sign"]
abbrev P_escapes_fault : List Str := ["way"]
theorem sc_escapes_fault : FnScope N_escapes_fault P_escapes_fault (C8.fnScope s_escapes_fault) := C8.fnScope_by (by decide +kernel)

abbrev s_counts_fault : Stmt := topS 25
abbrev N_counts_fault : List Str := ["way", "_", "top", "end", "limit"]
abbrev P_counts_fault : List Str := ["way"]
theorem sc_counts_fault : FnScope N_counts_fault P_counts_fault (C8.fnScope s_counts_fault) := C8.fnScope_by (by decide +kernel)

abbrev s_ranks_fault : Stmt := topS 26
abbrev N_ranks_fault : List Str := ["way"]
abbrev P_ranks_fault : List Str := ["way"]
theorem sc_ranks_fault : FnScope N_ranks_fault P_ranks_fault (C8.fnScope s_ranks_fault) := C8.fnScope_by (by decide +kernel)

abbrev s_written : Stmt := topS 31
abbrev N_written : List Str := ["way", "turnings", "inner", "words", "signs"]
abbrev P_written : List Str := ["way"]
theorem sc_written : FnScope N_written P_written (C8.fnScope s_written) := C8.fnScope_by (by decide +kernel)

abbrev s_read_way : Stmt := topS 32
abbrev N_read_way : List Str := ["text", "words", "turnings", "at", "way", "signs"]
abbrev P_read_way : List Str := ["text"]
theorem sc_read_way : FnScope N_read_way P_read_way (C8.fnScope s_read_way) := C8.fnScope_by (by decide +kernel)

abbrev s_inner_words : Stmt := topS 33
abbrev N_inner_words : List Str := ["way", "sort", "many", "words", "number", "code", "sign"]
abbrev P_inner_words : List Str := ["way"]
theorem sc_inner_words : FnScope N_inner_words P_inner_words (C8.fnScope s_inner_words) := C8.fnScope_by (by decide +kernel)

abbrev s_inner_in : Stmt := topS 34
abbrev N_inner_in : List Str := ["words", "sort", "many", "numbers", "more", "word"]
abbrev P_inner_in : List Str := ["words"]
theorem sc_inner_in : FnScope N_inner_in P_inner_in (C8.fnScope s_inner_in) := C8.fnScope_by (by decide +kernel)

abbrev s_dotted : Stmt := topS 35
abbrev N_dotted : List Str := ["signs", "sign"]
abbrev P_dotted : List Str := ["signs"]
theorem sc_dotted : FnScope N_dotted P_dotted (C8.fnScope s_dotted) := C8.fnScope_by (by decide +kernel)

abbrev s_signs_in : Stmt := topS 36
abbrev N_signs_in : List Str := ["word", "part"]
abbrev P_signs_in : List Str := ["word"]
theorem sc_signs_in : FnScope N_signs_in P_signs_in (C8.fnScope s_signs_in) := C8.fnScope_by (by decide +kernel)

abbrev s_pair_in : Stmt := topS 37
abbrev N_pair_in : List Str := ["word", "parts"]
abbrev P_pair_in : List Str := ["word"]
theorem sc_pair_in : FnScope N_pair_in P_pair_in (C8.fnScope s_pair_in) := C8.fnScope_by (by decide +kernel)

abbrev s_number_in : Stmt := topS 38
abbrev N_number_in : List Str := ["word", "letter"]
abbrev P_number_in : List Str := ["word"]
theorem sc_number_in : FnScope N_number_in P_number_in (C8.fnScope s_number_in) := C8.fnScope_by (by decide +kernel)

abbrev s__law_dice : Stmt := topS 40
abbrev N__law_dice : List Str := ["_law_script", "_law_k", "_law_found", "_law_cell"]
abbrev P__law_dice : List Str := ["_law_script", "_law_k"]
theorem sc__law_dice : FnScope N__law_dice P__law_dice (C8.fnScope s__law_dice) := C8.fnScope_by (by decide +kernel)

abbrev s__law_off : Stmt := topS 41
abbrev N__law_off : List Str := ["_law_d", "_law_most", "_law_found"]
abbrev P__law_off : List Str := ["_law_d", "_law_most"]
theorem sc__law_off : FnScope N__law_off P__law_off (C8.fnScope s__law_off) := C8.fnScope_by (by decide +kernel)

abbrev s__law_alike : Stmt := topS 42
abbrev N__law_alike : List Str := ["_law_found", "_law_due", "_law_k"]
abbrev P__law_alike : List Str := ["_law_found", "_law_due"]
theorem sc__law_alike : FnScope N__law_alike P__law_alike (C8.fnScope s__law_alike) := C8.fnScope_by (by decide +kernel)

abbrev s__law_mixed : Stmt := topS 43
abbrev N__law_mixed : List Str := ["_law_d", "_law_row", "_law_left", "_law_found"]
abbrev P__law_mixed : List Str := ["_law_d", "_law_row"]
theorem sc__law_mixed : FnScope N__law_mixed P__law_mixed (C8.fnScope s__law_mixed) := C8.fnScope_by (by decide +kernel)

abbrev s__law_plain : Stmt := topS 44
abbrev N__law_plain : List Str := ["_law_top_here", "_law_end", "_law_sign"]
abbrev P__law_plain : List Str := ["_law_top_here", "_law_end"]
theorem sc__law_plain : FnScope N__law_plain P__law_plain (C8.fnScope s__law_plain) := C8.fnScope_by (by decide +kernel)

abbrev s__law_codes : Stmt := topS 45
abbrev N__law_codes : List Str := ["_law_d", "_law_top_here", "_law_end", "_law_plain_here", "_law_leaves", "_law_turn", "_law_short", "_law_code", "_law_sign"]
abbrev P__law_codes : List Str := ["_law_d", "_law_top_here", "_law_end"]
theorem sc__law_codes : FnScope N__law_codes P__law_codes (C8.fnScope s__law_codes) := C8.fnScope_by (by decide +kernel)

abbrev s__law_escapes : Stmt := topS 46
abbrev N__law_escapes : List Str := ["_law_d", "_law_top_here", "_law_end", "_law_plain_here", "_law_mark", "_law_more", "_law_signs", "_law_codes_here", "_law_sign", "_law_k"]
abbrev P__law_escapes : List Str := ["_law_d", "_law_top_here", "_law_end"]
theorem sc__law_escapes : FnScope N__law_escapes P__law_escapes (C8.fnScope s__law_escapes) := C8.fnScope_by (by decide +kernel)

abbrev s__law_base : Stmt := topS 47
abbrev N__law_base : List Str := ["_law_d", "_law_top_here", "_law_end", "_law_kind"]
abbrev P__law_base : List Str := ["_law_d", "_law_top_here"]
theorem sc__law_base : FnScope N__law_base P__law_base (C8.fnScope s__law_base) := C8.fnScope_by (by decide +kernel)

abbrev s__law_turned : Stmt := topS 48
abbrev N__law_turned : List Str := ["_law_d", "_law_way_here", "_law_most", "_law_turn"]
abbrev P__law_turned : List Str := ["_law_d", "_law_way_here", "_law_most"]
theorem sc__law_turned : FnScope N__law_turned P__law_turned (C8.fnScope s__law_turned) := C8.fnScope_by (by decide +kernel)

abbrev s__law_core : Stmt := topS 49
abbrev N__law_core : List Str := ["_law_way_here"]
abbrev P__law_core : List Str := ["_law_way_here"]
theorem sc__law_core : FnScope N__law_core P__law_core (C8.fnScope s__law_core) := C8.fnScope_by (by decide +kernel)

abbrev s__law_top : Stmt := topS 50
abbrev N__law_top : List Str := ["_law_way_here"]
abbrev P__law_top : List Str := ["_law_way_here"]
theorem sc__law_top : FnScope N__law_top P__law_top (C8.fnScope s__law_top) := C8.fnScope_by (by decide +kernel)

abbrev s__law_size : Stmt := topS 51
abbrev N__law_size : List Str := ["_law_d"]
abbrev P__law_size : List Str := ["_law_d"]
theorem sc__law_size : FnScope N__law_size P__law_size (C8.fnScope s__law_size) := C8.fnScope_by (by decide +kernel)

abbrev s__law_way : Stmt := topS 52
abbrev N__law_way : List Str := ["_law_d"]
abbrev P__law_way : List Str := ["_law_d"]
theorem sc__law_way : FnScope N__law_way P__law_way (C8.fnScope s__law_way) := C8.fnScope_by (by decide +kernel)

abbrev s__law_is : Stmt := topS 53
abbrev N__law_is : List Str := ["_law_e", "_law_word", "_law_kinds", "_law_words", "_law_one"]
abbrev P__law_is : List Str := ["_law_e", "_law_word"]
theorem sc__law_is : FnScope N__law_is P__law_is (C8.fnScope s__law_is) := C8.fnScope_by (by decide +kernel)

abbrev s__law_refused : Stmt := topS 54
abbrev N__law_refused : List Str := ["_law_work", "_law_word", "_law_value", "_law_e", "_law_told"]
abbrev P__law_refused : List Str := ["_law_work", "_law_word", "_law_value"]
theorem sc__law_refused : FnScope N__law_refused P__law_refused (C8.fnScope s__law_refused) := C8.fnScope_by (by decide +kernel)

abbrev s__law_turns : Stmt := topS 55
abbrev N__law_turns : List Str := ["_law_way_here", "_law_found"]
abbrev P__law_turns : List Str := ["_law_way_here"]
theorem sc__law_turns : FnScope N__law_turns P__law_turns (C8.fnScope s__law_turns) := C8.fnScope_by (by decide +kernel)

abbrev s__law_within : Stmt := topS 56
abbrev N__law_within : List Str := ["_law_way_here", "_law_inner", "_law_signs"]
abbrev P__law_within : List Str := ["_law_way_here", "_law_inner"]
theorem sc__law_within : FnScope N__law_within P__law_within (C8.fnScope s__law_within) := C8.fnScope_by (by decide +kernel)

abbrev s__law_are_codes : Stmt := topS 57
abbrev N__law_are_codes : List Str := ["_law_codes_here", "_law_plain_here", "_law_code", "_law_pairs", "_law_sign", "_law_other_here"]
abbrev P__law_are_codes : List Str := ["_law_codes_here", "_law_plain_here"]
theorem sc__law_are_codes : FnScope N__law_are_codes P__law_are_codes (C8.fnScope s__law_are_codes) := C8.fnScope_by (by decide +kernel)

abbrev s__law_are_pairs : Stmt := topS 58
abbrev N__law_are_pairs : List Str := ["_law_pairs", "_law_top_here", "_law_end", "_law_mark", "_law_signs", "_law_codes_here", "_law_pair", "_law_sign", "_law_code"]
abbrev P__law_are_pairs : List Str := ["_law_pairs", "_law_top_here", "_law_end", "_law_mark"]
theorem sc__law_are_pairs : FnScope N__law_are_pairs P__law_are_pairs (C8.fnScope s__law_are_pairs) := C8.fnScope_by (by decide +kernel)

abbrev s__law_why : Stmt := topS 59
abbrev N__law_why : List Str := ["_law_way_here", "_law_inner", "_law_word", "_law_top_here", "_law_end", "_law_plain_here", "_law_some", "_law_signs"]
abbrev P__law_why : List Str := ["_law_way_here"]
theorem sc__law_why : FnScope N__law_why P__law_why (C8.fnScope s__law_why) := C8.fnScope_by (by decide +kernel)

abbrev s__law_dots : Stmt := topS 60
abbrev N__law_dots : List Str := ["_law_numbers", "_law_number"]
abbrev P__law_dots : List Str := ["_law_numbers"]
theorem sc__law_dots : FnScope N__law_dots P__law_dots (C8.fnScope s__law_dots) := C8.fnScope_by (by decide +kernel)

abbrev s__law_text : Stmt := topS 61
abbrev N__law_text : List Str := ["_law_way_here", "_law_words", "_law_code", "_law_sign"]
abbrev P__law_text : List Str := ["_law_way_here"]
theorem sc__law_text : FnScope N__law_text P__law_text (C8.fnScope s__law_text) := C8.fnScope_by (by decide +kernel)

abbrev s__law_other : Stmt := topS 62
abbrev N__law_other : List Str := ["_law_d", "_law_way_here", "_law_number", "_law_inner", "_law_kind", "_law_at", "_law_code", "_law_pair"]
abbrev P__law_other : List Str := ["_law_d", "_law_way_here"]
theorem sc__law_other : FnScope N__law_other P__law_other (C8.fnScope s__law_other) := C8.fnScope_by (by decide +kernel)

abbrev s__law_good : Stmt := topS 63
abbrev N__law_good : List Str := ["_law_way_here", "_law_why_here", "_law_text_here"]
abbrev P__law_good : List Str := ["_law_way_here"]
theorem sc__law_good : FnScope N__law_good P__law_good (C8.fnScope s__law_good) := C8.fnScope_by (by decide +kernel)

abbrev s_law : Stmt := topS 64
abbrev N_law : List Str := ["_law_script", "_law_d", "_law_some", "_law_way_here"]
abbrev P_law : List Str := ["_law_script"]
theorem sc_law : FnScope N_law P_law (C8.fnScope s_law) := C8.fnScope_by (by decide +kernel)

/-- the built-in names that the text leaves alone -/
structure Blt (mg : Str → Option Value) : Prop where
  abs_ : mg "abs" = none
  all_ : mg "all" = none
  enumerate_ : mg "enumerate" = none
  int_ : mg "int" = none
  isinstance_ : mg "isinstance" = none
  len_ : mg "len" = none
  list_ : mg "list" = none
  min_ : mg "min" = none
  range_ : mg "range" = none
  reversed_ : mg "reversed" = none
  set_ : mg "set" = none
  sorted_ : mg "sorted" = none
  tuple_ : mg "tuple" = none
  type_ : mg "type" = none
end Esc

namespace Esc
open PySem PySem.Spec PyProof.Rows L2
section
variable {P : Program} {w : World} {K : PySem.W.Frag} {mg : Str → Option Value} {base : Heap}
/-! ### is_whole, is_sign, is_top: of whole numbers -/
def spWholeI : Sp := fun vs H Q _ => ∃ n : Int, vs = [.int n] ∧ Q (.bl true) H
theorem c_is_whole (Z : Blt mg) (d : Dd K mg "is_whole" s_is_whole P_is_whole) : C8.Cal P w K mg base 1 "is_whole" spWholeI [] := by
  refine d.cal sc_is_whole (fun vs H Q E h => ?_) (fun f cdv A outer s H vs Q E hr h => ?_)
  · obtain ⟨n, rfl, _⟩ := h
    rfl
  · obtain ⟨n, rfl, q⟩ := h
    have nd := sc_is_whole.nd
    refine ⟨_, (pss_one (ps_ret (pe_cmpR k_isTy (pe_callTy call_type1 (by rfl) Z.type_ (by decide +kernel) (pa_cons (pv 0) pa_nil)) (pe_bltn (v := .ty "int") (u := .type "int") (by rfl) Z.int_ (by decide +kernel) rfl) (nomark _)))), ?_⟩
    refine i_start (σ' := [some (.int n)]) rfl ?_
    walk_at "go"
    walk_at "r"
    rw [decide_eq_true rfl]
    exact q
def spSignI : Sp := fun vs H Q _ => ∃ n t : Int, vs = [.int n, .int t] ∧ Q (.bl (decide (0 ≤ n ∧ n < t))) H
theorem c_is_sign (Z : Blt mg) (c_is_whole : C8.Cal P w K mg base 1 "is_whole" spWholeI []) (d : Dd K mg "is_sign" s_is_sign P_is_sign) : C8.Cal P w K mg base 2 "is_sign" spSignI [] := by
  refine d.cal sc_is_sign (fun vs H Q E h => ?_) (fun f cdv A outer s H vs Q E hr h => ?_)
  · obtain ⟨n, t, rfl, _⟩ := h
    rfl
  · obtain ⟨n, t, rfl, q⟩ := h
    have nd := sc_is_sign.nd
    refine ⟨_, (pss_one (ps_ret (pe_and (C8.pe_c c_is_whole hr (by decide) (by rfl) (pa_cons (pv 0) pa_nil)) (pe_one (pe_chain op_le op_lt pe_int (pv 0) (pv 1)))))), ?_⟩
    refine i_start (σ' := [some (.int n), some (.int t)]) rfl ?_
    walk_at "go"
    walk_at "r"
    refine ⟨n, rfl, ?_⟩
    walk_at "r"
    refine i_br (fun h1 => ?_) (fun h1 => ?_)
    · walk_at "r"
      rw [show decide (n < t) = decide (0 ≤ n ∧ n < t) from decide_eq_decide.mpr ⟨fun h => ⟨h1, h⟩, fun h => h.2⟩]
      exact q
    · walk_at "r"
      rw [decide_eq_false (fun h => h1 h.1)] at q
      exact q
def spTopI : Sp := fun vs H Q _ => ∃ n : Int, vs = [.int n] ∧ Q (.bl (decide (3 ≤ n ∧ n ≤ 16))) H
theorem c_is_top (Z : Blt mg) (c_is_whole : C8.Cal P w K mg base 1 "is_whole" spWholeI []) (m_LEAST_TOP : ∃ u, mg "LEAST_TOP" = some u ∧ RelV (.int 3) u) (m_MOST_TOP : ∃ u, mg "MOST_TOP" = some u ∧ RelV (.int 16) u)
    (d : Dd K mg "is_top" s_is_top P_is_top) : C8.Cal P w K mg base 2 "is_top" spTopI [] := by
  refine d.cal sc_is_top (fun vs H Q E h => ?_) (fun f cdv A outer s H vs Q E hr h => ?_)
  · obtain ⟨n, rfl, _⟩ := h
    rfl
  · obtain ⟨n, rfl, q⟩ := h
    have nd := sc_is_top.nd
    refine ⟨_, (pss_one (ps_ret (pe_and (C8.pe_c c_is_whole hr (by decide) (by rfl) (pa_cons (pv 0) pa_nil)) (pe_one (pe_chain op_le op_le (C8.pe_gc rfl m_LEAST_TOP) (pv 0) (C8.pe_gc rfl m_MOST_TOP)))))), ?_⟩
    refine i_start (σ' := [some (.int n)]) rfl ?_
    walk_at "go"
    walk_at "r"
    refine ⟨n, rfl, ?_⟩
    walk_at "r"
    refine i_br (fun h1 => ?_) (fun h1 => ?_)
    · walk_at "r"
      rw [show decide (n ≤ 16) = decide (3 ≤ n ∧ n ≤ 16) from decide_eq_decide.mpr ⟨fun h => ⟨h1, h⟩, fun h => h.2⟩]
      exact q
    · walk_at "r"
      rw [decide_eq_false (fun h => h1 h.1)] at q
      exact q
/-! ### plain signs -/
def spPlain : Sp := fun vs H Q _ => ∃ t e : Int, vs = [.int t, .int e] ∧ 0 ≤ t ∧ t < 1000 ∧ ∀ p H', H p = none → Same H H' → H' p = some (.lst ((plainL t e).map V.int)) → Q (.ref p) H'
def spFirst (K : PySem.W.Frag) : Sp := fun vs H Q _ => ∃ (a : Addr) (ns : List Int) (t : Int), vs = [.ref a, .int t] ∧ SqL K H a (ns.map V.int) ∧ (∀ n ∈ ns, 0 ≤ n ∧ n < t) ∧ ∀ H', Same H H' → Q .non H'
theorem c_first_unsigned (Z : Blt mg) (c_is_sign : C8.Cal P w K mg base 2 "is_sign" spSignI []) (d : Dd K mg "first_unsigned" s_first_unsigned P_first_unsigned) : C8.Cal P w K mg base 3 "first_unsigned" (spFirst K) [] := by
  refine d.cal sc_first_unsigned (fun vs H Q E h => ?_) (fun f cdv A outer s H vs Q E hr h => ?_)
  · obtain ⟨a, ns, t, rfl, _⟩ := h
    rfl
  · obtain ⟨a, ns, t, rfl, ha, hn, q⟩ := h
    have nd := sc_first_unsigned.nd
    refine ⟨_, (pss_cons (ps_for PassesOwn.never rfl (pi_enum rfl Z.enumerate_ (pa_cons (pv 0) pa_nil)) (pg_tup rfl (pgs_cons (pg_name (i := 2) nd rfl (Or.inl rfl)) (pgs_cons (pg_name (i := 3) nd rfl (Or.inl rfl)) pgs_nil)))
    (pss_one (ps_if (pt_not (pt_val (C8.pe_c c_is_sign hr (by decide) (by rfl) (pa_cons (pv 3) (pa_cons (pv 1) pa_nil))))) (pss_one (ps_ret (pv 2))) pss_nil)))
  (pss_one (ps_ret pe_non))), ?_⟩
    refine i_start (σ' := [some (.ref a), some (.int t), none, none]) rfl ?_
    walk_at "go"
    walk_at "r"
    refine i_enum ha (fun i σ' H' => ∃ x y, σ' = [some (.ref a), some (.int t), x, y] ∧ Same H H') ⟨_, _, rfl, Same.refl _⟩ (fun i σ' H' _ ⟨_, _, _, s1⟩ => s1.seq ha) (fun i x σ' H1 T H2 hi p hT s2 eT => ?_) (fun σ' H1 p => ?_)
    · obtain ⟨y1, y2, rfl, s1⟩ := p
      obtain ⟨n, hn1, rfl⟩ := List.mem_map.mp (List.mem_of_getElem? hi)
      walk_at "r"
      refine ⟨n, t, rfl, ?_⟩
      rw [decide_eq_true (hn n hn1)]
      walk_at "r"
      exact ⟨_, _, rfl, s1.trans s2⟩
    · obtain ⟨y1, y2, rfl, s1⟩ := p
      walk_at "r"
      exact q _ s1
def spRanksFault : Sp := fun vs H Q _ => ∃ v, vs = [v] ∧ Q .non H
theorem c_ranks_fault (d : Dd K mg "ranks_fault" s_ranks_fault P_ranks_fault) : C8.Cal P w K mg base 1 "ranks_fault" spRanksFault [] := by
  refine d.cal sc_ranks_fault (fun vs H Q E h => ?_) (fun f cdv A outer s H vs Q E hr h => ?_)
  · obtain ⟨v, rfl, _⟩ := h
    rfl
  · obtain ⟨v, rfl, q⟩ := h
    have nd := sc_ranks_fault.nd
    refine ⟨_, (pss_one (ps_ret pe_non)), ?_⟩
    refine i_start (σ' := [some v]) rfl ?_
    walk_at "go"
    walk_at "r"
    exact q
/-! ### the number of a row -/
def spRankOf (K : PySem.W.Frag) : Sp := fun vs H Q _ => ∃ (a b : Addr) (row ls : List Int), vs = [.ref a, .ref b] ∧ SqL K H a (row.map V.int) ∧ SqL K H b (ls.map V.int) ∧ ls.Nodup ∧ (∀ x ∈ row, x ∈ ls) ∧ ls.length ≤ 1000 ∧
  ∀ H', Same H H' → Q (.int ((rankD ls.length (row.map fun x => ls.idxOf x) : Nat) : Int)) H'
def spRowOf (K : PySem.W.Frag) : Sp := fun vs H Q _ => ∃ (r : Nat) (b : Addr) (ls : List Int), vs = [.int (r : Int), .ref b] ∧ SqL K H b (ls.map V.int) ∧ 0 < ls.length ∧ ls.length ≤ 1000 ∧ (rowD ls.length r).length ≤ 1000 ∧
  ∀ p H', H p = none → Same H H' → H' p = some (.lst ((rowD ls.length r).map fun d => V.int (ls.getD d 0))) → Q (.ref p) H'
def spUnturned (K : PySem.W.Frag) : Sp := fun vs H Q _ => ∃ (v : V) (ts : List (Addr × List Int)) (p : Addr) (k : Str) (xs : List V), vs = [v] ∧ TurnAt K H ts v (.ref p) ∧ SqT K H p (.str k :: xs) ∧ k ≠ "turned" ∧ ts.length ≤ 1000 ∧
  ∀ q l H', H q = none → H l = none → Same H H' → H' q = some (.tup [.ref l, .ref p]) → H' l = some (.lst (ts.map fun t => V.ref t.1)) → Q (.ref q) H'
theorem c_unturned (d : Dd K mg "unturned" s_unturned P_unturned) : C8.Cal P w K mg base 1 "unturned" (spUnturned K) [] := by
  refine d.cal sc_unturned (fun vs H Q E h => ?_) (fun f cdv A outer s H vs Q E hr h => ?_)
  · obtain ⟨v, ts, p, k, xs, rfl, _⟩ := h
    rfl
  · obtain ⟨v, ts, pi, k, xs, rfl, ht, hk, hne, hlen, q⟩ := h
    have nd := sc_unturned.nd
    refine ⟨_, (pss_cons (ps_set (i := 1) nd rfl (Or.inl rfl) (pe_lst pa_nil))
  (pss_cons (ps_set (i := 2) nd rfl (Or.inl rfl) (pv 0))
  (pss_cons (ps_while PassesOwn.never (pt_cmpR op_eq (pe_ix ix_tup (pv 2) pe_int (fun _ _ => rfl)) pe_str (nomark _))
    (pss_cons (ps_expr (pe_bm PySem.F.plainAttrs_list PySem.F.slot_list_append PySem.F.type_list_append mt_append (pv 1) (pa_cons (pe_ix ix_tup (pv 2) pe_int (fun _ _ => rfl)) pa_nil)))
  (pss_one (ps_set (i := 2) nd rfl (Or.inl rfl) (pe_ix ix_tup (pv 2) pe_int (fun _ _ => rfl))))))
  (pss_one (ps_ret (pe_tup (pa_cons (pv 1) (pa_cons (pv 2) pa_nil)))))))), ?_⟩
    refine i_start (σ' := [some v, none, none]) rfl ?_
    walk_at "go"
    walk_at "r"
    refine i_lst (Nat.zero_le _) (fun p H1 hp s1 e1 => ?_)
    walk_at "r"
    refine i_while (fun m σ' H' => ∃ ds r x, ts = ds ++ r ∧ m = r.length ∧ σ' = [some v, some (.ref p), some x] ∧ Same H H' ∧ H' p = some (.lst (ds.map fun t => V.ref t.1)) ∧ TurnAt K H r x (.ref pi)) ts.length ⟨[], ts, v, rfl, rfl, rfl, s1, e1, ht⟩ (fun m σ' H' pv => ?_)
    obtain ⟨ds, r, x, rfl, rfl, rfl, s2, e2, hr2⟩ := pv
    cases r with
    | nil =>
      cases hr2
      have hk2 := stup s2 hk
      walk_at "r"
      refine i_no hne ?_
      walk_at "r"
      refine i_tup (by show 2 ≤ sizeLine; decide) (fun p2 H2 hp2 s3 e3 => ?_)
      rw [List.append_nil] at q
      exact q p2 p H2 (s2.free hp2) hp (s2.trans s3) e3 (s3 _ _ e2)
    | cons t r =>
      obtain ⟨a, t⟩ := t
      obtain ⟨p2, y, rfl, h1, h2, h3⟩ := hr2
      have h1' := stup s2 h1
      rw [List.length_append, List.length_cons] at hlen
      walk_at "r"
      refine i_yes rfl ?_
      walk_at "r"
      refine ⟨r.length, by show r.length < r.length + 1; omega, ds ++ [(a, t)], r, y, by rw [List.append_assoc]; rfl, rfl, rfl, smut s2 hp, ?_, h3⟩
      rw [upd_same, List.map_append]
      rfl
end
end Esc

namespace Esc
open PySem PySem.Spec PyProof.Rows L2
/-- a row of draws -/
def DiceAt (H : Hp) (d : Addr) : Prop := ∃ (x c : Int) (r : List Int), H d = some (.lst (V.int x :: V.int c :: r.map V.int)) ∧ 0 ≤ x ∧ 0 ≤ c ∧ (∀ y ∈ r, 0 ≤ y) ∧ r.length ≤ 63
theorem DiceAt.mk {H : Hp} {d : Addr} {x c : Int} {r : List Int} (h : H d = some (.lst (V.int x :: V.int c :: r.map V.int))) (hx : 0 ≤ x) (hc : 0 ≤ c) (hr : ∀ y ∈ r, 0 ≤ y) (hl : r.length ≤ 63) : DiceAt H d := ⟨x, c, r, h, hx, hc, hr, hl⟩
def spOff : Sp := fun vs H Q _ => ∃ (d : Addr) (m : Int), vs = [.ref d, .int m] ∧ 1 ≤ m ∧ m < 1073741824 ∧ DiceAt H d ∧ ∀ (H' : Hp) (n : Int), Same (hide d H) H' → DiceAt H' d → 0 ≤ n → n < m → Q (.int n) H'
section
variable {P : Program} {w : World} {K : PySem.W.Frag} {mg : Str → Option Value} {base : Heap}
theorem c_off (Z : Blt mg) (d : Dd K mg "_law_off" s__law_off P__law_off) : C8.Cal P w K mg base 1 "_law_off" spOff [] := by
  refine d.cal sc__law_off (fun vs H Q E h => ?_) (fun f cdv A outer s H vs Q E hr h => ?_)
  · obtain ⟨d, m, rfl, _⟩ := h
    rfl
  · obtain ⟨d, m, rfl, hm1, hm2, ⟨x, c, r, hd, hx, hc, hr0, hl⟩, q⟩ := h
    have nd := sc__law_off.nd
    refine ⟨_, (C8.pss_cut (ps_if (PW.pt (pw_and (pt_cmpR op_eq (pe_ix ix_list (pv 0) pe_int (fun _ _ => rfl)) pe_int (nomark _)) (pw_and1 (pt_cmpR op_gt (pe_callB k_len (by rfl) Z.len_ (by decide +kernel) (pa_cons (pv 0) pa_nil)) pe_int (nomark _))))) (pss_one (ps_asg (pe_bm PySem.F.plainAttrs_list PySem.F.slot_list_pop PySem.F.type_list_pop mt_popAt (pv 0) (pa_cons pe_int pa_nil)) (pg_sub (pv 0) pe_int set_list))) pss_nil)
  (pss_cons (ps_if (pt_cmpR op_gt (pe_ix ix_list (pv 0) pe_int (fun _ _ => rfl)) pe_int (nomark _)) (pss_cons (ps_set (i := 2) nd rfl (Or.inl rfl) (pe_op op_mod (pe_ix ix_list (pv 0) pe_int (fun _ _ => rfl)) (pv 1)))
  (pss_cons (ps_asg (pe_op op_fdiv (pe_ix ix_list (pv 0) pe_int (fun _ _ => rfl)) (pv 1)) (pg_sub (pv 0) pe_int set_list))
  (pss_one (ps_ret (pv 2))))) pss_nil)
  (pss_cons (ps_asg (pe_op op_mod (pe_op op_add (pe_op op_mul (pe_ix ix_list (pv 0) pe_int (fun _ _ => rfl)) pe_int) pe_int) pe_int) (pg_sub (pv 0) pe_int set_list))
  (pss_one (ps_ret (pe_op op_mod (pe_op op_fdiv (pe_ix ix_list (pv 0) pe_int (fun _ _ => rfl)) pe_int) (pv 1))))))), ?_⟩
    refine i_start (σ' := [some (.ref d), some (.int m), none]) rfl ?_
    walk_at "go"
    refine i_cut (fun σ' H' => σ' = [some (.ref d), some (.int m), none] ∧ Same (hide d H) H' ∧ DiceAt H' d) ?_ ?_
    · walk_at "r"
      have no : ∀ p : Prop, Same (hide d H) H ∧ DiceAt H d := fun _ => ⟨hide_same, .mk hd hx hc hr0 hl⟩
      refine i_br (fun hc0 => ?_) (fun _ => ?_)
      · walk_at "r"
        refine i_br (fun hlen => ?_) (fun _ => ?_)
        · walk_at "r"
          match r, hr0, hl, hd, hlen with
          | [], hr0, hl, hd, hlen => simp at hlen
          | y :: r, hr0, hl, hd, hlen =>
            refine i_popAt (j := 2) hd rfl rfl (by simp at hl ⊢; omega) ?_
            walk_at "r"
            refine i_setL (j := 1) upd_same (ixN_of rfl (by simp)) ?_
            rw [upd_upd]
            exact ⟨rfl, hide_mut, .mk (c := y) (r := r) upd_same hx (hr0 y List.mem_cons_self) (fun z hz => hr0 z (List.mem_cons_of_mem _ hz)) (by simp at hl; omega)⟩
        · walk_at "r"
          exact ⟨rfl, no True⟩
      · walk_at "r"
        exact ⟨rfl, no True⟩
    · rintro σ1 H1 ⟨rfl, s1, x, c, r, hd, hx, hc, hr0, hl⟩
      have s2 : ∀ {o : HO}, Same (hide d H) (upd H1 d o) := smut s1 hide_d
      walk_at "r"
      refine i_br (fun hc0 => ?_) (fun _ => ?_)
      · walk_at "r"
        refine i_setL (j := 1) hd (ixN_of rfl (by simp)) ?_
        walk_at "r"
        exact q _ _ s2 (.mk (c := c / m) (r := r) upd_same hx (Int.ediv_nonneg hc (by omega)) hr0 hl) (Int.emod_nonneg _ (by omega)) (Int.emod_lt_of_pos _ (by omega))
      · walk_at "r"
        refine i_setL (j := 0) hd (ixN_of rfl (by simp)) ?_
        walk_at "r"
        exact q _ _ s2 (.mk (c := c) (r := r) upd_same (Int.emod_nonneg _ (by decide)) hc hr0 hl) (Int.emod_nonneg _ (by omega)) (Int.emod_lt_of_pos _ (by omega))
/-! ### draws -/
def spDice (K : PySem.W.Frag) : Sp := fun vs H Q _ => ∃ (a : Addr) (ns : List Int) (k : Int), vs = [.ref a, .int k] ∧ SqL K H a (ns.map V.int) ∧ 0 ≤ k ∧ k < 1000000 ∧ ns.length ≤ 63 ∧ ∀ p H', H p = none → Same H H' → DiceAt H' p → Q (.ref p) H'
theorem c_dice (Z : Blt mg) (d : Dd K mg "_law_dice" s__law_dice P__law_dice) : C8.Cal P w K mg base 1 "_law_dice" (spDice K) [] := by
  refine d.cal sc__law_dice (fun vs H Q E h => ?_) (fun f cdv A outer s H vs Q E hr h => ?_)
  · obtain ⟨a, ns, k, rfl, _⟩ := h
    rfl
  · obtain ⟨a, ns, k, rfl, ha, hk0, hk1, hlen, q⟩ := h
    have nd := sc__law_dice.nd
    refine ⟨_, (pss_cons (ps_set (i := 2) nd rfl (Or.inl rfl) (pv 1))
  (pss_cons (ps_for PassesOwn.never rfl (pi_list (pv 0)) (pg_name (i := 3) nd rfl (Or.inl rfl))
    (pss_one (ps_set (i := 2) nd rfl (Or.inl rfl) (pe_op op_mod (pe_op op_add (pe_op op_mul (pv 2) pe_int) (pe_callB k_abs (by rfl) Z.abs_ (by decide +kernel) (pa_cons (pv 3) pa_nil))) pe_int))))
  (pss_one (ps_ret (pe_op op_cat (pe_lst (pa_cons (pv 2) (pa_cons pe_int pa_nil))) (pe_lc (own := [("_law_cell", 3)]) (g := gName 3) rfl nd (pi_list (pv 0)) (blkOk_by (N := N__law_dice) (sc := C8.fnScope s__law_dice) (own := [("_law_cell", 3)]) (by decide +kernel)) (fun _ _ _ _ _ => (pg_name (i := 3) nd rfl (Or.inl rfl))) (fun _ _ _ _ _ => pts_one (pt_cmpR op_ge (pv 3) (pe_op op_pow pe_int pe_int) (nomark _))) (fun _ _ _ _ _ => (pv 3)))))))), ?_⟩
    refine i_start (σ' := [some (.ref a), some (.int k), none, none]) rfl ?_
    walk_at "go"
    walk_at "r"
    refine i_for ha (fun i σ' H' => ∃ x y, σ' = [some (.ref a), some (.int k), some (.int x), y] ∧ Same H H' ∧ 0 ≤ x ∧ x < 2147483647) ⟨k, none, rfl, Same.refl _, hk0, by omega⟩ (fun i σ' H' _ ⟨_, _, _, s1, _⟩ => s1.seq ha) (fun i x σ' H' hi pv => ?_) (fun σ' H' pv => ?_)
    · obtain ⟨x, y, rfl, s1, hx0, hx1⟩ := pv
      obtain ⟨n, hn, rfl⟩ := map_get hi
      walk_at "r"
      exact ⟨_, _, rfl, s1, Int.emod_nonneg _ (by decide), Int.emod_lt_of_pos _ (by decide)⟩
    · obtain ⟨x, y, rfl, s1, hx0, hx1⟩ := pv
      have ha' := s1.seq ha
      walk_at "r"
      refine i_lst (by show 2 ≤ sizeLine; decide) (fun p1 H1 hp1 s2 e1 => ?_)
      walk_at "r"
      refine i_lcL (F := fun v => match v with | .int n => if 10 ^ 18 ≤ n then some (.int n) else none | _ => none) (s2.seq ha') (by rw [List.length_map]; omega) (fun v hv H2 s3 QN QY hN hY => ?_) (fun p2 H2 hp2 s3 e2 => ?_)
      · obtain ⟨n, hn, rfl⟩ := List.mem_map.mp hv
        walk_at "r"
        refine i_br (fun h => ?_) (fun h => ?_)
        · walk_at "r"
          exact hY _ (if_pos (show (10 : Int) ^ 18 ≤ n from h)) _ (Same.refl _)
        · walk_at "r"
          exact hN (if_neg (show ¬ (10 : Int) ^ 18 ≤ n from h)) _ (Same.refl _)
      · have e3 : ∀ l : List Int, (l.map V.int).filterMap (fun v => match v with | .int n => if 10 ^ 18 ≤ n then some (V.int n) else none | _ => none) = (l.filter fun n => decide ((10 : Int) ^ 18 ≤ n)).map V.int := fun l => by
          induction l with
          | nil => rfl
          | cons n r ih =>
            rw [List.map_cons, List.filterMap_cons, List.filter_cons, ih]
            by_cases h : (10 : Int) ^ 18 ≤ n
            · rw [decide_eq_true h, if_pos rfl]
              dsimp only
              rw [if_pos h]
              rfl
            · rw [decide_eq_false h, if_neg Bool.false_ne_true]
              dsimp only
              rw [if_neg h]
        rw [e3] at e2
        have lf : (ns.filter fun n => decide ((10 : Int) ^ 18 ≤ n)).length ≤ ns.length := List.length_filter_le _ _
        walk_at "r"
        have e1' := s3 _ _ e1
        refine i_cat e1' e2 (sz (by rw [List.length_map, List.length_cons, List.length_cons, List.length_nil]; omega)) (fun p3 H3 hp3 s4 e4 => ?_)
        refine q p3 H3 (s1.free (s2.free (s3.free hp3))) (s1.trans (s2.trans (s3.trans s4))) (.mk (x := x) (c := 0) (r := ns.filter fun n => decide ((10 : Int) ^ 18 ≤ n)) e4 hx0 (Int.le_refl _) ?_ (by omega))
        intro y hy
        have z := of_decide_eq_true (List.mem_filter.mp hy).2
        exact Int.le_trans (by decide) z
/-! ### plain signs, by the law's own -/
theorem c_law_plain (Z : Blt mg) (d : Dd K mg "_law_plain" s__law_plain P__law_plain) : C8.Cal P w K mg base 1 "_law_plain" spPlain [] := by
  refine d.cal sc__law_plain (fun vs H Q E h => ?_) (fun f cdv A outer s H vs Q E hr h => ?_)
  · obtain ⟨t, e, rfl, _⟩ := h
    rfl
  · obtain ⟨t, e, rfl, h1, h2, q⟩ := h
    have nd := sc__law_plain.nd
    refine ⟨_, (pss_one (ps_ret (pe_lc (own := [("_law_sign", 2)]) (g := gName 2) rfl nd (pi_range1 rfl Z.range_ (pa_cons (pv 0) pa_nil)) (blkOk_by (N := N__law_plain) (sc := C8.fnScope s__law_plain) (own := [("_law_sign", 2)]) (by decide +kernel)) (fun _ _ _ _ _ => (pg_name (i := 2) nd rfl (Or.inl rfl))) (fun _ _ _ _ _ => pts_one (pt_cmpR op_ne (pv 2) (pv 1) (nomark _))) (fun _ _ _ _ _ => (pv 2))))), ?_⟩
    refine i_start (σ' := [some (.int t), some (.int e), none]) rfl ?_
    walk_at "go"
    walk_at "r"
    refine i_lcR (F := fun (i : Nat) => if (i : Int) = e then none else some (V.int (i : Int))) ⟨h1, by omega⟩ (fun i hi H1 s1 QN QY hN hY => ?_) (by rw [plainL_map]; exact q)
    walk_at "r"
    refine i_nbr (fun h => ?_) (fun h => ?_)
    · walk_at "r"
      exact hN (if_pos h) _ (Same.refl _)
    · walk_at "r"
      exact hY _ (if_neg h) _ (Same.refl _)
/-! ### a top -/
def spSize : Sp := fun vs H Q _ => ∃ d : Addr, vs = [.ref d] ∧ DiceAt H d ∧ ∀ (H' : Hp) (n : Int), Same (hide d H) H' → DiceAt H' d → 3 ≤ n → n ≤ 16 → Q (.int n) H'
theorem c_law_size (c__law_off : C8.Cal P w K mg base 1 "_law_off" spOff []) (d : Dd K mg "_law_size" s__law_size P__law_size) : C8.Cal P w K mg base 2 "_law_size" spSize [] := by
  refine d.cal sc__law_size (fun vs H Q E h => ?_) (fun f cdv A outer s H vs Q E hr h => ?_)
  · obtain ⟨a, rfl, _⟩ := h
    rfl
  · obtain ⟨a, rfl, ⟨x, c, r, hd, hx, hc, hr0, hl⟩, q⟩ := h
    have nd := sc__law_size.nd
    refine ⟨_, (pss_one (ps_ret (pe_ix ix_list (pe_lst (pa_cons pe_int (pa_cons pe_int (pa_cons pe_int (pa_cons pe_int (pa_cons pe_int (pa_cons (pe_op op_add pe_int (pe_op op_mod (pe_op op_fdiv (pe_ix ix_list (pv 0) pe_int (fun _ _ => rfl)) pe_int) pe_int)) (pa_cons pe_int (pa_cons pe_int pa_nil))))))))) (C8.pe_c c__law_off hr (by decide) (by rfl) (pa_cons (pv 0) (pa_cons pe_int pa_nil))) (fun _ _ => rfl)))), ?_⟩
    refine i_start (σ' := [some (.ref a)]) rfl ?_
    walk_at "go"
    walk_at "r"
    have ho := Int.emod_nonneg (x / 7) (show (14 : Int) ≠ 0 by decide)
    have ho2 := Int.emod_lt_of_pos (x / 7) (show (0 : Int) < 14 by decide)
    refine i_lst (by show 8 ≤ sizeLine; decide) (fun p H1 hp s1 e1 => ?_)
    walk_at "r"
    refine ⟨a, 8, rfl, by decide, by decide, .mk (s1 _ _ hd) hx hc hr0 hl, fun H2 n s2 d2 hn0 hn8 => ?_⟩
    have npa : p ≠ a := (ne_of_none hd hp).symm
    have e2 := s2 _ _ ((hide_ne npa).trans e1)
    have s3 : Same (hide a H) H2 := fun b o e => s2 _ _ (by
      have nb : b ≠ a := fun z => by rw [z, hide_d] at e; cases e
      rw [hide_ne nb] at e ⊢
      exact s1 _ _ e)
    walk_at "r"
    have hn : n = 0 ∨ n = 1 ∨ n = 2 ∨ n = 3 ∨ n = 4 ∨ n = 5 ∨ n = 6 ∨ n = 7 := by omega
    rcases hn with rfl | rfl | rfl | rfl | rfl | rfl | rfl | rfl
    · exact i_ixL (sl_of e2) (atI_nat (j := 0) rfl) (q _ _ s3 d2 (by decide) (by decide))
    · exact i_ixL (sl_of e2) (atI_nat (j := 1) rfl) (q _ _ s3 d2 (by decide) (by decide))
    · exact i_ixL (sl_of e2) (atI_nat (j := 2) rfl) (q _ _ s3 d2 (by decide) (by decide))
    · exact i_ixL (sl_of e2) (atI_nat (j := 3) rfl) (q _ _ s3 d2 (by decide) (by decide))
    · exact i_ixL (sl_of e2) (atI_nat (j := 4) rfl) (q _ _ s3 d2 (by decide) (by decide))
    · exact i_ixL (sl_of e2) (atI_nat (j := 5) rfl) (q _ _ s3 d2 (by omega) (by omega))
    · exact i_ixL (sl_of e2) (atI_nat (j := 6) rfl) (q _ _ s3 d2 (by decide) (by decide))
    · exact i_ixL (sl_of e2) (atI_nat (j := 7) rfl) (q _ _ s3 d2 (by decide) (by decide))
/-! ### a body -/
def spBody : Sp := fun vs H Q _ => ∃ (d : Addr) (t e m : Int), vs = [.ref d, .int t, .int e, .int m] ∧ DiceAt H d ∧ 1 ≤ t ∧ t ≤ 16 ∧ 0 ≤ e ∧ e < t ∧ 0 ≤ m ∧ m ≤ 1000 ∧
  ∀ (p : Addr) (H' : Hp) (ns : List Int), H p = none → Same (hide d H) H' → DiceAt H' d → H' p = some (.lst (ns.map V.int)) → (∀ n ∈ ns, 0 ≤ n ∧ n < t) → (ns.length : Int) ≤ m → Q (.ref p) H'
end
end Esc

namespace Esc
open PySem PySem.Spec PyProof.Rows L2
section
variable {P : Program} {w : World} {K : PySem.W.Frag} {mg : Str → Option Value} {base : Heap}
theorem DiceAt.same {H H' : Hp} {d : Addr} (s : Same H H') (h : DiceAt H d) : DiceAt H' d := by
  obtain ⟨x, c, r, a, b⟩ := h
  exact ⟨x, c, r, s _ _ a, b⟩
theorem DiceAt.there {H : Hp} {d : Addr} (h : DiceAt H d) : ∃ o, H d = some o := by
  obtain ⟨x, c, r, a, b⟩ := h
  exact ⟨_, a⟩
theorem DiceAt.ne {H : Hp} {d p : Addr} (h : DiceAt H d) (n : H p = none) : p ≠ d := by
  obtain ⟨o, e⟩ := h.there
  exact (ne_of_none e n).symm
theorem DiceAt.put {H : Hp} {d p : Addr} {o : HO} (h : DiceAt H d) (n : p ≠ d) : DiceAt (upd H p o) d := by
  obtain ⟨x, c, r, a, b⟩ := h
  exact ⟨x, c, r, by rw [upd_ne n.symm]; exact a, b⟩
theorem hide_pure {d : Addr} {H H1 : Hp} (s : Same H H1) : Same (hide d H) H1 := fun b o e => s b o (hide_same b o e)
theorem hide_free {d p : Addr} {H H1 : Hp} (s : Same (hide d H) H1) (n : p ≠ d) (h : H1 p = none) : H p = none := by
  have z := s.free h
  rw [hide_ne n] at z
  exact z
/-! ### a list in a drawn order -/
def spMixed (K : PySem.W.Frag) : Sp := fun vs H Q _ => ∃ (d a : Addr) (xs : List V), vs = [.ref d, .ref a] ∧ DiceAt H d ∧ SqL K H a xs ∧ (∀ v ∈ xs, Fl K (hide d H) v) ∧ xs.length ≤ 1000 ∧
  ∀ (p : Addr) (H' : Hp) (ys : List V), H p = none → Same (hide d H) H' → DiceAt H' d → H' p = some (.lst ys) → ys.Perm xs → Q (.ref p) H'
theorem c_mixed (Z : Blt mg) (c__law_off : C8.Cal P w K mg base 1 "_law_off" spOff []) (d : Dd K mg "_law_mixed" s__law_mixed P__law_mixed) : C8.Cal P w K mg base 2 "_law_mixed" (spMixed K) [] := by
  refine d.cal sc__law_mixed (fun vs H Q E h => ?_) (fun f cdv A outer s H vs Q E hr h => ?_)
  · obtain ⟨d, a, xs, rfl, _⟩ := h
    rfl
  · obtain ⟨d, a, xs, rfl, hd, ha, hf, hl, q⟩ := h
    have nd := sc__law_mixed.nd
    refine ⟨_, (pss_cons (ps_set (i := 2) nd rfl (Or.inl rfl) (pe_callTy k_listOf (by rfl) Z.list_ (by decide +kernel) (pa_cons (pv 1) pa_nil)))
  (pss_cons (ps_set (i := 3) nd rfl (Or.inl rfl) (pe_lst pa_nil))
  (pss_cons (ps_while PassesOwn.never (pt_cmpR (op_neD hr.units) (pv 2) (pe_lst pa_nil) (nomark _))
    (pss_one (ps_expr (pe_bm PySem.F.plainAttrs_list PySem.F.slot_list_append PySem.F.type_list_append mt_append (pv 3) (pa_cons (pe_bm PySem.F.plainAttrs_list PySem.F.slot_list_pop PySem.F.type_list_pop mt_popAt (pv 2) (pa_cons (C8.pe_c c__law_off hr (by decide) (by rfl) (pa_cons (pv 0) (pa_cons (pe_callB k_len (by rfl) Z.len_ (by decide +kernel) (pa_cons (pv 2) pa_nil)) pa_nil))) pa_nil)) pa_nil)))))
  (pss_one (ps_ret (pv 3)))))), ?_⟩
    refine i_start (σ' := [some (.ref d), some (.ref a), none, none]) rfl ?_
    walk_at "go"
    walk_at "r"
    refine i_listOf ha (fun l H1 hl1 s1 e1 => ?_)
    walk_at "r"
    refine i_lst (Nat.zero_le _) (fun fd H2 hfd s2 e2 => ?_)
    have nld : l ≠ d := hd.ne hl1
    have nfd : fd ≠ d := (hd.same s1).ne hfd
    have nfl : fd ≠ l := (ne_of_none e1 hfd).symm
    have hl0 : hide d H l = none := by rw [hide_ne nld]; exact hl1
    have hf0 : hide d H fd = none := by rw [hide_ne nfd]; exact s1.free hfd
    walk_at "r"
    refine i_while (fun m σ' H' => ∃ left found : List V, m = left.length ∧ σ' = [some (.ref d), some (.ref a), some (.ref l), some (.ref fd)] ∧ Same (hide d H) H' ∧ DiceAt H' d ∧ H' l = some (.lst left) ∧ H' fd = some (.lst found) ∧ (left ++ found).Perm xs) xs.length
      ⟨xs, [], rfl, rfl, hide_pure (s1.trans s2), (hd.same s1).same s2, s2 _ _ e1, e2, by rw [List.append_nil]⟩ (fun m σ' H' pv => ?_)
    obtain ⟨left, found, rfl, rfl, s3, d3, el, ef, hp⟩ := pv
    have hll : left.length + found.length = xs.length := by
      have z := hp.length_eq
      rw [List.length_append] at z
      exact z
    walk_at "r"
    refine i_lst (Nat.zero_le _) (fun nl H4 hnl s4 e4 => ?_)
    have d4 := d3.same s4
    have el4 := s4 _ _ el
    have ef4 := s4 _ _ ef
    have s34 : Same (hide d H) H4 := s3.trans s4
    walk_at "r"
    refine i_neNil (sl_of el4) (fun v hv => (hf v (hp.subset (List.mem_append_left _ hv))).same s34) (sl_of e4) ?_
    walk_at "r"
    refine i_nbr (fun h => ?_) (fun h => ?_)
    · subst h
      walk_at "r"
      rw [List.nil_append] at hp
      exact q fd H4 found (s1.free hfd) s34 d4 ef4 hp
    · have lpos : 0 < left.length := List.length_pos_iff.mpr h
      walk_at "r"
      refine ⟨d, (left.length : Nat), rfl, by omega, by omega, d4, fun H5 k s5 d5 hk0 hk1 => ?_⟩
      have el5 := s5 _ _ ((hide_ne nld).trans el4)
      have ef5 := s5 _ _ ((hide_ne nfd).trans ef4)
      have hkl : k.toNat < left.length := by omega
      walk_at "r"
      refine i_popAt (j := k.toNat) el5 (by omega) (List.getElem?_eq_getElem hkl) (by omega) ?_
      have zf : found.length < sizeLine := szl (by omega)
      have ef6 : (upd H5 l (HO.lst (left.eraseIdx k.toNat))) fd = some (.lst found) := by
        rw [upd_ne nfl]
        exact ef5
      walk_at "r"
      refine ⟨(left.eraseIdx k.toNat).length, by rw [List.length_eraseIdx_of_lt hkl]; omega, left.eraseIdx k.toNat, found ++ [left[k.toNat]], rfl, rfl, ?_, ?_, ?_, upd_same, ?_⟩
      · exact smut (smut (hide_tr s34 s5) hl0) hf0
      · exact (d5.put nld).put nfd
      · rw [upd_ne nfl.symm, upd_same]
      · refine List.Perm.trans ?_ hp
        have z := perm_erase left k.toNat hkl
        rw [← List.append_assoc]
        refine List.Perm.trans (List.perm_append_comm) ?_
        show (left[k.toNat] :: (left.eraseIdx k.toNat ++ found)).Perm _
        exact (List.Perm.append_right found z)
/-! ### the way within, its top, its end -/
def spCore (K : PySem.W.Frag) : Sp := fun vs H Q _ => ∃ (v : V) (ts : List (Addr × List Int)) (p : Addr) (k : Str) (xs : List V), vs = [v] ∧ TurnAt K H ts v (.ref p) ∧ SqT K H p (.str k :: xs) ∧ k ≠ "turned" ∧ Q (.ref p) H
theorem c_core (d : Dd K mg "_law_core" s__law_core P__law_core) : C8.Cal P w K mg base 1 "_law_core" (spCore K) [] := by
  refine d.cal sc__law_core (fun vs H Q E h => ?_) (fun f cdv A outer s H vs Q E hr h => ?_)
  · obtain ⟨v, ts, p, k, xs, rfl, _⟩ := h
    rfl
  · obtain ⟨v, ts, p, k, xs, rfl, ht, hk, hne, q⟩ := h
    have nd := sc__law_core.nd
    refine ⟨_, (pss_cons (ps_while PassesOwn.never (pt_cmpR op_eq (pe_ix ix_tup (pv 0) pe_int (fun _ _ => rfl)) pe_str (nomark _))
    (pss_one (ps_set (i := 0) nd rfl (Or.inl rfl) (pe_ix ix_tup (pv 0) pe_int (fun _ _ => rfl)))))
  (pss_one (ps_ret (pv 0)))), ?_⟩
    refine i_start (σ' := [some v]) rfl ?_
    walk_at "go"
    walk_at "r"
    refine i_while (fun m σ' H' => ∃ r x, m = r.length ∧ σ' = [some x] ∧ H' = H ∧ TurnAt K H r x (.ref p)) ts.length ⟨ts, v, rfl, rfl, rfl, ht⟩ (fun m σ' H' pv => ?_)
    obtain ⟨r, x, rfl, rfl, eH, hr2⟩ := pv
    rw [eH]
    cases r with
    | nil =>
      cases hr2
      walk_at "r"
      refine i_no hne ?_
      walk_at "r"
      exact q
    | cons t r =>
      obtain ⟨a, t⟩ := t
      obtain ⟨p2, y, rfl, h1, h2, h3⟩ := hr2
      walk_at "r"
      refine i_yes rfl ?_
      walk_at "r"
      exact ⟨r.length, by show r.length < r.length + 1; omega, r, y, rfl, rfl, rfl, h3⟩
def spTopW (K : PySem.W.Frag) : Sp := fun vs H Q _ => ∃ (v : V) (wy : Way), vs = [v] ∧ WayAt K H v wy ∧ Q (.int wy.t) H
theorem c_top (c__law_core : C8.Cal P w K mg base 1 "_law_core" (spCore K) []) (d : Dd K mg "_law_top" s__law_top P__law_top) : C8.Cal P w K mg base 2 "_law_top" (spTopW K) [] := by
  refine d.cal sc__law_top (fun vs H Q E h => ?_) (fun f cdv A outer s H vs Q E hr h => ?_)
  · obtain ⟨v, wy, rfl, _⟩ := h
    rfl
  · obtain ⟨v, wy, rfl, ⟨tas, p, h1, h2, h3⟩, q⟩ := h
    have nd := sc__law_top.nd
    obtain ⟨xs, hx⟩ := h3.head
    refine ⟨_, (pss_one (ps_ret (pe_ix ix_tup (C8.pe_c c__law_core hr (by decide) (by rfl) (pa_cons (pv 0) pa_nil)) pe_int (fun _ _ => rfl)))), ?_⟩
    refine i_start (σ' := [some v]) rfl ?_
    walk_at "go"
    walk_at "r"
    refine ⟨v, tas, p, _, _, rfl, h2, hx, wy.k.name_ne, ?_⟩
    walk_at "r"
    exact q
def spEndW (K : PySem.W.Frag) : Sp := fun vs H Q _ => ∃ (v : V) (wy : Way), vs = [v] ∧ WayAt K H v wy ∧ Q (.int wy.e) H
end
end Esc

namespace Esc
open PySem PySem.Spec PyProof.Rows L2
theorem perm_map_inv {α β : Type} {f : α → β} {xs ys : List β} (p : ys.Perm xs) : ∀ as : List α, xs = as.map f → ∃ as' : List α, ys = as'.map f ∧ as'.Perm as := by
  induction p with
  | nil =>
    intro as e
    exact ⟨[], rfl, by rw [List.map_eq_nil_iff.mp e.symm]⟩
  | cons x p ih =>
    intro as e
    cases as with
    | nil => cases e
    | cons a as =>
      rw [List.map_cons] at e
      obtain ⟨r, e1, q⟩ := ih as (List.cons.inj e).2
      exact ⟨a :: r, by rw [List.map_cons, e1, (List.cons.inj e).1], q.cons a⟩
  | swap x y l =>
    intro as e
    match as, e with
    | a :: b :: as, e =>
      rw [List.map_cons, List.map_cons] at e
      obtain ⟨e1, e2⟩ := List.cons.inj e
      obtain ⟨e3, e4⟩ := List.cons.inj e2
      exact ⟨b :: a :: as, by rw [List.map_cons, List.map_cons, e1, e3, e4], List.Perm.swap a b as⟩
  | trans _ _ ih1 ih2 =>
    intro as e
    obtain ⟨bs, e1, p1⟩ := ih2 as e
    obtain ⟨cs, e2, p2⟩ := ih1 bs e1
    exact ⟨cs, e2, p2.trans p1⟩
theorem DiceAt.lst {H : Hp} {d : Addr} (h : DiceAt H d) : ∃ xs, H d = some (.lst xs) := by
  obtain ⟨x, c, r, a, _⟩ := h
  exact ⟨_, a⟩
theorem tp_dice {H H' : Hp} {d : Addr} (h : DiceAt H d) (s : Same (hide d H) H') : Same (tp H) (tp H') := by
  obtain ⟨xs, e⟩ := h.lst
  exact tp_hide e s
section
variable {P : Program} {w : World} {K : PySem.W.Frag} {mg : Str → Option Value} {base : Heap}
/-! ### turned ones -/
def spTurned (K : PySem.W.Frag) : Sp := fun vs H Q _ => ∃ (d : Addr) (v : V) (m : Int) (wy : Way), vs = [.ref d, v, .int m] ∧ 0 ≤ m ∧ m ≤ 100 ∧ DiceAt H d ∧ WayAt K (tp H) v wy ∧ 3 ≤ wy.t ∧ wy.t ≤ 16 ∧
  ∀ (H' : Hp) (u : V) (ts : List (List Int)), Same (hide d H) H' → DiceAt H' d → ts.length ≤ max 1 m.toNat → (∀ p ∈ ts, p.Perm (countL wy.t)) → WayAt K (tp H') u ⟨ts ++ wy.ts, wy.t, wy.e, wy.k⟩ → Q u H'
theorem c_turned (Z : Blt mg) (c__law_off : C8.Cal P w K mg base 1 "_law_off" spOff []) (c__law_mixed : C8.Cal P w K mg base 2 "_law_mixed" (spMixed K) []) (c__law_top : C8.Cal P w K mg base 2 "_law_top" (spTopW K) []) (d : Dd K mg "_law_turned" s__law_turned P__law_turned) : C8.Cal P w K mg base 3 "_law_turned" (spTurned K) [] := by
  refine d.cal sc__law_turned (fun vs H Q E h => ?_) (fun f cdv A outer s H vs Q E hr h => ?_)
  · obtain ⟨d, v, m, wy, rfl, _⟩ := h
    rfl
  · obtain ⟨d, v, m, wy, rfl, hm0, hm1, hd, hw, h3, h16, q⟩ := h
    have nd := sc__law_turned.nd
    refine ⟨_, (pss_cons (ps_for PassesOwn.never rfl (pi_range1 rfl Z.range_ (pa_cons (pe_ix ix_list (pe_lst (pa_cons pe_int (pa_cons pe_int (pa_cons pe_int (pa_cons (pv 2) pa_nil))))) (C8.pe_c c__law_off hr (by decide) (by rfl) (pa_cons (pv 0) (pa_cons pe_int pa_nil))) (fun _ _ => rfl)) pa_nil)) (pg_name (i := 3) nd rfl (Or.inl rfl))
    (pss_one (ps_set (i := 1) nd rfl (Or.inl rfl) (pe_tup (pa_cons pe_str (pa_cons (pe_callTy k_tupOfF (by rfl) Z.tuple_ (by decide +kernel) (pa_cons (C8.pe_c c__law_mixed hr (by decide) (by rfl) (pa_cons (pv 0) (pa_cons (pe_listRg rfl rfl Z.list_ (prg_1 rfl Z.range_ (C8.pe_c c__law_top hr (by decide) (by rfl) (pa_cons (pv 1) pa_nil)))) pa_nil))) pa_nil)) (pa_cons (pv 1) pa_nil)))))))
  (pss_one (ps_ret (pv 1)))), ?_⟩
    refine i_start (σ' := [some (.ref d), some v, some (.int m), none]) rfl ?_
    walk_at "go"
    walk_at "r"
    refine i_lst (by show 4 ≤ sizeLine; decide) (fun l H1 hl1 s1 e1 => ?_)
    have nld : l ≠ d := hd.ne hl1
    walk_at "r"
    refine ⟨d, 4, rfl, by decide, by decide, hd.same s1, fun H2 n s2 d2 n0 n1 => ?_⟩
    have e2 := s2 _ _ ((hide_ne nld).trans e1)
    have s02 : Same (hide d H) H2 := hide_tr (hide_pure s1) s2
    have turns : ∀ k : Int, 0 ≤ k → k ≤ max 1 m.toNat → atI [V.int 0, .int 0, .int 1, .int m] n = some (.int k) → ∃ k : Int, 0 ≤ k ∧ k ≤ max 1 m.toNat ∧ atI [V.int 0, .int 0, .int 1, .int m] n = some (.int k) := fun k a b c => ⟨k, a, b, c⟩
    have ht : ∃ k : Int, 0 ≤ k ∧ k ≤ max 1 m.toNat ∧ atI [V.int 0, .int 0, .int 1, .int m] n = some (.int k) := by
      have hn : n = 0 ∨ n = 1 ∨ n = 2 ∨ n = 3 := by omega
      rcases hn with rfl | rfl | rfl | rfl
      · exact ⟨0, by omega, by omega, atI_nat (j := 0) rfl⟩
      · exact ⟨0, by omega, by omega, atI_nat (j := 1) rfl⟩
      · exact ⟨1, by omega, by omega, atI_nat (j := 2) rfl⟩
      · exact ⟨m, by omega, by omega, atI_nat (j := 3) rfl⟩
    obtain ⟨k, hk0, hk1, hk⟩ := ht
    walk_at "r"
    refine i_rng ⟨hk0, by omega⟩ (fun i σ' H' => ∃ u x ts, σ' = [some (.ref d), some u, some (.int m), x] ∧ Same (hide d H) H' ∧ DiceAt H' d ∧ ts.length = i ∧ (∀ p ∈ ts, p.Perm (countL wy.t)) ∧ WayAt K (tp H') u ⟨ts ++ wy.ts, wy.t, wy.e, wy.k⟩)
      ⟨v, none, [], rfl, s02, d2, rfl, (fun p z => by cases z), hw.same (tp_dice hd s02)⟩ (fun i σ' H' hi pv => ?_) (fun σ' H' pv => ?_)
    · obtain ⟨u, x, ts, rfl, s3, d3, lts, hts, w3⟩ := pv
      walk_at "r"
      refine ⟨u, _, rfl, w3.same tp_same, ?_⟩
      walk_at "r"
      refine i_lstRg ⟨by show 0 ≤ wy.t; omega, by show wy.t ≤ _; omega⟩ (fun c H4 hc s4 e4 => ?_)
      have d4 := d3.same s4
      have ncd : c ≠ d := d3.ne hc
      rw [rg_count] at e4
      walk_at "r"
      refine ⟨d, c, _, rfl, d4, sl_of e4, fun y hy => ?_, by rw [List.length_map, count_len]; show wy.t.toNat ≤ 1000; omega, fun p H5 ys hp s5 d5 e5 pp => ?_⟩
      · obtain ⟨z, _, rfl⟩ := List.mem_map.mp hy
        exact fl_int z
      obtain ⟨t, rfl, pt⟩ := perm_map_inv pp _ rfl
      have s35 : Same (hide d H') H5 := hide_tr (hide_pure s4) s5
      have w5 := w3.same (tp_dice d3 s35)
      walk_at "r"
      refine i_tupOfF (sl_of e5) (fun tp5 H6 hp6 s6 e6 => ?_)
      have w6 := w5.same (tp_pure s6)
      walk_at "r"
      refine i_tup (by show 3 ≤ sizeLine; decide) (fun r H7 hr7 s7 e7 => ?_)
      walk_at "r"
      refine ⟨.ref r, _, t :: ts, rfl, ((hide_tr s3 s35).trans s6).trans s7, (d5.same s6).same s7, by rw [List.length_cons, lts], fun p hp => ?_, ?_⟩
      · rcases List.mem_cons.mp hp with rfl | hp
        · exact pt
        · exact hts p hp
      · obtain ⟨tas, pi, z1, z2, z3⟩ := w6.same (tp_pure s7)
        refine ⟨(tp5, t) :: tas, pi, by rw [List.map_cons, z1]; rfl, ⟨r, u, rfl, tp_sqt e7, tp_tupd (e6.same s7), z2⟩, z3⟩
    · obtain ⟨u, x, ts, rfl, s3, d3, lts, hts, w3⟩ := pv
      walk_at "r"
      exact q H' u ts s3 d3 (by omega) hts w3
end
end Esc

namespace Esc
open PySem PySem.Spec PyProof.Rows L2
theorem hu65 {A : Around} {k : Nat} (hr : Room k A) : A.units + 65 < cLine := by have := hr.un; omega
theorem TupsAt.perm {K : PySem.W.Frag} {H : Hp} {as' as : List Addr} (p : as'.Perm as) : ∀ {cs : List (List Int)}, TupsAt K H as cs → ∃ cs' : List (List Int), cs'.Perm cs ∧ TupsAt K H as' cs' := by
  induction p with
  | nil =>
    intro cs h
    exact ⟨cs, .refl _, h⟩
  | cons a p ih =>
    intro cs h
    cases cs with
    | nil => exact h.elim
    | cons c cs =>
      obtain ⟨ds, q, z⟩ := ih h.2
      exact ⟨c :: ds, q.cons c, h.1, z⟩
  | swap a b l =>
    intro cs h
    cases cs with
    | nil => exact h.elim
    | cons c1 cs =>
      cases cs with
      | nil => exact h.2.elim
      | cons c2 cs => exact ⟨c2 :: c1 :: cs, List.Perm.swap _ _ _, h.2.1, h.1, h.2.2⟩
  | trans _ _ ih1 ih2 =>
    intro cs h
    obtain ⟨ds, p1, h1⟩ := ih2 h
    obtain ⟨es, p2, h2⟩ := ih1 h1
    exact ⟨es, p2.trans p1, h2⟩
theorem map_erase {α β : Type} (f : α → β) : ∀ (l : List α) (i : Nat), (l.map f).eraseIdx i = (l.eraseIdx i).map f
  | [], _ => rfl
  | _ :: _, 0 => rfl
  | a :: l, i + 1 => congrArg (f a :: ·) (map_erase f l i)
theorem TupsAt.snoc {K : PySem.W.Frag} {H : Hp} {as : List Addr} {cs : List (List Int)} {a : Addr} {c : List Int} (h : TupsAt K H as cs) (h2 : H a = some (.tup (c.map V.int))) : TupsAt K H (as ++ [a]) (cs ++ [c]) := h.app ⟨h2, trivial⟩
theorem TupsAt.mem {K : PySem.W.Frag} {H : Hp} {as : List Addr} {cs : List (List Int)} {a : Addr} (h : TupsAt K H as cs) (m : a ∈ as) : ∃ c ∈ cs, SqT K H a (c.map V.int) := by
  obtain ⟨i, hi, e⟩ := List.getElem_of_mem m
  obtain ⟨c, h1, h2⟩ := h.get (by rw [List.getElem?_eq_getElem hi, e])
  exact ⟨c, List.mem_of_getElem? h1, h2⟩
/-- l.remove(x) of a list of tuples of ints -/
theorem i_removeT {K : PySem.W.Frag} {H : Hp} {Q : VK} {l a : Addr} {as : List Addr} {cs : List (List Int)} {j : Nat} {c : List Int} (hl : H l = some (.lst (as.map V.ref))) (h : TupsAt K H as cs) (hn : cs.Nodup) (ha : SqT K H a (c.map V.int)) (hj : cs[j]? = some c)
    (q : Q .non (upd H l (.lst ((as.eraseIdx j).map V.ref)))) : rRemD K (.ref l) [.ref a] H Q := by
  refine ⟨l, _, _, intsT c, cs.map intsT, j, intsT c, rfl, rfl, hl, h.dpa, .tup ha (dpa_ints c), shaped_intsTs cs, shaped_intsT c, by rw [List.getElem?_map, hj]; rfl, by rw [eqv_intsT]; exact decide_eq_true rfl, fun m z' hm hz => ?_, by rw [map_erase]; exact q⟩
  rw [List.getElem?_map] at hz
  cases e : cs[m]? with
  | none =>
    rw [e] at hz
    cases hz
  | some c' =>
    rw [e] at hz
    cases hz
    rw [eqv_intsT]
    refine decide_eq_false fun z => ?_
    subst z
    obtain ⟨h1, e1⟩ := List.getElem?_eq_some_iff.mp e
    obtain ⟨h2, e2⟩ := List.getElem?_eq_some_iff.mp hj
    have := (List.getElem_inj hn).mp (e1.trans e2.symm)
    omega
/-- a + b of tuples that are not empty -/
theorem i_catT {K : PySem.W.Frag} {H : Hp} {Q : VK} {a b : Addr} {xs ys : List V} (h1 : SqT K H a xs) (h2 : SqT K H b ys) (n1 : xs ≠ []) (n2 : ys ≠ []) (hz : xs.length + ys.length ≤ sizeLine) (q : ∀ p H', H p = none → Same H H' → H' p = some (.tup (xs ++ ys)) → Q (.ref p) H') : rCatT K (.ref a) (.ref b) H Q :=
  ⟨a, b, xs, ys, rfl, rfl, h1, h2, n1, hz, fun z => absurd z n2, fun _ => grow q⟩
/-- what a way without turned ones ends with -/
def EndB (K : PySem.W.Frag) (d : Addr) (t e : Int) (H : Hp) (Q : VK) : Prop := ∀ (H' : Hp) (p : Addr) (k : Kind), Same (hide d H) H' → DiceAt H' d → KindAt K (tp H') p t e k → KindOk t e k → Q (.ref p) H'
def spBase (K : PySem.W.Frag) : Sp := fun vs H Q _ => ∃ (d : Addr) (t e : Int), vs = [.ref d, .int t, .int e] ∧ DiceAt H d ∧ 3 ≤ t ∧ t ≤ 16 ∧ 0 ≤ e ∧ e < t ∧ EndB K d t e H Q
section
variable {P : Program} {w : World} {K : PySem.W.Frag} {mg : Str → Option Value} {base : Heap}
theorem c_codes (Z : Blt mg) (c__law_off : C8.Cal P w K mg base 1 "_law_off" spOff []) (c__law_plain : C8.Cal P w K mg base 1 "_law_plain" spPlain []) (c__law_mixed : C8.Cal P w K mg base 2 "_law_mixed" (spMixed K) []) (d : Dd K mg "_law_codes" s__law_codes P__law_codes) : C8.Cal P w K mg base 3 "_law_codes" (spBase K) [] := by
  refine d.cal sc__law_codes (fun vs H Q E h => ?_) (fun f cdv A outer s H vs Q E hr h => ?_)
  · obtain ⟨d, t, e, rfl, _⟩ := h
    rfl
  · obtain ⟨d, t, e, rfl, hd, h3, h16, h0, h1, q⟩ := h
    have nd := sc__law_codes.nd
    have np := plain_len h0 h1
    refine ⟨_, (pss_cons (ps_set (i := 3) nd rfl (Or.inl rfl) (C8.pe_c c__law_plain hr (by decide) (by rfl) (pa_cons (pv 1) (pa_cons (pv 2) pa_nil))))
  (pss_cons (ps_setLc (i := 4) (own := [("_law_sign", 8)]) (g := gName 8) (tt := tYes) rfl nd rfl rfl (sw_true rfl rfl rfl (by decide +kernel)) (pi_list (pv 3)) (blkOk_by (N := N__law_codes) (sc := C8.fnScope s__law_codes) (own := [("_law_sign", 8)]) (by decide +kernel)) (fun _ _ _ _ _ => (pg_name (i := 8) nd rfl (Or.inl rfl))) (fun _ _ _ _ _ => pts_nil) (fun _ _ _ _ _ => (pe_tup (pa_cons (pv 8) pa_nil))))
  (pss_cons (ps_for PassesOwn.never rfl (pi_range1 rfl Z.range_ (pa_cons (pe_op op_add pe_int (C8.pe_c c__law_off hr (by decide) (by rfl) (pa_cons (pv 0) (pa_cons pe_int pa_nil)))) pa_nil)) (pg_name (i := 5) nd rfl (Or.inl rfl))
    (pss_cons (ps_setLc (i := 6) (own := [("_law_code", 7)]) (g := gName 7) rfl nd rfl rfl (sw_true rfl rfl rfl (by decide +kernel)) (pi_list (pv 4)) (blkOk_by (N := N__law_codes) (sc := C8.fnScope s__law_codes) (own := [("_law_code", 7)]) (by decide +kernel)) (fun _ _ _ _ _ => (pg_name (i := 7) nd rfl (Or.inl rfl))) (fun _ _ _ _ _ => pts_one (pt_cmpR op_lt (pe_callB (show CallR _ _ (rLen K) from k_len) (by rfl) Z.len_ (by decide +kernel) (pa_cons (pv 7) pa_nil)) pe_int (nomark _))) (fun _ _ _ _ _ => (pv 7)))
  (pss_cons (ps_set (i := 7) nd rfl (Or.inr rfl) (pe_ix ix_list (pv 6) (C8.pe_c c__law_off hr (by decide) (by rfl) (pa_cons (pv 0) (pa_cons (pe_callB k_len (by rfl) Z.len_ (by decide +kernel) (pa_cons (pv 6) pa_nil)) pa_nil))) (fun _ _ => rfl)))
  (pss_cons (ps_expr (pe_bm PySem.F.plainAttrs_list PySem.F.slot_list_remove PySem.F.type_list_remove (mt_removeD (hu65 hr)) (pv 4) (pa_cons (pv 7) pa_nil)))
  (pss_one (ps_set (i := 4) nd rfl (Or.inl rfl) (pe_op op_cat (pv 4) (pe_lc (own := [("_law_sign", 8)]) (g := gName 8) (tt := tYes) rfl nd (pi_list (pv 3)) (blkOk_by (N := N__law_codes) (sc := C8.fnScope s__law_codes) (own := [("_law_sign", 8)]) (by decide +kernel)) (fun _ _ _ _ _ => (pg_name (i := 8) nd rfl (Or.inl rfl))) (fun _ _ _ _ _ => pts_nil) (fun _ _ _ _ _ => (pe_op (show OpR _ _ (rCatT K) from op_catT) (pv 7) (pe_tup (pa_cons (pv 8) pa_nil))))))))))))
  (pss_one (ps_ret (pe_tup (pa_cons pe_str (pa_cons (pv 1) (pa_cons (pv 2) (pa_cons (pe_callTy k_tupOfF (by rfl) Z.tuple_ (by decide +kernel) (pa_cons (pe_slice sl_list (C8.pe_c c__law_mixed hr (by decide) (by rfl) (pa_cons (pv 0) (pa_cons (pv 4) pa_nil))) po_none (po_some (pv 1))) pa_nil)) pa_nil)))))))))), ?_⟩
    refine i_start (σ' := [some (.ref d), some (.int t), some (.int e), none, none, none, none, none, none]) rfl ?_
    walk_at "go"
    walk_at "r"
    refine ⟨t, e, rfl, by omega, by omega, fun pl H1 hpl s1 e1 => ?_⟩
    have npd : pl ≠ d := hd.ne hpl
    have d1 := hd.same s1
    walk_at "r"
    refine i_lcLI (xs := (plainL t e).map V.int) (fun D j acc H' => ∃ as : List Addr, acc = as.map V.ref ∧ TupsAt K (tp H') as (((plainL t e).take j).map fun s => [s]) ∧ Same H1 H' ∧ H' D = some (.lst acc)) (sl_of e1)
      (fun D hD => ⟨[], rfl, trivial, same_new hD, upd_same⟩) (fun D j acc H' hD pv => ?_) (fun D j x acc H' hD hx hl pv => ?_) (fun lv acc H' hlv pv => ?_)
    · obtain ⟨as, _, _, s2, _⟩ := pv
      exact s2.seq (sl_of e1)
    · obtain ⟨as, rfl, ht, s2, e2⟩ := pv
      obtain ⟨n, hn, rfl⟩ := map_get hx
      walk_at "r"
      refine i_tup (by show 1 ≤ sizeLine; decide) (fun a H3 ha s3 e3 => ?_)
      have e4 := s3 _ _ e2
      refine kY_of e4 hl (by have := (List.getElem?_eq_some_iff.mp hn).1; omega) ⟨as ++ [a], by rw [List.map_append]; rfl, ?_, smut (s2.trans s3) hD, upd_same⟩
      rw [take_succ' hn, List.map_append]
      refine TupsAt.snoc ((ht.same (tp_pure s3)).same (tp_put e4)) (tp_put e4 _ _ (tp_at e3))
    · obtain ⟨as, rfl, ht, s2, e2⟩ := pv
      rw [List.length_map, List.take_length] at ht
      have npl : lv ≠ pl := (ne_of_none e1 hlv).symm
      have nld : lv ≠ d := d1.ne hlv
      walk_at "r"
      refine ⟨d, 3, rfl, by decide, by decide, d1.same s2, fun H3 n s3 d3 n0 n1 => ?_⟩
      have s03 : Same (hide d H) H3 := hide_tr (hide_pure (s1.trans s2)) s3
      walk_at "r"
      refine i_rng ⟨by omega, by omega⟩ (fun i σ' H' => ∃ (l : Addr) (as : List Addr) (cs : List (List Int)) (x y z : Option V), σ' = [some (.ref d), some (.int t), some (.int e), some (.ref pl), some (.ref l), x, y, z, none] ∧ Same (hide d H) H' ∧ DiceAt H' d ∧ H l = none ∧ l ≠ d ∧ l ≠ pl ∧
          H' l = some (.lst (as.map V.ref)) ∧ H' pl = some (.lst ((plainL t e).map V.int)) ∧ TupsAt K (tp H') as cs ∧ LeavesOk t e (i + 1) cs ∧ cs.length = (plainL t e).length + i * ((plainL t e).length - 1))
        ⟨lv, as, _, none, none, none, rfl, s03, d3, s1.free hlv, nld, npl, s3 _ _ ((hide_ne nld).trans e2), s3 _ _ ((hide_ne npd).trans (s2 _ _ e1)), ht.same (tp_dice (d1.same s2) s3), leaves_first, by rw [List.length_map]; omega⟩
        (fun i σ' H' hi pv => ?_) (fun σ' H' pv => ?_)
      · obtain ⟨l, as, cs, x, y, z, rfl, s4, d4, hl0, hld, hlp, el, ep, hta, hlo, hlen⟩ := pv
        have hi3 : i < 3 := by omega
        have lal := hta.len
        have lcs : cs.length ≤ 50 := by
          have : i * ((plainL t e).length - 1) ≤ 2 * 14 := Nat.mul_le_mul (by omega) (by omega)
          omega
        have lpos : 0 < cs.length := by omega
        walk_at "r"
        refine i_lcL (F := some) (sl_of el) (by rw [List.length_map]; omega) (fun v hv H1 s1 QN QY hN hY => ?_) (fun sh H5 hsh s5 e5 => ?_)
        · obtain ⟨a, ha, rfl⟩ := List.mem_map.mp hv
          obtain ⟨c, hc, hac⟩ := hta.mem ha
          have hac' := stup (tp_same.trans s1) hac
          have lc := (hlo.1 c hc).2.1
          walk_at "r"
          rw [decide_eq_true (by rw [List.length_map]; omega)]
          walk_at "r"
          exact hY _ rfl _ (Same.refl _)
        · rw [List.filterMap_some] at e5
          have d5 := d4.same s5
          have nsd : sh ≠ d := d4.ne hsh
          walk_at "r"
          refine ⟨d, (as.length : Nat), by rw [List.length_map], by omega, by omega, d5, fun H6 n s6 d6 n0 n1 => ?_⟩
          have s46 : Same (hide d H') H6 := hide_tr (hide_pure s5) s6
          have e6 := s6 _ _ ((hide_ne nsd).trans e5)
          have el6 := s46 _ _ ((hide_ne hld).trans el)
          have ep6 := s46 _ _ ((hide_ne npd).trans ep)
          have hta6 := hta.same (tp_dice d4 s46)
          have hj : n.toNat < cs.length := by omega
          have hja : n.toNat < as.length := by omega
          have hx : atI (as.map V.ref) n = some (.ref as[n.toNat]) := by
            have z : ∀ (k : Nat) (v : V), n = (k : Int) → (as.map V.ref)[k]? = some v → atI (as.map V.ref) n = some v := fun k v z1 z2 => by
              rw [z1]
              exact atI_nat z2
            refine z n.toNat _ (by omega) ?_
            rw [List.getElem?_map, List.getElem?_eq_getElem hja]
            rfl
          obtain ⟨c, hc1, hc2⟩ := hta6.get (List.getElem?_eq_getElem hja)
          have ec : cs[n.toNat] = c := by
            rw [List.getElem?_eq_getElem hj] at hc1
            exact Option.some.inj hc1
          have lc := (hlo.1 c (List.mem_of_getElem? hc1)).2.1
          have lc1 := (hlo.1 c (List.mem_of_getElem? hc1)).1
          walk_at "r"
          refine i_removeT el6 (hta6.same tp_same) (leaves_nodup hlo) (stup tp_same hc2) hc1 ?_
          have s7 : Same (hide d H) (upd H6 l (.lst ((as.eraseIdx n.toNat).map V.ref))) := smut (hide_tr s4 s46) (by rw [hide_ne hld]; exact hl0)
          have d7 : DiceAt (upd H6 l (.lst ((as.eraseIdx n.toNat).map V.ref))) d := d6.put hld
          have hta7 := (hta6.erase n.toNat).same (tp_put (o := .lst ((as.eraseIdx n.toNat).map V.ref)) el6)
          have hc7 := stup (tp_put (o := .lst ((as.eraseIdx n.toNat).map V.ref)) el6) hc2
          have ep7 : (upd H6 l (.lst ((as.eraseIdx n.toNat).map V.ref))) pl = some (.lst ((plainL t e).map V.int)) := by
            rw [upd_ne hlp.symm]
            exact ep6
          have el7 : (upd H6 l (.lst ((as.eraseIdx n.toNat).map V.ref))) l = some (.lst ((as.eraseIdx n.toNat).map V.ref)) := upd_same
          generalize (upd H6 l (.lst ((as.eraseIdx n.toNat).map V.ref))) = H7 at s7 d7 hta7 hc7 ep7 el7 ⊢
          walk_at "r"
          refine i_lcLI (xs := (plainL t e).map V.int) (fun D j acc H' => ∃ bs : List Addr, acc = bs.map V.ref ∧ TupsAt K (tp H') bs (((plainL t e).take j).map fun s => cs[n.toNat] ++ [s]) ∧ Same H7 H' ∧ H' D = some (.lst acc)) (sl_of ep7)
            (fun D hD => ⟨[], rfl, trivial, same_new hD, upd_same⟩) (fun D j acc H' hD pv => ?_) (fun D j x acc H' hD hx hl pv => ?_) (fun nw acc H8 hnw pv => ?_)
          · obtain ⟨bs, _, _, s2, _⟩ := pv
            exact s2.seq (sl_of ep7)
          · obtain ⟨bs, rfl, ht, s2, e2⟩ := pv
            obtain ⟨m, hm, rfl⟩ := map_get hx
            walk_at "r"
            refine i_tup (by show 1 ≤ sizeLine; decide) (fun a H3 ha s3 e3 => ?_)
            have hc3 := stup (tp_same.trans (s2.trans s3)) hc7
            have e4 := s3 _ _ e2
            walk_at "r"
            refine i_catT hc3 (st_of e3) (by rw [ne_eq, List.map_eq_nil_iff]; intro z; rw [z] at lc1; exact absurd lc1 (by decide)) (by simp) (sz (by rw [List.length_map]; show c.length + 1 ≤ _; omega)) (fun b H4 hb s4 e5 => ?_)
            have e6 := s4 _ _ e4
            refine kY_of e6 hl (by have := (List.getElem?_eq_some_iff.mp hm).1; omega) ⟨bs ++ [b], by rw [List.map_append]; rfl, ?_, smut ((s2.trans s3).trans s4) hD, upd_same⟩
            rw [take_succ' hm, List.map_append, ec]
            rw [ec] at ht
            refine TupsAt.snoc ((ht.same (tp_pure (s3.trans s4))).same (tp_put e6)) (tp_put e6 _ _ (tp_at ?_))
            rw [List.map_append]
            exact e5
          · obtain ⟨bs, rfl, ht, s8, e8⟩ := pv
            rw [List.length_map, List.take_length] at ht
            have el8 := s8 _ _ el7
            have hta8 := hta7.same (tp_pure s8)
            have lbs := ht.len
            rw [List.length_map] at lbs
            have lae := (hta8.len)
            have lce := List.length_eraseIdx_of_lt hj
            walk_at "r"
            refine i_cat el8 e8 (sz (by rw [List.length_map, List.length_map]; omega)) (fun l9 H9 hl9 s9 e9 => ?_)
            have d8 := d7.same s8
            walk_at "r"
            rw [← List.map_append] at e9
            have z0 := hide_free (s7.trans s8) (d8.ne hl9) hl9
            refine ⟨l9, as.eraseIdx n.toNat ++ bs, cs.eraseIdx n.toNat ++ (plainL t e).map (fun s => cs[n.toNat] ++ [s]), _, _, _, rfl, (s7.trans s8).trans s9, d8.same s9, z0, d8.ne hl9, (ne_of_none (s8 _ _ ep7) hl9).symm, e9, s9 _ _ (s8 _ _ ep7), (hta8.app ht).same (tp_pure s9), leaves_more hj hlo, ?_⟩
            rw [List.length_append, List.length_map, lce, hlen, Nat.succ_mul]
            omega
      · obtain ⟨l, as, cs, x, y, z, rfl, s4, d4, hl0, hld, hlp, el, ep, hta, hlo, hlen⟩ := pv
        have lal := hta.len
        have hm : LeavesOk t e 4 cs := hlo.mono (by omega)
        have lcs : cs.length ≤ 60 ∧ t.toNat ≤ cs.length := by
          have a1 : (1 + n).toNat * ((plainL t e).length - 1) ≤ 3 * 14 := Nat.mul_le_mul (by omega) (by omega)
          have a2 : 1 * ((plainL t e).length - 1) ≤ (1 + n).toNat * ((plainL t e).length - 1) := Nat.mul_le_mul_right _ (by omega)
          omega
        walk_at "r"
        refine ⟨d, l, _, rfl, d4, sl_of el, fun v hv => ?_, by rw [List.length_map]; omega, fun p H5 ys hp s5 d5 e5 pp => ?_⟩
        · obtain ⟨a, ha, rfl⟩ := List.mem_map.mp hv
          obtain ⟨c, hc, hac⟩ := hta.mem ha
          refine fl_tup (c := c) (stup (fun b o z => ?_) hac)
          obtain ⟨xs, ed⟩ := d4.lst
          rw [hide_ne (tp_ne z ed)]
          exact (tp_of z).2
        · obtain ⟨as', rfl, pa⟩ := perm_map_inv pp _ rfl
          obtain ⟨cs', pc, hta'⟩ := (hta.same (tp_dice d4 s5)).perm pa
          have lc' := pc.length_eq
          have la' := hta'.len
          walk_at "r"
          refine i_slL (sl_of e5) (fun p6 H6 hp6 s6 e6 => ?_)
          rw [show (t : Int) = ((t.toNat : Nat) : Int) by omega, cut_to, ← List.map_take] at e6
          walk_at "r"
          refine i_tupOfF (sl_of e6) (fun p7 H7 hp7 s7 e7 => ?_)
          walk_at "r"
          refine i_tup (by show 4 ≤ sizeLine; decide) (fun p8 H8 hp8 s8 e8 => ?_)
          have s58 : Same H5 H8 := (s6.trans s7).trans s8
          refine q H8 p8 (.codes (cs'.take t.toNat)) ((hide_tr s4 s5).trans s58) (d5.same s58) ⟨p7, as'.take t.toNat, tp_sqt e8, tp_tupd (e7.same s8), (hta'.take _).same (tp_pure s58)⟩ ⟨by rw [List.length_take]; omega, ((hm.perm pc).sub (List.take_sublist _ _)).codes⟩
end
end Esc

namespace Esc
open PySem PySem.Spec PyProof.Rows L2
theorem i_sortedI {K : PySem.W.Frag} {H : Hp} {Q : VK} {a : Addr} {ns : List Int} (h : SqL K H a (ns.map V.int)) (q : ∀ (ms : List Int) p H', ms.Perm ns → ms.Pairwise (· ≤ ·) → H p = none → Same H H' → H' p = some (.lst (ms.map V.int)) → Q (.ref p) H') : rSortedI K [.ref a] H Q :=
  ⟨a, ns, rfl, h, fun ms p hp hw hn => q ms p _ hp hw hn (same_new hn) upd_same⟩
theorem PairsAt.snoc {K : PySem.W.Frag} {H : Hp} {as : List Addr} {cs : List (Int × Int)} {a : Addr} {c : Int × Int} (h : PairsAt K H as cs) (h2 : SqT K H a [.int c.1, .int c.2]) : PairsAt K H (as ++ [a]) (cs ++ [c]) := h.app ⟨h2, trivial⟩
theorem lt_of_le_nodup : ∀ {l : List Int}, l.Pairwise (· ≤ ·) → l.Nodup → l.Pairwise (· < ·)
  | [], _, _ => .nil
  | a :: l, h, n => by
    obtain ⟨h1, h2⟩ := List.pairwise_cons.mp h
    obtain ⟨n1, n2⟩ := List.nodup_cons.mp n
    refine List.pairwise_cons.mpr ⟨fun x m => ?_, lt_of_le_nodup h2 n2⟩
    have := h1 x m
    have ne : a ≠ x := fun z => n1 (z ▸ m)
    omega
theorem zip_fst : ∀ (ms cs : List Int), ms.length ≤ cs.length → (ms.zip cs).map (·.1) = ms
  | [], cs, _ => by simp
  | m :: ms, [], h => by simp at h
  | m :: ms, c :: cs, h => by
    rw [List.zip_cons_cons, List.map_cons, zip_fst ms cs (by simpa using h)]
theorem zip_snd : ∀ (ms cs : List Int), ms.length ≤ cs.length → (ms.zip cs).map (·.2) = cs.take ms.length
  | [], cs, _ => by simp
  | m :: ms, [], h => by simp at h
  | m :: ms, c :: cs, h => by
    rw [List.zip_cons_cons, List.map_cons, zip_snd ms cs (by simpa using h)]
    rfl
section
variable {P : Program} {w : World} {K : PySem.W.Frag} {mg : Str → Option Value} {base : Heap}
theorem c_escapes (Z : Blt mg) (c__law_off : C8.Cal P w K mg base 1 "_law_off" spOff []) (c__law_plain : C8.Cal P w K mg base 1 "_law_plain" spPlain []) (c__law_mixed : C8.Cal P w K mg base 2 "_law_mixed" (spMixed K) []) (d : Dd K mg "_law_escapes" s__law_escapes P__law_escapes) : C8.Cal P w K mg base 3 "_law_escapes" (spBase K) [] := by
  refine d.cal sc__law_escapes (fun vs H Q E h => ?_) (fun f cdv A outer s H vs Q E hr h => ?_)
  · obtain ⟨d, t, e, rfl, _⟩ := h
    rfl
  · obtain ⟨d, t, e, rfl, hd, h3, h16, h0, h1, q⟩ := h
    have nd := sc__law_escapes.nd
    have np := plain_len h0 h1
    refine ⟨_, (pss_cons (ps_set (i := 3) nd rfl (Or.inl rfl) (C8.pe_c c__law_plain hr (by decide) (by rfl) (pa_cons (pv 1) (pa_cons (pv 2) pa_nil))))
  (pss_cons (ps_set (i := 4) nd rfl (Or.inr rfl) (pe_ix ix_list (pv 3) (C8.pe_c c__law_off hr (by decide) (by rfl) (pa_cons (pv 0) (pa_cons (pe_callB k_len (by rfl) Z.len_ (by decide +kernel) (pa_cons (pv 3) pa_nil)) pa_nil))) (fun _ _ => rfl)))
  (pss_cons (ps_setLc (i := 5) (own := [("_law_sign", 8)]) (g := gName 8) rfl nd rfl rfl (sw_true rfl rfl rfl (by decide +kernel)) (pi_list (pv 3)) (blkOk_by (N := N__law_escapes) (sc := C8.fnScope s__law_escapes) (own := [("_law_sign", 8)]) (by decide +kernel)) (fun _ _ _ _ _ => (pg_name (i := 8) nd rfl (Or.inl rfl))) (fun _ _ _ _ _ => pts_one (PW.pt (pw_and (pt_cmpR op_ne (pv 8) (pv 4) (nomark _)) (pw_and1 (pt_cmpR op_eq (C8.pe_c c__law_off hr (by decide) (by rfl) (pa_cons (pv 0) (pa_cons pe_int pa_nil))) pe_int (nomark _)))))) (fun _ _ _ _ _ => (pv 8)))
  (pss_cons (ps_set (i := 6) nd rfl (Or.inr rfl) (pe_callB cr_sortedI (by rfl) Z.sorted_ (by decide +kernel) (pa_cons (pe_op op_cat (pe_lst (pa_cons (pv 2) (pa_cons (pv 4) pa_nil))) (pe_slice sl_list (pv 5) po_none (po_some (pe_op op_sub (pv 1) pe_int)))) pa_nil)))
  (pss_cons (ps_set (i := 7) nd rfl (Or.inr rfl) (C8.pe_c c__law_mixed hr (by decide) (by rfl) (pa_cons (pv 0) (pa_cons (pv 3) pa_nil))))
  (pss_one (ps_ret (pe_tup (pa_cons pe_str (pa_cons (pv 1) (pa_cons (pv 2) (pa_cons (pv 4) (pa_cons (pe_callTy k_tupOf (by rfl) Z.tuple_ (by decide +kernel) (pa_cons (pe_lc (own := [("_law_k", 9)]) (g := gName 9) (tt := tYes) rfl nd (pi_range1 rfl Z.range_ (pa_cons (pe_callB k_len (by rfl) Z.len_ (by decide +kernel) (pa_cons (pv 6) pa_nil)) pa_nil)) (blkOk_by (N := N__law_escapes) (sc := C8.fnScope s__law_escapes) (own := [("_law_k", 9)]) (by decide +kernel)) (fun _ _ _ _ _ => (pg_name (i := 9) nd rfl (Or.inl rfl))) (fun _ _ _ _ _ => pts_nil) (fun _ _ _ _ _ => (pe_tup (pa_cons (pe_ix (show IxR _ (rIxL K) from ix_list) (pv 6) (pv 9) (fun _ _ => rfl)) (pa_cons (pe_ix (show IxR _ (rIxL K) from ix_list) (pv 7) (pv 9) (fun _ _ => rfl)) pa_nil))))) pa_nil)) pa_nil))))))))))))), ?_⟩
    refine i_start (σ' := [some (.ref d), some (.int t), some (.int e), none, none, none, none, none, none, none]) rfl ?_
    walk_at "go"
    walk_at "r"
    refine ⟨t, e, rfl, by omega, by omega, fun pl H1 hpl s1 e1 => ?_⟩
    have npd : pl ≠ d := hd.ne hpl
    have d1 := hd.same s1
    walk_at "r"
    refine ⟨d, ((plainL t e).length : Nat), rfl, by omega, by omega, d1, fun H2 n s2 d2 n0 n1 => ?_⟩
    have s02 : Same (hide d H) H2 := hide_tr (hide_pure s1) s2
    have e2 := s2 _ _ ((hide_ne npd).trans e1)
    have hn : n.toNat < (plainL t e).length := by omega
    obtain ⟨mk, hmk⟩ : ∃ mk, (plainL t e)[n.toNat]? = some mk := ⟨_, List.getElem?_eq_getElem hn⟩
    have mpl : mk ∈ plainL t e := List.mem_of_getElem? hmk
    have pmk := plain_mem.mp mpl
    have hat : atI ((plainL t e).map V.int) n = some (.int mk) := by
      have z : ∀ (k : Nat) (v : V), n = (k : Int) → ((plainL t e).map V.int)[k]? = some v → atI ((plainL t e).map V.int) n = some v := fun k v z1 z2 => by
        rw [z1]
        exact atI_nat z2
      refine z n.toNat _ (by omega) ?_
      rw [List.getElem?_map, hmk]
      rfl
    walk_at "r"
    refine i_lcLI (xs := (plainL t e).map V.int) (fun D j acc H' => ∃ fs : List Int, acc = fs.map V.int ∧ fs.Sublist ((plainL t e).take j) ∧ mk ∉ fs ∧ Same (hide d H2) H' ∧ DiceAt H' d ∧ H' D = some (.lst acc)) (sl_of e2)
      (fun D hD => ⟨[], rfl, List.nil_sublist _, List.not_mem_nil, hide_pure (same_new hD), d2.same (same_new hD), upd_same⟩) (fun D j acc H' hD pv => ?_) (fun D j x acc H' hD hx hl pv => ?_) (fun mo acc H3 hmo pv => ?_)
    · obtain ⟨fs, _, _, _, s3, _⟩ := pv
      exact s3.seq (sl_of ((hide_ne npd).trans e2))
    · obtain ⟨fs, rfl, hfs, hm, s3, d3, e3⟩ := pv
      obtain ⟨y, hy, rfl⟩ := map_get hx
      have nDd : D ≠ d := d2.ne hD
      have hj : j < (plainL t e).length := (List.getElem?_eq_some_iff.mp hy).1
      have skip : fs.Sublist ((plainL t e).take (j + 1)) := by
        rw [take_succ' hy]
        exact hfs.trans (List.sublist_append_left _ _)
      walk_at "r"
      refine i_nbr (fun hc => ?_) (fun hc => ?_)
      · walk_at "r"
        exact kN_of hl ⟨fs, rfl, skip, hm, s3, d3, e3⟩
      · walk_at "r"
        refine ⟨d, 3, rfl, by decide, by decide, d3, fun H4 n4 s4 d4 _ _ => ?_⟩
        have e4 := s4 _ _ ((hide_ne nDd).trans e3)
        walk_at "r"
        refine i_br (fun _ => ?_) (fun _ => ?_)
        · walk_at "r"
          refine kY_of e4 hl (by omega) ⟨fs ++ [y], by rw [List.map_append]; rfl, ?_, fun m => ?_, smut (hide_tr s3 s4) (by rw [hide_ne nDd]; exact hD), d4.put nDd, upd_same⟩
          · rw [take_succ' hy]
            exact hfs.append (List.Sublist.refl _)
          · rcases List.mem_append.mp m with m | m
            · exact hm m
            · exact hc (List.mem_singleton.mp m).symm
        · walk_at "r"
          exact kN_of hl ⟨fs, rfl, skip, hm, hide_tr s3 s4, d4, e4⟩
    · obtain ⟨fs, rfl, hfs, hm, s3, d3, e3⟩ := pv
      rw [List.length_map, List.take_length] at hfs
      have s03 := hide_tr s02 s3
      have ep3 := s3 _ _ ((hide_ne npd).trans e2)
      walk_at "r"
      refine i_lst (by show 2 ≤ sizeLine; decide) (fun p4 H4 hp4 s4 e4 => ?_)
      have em4 := s4 _ _ e3
      walk_at "r"
      refine i_slL (sl_of em4) (fun p5 H5 hp5 s5 e5 => ?_)
      rw [show t - 3 = (((t - 3).toNat : Nat) : Int) by omega, cut_to, ← List.map_take] at e5
      have e45 := s5 _ _ e4
      have lfs := hfs.length_le
      walk_at "r"
      refine i_cat e45 e5 (sz (by rw [List.length_map, List.length_take]; show 2 + _ ≤ _; omega)) (fun p6 H6 hp6 s6 e6 => ?_)
      walk_at "r"
      refine i_sortedI (ns := e :: mk :: fs.take (t - 3).toNat) (sl_of e6) (fun ms p7 H7 hms hpw hp7 s7 e7 => ?_)
      have s37 := ((s4.trans s5).trans s6).trans s7
      have d7 := d3.same s37
      have ep7 := s37 _ _ ep3
      have n7d : p7 ≠ d := ((((d3.same s4).same s5).same s6)).ne hp7
      have ftk := (List.take_sublist (t - 3).toNat fs).trans hfs
      have lms : ms.length = 2 + (fs.take (t - 3).toNat).length := by
        rw [hms.length_eq]
        simp only [List.length_cons]
        omega
      have lms2 : ms.length ≤ (plainL t e).length := by
        rw [lms, List.length_take]
        omega
      have mms : ∀ s ∈ ms, 0 ≤ s ∧ s < t := fun s hs => by
        rcases List.mem_cons.mp (hms.subset hs) with rfl | hs
        · exact ⟨h0, h1⟩
        · rcases List.mem_cons.mp hs with rfl | hs
          · exact ⟨pmk.1, pmk.2.1⟩
          · have z := plain_mem.mp (ftk.subset hs)
            exact ⟨z.1, z.2.1⟩
      have ndm : ms.Nodup := by
        rw [hms.nodup_iff, List.nodup_cons, List.nodup_cons]
        refine ⟨fun m => ?_, fun m => ?_, (plain_nodup t e).sublist ftk⟩
        · rcases List.mem_cons.mp m with z | m
          · exact pmk.2.2 z.symm
          · exact (plain_mem.mp (ftk.subset m)).2.2 rfl
        · exact hm ((List.take_sublist _ _).subset m)
      walk_at "r"
      refine ⟨d, pl, _, rfl, d7, sl_of ep7, fun v hv => ?_, by rw [List.length_map]; omega, fun p8 H8 ys hp8 s8 d8 e8 pp => ?_⟩
      · obtain ⟨z, _, rfl⟩ := List.mem_map.mp hv
        exact fl_int z
      obtain ⟨cs, rfl, pc⟩ := perm_map_inv pp _ rfl
      have e78 := s8 _ _ ((hide_ne n7d).trans e7)
      have lcs := pc.length_eq
      have s08 : Same (hide d H) H8 := hide_tr (s03.trans s37) s8
      walk_at "r"
      refine i_lcRI (fun D j acc H' => ∃ as : List Addr, acc = as.map V.ref ∧ PairsAt K (tp H') as ((ms.zip cs).take j) ∧ Same H8 H' ∧ H' D = some (.lst acc)) ⟨by omega, by omega⟩
        (fun D hD => ⟨[], rfl, by rw [List.take_zero]; trivial, same_new hD, upd_same⟩) (fun D j acc H' hD hj hl pv => ?_) (fun lp acc H9 hlp pv => ?_)
      · obtain ⟨as, rfl, ht, s9, e9⟩ := pv
        have hj1 : j < ms.length := by omega
        have hj2 : j < cs.length := by omega
        have g1 : atI (ms.map V.int) (j : Int) = some (.int ms[j]) := atI_nat (by rw [List.getElem?_map, List.getElem?_eq_getElem hj1]; rfl)
        have g2 : atI (cs.map V.int) (j : Int) = some (.int cs[j]) := atI_nat (by rw [List.getElem?_map, List.getElem?_eq_getElem hj2]; rfl)
        have e79 := s9 _ _ e78
        have e89 := s9 _ _ e8
        walk_at "r"
        refine i_tup (by show 2 ≤ sizeLine; decide) (fun a H10 ha s10 e10 => ?_)
        have e11 := s10 _ _ e9
        refine kY_of e11 hl (by omega) ⟨as ++ [a], by rw [List.map_append]; rfl, ?_, smut (s9.trans s10) hD, upd_same⟩
        have zz : (ms.zip cs)[j]? = some (ms[j], cs[j]) := by
          rw [List.getElem?_eq_getElem (by rw [List.length_zip]; omega), List.getElem_zip]
        rw [take_succ' zz]
        exact PairsAt.snoc ((ht.same (tp_pure s10)).same (tp_put e11)) (stup (tp_put e11) (tp_sqt e10))
      · obtain ⟨as, rfl, ht, s9, e9⟩ := pv
        rw [Int.toNat_natCast, List.take_of_length_le (by rw [List.length_zip]; omega)] at ht
        walk_at "r"
        refine i_tupOf (sl_of e9) (fun p10 H10 hp10 s10 e10 => ?_)
        walk_at "r"
        refine i_tup (by show 5 ≤ sizeLine; decide) (fun p11 H11 hp11 s11 e11 => ?_)
        have s8e := (s9.trans s10).trans s11
        have fst : (ms.zip cs).map (·.1) = ms := zip_fst ms cs (by omega)
        have snd : (ms.zip cs).map (·.2) = cs.take ms.length := zip_snd ms cs (by omega)
        refine q H11 p11 (.escapes mk (ms.zip cs)) (s08.trans s8e) (d8.same s8e) ⟨p10, as, tp_sqt e11, tp_sqt (s11 _ _ e10), ht.same (tp_pure (s10.trans s11))⟩ ⟨pmk, ?_, ?_, ?_, ?_, ?_, ?_⟩
        · rw [fst]
          exact lt_of_le_nodup hpw ndm
        · rw [fst]
          exact mms
        · rw [fst]
          exact hms.symm.subset List.mem_cons_self
        · rw [fst]
          exact hms.symm.subset (List.mem_cons_of_mem _ List.mem_cons_self)
        · rw [snd]
          exact fun c hc => plain_mem.mp (pc.subset ((List.take_sublist _ _).subset hc))
        · rw [snd]
          exact ((pc.nodup_iff.mpr (plain_nodup t e))).sublist (List.take_sublist _ _)
end
end Esc

namespace Esc
open PySem PySem.Spec PyProof.Rows L2
section
variable {P : Program} {w : World} {K : PySem.W.Frag} {mg : Str → Option Value} {base : Heap}
def spBaseT (K : PySem.W.Frag) : Sp := fun vs H Q _ => ∃ (d : Addr) (t : Int), vs = [.ref d, .int t] ∧ DiceAt H d ∧ 3 ≤ t ∧ t ≤ 16 ∧ ∀ (H' : Hp) (p : Addr) (e : Int) (k : Kind), 0 ≤ e → e < t → Same (hide d H) H' → DiceAt H' d → KindAt K (tp H') p t e k → KindOk t e k → Q (.ref p) H'
theorem c_base (Z : Blt mg) (c__law_off : C8.Cal P w K mg base 1 "_law_off" spOff []) (c__law_codes : C8.Cal P w K mg base 3 "_law_codes" (spBase K) []) (c__law_escapes : C8.Cal P w K mg base 3 "_law_escapes" (spBase K) []) (d : Dd K mg "_law_base" s__law_base P__law_base) : C8.Cal P w K mg base 4 "_law_base" (spBaseT K) [] := by
  refine d.cal sc__law_base (fun vs H Q E h => ?_) (fun f cdv A outer s H vs Q E hr h => ?_)
  · obtain ⟨d, t, rfl, _⟩ := h
    rfl
  · obtain ⟨d, t, rfl, hd, h3, h16, q⟩ := h
    have nd := sc__law_base.nd
    refine ⟨_, (pss_cons (ps_set (i := 2) nd rfl (Or.inl rfl) (C8.pe_c c__law_off hr (by decide) (by rfl) (pa_cons (pv 0) (pa_cons (pv 1) pa_nil))))
  (pss_cons (ps_set (i := 3) nd rfl (Or.inl rfl) (C8.pe_c c__law_off hr (by decide) (by rfl) (pa_cons (pv 0) (pa_cons pe_int pa_nil))))
  (pss_cons (ps_if (pt_cmpR op_lt (pv 3) pe_int (nomark _)) (pss_one (ps_ret (C8.pe_c c__law_codes hr (by decide) (by rfl) (pa_cons (pv 0) (pa_cons (pv 1) (pa_cons (pv 2) pa_nil)))))) pss_nil)
  (pss_cons (ps_if (pt_cmpR op_eq (pv 3) pe_int (nomark _)) (pss_one (ps_ret (C8.pe_c c__law_escapes hr (by decide) (by rfl) (pa_cons (pv 0) (pa_cons (pv 1) (pa_cons (pv 2) pa_nil)))))) pss_nil)
  (pss_cons (ps_if (pt_cmpR op_eq (pv 3) pe_int (nomark _)) (pss_one (ps_ret (pe_tup (pa_cons pe_str (pa_cons (pv 1) (pa_cons (pv 2) pa_nil)))))) pss_nil)
  (pss_one (ps_ret (pe_tup (pa_cons pe_str (pa_cons (pv 1) (pa_cons (pv 2) (pa_cons (pe_ifExp (pt_cmpR op_gt (pv 1) pe_int (nomark _)) (pe_ix ix_list (pe_lst (pa_cons pe_int (pa_cons pe_int (pa_cons (pe_op op_sub (pv 1) pe_int) (pa_cons (pe_op op_add pe_int (C8.pe_c c__law_off hr (by decide) (by rfl) (pa_cons (pv 0) (pa_cons (pe_op op_sub (pv 1) pe_int) pa_nil)))) pa_nil))))) (C8.pe_c c__law_off hr (by decide) (by rfl) (pa_cons (pv 0) (pa_cons pe_int pa_nil))) (fun _ _ => rfl)) pe_int) pa_nil)))))))))))), ?_⟩
    refine i_start (σ' := [some (.ref d), some (.int t), none, none]) rfl ?_
    walk_at "go"
    walk_at "r"
    refine ⟨d, t, rfl, by omega, by omega, hd, fun H1 e s1 d1 e0 e1 => ?_⟩
    walk_at "r"
    refine ⟨d, 7, rfl, by decide, by decide, d1, fun H2 n s2 d2 n0 n1 => ?_⟩
    have s02 := hide_tr s1 s2
    walk_at "r"
    refine i_br (fun _ => ?_) (fun _ => ?_)
    · walk_at "r"
      exact ⟨d, t, e, rfl, d2, h3, h16, e0, e1, fun H3 p k s3 d3 a b => q H3 p e k e0 e1 (hide_tr s02 s3) d3 a b⟩
    · walk_at "r"
      refine i_br (fun _ => ?_) (fun _ => ?_)
      · walk_at "r"
        exact ⟨d, t, e, rfl, d2, h3, h16, e0, e1, fun H3 p k s3 d3 a b => q H3 p e k e0 e1 (hide_tr s02 s3) d3 a b⟩
      · walk_at "r"
        refine i_br (fun _ => ?_) (fun _ => ?_)
        · walk_at "r"
          refine i_tup (by show 3 ≤ sizeLine; decide) (fun p H3 hp s3 e3 => ?_)
          exact q H3 p e .ranks e0 e1 (s02.trans s3) (d2.same s3) (tp_sqt e3) trivial
        · walk_at "r"
          have fin : ∀ (H3 : Hp) (l : Int), 2 ≤ l → l < t → Same (hide d H) H3 → DiceAt H3 d → kTup Q [.str "counts", .int t, .int e, .int l] H3 := fun H3 l l2 lt s3 d3 =>
            i_tup (by show 4 ≤ sizeLine; decide) (fun p H4 hp s4 e4 => q H4 p e (.counts l) e0 e1 (s3.trans s4) (d3.same s4) (tp_sqt e4) ⟨l2, lt⟩)
          refine i_br (fun ht => ?_) (fun _ => ?_)
          · walk_at "r"
            refine ⟨d, t - 2, rfl, by omega, by omega, d2, fun H3 m s3 d3 m0 m1 => ?_⟩
            walk_at "r"
            refine i_lst (by show 4 ≤ sizeLine; decide) (fun l H4 hl s4 e4 => ?_)
            have nld : l ≠ d := d3.ne hl
            walk_at "r"
            refine ⟨d, 4, rfl, by decide, by decide, d3.same s4, fun H5 j s5 d5 j0 j1 => ?_⟩
            have e5 := s5 _ _ ((hide_ne nld).trans e4)
            have s05 : Same (hide d H) H5 := hide_tr ((hide_tr s02 s3).trans s4) s5
            have hv : ∃ v : Int, 2 ≤ v ∧ v < t ∧ atI [V.int 2, .int 3, .int (t - 1), .int (2 + m)] j = some (.int v) := by
              have hj : j = 0 ∨ j = 1 ∨ j = 2 ∨ j = 3 := by omega
              rcases hj with rfl | rfl | rfl | rfl
              · exact ⟨2, by omega, by omega, atI_nat (j := 0) rfl⟩
              · exact ⟨3, by omega, by omega, atI_nat (j := 1) rfl⟩
              · exact ⟨t - 1, by omega, by omega, atI_nat (j := 2) rfl⟩
              · exact ⟨2 + m, by omega, by omega, atI_nat (j := 3) rfl⟩
            obtain ⟨v, v2, vt, hv⟩ := hv
            walk_at "r"
            exact fin H5 v v2 vt s05 d5
          · walk_at "r"
            exact fin H2 2 (by omega) (by omega) s02 d2
def spWay (K : PySem.W.Frag) : Sp := fun vs H Q _ => ∃ (d : Addr), vs = [.ref d] ∧ DiceAt H d ∧ ∀ (H' : Hp) (v : V) (wy : Way), wy.Ok → Same (hide d H) H' → DiceAt H' d → WayAt K (tp H') v wy → Q v H'
theorem c_way (c__law_size : C8.Cal P w K mg base 2 "_law_size" spSize []) (c__law_base : C8.Cal P w K mg base 4 "_law_base" (spBaseT K) []) (c__law_turned : C8.Cal P w K mg base 3 "_law_turned" (spTurned K) []) (d : Dd K mg "_law_way" s__law_way P__law_way) : C8.Cal P w K mg base 5 "_law_way" (spWay K) [] := by
  refine d.cal sc__law_way (fun vs H Q E h => ?_) (fun f cdv A outer s H vs Q E hr h => ?_)
  · obtain ⟨d, rfl, _⟩ := h
    rfl
  · obtain ⟨d, rfl, hd, q⟩ := h
    have nd := sc__law_way.nd
    refine ⟨_, (pss_one (ps_ret (C8.pe_c c__law_turned hr (by decide) (by rfl) (pa_cons (pv 0) (pa_cons (C8.pe_c c__law_base hr (by decide) (by rfl) (pa_cons (pv 0) (pa_cons (C8.pe_c c__law_size hr (by decide) (by rfl) (pa_cons (pv 0) pa_nil)) pa_nil))) (pa_cons pe_int pa_nil)))))), ?_⟩
    refine i_start (σ' := [some (.ref d)]) rfl ?_
    walk_at "go"
    walk_at "r"
    refine ⟨d, rfl, hd, fun H1 t s1 d1 t3 t16 => ?_⟩
    walk_at "r"
    refine ⟨d, t, rfl, d1, t3, t16, fun H2 p e k e0 e1 s2 d2 hk ok => ?_⟩
    walk_at "r"
    refine ⟨d, .ref p, 3, ⟨[], t, e, k⟩, rfl, by decide, by decide, d2, ⟨[], p, rfl, rfl, hk⟩, t3, t16, fun H3 u ts s3 d3 lt hts hw => ?_⟩
    rw [List.append_nil] at hw
    exact q H3 u ⟨ts, t, e, k⟩ ⟨lt, t3, t16, e0, e1, ok, hts⟩ (hide_tr (hide_tr s1 s2) s3) d3 hw
end
end Esc

namespace Esc
open PySem PySem.Spec PyProof.Rows L2
theorem count_pw (t : Int) : (countL t).Pairwise (· ≤ ·) := by
  unfold countL
  rw [List.pairwise_map]
  exact List.pairwise_lt_range.imp fun h => by omega
theorem perm_count {t : Int} {ms ns : List Int} (p : ns.Perm (countL t)) (q : ms.Perm ns) (h : ms.Pairwise (· ≤ ·)) : ms = countL t := List.Perm.eq_of_pairwise (fun a b _ _ h1 h2 => by omega) h (count_pw t) (q.trans p)
section
variable {P : Program} {w : World} {K : PySem.W.Frag} {mg : Str → Option Value} {base : Heap}
instance {t e n : Int} : Decidable (Plain t e n) := by unfold Plain; exact inferInstance
def spPlainI : Sp := fun vs H Q _ => ∃ n t e : Int, vs = [.int n, .int t, .int e] ∧ Q (.bl (decide (Plain t e n))) H
theorem c_is_plain (c_is_sign : C8.Cal P w K mg base 2 "is_sign" spSignI []) (d : Dd K mg "is_plain" s_is_plain P_is_plain) : C8.Cal P w K mg base 3 "is_plain" spPlainI [] := by
  refine d.cal sc_is_plain (fun vs H Q E h => ?_) (fun f cdv A outer s H vs Q E hr h => ?_)
  · obtain ⟨n, t, e, rfl, _⟩ := h
    rfl
  · obtain ⟨n, t, e, rfl, q⟩ := h
    have nd := sc_is_plain.nd
    refine ⟨_, (pss_one (ps_ret (pe_and (C8.pe_c c_is_sign hr (by decide) (by rfl) (pa_cons (pv 0) (pa_cons (pv 1) pa_nil))) (pe_one (pe_cmpR op_ne (pv 0) (pv 2) (nomark _)))))), ?_⟩
    refine i_start (σ' := [some (.int n), some (.int t), some (.int e)]) rfl ?_
    walk_at "go"
    walk_at "r"
    refine ⟨n, t, rfl, ?_⟩
    walk_at "r"
    refine i_br (fun h1 => ?_) (fun h1 => ?_)
    · walk_at "r"
      rw [show (!decide (n = e)) = decide (Plain t e n) by
        by_cases h : n = e
        · rw [decide_eq_true h, decide_eq_false (fun z => z.2.2 h)]
          rfl
        · rw [decide_eq_false h, decide_eq_true ⟨h1.1, h1.2, h⟩]
          rfl]
      exact q
    · walk_at "r"
      rw [decide_eq_false (fun z => h1 ⟨z.1, z.2.1⟩)] at q
      exact q
/-! ### counts -/
def spCountsF (K : PySem.W.Frag) : Sp := fun vs H Q _ => ∃ (p : Addr) (t e l : Int) (x : Str), vs = [.ref p] ∧ SqT K H p [.str x, .int t, .int e, .int l] ∧ 2 ≤ l ∧ l < t ∧ Q .non H
theorem c_counts_fault (c_is_whole : C8.Cal P w K mg base 1 "is_whole" spWholeI []) (d : Dd K mg "counts_fault" s_counts_fault P_counts_fault) : C8.Cal P w K mg base 2 "counts_fault" (spCountsF K) [] := by
  refine d.cal sc_counts_fault (fun vs H Q E h => ?_) (fun f cdv A outer s H vs Q E hr h => ?_)
  · obtain ⟨p, t, e, l, x, rfl, _⟩ := h
    rfl
  · obtain ⟨p, t, e, l, x, rfl, hp, h2, hl, q⟩ := h
    have nd := sc_counts_fault.nd
    refine ⟨_, (pss_cons (ps_asg (pv 0) (pg_tup rfl (pgs_cons (pg_name (i := 1) nd rfl (Or.inl rfl)) (pgs_cons (pg_name (i := 2) nd rfl (Or.inl rfl)) (pgs_cons (pg_name (i := 3) nd rfl (Or.inl rfl)) (pgs_cons (pg_name (i := 4) nd rfl (Or.inl rfl)) pgs_nil))))))
  (pss_one (ps_ret (pe_ifExp (PW.pt (pw_and (pt_val (C8.pe_c c_is_whole hr (by decide) (by rfl) (pa_cons (pv 4) pa_nil))) (pw_and1 (pt_chain op_le op_lt pe_int (pv 4) (pv 2))))) pe_non pe_str)))), ?_⟩
    refine i_start (σ' := [some (.ref p), none, none, none, none]) rfl ?_
    walk_at "go"
    walk_at "r"
    refine ⟨l, rfl, ?_⟩
    walk_at "r"
    rw [decide_eq_true h2]
    walk_at "r"
    rw [decide_eq_true hl]
    walk_at "r"
    exact q
/-! ### turned ones -/
def spFirstT (K : PySem.W.Frag) : Sp := fun vs H Q _ => ∃ (a : Addr) (ns : List Int) (t : Int), vs = [.ref a, .int t] ∧ SqT K H a (ns.map V.int) ∧ (∀ n ∈ ns, 0 ≤ n ∧ n < t) ∧ ∀ H', Same H H' → Q .non H'
theorem c_first_unsignedT (Z : Blt mg) (c_is_sign : C8.Cal P w K mg base 2 "is_sign" spSignI []) (d : Dd K mg "first_unsigned" s_first_unsigned P_first_unsigned) : C8.Cal P w K mg base 3 "first_unsigned" (spFirstT K) [] := by
  refine d.cal sc_first_unsigned (fun vs H Q E h => ?_) (fun f cdv A outer s H vs Q E hr h => ?_)
  · obtain ⟨a, ns, t, rfl, _⟩ := h
    rfl
  · obtain ⟨a, ns, t, rfl, ha, hn, q⟩ := h
    have nd := sc_first_unsigned.nd
    refine ⟨_, (pss_cons (ps_for PassesOwn.never rfl (pi_enT rfl Z.enumerate_ (pa_cons (pv 0) pa_nil)) (pg_tup rfl (pgs_cons (pg_name (i := 2) nd rfl (Or.inl rfl)) (pgs_cons (pg_name (i := 3) nd rfl (Or.inl rfl)) pgs_nil)))
    (pss_one (ps_if (pt_not (pt_val (C8.pe_c c_is_sign hr (by decide) (by rfl) (pa_cons (pv 3) (pa_cons (pv 1) pa_nil))))) (pss_one (ps_ret (pv 2))) pss_nil)))
  (pss_one (ps_ret pe_non))), ?_⟩
    refine i_start (σ' := [some (.ref a), some (.int t), none, none]) rfl ?_
    walk_at "go"
    walk_at "r"
    refine i_enumT ha (fun i σ' H' => ∃ x y, σ' = [some (.ref a), some (.int t), x, y] ∧ Same H H') ⟨_, _, rfl, Same.refl _⟩ (fun i σ' H' _ ⟨_, _, _, s1⟩ => stup s1 ha) (fun i x σ' H1 T H2 hi p hT s2 eT => ?_) (fun σ' H1 p => ?_)
    · obtain ⟨y1, y2, rfl, s1⟩ := p
      obtain ⟨n, hn1, rfl⟩ := List.mem_map.mp (List.mem_of_getElem? hi)
      walk_at "r"
      refine ⟨n, t, rfl, ?_⟩
      rw [decide_eq_true (hn n hn1)]
      walk_at "r"
      exact ⟨_, _, rfl, s1.trans s2⟩
    · obtain ⟨y1, y2, rfl, s1⟩ := p
      walk_at "r"
      exact q _ s1
def spTurnT (K : PySem.W.Frag) : Sp := fun vs H Q _ => ∃ (a : Addr) (ns : List Int) (t : Int), vs = [.ref a, .int t] ∧ SqT K H a (ns.map V.int) ∧ ns.Perm (countL t) ∧ 0 ≤ t ∧ t ≤ 1000 ∧ ∀ H', Same H H' → Q (.bl true) H'
theorem c_is_turning (Z : Blt mg) (c_first_unsigned : C8.Cal P w K mg base 3 "first_unsigned" (spFirstT K) []) (d : Dd K mg "is_turning" s_is_turning P_is_turning) : C8.Cal P w K mg base 4 "is_turning" (spTurnT K) [] := by
  refine d.cal sc_is_turning (fun vs H Q E h => ?_) (fun f cdv A outer s H vs Q E hr h => ?_)
  · obtain ⟨a, ns, t, rfl, _⟩ := h
    rfl
  · obtain ⟨a, ns, t, rfl, ha, hp, h0, h1, q⟩ := h
    have nd := sc_is_turning.nd
    refine ⟨_, (pss_one (ps_ret (pe_and (pe_cmpR k_isN (C8.pe_c c_first_unsigned hr (by decide) (by rfl) (pa_cons (pv 0) (pa_cons (pv 1) pa_nil))) pe_non (nomark _)) (pe_one (pe_cmpR (op_eqD hr.units) (pe_callB cr_sortedIT (by rfl) Z.sorted_ (by decide +kernel) (pa_cons (pv 0) pa_nil)) (pe_listRg rfl rfl Z.list_ (prg_1 rfl Z.range_ (pv 1))) (nomark _)))))), ?_⟩
    refine i_start (σ' := [some (.ref a), some (.int t)]) rfl ?_
    walk_at "go"
    walk_at "r"
    refine ⟨a, ns, t, rfl, ha, fun n hn => count_mem.mp (hp.subset hn), fun H1 s1 => ?_⟩
    have ha1 := stup s1 ha
    walk_at "r"
    rw [decide_eq_true rfl]
    walk_at "r"
    refine i_sortedIT ha1 (fun ms p2 H2 hms hpw hp2 s2 e2 => ?_)
    rw [perm_count hp hms hpw] at e2
    walk_at "r"
    refine i_lstRg ⟨h0, by omega⟩ (fun p3 H3 hp3 s3 e3 => ?_)
    rw [rg_count] at e3
    have e23 := s3 _ _ e2
    walk_at "r"
    refine i_eqL (sl_of e23) (sl_of e3) ?_
    rw [decide_eq_true rfl]
    exact q _ ((s1.trans s2).trans s3)
end
end Esc

namespace Esc
open PySem PySem.Spec PyProof.Rows L2
theorem cut_all (xs : List V) {lo hi : Option Int} (h1 : HT.sIx xs.length 0 lo = 0) (h2 : HT.sIx xs.length xs.length hi = xs.length) : cutV xs lo hi = xs := by
  unfold cutV
  rw [h1, h2, Nat.sub_zero, List.drop_zero, List.take_length]
theorem i_slA {K : PySem.W.Frag} {H : Hp} {Q : VK} {a : Addr} {xs : List V} {lo hi : Option Int} (h : SqT K H a xs) (q : ∀ p H', Same H H' → SqT K H' p (cutV xs lo hi) → Q (.ref p) H') : rSlA K (.ref a) lo hi H Q :=
  ⟨a, xs, rfl, h, fun ⟨h1, h2⟩ => q a H (Same.refl _) (by rw [cut_all xs h1 h2]; exact h), fun _ p hp => q p _ (same_new hp) (st_of upd_same)⟩
theorem dp_intsT {K : PySem.W.Frag} {H : Hp} {a : Addr} {xs : List Int} (h : SqT K H a (xs.map V.int)) : Dp K H (.ref a) (intsT xs) := .tup h (dpa_ints xs)
theorem i_eqT {K : PySem.W.Frag} {H : Hp} {Q : VK} {a b : Addr} {xs ys : List Int} (h : SqT K H a (xs.map V.int)) (h' : SqT K H b (ys.map V.int)) (q : Q (.bl (decide (xs = ys))) H) : rEqD K (.ref a) (.ref b) H Q :=
  ⟨_, _, dp_intsT h, dp_intsT h', shaped_intsT xs, shaped_intsT ys, by rw [eqv_intsT]; exact q⟩
theorem all_yes {α : Type} : ∀ xs : List α, xs.filterMap (fun _ => some (V.bl true)) = (List.replicate xs.length true).map V.bl
  | [] => rfl
  | x :: xs => by
    rw [List.filterMap_cons, all_yes xs]
    rfl
theorem all_true (n : Nat) : (List.replicate n true).all id = true := by simp
theorem apart_take {c o : List Int} (h : Apart c o) {m : Nat} (hm : m = c.length ∨ m = o.length) : c.take m ≠ o.take m := fun z => by
  rcases hm with rfl | rfl
  · rw [List.take_length] at z
    exact h.1 (z ▸ List.take_prefix _ _)
  · rw [List.take_length] at z
    exact h.2 (z ▸ List.take_prefix _ _)
section
variable {P : Program} {w : World} {K : PySem.W.Frag} {mg : Str → Option Value} {base : Heap}
def spCodeI (K : PySem.W.Frag) : Sp := fun vs H Q _ => ∃ (a : Addr) (c : List Int) (t e : Int), vs = [.ref a, .int t, .int e] ∧ SqT K H a (c.map V.int) ∧ 1 ≤ c.length ∧ c.length ≤ 4 ∧ (∀ x ∈ c, Plain t e x) ∧ ∀ H', Same H H' → Q (.bl true) H'
theorem c_is_code (Z : Blt mg) (c_is_plain : C8.Cal P w K mg base 3 "is_plain" spPlainI []) (m_LONGEST_CODE : ∃ u, mg "LONGEST_CODE" = some u ∧ RelV (.int 4) u) (d : Dd K mg "is_code" s_is_code P_is_code) : C8.Cal P w K mg base 4 "is_code" (spCodeI K) [] := by
  refine d.cal sc_is_code (fun vs H Q E h => ?_) (fun f cdv A outer s H vs Q E hr h => ?_)
  · obtain ⟨a, c, t, e, rfl, _⟩ := h
    rfl
  · obtain ⟨a, c, t, e, rfl, ha, h1, h4, hp, q⟩ := h
    have nd := sc_is_code.nd
    refine ⟨_, (pss_one (ps_ret (pe_and (pe_chain op_le op_le pe_int (pe_callB k_len (by rfl) Z.len_ (by decide +kernel) (pa_cons (pv 0) pa_nil)) (C8.pe_gc rfl m_LONGEST_CODE)) (pe_one (pe_callB (cr_all rfl) (by rfl) Z.all_ (by decide +kernel) (pa_cons (pe_lc (own := [("sign", 3)]) (g := gName 3) (tt := tYes) rfl nd (pi_tup (pv 0)) (blkOk_by (N := N_is_code) (sc := C8.fnScope s_is_code) (own := [("sign", 3)]) (by decide +kernel)) (fun _ _ _ _ _ => (pg_name (i := 3) nd rfl (Or.inl rfl))) (fun _ _ _ _ _ => pts_nil) (fun _ _ _ _ _ => (C8.pe_c c_is_plain hr (by decide) (by rfl) (pa_cons (pv 3) (pa_cons (pv 1) (pa_cons (pv 2) pa_nil)))))) pa_nil)))))), ?_⟩
    refine i_start (σ' := [some (.ref a), some (.int t), some (.int e), none]) rfl ?_
    walk_at "go"
    walk_at "r"
    rw [decide_eq_true (by rw [List.length_map]; omega)]
    walk_at "r"
    rw [decide_eq_true (by rw [List.length_map]; omega)]
    walk_at "r"
    refine i_lcT (F := fun _ => some (V.bl true)) ha (by rw [List.length_map]; omega) (fun v hv H1 s1 QN QY hN hY => ?_) (fun p H1 hp1 s1 e1 => ?_)
    · obtain ⟨n, hn, rfl⟩ := List.mem_map.mp hv
      walk_at "r"
      refine ⟨n, t, e, rfl, ?_⟩
      rw [decide_eq_true (hp n hn)]
      exact hY _ rfl _ (Same.refl _)
    · rw [all_yes] at e1
      walk_at "r"
      refine i_all (sl_of e1) ?_
      rw [all_true]
      exact q _ s1
/-! ### codes -/
def spApart (K : PySem.W.Frag) : Sp := fun vs H Q _ => ∃ (a : Addr) (as : List Addr) (cs : List (List Int)), vs = [.ref a] ∧ SqT K H a (as.map V.ref) ∧ TupsAt K H as cs ∧ cs.Pairwise Apart ∧ ∀ H', Same H H' → Q (.bl true) H'
theorem c_stand_apart (Z : Blt mg) (d : Dd K mg "stand_apart" s_stand_apart P_stand_apart) : C8.Cal P w K mg base 1 "stand_apart" (spApart K) [] := by
  refine d.cal sc_stand_apart (fun vs H Q E h => ?_) (fun f cdv A outer s H vs Q E hr h => ?_)
  · obtain ⟨a, as, cs, rfl, _⟩ := h
    rfl
  · obtain ⟨a, as, cs, rfl, ha, ht, hw, q⟩ := h
    have nd := sc_stand_apart.nd
    refine ⟨_, (pss_cons (ps_for PassesOwn.never rfl (pi_enT rfl Z.enumerate_ (pa_cons (pv 0) pa_nil)) (pg_tup rfl (pgs_cons (pg_name (i := 1) nd rfl (Or.inl rfl)) (pgs_cons (pg_name (i := 2) nd rfl (Or.inl rfl)) pgs_nil)))
    (pss_one (ps_for PassesOwn.never rfl (pi_tup (pe_slice sl_tupA (pv 0) (po_some (pe_op op_add (pv 1) pe_int)) po_none)) (pg_name (i := 3) nd rfl (Or.inl rfl))
    (pss_cons (ps_set (i := 4) nd rfl (Or.inl rfl) (pe_callB (k_min2 rfl) (by rfl) Z.min_ (by decide +kernel) (pa_cons (pe_callB k_len (by rfl) Z.len_ (by decide +kernel) (pa_cons (pv 2) pa_nil)) (pa_cons (pe_callB k_len (by rfl) Z.len_ (by decide +kernel) (pa_cons (pv 3) pa_nil)) pa_nil))))
  (pss_one (ps_if (pt_cmpR (op_eqD hr.units) (pe_slice sl_tupA (pv 2) po_none (po_some (pv 4))) (pe_slice sl_tupA (pv 3) po_none (po_some (pv 4))) (nomark _)) (pss_one (ps_ret pe_bl)) pss_nil))))))
  (pss_one (ps_ret pe_bl))), ?_⟩
    refine i_start (σ' := [some (.ref a), none, none, none, none]) rfl ?_
    walk_at "go"
    walk_at "r"
    refine i_enumT ha (fun i σ' H' => ∃ x y z u, σ' = [some (.ref a), x, y, z, u] ∧ Same H H') ⟨_, _, _, _, rfl, Same.refl _⟩ (fun i σ' H' _ ⟨_, _, _, _, _, s1⟩ => stup s1 ha) (fun i x σ' H1 T H2 hi p hT s2 eT => ?_) (fun σ' H1 p => ?_)
    · obtain ⟨x1, x2, x3, x4, rfl, s1⟩ := p
      obtain ⟨b, hb, rfl⟩ : ∃ b, as[i]? = some b ∧ x = .ref b := by
        rw [List.getElem?_map] at hi
        cases e : as[i]? with
        | none =>
          rw [e] at hi
          cases hi
        | some b =>
          rw [e] at hi
          exact ⟨b, rfl, (Option.some.inj hi).symm⟩
      obtain ⟨c, hc, hbc⟩ := ht.get hb
      have s12 := s1.trans s2
      have ha2 := stup s12 ha
      have hil := (List.getElem?_eq_some_iff.mp hb).1
      walk_at "r"
      refine i_slA ha2 (fun r H3 s3 e3 => ?_)
      · rw [show (i : Int) + 1 = ((i + 1 : Nat) : Int) by omega, cut_from, ← List.map_drop] at e3
        have s13 := s12.trans s3
        walk_at "r"
        refine i_forT (e3) (fun j σ' H' => ∃ z u, σ' = [some (.ref a), some (.int (i : Nat)), some (.ref b), z, u] ∧ Same H3 H') ⟨_, _, rfl, Same.refl _⟩ (fun j σ' H' _ ⟨_, _, _, s4⟩ => stup s4 (e3)) (fun j x σ' H4 hj p => ?_) (fun σ' H4 p => ?_)
        · obtain ⟨z, u, rfl, s4⟩ := p
          obtain ⟨b2, hb2, rfl⟩ : ∃ b2, (as.drop (i + 1))[j]? = some b2 ∧ x = .ref b2 := by
            rw [List.getElem?_map] at hj
            cases e : (as.drop (i + 1))[j]? with
            | none =>
              rw [e] at hj
              cases hj
            | some b2 =>
              rw [e] at hj
              exact ⟨b2, rfl, (Option.some.inj hj).symm⟩
          rw [List.getElem?_drop] at hb2
          obtain ⟨o, ho, hbo⟩ := ht.get hb2
          have ap : Apart c o := by
            obtain ⟨g1, g2⟩ := List.getElem?_eq_some_iff.mp hc
            obtain ⟨g3, g4⟩ := List.getElem?_eq_some_iff.mp ho
            have z := List.pairwise_iff_getElem.mp hw i (i + 1 + j) g1 g3 (by omega)
            rw [g2, g4] at z
            exact z
          have s14 := s13.trans s4
          have hbc4 := stup s14 hbc
          have hbo4 := stup s14 hbo
          walk_at "r"
          rw [List.length_map, List.length_map]
          obtain ⟨m, hm, em⟩ : ∃ m : Nat, (m = c.length ∨ m = o.length) ∧ (if (o.length : Int) < (c.length : Int) then (o.length : Int) else (c.length : Int)) = (m : Int) := by
            by_cases z : (o.length : Int) < (c.length : Int)
            · exact ⟨o.length, .inr rfl, if_pos z⟩
            · exact ⟨c.length, .inl rfl, if_neg z⟩
          rw [em]
          refine i_slA hbc4 (fun p5 H5 s5 e5 => ?_)
          rw [cut_to, ← List.map_take] at e5
          have hbo5 := stup s5 hbo4
          walk_at "r"
          refine i_slA hbo5 (fun p6 H6 s6 e6 => ?_)
          rw [cut_to, ← List.map_take] at e6
          have e56 := stup s6 e5
          walk_at "r"
          refine i_eqT e56 e6 ?_
          rw [decide_eq_false (apart_take ap hm)]
          walk_at "r"
          exact ⟨_, _, rfl, (s4.trans s5).trans s6⟩
        · obtain ⟨z, u, rfl, s4⟩ := p
          walk_at "r"
          exact ⟨_, _, _, _, rfl, s13.trans s4⟩
    · obtain ⟨x1, x2, x3, x4, rfl, s1⟩ := p
      walk_at "r"
      exact q _ s1
def spCodesF (K : PySem.W.Frag) : Sp := fun vs H Q _ => ∃ (p : Addr) (t e : Int) (cs : List (List Int)), vs = [.ref p] ∧ KindAt K H p t e (.codes cs) ∧ KindOk t e (.codes cs) ∧ 0 ≤ t ∧ t ≤ 1000 ∧ ∀ H', Same H H' → Q .non H'
theorem c_codes_fault (Z : Blt mg) (c_is_code : C8.Cal P w K mg base 4 "is_code" (spCodeI K) []) (c_stand_apart : C8.Cal P w K mg base 1 "stand_apart" (spApart K) []) (d : Dd K mg "codes_fault" s_codes_fault P_codes_fault) : C8.Cal P w K mg base 5 "codes_fault" (spCodesF K) [] := by
  refine d.cal sc_codes_fault (fun vs H Q E h => ?_) (fun f cdv A outer s H vs Q E hr h => ?_)
  · obtain ⟨p, t, e, cs, rfl, _⟩ := h
    rfl
  · obtain ⟨p, t, e, cs, rfl, ⟨c, as, hp, hc, ht⟩, ⟨hl, hok, hap⟩, h0, h1, q⟩ := h
    have hc := hc.st (K := K)
    have nd := sc_codes_fault.nd
    have hlen := ht.len
    refine ⟨_, (pss_cons (ps_asg (pv 0) (pg_tup rfl (pgs_cons (pg_name (i := 1) nd rfl (Or.inl rfl)) (pgs_cons (pg_name (i := 2) nd rfl (Or.inr rfl)) (pgs_cons (pg_name (i := 3) nd rfl (Or.inr rfl)) (pgs_cons (pg_name (i := 4) nd rfl (Or.inl rfl)) pgs_nil))))))
  (pss_cons (ps_if (PW.pt (pw_or (pt_cmpR op_ne (pe_callB k_len (by rfl) Z.len_ (by decide +kernel) (pa_cons (pv 4) pa_nil)) (pv 2) (nomark _)) (pw_or1 (pt_not (pt_val (pe_callB (cr_all rfl) (by rfl) Z.all_ (by decide +kernel) (pa_cons (pe_lc (own := [("code", 5)]) (g := gName 5) (tt := tYes) rfl nd (pi_tup (pv 4)) (blkOk_by (N := N_codes_fault) (sc := C8.fnScope s_codes_fault) (own := [("code", 5)]) (by decide +kernel)) (fun _ _ _ _ _ => (pg_name (i := 5) nd rfl (Or.inl rfl))) (fun _ _ _ _ _ => pts_nil) (fun _ _ _ _ _ => (C8.pe_c c_is_code hr (by decide) (by rfl) (pa_cons (pv 5) (pa_cons (pv 2) (pa_cons (pv 3) pa_nil)))))) pa_nil))))))) (pss_one (ps_ret pe_str)) pss_nil)
  (pss_one (ps_ret (pe_ifExp (pt_val (C8.pe_c c_stand_apart hr (by decide) (by rfl) (pa_cons (pv 4) pa_nil))) pe_non pe_str))))), ?_⟩
    refine i_start (σ' := [some (.ref p), none, none, none, none, none]) rfl ?_
    walk_at "go"
    walk_at "r"
    rw [decide_eq_true (by rw [List.length_map]; omega), Bool.not_true]
    walk_at "r"
    refine i_lcT (F := fun _ => some (V.bl true)) hc (by rw [List.length_map]; omega) (fun v hv H1 s1 QN QY hN hY => ?_) (fun p2 H1 hp2 s1 e1 => ?_)
    · obtain ⟨a, ha, rfl⟩ := List.mem_map.mp hv
      obtain ⟨x, hx, hax⟩ := ht.mem ha
      have z := hok x hx
      walk_at "r"
      exact ⟨a, x, t, e, rfl, stup s1 hax, z.1, z.2.1, z.2.2, fun H2 s2 => hY _ rfl _ s2⟩
    · rw [all_yes] at e1
      walk_at "r"
      refine i_all (sl_of e1) ?_
      rw [all_true]
      walk_at "r"
      refine ⟨c, as, cs, rfl, stup s1 hc, ht.same s1, hap, fun H2 s2 => ?_⟩
      walk_at "r"
      exact q _ (s1.trans s2)
end
end Esc

namespace Esc
open PySem PySem.Spec PyProof.Rows L2
section
variable {P : Program} {w : World} {K : PySem.W.Frag} {mg : Str → Option Value} {base : Heap}
theorem nodup_sub : ∀ {l m : List Int}, l.Nodup → (∀ x ∈ l, x ∈ m) → l.length ≤ m.length
  | [], _, _, _ => Nat.zero_le _
  | a :: l, m, hn, h => by
    obtain ⟨n1, n2⟩ := List.nodup_cons.mp hn
    have ha := h a List.mem_cons_self
    have ih := nodup_sub (m := m.erase a) n2 fun x hx => (List.mem_erase_of_ne (fun z => n1 (by rw [← z]; exact hx) : x ≠ a)).mpr (h x (List.mem_cons_of_mem _ hx))
    rw [List.length_erase_of_mem ha] at ih
    have := List.length_pos_of_mem ha
    rw [List.length_cons]
    omega
theorem nodup_bound {t e : Int} {cs : List Int} (hn : cs.Nodup) (hp : ∀ c ∈ cs, Plain t e c) (h16 : t ≤ 16) : cs.length ≤ 16 := by
  have sub : cs.length ≤ (countL t).length := nodup_sub hn fun c hc => count_mem.mpr ⟨(hp c hc).1, (hp c hc).2.1⟩
  rw [count_len] at sub
  omega
def spEscF (K : PySem.W.Frag) : Sp := fun vs H Q _ => ∃ (p : Addr) (t e m : Int) (prs : List (Int × Int)), vs = [.ref p] ∧ KindAt K H p t e (.escapes m prs) ∧ KindOk t e (.escapes m prs) ∧ 0 ≤ t ∧ t ≤ 16 ∧ ∀ H', Same H H' → Q .non H'
theorem c_escapes_fault (Z : Blt mg) (c_is_plain : C8.Cal P w K mg base 3 "is_plain" spPlainI []) (c_first_unsigned : C8.Cal P w K mg base 3 "first_unsigned" (spFirst K) []) (d : Dd K mg "escapes_fault" s_escapes_fault P_escapes_fault) : C8.Cal P w K mg base 4 "escapes_fault" (spEscF K) [] := by
  refine d.cal sc_escapes_fault (fun vs H Q E h => ?_) (fun f cdv A outer s H vs Q E hr h => ?_)
  · obtain ⟨p, t, e, m, prs, rfl, _⟩ := h
    rfl
  · obtain ⟨p, t, e, m, prs, rfl, ⟨c, as, hp, hc, ht⟩, ⟨hm, hw, hr0, he1, hm1, hcp, hcn⟩, h0, h16, q⟩ := h
    have nd := sc_escapes_fault.nd
    have hlen := ht.len
    have lp : prs.length ≤ 16 := by
      have z := nodup_bound hcn hcp h16
      rw [List.length_map] at z
      exact z
    refine ⟨_, (pss_cons (ps_asg (pv 0) (pg_tup rfl (pgs_cons (pg_name (i := 1) nd rfl (Or.inl rfl)) (pgs_cons (pg_name (i := 2) nd rfl (Or.inr rfl)) (pgs_cons (pg_name (i := 3) nd rfl (Or.inr rfl)) (pgs_cons (pg_name (i := 4) nd rfl (Or.inl rfl)) (pgs_cons (pg_name (i := 5) nd rfl (Or.inl rfl)) pgs_nil)))))))
  (pss_cons (ps_if (pt_not (pt_val (C8.pe_c c_is_plain hr (by decide) (by rfl) (pa_cons (pv 4) (pa_cons (pv 2) (pa_cons (pv 3) pa_nil)))))) (pss_one (ps_ret pe_str)) pss_nil)
  (pss_cons (ps_setLc (i := 6) (own := [("sign", 9), ("code", 8)]) (g := gTup K 2 (gCons (gName 9) (gCons (gName 8) gNil))) (tt := tYes) rfl nd rfl rfl (sw_true rfl rfl rfl (by decide +kernel)) (pi_tup (pv 5)) (blkOk_by (N := N_escapes_fault) (sc := C8.fnScope s_escapes_fault) (own := [("sign", 9), ("code", 8)]) (by decide +kernel)) (fun _ _ _ _ _ => (pg_tup rfl (pgs_cons (pg_name (i := 9) nd rfl (Or.inl rfl)) (pgs_cons (pg_name (i := 8) nd rfl (Or.inl rfl)) pgs_nil)))) (fun _ _ _ _ _ => pts_nil) (fun _ _ _ _ _ => (pv 9)))
  (pss_cons (ps_setLc (i := 7) (own := [("sign", 9), ("code", 8)]) (g := gTup K 2 (gCons (gName 9) (gCons (gName 8) gNil))) (tt := tYes) rfl nd rfl rfl (sw_true rfl rfl rfl (by decide +kernel)) (pi_tup (pv 5)) (blkOk_by (N := N_escapes_fault) (sc := C8.fnScope s_escapes_fault) (own := [("sign", 9), ("code", 8)]) (by decide +kernel)) (fun _ _ _ _ _ => (pg_tup rfl (pgs_cons (pg_name (i := 9) nd rfl (Or.inl rfl)) (pgs_cons (pg_name (i := 8) nd rfl (Or.inl rfl)) pgs_nil)))) (fun _ _ _ _ _ => pts_nil) (fun _ _ _ _ _ => (pv 8)))
  (pss_cons (ps_if (PW.pt (pw_or (pt_cmpR k_notN (C8.pe_c c_first_unsigned hr (by decide) (by rfl) (pa_cons (pv 6) (pa_cons (pv 2) pa_nil))) pe_non (nomark _)) (pw_or1 (pt_cmpR (op_neD hr.units) (pv 6) (pe_callB (cr_sortedSet rfl) (by rfl) Z.sorted_ (by decide +kernel) (pa_cons (pe_callTy (cr_setI rfl) (by rfl) Z.set_ (by decide +kernel) (pa_cons (pv 6) pa_nil)) pa_nil)) (nomark _))))) (pss_one (ps_ret pe_str)) pss_nil)
  (pss_cons (ps_if (PW.pt (pw_or (pt_cmpR op_notIn_seq (pv 3) (pv 6) (by rfl)) (pw_or1 (pt_cmpR op_notIn_seq (pv 4) (pv 6) (by rfl))))) (pss_one (ps_ret pe_str)) pss_nil)
  (pss_cons (ps_if (PW.pt (pw_or (pt_not (pt_val (pe_callB (cr_all rfl) (by rfl) Z.all_ (by decide +kernel) (pa_cons (pe_lc (own := [("code", 8)]) (g := gName 8) (tt := tYes) rfl nd (pi_list (pv 7)) (blkOk_by (N := N_escapes_fault) (sc := C8.fnScope s_escapes_fault) (own := [("code", 8)]) (by decide +kernel)) (fun _ _ _ _ _ => (pg_name (i := 8) nd rfl (Or.inl rfl))) (fun _ _ _ _ _ => pts_nil) (fun _ _ _ _ _ => (C8.pe_c c_is_plain hr (by decide) (by rfl) (pa_cons (pv 8) (pa_cons (pv 2) (pa_cons (pv 3) pa_nil)))))) pa_nil)))) (pw_or1 (pt_cmpR op_ne (pe_lenSetI rfl rfl Z.len_ rfl Z.set_ (pv 7)) (pe_callB k_len (by rfl) Z.len_ (by decide +kernel) (pa_cons (pv 7) pa_nil)) (nomark _))))) (pss_one (ps_ret pe_str)) pss_nil)
  (pss_one (ps_ret pe_non))))))))), ?_⟩
    refine i_start (σ' := [some (.ref p), none, none, none, none, none, none, none, none, none]) rfl ?_
    walk_at "go"
    walk_at "r"
    refine ⟨m, t, e, rfl, ?_⟩
    rw [decide_eq_true hm]
    walk_at "r"
    refine i_lcTI (fun D j acc H' => acc = ((prs.take j).map (·.1)).map V.int ∧ Same H H' ∧ H' D = some (.lst acc)) hc
      (fun D hD => ⟨rfl, same_new hD, upd_same⟩) (fun D j acc H' hD pv => stup pv.2.1 hc) (fun D j x acc H' hD hx hl pv => ?_) (fun p1 acc H1 hp1 pv => ?_)
    · obtain ⟨rfl, s1, e1⟩ := pv
      obtain ⟨b, hb, rfl⟩ := ref_get hx
      obtain ⟨pr, hpr, hbp⟩ := ht.get hb
      have hbp1 := stup s1 hbp
      have hj : j < as.length := (List.getElem?_eq_some_iff.mp hb).1
      walk_at "r"
      refine kY_of e1 hl (by omega) ⟨?_, smut s1 hD, upd_same⟩
      rw [take_succ' hpr, List.map_append, List.map_append]
      rfl
    obtain ⟨rfl, s1, e1⟩ := pv
    rw [List.length_map, hlen, List.take_length] at e1
    have hc1 := stup s1 hc
    walk_at "r"
    refine i_lcTI (fun D j acc H' => acc = ((prs.take j).map (·.2)).map V.int ∧ Same H1 H' ∧ H' D = some (.lst acc)) hc1
      (fun D hD => ⟨rfl, same_new hD, upd_same⟩) (fun D j acc H' hD pv => stup pv.2.1 hc1) (fun D j x acc H' hD hx hl pv => ?_) (fun p2 acc H2 hp2 pv => ?_)
    · obtain ⟨rfl, s2, e2⟩ := pv
      obtain ⟨b, hb, rfl⟩ := ref_get hx
      obtain ⟨pr, hpr, hbp⟩ := ht.get hb
      have hbp1 := stup (s1.trans s2) hbp
      have hj : j < as.length := (List.getElem?_eq_some_iff.mp hb).1
      walk_at "r"
      refine kY_of e2 hl (by omega) ⟨?_, smut s2 hD, upd_same⟩
      rw [take_succ' hpr, List.map_append, List.map_append]
      rfl
    obtain ⟨rfl, s2, e2⟩ := pv
    rw [List.length_map, hlen, List.take_length] at e2
    have e12 := s2 _ _ e1
    walk_at "r"
    refine ⟨p1, _, t, rfl, sl_of e12, hr0, fun H3 s3 => ?_⟩
    have e13 := s3 _ _ e12
    have e23 := s3 _ _ e2
    walk_at "r"
    rw [decide_eq_true rfl, Bool.not_true]
    walk_at "r"
    refine i_setI (sl_of e13) (by rw [List.length_map]; omega) (fun p4 c4 H4 hc4 hp4 s4 e4 => ?_)
    rw [List.length_map] at hc4
    walk_at "r"
    refine i_sortedSet e4 (by omega) hw (fun p5 H5 hp5 s5 e5 => ?_)
    have s35 := s4.trans s5
    have e15 := s35 _ _ e13
    have e25 := s35 _ _ e23
    walk_at "r"
    refine i_neL (sl_of e15) (sl_of e5) ?_
    rw [decide_eq_true rfl, Bool.not_true]
    walk_at "r"
    refine i_notInI (sl_of e15) ?_
    rw [decide_eq_true he1, Bool.not_true]
    walk_at "r"
    refine i_notInI (sl_of e15) ?_
    rw [decide_eq_true hm1, Bool.not_true]
    walk_at "r"
    refine i_lcL (F := fun _ => some (V.bl true)) (sl_of e25) (by rw [List.length_map, List.length_map]; omega) (fun v hv H6 s6 QN QY hN hY => ?_) (fun p7 H7 hp7 s7 e7 => ?_)
    · obtain ⟨n, hn, rfl⟩ := List.mem_map.mp hv
      walk_at "r"
      refine ⟨n, t, e, rfl, ?_⟩
      rw [decide_eq_true (hcp n hn)]
      exact hY _ rfl _ (Same.refl _)
    rw [all_yes] at e7
    have e27 := s7 _ _ e25
    walk_at "r"
    refine i_all (sl_of e7) ?_
    rw [all_true]
    walk_at "r"
    refine i_lenSet (sl_of e27) (by rw [List.length_map]; omega) hcn ?_
    walk_at "r"
    rw [decide_eq_true (by rw [List.length_map]), Bool.not_true]
    walk_at "r"
    exact q _ (((s1.trans s2).trans (s3.trans s35)).trans s7)
end
end Esc

namespace Esc
open PySem PySem.Spec PyProof.Rows L2
abbrev GI (mg : Str → Option Value) (x : Str) (i : Int) : Prop := ∃ u, mg x = some u ∧ RelV (.int i) u
abbrev GR (mg : Str → Option Value) (x : Str) (a : Addr) : Prop := ∃ u, mg x = some u ∧ RelV (.ref a) u
def S1 (f : Addr) (sp : Sp) : Addr → Option Sp := fun g => if g = f then some sp else none
theorem S1_self {f : Addr} {sp : Sp} : S1 f sp f = some sp := if_pos rfl
theorem S1_held {P : Program} {w : World} {K : PySem.W.Frag} {mg : Str → Option Value} {base : Heap} {j : Nat} {f : Addr} {sp : Sp} (h : Held P w K mg base j f sp) : ∀ g sp', S1 f sp g = some sp' → Held P w K mg base j g sp' := fun g sp' e => by
  unfold S1 at e
  by_cases c : g = f
  · rw [if_pos c] at e
    cases e
    rw [c]
    exact h
  · rw [if_neg c] at e
    cases e
theorem TurnAt.mem {K : PySem.W.Frag} {H : Hp} : ∀ {tas : List (Addr × List Int)} {v u : V}, TurnAt K H tas v u → ∀ x ∈ tas, SqT K H x.1 (x.2.map V.int)
  | [], _, _, _, x, m => by cases m
  | (a, t) :: r, _, _, ⟨p, y, _, _, h2, h3⟩, x, m => by
    rcases List.mem_cons.mp m with rfl | m
    · exact h2.st
    · exact h3.mem x m
theorem cut13 (a b c : V) (xs : List V) : cutV (a :: b :: c :: xs) (some 1) (some 3) = [b, c] := by
  unfold cutV
  rw [show (1 : Int) = ((1 : Nat) : Int) from rfl, show (3 : Int) = ((3 : Nat) : Int) from rfl, HT.sIx_nat, HT.sIx_nat, List.length_cons, List.length_cons, List.length_cons, Nat.min_eq_left (by omega), Nat.min_eq_left (by omega)]
  rfl
theorem cut1_ne (a b c : V) (xs : List V) {n : Nat} : ¬ (HT.sIx (a :: b :: c :: xs).length 0 (some 1) = 0 ∧ HT.sIx (a :: b :: c :: xs).length (a :: b :: c :: xs).length (some 3) = n) := fun z => by
  have q := z.1
  rw [show (1 : Int) = ((1 : Nat) : Int) from rfl, HT.sIx_nat, List.length_cons, Nat.min_eq_left (by omega)] at q
  exact absurd q (by decide)
section
variable {P : Program} {w : World} {K : PySem.W.Frag} {mg : Str → Option Value} {base : Heap}
def spNeedW (K : PySem.W.Frag) : Sp := fun vs H Q _ => ∃ (v : V) (wy : Way), vs = [v] ∧ WayAt K H v wy ∧ wy.Ok ∧ ∀ H', Same H H' → Q .non H'
/-- the four finders of faults, where FAULTS has them -/
structure Faults (P : Program) (w : World) (K : PySem.W.Frag) (mg : Str → Option Value) (base : Heap) (pF : Addr) : Prop where
  codes : ∃ f, mg "codes_fault" = some (.ref f) ∧ KDct K w pF "codes" (.ref f) ∧ C8.Cal P w K mg base 5 "codes_fault" (spCodesF K) []
  escapes : ∃ f, mg "escapes_fault" = some (.ref f) ∧ KDct K w pF "escapes" (.ref f) ∧ C8.Cal P w K mg base 4 "escapes_fault" (spEscF K) []
  counts : ∃ f, mg "counts_fault" = some (.ref f) ∧ KDct K w pF "counts" (.ref f) ∧ C8.Cal P w K mg base 2 "counts_fault" (spCountsF K) []
  ranks : ∃ f, mg "ranks_fault" = some (.ref f) ∧ KDct K w pF "ranks" (.ref f) ∧ C8.Cal P w K mg base 1 "ranks_fault" spRanksFault []
theorem Faults.of {pF : Addr} (F : Faults P w K mg base pF) {p : Addr} {t e : Int} (h3 : 3 ≤ t) (h16 : t ≤ 16) (k : Kind) (ok : KindOk t e k) : ∃ (fa : Addr) (sp : Sp), Held P w K mg base 5 fa sp ∧ KDct K w pF k.name (.ref fa) ∧
    ∀ H Q E, KindAt K H p t e k → (∀ H', Same H H' → Q .non H') → sp [.ref p] H Q E := by
  cases k with
  | codes cs =>
    obtain ⟨f, h1, h2, c⟩ := F.codes
    exact ⟨f, _, held_of c h1 (by decide), h2, fun H Q E hk q => ⟨p, t, e, cs, rfl, hk, ok, by omega, by omega, q⟩⟩
  | escapes m prs =>
    obtain ⟨f, h1, h2, c⟩ := F.escapes
    exact ⟨f, _, held_of c h1 (by decide), h2, fun H Q E hk q => ⟨p, t, e, m, prs, rfl, hk, ok, by omega, by omega, q⟩⟩
  | counts l =>
    obtain ⟨f, h1, h2, c⟩ := F.counts
    exact ⟨f, _, held_of c h1 (by decide), h2, fun H Q E hk q => ⟨p, t, e, l, _, rfl, hk, ok.1, ok.2, q H (Same.refl _)⟩⟩
  | ranks =>
    obtain ⟨f, h1, h2, c⟩ := F.ranks
    exact ⟨f, _, held_of c h1 (by decide), h2, fun H Q E hk q => ⟨.ref p, rfl, q H (Same.refl _)⟩⟩
theorem c_fault_of (Z : Blt mg) {pF : Addr} (m_MOST_TURNED : GI mg "MOST_TURNED" 3) (m_FAULTS : GR mg "FAULTS" pF) (F : Faults P w K mg base pF)
    (c_unturned : C8.Cal P w K mg base 1 "unturned" (spUnturned K) []) (c_is_top : C8.Cal P w K mg base 2 "is_top" spTopI []) (c_is_sign : C8.Cal P w K mg base 2 "is_sign" spSignI [])
    (c_is_turning : C8.Cal P w K mg base 4 "is_turning" (spTurnT K) []) (d : Dd K mg "fault_of" s_fault_of P_fault_of) : C8.Cal P w K mg base 6 "fault_of" (spNeedW K) [] := by
  refine d.cal sc_fault_of (fun vs H Q E h => ?_) (fun f cdv A outer s H vs Q E hr h => ?_)
  · obtain ⟨v, wy, rfl, _⟩ := h
    rfl
  · obtain ⟨v, wy, rfl, ⟨tas, p, hts, hw, hk⟩, ok, q⟩ := h
    have nd := sc_fault_of.nd
    obtain ⟨fa, sp, held, hF, hsp⟩ := F.of (p := p) ok.t3 ok.t16 wy.k ok.kind
    have A_find_fault := S1_held held
    obtain ⟨xs, hx⟩ := hk.head
    have ltas : tas.length ≤ 3 := by
      have z := ok.few
      rw [← hts, List.length_map] at z
      exact z
    refine ⟨_, (pss_cons (ps_asg (C8.pe_c c_unturned hr (by decide) (by rfl) (pa_cons (pv 0) pa_nil)) (pg_tup rfl (pgs_cons (pg_name (i := 1) nd rfl (Or.inl rfl)) (pgs_cons (pg_name (i := 2) nd rfl (Or.inl rfl)) pgs_nil))))
  (pss_cons (ps_if (pt_cmpR op_gt (pe_callB k_len (by rfl) Z.len_ (by decide +kernel) (pa_cons (pv 1) pa_nil)) (C8.pe_gc rfl m_MOST_TURNED) (nomark _)) (pss_one (ps_ret pe_str)) pss_nil)
  (pss_cons (ps_asg (pe_slice sl_tup (pv 2) (po_some pe_int) (po_some pe_int)) (pg_tup rfl (pgs_cons (pg_name (i := 3) nd rfl (Or.inr rfl)) (pgs_cons (pg_name (i := 4) nd rfl (Or.inl rfl)) pgs_nil))))
  (pss_cons (ps_if (pt_not (pt_val (C8.pe_c c_is_top hr (by decide) (by rfl) (pa_cons (pv 3) pa_nil)))) (pss_one (ps_ret pe_str)) pss_nil)
  (pss_cons (ps_if (pt_not (pt_val (C8.pe_c c_is_sign hr (by decide) (by rfl) (pa_cons (pv 4) (pa_cons (pv 3) pa_nil))))) (pss_one (ps_ret pe_str)) pss_nil)
  (pss_cons (ps_set (i := 5) nd rfl (Or.inl rfl) (pe_ix ix_kdict (C8.pe_gc rfl m_FAULTS) (pe_ix ix_tup (pv 2) pe_int (fun _ _ => rfl)) (fun _ _ => rfl)))
  (pss_cons (ps_set (i := 6) nd rfl (Or.inl rfl) (pe_callA A_find_fault hr (x := "find_fault") (i := 5) rfl (by first | exact Or.inl rfl | exact Or.inr (Or.inl rfl) | exact Or.inr (Or.inr rfl)) (pa_cons (pv 2) pa_nil)))
  (pss_cons (ps_if (PW.pt (pw_and (pt_cmpR k_isN (pv 6) pe_non (nomark _)) (pw_and1 (pt_not (pt_val (pe_callB (cr_all rfl) (by rfl) Z.all_ (by decide +kernel) (pa_cons (pe_lc (own := [("signs", 7)]) (g := gName 7) (tt := tYes) rfl nd (pi_list (pv 1)) (blkOk_by (N := N_fault_of) (sc := C8.fnScope s_fault_of) (own := [("signs", 7)]) (by decide +kernel)) (fun _ _ _ _ _ => (pg_name (i := 7) nd rfl (Or.inl rfl))) (fun _ _ _ _ _ => pts_nil) (fun _ _ _ _ _ => (C8.pe_c c_is_turning hr (by decide) (by rfl) (pa_cons (pv 7) (pa_cons (pv 3) pa_nil))))) pa_nil))))))) (pss_one (ps_ret pe_str)) pss_nil)
  (pss_one (ps_ret (pv 6))))))))))), ?_⟩
    refine i_start (σ' := [some v, none, none, none, none, none, none, none]) rfl ?_
    walk_at "go"
    walk_at "r"
    refine ⟨v, tas, p, wy.k.name, _, rfl, hw, hx, wy.k.name_ne, by omega, fun q1 l H1 _ hl s1 e1 el => ?_⟩
    have hx1 := stup s1 hx
    walk_at "r"
    refine i_no (by rw [List.length_map]; omega) ?_
    walk_at "r"
    refine i_slT hx1 (cut1_ne _ _ _ _) (fun q2 H2 _ s2 e2 => ?_)
    rw [cut13] at e2
    have hx2 := stup s2 hx1
    have el2 := s2 _ _ el
    have s12 := s1.trans s2
    walk_at "r"
    refine ⟨wy.t, rfl, ?_⟩
    walk_at "r"
    refine i_yes ⟨ok.t3, ok.t16⟩ ?_
    walk_at "r"
    refine ⟨wy.e, wy.t, rfl, ?_⟩
    walk_at "r"
    refine i_yes ⟨ok.e0, ok.e1⟩ ?_
    walk_at "r"
    refine i_kd hF ?_
    walk_at "r"
    refine i_callA S1_self ?_
    walk_at "r"
    refine hsp _ _ _ (hk.same s12) (fun H3 s3 => ?_)
    have s13 := s12.trans s3
    have el3 := s3 _ _ el2
    walk_at "r"
    refine i_yes rfl ?_
    walk_at "r"
    refine i_lcL (F := fun _ => some (V.bl true)) (sl_of el3) (by rw [List.length_map]; omega) (fun x hx H4 s4 QN QY hN hY => ?_) (fun p3 H4 hp3 s4 e4 => ?_)
    · obtain ⟨y, hy, rfl⟩ := List.mem_map.mp hx
      walk_at "r"
      refine ⟨y.1, y.2, wy.t, rfl, stup (s13.trans s4) (hw.mem y hy), ok.perm _ (by rw [← hts]; exact List.mem_map_of_mem hy), by have := ok.t3; omega, by have := ok.t16; omega, fun H5 s5 => hY _ rfl _ s5⟩
    · rw [all_yes] at e4
      walk_at "r"
      refine i_all (sl_of e4) ?_
      rw [all_true]
      walk_at "r"
      exact q _ (s13.trans s4)
theorem c_need_way (c_fault_of : C8.Cal P w K mg base 6 "fault_of" (spNeedW K) []) (d : Dd K mg "need_way" s_need_way P_need_way) : C8.Cal P w K mg base 7 "need_way" (spNeedW K) [] := by
  refine d.cal sc_need_way (fun vs H Q E h => ?_) (fun f cdv A outer s H vs Q E hr h => ?_)
  · obtain ⟨v, wy, rfl, _⟩ := h
    rfl
  · obtain ⟨v, wy, rfl, hw, ok, q⟩ := h
    have nd := sc_need_way.nd
    refine ⟨_, (pss_cons (ps_set (i := 1) nd rfl (Or.inl rfl) (C8.pe_c c_fault_of hr (by decide) (by rfl) (pa_cons (pv 0) pa_nil)))
  (pss_one (ps_if (pt_cmpR k_notN (pv 1) pe_non (nomark _)) (pss_one ps_never) pss_nil))), ?_⟩
    refine i_start (σ' := [some v, none]) rfl ?_
    walk_at "go"
    walk_at "r"
    refine ⟨v, wy, rfl, hw, ok, fun H1 s1 => ?_⟩
    walk_at "r"
    rw [decide_eq_true rfl, Bool.not_true]
    walk_at "r"
    exact q _ s1
end
end Esc

namespace Esc
open PySem PySem.Spec PyProof.Rows L2
section
variable {P : Program} {w : World} {K : PySem.W.Frag} {mg : Str → Option Value} {base : Heap}
def spByK (K : PySem.W.Frag) (good : Int → Int → Kind → Prop) (out : Int → Int → Kind → List Int → List Int) : Sp := fun vs H Q _ => ∃ (p b : Addr) (t e : Int) (k : Kind) (body : List Int), vs = [.ref p, .ref b] ∧ good t e k ∧ KindAt K H p t e k ∧ KindOk t e k ∧ 3 ≤ t ∧ t ≤ 16 ∧ 0 ≤ e ∧ e < t ∧
  SqL K H b (body.map V.int) ∧ (∀ x ∈ body, 0 ≤ x ∧ x < t) ∧ body.length ≤ 200 ∧ ∀ q H', H q = none → Same H H' → H' q = some (.lst ((out t e k body).map V.int)) → Q (.ref q) H'
def isCodes : Int → Int → Kind → Prop := fun _ _ k => ∃ cs, k = .codes cs
def isEscapes : Int → Int → Kind → Prop := fun _ _ k => ∃ m prs, k = .escapes m prs
def isCounts : Int → Int → Kind → Prop := fun _ _ k => ∃ l, k = .counts l
def isRanks : Int → Int → Kind → Prop := fun _ _ k => k = .ranks
end
end Esc

namespace Esc
open PySem PySem.Spec PyProof.Rows L2
theorem cut3 (a b c : V) (xs : List V) : cutV (a :: b :: c :: xs) (some 3) none = xs := by
  rw [show (3 : Int) = ((3 : Nat) : Int) from rfl, cut_from]
  rfl
theorem cut3_ne (a b c : V) (xs : List V) {n : Nat} {hi : Option Int} : ¬ (HT.sIx (a :: b :: c :: xs).length 0 (some 3) = 0 ∧ HT.sIx (a :: b :: c :: xs).length (a :: b :: c :: xs).length hi = n) := fun z => by
  have q := z.1
  rw [show (3 : Int) = ((3 : Nat) : Int) from rfl, HT.sIx_nat, List.length_cons, List.length_cons, List.length_cons, Nat.min_eq_left (by omega)] at q
  exact absurd q (by decide)
theorem drop_get {α : Type} {l : List α} {i : Nat} {x : α} {r : List α} (h : l.drop i = x :: r) : l[i]? = some x ∧ l.drop (i + 1) = r := by
  constructor
  · rw [← List.head?_drop, h]
    rfl
  · rw [← List.tail_drop, h]
    rfl
theorem drop_of {α : Type} {l : List α} {i : Nat} {x : α} (h : l[i]? = some x) : l.drop i = x :: l.drop (i + 1) := by
  obtain ⟨h1, h2⟩ := List.getElem?_eq_some_iff.mp h
  rw [List.drop_eq_getElem_cons h1, h2]
/-- signs and codes exchanged -/
def swp (prs : List (Int × Int)) : List (Int × Int) := prs.map fun c => (c.2, c.1)
theorem swp_fst (prs : List (Int × Int)) : (swp prs).map (·.1) = prs.map (·.2) := by
  unfold swp
  rw [List.map_map]
  rfl
theorem swp_look {prs : List (Int × Int)} (hn : (prs.map (·.2)).Nodup) {x c : Int} (h : look prs x = some c) : look (swp prs) c = some x := by
  have m := look_some h
  have m2 : (c, x) ∈ swp prs := List.mem_map.mpr ⟨(x, c), m, rfl⟩
  exact look_mem (by rw [swp_fst]; exact hn) m2
theorem fst_new {l : List (Int × Int)} {j : Nat} {c : Int × Int} (hn : (l.map (·.1)).Nodup) (h : l[j]? = some c) : c.1 ∉ (l.take j).map (·.1) := by
  rw [List.map_take]
  exact nodup_take hn (by rw [List.getElem?_map, h]; rfl)
section
variable {P : Program} {w : World} {K : PySem.W.Frag} {mg : Str → Option Value} {base : Heap}
end
end Esc

namespace Esc
open PySem PySem.Spec PyProof.Rows L2
def kDNo1 (Q : VK) (σ : L2.St) (td : TE) : VK := fun y H1 => td σ H1 fun x H2 => ∃ a o, x = .ref a ∧ DGet H2 a y o ∧ Q (.bl (!o.isSome)) H2
def kDNo2 (Q : VK) (y : V) : VK := fun x H2 => ∃ a o, x = .ref a ∧ DGet H2 a y o ∧ Q (.bl (!o.isSome)) H2
instance {ta tb : TE} {σ : L2.St} {H : Hp} {Q : VK} : Step (tDNotIn ta tb σ H Q) (ta σ H (kDNo1 Q σ tb)) := ⟨fun h => h⟩
instance {tb : TE} {σ : L2.St} {H : Hp} {Q : VK} {y : V} : Step (kDNo1 Q σ tb y H) (tb σ H (kDNo2 Q y)) := ⟨fun h => h⟩
theorem escB_cons (m : Int) (prs : List (Int × Int)) (x : Int) (body : List Int) : escB m prs (x :: body) = escS m prs x ++ escB m prs body := by
  unfold escB
  rw [List.flatMap_cons]
theorem escS_some {m : Int} {prs : List (Int × Int)} {x c : Int} (h : look prs x = some c) : escS m prs x = [m, c] := by
  unfold escS
  rw [h]
theorem escS_none {m : Int} {prs : List (Int × Int)} {x : Int} (h : look prs x = none) : escS m prs x = [x] := by
  unfold escS
  rw [h]
theorem escS_ne (m : Int) (prs : List (Int × Int)) (x : Int) : escS m prs x ≠ [] := by
  unfold escS
  split <;> simp
theorem dget_sw {H : Hp} {a : Addr} {l : List (Int × Int)} (h : H a = some (.dK (kvOf l))) (x : Int) : DGet H a (.int x) ((look l x).map V.int) := by
  rw [← kv_val]
  exact DGet.k (k := Sum.inl x) h
end Esc

namespace Esc
open PySem PySem.Spec PyProof.Rows L2
def kTru (K : PySem.W.Frag) (Q : Bool → Hp → Prop) : VK := fun x H' => ∃ k, TruV K x H' k ∧ Q k H'
def tTru (K : PySem.W.Frag) (ta : TE) : TT := fun σ H Q => ta σ H (kTru K Q)
theorem pt_tru {X : Cx} {a : Expr} {ta : TE} (he : PE X a ta) (h : ∀ whole, isTrue a X.env whole = (do let v ← whole; standAt a.pos; holding [v] (truthy v))) : PT X a (tTru X.K ta) := pt_truth he h
instance {K : PySem.W.Frag} {ta : TE} {σ : L2.St} {H : Hp} {Q : Bool → Hp → Prop} : Step (tTru K ta σ H Q) (ta σ H (kTru K Q)) := ⟨fun h => h⟩
theorem i_truL {K : PySem.W.Frag} {H : Hp} {Q : Bool → Hp → Prop} {a : Addr} {xs : List V} (h : SqL K H a xs) (q : Q (!xs.isEmpty) H) : kTru K Q (.ref a) H := ⟨_, .inl ⟨xs, h, rfl⟩, q⟩
theorem atI_last (xs : List V) (v : V) : atI (xs ++ [v]) (-1) = some v := by
  unfold atI ixN
  rw [if_neg (by decide), List.length_append, List.length_singleton, if_pos (by omega)]
  show (xs ++ [v])[((-1 : Int) + ((xs.length + 1 : Nat) : Int)).toNat]? = some v
  rw [show ((-1 : Int) + ((xs.length + 1 : Nat) : Int)).toNat = xs.length by omega, List.getElem?_append_right (Nat.le_refl _), Nat.sub_self]
  rfl
/-- at each of as a list of ints -/
def LstsAt (H : Hp) : List Addr → List (List Int) → Prop
  | [], [] => True
  | a :: as, c :: cs => H a = some (.lst (c.map V.int)) ∧ LstsAt H as cs
  | _, _ => False
theorem LstsAt.same {H H' : Hp} (s : Same H H') : ∀ {as : List Addr} {cs : List (List Int)}, LstsAt H as cs → LstsAt H' as cs
  | [], [], _ => trivial
  | _ :: _, _ :: _, ⟨h, r⟩ => ⟨s _ _ h, LstsAt.same s r⟩
theorem LstsAt.len {H : Hp} : ∀ {as : List Addr} {cs : List (List Int)}, LstsAt H as cs → as.length = cs.length
  | [], [], _ => rfl
  | _ :: _, _ :: _, ⟨_, r⟩ => congrArg (· + 1) r.len
theorem LstsAt.put {H : Hp} {z : Addr} {o : HO} : ∀ {as : List Addr} {cs : List (List Int)}, z ∉ as → LstsAt H as cs → LstsAt (upd H z o) as cs
  | [], [], _, _ => trivial
  | a :: as, _ :: cs, n, ⟨h, r⟩ => ⟨by rw [upd_ne (fun e => n (by rw [← e]; exact List.mem_cons_self) : a ≠ z)]; exact h, LstsAt.put (fun m => n (List.mem_cons_of_mem _ m)) r⟩
theorem LstsAt.app {H : Hp} : ∀ {as : List Addr} {cs : List (List Int)} {bs : List Addr} {ds : List (List Int)}, LstsAt H as cs → LstsAt H bs ds → LstsAt H (as ++ bs) (cs ++ ds)
  | [], [], _, _, _, h => h
  | _ :: as, _ :: cs, bs, ds, ⟨h, r⟩, h2 => ⟨h, LstsAt.app (as := as) (cs := cs) (bs := bs) (ds := ds) r h2⟩
theorem LstsAt.get {H : Hp} : ∀ {as : List Addr} {cs : List (List Int)} {i : Nat} {a : Addr}, LstsAt H as cs → as[i]? = some a → ∃ c, cs[i]? = some c ∧ H a = some (.lst (c.map V.int))
  | [], _, _, _, _, e => by simp at e
  | _ :: _, c :: _, 0, a, ⟨h, _⟩, e => by
    cases e
    exact ⟨c, rfl, h⟩
  | _ :: as, _ :: cs, i + 1, a, ⟨_, r⟩, e => LstsAt.get (as := as) (cs := cs) (i := i) r e
theorem LstsAt.there {H : Hp} : ∀ {as : List Addr} {cs : List (List Int)}, LstsAt H as cs → ∀ a ∈ as, ∃ o, H a = some o
  | a :: as, c :: cs, ⟨h, r⟩, b, m => by
    rcases List.mem_cons.mp m with rfl | m
    · exact ⟨_, h⟩
    · exact r.there b m
theorem LstsAt.new {H : Hp} {as : List Addr} {cs : List (List Int)} {n : Addr} (h : LstsAt H as cs) (hn : H n = none) : n ∉ as := fun m => by
  obtain ⟨o, e⟩ := h.there n m
  rw [hn] at e
  cases e
theorem rowsB_snoc (e : Int) (body : List Int) (x : Int) : rowsB e (body ++ [x]) = stepR e (rowsB e body) x := by
  unfold rowsB
  rw [List.foldl_append]
  rfl
theorem stepR_end {e : Int} (rs : List (List Int)) : stepR e rs e = rs ++ [[]] := if_pos rfl
theorem stepR_in {e x : Int} (h : x ≠ e) (rs : List (List Int)) (l : List Int) : stepR e (rs ++ [l]) x = rs ++ [l ++ [x]] := by
  unfold stepR
  rw [if_neg h, List.dropLast_concat, List.getLastD_concat]
theorem rowsB_len (e : Int) (body : List Int) : ∀ n, (rowsB e (body.take n)).length ≤ n + 1 := fun n => by
  have : ∀ (l : List Int) (rs : List (List Int)), rs ≠ [] → (l.foldl (stepR e) rs).length ≤ rs.length + l.length := fun l => by
    induction l with
    | nil => intro rs _; exact Nat.le_refl _
    | cons x l ih =>
      intro rs hrs
      rw [List.foldl_cons, List.length_cons]
      have z : stepR e rs x ≠ [] ∧ (stepR e rs x).length ≤ rs.length + 1 := by
        unfold stepR
        split
        · exact ⟨by simp, by simp⟩
        · exact ⟨by simp, by simp only [List.length_append, List.length_dropLast, List.length_singleton]; omega⟩
      have := ih _ z.1
      omega
  have z := this (body.take n) [[]] (by simp)
  rw [List.length_take, List.length_singleton] at z
  unfold rowsB
  omega
theorem rowsB_row (e : Int) (body : List Int) : ∀ l ∈ rowsB e body, l.length ≤ body.length := by
  have : ∀ (b : List Int) (rs : List (List Int)) (k : Nat), (∀ l ∈ rs, l.length ≤ k) → ∀ l ∈ b.foldl (stepR e) rs, l.length ≤ k + b.length := fun b => by
    induction b with
    | nil => intro rs k h l m; exact h l m
    | cons x b ih =>
      intro rs k h l m
      rw [List.foldl_cons] at m
      have z := ih (stepR e rs x) (k + 1) (fun l2 m2 => by
        unfold stepR at m2
        split at m2
        · rcases List.mem_append.mp m2 with m2 | m2
          · have := h l2 m2
            omega
          · rw [List.mem_singleton.mp m2]
            exact Nat.zero_le _
        · rcases List.mem_append.mp m2 with m2 | m2
          · have := h l2 ((List.dropLast_sublist rs).subset m2)
            omega
          · rw [List.mem_singleton.mp m2, List.length_append, List.length_singleton]
            cases hrs : rs.getLast? with
            | none =>
              rw [List.getLastD_eq_getLast?, hrs]
              exact Nat.succ_le_succ (Nat.zero_le _)
            | some v =>
              rw [List.getLastD_eq_getLast?, hrs]
              exact Nat.succ_le_succ (h v (List.mem_of_getLast? hrs))) l m
      rw [List.length_cons]
      omega
  intro l m
  have z := this body [[]] 0 (fun l m => by rw [List.mem_singleton.mp m]; exact Nat.le_refl _) l m
  omega
section
variable {P : Program} {w : World} {K : PySem.W.Frag} {mg : Str → Option Value} {base : Heap}
def spRows (K : PySem.W.Frag) : Sp := fun vs H Q _ => ∃ (b : Addr) (e : Int) (body : List Int), vs = [.ref b, .int e] ∧ SqL K H b (body.map V.int) ∧ body.length ≤ 1000 ∧
  ∀ r as H', H r = none → Same H H' → H' r = some (.lst (as.map V.ref)) → LstsAt H' as (rowsB e body) → Q (.ref r) H'
end
end Esc

namespace Esc
open PySem PySem.Spec PyProof.Rows L2
theorem groupB_more {cn row : List Int} {w : Nat} (h0 : 0 < w) (h : w ≤ row.length) : groupB cn w row = cn.getD w 0 :: (row.take w ++ groupB cn w (row.drop w)) := by
  rw [groupB, dif_pos ⟨h0, h⟩]
theorem groupB_last {cn row : List Int} {w : Nat} (h : row.length < w) : groupB cn w row = cn.getD row.length 0 :: row := by
  rw [groupB, dif_neg (by omega)]
theorem groupB_len {cn : List Int} {w : Nat} (h0 : 0 < w) : ∀ (n : Nat) (row : List Int), row.length = n → (groupB cn w row).length ≤ 2 * row.length + 1 := by
  intro n
  induction n using Nat.strongRecOn with
  | ind n ih =>
    intro row hn
    by_cases h : w ≤ row.length
    · have z := ih (row.length - w) (by omega) (row.drop w) (List.length_drop ..)
      rw [List.length_drop] at z
      rw [groupB_more h0 h, List.length_cons, List.length_append, List.length_take]
      omega
    · rw [groupB_last (by omega), List.length_cons]
      omega
theorem rowsB_sum (e : Int) (body : List Int) : ∀ n, n ≤ body.length → ∃ rs ls, rowsB e (body.take n) = rs ++ [ls] ∧ (rs.map List.length).sum + ls.length + rs.length = n
  | 0, _ => ⟨[], [], rfl, rfl⟩
  | n + 1, h => by
    obtain ⟨rs, ls, h1, h2⟩ := rowsB_sum e body n (by omega)
    have hx : body[n]? = some body[n] := List.getElem?_eq_getElem (by omega)
    rw [take_succ' hx, rowsB_snoc, h1]
    by_cases c : body[n] = e
    · rw [c, stepR_end]
      refine ⟨rs ++ [ls], [], rfl, ?_⟩
      rw [List.map_append, List.sum_append, List.length_append]
      simp
      omega
    · rw [stepR_in c]
      refine ⟨rs, ls ++ [body[n]], rfl, ?_⟩
      rw [List.length_append, List.length_singleton]
      omega
theorem rowsB_all (e : Int) (body : List Int) : ∃ rs ls, rowsB e body = rs ++ [ls] ∧ (rs.map List.length).sum + ls.length + rs.length = body.length := by
  have z := rowsB_sum e body body.length (Nat.le_refl _)
  rw [List.take_length] at z
  exact z
theorem flat_len {f : List Int → List Int} (hf : ∀ l, (f l).length ≤ 2 * l.length + 1) : ∀ rs : List (List Int), (rs.flatMap f).length ≤ 2 * (rs.map List.length).sum + rs.length
  | [] => Nat.le_refl _
  | l :: rs => by
    have ih := flat_len hf rs
    have z := hf l
    rw [List.flatMap_cons, List.length_append, List.map_cons, List.sum_cons, List.length_cons]
    omega
theorem flat_take {f : List Int → List Int} (rs : List (List Int)) (i : Nat) : ((rs.take i).flatMap f).length ≤ (rs.flatMap f).length := by
  conv => rhs; rw [← List.take_append_drop i rs, List.flatMap_append, List.length_append]
  omega
section
variable {P : Program} {w : World} {K : PySem.W.Frag} {mg : Str → Option Value} {base : Heap}
def spGroup (K : PySem.W.Frag) : Sp := fun vs H Q _ => ∃ (a c : Addr) (row cn : List Int) (n : Nat), vs = [.ref a, .ref c] ∧ H a = some (.lst (row.map V.int)) ∧ SqL K H c (cn.map V.int) ∧ cn.length = n + 1 ∧ 1 ≤ n ∧ row.length ≤ 1000 ∧
  ∀ g H', H g = none → Same H H' → H' g = some (.lst ((groupB cn n row).map V.int)) → Q (.ref g) H'
end
end Esc

namespace Esc
open PySem PySem.Spec PyProof.Rows L2
theorem snoc_of_len {α β : Type} {as : List α} {rs : List β} {l : β} (h : as.length = (rs ++ [l]).length) : ∃ as' z, as = as' ++ [z] ∧ as'.length = rs.length := by
  rcases List.eq_nil_or_concat as with e | ⟨as', z, e⟩
  · rw [e, List.length_append] at h
    simp at h
  · rw [List.concat_eq_append] at e
    refine ⟨as', z, e, ?_⟩
    rw [e, List.length_append, List.length_append] at h
    simpa using h
section
variable {P : Program} {w : World} {K : PySem.W.Frag} {mg : Str → Option Value} {base : Heap}
end
end Esc

namespace Esc
open PySem PySem.Spec PyProof.Rows L2
theorem bodyR_rowR {t e : Int} (h3 : 3 ≤ t) (h0 : 0 ≤ e) (h1 : e < t) {body : List Int} (h : ∀ x ∈ body, 0 ≤ x ∧ x < t) : bodyR t e (rowR t e body) = body := by
  have z := plain_len h0 h1
  have hc : ∀ x ∈ body, x ∈ countL t := fun x hx => count_mem.mpr (h x hx)
  unfold rowR bodyR
  rw [digits_letters (plain_nodup t e) (row_lt (by omega) _), rank_row, row_rank (by omega) _ _ rfl (fun d hd => by rw [← count_len]; exact digits_lt hc d hd), letters_digits hc]
section
variable {P : Program} {w : World} {K : PySem.W.Frag} {mg : Str → Option Value} {base : Heap}
end
end Esc

namespace Esc
open PySem PySem.Spec PyProof.Rows L2
def turnS (p : List Int) (body : List Int) : List Int := body.map fun x => p.getD x.toNat 0
def turnL (ts : List (List Int)) (body : List Int) : List Int := ts.foldl (fun b p => turnS p b) body
def frameW (wy : Way) (body : List Int) : List Int := rowOf wy.t wy.e wy.k (turnL wy.ts body) ++ [wy.e]
theorem turnL_snoc (ts : List (List Int)) (p : List Int) (body : List Int) : turnL (ts ++ [p]) body = turnS p (turnL ts body) := by
  unfold turnL
  rw [List.foldl_append]
  rfl
theorem turnS_in {t : Int} {p body : List Int} (hp : p.Perm (countL t)) (h : ∀ x ∈ body, 0 ≤ x ∧ x < t) : ∀ x ∈ turnS p body, 0 ≤ x ∧ x < t := fun x hx => by
  obtain ⟨y, hy, rfl⟩ := List.mem_map.mp hx
  have z := h y hy
  have lp := hp.length_eq
  rw [count_len] at lp
  have hl : y.toNat < p.length := by omega
  rw [List.getD_eq_getElem?_getD, List.getElem?_eq_getElem hl]
  exact count_mem.mp (hp.subset (List.getElem_mem hl))
theorem turnS_len (p body : List Int) : (turnS p body).length = body.length := List.length_map _
theorem turnL_ok {t : Int} : ∀ (ts : List (List Int)), (∀ p ∈ ts, p.Perm (countL t)) → ∀ (body : List Int), (∀ x ∈ body, 0 ≤ x ∧ x < t) → (∀ x ∈ turnL ts body, 0 ≤ x ∧ x < t) ∧ (turnL ts body).length = body.length
  | [], _, body, h => ⟨h, rfl⟩
  | p :: ts, hp, body, h => by
    have z := turnL_ok ts (fun q hq => hp q (List.mem_cons_of_mem _ hq)) (turnS p body) (turnS_in (hp p List.mem_cons_self) h)
    rw [turnS_len] at z
    exact z
theorem cntB_len {t e l : Int} (hl2 : 2 ≤ l) (body : List Int) : (cntB t e l body).length ≤ 2 * body.length + 1 := by
  obtain ⟨rs, ls, hrows, hsum⟩ := rowsB_all e body
  have z := flat_len (f := groupB ((plainL t e).take l.toNat) (l.toNat - 1)) (fun x => groupB_len (by omega) _ x rfl) (rowsB e body)
  have zs : ((rowsB e body).map List.length).sum = (rs.map List.length).sum + ls.length := by
    rw [hrows, List.map_append, List.sum_append]
    simp
  have zl : (rowsB e body).length = rs.length + 1 := by
    rw [hrows]
    simp
  unfold cntB
  dsimp only
  split
  · rw [List.length_dropLast]
    omega
  · omega
theorem rowOf_len {t e : Int} {k : Kind} (ok : KindOk t e k) (h3 : 3 ≤ t) (h16 : t ≤ 16) (h0 : 0 ≤ e) (h1 : e < t) {body : List Int} (h : ∀ x ∈ body, 0 ≤ x ∧ x < t) : (rowOf t e k body).length ≤ 5 * body.length + 1 := by
  cases k with
  | codes cs =>
    have z := codesB_len (fun c hc => (ok.2.1 c hc).2.1) body
    show (codesB cs body).length ≤ _
    omega
  | escapes m prs =>
    have z := escB_len m prs body
    show (escB m prs body).length ≤ _
    omega
  | counts l =>
    have z := cntB_len (t := t) (e := e) ok.1 body
    show (cntB t e l body).length ≤ _
    omega
  | ranks =>
    have z := rowR_len h3 h16 h0 h1 h
    show (rowR t e body).length ≤ _
    omega
section
variable {P : Program} {w : World} {K : PySem.W.Frag} {mg : Str → Option Value} {base : Heap}
/-- the four framers, where FRAMERS has them -/
structure Framers (P : Program) (w : World) (K : PySem.W.Frag) (mg : Str → Option Value) (base : Heap) (pF : Addr) : Prop where
  codes : ∃ f, mg "by_codes" = some (.ref f) ∧ KDct K w pF "codes" (.ref f) ∧ C8.Cal P w K mg base 1 "by_codes" (spByK K isCodes rowOf) []
  escapes : ∃ f, mg "by_escapes" = some (.ref f) ∧ KDct K w pF "escapes" (.ref f) ∧ C8.Cal P w K mg base 1 "by_escapes" (spByK K isEscapes rowOf) []
  counts : ∃ f, mg "by_counts" = some (.ref f) ∧ KDct K w pF "counts" (.ref f) ∧ C8.Cal P w K mg base 2 "by_counts" (spByK K isCounts rowOf) []
  ranks : ∃ f, mg "by_ranks" = some (.ref f) ∧ KDct K w pF "ranks" (.ref f) ∧ C8.Cal P w K mg base 2 "by_ranks" (spByK K isRanks rowOf) []
def isAny : Int → Int → Kind → Prop := fun _ _ _ => True
theorem Framers.of {pF : Addr} (F : Framers P w K mg base pF) (k : Kind) : ∃ (fa : Addr) (sp : Sp), Held P w K mg base 2 fa sp ∧ KDct K w pF k.name (.ref fa) ∧
    ∀ (p b : Addr) (t e : Int) (body : List Int) H Q E, KindAt K H p t e k → KindOk t e k → 3 ≤ t → t ≤ 16 → 0 ≤ e → e < t → SqL K H b (body.map V.int) → (∀ x ∈ body, 0 ≤ x ∧ x < t) → body.length ≤ 200 →
      (∀ q H', H q = none → Same H H' → H' q = some (.lst ((rowOf t e k body).map V.int)) → Q (.ref q) H') → sp [.ref p, .ref b] H Q E := by
  cases k with
  | codes cs =>
    obtain ⟨f, h1, h2, c⟩ := F.codes
    exact ⟨f, _, held_of c h1 (by decide), h2, fun p b t e body H Q E a1 a2 a3 a4 a5 a6 a7 a8 a9 q => ⟨p, b, t, e, _, body, rfl, ⟨cs, rfl⟩, a1, a2, a3, a4, a5, a6, a7, a8, a9, q⟩⟩
  | escapes m prs =>
    obtain ⟨f, h1, h2, c⟩ := F.escapes
    exact ⟨f, _, held_of c h1 (by decide), h2, fun p b t e body H Q E a1 a2 a3 a4 a5 a6 a7 a8 a9 q => ⟨p, b, t, e, _, body, rfl, ⟨m, prs, rfl⟩, a1, a2, a3, a4, a5, a6, a7, a8, a9, q⟩⟩
  | counts l =>
    obtain ⟨f, h1, h2, c⟩ := F.counts
    exact ⟨f, _, held_of c h1 (by decide), h2, fun p b t e body H Q E a1 a2 a3 a4 a5 a6 a7 a8 a9 q => ⟨p, b, t, e, _, body, rfl, ⟨l, rfl⟩, a1, a2, a3, a4, a5, a6, a7, a8, a9, q⟩⟩
  | ranks =>
    obtain ⟨f, h1, h2, c⟩ := F.ranks
    exact ⟨f, _, held_of c h1 (by decide), h2, fun p b t e body H Q E a1 a2 a3 a4 a5 a6 a7 a8 a9 q => ⟨p, b, t, e, _, body, rfl, rfl, a1, a2, a3, a4, a5, a6, a7, a8, a9, q⟩⟩
def spFrameW (K : PySem.W.Frag) : Sp := fun vs H Q _ => ∃ (v : V) (b : Addr) (wy : Way) (body : List Int), vs = [v, .ref b] ∧ WayAt K H v wy ∧ wy.Ok ∧ SqL K H b (body.map V.int) ∧ (∀ x ∈ body, 0 ≤ x ∧ x < wy.t) ∧ body.length ≤ 200 ∧
  ∀ q H', H q = none → Same H H' → H' q = some (.lst ((frameW wy body).map V.int)) → Q (.ref q) H'
def spExch (K : PySem.W.Frag) : Sp := fun vs H Q _ => ∃ (l b : Addr) (tas : List (Addr × List Int)) (t : Int) (body : List Int), vs = [.ref l, .ref b] ∧ SqL K H l (tas.map fun a => .ref a.1) ∧ (∀ a ∈ tas, SqT K H a.1 (a.2.map V.int)) ∧ tas.length ≤ 3 ∧ (∀ p ∈ tas.map (·.2), p.Perm (countL t)) ∧ t ≤ 16 ∧
  SqL K H b (body.map V.int) ∧ (∀ x ∈ body, 0 ≤ x ∧ x < t) ∧ body.length ≤ 1000 ∧ ∀ q H', Same H H' → SqL K H' q ((turnL (tas.map (·.2)) body).map V.int) → Q (.ref q) H'
end
end Esc

namespace Esc
open PySem PySem.Spec PyProof.Rows L2
theorem cut_mid (xs : List V) (a b : Nat) (h : a ≤ b) : cutV xs (some (a : Int)) (some (b : Int)) = (xs.drop a).take (b - a) := by
  unfold cutV
  rw [HT.sIx_nat, HT.sIx_nat]
  by_cases ha : a ≤ xs.length
  · rw [Nat.min_eq_left ha]
    by_cases hb : b ≤ xs.length
    · rw [Nat.min_eq_left hb]
    · rw [Nat.min_eq_right (by omega), List.take_of_length_le (by rw [List.length_drop]; exact Nat.le_refl _), List.take_of_length_le (by rw [List.length_drop]; omega)]
  · rw [Nat.min_eq_right (by omega), Nat.min_eq_right (by omega), Nat.sub_self, List.drop_of_length_le (by omega), List.drop_of_length_le (by omega)]
    simp
/-- rows, each behind an end -/
def JT (e : Int) (rs : List (List Int)) : List Int := rs.flatMap fun r => e :: r
theorem JT_cons (e : Int) (r : List Int) (rs : List (List Int)) : JT e (r :: rs) = e :: (r ++ JT e rs) := by
  unfold JT
  rw [List.flatMap_cons]
  rfl
theorem JT_rows (e : Int) (body : List Int) : JT e (rowsB e body) = e :: body := by
  have : ∀ n, n ≤ body.length → JT e (rowsB e (body.take n)) = e :: body.take n := fun n => by
    induction n with
    | zero => intro _; rfl
    | succ n ih =>
      intro h
      have hx : body[n]? = some body[n] := List.getElem?_eq_getElem (by omega)
      obtain ⟨rs, ls, h1, _⟩ := rowsB_sum e body n (by omega)
      have ih := ih (by omega)
      rw [h1] at ih
      rw [take_succ' hx, rowsB_snoc, h1]
      by_cases c : body[n] = e
      · rw [c, stepR_end]
        unfold JT at ih ⊢
        rw [List.flatMap_append, ih]
        rfl
      · rw [stepR_in c]
        unfold JT at ih ⊢
        rw [List.flatMap_append, List.flatMap_cons, List.flatMap_nil, List.append_nil] at ih ⊢
        rw [← List.cons_append, ← List.append_assoc, ih]
        rfl
  have z := this body.length (Nat.le_refl _)
  rw [List.take_length] at z
  exact z
/-- all groups of rows -/
def full (cn : List Int) (w : Nat) (rs : List (List Int)) : List Int := rs.flatMap (groupB cn w)
theorem full_cons (cn : List Int) (w : Nat) (r : List Int) (rs : List (List Int)) : full cn w (r :: rs) = groupB cn w r ++ full cn w rs := by
  unfold full
  rw [List.flatMap_cons]
theorem groupB_pos (cn : List Int) (w : Nat) (r : List Int) : 0 < (groupB cn w r).length := by
  rw [groupB]
  split <;> simp
theorem full_pos (cn : List Int) (w : Nat) {rs : List (List Int)} (h : rs ≠ []) : 0 < (full cn w rs).length := by
  cases rs with
  | nil => exact absurd rfl h
  | cons r rs =>
    rw [full_cons, List.length_append]
    have := groupB_pos cn w r
    omega
theorem groupB_ge {cn : List Int} {w : Nat} (h0 : 0 < w) : ∀ (n : Nat) (row : List Int), row.length = n → row.length + 1 ≤ (groupB cn w row).length := by
  intro n
  induction n using Nat.strongRecOn with
  | ind n ih =>
    intro row hn
    by_cases h : w ≤ row.length
    · have z := ih (row.length - w) (by omega) (row.drop w) (List.length_drop ..)
      rw [List.length_drop] at z
      rw [groupB_more h0 h, List.length_cons, List.length_append, List.length_take]
      omega
    · rw [groupB_last (by omega), List.length_cons]
      omega
/-- the last of these rows is not empty, where something is left out -/
def Dg (D : Bool) (rs : List (List Int)) : Prop := D = true → rs ≠ [] → rs.getLastD [] ≠ []
theorem Dg.tl {D : Bool} {cur : List Int} {rest : List (List Int)} (h : Dg D (cur :: rest)) : Dg D rest := fun d n => by
  cases rest with
  | nil => exact absurd rfl n
  | cons r rest => exact h d (by simp)
/-- a row of whole groups ends with the sign of none -/
theorem groupB_end {cn : List Int} {w : Nat} (h0 : 0 < w) : ∀ (n : Nat) (row : List Int), row.length = n → row.length % w = 0 → ∃ pre, groupB cn w row = pre ++ [cn.getD 0 0] := by
  intro n
  induction n using Nat.strongRecOn with
  | ind n ih =>
    intro row hn hm
    by_cases h : w ≤ row.length
    · obtain ⟨pre, hp⟩ := ih (row.length - w) (by omega) (row.drop w) (List.length_drop ..) (by
        rw [List.length_drop]
        rw [← Nat.mod_eq_sub_mod h]
        exact hm)
      exact ⟨cn.getD w 0 :: (row.take w ++ pre), by rw [groupB_more h0 h, hp, List.cons_append, List.append_assoc]⟩
    · have z : row.length = 0 := by
        rw [Nat.mod_eq_of_lt (by omega)] at hm
        exact hm
      rw [List.length_eq_zero_iff] at z
      subst z
      exact ⟨[], by rw [groupB_last (by simpa using h0)]; rfl⟩
/-- what is left out at the end -/
def tailD (cn : List Int) (D : Bool) : List Int := if D = true then [cn.getD 0 0] else []
theorem cntB_full {t e l : Int} (hl2 : 2 ≤ l) (body : List Int) : ∃ D : Bool, cntB t e l body ++ tailD ((plainL t e).take l.toNat) D = full ((plainL t e).take l.toNat) (l.toNat - 1) (rowsB e body) ∧ (D = true → ((rowsB e body).getLastD []).length % (l.toNat - 1) = 0) ∧ (D = true → (rowsB e body).getLastD [] ≠ []) := by
  obtain ⟨rs, ls, hrows, _⟩ := rowsB_all e body
  have hlast : (rowsB e body).getLastD [] = ls := by rw [hrows, List.getLastD_concat]
  by_cases h : ls ≠ [] ∧ ls.length % (l.toNat - 1) = 0
  · refine ⟨true, ?_, fun _ => by rw [hlast]; exact h.2, fun _ => by rw [hlast]; exact h.1⟩
    obtain ⟨pre, hp⟩ := groupB_end (cn := (plainL t e).take l.toNat) (w := l.toNat - 1) (by omega) _ ls rfl h.2
    unfold cntB
    dsimp only
    rw [hlast, if_pos h]
    unfold full tailD
    rw [if_pos rfl, hrows, List.flatMap_append, List.flatMap_cons, List.flatMap_nil, List.append_nil, hp, ← List.append_assoc, List.dropLast_concat]
  · refine ⟨false, ?_, fun z => absurd z Bool.false_ne_true, fun z => absurd z Bool.false_ne_true⟩
    unfold cntB
    dsimp only
    rw [hlast, if_neg h]
    unfold full tailD
    rw [if_neg Bool.false_ne_true, List.append_nil]
theorem tailD_len (cn : List Int) (D : Bool) : (tailD cn D).length ≤ 1 := by
  unfold tailD
  split <;> simp
/-- one group, read -/
theorem read_group {cn : List Int} {w : Nat} {D : Bool} {cur : List Int} {rest : List (List Int)} {x : Int} {suf : List Int} (h0 : 0 < w) (h : (x :: suf) ++ tailD cn D = full cn w (cur :: rest)) (hD : D = true → ((cur :: rest).getLastD []).length % w = 0) :
    ∃ i, i ≤ w ∧ x = cn.getD i 0 ∧ ((i = w ∧ w ≤ cur.length ∧ suf.take i = cur.take w ∧ suf.drop i ++ tailD cn D = full cn w (cur.drop w :: rest) ∧ (D = true → ((cur.drop w :: rest).getLastD []).length % w = 0)) ∨
      (i < w ∧ i = cur.length ∧ suf.take i = cur ∧ suf.drop i ++ tailD cn D = full cn w rest ∧ (D = true → (rest.getLastD []).length % w = 0))) := by
  have tl := tailD_len cn D
  rw [full_cons] at h
  by_cases hw : w ≤ cur.length
  · rw [groupB_more h0 hw, List.cons_append, List.cons_append] at h
    obtain ⟨hx, hs⟩ := List.cons.inj h
    refine ⟨w, Nat.le_refl _, hx, .inl ⟨rfl, hw, ?_⟩⟩
    have lt : (cur.take w).length = w := by
      rw [List.length_take]
      omega
    have gp := groupB_pos cn w (cur.drop w)
    have ls : w ≤ suf.length := by
      have z := congrArg List.length hs
      rw [List.length_append, List.length_append, List.length_append, lt] at z
      omega
    have e1 : suf.take w = cur.take w := by
      have z := congrArg (List.take w) hs
      rw [List.take_append_of_le_length ls, List.append_assoc, List.take_append_of_le_length (Nat.le_of_eq lt.symm), List.take_of_length_le (Nat.le_of_eq lt)] at z
      exact z
    refine ⟨e1, ?_, fun d => ?_⟩
    · have z := congrArg (List.drop w) hs
      rw [List.drop_append_of_le_length ls, List.append_assoc, List.drop_append_of_le_length (Nat.le_of_eq lt.symm), List.drop_of_length_le (Nat.le_of_eq lt), List.nil_append] at z
      rw [full_cons]
      exact z
    · have z := hD d
      cases rest with
      | nil =>
        show (cur.drop w).length % w = 0
        have z : cur.length % w = 0 := z
        rw [List.length_drop, ← Nat.mod_eq_sub_mod hw]
        exact z
      | cons r rest => exact z
  · rw [groupB_last (by omega), List.cons_append, List.cons_append] at h
    obtain ⟨hx, hs⟩ := List.cons.inj h
    refine ⟨cur.length, by omega, hx, .inr ⟨by omega, rfl, ?_⟩⟩
    have ls : cur.length ≤ suf.length := by
      have z := congrArg List.length hs
      rw [List.length_append, List.length_append] at z
      cases rest with
      | nil =>
        by_cases d : D = true
        · have y : cur.length % w = 0 := hD d
          rw [Nat.mod_eq_of_lt (by omega)] at y
          omega
        · unfold tailD at z
          rw [if_neg d, List.length_nil] at z
          omega
      | cons r rest =>
        have := full_pos cn w (rs := r :: rest) (by simp)
        omega
    refine ⟨?_, ?_, fun d => ?_⟩
    · have z := congrArg (List.take cur.length) hs
      rw [List.take_append_of_le_length ls, List.take_append_of_le_length (Nat.le_refl _), List.take_length] at z
      exact z
    · have z := congrArg (List.drop cur.length) hs
      rw [List.drop_append_of_le_length ls, List.drop_append_of_le_length (Nat.le_refl _), List.drop_length, List.nil_append] at z
      exact z
    · cases rest with
      | nil => exact Nat.zero_mod _
      | cons r rest => exact hD d
end Esc

namespace Esc
open PySem PySem.Spec PyProof.Rows L2
theorem rows_plain {t e : Int} {body : List Int} (h : ∀ x ∈ body, 0 ≤ x ∧ x < t) : ∀ row ∈ rowsB e body, ∀ x ∈ row, Plain t e x := by
  have : ∀ n, n ≤ body.length → ∀ row ∈ rowsB e (body.take n), ∀ x ∈ row, Plain t e x := fun n => by
    induction n with
    | zero =>
      intro _ row hr x hx
      rw [List.take_zero] at hr
      rw [List.mem_singleton.mp hr] at hx
      cases hx
    | succ n ih =>
      intro hn row hr x hx
      have hb : body[n]? = some body[n] := List.getElem?_eq_getElem (by omega)
      obtain ⟨rs, ls, h1, _⟩ := rowsB_sum e body n (by omega)
      have ih := ih (by omega)
      rw [h1] at ih
      rw [take_succ' hb, rowsB_snoc, h1] at hr
      by_cases c : body[n] = e
      · rw [c, stepR_end] at hr
        rcases List.mem_append.mp hr with m | m
        · exact ih row m x hx
        · rw [List.mem_singleton.mp m] at hx
          cases hx
      · rw [stepR_in c] at hr
        rcases List.mem_append.mp hr with m | m
        · exact ih row (List.mem_append_left _ m) x hx
        · rw [List.mem_singleton.mp m] at hx
          rcases List.mem_append.mp hx with m | m
          · exact ih ls (List.mem_append_right _ (List.mem_singleton.mpr rfl)) x m
          · rw [List.mem_singleton.mp m]
            have z := h body[n] (List.getElem_mem _)
            exact ⟨z.1, z.2, c⟩
  have z := this body.length (Nat.le_refl _)
  rw [List.take_length] at z
  exact z
theorem group_plain {t e : Int} {cn : List Int} {w : Nat} (h0 : 0 < w) (hc : cn.length = w + 1) (hp : ∀ x ∈ cn, Plain t e x) : ∀ (n : Nat) (row : List Int), row.length = n → (∀ x ∈ row, Plain t e x) → ∀ x ∈ groupB cn w row, Plain t e x := by
  have at_ : ∀ i, i ≤ w → Plain t e (cn.getD i 0) := fun i hi => by
    rw [List.getD_eq_getElem?_getD, List.getElem?_eq_getElem (by omega)]
    exact hp _ (List.getElem_mem _)
  intro n
  induction n using Nat.strongRecOn with
  | ind n ih =>
    intro row hn hr x hx
    by_cases h : w ≤ row.length
    · rw [groupB_more h0 h] at hx
      rcases List.mem_cons.mp hx with rfl | m
      · exact at_ w (Nat.le_refl _)
      · rcases List.mem_append.mp m with m | m
        · exact hr x (List.mem_of_mem_take m)
        · exact ih (row.length - w) (by omega) (row.drop w) (List.length_drop ..) (fun y hy => hr y (List.mem_of_mem_drop hy)) x m
    · rw [groupB_last (by omega)] at hx
      rcases List.mem_cons.mp hx with rfl | m
      · exact at_ _ (by omega)
      · exact hr x m
theorem rowOf_plain {t e : Int} {k : Kind} (ok : KindOk t e k) (h3 : 3 ≤ t) (h16 : t ≤ 16) (h0 : 0 ≤ e) (h1 : e < t) {body : List Int} (h : ∀ x ∈ body, 0 ≤ x ∧ x < t) : ∀ x ∈ rowOf t e k body, Plain t e x := by
  intro x hx
  cases k with
  | codes cs =>
    obtain ⟨y, hy, m⟩ := List.mem_flatMap.mp (show x ∈ codesB cs body from hx)
    rw [List.getD_eq_getElem?_getD] at m
    cases e1 : cs[y.toNat]? with
    | none =>
      rw [e1] at m
      cases m
    | some c =>
      rw [e1] at m
      exact (ok.2.1 c (List.mem_of_getElem? e1)).2.2 x m
  | escapes mk prs =>
    obtain ⟨hm, hw, hr0, he1, hm1, hcp, hcn⟩ := ok
    obtain ⟨y, hy, m⟩ := List.mem_flatMap.mp (show x ∈ escB mk prs body from hx)
    cases el : look prs y with
    | some c =>
      rw [escS_some el] at m
      rcases List.mem_cons.mp m with rfl | m
      · exact hm
      · rw [List.mem_singleton.mp m]
        exact hcp c (List.mem_map.mpr ⟨(y, c), look_some el, rfl⟩)
    | none =>
      rw [escS_none el] at m
      rw [List.mem_singleton.mp m]
      have z := h y hy
      refine ⟨z.1, z.2, fun q => ?_⟩
      subst q
      obtain ⟨pc, hpc, e2⟩ := List.mem_map.mp he1
      have hnf : (prs.map (·.1)).Nodup := hw.imp fun h => by omega
      have zz := look_mem hnf hpc
      rw [e2, el] at zz
      cases zz
  | counts l =>
    obtain ⟨hl2, hlt⟩ := ok
    have np := plain_len h0 h1
    have lcn : ((plainL t e).take l.toNat).length = (l.toNat - 1) + 1 := by
      rw [List.length_take]
      omega
    have m : x ∈ full ((plainL t e).take l.toNat) (l.toNat - 1) (rowsB e body) := by
      obtain ⟨D, hf, _⟩ := cntB_full (t := t) (e := e) hl2 body
      rw [← hf]
      exact List.mem_append_left _ hx
    obtain ⟨row, hrow, m⟩ := List.mem_flatMap.mp m
    exact group_plain (by omega) lcn (fun y hy => plain_mem.mp (List.mem_of_mem_take hy)) _ row rfl (rows_plain h row hrow) x m
  | ranks => exact plain_mem.mp (rowR_mem h3 h0 h1 body x hx)
theorem frameW_in {wy : Way} (ok : wy.Ok) {body : List Int} (h : ∀ x ∈ body, 0 ≤ x ∧ x < wy.t) : ∀ x ∈ frameW wy body, 0 ≤ x ∧ x < wy.t := fun x hx => by
  rcases List.mem_append.mp hx with m | m
  · have z := rowOf_plain ok.kind ok.t3 ok.t16 ok.e0 ok.e1 (turnL_ok wy.ts ok.perm body h).1 x m
    exact ⟨z.1, z.2.1⟩
  · rw [List.mem_singleton.mp m]
    exact ⟨ok.e0, ok.e1⟩
theorem frameW_count {wy : Way} (ok : wy.Ok) {body : List Int} (h : ∀ x ∈ body, 0 ≤ x ∧ x < wy.t) : (frameW wy body).count wy.e = 1 := by
  unfold frameW
  rw [List.count_append, List.count_eq_zero_of_not_mem (fun m => (rowOf_plain ok.kind ok.t3 ok.t16 ok.e0 ok.e1 (turnL_ok wy.ts ok.perm body h).1 _ m).2.2 rfl)]
  simp
theorem frameW_len {wy : Way} (ok : wy.Ok) {body : List Int} (h : ∀ x ∈ body, 0 ≤ x ∧ x < wy.t) : (frameW wy body).length ≤ 5 * body.length + 2 := by
  obtain ⟨tin, tlen⟩ := turnL_ok wy.ts ok.perm body h
  have z := rowOf_len ok.kind ok.t3 ok.t16 ok.e0 ok.e1 tin
  unfold frameW
  rw [List.length_append, List.length_singleton]
  omega
/-- exchanged back -/
theorem turn_back {t : Int} {p body : List Int} (hp : p.Perm (countL t)) (h : ∀ x ∈ body, 0 ≤ x ∧ x < t) : (turnS p body).map (fun x => ((p.idxOf x : Nat) : Int)) = body := by
  unfold turnS
  rw [List.map_map]
  conv => rhs; rw [← List.map_id body]
  refine List.map_congr_left fun x hx => ?_
  have z := h x hx
  have lp := hp.length_eq
  rw [count_len] at lp
  have hl : x.toNat < p.length := by omega
  show ((p.idxOf (p.getD x.toNat 0) : Nat) : Int) = x
  rw [List.getD_eq_getElem?_getD, List.getElem?_eq_getElem hl]
  show ((p.idxOf p[x.toNat] : Nat) : Int) = x
  rw [List.Nodup.idxOf_getElem (hp.nodup_iff.mpr (count_nodup t)) _ hl]
  omega
end Esc

/-! What lists of signs are the frames of: reading, as the program goes. -/
namespace Esc
open PySem PySem.Spec PyProof.Rows L2
/-! ### escapes -/
def escR (m : Int) (sw : List (Int × Int)) : Bool → List Int → Option (List Int)
  | false, [] => some []
  | true, [] => none
  | true, x :: r => match look sw x with
    | none => none
    | some s => (escR m sw false r).map (s :: ·)
  | false, x :: r => if x = m then escR m sw true r else (escR m sw false r).map (x :: ·)
theorem escR_t {m : Int} {sw : List (Int × Int)} {x s : Int} {r : List Int} (h : look sw x = some s) : escR m sw true (x :: r) = (escR m sw false r).map (s :: ·) := by
  rw [escR, h]
theorem escR_tn {m : Int} {sw : List (Int × Int)} {x : Int} {r : List Int} (h : look sw x = none) : escR m sw true (x :: r) = none := by
  rw [escR, h]
theorem escR_m {m : Int} {sw : List (Int × Int)} {r : List Int} : escR m sw false (m :: r) = escR m sw true r := by
  rw [escR, if_pos rfl]
theorem escR_f {m : Int} {sw : List (Int × Int)} {x : Int} {r : List Int} (h : x ≠ m) : escR m sw false (x :: r) = (escR m sw false r).map (x :: ·) := by
  rw [escR, if_neg h]
theorem escR_escB {m : Int} {prs : List (Int × Int)} (hnf : (prs.map (·.1)).Nodup) (hcn : (prs.map (·.2)).Nodup) (hm : m ∈ prs.map (·.1)) : ∀ body : List Int, escR m (swp prs) false (escB m prs body) = some body
  | [] => rfl
  | x :: body => by
    have ih := escR_escB hnf hcn hm body
    rw [escB_cons]
    cases el : look prs x with
    | some c =>
      rw [escS_some el]
      show escR m (swp prs) false (m :: c :: escB m prs body) = _
      rw [escR_m, escR_t (swp_look hcn el), ih]
      rfl
    | none =>
      rw [escS_none el]
      show escR m (swp prs) false (x :: escB m prs body) = _
      have ne : x ≠ m := fun z => by
        subst z
        obtain ⟨pc, hpc, e1⟩ := List.mem_map.mp hm
        have zz := look_mem hnf hpc
        rw [e1, el] at zz
        cases zz
      rw [escR_f ne, ih]
      rfl
theorem look_mem2 {l : List (Int × Int)} {x y : Int} (h : look l x = some y) : y ∈ l.map (·.2) := List.mem_map.mpr ⟨(x, y), look_some h, rfl⟩
theorem swp_snd (prs : List (Int × Int)) : (swp prs).map (·.2) = prs.map (·.1) := by
  unfold swp
  rw [List.map_map]
  rfl
theorem escR_in {t m : Int} {sw : List (Int × Int)} (hs : ∀ s ∈ sw.map (·.2), 0 ≤ s ∧ s < t) : ∀ (row : List Int) (mk : Bool) (b : List Int), (∀ x ∈ row, 0 ≤ x ∧ x < t) → escR m sw mk row = some b → (∀ x ∈ b, 0 ≤ x ∧ x < t) ∧ b.length ≤ row.length
  | [], false, b, _, h => by
    cases h
    exact ⟨fun x hx => (by cases hx), Nat.le_refl _⟩
  | [], true, b, _, h => by cases h
  | x :: r, true, b, hr, h => by
    cases el : look sw x with
    | none =>
      rw [escR_tn el] at h
      cases h
    | some s =>
      rw [escR_t el] at h
      cases e : escR m sw false r with
      | none =>
        rw [e] at h
        cases h
      | some b1 =>
        rw [e] at h
        cases h
        obtain ⟨h1, h2⟩ := escR_in hs r false b1 (fun y m => hr y (List.mem_cons_of_mem _ m)) e
        refine ⟨fun y hy => ?_, Nat.succ_le_succ h2⟩
        rcases List.mem_cons.mp hy with rfl | m
        · exact hs _ (look_mem2 el)
        · exact h1 y m
  | x :: r, false, b, hr, h => by
    by_cases c : x = m
    · subst c
      rw [escR_m] at h
      obtain ⟨h1, h2⟩ := escR_in hs r true b (fun y m => hr y (List.mem_cons_of_mem _ m)) h
      exact ⟨h1, Nat.le_succ_of_le h2⟩
    · rw [escR_f c] at h
      cases e : escR m sw false r with
      | none =>
        rw [e] at h
        cases h
      | some b1 =>
        rw [e] at h
        cases h
        obtain ⟨h1, h2⟩ := escR_in hs r false b1 (fun y m => hr y (List.mem_cons_of_mem _ m)) e
        refine ⟨fun y hy => ?_, Nat.succ_le_succ h2⟩
        rcases List.mem_cons.mp hy with rfl | m
        · exact hr _ List.mem_cons_self
        · exact h1 y m
/-! ### codes -/
def codR (cs : List (List Int)) : List Int → List Int → Option (List Int)
  | bs, [] => if bs = [] then some [] else none
  | bs, x :: r => if bs ++ [x] ∈ cs then (codR cs [] r).map (((cs.idxOf (bs ++ [x]) : Nat) : Int) :: ·) else codR cs (bs ++ [x]) r
theorem codR_hit {cs : List (List Int)} {bs r : List Int} {x : Int} (h : bs ++ [x] ∈ cs) : codR cs bs (x :: r) = (codR cs [] r).map (((cs.idxOf (bs ++ [x]) : Nat) : Int) :: ·) := by
  rw [codR, if_pos h]
theorem codR_miss {cs : List (List Int)} {bs r : List Int} {x : Int} (h : bs ++ [x] ∉ cs) : codR cs bs (x :: r) = codR cs (bs ++ [x]) r := by
  rw [codR, if_neg h]
theorem codR_end {cs : List (List Int)} {bs : List Int} (h : bs ≠ []) : codR cs bs [] = none := by
  rw [codR, if_neg h]
theorem codR_one {cs : List (List Int)} (hap : cs.Pairwise fun a b => ¬ a <+: b ∧ ¬ b <+: a) {j : Nat} {c : List Int} (hj : cs[j]? = some c) : ∀ (suf bs rest : List Int), suf ≠ [] → bs ++ suf = c → codR cs bs (suf ++ rest) = (codR cs [] rest).map ((j : Int) :: ·)
  | [], _, _, h, _ => absurd rfl h
  | x :: suf, bs, rest, _, h => by
    have hnd : cs.Nodup := hap.imp fun {a b} hab z => hab.1 (by rw [z]; exact List.prefix_refl _)
    obtain ⟨g1, g2⟩ := List.getElem?_eq_some_iff.mp hj
    show codR cs bs (x :: (suf ++ rest)) = _
    by_cases hs : suf = []
    · subst hs
      have m : bs ++ [x] ∈ cs := by
        rw [h]
        exact List.mem_of_getElem? hj
      rw [codR_hit m, h, ← g2, List.Nodup.idxOf_getElem hnd _ g1]
      rfl
    · have h2 : (bs ++ [x]) ++ suf = c := by
        rw [List.append_assoc]
        exact h
      have hno : bs ++ [x] ∉ cs := fun m => by
        obtain ⟨i, hi, ei⟩ := List.getElem_of_mem m
        have pre : cs[i] <+: cs[j] := by
          rw [ei, g2]
          exact ⟨suf, h2⟩
        have nj : i ≠ j := fun q => by
          subst q
          rw [g2] at ei
          have z := congrArg List.length h2
          rw [← ei, List.length_append] at z
          exact hs (List.length_eq_zero_iff.mp (by omega))
        rcases Nat.lt_or_gt_of_ne nj with q | q
        · exact (List.pairwise_iff_getElem.mp hap i j hi g1 q).1 pre
        · exact (List.pairwise_iff_getElem.mp hap j i g1 hi q).2 pre
      rw [codR_miss hno]
      exact codR_one hap hj suf (bs ++ [x]) rest hs h2
theorem codesB_cons' (cs : List (List Int)) (x : Int) (body : List Int) : codesB cs (x :: body) = cs.getD x.toNat [] ++ codesB cs body := by
  unfold codesB
  rw [List.flatMap_cons]
theorem codR_codesB {t e : Int} {cs : List (List Int)} (ok : CodesOk t e cs) (hl : cs.length = t.toNat) : ∀ body : List Int, (∀ x ∈ body, 0 ≤ x ∧ x < t) → codR cs [] (codesB cs body) = some body
  | [], _ => rfl
  | x :: body, h => by
    have hx := h x List.mem_cons_self
    have ih := codR_codesB ok hl body fun y m => h y (List.mem_cons_of_mem _ m)
    have hxl : x.toNat < cs.length := by omega
    have hj : cs[x.toNat]? = some cs[x.toNat] := List.getElem?_eq_getElem hxl
    have hg : cs.getD x.toNat [] = cs[x.toNat] := by
      rw [List.getD_eq_getElem?_getD, hj]
      rfl
    have h1 := (ok.1 cs[x.toNat] (List.getElem_mem hxl)).1
    rw [codesB_cons', hg, codR_one ok.2 hj cs[x.toNat] [] _ (fun z => by rw [z] at h1; exact absurd h1 (by decide)) (List.nil_append _), ih]
    show some (((x.toNat : Nat) : Int) :: body) = _
    rw [Int.toNat_of_nonneg hx.1]
theorem codR_in {t : Int} {cs : List (List Int)} (h0 : 0 ≤ t) (hl : cs.length = t.toNat) : ∀ (row bs b : List Int), codR cs bs row = some b → (∀ x ∈ b, 0 ≤ x ∧ x < t) ∧ b.length ≤ row.length
  | [], bs, b, h => by
    by_cases c : bs = []
    · subst c
      cases h
      exact ⟨fun x hx => (by cases hx), Nat.le_refl _⟩
    · rw [codR_end c] at h
      cases h
  | x :: r, bs, b, h => by
    by_cases c : bs ++ [x] ∈ cs
    · rw [codR_hit c] at h
      cases e : codR cs [] r with
      | none =>
        rw [e] at h
        cases h
      | some b1 =>
        rw [e] at h
        cases h
        obtain ⟨h1, h2⟩ := codR_in h0 hl r [] b1 e
        refine ⟨fun y hy => ?_, Nat.succ_le_succ h2⟩
        rcases List.mem_cons.mp hy with rfl | m
        · have z := List.idxOf_lt_length_of_mem c
          omega
        · exact h1 y m
    · rw [codR_miss c] at h
      obtain ⟨h1, h2⟩ := codR_in h0 hl r _ b h
      exact ⟨h1, Nat.le_succ_of_le h2⟩
/-! ### counts -/
def cntR (pl : List Int) (l e : Int) (ov : Bool) : List Int → List Int
  | [] => []
  | x :: r => (if ov = true then [e] else []) ++ (r.take (pl.idxOf x) ++ cntR pl l e (decide (((pl.idxOf x : Nat) : Int) + 1 < l)) (r.drop (pl.idxOf x)))
  termination_by row => row.length
  decreasing_by rw [List.length_drop, List.length_cons]; omega
theorem cntR_nil {pl : List Int} {l e : Int} {ov : Bool} : cntR pl l e ov [] = [] := by rw [cntR]
theorem cntR_cons {pl : List Int} {l e : Int} {ov : Bool} {x : Int} {r : List Int} : cntR pl l e ov (x :: r) = (if ov = true then [e] else []) ++ (r.take (pl.idxOf x) ++ cntR pl l e (decide (((pl.idxOf x : Nat) : Int) + 1 < l)) (r.drop (pl.idxOf x))) := by rw [cntR]
theorem cntR_in {t e l : Int} {pl : List Int} (he : 0 ≤ e ∧ e < t) : ∀ (n : Nat) (row : List Int) (ov : Bool), row.length = n → (∀ x ∈ row, 0 ≤ x ∧ x < t) → (∀ x ∈ cntR pl l e ov row, 0 ≤ x ∧ x < t) ∧ (cntR pl l e ov row).length ≤ row.length := by
  intro n
  induction n using Nat.strongRecOn with
  | ind n ih =>
    intro row ov hn hr
    cases row with
    | nil =>
      rw [cntR_nil]
      exact ⟨fun x hx => (by cases hx), Nat.le_refl _⟩
    | cons x r =>
      rw [cntR_cons]
      generalize pl.idxOf x = i
      have z := ih (r.drop i).length (by rw [List.length_drop]; rw [List.length_cons] at hn; omega) (r.drop i) (decide (((i : Nat) : Int) + 1 < l)) rfl (fun y m => hr y (List.mem_cons_of_mem _ (List.mem_of_mem_drop m)))
      refine ⟨fun y hy => ?_, ?_⟩
      · rcases List.mem_append.mp hy with m | m
        · cases ov with
          | true =>
            rw [List.mem_singleton.mp m]
            exact he
          | false => cases m
        · rcases List.mem_append.mp m with m | m
          · exact hr y (List.mem_cons_of_mem _ (List.mem_of_mem_take m))
          · exact z.1 y m
      · have z2 := z.2
        have z3 : (if ov = true then [e] else []).length ≤ 1 := by
          split <;> simp
        rw [List.length_append, List.length_append, List.length_take]
        rw [List.length_drop] at z2
        rw [List.length_cons]
        omega
theorem cntR_full {t e l : Int} (hl2 : 2 ≤ l) (hlt : l < t) (h0 : 0 ≤ e) (h1 : e < t) {D : Bool} {cn : List Int} (hcn : (plainL t e).take l.toNat = cn) : ∀ (n : Nat) (s : List Int), s.length = n → ∀ rs : List (List Int), s ++ tailD cn D = full cn (l.toNat - 1) rs → (D = true → (rs.getLastD []).length % (l.toNat - 1) = 0) →
    (Dg D rs → cntR (plainL t e) l e true s = JT e rs) ∧ (∀ cur rest, rs = cur :: rest → Dg D rest → cntR (plainL t e) l e false s = cur ++ JT e rest) := by
  have np := plain_len h0 h1
  have lcn : cn.length = (l.toNat - 1) + 1 := by
    rw [← hcn, List.length_take]
    omega
  intro n
  induction n using Nat.strongRecOn with
  | ind n ih =>
    intro s hn rs hsuf hD
    have tl := tailD_len cn D
    cases s with
    | nil =>
      rw [List.nil_append] at hsuf
      have lone : ∀ (cur : List Int) (rest : List (List Int)), tailD cn D = full cn (l.toNat - 1) (cur :: rest) → D = true ∧ cur = [] ∧ rest = [] := fun cur rest z => by
        have z2 := congrArg List.length z
        rw [full_cons, List.length_append] at z2
        have g := groupB_ge (cn := cn) (w := l.toNat - 1) (by omega) cur.length cur rfl
        refine ⟨?_, List.length_eq_zero_iff.mp (by omega), ?_⟩
        · cases D with
          | true => rfl
          | false =>
            have : (tailD cn false).length = 0 := rfl
            omega
        · cases rest with
          | nil => rfl
          | cons r rest =>
            have := full_pos cn (l.toNat - 1) (rs := r :: rest) (by simp)
            omega
      rw [cntR_nil, cntR_nil]
      refine ⟨fun g => ?_, fun cur rest h g => ?_⟩
      · cases rs with
        | nil => rfl
        | cons cur rest =>
          obtain ⟨d, e1, e2⟩ := lone cur rest hsuf
          subst e1 e2
          exact absurd rfl (g d (by simp))
      · subst h
        obtain ⟨d, e1, e2⟩ := lone cur rest hsuf
        subst e1 e2
        rfl
    | cons x r =>
      have key : ∀ cur rest, rs = cur :: rest → Dg D rest → r.take ((plainL t e).idxOf x) ++ cntR (plainL t e) l e (decide ((((plainL t e).idxOf x : Nat) : Int) + 1 < l)) (r.drop ((plainL t e).idxOf x)) = cur ++ JT e rest := fun cur rest h g => by
        subst h
        obtain ⟨i, hi, hxi, hcase⟩ := read_group (by omega) hsuf hD
        have hil : i < cn.length := by omega
        have hci : cn[i]? = some x := by
          rw [hxi, List.getD_eq_getElem?_getD, List.getElem?_eq_getElem hil]
          rfl
        have hpi : (plainL t e)[i]? = some x := by
          rw [← hcn, List.getElem?_take] at hci
          split at hci
          · exact hci
          · cases hci
        have hidx : (plainL t e).idxOf x = i := by
          obtain ⟨g1, g2⟩ := List.getElem?_eq_some_iff.mp hpi
          rw [← g2]
          exact List.Nodup.idxOf_getElem (plain_nodup t e) i g1
        rw [hidx]
        have lt : (r.drop i).length < n := by
          rw [List.length_drop]
          rw [List.length_cons] at hn
          omega
        rcases hcase with ⟨h1, h2, h3, h4, h5⟩ | ⟨h1, h2, h3, h4, h5⟩
        · rw [decide_eq_false (by omega), (ih _ lt (r.drop i) rfl _ h4 h5).2 _ _ rfl g, h3, ← List.append_assoc, List.take_append_drop]
        · rw [decide_eq_true (by omega), (ih _ lt (r.drop i) rfl _ h4 h5).1 g, h3]
      refine ⟨fun g => ?_, fun cur rest h g => ?_⟩
      · cases rs with
        | nil => cases hsuf
        | cons cur rest =>
          rw [cntR_cons, key cur rest rfl g.tl, if_pos rfl, JT_cons]
          rfl
      · rw [cntR_cons, key cur rest h g, if_neg Bool.false_ne_true]
        rfl
theorem cntR_cntB {t e l : Int} (hl2 : 2 ≤ l) (hlt : l < t) (h0 : 0 ≤ e) (h1 : e < t) (body : List Int) : cntR (plainL t e) l e false (cntB t e l body) = body := by
  obtain ⟨D, hfull, hD, hD2⟩ := cntB_full (t := t) (e := e) hl2 body
  have hjt := JT_rows e body
  cases hrs : rowsB e body with
  | nil =>
    rw [hrs] at hjt
    cases hjt
  | cons cur rest =>
    have z : Dg D (cur :: rest) := fun d _ => by
      rw [← hrs]
      exact hD2 d
    have q := (cntR_full hl2 hlt h0 h1 rfl _ _ rfl _ hfull hD).2 cur rest hrs z.tl
    rw [hrs, JT_cons] at hjt
    rw [q]
    exact (List.cons.inj hjt).2
/-! ### all sorts -/
def fromK (t e : Int) : Kind → List Int → Option (List Int)
  | .codes cs, row => codR cs [] row
  | .escapes m prs, row => escR m (swp prs) false row
  | .counts l, row => some (cntR (plainL t e) l e false row)
  | .ranks, row => some (bodyR t e row)
theorem fromK_rowOf {t e : Int} {k : Kind} (ok : KindOk t e k) (h3 : 3 ≤ t) (h0 : 0 ≤ e) (h1 : e < t) {body : List Int} (h : ∀ x ∈ body, 0 ≤ x ∧ x < t) : fromK t e k (rowOf t e k body) = some body := by
  cases k with
  | codes cs => exact codR_codesB ok.2 ok.1 body h
  | escapes m prs =>
    obtain ⟨hm, hw, hr0, he1, hm1, hcp, hcn⟩ := ok
    exact escR_escB (hw.imp fun h => by omega) hcn hm1 body
  | counts l => exact congrArg some (cntR_cntB ok.1 ok.2 h0 h1 body)
  | ranks => exact congrArg some (bodyR_rowR h3 h0 h1 h)
theorem fromK_in {t e : Int} {k : Kind} (ok : KindOk t e k) (h3 : 3 ≤ t) (h0 : 0 ≤ e) (h1 : e < t) {row b : List Int} (h : ∀ x ∈ row, Plain t e x) (q : fromK t e k row = some b) : (∀ x ∈ b, 0 ≤ x ∧ x < t) ∧ b.length ≤ row.length := by
  have h' : ∀ x ∈ row, 0 ≤ x ∧ x < t := fun x m => ⟨(h x m).1, (h x m).2.1⟩
  cases k with
  | codes cs => exact codR_in (by omega) ok.1 row [] b q
  | escapes m prs =>
    obtain ⟨hm, hw, hr0, he1, hm1, hcp, hcn⟩ := ok
    exact escR_in (by rw [swp_snd]; exact hr0) row false b h' q
  | counts l =>
    cases q
    exact cntR_in ⟨h0, h1⟩ _ row false rfl h'
  | ranks =>
    cases q
    exact ⟨bodyR_mem h3 row, bodyR_len h3 h0 h1 fun x m => plain_mem.mpr (h x m)⟩
/-! ### exchanged back -/
def backS (p b : List Int) : List Int := b.map fun x => ((p.idxOf x : Nat) : Int)
def backL (ts : List (List Int)) (b : List Int) : List Int := ts.foldr backS b
theorem backS_in {t : Int} {p b : List Int} (hp : p.Perm (countL t)) (h : ∀ x ∈ b, 0 ≤ x ∧ x < t) : ∀ x ∈ backS p b, 0 ≤ x ∧ x < t := fun x hx => by
  obtain ⟨y, hy, rfl⟩ := List.mem_map.mp hx
  have z := h y hy
  have q := List.idxOf_lt_length_of_mem (hp.symm.subset (count_mem.mpr z))
  have lp := hp.length_eq
  rw [count_len] at lp
  omega
theorem backS_len (p b : List Int) : (backS p b).length = b.length := List.length_map _
theorem turnS_backS {t : Int} {p b : List Int} (hp : p.Perm (countL t)) (h : ∀ x ∈ b, 0 ≤ x ∧ x < t) : turnS p (backS p b) = b := by
  unfold turnS backS
  rw [List.map_map]
  conv => rhs; rw [← List.map_id b]
  refine List.map_congr_left fun x hx => ?_
  have z := List.idxOf_lt_length_of_mem (hp.symm.subset (count_mem.mpr (h x hx)))
  show p.getD ((p.idxOf x : Nat) : Int).toNat 0 = x
  rw [Int.toNat_natCast, List.getD_eq_getElem?_getD, List.getElem?_eq_getElem z, Option.getD_some, List.getElem_idxOf z]
theorem backL_ok {t : Int} : ∀ (ts : List (List Int)), (∀ p ∈ ts, p.Perm (countL t)) → ∀ (b : List Int), (∀ x ∈ b, 0 ≤ x ∧ x < t) → (∀ x ∈ backL ts b, 0 ≤ x ∧ x < t) ∧ (backL ts b).length = b.length
  | [], _, b, h => ⟨h, rfl⟩
  | p :: ts, hp, b, h => by
    have z := backL_ok ts (fun q hq => hp q (List.mem_cons_of_mem _ hq)) b h
    refine ⟨backS_in (hp p List.mem_cons_self) z.1, ?_⟩
    show (backS p (backL ts b)).length = _
    rw [backS_len, z.2]
theorem turnL_backL {t : Int} : ∀ (ts : List (List Int)), (∀ p ∈ ts, p.Perm (countL t)) → ∀ (b : List Int), (∀ x ∈ b, 0 ≤ x ∧ x < t) → turnL ts (backL ts b) = b
  | [], _, b, h => rfl
  | p :: ts, hp, b, h => by
    have hp' := fun q hq => hp q (List.mem_cons_of_mem p hq)
    have z := backL_ok ts hp' b h
    show turnL ts (turnS p (backS p (backL ts b))) = b
    rw [turnS_backS (hp p List.mem_cons_self) z.1]
    exact turnL_backL ts hp' b h
theorem backL_turnL {t : Int} : ∀ (ts : List (List Int)), (∀ p ∈ ts, p.Perm (countL t)) → ∀ (b : List Int), (∀ x ∈ b, 0 ≤ x ∧ x < t) → backL ts (turnL ts b) = b
  | [], _, b, h => rfl
  | p :: ts, hp, b, h => by
    have hp' := fun q hq => hp q (List.mem_cons_of_mem p hq)
    have hpp := hp p List.mem_cons_self
    show backS p (backL ts (turnL ts (turnS p b))) = b
    rw [backL_turnL ts hp' (turnS p b) (turnS_in hpp h)]
    exact turn_back hpp h
/-! ### how long frames are -/
theorem rank_up3 {m : Nat} (hm : 3 ≤ m) : ∀ (k : Nat) (ds : List Nat), ds.length = k → 3 ^ k ≤ 2 * rankD m ds + 1
  | 0, [], _ => Nat.le_refl _
  | k + 1, ds, hk => by
    have hne : ds ≠ [] := fun e => by
      rw [e] at hk
      cases hk
    have e := List.dropLast_concat_getLast hne
    have ih := rank_up3 hm k ds.dropLast (by rw [List.length_dropLast, hk]; rfl)
    rw [← e, rankD_snoc, Nat.pow_succ]
    have m1 : rankD m ds.dropLast * 3 ≤ rankD m ds.dropLast * m := Nat.mul_le_mul_left _ hm
    omega
theorem row_short4 {m n : Nat} (hm : 2 ≤ m) (hmn : n = m + 1) (hn : n ≤ 16) {ds : List Nat} (h : ∀ d ∈ ds, d < n) : (rowD m (rankD n ds)).length ≤ 4 * ds.length := by
  have a := rank_up ds.length ds rfl h
  by_cases c : m = 2
  · have b := rank_down hm (rowD m (rankD n ds)).length (rowD m (rankD n ds)) rfl
    rw [rank_row] at b
    have d : (n + 1) ^ ds.length = 2 ^ (2 * ds.length) := by
      rw [Nat.pow_mul, hmn, c]
    rw [d] at a
    have z := (Nat.pow_le_pow_iff_right (by decide : 1 < 2)).mp (Nat.le_trans b a)
    omega
  · have b := rank_up3 (m := m) (by omega) (rowD m (rankD n ds)).length (rowD m (rankD n ds)) rfl
    rw [rank_row] at b
    cases hk : ds.length with
    | zero =>
      have z : ds = [] := List.length_eq_zero_iff.mp hk
      rw [z]
      show (rowD m 0).length ≤ _
      rw [rowD_zero]
      exact Nat.le_refl _
    | succ k =>
      rw [hk] at a
      have d : (n + 1) ^ (k + 1) ≤ 27 ^ (k + 1) := Nat.pow_le_pow_left (by omega) _
      have e : (27 : Nat) ^ (k + 1) = 3 ^ (3 * (k + 1)) := by
        rw [Nat.pow_mul]
      rw [e] at d
      have f : (3 : Nat) ^ (rowD m (rankD n ds)).length < 3 ^ (3 * (k + 1) + 1) := by
        rw [Nat.pow_succ]
        omega
      have z := (Nat.pow_lt_pow_iff_right (by decide : 1 < 3)).mp f
      omega
theorem rowR_len4 {t e : Int} (h3 : 3 ≤ t) (h16 : t ≤ 16) (h0 : 0 ≤ e) (h1 : e < t) {body : List Int} (h : ∀ n ∈ body, 0 ≤ n ∧ n < t) : (rowR t e body).length ≤ 4 * body.length := by
  have np := plain_len h0 h1
  unfold rowR letters
  rw [List.length_map]
  have z := row_short4 (m := (plainL t e).length) (n := t.toNat) (by omega) (by omega) (by omega) (ds := digits (countL t) body) (fun d hd => by
    rw [← count_len]
    exact digits_lt (fun x hx => count_mem.mpr (h x hx)) d hd)
  unfold digits at z ⊢
  rw [List.length_map] at z
  exact z
theorem rowOf_len4 {t e : Int} {k : Kind} (ok : KindOk t e k) (h3 : 3 ≤ t) (h16 : t ≤ 16) (h0 : 0 ≤ e) (h1 : e < t) {body : List Int} (h : ∀ x ∈ body, 0 ≤ x ∧ x < t) (hl : body.length ≤ 60) : (rowOf t e k body).length ≤ 240 := by
  cases k with
  | codes cs =>
    have z := codesB_len (fun c hc => (ok.2.1 c hc).2.1) body
    show (codesB cs body).length ≤ _
    omega
  | escapes m prs =>
    have z := escB_len m prs body
    show (escB m prs body).length ≤ _
    omega
  | counts l =>
    have z := cntB_len (t := t) (e := e) ok.1 body
    show (cntB t e l body).length ≤ _
    omega
  | ranks =>
    have z := rowR_len4 h3 h16 h0 h1 h
    show (rowR t e body).length ≤ _
    omega
theorem frameW_len4 {wy : Way} (ok : wy.Ok) {body : List Int} (h : ∀ x ∈ body, 0 ≤ x ∧ x < wy.t) (hl : body.length ≤ 60) : (frameW wy body).length ≤ 241 := by
  obtain ⟨tin, tlen⟩ := turnL_ok wy.ts ok.perm body h
  have z := rowOf_len4 ok.kind ok.t3 ok.t16 ok.e0 ok.e1 tin (by omega)
  unfold frameW
  rw [List.length_append, List.length_singleton]
  omega
/-! ### reading -/
def isFr (e : Int) (ns : List Int) : Prop := ns.length ≤ 241 ∧ ns.count e = 1 ∧ ns.getLast? = some e
instance {e : Int} {ns : List Int} : Decidable (isFr e ns) := by unfold isFr; exact inferInstance
def readW (wy : Way) (ns : List Int) : Option (List Int) :=
  if isFr wy.e ns then
    match fromK wy.t wy.e wy.k ns.dropLast with
    | none => none
    | some b => if b.length ≤ 60 ∧ frameW wy (backL wy.ts b) = ns then some (backL wy.ts b) else none
  else none
theorem isFr_plain {t e : Int} {ns : List Int} (h : isFr e ns) (hn : ∀ x ∈ ns, 0 ≤ x ∧ x < t) : ns = ns.dropLast ++ [e] ∧ ∀ x ∈ ns.dropLast, Plain t e x := by
  obtain ⟨_, hc, hl⟩ := h
  have hne : ns ≠ [] := fun z => by
    rw [z] at hl
    cases hl
  have e1 := List.dropLast_concat_getLast hne
  have e2 : ns.getLast hne = e := by
    rw [List.getLast?_eq_some_getLast hne] at hl
    exact Option.some.inj hl
  rw [e2] at e1
  refine ⟨e1.symm, fun x hx => ?_⟩
  have z := hn x (mem_dl hx)
  refine ⟨z.1, z.2, fun q => ?_⟩
  subst q
  rw [← e1, List.count_append] at hc
  have z2 := List.count_pos_iff.mpr hx
  simp at hc
  omega
theorem readW_some {wy : Way} (ok : wy.Ok) {ns b : List Int} (hn : ∀ x ∈ ns, 0 ≤ x ∧ x < wy.t) (h : readW wy ns = some b) : frameW wy b = ns ∧ (∀ x ∈ b, 0 ≤ x ∧ x < wy.t) ∧ b.length ≤ 60 := by
  unfold readW at h
  split at h
  · rename_i hf
    split at h
    · cases h
    · rename_i b1 e1
      split at h
      · rename_i hb
        cases h
        obtain ⟨_, hp⟩ := isFr_plain hf hn
        obtain ⟨i1, i2⟩ := fromK_in ok.kind ok.t3 ok.e0 ok.e1 hp e1
        obtain ⟨j1, j2⟩ := backL_ok wy.ts ok.perm b1 i1
        exact ⟨hb.2, j1, by omega⟩
      · cases h
  · cases h
theorem readW_frame {wy : Way} (ok : wy.Ok) {b : List Int} (h : ∀ x ∈ b, 0 ≤ x ∧ x < wy.t) (hl : b.length ≤ 60) : readW wy (frameW wy b) = some b := by
  have c := frameW_count ok h
  have l := frameW_len4 ok h hl
  obtain ⟨tin, tlen⟩ := turnL_ok wy.ts ok.perm b h
  unfold readW
  rw [if_pos ⟨l, c, by unfold frameW; rw [List.getLast?_concat]⟩]
  have e1 : (frameW wy b).dropLast = rowOf wy.t wy.e wy.k (turnL wy.ts b) := by
    unfold frameW
    rw [List.dropLast_concat]
  rw [e1, fromK_rowOf ok.kind ok.t3 ok.e0 ok.e1 tin]
  dsimp only
  rw [backL_turnL wy.ts ok.perm b h, if_pos ⟨by omega, rfl⟩]
theorem frameW_inj {wy : Way} (ok : wy.Ok) {a b : List Int} (ha : ∀ x ∈ a, 0 ≤ x ∧ x < wy.t) (hb : ∀ x ∈ b, 0 ≤ x ∧ x < wy.t) (h : frameW wy a = frameW wy b) : a = b := by
  have ta := turnL_ok wy.ts ok.perm a ha
  have tb := turnL_ok wy.ts ok.perm b hb
  unfold frameW at h
  have e := List.append_cancel_right h
  have z1 := fromK_rowOf ok.kind ok.t3 ok.e0 ok.e1 ta.1
  rw [e, fromK_rowOf ok.kind ok.t3 ok.e0 ok.e1 tb.1] at z1
  have z2 := Option.some.inj z1
  rw [← backL_turnL wy.ts ok.perm a ha, ← backL_turnL wy.ts ok.perm b hb, z2]
end Esc

namespace Esc
open PySem PySem.Spec PyProof.Rows L2
def spNever : Sp := fun vs H Q _ => False
section
variable {P : Program} {w : World} {K : PySem.W.Frag} {mg : Str → Option Value} {base : Heap}
theorem c_never {x : Str} {st : Stmt} {ps : List Str} {k : Nat} (d : Dd K mg x st ps) : C8.Cal P w K mg base k x spNever [] := by
  obtain ⟨f, fd, F, b⟩ := d.ex
  exact ⟨f, fd, ps, [], ⟨fun _ _ _ _ z => z.elim, fun _ _ _ _ _ _ _ _ _ _ _ _ _ z => z.elim⟩, F.mgf, F.kp, b, .nil⟩
end
end Esc

/-! _law_alike, of all data. -/
namespace Esc
open PySem PySem.Spec PyProof.Rows L2
structure Blt2 (mg : Str → Option Value) : Prop where
  bool_ : mg "bool" = none
  str_ : mg "str" = none
theorem i_isi {K : PySem.W.Frag} {H : Hp} {Q : VK} {x : V} {t : Value} {n : String} {b : Bool} (ty : TyX K H x t) (e : PySem.W.kitOne K t (.type n) = some b) (q : Q (.bl b) H) : rIsi K [x, .ty n] H Q := ⟨x, _, t, _, b, rfl, .ty n, ty, e, q⟩
theorem i_eqI {K : PySem.W.Frag} {H : Hp} {Q : VK} {a b : Int} (q : Q (.bl (decide (a = b))) H) : rEqD K (.int a) (.int b) H Q :=
  ⟨_, _, .int a, .int b, by simp [SeqAt.shaped, PyData.canLay0, PyData.depth], by simp [SeqAt.shaped, PyData.canLay0, PyData.depth], by
    rw [show PyData.eqv (.int a) (.int b) = decide (a = b) by by_cases h : a = b <;> simp [PyData.eqv, h]]
    exact q⟩
theorem i_eqS {K : PySem.W.Frag} {H : Hp} {Q : VK} {a b : Str} (oa : PyData.strOk a = true) (ob : PyData.strOk b = true) (q : Q (.bl (decide (a = b))) H) : rEqD K (.str a) (.str b) H Q :=
  ⟨_, _, .str a, .str b, by simp [SeqAt.shaped, PyData.canLay0, PyData.depth, oa], by simp [SeqAt.shaped, PyData.canLay0, PyData.depth, ob], by
    rw [show PyData.eqv (.str a) (.str b) = decide (a = b) by by_cases h : a = b <;> simp [PyData.eqv, h]]
    exact q⟩
theorem i_eqB {K : PySem.W.Frag} {H : Hp} {Q : VK} {a b : Bool} (q : Q (.bl (decide (a = b))) H) : rEqD K (.bl a) (.bl b) H Q :=
  ⟨_, _, .bl a, .bl b, by simp [SeqAt.shaped, PyData.canLay0, PyData.depth], by simp [SeqAt.shaped, PyData.canLay0, PyData.depth], by
    rw [show PyData.eqv (.bool a) (.bool b) = decide (a = b) by by_cases h : a = b <;> simp [PyData.eqv, h]]
    exact q⟩
mutual
/-- the same, sorts told apart -/
def sameD : PyData → PyData → Bool
  | .none, .none => true
  | .bool a, .bool b => decide (a = b)
  | .int a, .int b => decide (a = b)
  | .str a, .str b => decide (a = b)
  | .list xs, .list ys => sameAll xs ys
  | .tuple xs, .tuple ys => sameAll xs ys
  | _, _ => false
def sameAll : List PyData → List PyData → Bool
  | [], [] => true
  | x :: xs, y :: ys => sameD x y && sameAll xs ys
  | _, _ => false
end
mutual
/-- rows that are not too long -/
def SmallD : PyData → Prop
  | .list xs => xs.length ≤ 50000 ∧ SmallAll xs
  | .tuple xs => xs.length ≤ 50000 ∧ SmallAll xs
  | _ => True
def SmallAll : List PyData → Prop
  | [] => True
  | x :: xs => SmallD x ∧ SmallAll xs
end
theorem sameAll_len : ∀ {xs ys : List PyData}, xs.length ≠ ys.length → sameAll xs ys = false
  | [], [], h => absurd rfl h
  | [], _ :: _, _ => by simp [sameAll]
  | _ :: _, [], _ => by simp [sameAll]
  | x :: xs, y :: ys, h => by
    rw [sameAll, sameAll_len (by simpa using h), Bool.and_false]
theorem sameAll_all : ∀ {xs ys : List PyData}, xs.length = ys.length → sameAll xs ys = ((List.range ys.length).map fun i => sameD (xs.getD i .none) (ys.getD i .none)).all id
  | [], [], _ => by rw [sameAll]; rfl
  | [], _ :: _, h => by simp at h
  | _ :: _, [], h => by simp at h
  | x :: xs, y :: ys, h => by
    rw [sameAll, sameAll_all (xs := xs) (ys := ys) (by simpa using h), List.length_cons, List.range_succ_eq_map, List.map_cons, List.all_cons, List.map_map]
    rfl
theorem SmallAll.get : ∀ {xs : List PyData}, SmallAll xs → ∀ (i : Nat) (h : i < xs.length), SmallD xs[i]
  | x :: xs, h, 0, _ => h.1
  | x :: xs, h, i + 1, l => SmallAll.get h.2 i (by simpa using l)
theorem depth_get : ∀ {xs : List PyData} {n : Nat}, PyData.depthAll xs ≤ n → ∀ (i : Nat) (h : i < xs.length), (xs[i]).depth ≤ n
  | x :: xs, n, h, 0, _ => by
    rw [PyData.depthAll] at h
    show x.depth ≤ n
    omega
  | x :: xs, n, h, i + 1, l => by
    rw [PyData.depthAll] at h
    exact depth_get (xs := xs) (n := n) (by omega) i (by simpa using l)
theorem dpa_len {K : PySem.W.Frag} {H : Hp} : ∀ {vs : List V} {ds : List PyData}, DpAll K H vs ds → vs.length = ds.length
  | _, _, .nil => rfl
  | _, _, .cons _ a => congrArg (· + 1) (dpa_len a)
theorem dpa_get {K : PySem.W.Frag} {H : Hp} : ∀ {vs : List V} {ds : List PyData}, DpAll K H vs ds → ∀ (i : Nat) (h : i < ds.length), ∃ v, vs[i]? = some v ∧ Dp K H v ds[i]
  | _, _, .nil, i, h => by simp at h
  | _, _, .cons (v := v) d a, 0, _ => ⟨v, rfl, d⟩
  | _, _, .cons d a, i + 1, h => dpa_get a i (by simpa using h)
theorem tyx_lst {K : PySem.W.Frag} {H : Hp} {a : Addr} {xs : List V} (h : H a = some (.lst xs)) : TyX K H (.ref a) (.type "list") := .base (.lst h)
/-- data whose lists and tuples stand in the heap -/
inductive Dh (H : Hp) : V → PyData → Prop
  | non : Dh H .non .none
  | bl (b : Bool) : Dh H (.bl b) (.bool b)
  | int (i : Int) : Dh H (.int i) (.int i)
  | str (s : Str) (ok : PyData.strOk s = true) : Dh H (.str s) (.str s)
  | lst {a : Addr} {xs : List V} {ds : List PyData} : H a = some (.lst xs) → xs.length = ds.length → (∀ (i : Nat) (h : i < ds.length) (v : V), xs[i]? = some v → Dh H v ds[i]) → Dh H (.ref a) (.list ds)
  | tup {a : Addr} {xs : List V} {ds : List PyData} : H a = some (.tup xs) → xs.length = ds.length → (∀ (i : Nat) (h : i < ds.length) (v : V), xs[i]? = some v → Dh H v ds[i]) → Dh H (.ref a) (.tuple ds)
theorem Dh.same {H H' : Hp} (s : Same H H') : ∀ {v : V} {d : PyData}, Dh H v d → Dh H' v d := fun h => by
  induction h with
  | non => exact .non
  | bl b => exact .bl b
  | int i => exact .int i
  | str z ok => exact .str z ok
  | lst h l _ ih => exact .lst (s _ _ h) l ih
  | tup h l _ ih => exact .tup (s _ _ h) l ih
theorem dh_ints {H : Hp} {a : Addr} {ns : List Int} (h : H a = some (.lst (ns.map V.int))) : Dh H (.ref a) (.list (ns.map PyData.int)) := .lst h (by rw [List.length_map, List.length_map]) fun i hi v hv => by
  rw [List.length_map] at hi
  rw [List.getElem?_map, List.getElem?_eq_getElem hi] at hv
  cases hv
  rw [List.getElem_map]
  exact .int _
theorem depth_ints' (ns : List Int) : (PyData.list (ns.map PyData.int)).depth ≤ 1 := by
  rw [PyData.depth, depth_ints]
  decide
theorem small_intsA : ∀ ns : List Int, SmallAll (ns.map PyData.int)
  | [] => trivial
  | _ :: ns => ⟨trivial, small_intsA ns⟩
theorem small_ints {ns : List Int} (h : ns.length ≤ 50000) : SmallD (.list (ns.map PyData.int)) := ⟨by rw [List.length_map]; exact h, small_intsA ns⟩
theorem same_intsA : ∀ xs ys : List Int, sameAll (xs.map PyData.int) (ys.map PyData.int) = decide (xs = ys)
  | [], [] => by rw [List.map_nil, sameAll]; rfl
  | [], y :: ys => by
    rw [decide_eq_false (by intro z; cases z)]
    exact sameAll_len (by simp)
  | x :: xs, [] => by
    rw [decide_eq_false (by intro z; cases z)]
    exact sameAll_len (by simp)
  | x :: xs, y :: ys => by
    rw [List.map_cons, List.map_cons, sameAll, same_intsA xs ys, sameD]
    by_cases h : x = y
    · by_cases h2 : xs = ys
      · simp [h, h2]
      · simp [h, h2]
    · simp [h]
mutual
/-- without dicts -/
def NoDict : PyData → Prop
  | .dict _ => False
  | .list xs => NoDictA xs
  | .tuple xs => NoDictA xs
  | _ => True
def NoDictA : List PyData → Prop
  | [] => True
  | x :: xs => NoDict x ∧ NoDictA xs
end
mutual
theorem sameD_refl : ∀ d : PyData, NoDict d → sameD d d = true
  | .none, _ => by rw [sameD]
  | .bool b, _ => by rw [sameD]; exact decide_eq_true rfl
  | .int i, _ => by rw [sameD]; exact decide_eq_true rfl
  | .str s, _ => by rw [sameD]; exact decide_eq_true rfl
  | .list xs, h => by rw [sameD]; exact sameAll_refl xs h
  | .tuple xs, h => by rw [sameD]; exact sameAll_refl xs h
  | .dict _, h => h.elim
theorem sameAll_refl : ∀ xs : List PyData, NoDictA xs → sameAll xs xs = true
  | [], _ => by rw [sameAll]
  | x :: xs, h => by rw [sameAll, sameD_refl x h.1, sameAll_refl xs h.2]; rfl
end
section
variable {P : Program} {w : World} {K : PySem.W.Frag} {mg : Str → Option Value} {base : Heap}
def spAlikeD (n : Nat) : Sp := fun vs H Q _ => ∃ (u v : V) (d1 d2 : PyData), vs = [u, v] ∧ Dh H u d1 ∧ Dh H v d2 ∧ SmallD d2 ∧ d2.depth ≤ n ∧ ∀ H', Same H H' → Q (.bl (sameD d1 d2)) H'
theorem bools_map (f : Nat → Bool) (n : Nat) : (List.range n).filterMap (fun i => some (V.bl (f i))) = ((List.range n).map f).map V.bl := by
  rw [List.map_map, ← List.filterMap_eq_map]
  rfl
theorem c_alikeD (Z : Blt mg) (Z2 : Blt2 mg) (d : Dd K mg "_law_alike" s__law_alike P__law_alike) : ∀ n : Nat, C8.Cal P w K mg base (n + 1) "_law_alike" (spAlikeD n) [] := by
  have step : ∀ n : Nat, (C8.Cal P w K mg base n "_law_alike" (fun vs H Q E => match n with | 0 => False | m + 1 => spAlikeD m vs H Q E) []) → C8.Cal P w K mg base (n + 1) "_law_alike" (spAlikeD n) [] := fun n c__law_alike => by
    refine d.cal sc__law_alike (fun vs H Q E h => ?_) (fun f cdv A outer s H vs Q E hr h => ?_)
    · obtain ⟨u, v, d1, d2, rfl, _⟩ := h
      rfl
    · obtain ⟨u, v, d1, d2, rfl, h1, h2, hsm, hdp, q⟩ := h
      have nd := sc__law_alike.nd
      have hr0 := hr
      cases h2 with
      | non =>
        refine ⟨_, (pss_cons (ps_if (pt_cmpR k_isN (pv 1) pe_non (nomark _)) (pss_one (ps_ret (pe_cmpR k_isN (pv 0) pe_non (nomark _)))) pss_nil)
  (pss_cons (ps_if (pt_val (pe_callB call_isi (by rfl) Z.isinstance_ (by decide +kernel) (pa_cons (pv 1) (pa_cons (pe_bltn (v := .ty "bool") (u := .type "bool") (by rfl) Z2.bool_ (by decide +kernel) rfl) pa_nil)))) (pss_one (ps_ret (pe_and (pe_callB call_isi (by rfl) Z.isinstance_ (by decide +kernel) (pa_cons (pv 0) (pa_cons (pe_bltn (v := .ty "bool") (u := .type "bool") (by rfl) Z2.bool_ (by decide +kernel) rfl) pa_nil))) (pe_one (pe_cmpR (op_eqD hr.units) (pv 0) (pv 1) (nomark _)))))) pss_nil)
  (pss_cons (ps_if (pt_val (pe_callB call_isi (by rfl) Z.isinstance_ (by decide +kernel) (pa_cons (pv 1) (pa_cons (pe_bltn (v := .ty "int") (u := .type "int") (by rfl) Z.int_ (by decide +kernel) rfl) pa_nil)))) (pss_one (ps_ret (pe_and (pe_callB call_isi (by rfl) Z.isinstance_ (by decide +kernel) (pa_cons (pv 0) (pa_cons (pe_bltn (v := .ty "int") (u := .type "int") (by rfl) Z.int_ (by decide +kernel) rfl) pa_nil))) (pe_and (pe_not (pe_callB call_isi (by rfl) Z.isinstance_ (by decide +kernel) (pa_cons (pv 0) (pa_cons (pe_bltn (v := .ty "bool") (u := .type "bool") (by rfl) Z2.bool_ (by decide +kernel) rfl) pa_nil)))) (pe_one (pe_cmpR (op_eqD hr.units) (pv 0) (pv 1) (nomark _))))))) pss_nil)
  (pss_cons (ps_if (pt_val (pe_callB call_isi (by rfl) Z.isinstance_ (by decide +kernel) (pa_cons (pv 1) (pa_cons (pe_bltn (v := .ty "str") (u := .type "str") (by rfl) Z2.str_ (by decide +kernel) rfl) pa_nil)))) (pss_one (ps_ret (pe_and (pe_callB call_isi (by rfl) Z.isinstance_ (by decide +kernel) (pa_cons (pv 0) (pa_cons (pe_bltn (v := .ty "str") (u := .type "str") (by rfl) Z2.str_ (by decide +kernel) rfl) pa_nil))) (pe_one (pe_cmpR (op_eqD hr.units) (pv 0) (pv 1) (nomark _)))))) pss_nil)
  (pss_cons (ps_if (PW.pt (pw_or (pt_cmpR op_ne (pe_callB call_isi (by rfl) Z.isinstance_ (by decide +kernel) (pa_cons (pv 1) (pa_cons (pe_bltn (v := .ty "tuple") (u := .type "tuple") (by rfl) Z.tuple_ (by decide +kernel) rfl) pa_nil))) (pe_callB call_isi (by rfl) Z.isinstance_ (by decide +kernel) (pa_cons (pv 0) (pa_cons (pe_bltn (v := .ty "tuple") (u := .type "tuple") (by rfl) Z.tuple_ (by decide +kernel) rfl) pa_nil))) (nomark _)) (pw_or1 (pt_cmpR op_ne (pe_callB call_isi (by rfl) Z.isinstance_ (by decide +kernel) (pa_cons (pv 1) (pa_cons (pe_bltn (v := .ty "list") (u := .type "list") (by rfl) Z.list_ (by decide +kernel) rfl) pa_nil))) (pe_callB call_isi (by rfl) Z.isinstance_ (by decide +kernel) (pa_cons (pv 0) (pa_cons (pe_bltn (v := .ty "list") (u := .type "list") (by rfl) Z.list_ (by decide +kernel) rfl) pa_nil))) (nomark _))))) (pss_one (ps_ret pe_bl)) pss_nil)
  (pss_cons (ps_if (pt_cmpR op_ne (pe_callB k_len (by rfl) Z.len_ (by decide +kernel) (pa_cons (pv 0) pa_nil)) (pe_callB k_len (by rfl) Z.len_ (by decide +kernel) (pa_cons (pv 1) pa_nil)) (nomark _)) (pss_one (ps_ret pe_bl)) pss_nil)
  (pss_one (ps_ret (pe_callB (cr_all rfl) (by rfl) Z.all_ (by decide +kernel) (pa_cons (pe_lc (own := [("_law_k", 2)]) (g := gName 2) (tt := tYes) rfl nd (pi_range1 rfl Z.range_ (pa_cons (pe_callB k_len (by rfl) Z.len_ (by decide +kernel) (pa_cons (pv 1) pa_nil)) pa_nil)) (blkOk_by (N := N__law_alike) (sc := C8.fnScope s__law_alike) (own := [("_law_k", 2)]) (by decide +kernel)) (fun _ _ _ _ _ => (pg_name (i := 2) nd rfl (Or.inl rfl))) (fun _ _ _ _ _ => pts_nil) (fun _ _ _ _ _ => (C8.pe_c c__law_alike hr (Nat.le_refl _) (by rfl) (pa_cons (pe_ix (show IxR _ (rIxL K) from ix_list) (pv 0) (pv 2) (fun _ _ => rfl)) (pa_cons (pe_ix (show IxR _ (rIxL K) from ix_list) (pv 1) (pv 2) (fun _ _ => rfl)) pa_nil))))) pa_nil)))))))))), ?_⟩
        refine i_start (σ' := [some u, some .non, none]) rfl ?_
        walk_at "go"
        walk_at "r"
        refine i_yes rfl ?_
        walk_at "r"
        have e : sameD d1 .none = decide (u = .non) := by
          cases h1 <;> first | (rw [sameD, decide_eq_true rfl]) | (rw [decide_eq_false (by intro z; cases z)]; rfl) | rfl
        rw [← e]
        exact q H (Same.refl _)
      | bl b =>
        refine ⟨_, (pss_cons (ps_if (pt_cmpR k_isN (pv 1) pe_non (nomark _)) (pss_one (ps_ret (pe_cmpR k_isN (pv 0) pe_non (nomark _)))) pss_nil)
  (pss_cons (ps_if (pt_val (pe_callB call_isi (by rfl) Z.isinstance_ (by decide +kernel) (pa_cons (pv 1) (pa_cons (pe_bltn (v := .ty "bool") (u := .type "bool") (by rfl) Z2.bool_ (by decide +kernel) rfl) pa_nil)))) (pss_one (ps_ret (pe_and (pe_callB call_isi (by rfl) Z.isinstance_ (by decide +kernel) (pa_cons (pv 0) (pa_cons (pe_bltn (v := .ty "bool") (u := .type "bool") (by rfl) Z2.bool_ (by decide +kernel) rfl) pa_nil))) (pe_one (pe_cmpR (op_eqD hr.units) (pv 0) (pv 1) (nomark _)))))) pss_nil)
  (pss_cons (ps_if (pt_val (pe_callB call_isi (by rfl) Z.isinstance_ (by decide +kernel) (pa_cons (pv 1) (pa_cons (pe_bltn (v := .ty "int") (u := .type "int") (by rfl) Z.int_ (by decide +kernel) rfl) pa_nil)))) (pss_one (ps_ret (pe_and (pe_callB call_isi (by rfl) Z.isinstance_ (by decide +kernel) (pa_cons (pv 0) (pa_cons (pe_bltn (v := .ty "int") (u := .type "int") (by rfl) Z.int_ (by decide +kernel) rfl) pa_nil))) (pe_and (pe_not (pe_callB call_isi (by rfl) Z.isinstance_ (by decide +kernel) (pa_cons (pv 0) (pa_cons (pe_bltn (v := .ty "bool") (u := .type "bool") (by rfl) Z2.bool_ (by decide +kernel) rfl) pa_nil)))) (pe_one (pe_cmpR (op_eqD hr.units) (pv 0) (pv 1) (nomark _))))))) pss_nil)
  (pss_cons (ps_if (pt_val (pe_callB call_isi (by rfl) Z.isinstance_ (by decide +kernel) (pa_cons (pv 1) (pa_cons (pe_bltn (v := .ty "str") (u := .type "str") (by rfl) Z2.str_ (by decide +kernel) rfl) pa_nil)))) (pss_one (ps_ret (pe_and (pe_callB call_isi (by rfl) Z.isinstance_ (by decide +kernel) (pa_cons (pv 0) (pa_cons (pe_bltn (v := .ty "str") (u := .type "str") (by rfl) Z2.str_ (by decide +kernel) rfl) pa_nil))) (pe_one (pe_cmpR (op_eqD hr.units) (pv 0) (pv 1) (nomark _)))))) pss_nil)
  (pss_cons (ps_if (PW.pt (pw_or (pt_cmpR op_ne (pe_callB call_isi (by rfl) Z.isinstance_ (by decide +kernel) (pa_cons (pv 1) (pa_cons (pe_bltn (v := .ty "tuple") (u := .type "tuple") (by rfl) Z.tuple_ (by decide +kernel) rfl) pa_nil))) (pe_callB call_isi (by rfl) Z.isinstance_ (by decide +kernel) (pa_cons (pv 0) (pa_cons (pe_bltn (v := .ty "tuple") (u := .type "tuple") (by rfl) Z.tuple_ (by decide +kernel) rfl) pa_nil))) (nomark _)) (pw_or1 (pt_cmpR op_ne (pe_callB call_isi (by rfl) Z.isinstance_ (by decide +kernel) (pa_cons (pv 1) (pa_cons (pe_bltn (v := .ty "list") (u := .type "list") (by rfl) Z.list_ (by decide +kernel) rfl) pa_nil))) (pe_callB call_isi (by rfl) Z.isinstance_ (by decide +kernel) (pa_cons (pv 0) (pa_cons (pe_bltn (v := .ty "list") (u := .type "list") (by rfl) Z.list_ (by decide +kernel) rfl) pa_nil))) (nomark _))))) (pss_one (ps_ret pe_bl)) pss_nil)
  (pss_cons (ps_if (pt_cmpR op_ne (pe_callB k_len (by rfl) Z.len_ (by decide +kernel) (pa_cons (pv 0) pa_nil)) (pe_callB k_len (by rfl) Z.len_ (by decide +kernel) (pa_cons (pv 1) pa_nil)) (nomark _)) (pss_one (ps_ret pe_bl)) pss_nil)
  (pss_one (ps_ret (pe_callB (cr_all rfl) (by rfl) Z.all_ (by decide +kernel) (pa_cons (pe_lc (own := [("_law_k", 2)]) (g := gName 2) (tt := tYes) rfl nd (pi_range1 rfl Z.range_ (pa_cons (pe_callB k_len (by rfl) Z.len_ (by decide +kernel) (pa_cons (pv 1) pa_nil)) pa_nil)) (blkOk_by (N := N__law_alike) (sc := C8.fnScope s__law_alike) (own := [("_law_k", 2)]) (by decide +kernel)) (fun _ _ _ _ _ => (pg_name (i := 2) nd rfl (Or.inl rfl))) (fun _ _ _ _ _ => pts_nil) (fun _ _ _ _ _ => (C8.pe_c c__law_alike hr (Nat.le_refl _) (by rfl) (pa_cons (pe_ix (show IxR _ (rIxL K) from ix_list) (pv 0) (pv 2) (fun _ _ => rfl)) (pa_cons (pe_ix (show IxR _ (rIxL K) from ix_list) (pv 1) (pv 2) (fun _ _ => rfl)) pa_nil))))) pa_nil)))))))))), ?_⟩
        refine i_start (σ' := [some u, some (.bl b), none]) rfl ?_
        walk_at "go"
        walk_at "r"
        refine i_no (by intro z; cases z) ?_
        walk_at "r"
        refine i_isi (b := true) (.base (.bl b)) (by rfl) ?_
        walk_at "r"
        cases h1 with
        | non =>
          refine i_isi (b := false) (.base .non) (by rfl) ?_
          walk_at "r"
          exact q H (Same.refl _)
        | bl c =>
          refine i_isi (b := true) (.base (.bl c)) (by rfl) ?_
          walk_at "r"
          refine i_eqB ?_
          exact q H (Same.refl _)
        | int i =>
          refine i_isi (b := false) (.base (.int i)) (by rfl) ?_
          walk_at "r"
          exact q H (Same.refl _)
        | str z oz =>
          refine i_isi (b := false) (.base (.str z)) (by rfl) ?_
          walk_at "r"
          exact q H (Same.refl _)
        | lst ha la ia =>
          refine i_isi (b := false) (.base (.lst ha)) (by rfl) ?_
          walk_at "r"
          exact q H (Same.refl _)
        | tup ha la ia =>
          refine i_isi (b := false) (.base (.tup ha)) (by rfl) ?_
          walk_at "r"
          exact q H (Same.refl _)
      | int i =>
        refine ⟨_, (pss_cons (ps_if (pt_cmpR k_isN (pv 1) pe_non (nomark _)) (pss_one (ps_ret (pe_cmpR k_isN (pv 0) pe_non (nomark _)))) pss_nil)
  (pss_cons (ps_if (pt_val (pe_callB call_isi (by rfl) Z.isinstance_ (by decide +kernel) (pa_cons (pv 1) (pa_cons (pe_bltn (v := .ty "bool") (u := .type "bool") (by rfl) Z2.bool_ (by decide +kernel) rfl) pa_nil)))) (pss_one (ps_ret (pe_and (pe_callB call_isi (by rfl) Z.isinstance_ (by decide +kernel) (pa_cons (pv 0) (pa_cons (pe_bltn (v := .ty "bool") (u := .type "bool") (by rfl) Z2.bool_ (by decide +kernel) rfl) pa_nil))) (pe_one (pe_cmpR (op_eqD hr.units) (pv 0) (pv 1) (nomark _)))))) pss_nil)
  (pss_cons (ps_if (pt_val (pe_callB call_isi (by rfl) Z.isinstance_ (by decide +kernel) (pa_cons (pv 1) (pa_cons (pe_bltn (v := .ty "int") (u := .type "int") (by rfl) Z.int_ (by decide +kernel) rfl) pa_nil)))) (pss_one (ps_ret (pe_and (pe_callB call_isi (by rfl) Z.isinstance_ (by decide +kernel) (pa_cons (pv 0) (pa_cons (pe_bltn (v := .ty "int") (u := .type "int") (by rfl) Z.int_ (by decide +kernel) rfl) pa_nil))) (pe_and (pe_not (pe_callB call_isi (by rfl) Z.isinstance_ (by decide +kernel) (pa_cons (pv 0) (pa_cons (pe_bltn (v := .ty "bool") (u := .type "bool") (by rfl) Z2.bool_ (by decide +kernel) rfl) pa_nil)))) (pe_one (pe_cmpR (op_eqD hr.units) (pv 0) (pv 1) (nomark _))))))) pss_nil)
  (pss_cons (ps_if (pt_val (pe_callB call_isi (by rfl) Z.isinstance_ (by decide +kernel) (pa_cons (pv 1) (pa_cons (pe_bltn (v := .ty "str") (u := .type "str") (by rfl) Z2.str_ (by decide +kernel) rfl) pa_nil)))) (pss_one (ps_ret (pe_and (pe_callB call_isi (by rfl) Z.isinstance_ (by decide +kernel) (pa_cons (pv 0) (pa_cons (pe_bltn (v := .ty "str") (u := .type "str") (by rfl) Z2.str_ (by decide +kernel) rfl) pa_nil))) (pe_one (pe_cmpR (op_eqD hr.units) (pv 0) (pv 1) (nomark _)))))) pss_nil)
  (pss_cons (ps_if (PW.pt (pw_or (pt_cmpR op_ne (pe_callB call_isi (by rfl) Z.isinstance_ (by decide +kernel) (pa_cons (pv 1) (pa_cons (pe_bltn (v := .ty "tuple") (u := .type "tuple") (by rfl) Z.tuple_ (by decide +kernel) rfl) pa_nil))) (pe_callB call_isi (by rfl) Z.isinstance_ (by decide +kernel) (pa_cons (pv 0) (pa_cons (pe_bltn (v := .ty "tuple") (u := .type "tuple") (by rfl) Z.tuple_ (by decide +kernel) rfl) pa_nil))) (nomark _)) (pw_or1 (pt_cmpR op_ne (pe_callB call_isi (by rfl) Z.isinstance_ (by decide +kernel) (pa_cons (pv 1) (pa_cons (pe_bltn (v := .ty "list") (u := .type "list") (by rfl) Z.list_ (by decide +kernel) rfl) pa_nil))) (pe_callB call_isi (by rfl) Z.isinstance_ (by decide +kernel) (pa_cons (pv 0) (pa_cons (pe_bltn (v := .ty "list") (u := .type "list") (by rfl) Z.list_ (by decide +kernel) rfl) pa_nil))) (nomark _))))) (pss_one (ps_ret pe_bl)) pss_nil)
  (pss_cons (ps_if (pt_cmpR op_ne (pe_callB k_len (by rfl) Z.len_ (by decide +kernel) (pa_cons (pv 0) pa_nil)) (pe_callB k_len (by rfl) Z.len_ (by decide +kernel) (pa_cons (pv 1) pa_nil)) (nomark _)) (pss_one (ps_ret pe_bl)) pss_nil)
  (pss_one (ps_ret (pe_callB (cr_all rfl) (by rfl) Z.all_ (by decide +kernel) (pa_cons (pe_lc (own := [("_law_k", 2)]) (g := gName 2) (tt := tYes) rfl nd (pi_range1 rfl Z.range_ (pa_cons (pe_callB k_len (by rfl) Z.len_ (by decide +kernel) (pa_cons (pv 1) pa_nil)) pa_nil)) (blkOk_by (N := N__law_alike) (sc := C8.fnScope s__law_alike) (own := [("_law_k", 2)]) (by decide +kernel)) (fun _ _ _ _ _ => (pg_name (i := 2) nd rfl (Or.inl rfl))) (fun _ _ _ _ _ => pts_nil) (fun _ _ _ _ _ => (C8.pe_c c__law_alike hr (Nat.le_refl _) (by rfl) (pa_cons (pe_ix (show IxR _ (rIxL K) from ix_list) (pv 0) (pv 2) (fun _ _ => rfl)) (pa_cons (pe_ix (show IxR _ (rIxL K) from ix_list) (pv 1) (pv 2) (fun _ _ => rfl)) pa_nil))))) pa_nil)))))))))), ?_⟩
        refine i_start (σ' := [some u, some (.int i), none]) rfl ?_
        walk_at "go"
        walk_at "r"
        refine i_no (by intro z; cases z) ?_
        walk_at "r"
        refine i_isi (b := false) (.base (.int i)) (by rfl) ?_
        walk_at "r"
        refine i_isi (b := true) (.base (.int i)) (by rfl) ?_
        walk_at "r"
        cases h1 with
        | non =>
          refine i_isi (b := false) (.base .non) (by rfl) ?_
          walk_at "r"
          exact q H (Same.refl _)
        | bl c =>
          refine i_isi (b := true) (.base (.bl c)) (by rfl) ?_
          walk_at "r"
          refine i_isi (b := true) (.base (.bl c)) (by rfl) ?_
          walk_at "r"
          exact q H (Same.refl _)
        | int j =>
          refine i_isi (b := true) (.base (.int j)) (by rfl) ?_
          walk_at "r"
          refine i_isi (b := false) (.base (.int j)) (by rfl) ?_
          walk_at "r"
          refine i_eqI ?_
          exact q H (Same.refl _)
        | str z oz =>
          refine i_isi (b := false) (.base (.str z)) (by rfl) ?_
          walk_at "r"
          exact q H (Same.refl _)
        | lst ha la ia =>
          refine i_isi (b := false) (.base (.lst ha)) (by rfl) ?_
          walk_at "r"
          exact q H (Same.refl _)
        | tup ha la ia =>
          refine i_isi (b := false) (.base (.tup ha)) (by rfl) ?_
          walk_at "r"
          exact q H (Same.refl _)
      | str i oi =>
        refine ⟨_, (pss_cons (ps_if (pt_cmpR k_isN (pv 1) pe_non (nomark _)) (pss_one (ps_ret (pe_cmpR k_isN (pv 0) pe_non (nomark _)))) pss_nil)
  (pss_cons (ps_if (pt_val (pe_callB call_isi (by rfl) Z.isinstance_ (by decide +kernel) (pa_cons (pv 1) (pa_cons (pe_bltn (v := .ty "bool") (u := .type "bool") (by rfl) Z2.bool_ (by decide +kernel) rfl) pa_nil)))) (pss_one (ps_ret (pe_and (pe_callB call_isi (by rfl) Z.isinstance_ (by decide +kernel) (pa_cons (pv 0) (pa_cons (pe_bltn (v := .ty "bool") (u := .type "bool") (by rfl) Z2.bool_ (by decide +kernel) rfl) pa_nil))) (pe_one (pe_cmpR (op_eqD hr.units) (pv 0) (pv 1) (nomark _)))))) pss_nil)
  (pss_cons (ps_if (pt_val (pe_callB call_isi (by rfl) Z.isinstance_ (by decide +kernel) (pa_cons (pv 1) (pa_cons (pe_bltn (v := .ty "int") (u := .type "int") (by rfl) Z.int_ (by decide +kernel) rfl) pa_nil)))) (pss_one (ps_ret (pe_and (pe_callB call_isi (by rfl) Z.isinstance_ (by decide +kernel) (pa_cons (pv 0) (pa_cons (pe_bltn (v := .ty "int") (u := .type "int") (by rfl) Z.int_ (by decide +kernel) rfl) pa_nil))) (pe_and (pe_not (pe_callB call_isi (by rfl) Z.isinstance_ (by decide +kernel) (pa_cons (pv 0) (pa_cons (pe_bltn (v := .ty "bool") (u := .type "bool") (by rfl) Z2.bool_ (by decide +kernel) rfl) pa_nil)))) (pe_one (pe_cmpR (op_eqD hr.units) (pv 0) (pv 1) (nomark _))))))) pss_nil)
  (pss_cons (ps_if (pt_val (pe_callB call_isi (by rfl) Z.isinstance_ (by decide +kernel) (pa_cons (pv 1) (pa_cons (pe_bltn (v := .ty "str") (u := .type "str") (by rfl) Z2.str_ (by decide +kernel) rfl) pa_nil)))) (pss_one (ps_ret (pe_and (pe_callB call_isi (by rfl) Z.isinstance_ (by decide +kernel) (pa_cons (pv 0) (pa_cons (pe_bltn (v := .ty "str") (u := .type "str") (by rfl) Z2.str_ (by decide +kernel) rfl) pa_nil))) (pe_one (pe_cmpR (op_eqD hr.units) (pv 0) (pv 1) (nomark _)))))) pss_nil)
  (pss_cons (ps_if (PW.pt (pw_or (pt_cmpR op_ne (pe_callB call_isi (by rfl) Z.isinstance_ (by decide +kernel) (pa_cons (pv 1) (pa_cons (pe_bltn (v := .ty "tuple") (u := .type "tuple") (by rfl) Z.tuple_ (by decide +kernel) rfl) pa_nil))) (pe_callB call_isi (by rfl) Z.isinstance_ (by decide +kernel) (pa_cons (pv 0) (pa_cons (pe_bltn (v := .ty "tuple") (u := .type "tuple") (by rfl) Z.tuple_ (by decide +kernel) rfl) pa_nil))) (nomark _)) (pw_or1 (pt_cmpR op_ne (pe_callB call_isi (by rfl) Z.isinstance_ (by decide +kernel) (pa_cons (pv 1) (pa_cons (pe_bltn (v := .ty "list") (u := .type "list") (by rfl) Z.list_ (by decide +kernel) rfl) pa_nil))) (pe_callB call_isi (by rfl) Z.isinstance_ (by decide +kernel) (pa_cons (pv 0) (pa_cons (pe_bltn (v := .ty "list") (u := .type "list") (by rfl) Z.list_ (by decide +kernel) rfl) pa_nil))) (nomark _))))) (pss_one (ps_ret pe_bl)) pss_nil)
  (pss_cons (ps_if (pt_cmpR op_ne (pe_callB k_len (by rfl) Z.len_ (by decide +kernel) (pa_cons (pv 0) pa_nil)) (pe_callB k_len (by rfl) Z.len_ (by decide +kernel) (pa_cons (pv 1) pa_nil)) (nomark _)) (pss_one (ps_ret pe_bl)) pss_nil)
  (pss_one (ps_ret (pe_callB (cr_all rfl) (by rfl) Z.all_ (by decide +kernel) (pa_cons (pe_lc (own := [("_law_k", 2)]) (g := gName 2) (tt := tYes) rfl nd (pi_range1 rfl Z.range_ (pa_cons (pe_callB k_len (by rfl) Z.len_ (by decide +kernel) (pa_cons (pv 1) pa_nil)) pa_nil)) (blkOk_by (N := N__law_alike) (sc := C8.fnScope s__law_alike) (own := [("_law_k", 2)]) (by decide +kernel)) (fun _ _ _ _ _ => (pg_name (i := 2) nd rfl (Or.inl rfl))) (fun _ _ _ _ _ => pts_nil) (fun _ _ _ _ _ => (C8.pe_c c__law_alike hr (Nat.le_refl _) (by rfl) (pa_cons (pe_ix (show IxR _ (rIxL K) from ix_list) (pv 0) (pv 2) (fun _ _ => rfl)) (pa_cons (pe_ix (show IxR _ (rIxL K) from ix_list) (pv 1) (pv 2) (fun _ _ => rfl)) pa_nil))))) pa_nil)))))))))), ?_⟩
        refine i_start (σ' := [some u, some (.str i), none]) rfl ?_
        walk_at "go"
        walk_at "r"
        refine i_no (by intro z; cases z) ?_
        walk_at "r"
        refine i_isi (b := false) (.base (.str i)) (by rfl) ?_
        walk_at "r"
        refine i_isi (b := false) (.base (.str i)) (by rfl) ?_
        walk_at "r"
        refine i_isi (b := true) (.base (.str i)) (by rfl) ?_
        walk_at "r"
        cases h1 with
        | non =>
          refine i_isi (b := false) (.base .non) (by rfl) ?_
          walk_at "r"
          exact q H (Same.refl _)
        | bl c =>
          refine i_isi (b := false) (.base (.bl c)) (by rfl) ?_
          walk_at "r"
          exact q H (Same.refl _)
        | int j =>
          refine i_isi (b := false) (.base (.int j)) (by rfl) ?_
          walk_at "r"
          exact q H (Same.refl _)
        | str z oz =>
          refine i_isi (b := true) (.base (.str z)) (by rfl) ?_
          walk_at "r"
          refine i_eqS oz oi ?_
          exact q H (Same.refl _)
        | lst ha la ia =>
          refine i_isi (b := false) (.base (.lst ha)) (by rfl) ?_
          walk_at "r"
          exact q H (Same.refl _)
        | tup ha la ia =>
          refine i_isi (b := false) (.base (.tup ha)) (by rfl) ?_
          walk_at "r"
          exact q H (Same.refl _)
      | @lst b ys ds2 hb lb ib =>
        have tb : TyX K H (.ref b) (.type "list") := .base (.lst hb)
        refine ⟨_, (pss_cons (ps_if (pt_cmpR k_isN (pv 1) pe_non (nomark _)) (pss_one (ps_ret (pe_cmpR k_isN (pv 0) pe_non (nomark _)))) pss_nil)
  (pss_cons (ps_if (pt_val (pe_callB call_isi (by rfl) Z.isinstance_ (by decide +kernel) (pa_cons (pv 1) (pa_cons (pe_bltn (v := .ty "bool") (u := .type "bool") (by rfl) Z2.bool_ (by decide +kernel) rfl) pa_nil)))) (pss_one (ps_ret (pe_and (pe_callB call_isi (by rfl) Z.isinstance_ (by decide +kernel) (pa_cons (pv 0) (pa_cons (pe_bltn (v := .ty "bool") (u := .type "bool") (by rfl) Z2.bool_ (by decide +kernel) rfl) pa_nil))) (pe_one (pe_cmpR (op_eqD hr.units) (pv 0) (pv 1) (nomark _)))))) pss_nil)
  (pss_cons (ps_if (pt_val (pe_callB call_isi (by rfl) Z.isinstance_ (by decide +kernel) (pa_cons (pv 1) (pa_cons (pe_bltn (v := .ty "int") (u := .type "int") (by rfl) Z.int_ (by decide +kernel) rfl) pa_nil)))) (pss_one (ps_ret (pe_and (pe_callB call_isi (by rfl) Z.isinstance_ (by decide +kernel) (pa_cons (pv 0) (pa_cons (pe_bltn (v := .ty "int") (u := .type "int") (by rfl) Z.int_ (by decide +kernel) rfl) pa_nil))) (pe_and (pe_not (pe_callB call_isi (by rfl) Z.isinstance_ (by decide +kernel) (pa_cons (pv 0) (pa_cons (pe_bltn (v := .ty "bool") (u := .type "bool") (by rfl) Z2.bool_ (by decide +kernel) rfl) pa_nil)))) (pe_one (pe_cmpR (op_eqD hr.units) (pv 0) (pv 1) (nomark _))))))) pss_nil)
  (pss_cons (ps_if (pt_val (pe_callB call_isi (by rfl) Z.isinstance_ (by decide +kernel) (pa_cons (pv 1) (pa_cons (pe_bltn (v := .ty "str") (u := .type "str") (by rfl) Z2.str_ (by decide +kernel) rfl) pa_nil)))) (pss_one (ps_ret (pe_and (pe_callB call_isi (by rfl) Z.isinstance_ (by decide +kernel) (pa_cons (pv 0) (pa_cons (pe_bltn (v := .ty "str") (u := .type "str") (by rfl) Z2.str_ (by decide +kernel) rfl) pa_nil))) (pe_one (pe_cmpR (op_eqD hr.units) (pv 0) (pv 1) (nomark _)))))) pss_nil)
  (pss_cons (ps_if (PW.pt (pw_or (pt_cmpR op_ne (pe_callB call_isi (by rfl) Z.isinstance_ (by decide +kernel) (pa_cons (pv 1) (pa_cons (pe_bltn (v := .ty "tuple") (u := .type "tuple") (by rfl) Z.tuple_ (by decide +kernel) rfl) pa_nil))) (pe_callB call_isi (by rfl) Z.isinstance_ (by decide +kernel) (pa_cons (pv 0) (pa_cons (pe_bltn (v := .ty "tuple") (u := .type "tuple") (by rfl) Z.tuple_ (by decide +kernel) rfl) pa_nil))) (nomark _)) (pw_or1 (pt_cmpR op_ne (pe_callB call_isi (by rfl) Z.isinstance_ (by decide +kernel) (pa_cons (pv 1) (pa_cons (pe_bltn (v := .ty "list") (u := .type "list") (by rfl) Z.list_ (by decide +kernel) rfl) pa_nil))) (pe_callB call_isi (by rfl) Z.isinstance_ (by decide +kernel) (pa_cons (pv 0) (pa_cons (pe_bltn (v := .ty "list") (u := .type "list") (by rfl) Z.list_ (by decide +kernel) rfl) pa_nil))) (nomark _))))) (pss_one (ps_ret pe_bl)) pss_nil)
  (pss_cons (ps_if (pt_cmpR op_ne (pe_callB k_len (by rfl) Z.len_ (by decide +kernel) (pa_cons (pv 0) pa_nil)) (pe_callB k_len (by rfl) Z.len_ (by decide +kernel) (pa_cons (pv 1) pa_nil)) (nomark _)) (pss_one (ps_ret pe_bl)) pss_nil)
  (pss_one (ps_ret (pe_callB (cr_all rfl) (by rfl) Z.all_ (by decide +kernel) (pa_cons (pe_lc (own := [("_law_k", 2)]) (g := gName 2) (tt := tYes) rfl nd (pi_range1 rfl Z.range_ (pa_cons (pe_callB k_len (by rfl) Z.len_ (by decide +kernel) (pa_cons (pv 1) pa_nil)) pa_nil)) (blkOk_by (N := N__law_alike) (sc := C8.fnScope s__law_alike) (own := [("_law_k", 2)]) (by decide +kernel)) (fun _ _ _ _ _ => (pg_name (i := 2) nd rfl (Or.inl rfl))) (fun _ _ _ _ _ => pts_nil) (fun _ _ _ _ _ => (C8.pe_c c__law_alike hr (Nat.le_refl _) (by rfl) (pa_cons (pe_ix (show IxR _ (rIxL K) from ix_list) (pv 0) (pv 2) (fun _ _ => rfl)) (pa_cons (pe_ix (show IxR _ (rIxL K) from ix_list) (pv 1) (pv 2) (fun _ _ => rfl)) pa_nil))))) pa_nil)))))))))), ?_⟩
        refine i_start (σ' := [some u, some (.ref b), none]) rfl ?_
        walk_at "go"
        walk_at "r"
        refine i_no (by intro z; cases z) ?_
        walk_at "r"
        refine i_isi (b := false) tb (by rfl) ?_
        walk_at "r"
        refine i_isi (b := false) tb (by rfl) ?_
        walk_at "r"
        refine i_isi (b := false) tb (by rfl) ?_
        walk_at "r"
        refine i_isi (b := false) tb (by rfl) ?_
        walk_at "r"
        cases h1 with
        | non =>
          refine i_isi (b := false) (.base .non) (by rfl) ?_
          walk_at "r"
          refine i_nyes rfl ?_
          walk_at "r"
          refine i_isi (b := true) tb (by rfl) ?_
          walk_at "r"
          refine i_isi (b := false) (.base .non) (by rfl) ?_
          walk_at "r"
          refine i_nno (by decide) ?_
          walk_at "r"
          exact q H (Same.refl _)
        | bl c =>
          refine i_isi (b := false) (.base (.bl c)) (by rfl) ?_
          walk_at "r"
          refine i_nyes rfl ?_
          walk_at "r"
          refine i_isi (b := true) tb (by rfl) ?_
          walk_at "r"
          refine i_isi (b := false) (.base (.bl c)) (by rfl) ?_
          walk_at "r"
          refine i_nno (by decide) ?_
          walk_at "r"
          exact q H (Same.refl _)
        | int c =>
          refine i_isi (b := false) (.base (.int c)) (by rfl) ?_
          walk_at "r"
          refine i_nyes rfl ?_
          walk_at "r"
          refine i_isi (b := true) tb (by rfl) ?_
          walk_at "r"
          refine i_isi (b := false) (.base (.int c)) (by rfl) ?_
          walk_at "r"
          refine i_nno (by decide) ?_
          walk_at "r"
          exact q H (Same.refl _)
        | str c oc =>
          refine i_isi (b := false) (.base (.str c)) (by rfl) ?_
          walk_at "r"
          refine i_nyes rfl ?_
          walk_at "r"
          refine i_isi (b := true) tb (by rfl) ?_
          walk_at "r"
          refine i_isi (b := false) (.base (.str c)) (by rfl) ?_
          walk_at "r"
          refine i_nno (by decide) ?_
          walk_at "r"
          exact q H (Same.refl _)
        | tup ha la ia =>
          refine i_isi (b := true) (.base (.tup ha)) (by rfl) ?_
          walk_at "r"
          refine i_nno (by decide) ?_
          walk_at "r"
          exact q H (Same.refl _)
        | @lst a xs ds1 ha la ia =>
          have ta : TyX K H (.ref a) (.type "list") := .base (.lst ha)
          refine i_isi (b := false) ta (by rfl) ?_
          walk_at "r"
          refine i_nyes rfl ?_
          walk_at "r"
          refine i_isi (b := true) tb (by rfl) ?_
          walk_at "r"
          refine i_isi (b := true) ta (by rfl) ?_
          walk_at "r"
          refine i_nyes rfl ?_
          walk_at "r"
          refine i_nbr (fun c => ?_) (fun c => ?_)
          case refine_2 =>
            walk_at "r"
            have e : sameD (.list ds1) (.list ds2) = false := by
              rw [sameD]
              exact sameAll_len (by omega)
            rw [e] at q
            exact q H (Same.refl _)
          have le : ds1.length = ds2.length := by omega
          have l5 : ds2.length ≤ 50000 := hsm.1
          walk_at "r"
          refine i_lcR (F := fun i => some (V.bl (sameD (ds1.getD i .none) (ds2.getD i .none)))) ⟨by omega, by omega⟩ (fun i hi H1 s1 QN QY hN hY => ?_) (fun p H1 hp s1 e1 => ?_)
          · have hi2 : i < ds2.length := by omega
            have hi1 : i < ds1.length := by omega
            have ha1 := s1 _ _ ha
            have hb1 := s1 _ _ hb
            have g1 : xs[i]? = some xs[i] := List.getElem?_eq_getElem (by omega)
            have g2 : ys[i]? = some ys[i] := List.getElem?_eq_getElem (by omega)
            have hat : atI xs (i : Int) = some xs[i] := atI_nat g1
            have hbt : atI ys (i : Int) = some ys[i] := atI_nat g2
            walk_at "r"
            cases n with
            | zero =>
              rw [PyData.depth] at hdp
              omega
            | succ m =>
              rw [PyData.depth] at hdp
              refine ⟨_, _, ds1[i], ds2[i], rfl, (ia i hi1 _ g1).same s1, (ib i hi2 _ g2).same s1, hsm.2.get i hi2, depth_get (by omega) i hi2, fun H2 s2 => ?_⟩
              refine hY _ ?_ _ s2
              rw [List.getD_eq_getElem?_getD, List.getD_eq_getElem?_getD, List.getElem?_eq_getElem hi1, List.getElem?_eq_getElem hi2]
              rfl
          · rw [bools_map, show ((ys.length : Nat) : Int).toNat = ds2.length by omega] at e1
            walk_at "r"
            refine i_all (sl_of e1) ?_
            rw [← sameAll_all le, show sameAll ds1 ds2 = sameD (.list ds1) (.list ds2) by rw [sameD]]
            exact q _ s1
      | @tup b ys ds2 hb lb ib =>
        have tb : TyX K H (.ref b) (.type "tuple") := .base (.tup hb)
        refine ⟨_, (pss_cons (ps_if (pt_cmpR k_isN (pv 1) pe_non (nomark _)) (pss_one (ps_ret (pe_cmpR k_isN (pv 0) pe_non (nomark _)))) pss_nil)
  (pss_cons (ps_if (pt_val (pe_callB call_isi (by rfl) Z.isinstance_ (by decide +kernel) (pa_cons (pv 1) (pa_cons (pe_bltn (v := .ty "bool") (u := .type "bool") (by rfl) Z2.bool_ (by decide +kernel) rfl) pa_nil)))) (pss_one (ps_ret (pe_and (pe_callB call_isi (by rfl) Z.isinstance_ (by decide +kernel) (pa_cons (pv 0) (pa_cons (pe_bltn (v := .ty "bool") (u := .type "bool") (by rfl) Z2.bool_ (by decide +kernel) rfl) pa_nil))) (pe_one (pe_cmpR (op_eqD hr.units) (pv 0) (pv 1) (nomark _)))))) pss_nil)
  (pss_cons (ps_if (pt_val (pe_callB call_isi (by rfl) Z.isinstance_ (by decide +kernel) (pa_cons (pv 1) (pa_cons (pe_bltn (v := .ty "int") (u := .type "int") (by rfl) Z.int_ (by decide +kernel) rfl) pa_nil)))) (pss_one (ps_ret (pe_and (pe_callB call_isi (by rfl) Z.isinstance_ (by decide +kernel) (pa_cons (pv 0) (pa_cons (pe_bltn (v := .ty "int") (u := .type "int") (by rfl) Z.int_ (by decide +kernel) rfl) pa_nil))) (pe_and (pe_not (pe_callB call_isi (by rfl) Z.isinstance_ (by decide +kernel) (pa_cons (pv 0) (pa_cons (pe_bltn (v := .ty "bool") (u := .type "bool") (by rfl) Z2.bool_ (by decide +kernel) rfl) pa_nil)))) (pe_one (pe_cmpR (op_eqD hr.units) (pv 0) (pv 1) (nomark _))))))) pss_nil)
  (pss_cons (ps_if (pt_val (pe_callB call_isi (by rfl) Z.isinstance_ (by decide +kernel) (pa_cons (pv 1) (pa_cons (pe_bltn (v := .ty "str") (u := .type "str") (by rfl) Z2.str_ (by decide +kernel) rfl) pa_nil)))) (pss_one (ps_ret (pe_and (pe_callB call_isi (by rfl) Z.isinstance_ (by decide +kernel) (pa_cons (pv 0) (pa_cons (pe_bltn (v := .ty "str") (u := .type "str") (by rfl) Z2.str_ (by decide +kernel) rfl) pa_nil))) (pe_one (pe_cmpR (op_eqD hr.units) (pv 0) (pv 1) (nomark _)))))) pss_nil)
  (pss_cons (ps_if (PW.pt (pw_or (pt_cmpR op_ne (pe_callB call_isi (by rfl) Z.isinstance_ (by decide +kernel) (pa_cons (pv 1) (pa_cons (pe_bltn (v := .ty "tuple") (u := .type "tuple") (by rfl) Z.tuple_ (by decide +kernel) rfl) pa_nil))) (pe_callB call_isi (by rfl) Z.isinstance_ (by decide +kernel) (pa_cons (pv 0) (pa_cons (pe_bltn (v := .ty "tuple") (u := .type "tuple") (by rfl) Z.tuple_ (by decide +kernel) rfl) pa_nil))) (nomark _)) (pw_or1 (pt_cmpR op_ne (pe_callB call_isi (by rfl) Z.isinstance_ (by decide +kernel) (pa_cons (pv 1) (pa_cons (pe_bltn (v := .ty "list") (u := .type "list") (by rfl) Z.list_ (by decide +kernel) rfl) pa_nil))) (pe_callB call_isi (by rfl) Z.isinstance_ (by decide +kernel) (pa_cons (pv 0) (pa_cons (pe_bltn (v := .ty "list") (u := .type "list") (by rfl) Z.list_ (by decide +kernel) rfl) pa_nil))) (nomark _))))) (pss_one (ps_ret pe_bl)) pss_nil)
  (pss_cons (ps_if (pt_cmpR op_ne (pe_callB k_len (by rfl) Z.len_ (by decide +kernel) (pa_cons (pv 0) pa_nil)) (pe_callB k_len (by rfl) Z.len_ (by decide +kernel) (pa_cons (pv 1) pa_nil)) (nomark _)) (pss_one (ps_ret pe_bl)) pss_nil)
  (pss_one (ps_ret (pe_callB (cr_all rfl) (by rfl) Z.all_ (by decide +kernel) (pa_cons (pe_lc (own := [("_law_k", 2)]) (g := gName 2) (tt := tYes) rfl nd (pi_range1 rfl Z.range_ (pa_cons (pe_callB k_len (by rfl) Z.len_ (by decide +kernel) (pa_cons (pv 1) pa_nil)) pa_nil)) (blkOk_by (N := N__law_alike) (sc := C8.fnScope s__law_alike) (own := [("_law_k", 2)]) (by decide +kernel)) (fun _ _ _ _ _ => (pg_name (i := 2) nd rfl (Or.inl rfl))) (fun _ _ _ _ _ => pts_nil) (fun _ _ _ _ _ => (C8.pe_c c__law_alike hr (Nat.le_refl _) (by rfl) (pa_cons (pe_ix (show IxR _ (rIxT K) from ix_tup) (pv 0) (pv 2) (fun _ _ => rfl)) (pa_cons (pe_ix (show IxR _ (rIxT K) from ix_tup) (pv 1) (pv 2) (fun _ _ => rfl)) pa_nil))))) pa_nil)))))))))), ?_⟩
        refine i_start (σ' := [some u, some (.ref b), none]) rfl ?_
        walk_at "go"
        walk_at "r"
        refine i_no (by intro z; cases z) ?_
        walk_at "r"
        refine i_isi (b := false) tb (by rfl) ?_
        walk_at "r"
        refine i_isi (b := false) tb (by rfl) ?_
        walk_at "r"
        refine i_isi (b := false) tb (by rfl) ?_
        walk_at "r"
        refine i_isi (b := true) tb (by rfl) ?_
        walk_at "r"
        cases h1 with
        | non =>
          refine i_isi (b := false) (.base .non) (by rfl) ?_
          walk_at "r"
          refine i_nno (by decide) ?_
          walk_at "r"
          exact q H (Same.refl _)
        | bl c =>
          refine i_isi (b := false) (.base (.bl c)) (by rfl) ?_
          walk_at "r"
          refine i_nno (by decide) ?_
          walk_at "r"
          exact q H (Same.refl _)
        | int c =>
          refine i_isi (b := false) (.base (.int c)) (by rfl) ?_
          walk_at "r"
          refine i_nno (by decide) ?_
          walk_at "r"
          exact q H (Same.refl _)
        | str c oc =>
          refine i_isi (b := false) (.base (.str c)) (by rfl) ?_
          walk_at "r"
          refine i_nno (by decide) ?_
          walk_at "r"
          exact q H (Same.refl _)
        | lst ha la ia =>
          refine i_isi (b := false) (.base (.lst ha)) (by rfl) ?_
          walk_at "r"
          refine i_nno (by decide) ?_
          walk_at "r"
          exact q H (Same.refl _)
        | @tup a xs ds1 ha la ia =>
          have ta : TyX K H (.ref a) (.type "tuple") := .base (.tup ha)
          refine i_isi (b := true) ta (by rfl) ?_
          walk_at "r"
          refine i_nyes rfl ?_
          walk_at "r"
          refine i_isi (b := false) tb (by rfl) ?_
          walk_at "r"
          refine i_isi (b := false) ta (by rfl) ?_
          walk_at "r"
          refine i_nyes rfl ?_
          have ha' : SqT K H a xs := st_of ha
          have hb' : SqT K H b ys := st_of hb
          walk_at "r"
          refine i_nbr (fun c => ?_) (fun c => ?_)
          case refine_2 =>
            walk_at "r"
            have e : sameD (.tuple ds1) (.tuple ds2) = false := by
              rw [sameD]
              exact sameAll_len (by omega)
            rw [e] at q
            exact q H (Same.refl _)
          have le : ds1.length = ds2.length := by omega
          have l5 : ds2.length ≤ 50000 := hsm.1
          walk_at "r"
          refine i_lcR (F := fun i => some (V.bl (sameD (ds1.getD i .none) (ds2.getD i .none)))) ⟨by omega, by omega⟩ (fun i hi H1 s1 QN QY hN hY => ?_) (fun p H1 hp s1 e1 => ?_)
          · have hi2 : i < ds2.length := by omega
            have hi1 : i < ds1.length := by omega
            have ha1 := stup s1 ha'
            have hb1 := stup s1 hb'
            have g1 : xs[i]? = some xs[i] := List.getElem?_eq_getElem (by omega)
            have g2 : ys[i]? = some ys[i] := List.getElem?_eq_getElem (by omega)
            have hat : atI xs (i : Int) = some xs[i] := atI_nat g1
            have hbt : atI ys (i : Int) = some ys[i] := atI_nat g2
            walk_at "r"
            cases n with
            | zero =>
              rw [PyData.depth] at hdp
              omega
            | succ m =>
              rw [PyData.depth] at hdp
              refine ⟨_, _, ds1[i], ds2[i], rfl, (ia i hi1 _ g1).same s1, (ib i hi2 _ g2).same s1, hsm.2.get i hi2, depth_get (by omega) i hi2, fun H2 s2 => ?_⟩
              refine hY _ ?_ _ s2
              rw [List.getD_eq_getElem?_getD, List.getD_eq_getElem?_getD, List.getElem?_eq_getElem hi1, List.getElem?_eq_getElem hi2]
              rfl
          · rw [bools_map, show ((ys.length : Nat) : Int).toNat = ds2.length by omega] at e1
            walk_at "r"
            refine i_all (sl_of e1) ?_
            rw [← sameAll_all le, show sameAll ds1 ds2 = sameD (.tuple ds1) (.tuple ds2) by rw [sameD]]
            exact q _ s1
  intro n
  induction n with
  | zero => exact step 0 (by
      have z := c_never (P := P) (w := w) (base := base) (k := 0) d
      exact z)
  | succ m ih => exact step (m + 1) ih
end
end Esc

namespace Esc
open PySem PySem.Spec PyProof.Rows L2
section
variable {P : Program} {w : World} {K : PySem.W.Frag} {mg : Str → Option Value} {base : Heap}
def spFromR (K : PySem.W.Frag) (good : Int → Int → Kind → Prop) : Sp := fun vs H Q _ => ∃ (p b : Addr) (t e : Int) (k : Kind) (row : List Int), vs = [.ref p, .ref b] ∧ good t e k ∧ KindAt K H p t e k ∧ KindOk t e k ∧ 3 ≤ t ∧ t ≤ 16 ∧ 0 ≤ e ∧ e < t ∧
  SqL K H b (row.map V.int) ∧ (∀ x ∈ row, Plain t e x) ∧ row.length ≤ 400 ∧ (∀ r, fromK t e k row = some r → ∀ q H', H q = none → Same H H' → H' q = some (.lst (r.map V.int)) → Q (.ref q) H') ∧ (fromK t e k row = none → ∀ H', Same H H' → Q .non H')
theorem opt_none {α : Type} {x : Option α} {f : α → α} (h : x = none) : x.map f = none := by rw [h]; rfl
end
end Esc

namespace Esc
open PySem PySem.Spec PyProof.Rows L2
section
variable {P : Program} {w : World} {K : PySem.W.Frag} {mg : Str → Option Value} {base : Heap}
end
end Esc

namespace Esc
open PySem PySem.Spec PyProof.Rows L2
def kStar (K : PySem.W.Frag) (t : TA) (Q : List V → Hp → Prop) (σ : L2.St) : VK := fun x H1 => ∃ p xs, x = V.ref p ∧ (SqT K H1 p xs ∨ SqL K H1 p xs) ∧ t σ H1 fun ys H2 => Q (xs ++ ys) H2
def kStar2 (Q : List V → Hp → Prop) (xs : List V) : List V → Hp → Prop := fun ys H2 => Q (xs ++ ys) H2
instance {K : PySem.W.Frag} {te : TE} {t : TA} {σ : L2.St} {H : Hp} {Q : List V → Hp → Prop} : Step (StX.tStar K te t σ H Q) (te σ H (kStar K t Q σ)) := ⟨fun h => h⟩
instance {H : Hp} {Q : List V → Hp → Prop} {xs ys : List V} : Step (kStar2 Q xs ys H) (Q (xs ++ ys) H) := ⟨fun h => h⟩
theorem i_star {K : PySem.W.Frag} {t : TA} {Q : List V → Hp → Prop} {σ : L2.St} {H : Hp} {p : Addr} {xs : List V} (h : SqT K H p xs) (q : t σ H (kStar2 Q xs)) : kStar K t Q σ (.ref p) H := ⟨p, xs, rfl, .inl h, q⟩
theorem i_truT {K : PySem.W.Frag} {H : Hp} {Q : Bool → Hp → Prop} {a : Addr} {xs : List V} (h : SqT K H a xs) (q : Q (!xs.isEmpty) H) : kTru K Q (.ref a) H := ⟨_, .inr (.inl ⟨xs, h, rfl⟩), q⟩
def ck : Nat → List (List Int) → List (List Key × V)
  | _, [] => []
  | n, c :: r => (ks c, V.int (n : Int)) :: ck (n + 1) r
theorem ck_len : ∀ (r : List (List Int)) (n : Nat), (ck n r).length = r.length
  | [], _ => rfl
  | _ :: r, n => congrArg (· + 1) (ck_len r (n + 1))
theorem ck_snoc : ∀ (r : List (List Int)) (n : Nat) (c : List Int), ck n (r ++ [c]) = ck n r ++ [(ks c, V.int ((n + r.length : Nat) : Int))]
  | [], n, c => rfl
  | x :: r, n, c => by
    show _ :: ck (n + 1) (r ++ [c]) = _
    rw [ck_snoc r (n + 1) c]
    show _ = _ :: (ck (n + 1) r ++ _)
    rw [List.length_cons, show n + 1 + r.length = n + (r.length + 1) by omega]
theorem ck_none : ∀ (r : List (List Int)) (n : Nat) (c : List Int), c ∉ r → valV (ck n r) (ks c) = none
  | [], _, _, _ => rfl
  | y :: r, n, c, h => by
    show valV ((ks y, V.int (n : Int)) :: ck (n + 1) r) _ = _
    rw [valV_neg (fun e => h (by rw [ks_inj e]; exact List.mem_cons_self)), ck_none r (n + 1) c fun m => h (List.mem_cons_of_mem _ m)]
theorem ck_some : ∀ (r : List (List Int)) (n j : Nat) (c : List Int), r.Nodup → r[j]? = some c → valV (ck n r) (ks c) = some (V.int ((n + j : Nat) : Int))
  | [], _, _, _, _, h => by simp at h
  | y :: r, n, 0, c, _, h => by
    cases h
    show valV ((ks y, V.int (n : Int)) :: ck (n + 1) r) _ = _
    rw [valV_pos rfl]
    rfl
  | y :: r, n, j + 1, c, hn, h => by
    have h : r[j]? = some c := h
    obtain ⟨n1, n2⟩ := List.nodup_cons.mp hn
    show valV ((ks y, V.int (n : Int)) :: ck (n + 1) r) _ = _
    rw [valV_neg (fun e => n1 (by rw [ks_inj e]; exact List.mem_of_getElem? h)), ck_some r (n + 1) j c n2 h, show n + 1 + j = n + (j + 1) by omega]
section
variable {P : Program} {w : World} {K : PySem.W.Frag} {mg : Str → Option Value} {base : Heap}
end
end Esc

namespace Esc
open PySem PySem.Spec PyProof.Rows L2
section
variable {P : Program} {w : World} {K : PySem.W.Frag} {mg : Str → Option Value} {base : Heap}
end
end Esc

namespace Esc
open PySem PySem.Spec PyProof.Rows L2
theorem TurnAt.memD {K : PySem.W.Frag} {H : Hp} : ∀ {tas : List (Addr × List Int)} {v u : V}, TurnAt K H tas v u → ∀ x ∈ tas, TupD H x.1 (x.2.map V.int)
  | [], _, _, _, x, m => by cases m
  | (a, t) :: r, _, _, ⟨p, y, _, _, h2, h3⟩, x, m => by
    rcases List.mem_cons.mp m with rfl | m
    · exact h2
    · exact h3.memD x m
section
variable {P : Program} {w : World} {K : PySem.W.Frag} {mg : Str → Option Value} {base : Heap}
def spTopOf (K : PySem.W.Frag) : Sp := fun vs H Q _ => ∃ (v : V) (wy : Way), vs = [v] ∧ WayAt K H v wy ∧ wy.Ok ∧ ∀ H', Same H H' → Q (.int wy.t) H'
def spBodyN (K : PySem.W.Frag) (n : Nat) : Sp := fun vs H Q _ => ∃ (v : V) (a : Addr) (wy : Way) (ns : List Int), vs = [v, .ref a] ∧ WayAt K H v wy ∧ wy.Ok ∧ SqL K H a (ns.map V.int) ∧ (∀ x ∈ ns, 0 ≤ x ∧ x < wy.t) ∧ ns.length ≤ n ∧ ∀ H', Same H H' → Q .non H'
/-- the four readers, where READERS has them -/
structure Readers (P : Program) (w : World) (K : PySem.W.Frag) (mg : Str → Option Value) (base : Heap) (pF : Addr) : Prop where
  codes : ∃ f, mg "from_codes" = some (.ref f) ∧ KDct K w pF "codes" (.ref f) ∧ C8.Cal P w K mg base 1 "from_codes" (spFromR K isCodes) []
  escapes : ∃ f, mg "from_escapes" = some (.ref f) ∧ KDct K w pF "escapes" (.ref f) ∧ C8.Cal P w K mg base 1 "from_escapes" (spFromR K isEscapes) []
  counts : ∃ f, mg "from_counts" = some (.ref f) ∧ KDct K w pF "counts" (.ref f) ∧ C8.Cal P w K mg base 2 "from_counts" (spFromR K isCounts) []
  ranks : ∃ f, mg "from_ranks" = some (.ref f) ∧ KDct K w pF "ranks" (.ref f) ∧ C8.Cal P w K mg base 2 "from_ranks" (spFromR K isRanks) []
theorem Readers.of {pF : Addr} (F : Readers P w K mg base pF) (k : Kind) : ∃ (fa : Addr) (sp : Sp), Held P w K mg base 3 fa sp ∧ KDct K w pF k.name (.ref fa) ∧
    ∀ (p b : Addr) (t e : Int) (row : List Int) H Q E, KindAt K H p t e k → KindOk t e k → 3 ≤ t → t ≤ 16 → 0 ≤ e → e < t → SqL K H b (row.map V.int) → (∀ x ∈ row, Plain t e x) → row.length ≤ 400 →
      (∀ r, fromK t e k row = some r → ∀ q H', H q = none → Same H H' → H' q = some (.lst (r.map V.int)) → Q (.ref q) H') → (fromK t e k row = none → ∀ H', Same H H' → Q .non H') → sp [.ref p, .ref b] H Q E := by
  cases k with
  | codes cs =>
    obtain ⟨f, h1, h2, c⟩ := F.codes
    exact ⟨f, _, held_of c h1 (by decide), h2, fun p b t e row H Q E a1 a2 a3 a4 a5 a6 a7 a8 a9 q qn => ⟨p, b, t, e, _, row, rfl, ⟨cs, rfl⟩, a1, a2, a3, a4, a5, a6, a7, a8, a9, q, qn⟩⟩
  | escapes m prs =>
    obtain ⟨f, h1, h2, c⟩ := F.escapes
    exact ⟨f, _, held_of c h1 (by decide), h2, fun p b t e row H Q E a1 a2 a3 a4 a5 a6 a7 a8 a9 q qn => ⟨p, b, t, e, _, row, rfl, ⟨m, prs, rfl⟩, a1, a2, a3, a4, a5, a6, a7, a8, a9, q, qn⟩⟩
  | counts l =>
    obtain ⟨f, h1, h2, c⟩ := F.counts
    exact ⟨f, _, held_of c h1 (by decide), h2, fun p b t e row H Q E a1 a2 a3 a4 a5 a6 a7 a8 a9 q qn => ⟨p, b, t, e, _, row, rfl, ⟨l, rfl⟩, a1, a2, a3, a4, a5, a6, a7, a8, a9, q, qn⟩⟩
  | ranks =>
    obtain ⟨f, h1, h2, c⟩ := F.ranks
    exact ⟨f, _, held_of c h1 (by decide), h2, fun p b t e row H Q E a1 a2 a3 a4 a5 a6 a7 a8 a9 q qn => ⟨p, b, t, e, _, row, rfl, rfl, a1, a2, a3, a4, a5, a6, a7, a8, a9, q, qn⟩⟩
/-- what is told of a list: an own list, or None -/
def TellO (H : Hp) (o : Option (List Int)) (Q : VK) : Prop := (∀ b, o = some b → ∀ q H', H q = none → Same H H' → H' q = some (.lst (b.map V.int)) → Q (.ref q) H') ∧ (o = none → ∀ H', Same H H' → Q .non H')
theorem TellO.mono {H H1 : Hp} {o : Option (List Int)} {Q : VK} (s : Same H H1) (h : TellO H o Q) : TellO H1 o Q :=
  ⟨fun b e q H' hq s2 e2 => h.1 b e q H' (s.free hq) (s.trans s2) e2, fun e H' s2 => h.2 e H' (s.trans s2)⟩
theorem tell_frame {H : Hp} {Q : VK} {wy : Way} (ok : wy.Ok) {b : List Int} (h : ∀ x ∈ b, 0 ≤ x ∧ x < wy.t) (hl : b.length ≤ 60) (q : ∀ q H', H q = none → Same H H' → H' q = some (.lst (b.map V.int)) → Q (.ref q) H') : TellO H (readW wy (frameW wy b)) Q := by
  rw [readW_frame ok h hl]
  exact ⟨fun b e => (by cases e; exact q), fun e => (by cases e)⟩
theorem tell_cnt {H : Hp} {Q : VK} {wy : Way} {ns : List Int} (h : ns.count wy.e ≠ 1) (q : ∀ H', Same H H' → Q .non H') : TellO H (readW wy ns) Q := by
  have e : readW wy ns = none := by
    unfold readW
    rw [if_neg fun z => h z.2.1]
  rw [e]
  exact ⟨fun b e => (by cases e), fun _ => q⟩
def spTakenR (K : PySem.W.Frag) : Sp := fun vs H Q _ => ∃ (v : V) (a : Addr) (wy : Way) (ns : List Int), vs = [v, .ref a] ∧ WayAt K H v wy ∧ wy.Ok ∧ SqL K H a (ns.map V.int) ∧ (∀ x ∈ ns, 0 ≤ x ∧ x < wy.t) ∧ ns.length ≤ 20000 ∧ TellO H (readW wy ns) Q
theorem readW_none {wy : Way} {ns : List Int} (h : ¬ isFr wy.e ns) : readW wy ns = none := by
  unfold readW
  rw [if_neg h]
def spFramed (K : PySem.W.Frag) : Sp := fun vs H Q _ => ∃ (v : V) (b : Addr) (wy : Way) (body : List Int), vs = [v, .ref b] ∧ WayAt K H v wy ∧ wy.Ok ∧ SqL K H b (body.map V.int) ∧ (∀ x ∈ body, 0 ≤ x ∧ x < wy.t) ∧ body.length ≤ 60 ∧
  ∀ q H', H q = none → Same H H' → H' q = some (.lst ((frameW wy body).map V.int)) → Q (.ref q) H'
def spTakenB (K : PySem.W.Frag) : Sp := fun vs H Q _ => ∃ (v : V) (a : Addr) (wy : Way) (ns : List Int), vs = [v, .ref a] ∧ WayAt K H v wy ∧ wy.Ok ∧ SqL K H a (ns.map V.int) ∧ (∀ x ∈ ns, 0 ≤ x ∧ x < wy.t) ∧ ns.length ≤ 400 ∧ TellO H (readW wy ns) Q
end
end Esc

/-! _law_is, _law_alike where an exception is handled. -/
namespace Esc
open PySem PySem.Spec PyProof.Rows L2 L2H
/-- the own kinds of error, their classes at c 0 .. c 4, RowError at cR -/
structure ExcTab (K : PySem.W.Frag) (mg : Str → Option Value) (c : Nat → Addr) (cR : Addr) : Prop where
  mW : mg "BadWay" = some (.ref (c 0))
  mB : mg "BadBody" = some (.ref (c 1))
  mS : mg "BadSigns" = some (.ref (c 2))
  mT : mg "OtherTop" = some (.ref (c 3))
  mX : mg "BadText" = some (.ref (c 4))
  mR : mg "RowError" = some (.ref cR)
  val : mg "ValueError" = none
  one : ∀ i < 5, ∀ j < 5, PySem.W.kitOne K (.ref (c i)) (.ref (c j)) = some (decide (i = j))
  isv : ∀ i < 5, PySem.W.kitOne K (.ref (c i)) (.type "ValueError") = some true
  exc : ∀ i < 5, ExcC K (c i)
  xf : ∀ i < 5, XfC K (c i)
  noW : PySem.W.findIn K (.ref (c 0)) "why" = some none
  noA1 : PySem.W.findIn K (.ref (c 1)) "at" = some none
  noA2 : PySem.W.findIn K (.ref (c 2)) "at" = some none
  row : ∀ i < 5, PySem.W.exmOne K (.ref (c i)) (.ref cR) = some true
theorem unitsH {k : Nat} {A : Around} (r : RoomH k A) : A.units + 64 < cLine := by have := r.un; omega
section
variable {P : Program} {w : World} {K : PySem.W.Frag} {mg : Str → Option Value} {base : Heap} {c : Nat → Addr} {cR : Addr} {H : Hp} {Q : VK} {p : Addr × Obj} {i j : Nat} {d : Option Addr}
theorem i_isP (T : ExcTab K mg c cR) (hi : i < 5) (hj : j < 5) (hz : Zc (.ref (c i)) d p.2) (hf : ∃ us, p.2.data = .fields us) (hd : DctX H d) (q : Q (.bl (decide (i = j))) H) : rIsP K p [.ref p.1, .ref (c j)] H Q :=
  ⟨c i, d, .ref (c j), .ref (c j), _, rfl, hz, hf, hd, T.exc i hi, fun u r => r, T.one i hi j hj, q⟩
theorem i_isV (T : ExcTab K mg c cR) (hi : i < 5) (hz : Zc (.ref (c i)) d p.2) (hf : ∃ us, p.2.data = .fields us) (hd : DctX H d) (q : Q (.bl true) H) : rIsP K p [.ref p.1, .ty "ValueError"] H Q :=
  ⟨c i, d, .ty "ValueError", .type "ValueError", _, rfl, hz, hf, hd, T.exc i hi, fun u r => r, T.isv i hi, q⟩
theorem DctX.same {H' : Hp} (h : DctX H d) (s : Same H H') : DctX H' d := by
  cases d with
  | none => trivial
  | some dd =>
    obtain ⟨fs, e⟩ := h
    exact ⟨fs, s _ _ e⟩
theorem eqvAll_bools : ∀ xs ys : List Bool, PyData.eqvAll (xs.map PyData.bool) (ys.map PyData.bool) = decide (xs = ys)
  | [], [] => by simp [PyData.eqvAll]
  | [], _ :: _ => by simp [PyData.eqvAll]
  | _ :: _, [] => by simp [PyData.eqvAll]
  | x :: xs, y :: ys => by
    rw [List.map_cons, List.map_cons, PyData.eqvAll, eqvAll_bools xs ys]
    by_cases h : x = y
    · rw [h]
      simp [PyData.eqv]
    · simp [PyData.eqv, h]
theorem lay_bools : ∀ xs : List Bool, PyData.canLayAll0 (xs.map PyData.bool) = true
  | [] => by simp [PyData.canLayAll0]
  | x :: xs => by
    rw [List.map_cons, PyData.canLayAll0, lay_bools xs]
    simp [PyData.canLay0]
theorem depth_bools : ∀ xs : List Bool, PyData.depthAll (xs.map PyData.bool) = 0
  | [] => by simp [PyData.depthAll]
  | x :: xs => by
    rw [List.map_cons, PyData.depthAll, depth_bools xs]
    simp [PyData.depth]
theorem shaped_bools (xs : List Bool) : SeqAt.shaped (PyData.list (xs.map PyData.bool)) = true := by
  unfold SeqAt.shaped
  rw [PyData.canLay0, lay_bools, PyData.depth, depth_bools]
  rfl
theorem dpa_bools {K : PySem.W.Frag} {H : Hp} : ∀ xs : List Bool, DpAll K H (xs.map V.bl) (xs.map PyData.bool)
  | [] => .nil
  | x :: xs => .cons (.bl x) (dpa_bools xs)
theorem i_eqBL {K : PySem.W.Frag} {H : Hp} {Q : VK} {a b : Addr} {xs ys : List Bool} (h : SqL K H a (xs.map V.bl)) (h' : SqL K H b (ys.map V.bl)) (q : Q (.bl (decide (xs = ys))) H) : rEqD K (.ref a) (.ref b) H Q :=
  ⟨_, _, .lst h (dpa_bools xs), .lst h' (dpa_bools ys), shaped_bools xs, shaped_bools ys, by
    rw [PyData.eqv, eqvAll_bools]
    exact q⟩
def kindWord (i : Nat) : Str := ["way", "body", "signs", "top", "text"].getD i ""
theorem kind_eq {i : Nat} (hi : i < 5) (wd : Str) : decide (([decide (i = 0), decide (i = 1), decide (i = 2), decide (i = 3), decide (i = 4)] : List Bool) = (List.range 5).map fun j => decide (wd = kindWord j)) = decide (wd = kindWord i) := by
  rw [show List.range 5 = [0, 1, 2, 3, 4] from rfl]
  have h5 : i = 0 ∨ i = 1 ∨ i = 2 ∨ i = 3 ∨ i = 4 := by omega
  by_cases h : wd = kindWord i
  · rcases h5 with rfl | rfl | rfl | rfl | rfl <;> (subst h; decide +kernel)
  · rw [decide_eq_false h]
    refine decide_eq_false fun z => ?_
    simp only [List.map_cons, List.map_nil, List.cons.injEq] at z
    obtain ⟨z0, z1, z2, z3, z4, _⟩ := z
    have ht : decide (i = i) = true := by simp
    rcases h5 with rfl | rfl | rfl | rfl | rfl
    · exact h (of_decide_eq_true (z0.symm.trans ht))
    · exact h (of_decide_eq_true (z1.symm.trans ht))
    · exact h (of_decide_eq_true (z2.symm.trans ht))
    · exact h (of_decide_eq_true (z3.symm.trans ht))
    · exact h (of_decide_eq_true (z4.symm.trans ht))
def spIs (c : Nat → Addr) : Addr × Obj → Sp := fun p vs H Q _ => ∃ (i : Nat) (w : Str) (d : Option Addr), i < 5 ∧ vs = [.ref p.1, .str w] ∧ PyData.strOk w = true ∧ Zc (.ref (c i)) d p.2 ∧ (∃ us, p.2.data = .fields us) ∧ DctX H d ∧ ∀ H', Same H H' → Q (.bl (decide (w = kindWord i))) H'
theorem c_law_is (Z : Blt mg) (ET : ExcTab K mg c cR) (d : Dd K mg "_law_is" s__law_is P__law_is) : CalQ P w K mg base 1 "_law_is" (spIs c) := by
  have m_BadWay : ∃ u, mg "BadWay" = some u ∧ RelV (.ref (c 0)) u := ⟨_, ET.mW, rfl⟩
  have m_BadBody : ∃ u, mg "BadBody" = some u ∧ RelV (.ref (c 1)) u := ⟨_, ET.mB, rfl⟩
  have m_BadSigns : ∃ u, mg "BadSigns" = some u ∧ RelV (.ref (c 2)) u := ⟨_, ET.mS, rfl⟩
  have m_OtherTop : ∃ u, mg "OtherTop" = some u ∧ RelV (.ref (c 3)) u := ⟨_, ET.mT, rfl⟩
  have m_BadText : ∃ u, mg "BadText" = some u ∧ RelV (.ref (c 4)) u := ⟨_, ET.mX, rfl⟩
  refine d.calQ sc__law_is (fun p vs H Q E h => ?_) (fun f cdv A outer s H vs Q p hot hr h => ?_)
  · obtain ⟨i, w, d, _, rfl, _⟩ := h
    rfl
  · obtain ⟨i, wd, dx, hi, rfl, ok, hz, hf, hd, q⟩ := h
    have nd := sc__law_is.nd
    have hotc : HotC (cxH C8.CX0 P w K mg base N__law_is "_law_is" (C8.fnScope s__law_is) f cdv A outer s H C8.E0 p) := ⟨p, hot, List.mem_singleton_self _⟩
    refine ⟨_, (pss_cons (ps_set (i := 2) nd rfl (Or.inl rfl) (pe_lst (pa_cons (pe_callB (call_isP (p := p) (List.mem_singleton_self _)) (by rfl) Z.isinstance_ (by decide +kernel) (pa_cons (pv 0) (pa_cons (C8.pe_gc rfl m_BadWay) pa_nil))) (pa_cons (pe_callB (call_isP (p := p) (List.mem_singleton_self _)) (by rfl) Z.isinstance_ (by decide +kernel) (pa_cons (pv 0) (pa_cons (C8.pe_gc rfl m_BadBody) pa_nil))) (pa_cons (pe_callB (call_isP (p := p) (List.mem_singleton_self _)) (by rfl) Z.isinstance_ (by decide +kernel) (pa_cons (pv 0) (pa_cons (C8.pe_gc rfl m_BadSigns) pa_nil))) (pa_cons (pe_callB (call_isP (p := p) (List.mem_singleton_self _)) (by rfl) Z.isinstance_ (by decide +kernel) (pa_cons (pv 0) (pa_cons (C8.pe_gc rfl m_OtherTop) pa_nil))) pa_nil))))))
  (pss_cons (ps_expr (pe_bm PySem.F.plainAttrs_list PySem.F.slot_list_append PySem.F.type_list_append mt_append (pv 2) (pa_cons (pe_callB (call_isP (p := p) (List.mem_singleton_self _)) (by rfl) Z.isinstance_ (by decide +kernel) (pa_cons (pv 0) (pa_cons (C8.pe_gc rfl m_BadText) pa_nil))) pa_nil)))
  (pss_cons (ps_set (i := 3) nd rfl (Or.inl rfl) (pe_lst (pa_cons pe_str (pa_cons pe_str (pa_cons pe_str (pa_cons pe_str (pa_cons pe_str pa_nil)))))))
  (pss_one (ps_ret (pe_and (pe_callB (call_isP (p := p) (List.mem_singleton_self _)) (by rfl) Z.isinstance_ (by decide +kernel) (pa_cons (pv 0) (pa_cons (pe_bltn (v := .ty "ValueError") (u := .type "ValueError") (by rfl) ET.val (by decide +kernel) rfl) pa_nil))) (pe_one (pe_cmpR (op_eqD (unitsH hr)) (pv 2) (pe_lcQ (own := [("_law_one", 4)]) (g := gName 4) hotc nd (pv 3) (blkOk_by (N := N__law_is) (sc := C8.fnScope s__law_is) (own := [("_law_one", 4)]) (by decide +kernel)) (fun _ _ _ _ _ => (pg_name (i := 4) nd rfl (Or.inl rfl))) (fun _ _ _ _ _ => (pe_cmpR op_eq (pv 1) (pv 4) (nomark _)))) (nomark _))))))))), ?_⟩
    refine i_start (σ' := [some (.ref p.1), some (.str wd), none, none, none]) rfl ?_
    walk_at "go"
    walk_at "r"
    refine i_isP ET hi (j := 0) (by decide) hz hf hd ?_
    walk_at "r"
    refine i_isP ET hi (j := 1) (by decide) hz hf hd ?_
    walk_at "r"
    refine i_isP ET hi (j := 2) (by decide) hz hf hd ?_
    walk_at "r"
    refine i_isP ET hi (j := 3) (by decide) hz hf hd ?_
    walk_at "r"
    refine i_lst (by show 4 ≤ 16777216; decide) fun kd H1 hk s1 e1 => ?_
    walk_at "r"
    refine i_isP ET hi (j := 4) (by decide) hz hf (hd.same s1) ?_
    walk_at "r"
    have s2 : Same H (upd H1 kd (HO.lst ([V.bl (decide (i = 0)), V.bl (decide (i = 1)), V.bl (decide (i = 2)), V.bl (decide (i = 3))] ++ [V.bl (decide (i = 4))]))) := smut s1 hk
    have e2 : SqL K (upd H1 kd (HO.lst ([V.bl (decide (i = 0)), V.bl (decide (i = 1)), V.bl (decide (i = 2)), V.bl (decide (i = 3))] ++ [V.bl (decide (i = 4))]))) kd (([decide (i = 0), decide (i = 1), decide (i = 2), decide (i = 3), decide (i = 4)] : List Bool).map V.bl) := sl_of upd_same
    generalize upd H1 kd (HO.lst ([V.bl (decide (i = 0)), V.bl (decide (i = 1)), V.bl (decide (i = 2)), V.bl (decide (i = 3))] ++ [V.bl (decide (i = 4))])) = H2 at s2 e2 ⊢
    refine i_lst (by show 5 ≤ 16777216; decide) fun wl H3 hw s3 e3 => ?_
    walk_at "r"
    refine i_isV ET hi hz hf (hd.same (s2.trans s3)) ?_
    walk_at "r"
    have e3' : SqL K H3 wl ((List.range 5).map fun j => V.str (kindWord j)) := sl_of e3
    refine i_lcL (F := fun x => match x with | .str a => some (V.bl (decide (wd = a))) | _ => none) e3' (by decide) (fun x hx H4 s4 QN QY hN hY => ?_) (fun a H4 ha s4 e4 => ?_)
    · obtain ⟨j, hj, rfl⟩ := List.mem_map.mp hx
      walk_at "r"
      exact hY _ (by rfl) H4 (Same.refl _)
    · have e4' : SqL K H4 a ((((List.range 5).map fun j => decide (wd = kindWord j)) : List Bool).map V.bl) := sl_of e4
      refine i_eqBL (s4.seq (s3.seq e2)) e4' ?_
      walk_at "r"
      have z : decide (([decide (i = 0), decide (i = 1), decide (i = 2), decide (i = 3), decide (i = 4)] : List Bool) = (List.range 5).map fun j => decide (wd = kindWord j)) = decide (wd = kindWord i) := kind_eq hi wd
      rw [z]
      exact q _ ((s2.trans s3).trans s4)
def spAlikeQ : Addr × Obj → Sp := fun _ vs H Q _ => (∃ i j : Int, vs = [.int i, .int j] ∧ ∀ H', Same H H' → Q (.bl (decide (i = j))) H') ∨ (∃ a b : Str, PyData.strOk a = true ∧ PyData.strOk b = true ∧ vs = [.str a, .str b] ∧ ∀ H', Same H H' → Q (.bl (decide (a = b))) H')
theorem c_law_alikeQ (Z : Blt mg) (Z2 : Blt2 mg) (d : Dd K mg "_law_alike" s__law_alike P__law_alike) : CalQ P w K mg base 1 "_law_alike" spAlikeQ := by
  refine d.calQ sc__law_alike (fun p vs H Q E h => ?_) (fun f cdv A outer s H vs Q p hot hr h => ?_)
  · rcases h with ⟨i, j, rfl, _⟩ | ⟨a, b, _, _, rfl, _⟩ <;> rfl
  · have nd := sc__law_alike.nd
    refine ⟨_, (pss_cons (ps_if (pt_cmpR k_isN (pv 1) pe_non (nomark _)) (pss_one (ps_ret (pe_cmpR k_isN (pv 0) pe_non (nomark _)))) pss_nil)
  (pss_cons (ps_if (pt_val (pe_callB call_isi (by rfl) Z.isinstance_ (by decide +kernel) (pa_cons (pv 1) (pa_cons (pe_bltn (v := .ty "bool") (u := .type "bool") (by rfl) Z2.bool_ (by decide +kernel) rfl) pa_nil)))) (pss_one (ps_ret (pe_and (pe_callB call_isi (by rfl) Z.isinstance_ (by decide +kernel) (pa_cons (pv 0) (pa_cons (pe_bltn (v := .ty "bool") (u := .type "bool") (by rfl) Z2.bool_ (by decide +kernel) rfl) pa_nil))) (pe_one (pe_cmpR (op_eqD (unitsH hr)) (pv 0) (pv 1) (nomark _)))))) pss_nil)
  (pss_cons (ps_if (pt_val (pe_callB call_isi (by rfl) Z.isinstance_ (by decide +kernel) (pa_cons (pv 1) (pa_cons (pe_bltn (v := .ty "int") (u := .type "int") (by rfl) Z.int_ (by decide +kernel) rfl) pa_nil)))) (pss_one (ps_ret (pe_and (pe_callB call_isi (by rfl) Z.isinstance_ (by decide +kernel) (pa_cons (pv 0) (pa_cons (pe_bltn (v := .ty "int") (u := .type "int") (by rfl) Z.int_ (by decide +kernel) rfl) pa_nil))) (pe_and (pe_not (pe_callB call_isi (by rfl) Z.isinstance_ (by decide +kernel) (pa_cons (pv 0) (pa_cons (pe_bltn (v := .ty "bool") (u := .type "bool") (by rfl) Z2.bool_ (by decide +kernel) rfl) pa_nil)))) (pe_one (pe_cmpR (op_eqD (unitsH hr)) (pv 0) (pv 1) (nomark _))))))) pss_nil)
  (pss_cons (ps_if (pt_val (pe_callB call_isi (by rfl) Z.isinstance_ (by decide +kernel) (pa_cons (pv 1) (pa_cons (pe_bltn (v := .ty "str") (u := .type "str") (by rfl) Z2.str_ (by decide +kernel) rfl) pa_nil)))) (pss_one (ps_ret (pe_and (pe_callB call_isi (by rfl) Z.isinstance_ (by decide +kernel) (pa_cons (pv 0) (pa_cons (pe_bltn (v := .ty "str") (u := .type "str") (by rfl) Z2.str_ (by decide +kernel) rfl) pa_nil))) (pe_one (pe_cmpR (op_eqD (unitsH hr)) (pv 0) (pv 1) (nomark _)))))) pss_nil)
  pss_never)))), ?_⟩
    rcases h with ⟨i, j, rfl, q⟩ | ⟨a, b, oa, ob, rfl, q⟩
    · refine i_start (σ' := [some (.int i), some (.int j), none]) rfl ?_
      walk_at "go"
      walk_at "r"
      refine i_no (by intro z; cases z) ?_
      walk_at "r"
      refine i_isi (b := false) (.base (.int j)) (by rfl) ?_
      walk_at "r"
      refine i_isi (b := true) (.base (.int j)) (by rfl) ?_
      walk_at "r"
      refine i_isi (b := true) (.base (.int i)) (by rfl) ?_
      walk_at "r"
      refine i_isi (b := false) (.base (.int i)) (by rfl) ?_
      walk_at "r"
      refine i_eqI ?_
      exact q H (Same.refl _)
    · refine i_start (σ' := [some (.str a), some (.str b), none]) rfl ?_
      walk_at "go"
      walk_at "r"
      refine i_no (by intro z; cases z) ?_
      walk_at "r"
      refine i_isi (b := false) (.base (.str b)) (by rfl) ?_
      walk_at "r"
      refine i_isi (b := false) (.base (.str b)) (by rfl) ?_
      walk_at "r"
      refine i_isi (b := true) (.base (.str b)) (by rfl) ?_
      walk_at "r"
      refine i_isi (b := true) (.base (.str a)) (by rfl) ?_
      walk_at "r"
      refine i_eqS oa ob ?_
      exact q H (Same.refl _)
end
end Esc

/-! _law_refused: a lambda's work, refused with a value. -/
namespace Esc
open PySem PySem.Spec PyProof.Rows L2 L2H LamX
section
variable {P : Program} {w : World} {K : PySem.W.Frag} {mg : Str → Option Value} {base : Heap} {c : Nat → Addr} {cR : Addr}
theorem hu_mark {k : Nat} {A : Around} {h : Option Value} (r : Room k A) : (A.mark h).units + 1 < cLine := by
  have := r.un
  show A.units + 1 < _
  omega
/-- what the error of the kind i tells -/
def FldOk (i : Nat) (val : V) (d : Option Addr) (H : Hp) : Prop :=
  (i = 0 ∧ ∃ (dd : Addr) (fs : List (Str × V)) (s : Str), d = some dd ∧ H dd = some (.xd fs) ∧ fs.lookup ("why" : Str) = some (.str s) ∧ val = .str s ∧ PyData.strOk s = true) ∨
  ((i = 1 ∨ i = 2) ∧ ∃ (dd : Addr) (fs : List (Str × V)) (n : Int), d = some dd ∧ H dd = some (.xd fs) ∧ fs.lookup ("at" : Str) = some (.int n) ∧ val = .int n) ∨ ((i = 3 ∨ i = 4) ∧ DctX H d)
theorem FldOk.dct {i : Nat} {val : V} {d : Option Addr} {H : Hp} (h : FldOk i val d H) : DctX H d := by
  rcases h with ⟨_, dd, fs, s, rfl, e, _⟩ | ⟨_, dd, fs, n, rfl, e, _⟩ | ⟨_, h⟩
  · exact ⟨fs, e⟩
  · exact ⟨fs, e⟩
  · exact h
/-- what _law_refused makes of the lambda's reading -/
def TRef (c : Nat → Addr) : List V → (XK → Hp → VK → Prop) → Hp → VK → Prop := fun vs tl H Q => ∃ (wd : Str) (val : V), vs = [.str wd, val] ∧ PyData.strOk wd = true ∧
  tl (fun cls d H' => ∃ i, i < 5 ∧ wd = kindWord i ∧ cls = .ref (c i) ∧ FldOk i val d H' ∧ ∀ H'', Same H' H'' → Q (.bl true) H'') H (fun _ H' => Q (.bl false) H')
theorem refused_gives {X : Cx} {g : Addr} {cdg : Value} {q : Str} {vs : List V} (Z : Blt X.mg) (ET : ExcTab X.K X.mg c cR) (hvs : vs.length = 2)
    (c__law_is : CalQ X.prog X.w X.K X.mg X.base 1 "_law_is" (spIs c)) (c__law_alike : CalQ X.prog X.w X.K X.mg X.base 1 "_law_alike" spAlikeQ) :
    GivesTo3 X N__law_refused "_law_refused" (C8.fnScope s__law_refused) g cdg (C8.fnBody s__law_refused) "_law_work" q vs (TRef c vs) := by
  intro f c' s H Q tl hr act hc h
  have nd := sc__law_refused.nd
  have XW := ET.xf 0 (by decide)
  have XB := ET.xf 1 (by decide)
  have XS := ET.xf 2 (by decide)
  refine ⟨_, pss_cons (L2N.ps_try_as (X := (cxOf C8.CX0 X.prog X.w X.K X.mg X.base N__law_refused "_law_refused" (C8.fnScope s__law_refused) g cdg X.A X.stack s H C8.E0).nox) (i := 3) (c := .ref cR)
      (tb := fun W D σ H => ∃ Ech : XK, (∀ cls d H', Ech cls d H' → W cls d σ H') ∧ σ[0]? = some (some (.ref f)) ∧ H c' = some (CodeO c' q) ∧ tl Ech H (fun _ H' => D.nx σ H'))
      rfl rfl nd rfl rfl ⟨by rfl, by decide, .inl ET.mR⟩ takes0N (fun W pn xe tk _ => pss_one (ps_expr (act W pn xe _ _ tk))) (fun a oe cls d pn hz hf =>
        (pss_cons (ps_set (i := 4) nd rfl (Or.inl rfl) (pe_disp (pps_cons pe_str pe_str (pps_cons pe_str pe_str (pps_cons pe_str pe_str pps_nil))) (by rfl) (by rfl) (fun z => by cases z) (by decide)))
        (pss_cons (ps_if (pt_not (pt_val (pe_cqP c__law_is hr (by decide) hz hf (by rfl) (pa_cons (pv 3) (pa_cons (pv 1) pa_nil))))) (pss_one (ps_ret pe_bl)) pss_nil)
        (pss_cons (ps_if (pt_cmp (pc_dnotin (hu_mark hr) (pv 1) (pv 4))) (pss_one (ps_ret pe_bl)) pss_nil)
        (pss_one (ps_ret (pe_cqP c__law_alike hr (by decide) hz hf (by rfl) (pa_cons (pe_ifExp (pt_cmpR op_eq (pv 1) pe_str (nomark _)) (pe_xf XW ET.noW hz.zc hf (pv 3)) (pe_or2 (pe_xf XB ET.noA1 hz.zc hf (pv 3)) (pe_xf XS ET.noA2 hz.zc hf (pv 3)))) (pa_cons (pv 2) pa_nil)))))))))) (pss_one (ps_ret pe_bl)), ?_⟩
  obtain ⟨wd, val, rfl, ok, h⟩ := h
  refine ⟨fun cls d H' => ∃ i, i < 5 ∧ wd = kindWord i ∧ cls = .ref (c i) ∧ FldOk i val d H' ∧ ∀ H'', Same H' H'' → Q (.bl true) H'', fun cls d H1 hE => ?_, rfl, hc, h⟩
  obtain ⟨i, hi, rfl, rfl, fo, q⟩ := hE
  refine ⟨true, ET.row i hi, fun _ a ha => ?_, fun z => by cases z⟩
  refine i_start (σ' := [some (.ref f), some (.str (kindWord i)), some val, some (.ref a), none]) rfl ?_
  walk_at "go"
  walk_at "r"
  refine fun pd hpd => ⟨upd_same, [(.inr "way", .str "why"), (.inr "body", .str "at"), (.inr "signs", .str "at")], rfl, by decide, ?_⟩
  have s2 : Same H1 (upd (upd H1 pd (.dK [])) pd (.dK (mergeK [] [(.inr ("way" : Str), V.str "why"), (.inr ("body" : Str), V.str "at"), (.inr ("signs" : Str), V.str "at")]))) := smut (smut (Same.refl _) hpd) hpd
  have e2 : (upd (upd H1 pd (.dK [])) pd (.dK (mergeK [] [(.inr ("way" : Str), V.str "why"), (.inr ("body" : Str), V.str "at"), (.inr ("signs" : Str), V.str "at")]))) pd = some (.dK (mergeK [] [(.inr ("way" : Str), V.str "why"), (.inr ("body" : Str), V.str "at"), (.inr ("signs" : Str), V.str "at")])) := upd_same
  generalize upd (upd H1 pd (.dK [])) pd (.dK (mergeK [] [(.inr ("way" : Str), V.str "why"), (.inr ("body" : Str), V.str "at"), (.inr ("signs" : Str), V.str "at")])) = H2 at s2 e2 ⊢
  walk_at "r"
  intro oe hz hf
  refine ⟨i, kindWord i, d, hi, rfl, ok, hz.zc, hf, fo.dct.same s2, fun H3 s3 => ?_⟩
  rw [decide_eq_true (rfl : kindWord i = kindWord i)]
  walk_at "r"
  have e3 := s3 _ _ e2
  have s23 := s2.trans s3
  refine ⟨pd, _, rfl, DGet.k (k := .inr (kindWord i)) e3, ?_⟩
  rcases fo with ⟨rfl, dd, fs, sx, rfl, ed, el, rfl, os⟩ | ⟨hi2, dd, fs, n, rfl, ed, el, rfl⟩ | ⟨hi2, hd⟩
  · rw [show (!(valV (mergeK [] [(.inr ("way" : Str), V.str "why"), (.inr ("body" : Str), V.str "at"), (.inr ("signs" : Str), V.str "at")]) (.inr (kindWord 0))).isSome) = false by rfl]
    walk_at "r"
    refine i_yes rfl ?_
    walk_at "r"
    refine ⟨.ref a, rfl, rfl, rfl, dd, fs, .str sx, rfl, s23 _ _ ed, el, ?_⟩
    walk_at "r"
    intro oe hz hf
    refine .inr ⟨sx, sx, os, os, rfl, fun H4 s4 => ?_⟩
    rw [decide_eq_true (rfl : sx = sx)]
    exact q _ (s23.trans s4)
  · have z : (!(valV (mergeK [] [(.inr ("way" : Str), V.str "why"), (.inr ("body" : Str), V.str "at"), (.inr ("signs" : Str), V.str "at")]) (.inr (kindWord i))).isSome) = false := by
      rcases hi2 with rfl | rfl <;> rfl
    rw [z]
    walk_at "r"
    refine i_no (by rcases hi2 with rfl | rfl <;> decide +kernel) ?_
    walk_at "r"
    have fin : kCons (tCons (tVar 2) tNil) (fun vs H1 => ∀ (oe : Obj), L2N.Zn (Value.ref (c i)) (some dd) oe → (∃ us, oe.data = Data.fields us) → spAlikeQ (a, oe) vs H1 Q C8.E0)
        [some (V.ref f), some (V.str (kindWord i)), some (V.int n), some (V.ref a), some (V.ref pd)] (.int n) H3 := by
      walk_at "r"
      intro oe hz hf
      refine .inl ⟨n, n, rfl, fun H4 s4 => ?_⟩
      rw [decide_eq_true (rfl : n = n)]
      exact q _ (s23.trans s4)
    rcases hi2 with rfl | rfl
    · exact .inl ⟨.ref a, rfl, rfl, rfl, dd, fs, .int n, rfl, s23 _ _ ed, el, fin⟩
    · exact .inr ⟨.ref a, rfl, rfl, rfl, dd, fs, .int n, rfl, s23 _ _ ed, el, fin⟩
  · have z : (!(valV (mergeK [] [(.inr ("way" : Str), V.str "why"), (.inr ("body" : Str), V.str "at"), (.inr ("signs" : Str), V.str "at")]) (.inr (kindWord i))).isSome) = true := by
      rcases hi2 with rfl | rfl <;> rfl
    rw [z]
    walk_at "r"
    exact q _ s23
end
end Esc

/-! The errors' own making. -/
namespace Esc
open PySem PySem.W PySem.Calls PySem.Spec PyProof.Rows L2 LamX NdefX
abbrev s_way_init : Stmt := (C8.clsBody (topS 2)).getD 0 (.Pass ⟨0, 0, 0, 0⟩)
def goodStr : V → Prop := fun y => ∃ s : Str, y = .str s ∧ s.length ≤ 1000
theorem init_way {P : Program} {w : World} {K : PySem.W.Frag} {mg : Str → Option Value} {base : Heap} {f cF cc D : Addr} {oc cl ccl dV kV doc pm ct : Value} {od an cld cdd : Option Addr} {osl csl ccs : Array (Option Value)}
    {vs : Array Value} {file : Str} {tf : Tok} {cdD : ClassData}
    (hf : K.lookup f = some ⟨oc, od, .func (fnX "__init__" "BadWay.__init__" (C8.fnArgs s_way_init) (C8.fnBody s_way_init) (C8.fnScope s_way_init) [(("__class__" : Str), cc)] dV kV doc pm an (.ref cF) ct), osl⟩) (hcd : codeIn K (.ref cF) "BadWay.__init__" = true)
    (hcode : K.lookup cF = some ⟨ccl, cdd, .fields vs, ccs⟩) (hvs : vs[2]? = some (.str file tf)) (hfile : ((P.main.file : Str) == file) = true)
    (hcell : K.lookup cc = some ⟨cl, cld, .cell (some (.ref D)), csl⟩) (hD : clsIn K D = some cdD) (hsuper : mg "super" = none) (htop : (P.main.scope.names.lookup ("super" : Str)).isSome = false) (hstat : nsIn K cStatics "thirdparty.any" = some none) :
    FnOk P w K mg base C8.CX0 1 f (fnX "__init__" "BadWay.__init__" (C8.fnArgs s_way_init) (C8.fnBody s_way_init) (C8.fnScope s_way_init) [(("__class__" : Str), cc)] dV kV doc pm an (.ref cF) ct) ["self", "why"] (spInit K D "why" goodStr) :=
  fn_super (F := ⟨"__init__", "BadWay.__init__", C8.fnArgs s_way_init, C8.fnBody s_way_init, C8.fnScope s_way_init, [(("__class__" : Str), cc)], cF⟩) (k := 0) (prm := "why") (fld := "why") (good := goodStr)
    hf rfl hcd hcode hvs hfile hcell hD hsuper htop hstat (by rfl) (by rfl) (show NScope _ _ _ (C8.fnScope s_way_init) from nscope_by (by decide +kernel)) (by rfl) (by rfl)
    (fun A outer s H E hr => pe_joined (.cons pe_str (.cons (pe_fmt (pv 1)) .nil)))
    (fun a y c H Q hg q => by
      obtain ⟨z, rfl, hz⟩ := hg
      exact ⟨_, rfl, by decide +kernel, .str z, rfl, .inl ⟨z, rfl, by show z.length ≤ 16777216; omega, _, rfl, by
        rw [Str.length_append]
        have h1 : (Str.empty ++ ("no way of framing: " : Str)).length ≤ 100 := by decide +kernel
        show _ ≤ 16777216
        omega, q _⟩⟩)
    (fun env => ⟨_, rfl⟩) (fun env => rfl) (by decide) (by decide)
end Esc

/-! Any way's fault: turned ones, counts, codes. -/
namespace Esc
open PySem PySem.Spec PyProof.Rows L2
noncomputable def bOf (p : Prop) : Bool := @decide p (Classical.propDecidable p)
theorem bOf_iff {p : Prop} : bOf p = true ↔ p := by
  unfold bOf
  exact @decide_eq_true_iff p (Classical.propDecidable p)
theorem bOf_true {p : Prop} (h : p) : bOf p = true := bOf_iff.mpr h
theorem bOf_false {p : Prop} (h : ¬ p) : bOf p = false := by
  cases e : bOf p with
  | false => rfl
  | true => exact absurd (bOf_iff.mp e) h
theorem bOf_eq {p : Prop} {b : Bool} (h : b = true ↔ p) : b = bOf p := by
  cases b with
  | true => exact (bOf_true (h.mp rfl)).symm
  | false => exact (bOf_false fun z => by have := h.mpr z; cases this).symm
theorem bOf_dec {p : Prop} [Decidable p] : decide p = bOf p := bOf_eq decide_eq_true_iff
theorem bOf_congr {p q : Prop} (h : p ↔ q) : bOf p = bOf q := bOf_eq (bOf_iff.trans h)
theorem all_bOf {α : Type} (f : α → Prop) (l : List α) : (l.map fun x => bOf (f x)).all id = bOf (∀ x ∈ l, f x) := bOf_eq (by
  rw [List.all_eq_true]
  constructor
  · intro h x hx
    exact bOf_iff.mp (h _ (List.mem_map.mpr ⟨x, hx, rfl⟩))
  · intro h b hb
    obtain ⟨x, hx, rfl⟩ := List.mem_map.mp hb
    exact bOf_true (h x hx))
section
variable {P : Program} {w : World} {K : PySem.W.Frag} {mg : Str → Option Value} {base : Heap}
def InT (t : Int) (ns : List Int) : Prop := ∀ n ∈ ns, 0 ≤ n ∧ n < t
def spFirstTB (K : PySem.W.Frag) : Sp := fun vs H Q _ => ∃ (a : Addr) (ns : List Int) (t : Int), vs = [.ref a, .int t] ∧ SqT K H a (ns.map V.int) ∧ ∀ r H', Same H H' → (InT t ns → r = .non) → (¬ InT t ns → ∃ k : Int, r = .int k) → Q r H'
theorem c_first_unsignedTB (Z : Blt mg) (c_is_sign : C8.Cal P w K mg base 2 "is_sign" spSignI []) (d : Dd K mg "first_unsigned" s_first_unsigned P_first_unsigned) : C8.Cal P w K mg base 3 "first_unsigned" (spFirstTB K) [] := by
  refine d.cal sc_first_unsigned (fun vs H Q E h => ?_) (fun f cdv A outer s H vs Q E hr h => ?_)
  · obtain ⟨a, ns, t, rfl, _⟩ := h
    rfl
  · obtain ⟨a, ns, t, rfl, ha, q⟩ := h
    have nd := sc_first_unsigned.nd
    refine ⟨_, (pss_cons (ps_for PassesOwn.never rfl (pi_enT rfl Z.enumerate_ (pa_cons (pv 0) pa_nil)) (pg_tup rfl (pgs_cons (pg_name (i := 2) nd rfl (Or.inl rfl)) (pgs_cons (pg_name (i := 3) nd rfl (Or.inl rfl)) pgs_nil)))
    (pss_one (ps_if (pt_not (pt_val (C8.pe_c c_is_sign hr (by decide) (by rfl) (pa_cons (pv 3) (pa_cons (pv 1) pa_nil))))) (pss_one (ps_ret (pv 2))) pss_nil)))
  (pss_one (ps_ret pe_non))), ?_⟩
    refine i_start (σ' := [some (.ref a), some (.int t), none, none]) rfl ?_
    walk_at "go"
    walk_at "r"
    refine i_enumT ha (fun i σ' H' => ∃ x y, σ' = [some (.ref a), some (.int t), x, y] ∧ Same H H' ∧ InT t (ns.take i)) ⟨_, _, rfl, Same.refl _, fun n m => by cases m⟩ (fun i σ' H' _ ⟨_, _, _, s1, _⟩ => stup s1 ha) (fun i x σ' H1 T H2 hi p hT s2 eT => ?_) (fun σ' H1 p => ?_)
    · obtain ⟨y1, y2, rfl, s1, hin⟩ := p
      obtain ⟨n, hn, rfl⟩ := map_get hi
      walk_at "r"
      refine ⟨n, t, rfl, ?_⟩
      by_cases c : 0 ≤ n ∧ n < t
      · rw [decide_eq_true c]
        walk_at "r"
        refine ⟨_, _, rfl, s1.trans s2, fun m hm => ?_⟩
        rw [take_succ' hn] at hm
        rcases List.mem_append.mp hm with hm | hm
        · exact hin m hm
        · rw [List.mem_singleton.mp hm]
          exact c
      · rw [decide_eq_false c]
        walk_at "r"
        exact q _ _ (s1.trans s2) (fun z => absurd (z n (List.mem_of_getElem? hn)) c) fun _ => ⟨_, rfl⟩
    · obtain ⟨y1, y2, rfl, s1, hin⟩ := p
      rw [List.length_map, List.take_length] at hin
      walk_at "r"
      exact q _ _ s1 (fun _ => rfl) fun z => absurd hin z
def spTurnB (K : PySem.W.Frag) : Sp := fun vs H Q _ => ∃ (a : Addr) (ns : List Int) (t : Int), vs = [.ref a, .int t] ∧ SqT K H a (ns.map V.int) ∧ 0 ≤ t ∧ t ≤ 1000 ∧ ∀ H', Same H H' → Q (.bl (bOf (ns.Perm (countL t)))) H'
theorem c_is_turningB (Z : Blt mg) (c_first_unsigned : C8.Cal P w K mg base 3 "first_unsigned" (spFirstTB K) []) (d : Dd K mg "is_turning" s_is_turning P_is_turning) : C8.Cal P w K mg base 4 "is_turning" (spTurnB K) [] := by
  refine d.cal sc_is_turning (fun vs H Q E h => ?_) (fun f cdv A outer s H vs Q E hr h => ?_)
  · obtain ⟨a, ns, t, rfl, _⟩ := h
    rfl
  · obtain ⟨a, ns, t, rfl, ha, h0, h1, q⟩ := h
    have nd := sc_is_turning.nd
    refine ⟨_, (pss_one (ps_ret (pe_and (pe_cmpR k_isN (C8.pe_c c_first_unsigned hr (by decide) (by rfl) (pa_cons (pv 0) (pa_cons (pv 1) pa_nil))) pe_non (nomark _)) (pe_one (pe_cmpR (op_eqD hr.units) (pe_callB cr_sortedIT (by rfl) Z.sorted_ (by decide +kernel) (pa_cons (pv 0) pa_nil)) (pe_listRg rfl rfl Z.list_ (prg_1 rfl Z.range_ (pv 1))) (nomark _)))))), ?_⟩
    refine i_start (σ' := [some (.ref a), some (.int t)]) rfl ?_
    walk_at "go"
    walk_at "r"
    refine ⟨a, ns, t, rfl, ha, fun r H1 s1 hr1 hr2 => ?_⟩
    have ha1 := stup s1 ha
    by_cases c : InT t ns
    · rw [hr1 c]
      walk_at "r"
      rw [decide_eq_true rfl]
      walk_at "r"
      refine i_sortedIT ha1 (fun ms p2 H2 hms hpw hp2 s2 e2 => ?_)
      walk_at "r"
      refine i_lstRg ⟨h0, by omega⟩ (fun p3 H3 hp3 s3 e3 => ?_)
      rw [rg_count] at e3
      have e23 := s3 _ _ e2
      walk_at "r"
      refine i_eqL (sl_of e23) (sl_of e3) ?_
      rw [bOf_dec, bOf_congr (show (ms = countL t) ↔ ns.Perm (countL t) from ⟨fun z => by rw [← z]; exact hms.symm, fun z => perm_count z hms hpw⟩)]
      exact q _ ((s1.trans s2).trans s3)
    · obtain ⟨k, rfl⟩ := hr2 c
      walk_at "r"
      rw [decide_eq_false (by intro z; cases z)]
      walk_at "r"
      have e : bOf (ns.Perm (countL t)) = false := bOf_false fun z => c fun n hn => count_mem.mp (z.subset hn)
      rw [e] at q
      exact q _ s1
/-! ### counts -/
def faultV : Option Str → V
  | none => .non
  | some z => .str z
open Classical in
noncomputable def kindF (t e : Int) (k : Kind) : Option Str :=
  if KindOk t e k then none else
  match k with
  | .codes _ => some "codes"
  | .escapes m _ => if Plain t e m then some "pairs" else some "mark"
  | .counts _ => some "limit"
  | .ranks => none
theorem kindF_ok {t e : Int} {k : Kind} (h : KindOk t e k) : kindF t e k = none := by
  unfold kindF
  rw [if_pos h]
def spCountsFB (K : PySem.W.Frag) : Sp := fun vs H Q _ => ∃ (p : Addr) (t e l : Int) (x : Str), vs = [.ref p] ∧ SqT K H p [.str x, .int t, .int e, .int l] ∧ Q (faultV (kindF t e (.counts l))) H
theorem c_counts_faultB (c_is_whole : C8.Cal P w K mg base 1 "is_whole" spWholeI []) (d : Dd K mg "counts_fault" s_counts_fault P_counts_fault) : C8.Cal P w K mg base 2 "counts_fault" (spCountsFB K) [] := by
  refine d.cal sc_counts_fault (fun vs H Q E h => ?_) (fun f cdv A outer s H vs Q E hr h => ?_)
  · obtain ⟨p, t, e, l, x, rfl, _⟩ := h
    rfl
  · obtain ⟨p, t, e, l, x, rfl, hp, q⟩ := h
    have nd := sc_counts_fault.nd
    have no : ¬ (2 ≤ l ∧ l < t) → kindF t e (.counts l) = some "limit" := fun c => by
      unfold kindF
      exact if_neg c
    refine ⟨_, (pss_cons (ps_asg (pv 0) (pg_tup rfl (pgs_cons (pg_name (i := 1) nd rfl (Or.inl rfl)) (pgs_cons (pg_name (i := 2) nd rfl (Or.inl rfl)) (pgs_cons (pg_name (i := 3) nd rfl (Or.inl rfl)) (pgs_cons (pg_name (i := 4) nd rfl (Or.inl rfl)) pgs_nil))))))
  (pss_one (ps_ret (pe_ifExp (PW.pt (pw_and (pt_val (C8.pe_c c_is_whole hr (by decide) (by rfl) (pa_cons (pv 4) pa_nil))) (pw_and1 (pt_chain op_le op_lt pe_int (pv 4) (pv 2))))) pe_non pe_str)))), ?_⟩
    refine i_start (σ' := [some (.ref p), none, none, none, none]) rfl ?_
    walk_at "go"
    walk_at "r"
    refine ⟨l, rfl, ?_⟩
    walk_at "r"
    by_cases c1 : 2 ≤ l
    · rw [decide_eq_true c1]
      walk_at "r"
      by_cases c2 : l < t
      · rw [decide_eq_true c2]
        walk_at "r"
        rw [kindF_ok (k := .counts l) ⟨c1, c2⟩] at q
        exact q
      · rw [decide_eq_false c2]
        walk_at "r"
        rw [no fun z => c2 z.2] at q
        exact q
    · rw [decide_eq_false c1]
      walk_at "r"
      rw [no fun z => c1 z.1] at q
      exact q
end
end Esc

/-! Any way's fault: codes. -/
namespace Esc
open PySem PySem.Spec PyProof.Rows L2
def CodeP (t e : Int) (c : List Int) : Prop := 1 ≤ c.length ∧ c.length ≤ 4 ∧ ∀ x ∈ c, Plain t e x
noncomputable def fPl (t e : Int) : V → Option V
  | .int n => some (.bl (bOf (Plain t e n)))
  | _ => none
theorem fPl_map (t e : Int) : ∀ c : List Int, (c.map V.int).filterMap (fPl t e) = (c.map fun n => bOf (Plain t e n)).map V.bl
  | [] => rfl
  | n :: c => by
    show V.bl (bOf (Plain t e n)) :: (c.map V.int).filterMap (fPl t e) = _
    rw [fPl_map t e c]
    rfl
theorem apart_of {c o : List Int} {m : Nat} (hm : m = min c.length o.length) : c.take m = o.take m ↔ ¬ Apart c o := by
  constructor
  · intro z ap
    refine apart_take ap ?_ z
    omega
  · intro n
    have key : ∀ {a b : List Int}, a <+: b → a.take (min a.length b.length) = b.take (min a.length b.length) := fun {a b} h => by
      obtain ⟨r, rfl⟩ := h
      rw [List.length_append, Nat.min_eq_left (by omega), List.take_length, List.take_left]
    by_cases p : c <+: o
    · rw [hm]
      exact key p
    · by_cases p2 : o <+: c
      · rw [hm, Nat.min_comm]
        exact (key p2).symm
      · exact absurd ⟨p, p2⟩ n
section
variable {P : Program} {w : World} {K : PySem.W.Frag} {mg : Str → Option Value} {base : Heap}
def spCodeB (K : PySem.W.Frag) : Sp := fun vs H Q _ => ∃ (a : Addr) (c : List Int) (t e : Int), vs = [.ref a, .int t, .int e] ∧ SqT K H a (c.map V.int) ∧ c.length ≤ 1000 ∧ ∀ H', Same H H' → Q (.bl (bOf (CodeP t e c))) H'
theorem c_is_codeB (Z : Blt mg) (c_is_plain : C8.Cal P w K mg base 3 "is_plain" spPlainI []) (m_LONGEST_CODE : ∃ u, mg "LONGEST_CODE" = some u ∧ RelV (.int 4) u) (d : Dd K mg "is_code" s_is_code P_is_code) : C8.Cal P w K mg base 4 "is_code" (spCodeB K) [] := by
  refine d.cal sc_is_code (fun vs H Q E h => ?_) (fun f cdv A outer s H vs Q E hr h => ?_)
  · obtain ⟨a, c, t, e, rfl, _⟩ := h
    rfl
  · obtain ⟨a, c, t, e, rfl, ha, hl, q⟩ := h
    have nd := sc_is_code.nd
    refine ⟨_, (pss_one (ps_ret (pe_and (pe_chain op_le op_le pe_int (pe_callB k_len (by rfl) Z.len_ (by decide +kernel) (pa_cons (pv 0) pa_nil)) (C8.pe_gc rfl m_LONGEST_CODE)) (pe_one (pe_callB (cr_all rfl) (by rfl) Z.all_ (by decide +kernel) (pa_cons (pe_lc (own := [("sign", 3)]) (g := gName 3) (tt := tYes) rfl nd (pi_tup (pv 0)) (blkOk_by (N := N_is_code) (sc := C8.fnScope s_is_code) (own := [("sign", 3)]) (by decide +kernel)) (fun _ _ _ _ _ => (pg_name (i := 3) nd rfl (Or.inl rfl))) (fun _ _ _ _ _ => pts_nil) (fun _ _ _ _ _ => (C8.pe_c c_is_plain hr (by decide) (by rfl) (pa_cons (pv 3) (pa_cons (pv 1) (pa_cons (pv 2) pa_nil)))))) pa_nil)))))), ?_⟩
    refine i_start (σ' := [some (.ref a), some (.int t), some (.int e), none]) rfl ?_
    walk_at "go"
    walk_at "r"
    by_cases c1 : 1 ≤ c.length
    · rw [decide_eq_true (by rw [List.length_map]; omega)]
      walk_at "r"
      by_cases c2 : c.length ≤ 4
      · rw [decide_eq_true (by rw [List.length_map]; omega)]
        walk_at "r"
        refine i_lcT (F := fPl t e) ha (by rw [List.length_map]; omega) (fun v hv H1 s1 QN QY hN hY => ?_) (fun p H1 hp1 s1 e1 => ?_)
        · obtain ⟨n, hn, rfl⟩ := List.mem_map.mp hv
          walk_at "r"
          refine ⟨n, t, e, rfl, ?_⟩
          rw [bOf_dec]
          exact hY _ rfl _ (Same.refl _)
        · rw [fPl_map] at e1
          walk_at "r"
          refine i_all (sl_of e1) ?_
          rw [all_bOf, bOf_congr (show (∀ x ∈ c, Plain t e x) ↔ CodeP t e c from ⟨fun z => ⟨c1, c2, z⟩, fun z => z.2.2⟩)]
          exact q _ s1
      · rw [decide_eq_false (by rw [List.length_map]; omega)]
        walk_at "r"
        rw [bOf_false (fun z => c2 z.2.1)] at q
        exact q _ (Same.refl _)
    · rw [decide_eq_false (by rw [List.length_map]; omega)]
      walk_at "r"
      rw [bOf_false (fun z => c1 z.1)] at q
      exact q _ (Same.refl _)
def spApartB (K : PySem.W.Frag) : Sp := fun vs H Q _ => ∃ (a : Addr) (as : List Addr) (cs : List (List Int)), vs = [.ref a] ∧ SqT K H a (as.map V.ref) ∧ TupsAt K H as cs ∧ ∀ H', Same H H' → Q (.bl (bOf (cs.Pairwise Apart))) H'
def ApUp (cs : List (List Int)) (i : Nat) : Prop := ∀ j k c o, j < i → j < k → cs[j]? = some c → cs[k]? = some o → Apart c o
set_option maxHeartbeats 1000000 in
theorem c_stand_apartB (Z : Blt mg) (d : Dd K mg "stand_apart" s_stand_apart P_stand_apart) : C8.Cal P w K mg base 1 "stand_apart" (spApartB K) [] := by
  refine d.cal sc_stand_apart (fun vs H Q E h => ?_) (fun f cdv A outer s H vs Q E hr h => ?_)
  · obtain ⟨a, as, cs, rfl, _⟩ := h
    rfl
  · obtain ⟨a, as, cs, rfl, ha, ht, q⟩ := h
    have nd := sc_stand_apart.nd
    refine ⟨_, (pss_cons (ps_for PassesOwn.never rfl (pi_enT rfl Z.enumerate_ (pa_cons (pv 0) pa_nil)) (pg_tup rfl (pgs_cons (pg_name (i := 1) nd rfl (Or.inl rfl)) (pgs_cons (pg_name (i := 2) nd rfl (Or.inl rfl)) pgs_nil)))
    (pss_one (ps_for PassesOwn.never rfl (pi_tup (pe_slice sl_tupA (pv 0) (po_some (pe_op op_add (pv 1) pe_int)) po_none)) (pg_name (i := 3) nd rfl (Or.inl rfl))
    (pss_cons (ps_set (i := 4) nd rfl (Or.inl rfl) (pe_callB (k_min2 rfl) (by rfl) Z.min_ (by decide +kernel) (pa_cons (pe_callB k_len (by rfl) Z.len_ (by decide +kernel) (pa_cons (pv 2) pa_nil)) (pa_cons (pe_callB k_len (by rfl) Z.len_ (by decide +kernel) (pa_cons (pv 3) pa_nil)) pa_nil))))
  (pss_one (ps_if (pt_cmpR (op_eqD hr.units) (pe_slice sl_tupA (pv 2) po_none (po_some (pv 4))) (pe_slice sl_tupA (pv 3) po_none (po_some (pv 4))) (nomark _)) (pss_one (ps_ret pe_bl)) pss_nil))))))
  (pss_one (ps_ret pe_bl))), ?_⟩
    refine i_start (σ' := [some (.ref a), none, none, none, none]) rfl ?_
    walk_at "go"
    walk_at "r"
    refine i_enumT ha (fun i σ' H' => ∃ x y z u, σ' = [some (.ref a), x, y, z, u] ∧ Same H H' ∧ ApUp cs i) ⟨_, _, _, _, rfl, Same.refl _, fun j k c o h => absurd h (Nat.not_lt_zero _)⟩ (fun i σ' H' _ ⟨_, _, _, _, _, s1, _⟩ => stup s1 ha) (fun i x σ' H1 T H2 hi p hT s2 eT => ?_) (fun σ' H1 p => ?_)
    · obtain ⟨x1, x2, x3, x4, rfl, s1, hap⟩ := p
      obtain ⟨b, hb, rfl⟩ := ref_get hi
      obtain ⟨c, hc, hbc⟩ := ht.get hb
      have s12 := s1.trans s2
      have ha2 := stup s12 ha
      have hil := (List.getElem?_eq_some_iff.mp hb).1
      walk_at "r"
      refine i_slA ha2 (fun r H3 s3 e3 => ?_)
      rw [show (i : Int) + 1 = ((i + 1 : Nat) : Int) by omega, cut_from, ← List.map_drop] at e3
      have s13 := s12.trans s3
      walk_at "r"
      refine i_forT (e3) (fun j σ' H' => ∃ z u, σ' = [some (.ref a), some (.int (i : Nat)), some (.ref b), z, u] ∧ Same H3 H' ∧ ∀ k o, i < k → k < i + 1 + j → cs[k]? = some o → Apart c o) ⟨_, _, rfl, Same.refl _, fun k o h1 h2 => by omega⟩ (fun j σ' H' _ ⟨_, _, _, s4, _⟩ => stup s4 (e3)) (fun j x σ' H4 hj p => ?_) (fun σ' H4 p => ?_)
      · obtain ⟨z, u, rfl, s4, hin⟩ := p
        obtain ⟨b2, hb2, rfl⟩ := ref_get hj
        rw [List.getElem?_drop] at hb2
        obtain ⟨o, ho, hbo⟩ := ht.get hb2
        have s14 := s13.trans s4
        have hbc4 := stup s14 hbc
        have hbo4 := stup s14 hbo
        walk_at "r"
        rw [List.length_map, List.length_map]
        obtain ⟨m, hm, em⟩ : ∃ m : Nat, m = min c.length o.length ∧ (if (o.length : Int) < (c.length : Int) then (o.length : Int) else (c.length : Int)) = (m : Int) := by
          by_cases z : (o.length : Int) < (c.length : Int)
          · exact ⟨o.length, by omega, if_pos z⟩
          · exact ⟨c.length, by omega, if_neg z⟩
        rw [em]
        refine i_slA hbc4 (fun p5 H5 s5 e5 => ?_)
        rw [cut_to, ← List.map_take] at e5
        have hbo5 := stup s5 hbo4
        walk_at "r"
        refine i_slA hbo5 (fun p6 H6 s6 e6 => ?_)
        rw [cut_to, ← List.map_take] at e6
        have e56 := stup s6 e5
        walk_at "r"
        refine i_eqT e56 e6 ?_
        by_cases cl : c.take m = o.take m
        · rw [decide_eq_true cl]
          walk_at "r"
          rw [bOf_false (fun hw => (apart_of hm).mp cl (by
            obtain ⟨g1, g2⟩ := List.getElem?_eq_some_iff.mp hc
            obtain ⟨g3, g4⟩ := List.getElem?_eq_some_iff.mp ho
            have z := List.pairwise_iff_getElem.mp hw i (i + 1 + j) g1 g3 (by omega)
            rw [g2, g4] at z
            exact z))] at q
          exact q _ (s14.trans (s5.trans s6))
        · rw [decide_eq_false cl]
          walk_at "r"
          refine ⟨_, _, rfl, (s4.trans s5).trans s6, fun k o' h1 h2 h3 => ?_⟩
          rcases Nat.lt_or_ge k (i + 1 + j) with h | h
          · exact hin k o' h1 h h3
          · have e : k = i + 1 + j := by omega
            rw [e, ho] at h3
            cases h3
            exact Classical.byContradiction fun n => cl ((apart_of hm).mpr n)
      · obtain ⟨z, u, rfl, s4, hin⟩ := p
        walk_at "r"
        refine ⟨_, _, _, _, rfl, s13.trans s4, fun j k c' o h1 h2 h3 h4 => ?_⟩
        rcases Nat.lt_or_ge j i with h | h
        · exact hap j k c' o h h2 h3 h4
        · have e : j = i := by omega
          rw [e, hc] at h3
          cases h3
          refine hin k o (by omega) ?_ h4
          have := (List.getElem?_eq_some_iff.mp h4).1
          rw [List.length_map, List.length_drop, ht.len]
          omega
    · obtain ⟨x1, x2, x3, x4, rfl, s1, hap⟩ := p
      walk_at "r"
      rw [bOf_true (List.pairwise_iff_getElem.mpr fun i j hi hj hij => hap i j _ _ (by rw [List.length_map, ht.len]; exact hi) hij (List.getElem?_eq_getElem hi) (List.getElem?_eq_getElem hj))] at q
      exact q _ s1
def spCodesFB (K : PySem.W.Frag) : Sp := fun vs H Q _ => ∃ (p : Addr) (t e : Int) (cs : List (List Int)), vs = [.ref p] ∧ KindAt K H p t e (.codes cs) ∧ cs.length ≤ 1000 ∧ (∀ c ∈ cs, c.length ≤ 1000) ∧ 0 ≤ t ∧ ∀ H', Same H H' → Q (faultV (kindF t e (.codes cs))) H'
set_option maxHeartbeats 1000000 in
theorem c_codes_faultB (Z : Blt mg) (c_is_code : C8.Cal P w K mg base 4 "is_code" (spCodeB K) []) (c_stand_apart : C8.Cal P w K mg base 1 "stand_apart" (spApartB K) []) (d : Dd K mg "codes_fault" s_codes_fault P_codes_fault) : C8.Cal P w K mg base 5 "codes_fault" (spCodesFB K) [] := by
  refine d.cal sc_codes_fault (fun vs H Q E h => ?_) (fun f cdv A outer s H vs Q E hr h => ?_)
  · obtain ⟨p, t, e, cs, rfl, _⟩ := h
    rfl
  · obtain ⟨p, t, e, cs, rfl, ⟨c, as, hp, hc, ht⟩, hl, hcl, h0, q⟩ := h
    have hc := hc.st (K := K)
    have nd := sc_codes_fault.nd
    have hlen := ht.len
    have no : ¬ KindOk t e (.codes cs) → kindF t e (.codes cs) = some "codes" := fun c => by
      unfold kindF
      exact if_neg c
    refine ⟨_, (pss_cons (ps_asg (pv 0) (pg_tup rfl (pgs_cons (pg_name (i := 1) nd rfl (Or.inl rfl)) (pgs_cons (pg_name (i := 2) nd rfl (Or.inr rfl)) (pgs_cons (pg_name (i := 3) nd rfl (Or.inr rfl)) (pgs_cons (pg_name (i := 4) nd rfl (Or.inl rfl)) pgs_nil))))))
  (pss_cons (ps_if (PW.pt (pw_or (pt_cmpR op_ne (pe_callB k_len (by rfl) Z.len_ (by decide +kernel) (pa_cons (pv 4) pa_nil)) (pv 2) (nomark _)) (pw_or1 (pt_not (pt_val (pe_callB (cr_all rfl) (by rfl) Z.all_ (by decide +kernel) (pa_cons (pe_lc (own := [("code", 5)]) (g := gName 5) (tt := tYes) rfl nd (pi_tup (pv 4)) (blkOk_by (N := N_codes_fault) (sc := C8.fnScope s_codes_fault) (own := [("code", 5)]) (by decide +kernel)) (fun _ _ _ _ _ => (pg_name (i := 5) nd rfl (Or.inl rfl))) (fun _ _ _ _ _ => pts_nil) (fun _ _ _ _ _ => (C8.pe_c c_is_code hr (by decide) (by rfl) (pa_cons (pv 5) (pa_cons (pv 2) (pa_cons (pv 3) pa_nil)))))) pa_nil))))))) (pss_one (ps_ret pe_str)) pss_nil)
  (pss_one (ps_ret (pe_ifExp (pt_val (C8.pe_c c_stand_apart hr (by decide) (by rfl) (pa_cons (pv 4) pa_nil))) pe_non pe_str))))), ?_⟩
    refine i_start (σ' := [some (.ref p), none, none, none, none, none]) rfl ?_
    walk_at "go"
    walk_at "r"
    by_cases c1 : cs.length = t.toNat
    · rw [decide_eq_true (by rw [List.length_map]; omega), Bool.not_true]
      walk_at "r"
      refine i_lcTI (fun D j acc H' => acc = ((cs.take j).map fun c => bOf (CodeP t e c)).map V.bl ∧ Same H H' ∧ H' D = some (.lst acc)) hc
        (fun D hD => ⟨rfl, same_new hD, upd_same⟩) (fun D j acc H' hD pv => stup pv.2.1 hc) (fun D j x acc H' hD hx hl2 pv => ?_) (fun p2 acc H1 hp2 pv => ?_)
      · obtain ⟨rfl, s1, e1⟩ := pv
        obtain ⟨b, hb, rfl⟩ := ref_get hx
        obtain ⟨cc, hcc, hbc⟩ := ht.get hb
        have jl := (List.getElem?_eq_some_iff.mp hcc).1
        walk_at "r"
        refine ⟨b, cc, t, e, rfl, stup s1 hbc, hcl cc (List.mem_of_getElem? hcc), fun H2 s2 => ?_⟩
        refine kY_of (s2 _ _ e1) hl2 (by omega) ⟨?_, smut (s1.trans s2) hD, upd_same⟩
        rw [take_succ' hcc, List.map_append, List.map_append]
        rfl
      · obtain ⟨rfl, s1, e1⟩ := pv
        rw [List.length_map, hlen, List.take_length] at e1
        walk_at "r"
        refine i_all (sl_of e1) ?_
        rw [all_bOf]
        by_cases c2 : ∀ c ∈ cs, CodeP t e c
        · rw [bOf_true c2]
          walk_at "r"
          refine ⟨c, as, cs, rfl, stup s1 hc, ht.same s1, fun H2 s2 => ?_⟩
          by_cases c3 : cs.Pairwise Apart
          · rw [bOf_true c3]
            walk_at "r"
            rw [kindF_ok (k := .codes cs) ⟨c1, c2, c3⟩] at q
            exact q _ (s1.trans s2)
          · rw [bOf_false c3]
            walk_at "r"
            rw [no fun z => c3 z.2.2] at q
            exact q _ (s1.trans s2)
        · rw [bOf_false c2]
          walk_at "r"
          rw [no fun z => c2 z.2.1] at q
          exact q _ s1
    · rw [decide_eq_false (by rw [List.length_map]; omega), Bool.not_false]
      walk_at "r"
      rw [no fun z => c1 z.1] at q
      exact q _ (Same.refl _)
end
end Esc

/-! Any way's fault: escapes. -/
namespace Esc
open PySem PySem.Spec PyProof.Rows L2
section
variable {P : Program} {w : World} {K : PySem.W.Frag} {mg : Str → Option Value} {base : Heap}
/-- lists: whether all are signs -/
def spFirstB (K : PySem.W.Frag) : Sp := fun vs H Q _ => ∃ (a : Addr) (ns : List Int) (t : Int), vs = [.ref a, .int t] ∧ SqL K H a (ns.map V.int) ∧ ∀ r H', Same H H' → (InT t ns → r = .non) → (¬ InT t ns → ∃ k : Int, r = .int k) → Q r H'
theorem c_first_unsignedB (Z : Blt mg) (c_is_sign : C8.Cal P w K mg base 2 "is_sign" spSignI []) (d : Dd K mg "first_unsigned" s_first_unsigned P_first_unsigned) : C8.Cal P w K mg base 3 "first_unsigned" (spFirstB K) [] := by
  refine d.cal sc_first_unsigned (fun vs H Q E h => ?_) (fun f cdv A outer s H vs Q E hr h => ?_)
  · obtain ⟨a, ns, t, rfl, _⟩ := h
    rfl
  · obtain ⟨a, ns, t, rfl, ha, q⟩ := h
    have nd := sc_first_unsigned.nd
    refine ⟨_, (pss_cons (ps_for PassesOwn.never rfl (pi_enum rfl Z.enumerate_ (pa_cons (pv 0) pa_nil)) (pg_tup rfl (pgs_cons (pg_name (i := 2) nd rfl (Or.inl rfl)) (pgs_cons (pg_name (i := 3) nd rfl (Or.inl rfl)) pgs_nil)))
    (pss_one (ps_if (pt_not (pt_val (C8.pe_c c_is_sign hr (by decide) (by rfl) (pa_cons (pv 3) (pa_cons (pv 1) pa_nil))))) (pss_one (ps_ret (pv 2))) pss_nil)))
  (pss_one (ps_ret pe_non))), ?_⟩
    refine i_start (σ' := [some (.ref a), some (.int t), none, none]) rfl ?_
    walk_at "go"
    walk_at "r"
    refine i_enum ha (fun i σ' H' => ∃ x y, σ' = [some (.ref a), some (.int t), x, y] ∧ Same H H' ∧ InT t (ns.take i)) ⟨_, _, rfl, Same.refl _, fun n m => by cases m⟩ (fun i σ' H' _ ⟨_, _, _, s1, _⟩ => s1.seq ha) (fun i x σ' H1 T H2 hi p hT s2 eT => ?_) (fun σ' H1 p => ?_)
    · obtain ⟨y1, y2, rfl, s1, hin⟩ := p
      obtain ⟨n, hn, rfl⟩ := map_get hi
      walk_at "r"
      refine ⟨n, t, rfl, ?_⟩
      by_cases c : 0 ≤ n ∧ n < t
      · rw [decide_eq_true c]
        walk_at "r"
        refine ⟨_, _, rfl, s1.trans s2, fun m hm => ?_⟩
        rw [take_succ' hn] at hm
        rcases List.mem_append.mp hm with hm | hm
        · exact hin m hm
        · rw [List.mem_singleton.mp hm]
          exact c
      · rw [decide_eq_false c]
        walk_at "r"
        exact q _ _ (s1.trans s2) (fun z => absurd (z n (List.mem_of_getElem? hn)) c) fun _ => ⟨_, rfl⟩
    · obtain ⟨y1, y2, rfl, s1, hin⟩ := p
      rw [List.length_map, List.take_length] at hin
      walk_at "r"
      exact q _ _ s1 (fun _ => rfl) fun z => absurd hin z
def spEscFB (K : PySem.W.Frag) : Sp := fun vs H Q _ => ∃ (p : Addr) (t e m : Int) (prs : List (Int × Int)), vs = [.ref p] ∧ KindAt K H p t e (.escapes m prs) ∧ prs.length ≤ 60 ∧ ∀ H', Same H H' → Q (faultV (kindF t e (.escapes m prs))) H'
set_option maxHeartbeats 2000000 in
theorem c_escapes_faultB (Z : Blt mg) (c_is_plain : C8.Cal P w K mg base 3 "is_plain" spPlainI []) (c_first_unsigned : C8.Cal P w K mg base 3 "first_unsigned" (spFirstB K) []) (d : Dd K mg "escapes_fault" s_escapes_fault P_escapes_fault) : C8.Cal P w K mg base 4 "escapes_fault" (spEscFB K) [] := by
  refine d.cal sc_escapes_fault (fun vs H Q E h => ?_) (fun f cdv A outer s H vs Q E hr h => ?_)
  · obtain ⟨p, t, e, m, prs, rfl, _⟩ := h
    rfl
  · obtain ⟨p, t, e, m, prs, rfl, ⟨c, as, hp, hc, ht⟩, lp, q⟩ := h
    have nd := sc_escapes_fault.nd
    have hlen := ht.len
    refine ⟨_, (pss_cons (ps_asg (pv 0) (pg_tup rfl (pgs_cons (pg_name (i := 1) nd rfl (Or.inl rfl)) (pgs_cons (pg_name (i := 2) nd rfl (Or.inr rfl)) (pgs_cons (pg_name (i := 3) nd rfl (Or.inr rfl)) (pgs_cons (pg_name (i := 4) nd rfl (Or.inl rfl)) (pgs_cons (pg_name (i := 5) nd rfl (Or.inl rfl)) pgs_nil)))))))
  (pss_cons (ps_if (pt_not (pt_val (C8.pe_c c_is_plain hr (by decide) (by rfl) (pa_cons (pv 4) (pa_cons (pv 2) (pa_cons (pv 3) pa_nil)))))) (pss_one (ps_ret pe_str)) pss_nil)
  (pss_cons (ps_setLc (i := 6) (own := [("sign", 9), ("code", 8)]) (g := gTup K 2 (gCons (gName 9) (gCons (gName 8) gNil))) (tt := tYes) rfl nd rfl rfl (sw_true rfl rfl rfl (by decide +kernel)) (pi_tup (pv 5)) (blkOk_by (N := N_escapes_fault) (sc := C8.fnScope s_escapes_fault) (own := [("sign", 9), ("code", 8)]) (by decide +kernel)) (fun _ _ _ _ _ => (pg_tup rfl (pgs_cons (pg_name (i := 9) nd rfl (Or.inl rfl)) (pgs_cons (pg_name (i := 8) nd rfl (Or.inl rfl)) pgs_nil)))) (fun _ _ _ _ _ => pts_nil) (fun _ _ _ _ _ => (pv 9)))
  (pss_cons (ps_setLc (i := 7) (own := [("sign", 9), ("code", 8)]) (g := gTup K 2 (gCons (gName 9) (gCons (gName 8) gNil))) (tt := tYes) rfl nd rfl rfl (sw_true rfl rfl rfl (by decide +kernel)) (pi_tup (pv 5)) (blkOk_by (N := N_escapes_fault) (sc := C8.fnScope s_escapes_fault) (own := [("sign", 9), ("code", 8)]) (by decide +kernel)) (fun _ _ _ _ _ => (pg_tup rfl (pgs_cons (pg_name (i := 9) nd rfl (Or.inl rfl)) (pgs_cons (pg_name (i := 8) nd rfl (Or.inl rfl)) pgs_nil)))) (fun _ _ _ _ _ => pts_nil) (fun _ _ _ _ _ => (pv 8)))
  (pss_cons (ps_if (PW.pt (pw_or (pt_cmpR k_notN (C8.pe_c c_first_unsigned hr (by decide) (by rfl) (pa_cons (pv 6) (pa_cons (pv 2) pa_nil))) pe_non (nomark _)) (pw_or1 (pt_cmpR (op_neD hr.units) (pv 6) (pe_callB (cr_sortedSet rfl) (by rfl) Z.sorted_ (by decide +kernel) (pa_cons (pe_callTy (cr_setI rfl) (by rfl) Z.set_ (by decide +kernel) (pa_cons (pv 6) pa_nil)) pa_nil)) (nomark _))))) (pss_one (ps_ret pe_str)) pss_nil)
  (pss_cons (ps_if (PW.pt (pw_or (pt_cmpR op_notIn_seq (pv 3) (pv 6) (by rfl)) (pw_or1 (pt_cmpR op_notIn_seq (pv 4) (pv 6) (by rfl))))) (pss_one (ps_ret pe_str)) pss_nil)
  (pss_cons (ps_if (PW.pt (pw_or (pt_not (pt_val (pe_callB (cr_all rfl) (by rfl) Z.all_ (by decide +kernel) (pa_cons (pe_lc (own := [("code", 8)]) (g := gName 8) (tt := tYes) rfl nd (pi_list (pv 7)) (blkOk_by (N := N_escapes_fault) (sc := C8.fnScope s_escapes_fault) (own := [("code", 8)]) (by decide +kernel)) (fun _ _ _ _ _ => (pg_name (i := 8) nd rfl (Or.inl rfl))) (fun _ _ _ _ _ => pts_nil) (fun _ _ _ _ _ => (C8.pe_c c_is_plain hr (by decide) (by rfl) (pa_cons (pv 8) (pa_cons (pv 2) (pa_cons (pv 3) pa_nil)))))) pa_nil)))) (pw_or1 (pt_cmpR op_ne (pe_lenSetB rfl rfl Z.len_ rfl Z.set_ (pv 7)) (pe_callB k_len (by rfl) Z.len_ (by decide +kernel) (pa_cons (pv 7) pa_nil)) (nomark _))))) (pss_one (ps_ret pe_str)) pss_nil)
  (pss_one (ps_ret pe_non))))))))), ?_⟩
    refine i_start (σ' := [some (.ref p), none, none, none, none, none, none, none, none, none]) rfl ?_
    walk_at "go"
    walk_at "r"
    refine ⟨m, t, e, rfl, ?_⟩
    by_cases hm : Plain t e m
    rotate_left
    · rw [decide_eq_false hm]
      walk_at "r"
      have no : kindF t e (.escapes m prs) = some "mark" := by
        unfold kindF
        rw [if_neg (fun z => hm z.1)]
        exact if_neg hm
      rw [no] at q
      exact q _ (Same.refl _)
    have no : ¬ KindOk t e (.escapes m prs) → kindF t e (.escapes m prs) = some "pairs" := fun z => by
      unfold kindF
      rw [if_neg z]
      exact if_pos hm
    rw [decide_eq_true hm]
    walk_at "r"
    refine i_lcTI (fun D j acc H' => acc = ((prs.take j).map (·.1)).map V.int ∧ Same H H' ∧ H' D = some (.lst acc)) hc
      (fun D hD => ⟨rfl, same_new hD, upd_same⟩) (fun D j acc H' hD pv => stup pv.2.1 hc) (fun D j x acc H' hD hx hl pv => ?_) (fun p1 acc H1 hp1 pv => ?_)
    · obtain ⟨rfl, s1, e1⟩ := pv
      obtain ⟨b, hb, rfl⟩ := ref_get hx
      obtain ⟨pr, hpr, hbp⟩ := ht.get hb
      have hbp1 := stup s1 hbp
      have hj : j < as.length := (List.getElem?_eq_some_iff.mp hb).1
      walk_at "r"
      refine kY_of e1 hl (by omega) ⟨?_, smut s1 hD, upd_same⟩
      rw [take_succ' hpr, List.map_append, List.map_append]
      rfl
    obtain ⟨rfl, s1, e1⟩ := pv
    rw [List.length_map, hlen, List.take_length] at e1
    have hc1 := stup s1 hc
    walk_at "r"
    refine i_lcTI (fun D j acc H' => acc = ((prs.take j).map (·.2)).map V.int ∧ Same H1 H' ∧ H' D = some (.lst acc)) hc1
      (fun D hD => ⟨rfl, same_new hD, upd_same⟩) (fun D j acc H' hD pv => stup pv.2.1 hc1) (fun D j x acc H' hD hx hl pv => ?_) (fun p2 acc H2 hp2 pv => ?_)
    · obtain ⟨rfl, s2, e2⟩ := pv
      obtain ⟨b, hb, rfl⟩ := ref_get hx
      obtain ⟨pr, hpr, hbp⟩ := ht.get hb
      have hbp1 := stup (s1.trans s2) hbp
      have hj : j < as.length := (List.getElem?_eq_some_iff.mp hb).1
      walk_at "r"
      refine kY_of e2 hl (by omega) ⟨?_, smut s2 hD, upd_same⟩
      rw [take_succ' hpr, List.map_append, List.map_append]
      rfl
    obtain ⟨rfl, s2, e2⟩ := pv
    rw [List.length_map, hlen, List.take_length] at e2
    have e12 := s2 _ _ e1
    walk_at "r"
    refine ⟨p1, _, t, rfl, sl_of e12, fun r H3 s3 hr1 hr2 => ?_⟩
    have e13 := s3 _ _ e12
    have e23 := s3 _ _ e2
    have s03 := s1.trans (s2.trans s3)
    by_cases hr0 : InT t (prs.map (·.1))
    rotate_left
    · obtain ⟨k, rfl⟩ := hr2 hr0
      walk_at "r"
      rw [decide_eq_false (by intro z; cases z), Bool.not_false]
      walk_at "r"
      rw [no fun z => hr0 z.2.2.1] at q
      exact q _ s03
    rw [hr1 hr0]
    walk_at "r"
    rw [decide_eq_true rfl, Bool.not_true]
    walk_at "r"
    refine i_setI (sl_of e13) (by rw [List.length_map]; omega) (fun p4 c4 H4 hc4 hp4 s4 e4 => ?_)
    rw [List.length_map] at hc4
    walk_at "r"
    refine i_sortedSetB e4 (by omega) (fun ms p5 H5 hms hmem hp5 s5 e5 => ?_)
    have s35 := s4.trans s5
    have e15 := s35 _ _ e13
    have e25 := s35 _ _ e23
    walk_at "r"
    refine i_neL (sl_of e15) (sl_of e5) ?_
    by_cases hw : (prs.map (·.1)).Pairwise (· < ·)
    rotate_left
    · rw [decide_eq_false (fun z => hw (by rw [z]; exact hms)), Bool.not_false]
      walk_at "r"
      rw [no fun z => hw z.2.1] at q
      exact q _ (s03.trans s35)
    rw [decide_eq_true (rise_eq hw hms fun k => (hmem k).symm), Bool.not_true]
    walk_at "r"
    refine i_notInI (sl_of e15) ?_
    by_cases he1 : e ∈ prs.map (·.1)
    rotate_left
    · rw [decide_eq_false he1, Bool.not_false]
      walk_at "r"
      rw [no fun z => he1 z.2.2.2.1] at q
      exact q _ (s03.trans s35)
    rw [decide_eq_true he1, Bool.not_true]
    walk_at "r"
    refine i_notInI (sl_of e15) ?_
    by_cases hm1 : m ∈ prs.map (·.1)
    rotate_left
    · rw [decide_eq_false hm1, Bool.not_false]
      walk_at "r"
      rw [no fun z => hm1 z.2.2.2.2.1] at q
      exact q _ (s03.trans s35)
    rw [decide_eq_true hm1, Bool.not_true]
    walk_at "r"
    refine i_lcL (F := fPl t e) (sl_of e25) (by rw [List.length_map, List.length_map]; omega) (fun v hv H6 s6 QN QY hN hY => ?_) (fun p7 H7 hp7 s7 e7 => ?_)
    · obtain ⟨n, hn, rfl⟩ := List.mem_map.mp hv
      walk_at "r"
      refine ⟨n, t, e, rfl, ?_⟩
      rw [bOf_dec]
      exact hY _ rfl _ (Same.refl _)
    rw [fPl_map] at e7
    have e27 := s7 _ _ e25
    have s07 := s03.trans (s35.trans s7)
    walk_at "r"
    refine i_all (sl_of e7) ?_
    rw [all_bOf]
    by_cases hcp : ∀ x ∈ prs.map (·.2), Plain t e x
    rotate_left
    · rw [bOf_false hcp]
      walk_at "r"
      rw [no fun z => hcp z.2.2.2.2.2.1] at q
      exact q _ s07
    rw [bOf_true hcp]
    walk_at "r"
    refine i_lenSetB (sl_of e27) (by rw [List.length_map]; omega) (fun n hn hnn => ?_)
    walk_at "r"
    by_cases hcn : (prs.map (·.2)).Nodup
    · have e9 := hnn.mpr hcn
      rw [List.length_map] at e9
      rw [decide_eq_true (by rw [List.length_map, e9]), Bool.not_true]
      walk_at "r"
      rw [kindF_ok (k := .escapes m prs) ⟨hm, hw, hr0, he1, hm1, hcp, hcn⟩] at q
      exact q _ s07
    · have e9 : n ≠ (prs.map (·.2)).length := fun z => hcn (hnn.mp z)
      rw [List.length_map] at e9
      rw [decide_eq_false (by rw [List.length_map]; omega), Bool.not_false]
      walk_at "r"
      rw [no fun z => hcn z.2.2.2.2.2.2] at q
      exact q _ s07
end
end Esc

/-! Any way's fault, and a way refused. -/
namespace Esc
open PySem PySem.Spec PyProof.Rows L2 LamX
open Classical in
noncomputable def faultW (w : Way) : Option Str :=
  if 3 < w.ts.length then some "deep" else if ¬(3 ≤ w.t ∧ w.t ≤ 16) then some "top" else if ¬(0 ≤ w.e ∧ w.e < w.t) then some "end" else
  match kindF w.t w.e w.k with
  | some z => some z
  | none => if ∀ p ∈ w.ts, p.Perm (countL w.t) then none else some "signs"
def BigK : Kind → Prop
  | .codes cs => cs.length ≤ 1000 ∧ ∀ c ∈ cs, c.length ≤ 1000
  | .escapes _ prs => prs.length ≤ 60
  | _ => True
theorem kindF_none {t e : Int} {k : Kind} (h : kindF t e k = none) : KindOk t e k := by
  refine Classical.byContradiction fun c => ?_
  unfold kindF at h
  rw [if_neg c] at h
  cases k with
  | codes cs => cases h
  | escapes m prs =>
    by_cases p : Plain t e m
    · have h : (if Plain t e m then some ("pairs" : Str) else some "mark") = none := h
      rw [if_pos p] at h
      cases h
    · have h : (if Plain t e m then some ("pairs" : Str) else some "mark") = none := h
      rw [if_neg p] at h
      cases h
  | counts l => cases h
  | ranks => exact c trivial
theorem faultW_none {w : Way} : faultW w = none ↔ w.Ok := by
  constructor
  · intro h
    unfold faultW at h
    split at h
    · cases h
    · rename_i h1
      split at h
      · cases h
      · rename_i h2
        split at h
        · cases h
        · rename_i h3
          have h2 := Classical.not_not.mp h2
          have h3 := Classical.not_not.mp h3
          split at h
          · cases h
          · rename_i hk
            split at h
            · rename_i hp
              exact ⟨by omega, h2.1, h2.2, h3.1, h3.2, kindF_none hk, hp⟩
            · cases h
  · intro ok
    unfold faultW
    rw [if_neg (by have := ok.few; omega), if_neg (fun z => z ⟨ok.t3, ok.t16⟩), if_neg (fun z => z ⟨ok.e0, ok.e1⟩), kindF_ok ok.kind]
    exact if_pos ok.perm
def faultWords : List Str := ["deep", "top", "end", "codes", "pairs", "mark", "limit", "signs"]
theorem kindF_word {t e : Int} {k : Kind} {z : Str} (h : kindF t e k = some z) : z ∈ faultWords := by
  unfold kindF at h
  split at h
  · cases h
  · unfold faultWords
    cases k with
    | codes cs =>
      cases h
      simp
    | escapes m prs =>
      by_cases p : Plain t e m
      · have h : (if Plain t e m then some ("pairs" : Str) else some "mark") = some z := h
        rw [if_pos p] at h
        cases h
        simp
      · have h : (if Plain t e m then some ("pairs" : Str) else some "mark") = some z := h
        rw [if_neg p] at h
        cases h
        simp
    | counts l =>
      cases h
      simp
    | ranks => cases h
theorem faultW_word {w : Way} {z : Str} (h : faultW w = some z) : z ∈ faultWords := by
  unfold faultW at h
  split at h
  · cases h
    simp [faultWords]
  · split at h
    · cases h
      simp [faultWords]
    · split at h
      · cases h
        simp [faultWords]
      · split at h
        · rename_i y hk
          cases h
          exact kindF_word hk
        · split at h
          · cases h
          · cases h
            simp [faultWords]
section
variable {P : Program} {w : World} {K : PySem.W.Frag} {mg : Str → Option Value} {base : Heap} {c0 D0 : Addr}
structure FaultsB (P : Program) (w : World) (K : PySem.W.Frag) (mg : Str → Option Value) (base : Heap) (pF : Addr) : Prop where
  codes : ∃ f, mg "codes_fault" = some (.ref f) ∧ KDct K w pF "codes" (.ref f) ∧ C8.Cal P w K mg base 5 "codes_fault" (spCodesFB K) []
  escapes : ∃ f, mg "escapes_fault" = some (.ref f) ∧ KDct K w pF "escapes" (.ref f) ∧ C8.Cal P w K mg base 4 "escapes_fault" (spEscFB K) []
  counts : ∃ f, mg "counts_fault" = some (.ref f) ∧ KDct K w pF "counts" (.ref f) ∧ C8.Cal P w K mg base 2 "counts_fault" (spCountsFB K) []
  ranks : ∃ f, mg "ranks_fault" = some (.ref f) ∧ KDct K w pF "ranks" (.ref f) ∧ C8.Cal P w K mg base 1 "ranks_fault" spRanksFault []
theorem FaultsB.of {pF : Addr} (F : FaultsB P w K mg base pF) {p : Addr} {t e : Int} (k : Kind) (big : BigK k) : ∃ (fa : Addr) (sp : Sp), Held P w K mg base 5 fa sp ∧ KDct K w pF k.name (.ref fa) ∧
    ∀ H Q E, 0 ≤ t → KindAt K H p t e k → (∀ H', Same H H' → Q (faultV (kindF t e k)) H') → sp [.ref p] H Q E := by
  cases k with
  | codes cs =>
    obtain ⟨f, h1, h2, c⟩ := F.codes
    exact ⟨f, _, held_of c h1 (by decide), h2, fun H Q E h0 hk q => ⟨p, t, e, cs, rfl, hk, big.1, big.2, h0, q⟩⟩
  | escapes m prs =>
    obtain ⟨f, h1, h2, c⟩ := F.escapes
    exact ⟨f, _, held_of c h1 (by decide), h2, fun H Q E h0 hk q => ⟨p, t, e, m, prs, rfl, hk, big, q⟩⟩
  | counts l =>
    obtain ⟨f, h1, h2, c⟩ := F.counts
    exact ⟨f, _, held_of c h1 (by decide), h2, fun H Q E h0 hk q => ⟨p, t, e, l, _, rfl, hk, q H (Same.refl _)⟩⟩
  | ranks =>
    obtain ⟨f, h1, h2, c⟩ := F.ranks
    exact ⟨f, _, held_of c h1 (by decide), h2, fun H Q E h0 hk q => ⟨.ref p, rfl, by
      have z := q H (Same.refl _)
      rw [kindF_ok (k := .ranks) trivial] at z
      exact z⟩⟩
def spFaultB (K : PySem.W.Frag) : Sp := fun vs H Q _ => ∃ (v : V) (wy : Way), vs = [v] ∧ WayAt K H v wy ∧ BigK wy.k ∧ wy.ts.length ≤ 1000 ∧ ∀ H', Same H H' → Q (faultV (faultW wy)) H'
set_option maxHeartbeats 2000000 in
theorem c_fault_ofB (Z : Blt mg) {pF : Addr} (m_MOST_TURNED : GI mg "MOST_TURNED" 3) (m_FAULTS : GR mg "FAULTS" pF) (F : FaultsB P w K mg base pF)
    (c_unturned : C8.Cal P w K mg base 1 "unturned" (spUnturned K) []) (c_is_top : C8.Cal P w K mg base 2 "is_top" spTopI []) (c_is_sign : C8.Cal P w K mg base 2 "is_sign" spSignI [])
    (c_is_turning : C8.Cal P w K mg base 4 "is_turning" (spTurnB K) []) (d : Dd K mg "fault_of" s_fault_of P_fault_of) : C8.Cal P w K mg base 6 "fault_of" (spFaultB K) [] := by
  refine d.cal sc_fault_of (fun vs H Q E h => ?_) (fun f cdv A outer s H vs Q E hr h => ?_)
  · obtain ⟨v, wy, rfl, _⟩ := h
    rfl
  · obtain ⟨v, wy, rfl, ⟨tas, p, hts, hw, hk⟩, big, lts, q⟩ := h
    have nd := sc_fault_of.nd
    obtain ⟨xs, hx⟩ := hk.head
    have ltas : tas.length = wy.ts.length := by rw [← hts, List.length_map]
    obtain ⟨fa, sp, held, hF, hsp⟩ := F.of (p := p) (t := wy.t) (e := wy.e) wy.k big
    have A_find_fault := S1_held held
    refine ⟨_, (pss_cons (ps_asg (C8.pe_c c_unturned hr (by decide) (by rfl) (pa_cons (pv 0) pa_nil)) (pg_tup rfl (pgs_cons (pg_name (i := 1) nd rfl (Or.inl rfl)) (pgs_cons (pg_name (i := 2) nd rfl (Or.inl rfl)) pgs_nil))))
  (pss_cons (ps_if (pt_cmpR op_gt (pe_callB k_len (by rfl) Z.len_ (by decide +kernel) (pa_cons (pv 1) pa_nil)) (C8.pe_gc rfl m_MOST_TURNED) (nomark _)) (pss_one (ps_ret pe_str)) pss_nil)
  (pss_cons (ps_asg (pe_slice sl_tup (pv 2) (po_some pe_int) (po_some pe_int)) (pg_tup rfl (pgs_cons (pg_name (i := 3) nd rfl (Or.inr rfl)) (pgs_cons (pg_name (i := 4) nd rfl (Or.inl rfl)) pgs_nil))))
  (pss_cons (ps_if (pt_not (pt_val (C8.pe_c c_is_top hr (by decide) (by rfl) (pa_cons (pv 3) pa_nil)))) (pss_one (ps_ret pe_str)) pss_nil)
  (pss_cons (ps_if (pt_not (pt_val (C8.pe_c c_is_sign hr (by decide) (by rfl) (pa_cons (pv 4) (pa_cons (pv 3) pa_nil))))) (pss_one (ps_ret pe_str)) pss_nil)
  (pss_cons (ps_set (i := 5) nd rfl (Or.inl rfl) (pe_ix ix_kdict (C8.pe_gc rfl m_FAULTS) (pe_ix ix_tup (pv 2) pe_int (fun _ _ => rfl)) (fun _ _ => rfl)))
  (pss_cons (ps_set (i := 6) nd rfl (Or.inl rfl) (pe_callA A_find_fault hr (x := "find_fault") (i := 5) rfl (by first | exact Or.inl rfl | exact Or.inr (Or.inl rfl) | exact Or.inr (Or.inr rfl)) (pa_cons (pv 2) pa_nil)))
  (pss_cons (ps_if (PW.pt (pw_and (pt_cmpR k_isN (pv 6) pe_non (nomark _)) (pw_and1 (pt_not (pt_val (pe_callB (cr_all rfl) (by rfl) Z.all_ (by decide +kernel) (pa_cons (pe_lc (own := [("signs", 7)]) (g := gName 7) (tt := tYes) rfl nd (pi_list (pv 1)) (blkOk_by (N := N_fault_of) (sc := C8.fnScope s_fault_of) (own := [("signs", 7)]) (by decide +kernel)) (fun _ _ _ _ _ => (pg_name (i := 7) nd rfl (Or.inl rfl))) (fun _ _ _ _ _ => pts_nil) (fun _ _ _ _ _ => (C8.pe_c c_is_turning hr (by decide) (by rfl) (pa_cons (pv 7) (pa_cons (pv 3) pa_nil))))) pa_nil))))))) (pss_one (ps_ret pe_str)) pss_nil)
  (pss_one (ps_ret (pv 6))))))))))), ?_⟩
    refine i_start (σ' := [some v, none, none, none, none, none, none, none]) rfl ?_
    walk_at "go"
    walk_at "r"
    refine ⟨v, tas, p, wy.k.name, _, rfl, hw, hx, wy.k.name_ne, by omega, fun q1 l H1 _ hl s1 e1 el => ?_⟩
    have hx1 := stup s1 hx
    walk_at "r"
    by_cases c1 : 3 < wy.ts.length
    · refine i_yes (by rw [List.length_map]; omega) ?_
      walk_at "r"
      have e : faultW wy = some "deep" := by
        unfold faultW
        exact if_pos c1
      rw [e] at q
      exact q _ s1
    refine i_no (by rw [List.length_map]; omega) ?_
    walk_at "r"
    refine i_slT hx1 (cut1_ne _ _ _ _) (fun q2 H2 _ s2 e2 => ?_)
    rw [cut13] at e2
    have hx2 := stup s2 hx1
    have el2 := s2 _ _ el
    have s12 := s1.trans s2
    walk_at "r"
    refine ⟨wy.t, rfl, ?_⟩
    walk_at "r"
    by_cases c2 : 3 ≤ wy.t ∧ wy.t ≤ 16
    rotate_left
    · refine i_no c2 ?_
      walk_at "r"
      have e : faultW wy = some "top" := by
        unfold faultW
        rw [if_neg c1]
        exact if_pos c2
      rw [e] at q
      exact q _ s12
    refine i_yes c2 ?_
    walk_at "r"
    refine ⟨wy.e, wy.t, rfl, ?_⟩
    walk_at "r"
    by_cases c3 : 0 ≤ wy.e ∧ wy.e < wy.t
    rotate_left
    · refine i_no c3 ?_
      walk_at "r"
      have e : faultW wy = some "end" := by
        unfold faultW
        rw [if_neg c1, if_neg (fun z => z c2)]
        exact if_pos c3
      rw [e] at q
      exact q _ s12
    refine i_yes c3 ?_
    walk_at "r"
    refine i_kd hF ?_
    walk_at "r"
    refine i_callA S1_self ?_
    walk_at "r"
    refine hsp _ _ _ (by omega) (hk.same s12) (fun H3 s3 => ?_)
    have s13 := s12.trans s3
    have el3 := s3 _ _ el2
    have ef : faultW wy = match kindF wy.t wy.e wy.k with | some z => some z | none => if ∀ p ∈ wy.ts, p.Perm (countL wy.t) then none else some "signs" := by
      unfold faultW
      rw [if_neg c1, if_neg (fun z => z c2), if_neg (fun z => z c3)]
    cases hkf : kindF wy.t wy.e wy.k with
    | some z =>
      rw [hkf] at ef
      rw [ef] at q
      rw [show faultV (some z) = V.str z from rfl]
      walk_at "r"
      refine i_no (by intro y; cases y) ?_
      walk_at "r"
      exact q _ s13
    | none =>
      rw [hkf] at ef
      rw [show faultV none = V.non from rfl]
      walk_at "r"
      refine i_yes rfl ?_
      walk_at "r"
      refine i_lcLI (fun D j acc H' => acc = ((tas.take j).map fun x => bOf (x.2.Perm (countL wy.t))).map V.bl ∧ Same H3 H' ∧ H' D = some (.lst acc)) (sl_of el3)
        (fun D hD => ⟨rfl, same_new hD, upd_same⟩) (fun D j acc H' hD pv => sl_of (pv.2.1 _ _ el3)) (fun D j x acc H' hD hx hl2 pv => ?_) (fun p4 acc H4 hp4 pv => ?_)
      · obtain ⟨rfl, s4, e4⟩ := pv
        rw [List.getElem?_map] at hx
        obtain ⟨y, hy, rfl⟩ : ∃ y, tas[j]? = some y ∧ x = .ref y.1 := by
          cases e : tas[j]? with
          | none =>
            rw [e] at hx
            cases hx
          | some y =>
            rw [e] at hx
            exact ⟨y, rfl, (Option.some.inj hx).symm⟩
        have jl := (List.getElem?_eq_some_iff.mp hy).1
        walk_at "r"
        refine ⟨y.1, y.2, wy.t, rfl, stup (s13.trans s4) (hw.mem y (List.mem_of_getElem? hy)), by omega, by omega, fun H5 s5 => ?_⟩
        refine kY_of (s5 _ _ e4) hl2 (by omega) ⟨?_, smut (s4.trans s5) hD, upd_same⟩
        rw [take_succ' hy, List.map_append, List.map_append]
        rfl
      · obtain ⟨rfl, s4, e4⟩ := pv
        rw [List.length_map, List.take_length] at e4
        have ep : (∀ x ∈ tas, x.2.Perm (countL wy.t)) ↔ ∀ p ∈ wy.ts, p.Perm (countL wy.t) := by
          rw [← hts]
          exact ⟨fun z p m => by
            obtain ⟨x, hx, rfl⟩ := List.mem_map.mp m
            exact z x hx, fun z x hx => z _ (List.mem_map.mpr ⟨x, hx, rfl⟩)⟩
        walk_at "r"
        refine i_all (sl_of e4) ?_
        rw [all_bOf]
        by_cases c4 : ∀ p ∈ wy.ts, p.Perm (countL wy.t)
        · rw [bOf_true (ep.mpr c4)]
          walk_at "r"
          have e : faultW wy = none := ef.trans (if_pos c4)
          rw [e] at q
          exact q _ (s13.trans s4)
        · rw [bOf_false (fun z => c4 (ep.mp z))]
          walk_at "r"
          have e : faultW wy = some "signs" := ef.trans (if_neg c4)
          rw [e] at q
          exact q _ (s13.trans s4)
/-- a way wanted: it is good, or refused by its fault -/
def spNeedX (K : PySem.W.Frag) (c0 : Addr) : Sp := fun vs H Q E => ∃ (v : V) (wy : Way), vs = [v] ∧ WayAt K H v wy ∧ BigK wy.k ∧ wy.ts.length ≤ 1000 ∧ (wy.Ok → ∀ H', Same H H' → Q .non H') ∧ ∀ z, faultW wy = some z → ∀ H' d, Same H H' → H' d = none → E (.ref c0) (some d) (upd H' d (.xd [("why", .str z)]))
theorem word_short : ∀ z ∈ faultWords, z.length ≤ 1000 := by decide +kernel
theorem c_need_wayX (EX : ExX P w K mg base 1 "BadWay" c0 D0 "why" goodStr) (c_fault_of : C8.Cal P w K mg base 6 "fault_of" (spFaultB K) []) (d : Dd K mg "need_way" s_need_way P_need_way) : CalXN P w K mg base 7 "need_way" (spNeedX K c0) := by
  refine d.calXN sc_need_way (fun vs H Q E h => ?_) (fun f cdv A outer s H vs Q E hr h => ?_)
  · obtain ⟨v, wy, rfl, _⟩ := h
    rfl
  · obtain ⟨v, wy, rfl, hw, big, lts, q1, q2⟩ := h
    have nd := sc_need_way.nd
    refine ⟨_, (pss_cons (ps_set (i := 1) nd rfl (Or.inl rfl) (C8.pe_c c_fault_of hr (by decide) (by rfl) (pa_cons (pv 0) pa_nil)))
  (pss_one (ps_if (pt_cmpR k_notN (pv 1) pe_non (nomark _)) (pss_one (ps_raXN rfl (L2N.takes_of rfl rfl rfl rfl) (pmk_xN EX hr (by decide) (by rfl) (pa_cons (pv 1) pa_nil)))) pss_nil))), ?_⟩
    refine i_start (σ' := [some v, none]) rfl ?_
    walk_at "go"
    walk_at "r"
    refine ⟨v, wy, rfl, hw, big, lts, fun H1 s1 => ?_⟩
    cases hf : faultW wy with
    | none =>
      rw [show faultV none = V.non from rfl]
      walk_at "r"
      refine i_nyes rfl ?_
      walk_at "r"
      exact q1 (faultW_none.mp hf) _ s1
    | some z =>
      rw [show faultV (some z) = V.str z from rfl]
      walk_at "r"
      refine i_nno (by intro y; cases y) ?_
      walk_at "r"
      exact i_mkx EX ⟨z, rfl, word_short z (faultW_word hf)⟩ fun d hd => q2 z hf H1 d s1 hd
end
end Esc

/-! The text of a way. -/
namespace Esc
open PySem PySem.Spec PyProof.Rows L2
def numS (n : Int) : Str := toString n
def dotS (ns : List Int) : Str := Txt.join "." (ns.map numS)
def pairS (p : Int × Int) : Str := ((numS p.1) ++ (":" : Str)) ++ numS p.2
def kindWords (t e : Int) : Kind → List Str
  | .codes cs => [("codes" : Str), numS t, numS e] ++ cs.map dotS
  | .escapes m prs => [("escapes" : Str), numS t, numS e, numS m] ++ prs.map pairS
  | .counts l => [("counts" : Str), numS t, numS e, numS l]
  | .ranks => [("ranks" : Str), numS t, numS e]
def turnWords (ts : List (List Int)) : List Str := (ts.map fun s => [("turned" : Str), dotS s]).flatten
def wayWords (w : Way) : List Str := turnWords w.ts ++ kindWords w.t w.e w.k
def wayS (w : Way) : Str := Txt.join " " (wayWords w)
/-- numbers of three figures at most -/
def Num3 (n : Int) : Prop := 0 ≤ n ∧ n < 1000
def Row3 (ns : List Int) : Prop := (∀ n ∈ ns, Num3 n) ∧ ns ≠ [] ∧ ns.length ≤ 40
def Kind3 : Kind → Prop
  | .codes cs => (∀ c ∈ cs, Row3 c) ∧ cs.length ≤ 40
  | .escapes m prs => Num3 m ∧ (∀ p ∈ prs, Num3 p.1 ∧ Num3 p.2) ∧ prs.length ≤ 40
  | .counts l => Num3 l
  | .ranks => True
structure Way3 (w : Way) : Prop where
  ts : ∀ s ∈ w.ts, Row3 s
  few : w.ts.length ≤ 10
  t : Num3 w.t
  e : Num3 w.e
  k : Kind3 w.k
/-! ### numbers as texts -/
theorem numS_tl {n : Int} (h : 0 ≤ n) : TL.tl (numS n) = TL.numL n.toNat := by
  obtain ⟨k, rfl⟩ := Int.eq_ofNat_of_zero_le h
  exact TL.tl_num k
theorem numS_len {n : Int} (h : Num3 n) : (numS n).length ≤ 3 ∧ 1 ≤ (numS n).length := by
  rw [TL.len_tl, numS_tl h.1]
  have z := h.2
  have z0 := h.1
  refine ⟨TL.numL_len (by decide) (show n.toNat < 10 ^ 3 by omega), ?_⟩
  have y := TL.numL_ne n.toNat
  cases e : TL.numL n.toNat with
  | nil => exact absurd e y
  | cons a l => rw [List.length_cons]; omega
theorem numS_free {n : Int} {s : Nat} (h : 0 ≤ n) (hs : s < 48 ∨ 57 < s) : s ∉ TL.tl (numS n) := by
  rw [numS_tl h]
  exact TL.numL_free hs
theorem numS_int {n : Int} (h : Num3 n) : intText? (numS n) = some n := by
  obtain ⟨k, rfl⟩ := Int.eq_ofNat_of_zero_le h.1
  have z := TL.numL_len (n := k) (k := 3) (by decide) (by have := h.2; omega)
  exact TL.int_num (Nat.le_trans z (by decide))
theorem numS_digits {n : Int} (h : 0 ≤ n) : ∀ c ∈ (numS n).cps.toList, 48 ≤ c ∧ c ≤ 57 := fun c m => by
  have z := numS_tl h
  rw [show (numS n).cps.toList = TL.numL n.toNat from z] at m
  exact TL.numL_digits n.toNat c m
theorem numL_head : ∀ n : Nat, 0 < n → ∃ c l, TL.numL n = c :: l ∧ c ≠ 48 := fun n => by
  induction n using Nat.strongRecOn with
  | _ n ih =>
    intro h0
    by_cases h : n < 10
    · exact ⟨48 + n, [], TL.numL_lt h, by omega⟩
    · obtain ⟨c, l, e, hc⟩ := ih (n / 10) (by omega) (by omega)
      exact ⟨c, l ++ [48 + n % 10], by rw [TL.numL_step (by omega), e]; rfl, hc⟩
/-- no needless 0 -/
theorem numS_zero {n : Int} (h : 0 ≤ n) {l : List Nat} (e : (numS n).cps.toList = 48 :: l) : l = [] := by
  have z : TL.numL n.toNat = 48 :: l := by rw [← numS_tl h]; exact e
  by_cases c : n.toNat = 0
  · rw [c, TL.numL_lt (by decide)] at z
    exact (List.cons.inj z).2.symm
  · obtain ⟨c', l', e', hc⟩ := numL_head n.toNat (by omega)
    rw [e'] at z
    exact absurd (List.cons.inj z).1 hc
/-! ### joined texts -/
theorem joinL_mem {S : List Nat} {s : Nat} : ∀ {ps : List (List Nat)}, s ∈ TL.joinL S ps → s ∈ S ∨ ∃ p ∈ ps, s ∈ p
  | [], h => by cases h
  | [p], h => .inr ⟨p, List.mem_singleton.mpr rfl, h⟩
  | p :: q :: r, h => by
    have h : s ∈ p ++ (S ++ TL.joinL S (q :: r)) := h
    rcases List.mem_append.mp h with m | m
    · exact .inr ⟨p, List.mem_cons_self, m⟩
    · rcases List.mem_append.mp m with m | m
      · exact .inl m
      · rcases joinL_mem m with z | ⟨x, hx, z⟩
        · exact .inl z
        · exact .inr ⟨x, List.mem_cons_of_mem _ hx, z⟩
theorem join_free {y : Str} {s : Nat} {ps : List Str} (hy : s ∉ TL.tl y) (hp : ∀ p ∈ ps, s ∉ TL.tl p) : s ∉ TL.tl (Txt.join y ps) := fun h => by
  rw [TL.join_eq, TL.tl_join] at h
  rcases joinL_mem h with z | ⟨x, hx, z⟩
  · exact hy z
  · obtain ⟨p, m, rfl⟩ := List.mem_map.mp hx
    exact hp p m z
theorem joinL_len {S : List Nat} {k : Nat} : ∀ {ps : List (List Nat)}, (∀ p ∈ ps, p.length ≤ k) → (TL.joinL S ps).length ≤ ps.length * (k + S.length)
  | [], _ => by simp [TL.joinL]
  | [p], h => by
    have z := h p (List.mem_singleton.mpr rfl)
    show p.length ≤ 1 * _
    omega
  | p :: q :: r, h => by
    have z := h p List.mem_cons_self
    have ih := joinL_len (S := S) (ps := q :: r) fun x m => h x (List.mem_cons_of_mem _ m)
    show (p ++ (S ++ TL.joinL S (q :: r))).length ≤ _
    rw [List.length_append, List.length_append, List.length_cons, Nat.succ_mul]
    omega
theorem join_len {y : Str} {k : Nat} {ps : List Str} (h : ∀ p ∈ ps, p.length ≤ k) : (Txt.join y ps).length ≤ ps.length * (k + y.length) := by
  rw [TL.len_tl, TL.join_eq, TL.tl_join]
  have z := joinL_len (S := TL.tl y) (ps := ps.map TL.tl) (k := k) (fun p m => by
    obtain ⟨x, hx, rfl⟩ := List.mem_map.mp m
    rw [← TL.len_tl]
    exact h x hx)
  rw [List.length_map] at z
  rw [TL.len_tl y]
  exact z
theorem sum_len {k : Nat} : ∀ {ps : List Str}, (∀ p ∈ ps, p.length ≤ k) → (ps.map (·.length)).sum ≤ ps.length * k
  | [], _ => by simp
  | p :: ps, h => by
    have z := h p List.mem_cons_self
    have ih := sum_len (ps := ps) fun x m => h x (List.mem_cons_of_mem _ m)
    rw [List.map_cons, List.sum_cons, List.length_cons, Nat.succ_mul]
    omega
theorem dotS_split {ns : List Int} (h : Row3 ns) : Txt.split (dotS ns) "." = ns.map numS := by
  refine TL.split_join (s := 46) (S := []) (by decide +kernel) (by decide +kernel) (fun z => h.2.1 (List.map_eq_nil_iff.mp z)) fun p m => ?_
  obtain ⟨n, hn, rfl⟩ := List.mem_map.mp m
  exact numS_free (h.1 n hn).1 (by omega)
theorem dotS_len {ns : List Int} (h : Row3 ns) : (dotS ns).length ≤ 160 := by
  have z := join_len (y := ".") (ps := ns.map numS) (k := 3) (fun p m => by
    obtain ⟨n, hn, rfl⟩ := List.mem_map.mp m
    exact (numS_len (h.1 n hn)).1)
  rw [List.length_map] at z
  have e : ("." : Str).length = 1 := by decide +kernel
  rw [e] at z
  have l := h.2.2
  unfold dotS
  omega
theorem dotS_free {ns : List Int} (h : Row3 ns) : 32 ∉ TL.tl (dotS ns) := join_free (by decide +kernel) fun p m => by
  obtain ⟨n, hn, rfl⟩ := List.mem_map.mp m
  exact numS_free (h.1 n hn).1 (by omega)
theorem pairS_len {p : Int × Int} (h : Num3 p.1 ∧ Num3 p.2) : (pairS p).length ≤ 7 := by
  have a := numS_len h.1
  have b := numS_len h.2
  have e : (":" : Str).length = 1 := by decide +kernel
  have ap : ∀ x y : Str, (x ++ y).length = x.length + y.length := fun x y => by
    rw [TL.len_tl, TL.tl_append, List.length_append, ← TL.len_tl, ← TL.len_tl]
  unfold pairS
  rw [ap, ap, e]
  omega
theorem pairS_free {p : Int × Int} (h : Num3 p.1 ∧ Num3 p.2) : 32 ∉ TL.tl (pairS p) := fun m => by
  unfold pairS at m
  rw [TL.tl_append, TL.tl_append] at m
  rcases List.mem_append.mp m with m | m
  · rcases List.mem_append.mp m with m | m
    · exact numS_free h.1.1 (by omega) m
    · exact absurd m (by decide +kernel)
  · exact numS_free h.2.1 (by omega) m
theorem pairS_split {p : Int × Int} (h : Num3 p.1 ∧ Num3 p.2) : Txt.split (pairS p) ":" = [numS p.1, numS p.2] := by
  have e : pairS p = Txt.join ":" [numS p.1, numS p.2] := by
    rw [TL.join_eq]
    rfl
  rw [e]
  refine TL.split_join (s := 58) (S := []) (by decide +kernel) (by decide +kernel) (by simp) fun q m => ?_
  rcases List.mem_cons.mp m with rfl | m
  · exact numS_free h.1.1 (by omega)
  · rw [List.mem_singleton.mp m]
    exact numS_free h.2.1 (by omega)
/-! ### a way's words -/
def WordOk (x : Str) : Prop := 32 ∉ TL.tl x ∧ x.length ≤ 160
theorem num_word {n : Int} (h : Num3 n) : WordOk (numS n) := ⟨numS_free h.1 (by omega), by have := (numS_len h).1; omega⟩
theorem kindWords_ok {t e : Int} (ht : Num3 t) (he : Num3 e) : ∀ {k : Kind}, Kind3 k → (∀ x ∈ kindWords t e k, WordOk x) ∧ (kindWords t e k).length ≤ 44
  | .codes cs, h => by
    refine ⟨fun x m => ?_, by unfold kindWords; rw [List.length_append, List.length_map]; have := h.2; show 3 + _ ≤ _; omega⟩
    rcases List.mem_append.mp m with m | m
    · rcases List.mem_cons.mp m with rfl | m
      · exact ⟨by decide +kernel, by decide +kernel⟩
      · rcases List.mem_cons.mp m with rfl | m
        · exact num_word ht
        · rw [List.mem_singleton.mp m]
          exact num_word he
    · obtain ⟨c, hc, rfl⟩ := List.mem_map.mp m
      exact ⟨dotS_free (h.1 c hc), dotS_len (h.1 c hc)⟩
  | .escapes mk prs, h => by
    refine ⟨fun x m => ?_, by unfold kindWords; rw [List.length_append, List.length_map]; have := h.2.2; show 4 + _ ≤ _; omega⟩
    rcases List.mem_append.mp m with m | m
    · rcases List.mem_cons.mp m with rfl | m
      · exact ⟨by decide +kernel, by decide +kernel⟩
      · rcases List.mem_cons.mp m with rfl | m
        · exact num_word ht
        · rcases List.mem_cons.mp m with rfl | m
          · exact num_word he
          · rw [List.mem_singleton.mp m]
            exact num_word h.1
    · obtain ⟨c, hc, rfl⟩ := List.mem_map.mp m
      exact ⟨pairS_free (h.2.1 c hc), by have := pairS_len (h.2.1 c hc); omega⟩
  | .counts l, h => by
    refine ⟨fun x m => ?_, by show 4 ≤ _; decide⟩
    rcases List.mem_cons.mp m with rfl | m
    · exact ⟨by decide +kernel, by decide +kernel⟩
    · rcases List.mem_cons.mp m with rfl | m
      · exact num_word ht
      · rcases List.mem_cons.mp m with rfl | m
        · exact num_word he
        · rw [List.mem_singleton.mp m]
          exact num_word h
  | .ranks, h => by
    refine ⟨fun x m => ?_, by show 3 ≤ _; decide⟩
    rcases List.mem_cons.mp m with rfl | m
    · exact ⟨by decide +kernel, by decide +kernel⟩
    · rcases List.mem_cons.mp m with rfl | m
      · exact num_word ht
      · rw [List.mem_singleton.mp m]
        exact num_word he
theorem turnWords_cons (s : List Int) (ts : List (List Int)) : turnWords (s :: ts) = [("turned" : Str), dotS s] ++ turnWords ts := rfl
theorem turnWords_len : ∀ ts : List (List Int), (turnWords ts).length = 2 * ts.length
  | [] => rfl
  | s :: ts => by
    rw [turnWords_cons, List.length_append, turnWords_len ts]
    show 2 + 2 * ts.length = 2 * (ts.length + 1)
    omega
theorem turnWords_snoc (ts : List (List Int)) (s : List Int) : turnWords (ts ++ [s]) = turnWords ts ++ [("turned" : Str), dotS s] := by
  unfold turnWords
  rw [List.map_append, List.flatten_append]
  rfl
theorem turnWords_ok : ∀ {ts : List (List Int)}, (∀ s ∈ ts, Row3 s) → ∀ x ∈ turnWords ts, WordOk x
  | [], _, x, m => by cases m
  | s :: ts, h, x, m => by
    rw [turnWords_cons] at m
    rcases List.mem_append.mp m with m | m
    · rcases List.mem_cons.mp m with rfl | m
      · exact ⟨by decide +kernel, by decide +kernel⟩
      · rw [List.mem_singleton.mp m]
        exact ⟨dotS_free (h s List.mem_cons_self), dotS_len (h s List.mem_cons_self)⟩
    · exact turnWords_ok (fun s m => h s (List.mem_cons_of_mem _ m)) x m
theorem wayWords_ok {w : Way} (h : Way3 w) : (∀ x ∈ wayWords w, WordOk x) ∧ (wayWords w).length ≤ 64 := by
  have k := kindWords_ok h.t h.e h.k
  refine ⟨fun x m => ?_, ?_⟩
  · rcases List.mem_append.mp m with m | m
    · exact turnWords_ok h.ts x m
    · exact k.1 x m
  · unfold wayWords
    rw [List.length_append, turnWords_len]
    have := k.2
    have := h.few
    omega
theorem wayS_len {w : Way} (h : Way3 w) : (wayS w).length ≤ 20000 := by
  have o := wayWords_ok h
  have z := join_len (y := " ") (ps := wayWords w) (k := 160) fun p m => (o.1 p m).2
  have e : (" " : Str).length = 1 := by decide +kernel
  rw [e] at z
  have := o.2
  unfold wayS
  omega
theorem kindWords_ne (t e : Int) (k : Kind) : kindWords t e k ≠ [] := by
  cases k <;> simp [kindWords]
theorem wayS_split {w : Way} (h : Way3 w) : Txt.split (wayS w) " " = wayWords w := by
  have o := wayWords_ok h
  refine TL.split_join (s := 32) (S := []) (by decide +kernel) (by decide +kernel) (fun z => kindWords_ne w.t w.e w.k (List.append_eq_nil_iff.mp z).2) fun p m => (o.1 p m).1
/-- a good way's numbers are short -/
theorem Way.Ok.three {w : Way} (ok : w.Ok) : Way3 w := by
  have t3 := ok.t3
  have t16 := ok.t16
  have e0 := ok.e0
  have e1 := ok.e1
  refine ⟨fun s m => ?_, Nat.le_trans ok.few (by decide), ⟨by omega, by omega⟩, ⟨by omega, by omega⟩, ?_⟩
  · have p := ok.perm s m
    have l := p.length_eq
    unfold countL at l
    rw [List.length_map, List.length_range] at l
    refine ⟨fun n hn => ?_, fun z => ?_, by omega⟩
    · have z := p.mem_iff.mp hn
      unfold countL at z
      obtain ⟨i, hi, rfl⟩ := List.mem_map.mp z
      have := List.mem_range.mp hi
      exact ⟨by omega, by omega⟩
    · rw [z] at l
      simp at l
      omega
  · have kind := ok.kind
    generalize w.k = k at kind
    cases k with
    | codes cs =>
      obtain ⟨k1, k2, k3⟩ := kind
      refine ⟨fun c hc => ?_, by omega⟩
      obtain ⟨a1, a2, a3⟩ := k2 c hc
      refine ⟨fun n hn => ?_, fun z => by rw [z] at a1; simp at a1, by omega⟩
      obtain ⟨b1, b2, b3⟩ := a3 n hn
      exact ⟨b1, by omega⟩
    | escapes mk prs =>
      obtain ⟨k1, k2, k3, k4, k5, k6, k7⟩ := kind
      have lp : prs.length ≤ 16 := by
        have z : ∀ (l : List Int), l.Pairwise (· < ·) → (∀ s ∈ l, 0 ≤ s ∧ s < w.t) → l.length ≤ w.t.toNat := fun l h1 h2 => by
          have nd : l.Nodup := h1.imp fun h e => by omega
          have sb : l ⊆ (List.range w.t.toNat).map fun (i : Nat) => (i : Int) := fun x hx => by
            obtain ⟨a, b⟩ := h2 x hx
            exact List.mem_map.mpr ⟨x.toNat, List.mem_range.mpr (by omega), by omega⟩
          have := (List.Nodup.length_le_of_subset nd sb)
          rw [List.length_map, List.length_range] at this
          exact this
        have := z _ k2 k3
        rw [List.length_map] at this
        omega
      refine ⟨⟨k1.1, by have := k1.2.1; omega⟩, fun p hp => ⟨?_, ?_⟩, by omega⟩
      · obtain ⟨a, b⟩ := k3 p.1 (List.mem_map.mpr ⟨p, hp, rfl⟩)
        exact ⟨a, by omega⟩
      · obtain ⟨a, b, _⟩ := k6 p.2 (List.mem_map.mpr ⟨p, hp, rfl⟩)
        exact ⟨a, by omega⟩
    | counts l => exact ⟨by have := kind.1; omega, by have := kind.2; omega⟩
    | ranks => trivial
end Esc

/-! A way written. -/
namespace Esc
open PySem PySem.Spec PyProof.Rows L2
def fNum : V → Option V
  | .int n => some (.str (numS n))
  | _ => none
theorem fNum_map : ∀ ns : List Int, (ns.map V.int).filterMap fNum = (ns.map numS).map V.str
  | [] => rfl
  | n :: ns => by
    show V.str (numS n) :: (ns.map V.int).filterMap fNum = _
    rw [fNum_map ns]
    rfl
theorem cut1_any (a : V) (xs : List V) (hi : Option Int) {n : Nat} (h : xs ≠ []) : ¬ (HT.sIx (a :: xs).length 0 (some 1) = 0 ∧ HT.sIx (a :: xs).length (a :: xs).length hi = n) := fun z => by
  have q := z.1
  rw [show (1 : Int) = ((1 : Nat) : Int) from rfl, HT.sIx_nat, List.length_cons, Nat.min_eq_left (by omega)] at q
  exact absurd q (by decide)
theorem cut14 (a b c d : V) (xs : List V) : cutV (a :: b :: c :: d :: xs) (some 1) (some 4) = [b, c, d] := by
  unfold cutV
  rw [show (1 : Int) = ((1 : Nat) : Int) from rfl, show (4 : Int) = ((4 : Nat) : Int) from rfl, HT.sIx_nat, HT.sIx_nat, List.length_cons, List.length_cons, List.length_cons, List.length_cons, Nat.min_eq_left (by omega), Nat.min_eq_left (by omega)]
  rfl
section
variable {P : Program} {w : World} {K : PySem.W.Frag} {mg : Str → Option Value} {base : Heap}
def spDotted (K : PySem.W.Frag) : Sp := fun vs H Q _ => ∃ (a : Addr) (ns : List Int), vs = [.ref a] ∧ SqT K H a (ns.map V.int) ∧ Row3 ns ∧ ∀ H', Same H H' → Q (.str (dotS ns)) H'
theorem c_dotted (Z2 : Blt2 mg) (d : Dd K mg "dotted" s_dotted P_dotted) : C8.Cal P w K mg base 1 "dotted" (spDotted K) [] := by
  refine d.cal sc_dotted (fun vs H Q E h => ?_) (fun f cdv A outer s H vs Q E hr h => ?_)
  · obtain ⟨a, ns, rfl, _⟩ := h
    rfl
  · obtain ⟨a, ns, rfl, ha, hn, q⟩ := h
    have nd := sc_dotted.nd
    have l40 := hn.2.2
    refine ⟨_, (pss_one (ps_ret (pe_joinW pe_str (pe_lc (own := [("sign", 1)]) (g := gName 1) (tt := tYes) rfl nd (pi_tup (pv 0)) (blkOk_by (N := N_dotted) (sc := C8.fnScope s_dotted) (own := [("sign", 1)]) (by decide +kernel)) (fun _ _ _ _ _ => (pg_name (i := 1) nd rfl (Or.inl rfl))) (fun _ _ _ _ _ => pts_nil) (fun _ _ _ _ _ => (pe_callTy k_strI (by rfl) Z2.str_ (by decide +kernel) (pa_cons (pv 1) pa_nil))))))), ?_⟩
    refine i_start (σ' := [some (.ref a), none]) rfl ?_
    walk_at "go"
    walk_at "r"
    refine i_lcT (F := fNum) ha (by rw [List.length_map]; omega) (fun x hx H1 s1 QN QY hN hY => ?_) (fun p1 H1 hp1 s1 e1 => ?_)
    · obtain ⟨n, hm, rfl⟩ := List.mem_map.mp hx
      obtain ⟨n0, n1⟩ := hn.1 n hm
      walk_at "r"
      refine i_strI n0 (by omega) ?_
      exact hY _ rfl _ (Same.refl _)
    · rw [fNum_map] at e1
      walk_at "r"
      refine i_join (sl_of e1) ?_ ?_
      · have z := sum_len (ps := ns.map numS) (k := 3) (fun p m => by
          obtain ⟨n, hm, rfl⟩ := List.mem_map.mp m
          exact (numS_len (hn.1 n hm)).1)
        have e : ("." : Str).length = 1 := by decide +kernel
        rw [List.length_map] at z ⊢
        rw [e]
        omega
      · exact q _ s1
def spInnerWords (K : PySem.W.Frag) : Sp := fun vs H Q _ => ∃ (p : Addr) (t e : Int) (k : Kind), vs = [.ref p] ∧ KindAt K H p t e k ∧ Num3 t ∧ Num3 e ∧ Kind3 k ∧ ∀ q H', H q = none → Same H H' → H' q = some (.lst ((kindWords t e k).map V.str)) → Q (.ref q) H'
theorem c_inner_words (Z2 : Blt2 mg) {pN : Addr} (m_NUMBERS : GR mg "NUMBERS" pN) (n1 : KDct K w pN "codes" (.int 2)) (n2 : KDct K w pN "escapes" (.int 3)) (n3 : KDct K w pN "counts" (.int 3)) (n4 : KDct K w pN "ranks" (.int 2))
    (c_dotted : C8.Cal P w K mg base 1 "dotted" (spDotted K) []) (d : Dd K mg "inner_words" s_inner_words P_inner_words) : C8.Cal P w K mg base 2 "inner_words" (spInnerWords K) [] := by
  refine d.cal sc_inner_words (fun vs H Q E h => ?_) (fun f cdv A outer s H vs Q E hr h => ?_)
  · obtain ⟨p, t, e, k, rfl, _⟩ := h
    rfl
  · obtain ⟨p, t, e, k, rfl, hk, ht, he, k3, q⟩ := h
    have nd := sc_inner_words.nd
    refine ⟨_, (pss_cons (ps_set (i := 1) nd rfl (Or.inl rfl) (pe_ix ix_tup (pv 0) pe_int (fun _ _ => rfl)))
  (pss_cons (ps_set (i := 2) nd rfl (Or.inl rfl) (pe_op op_add pe_int (pe_ix ix_kdict (C8.pe_gc rfl m_NUMBERS) (pv 1) (fun _ _ => rfl))))
  (pss_cons (ps_set (i := 3) nd rfl (Or.inl rfl) (pe_op op_cat (pe_lst (pa_cons (pv 1) pa_nil)) (pe_lc (own := [("number", 4)]) (g := gName 4) (tt := tYes) rfl nd (pi_tup (pe_slice sl_tup (pv 0) (po_some pe_int) (po_some (pv 2)))) (blkOk_by (N := N_inner_words) (sc := C8.fnScope s_inner_words) (own := [("number", 4)]) (by decide +kernel)) (fun _ _ _ _ _ => (pg_name (i := 4) nd rfl (Or.inl rfl))) (fun _ _ _ _ _ => pts_nil) (fun _ _ _ _ _ => (pe_callTy k_strI (by rfl) Z2.str_ (by decide +kernel) (pa_cons (pv 4) pa_nil))))))
  (C8.pss_cut (ps_if (pt_cmpR op_eq (pv 1) pe_str (nomark _)) (pss_one (ps_expr (pe_bm PySem.F.plainAttrs_list PySem.F.slot_list_extend PySem.F.type_list_extend mt_extend (pv 3) (pa_cons (pe_lc (own := [("code", 5)]) (g := gName 5) (tt := tYes) rfl nd (pi_tup (pe_ix ix_tup (pv 0) (pv 2) (fun _ _ => rfl))) (blkOk_by (N := N_inner_words) (sc := C8.fnScope s_inner_words) (own := [("code", 5)]) (by decide +kernel)) (fun _ _ _ _ _ => (pg_name (i := 5) nd rfl (Or.inl rfl))) (fun _ _ _ _ _ => pts_nil) (fun _ _ _ _ _ => (C8.pe_c c_dotted hr (by decide) (by rfl) (pa_cons (pv 5) pa_nil)))) pa_nil)))) pss_nil)
  (C8.pss_cut (ps_if (pt_cmpR op_eq (pv 1) pe_str (nomark _)) (pss_one (ps_expr (pe_bm PySem.F.plainAttrs_list PySem.F.slot_list_extend PySem.F.type_list_extend mt_extend (pv 3) (pa_cons (pe_lc (own := [("sign", 6), ("code", 5)]) (g := gTup K 2 (gCons (gName 6) (gCons (gName 5) gNil))) (tt := tYes) rfl nd (pi_tup (pe_ix ix_tup (pv 0) (pv 2) (fun _ _ => rfl))) (blkOk_by (N := N_inner_words) (sc := C8.fnScope s_inner_words) (own := [("sign", 6), ("code", 5)]) (by decide +kernel)) (fun _ _ _ _ _ => (pg_tup rfl (pgs_cons (pg_name (i := 6) nd rfl (Or.inl rfl)) (pgs_cons (pg_name (i := 5) nd rfl (Or.inl rfl)) pgs_nil)))) (fun _ _ _ _ _ => pts_nil) (fun _ _ _ _ _ => (pe_joinedW (.cons (pe_fmt (pv 6)) (.cons pe_str (.cons (pe_fmt (pv 5)) .nil)))))) pa_nil)))) pss_nil)
  (pss_one (ps_ret (pv 3)))))))), ?_⟩
    refine i_start (σ' := [some (.ref p), none, none, none, none, none, none]) rfl ?_
    walk_at "go"
    have num : ∀ {n : Int} {H1 : Hp} {QY : VK}, Num3 n → (∀ y, fNum (.int n) = some y → ∀ H2, Same H1 H2 → QY y H2) → rStrI [.int n] H1 QY := fun {n H1 QY} h hY => i_strI h.1 (by have := h.2; omega) (hY _ rfl _ (Same.refl _))
    cases k with
    | codes cs =>
      obtain ⟨c, as, hp, hc, hcs⟩ := hk
      have hc := hc.st (K := K)
      walk_at "r"
      refine i_kd n1 ?_
      walk_at "r"
      refine i_lst (by show 1 ≤ sizeLine; decide) (fun o1 H1 ho1 s1 e1 => ?_)
      walk_at "r"
      refine i_slT (stup s1 hp) (cut1_any _ _ _ (by simp)) (fun o2 H2 ho2 s2 e2 => ?_)
      rw [show (1 : Int) + 2 = 3 from rfl, cut13] at e2
      walk_at "r"
      refine i_lcT (F := fNum) (xs := [t, e].map V.int) (st_of e2) (by show 2 < 100000; decide) (fun x hx H3 s3 QN QY hN hY => ?_) (fun o3 H3 ho3 s3 e3 => ?_)
      · obtain ⟨n, hm, rfl⟩ := List.mem_map.mp hx
        walk_at "r"
        refine num ?_ hY
        rcases List.mem_cons.mp hm with rfl | hm
        · exact ht
        · rw [List.mem_singleton.mp hm]
          exact he
      rw [fNum_map] at e3
      walk_at "r"
      refine i_cat (s3 _ _ (s2 _ _ e1)) e3 (by show 1 + 2 ≤ sizeLine; decide) (fun o4 H4 ho4 s4 e4 => ?_)
      have s04 := s1.trans (s2.trans (s3.trans s4))
      have ho40 : H o4 = none := s1.free (s2.free (s3.free ho4))
      have e4 : H4 o4 = some (.lst ([("codes" : Str), numS t, numS e].map V.str)) := e4
      walk_at "r"
      refine i_cut (fun σ' H' => σ' = [some (.ref p), some (.str "codes"), some (.int 3), some (.ref o4), none, none, none] ∧ Same H H' ∧ H' o4 = some (.lst ((kindWords t e (.codes cs)).map V.str))) ?_ (fun σ' H' pv => ?_)
      · walk_at "r"
        refine i_yes rfl ?_
        walk_at "r"
        refine i_lcTI (fun D j acc H' => acc = ((cs.take j).map dotS).map V.str ∧ Same H4 H' ∧ H' D = some (.lst acc)) (stup s04 hc)
          (fun D hD => ⟨rfl, same_new hD, upd_same⟩) (fun D j acc H' hD pv => stup (s04.trans pv.2.1) hc) (fun D j x acc H' hD hx hl pv => ?_) (fun p5 acc H5 hp5 pv => ?_)
        · obtain ⟨rfl, s5, e5⟩ := pv
          obtain ⟨b, hb, rfl⟩ := ref_get hx
          obtain ⟨cc, hcc, hbp⟩ := hcs.get hb
          have jl := (List.getElem?_eq_some_iff.mp hcc).1
          have l40 := k3.2
          walk_at "r"
          refine ⟨b, cc, rfl, stup (s04.trans s5) hbp, k3.1 cc (List.mem_of_getElem? hcc), fun H6 s6 => ?_⟩
          refine kY_of (s6 _ _ e5) hl (by omega) ⟨?_, smut (s5.trans s6) hD, upd_same⟩
          rw [take_succ' hcc, List.map_append, List.map_append]
          rfl
        · obtain ⟨rfl, s5, e5⟩ := pv
          rw [List.length_map, hcs.len, List.take_length] at e5
          have e45 := s5 _ _ e4
          have l40 := k3.2
          walk_at "r"
          refine i_extend e45 e5 (Nat.le_trans (show 3 + _ ≤ 100000 by rw [List.length_map, List.length_map]; omega) (by decide)) ?_
          walk_at "r"
          exact ⟨rfl, smut (s04.trans s5) ho40, by rw [upd_same]; unfold kindWords; rw [List.map_append]⟩
      · obtain ⟨rfl, s5, e5⟩ := pv
        walk_at "r"
        refine i_cut (fun σ' H' => σ' = [some (.ref p), some (.str "codes"), some (.int 3), some (.ref o4), none, none, none] ∧ Same H H' ∧ H' o4 = some (.lst ((kindWords t e (.codes cs)).map V.str))) ?_ (fun σ' H' pv => ?_)
        · walk_at "r"
          refine i_no (by decide +kernel) ?_
          walk_at "r"
          exact ⟨rfl, s5, e5⟩
        · obtain ⟨rfl, s6, e6⟩ := pv
          walk_at "r"
          exact q _ _ ho40 s6 e6
    | escapes m prs =>
      obtain ⟨c, as, hp, hc, hcs⟩ := hk
      walk_at "r"
      refine i_kd n2 ?_
      walk_at "r"
      refine i_lst (by show 1 ≤ sizeLine; decide) (fun o1 H1 ho1 s1 e1 => ?_)
      walk_at "r"
      refine i_slT (stup s1 hp) (cut1_any _ _ _ (by simp)) (fun o2 H2 ho2 s2 e2 => ?_)
      rw [show (1 : Int) + 3 = 4 from rfl, cut14] at e2
      walk_at "r"
      refine i_lcT (F := fNum) (xs := [t, e, m].map V.int) (st_of e2) (by show 3 < 100000; decide) (fun x hx H3 s3 QN QY hN hY => ?_) (fun o3 H3 ho3 s3 e3 => ?_)
      · obtain ⟨n, hm, rfl⟩ := List.mem_map.mp hx
        walk_at "r"
        refine num ?_ hY
        rcases List.mem_cons.mp hm with rfl | hm
        · exact ht
        · rcases List.mem_cons.mp hm with rfl | hm
          · exact he
          · rw [List.mem_singleton.mp hm]
            exact k3.1
      rw [fNum_map] at e3
      walk_at "r"
      refine i_cat (s3 _ _ (s2 _ _ e1)) e3 (by show 1 + 3 ≤ sizeLine; decide) (fun o4 H4 ho4 s4 e4 => ?_)
      have s04 := s1.trans (s2.trans (s3.trans s4))
      have ho40 : H o4 = none := s1.free (s2.free (s3.free ho4))
      have e4 : H4 o4 = some (.lst ([("escapes" : Str), numS t, numS e, numS m].map V.str)) := e4
      walk_at "r"
      refine i_cut (fun σ' H' => σ' = [some (.ref p), some (.str "escapes"), some (.int 4), some (.ref o4), none, none, none] ∧ Same H H' ∧ H' o4 = some (.lst (([("escapes" : Str), numS t, numS e, numS m]).map V.str))) ?_ (fun σ' H4' pv => ?_)
      · walk_at "r"
        refine i_no (by decide +kernel) ?_
        walk_at "r"
        exact ⟨rfl, s04, e4⟩
      · obtain ⟨rfl, s5, e5⟩ := pv
        walk_at "r"
        refine i_cut (fun σ' H' => σ' = [some (.ref p), some (.str "escapes"), some (.int 4), some (.ref o4), none, none, none] ∧ Same H H' ∧ H' o4 = some (.lst ((kindWords t e (.escapes m prs)).map V.str))) ?_ (fun σ' H' pv => ?_)
        · walk_at "r"
          refine i_yes rfl ?_
          walk_at "r"
          refine i_lcTI (fun D j acc H' => acc = ((prs.take j).map pairS).map V.str ∧ Same H4' H' ∧ H' D = some (.lst acc)) (stup s5 hc)
            (fun D hD => ⟨rfl, same_new hD, upd_same⟩) (fun D j acc H' hD pv => stup (s5.trans pv.2.1) hc) (fun D j x acc H' hD hx hl pv => ?_) (fun p5 acc H5 hp5 pv => ?_)
          · obtain ⟨rfl, s6, e6⟩ := pv
            obtain ⟨b, hb, rfl⟩ := ref_get hx
            obtain ⟨cc, hcc, hbp⟩ := hcs.get hb
            have jl := (List.getElem?_eq_some_iff.mp hcc).1
            have l40 := k3.2.2
            have hbp6 := stup (s5.trans s6) hbp
            obtain ⟨⟨a0, a1⟩, b0, b1⟩ := k3.2.1 cc (List.mem_of_getElem? hcc)
            have al : ∀ x y : Str, (x ++ y).length = x.length + y.length := fun x y => by
              rw [TL.len_tl, TL.tl_append, List.length_append, ← TL.len_tl, ← TL.len_tl]
            have z1 := (numS_len ⟨a0, a1⟩).1
            have z2 := (numS_len ⟨b0, b1⟩).1
            have z3 : (":" : Str).length = 1 := by decide +kernel
            have z0 : Str.empty.length = 0 := by decide +kernel
            walk_at "r"
            refine i_fmtI a0 (by omega) ?_
            refine i_js (show (Str.empty ++ numS cc.1).length ≤ _ by rw [al]; omega) ?_
            walk_at "r"
            refine i_js (show ((Str.empty ++ numS cc.1) ++ (":" : Str)).length ≤ _ by rw [al, al]; omega) ?_
            walk_at "r"
            refine i_fmtI b0 (by omega) ?_
            refine i_js (show (((Str.empty ++ numS cc.1) ++ (":" : Str)) ++ numS cc.2).length ≤ _ by rw [al, al, al]; omega) ?_
            walk_at "r"
            show kY _ D j (V.str (((Str.empty ++ numS cc.1) ++ (":" : Str)) ++ numS cc.2)) H'
            rw [show ((Str.empty ++ numS cc.1) ++ (":" : Str)) ++ numS cc.2 = pairS cc from TL.ext_tl (by unfold pairS; rw [TL.tl_append, TL.tl_append, TL.tl_append, TL.tl_append, TL.tl_append]; rfl)]
            refine kY_of e6 hl (by omega) ⟨?_, smut s6 hD, upd_same⟩
            rw [take_succ' hcc, List.map_append, List.map_append]
            rfl
          · obtain ⟨rfl, s6, e6⟩ := pv
            rw [List.length_map, hcs.len, List.take_length] at e6
            have e56 := s6 _ _ e5
            have l40 := k3.2.2
            walk_at "r"
            refine i_extend e56 e6 (Nat.le_trans (show 4 + _ ≤ 100000 by rw [List.length_map, List.length_map]; omega) (by decide)) ?_
            walk_at "r"
            exact ⟨rfl, smut (s5.trans s6) ho40, by rw [upd_same]; unfold kindWords; rw [List.map_append]⟩
        · obtain ⟨rfl, s6, e6⟩ := pv
          walk_at "r"
          exact q _ _ ho40 s6 e6
    | counts l =>
      have hp : SqT K H p [.str "counts", .int t, .int e, .int l] := hk
      walk_at "r"
      refine i_kd n3 ?_
      walk_at "r"
      refine i_lst (by show 1 ≤ sizeLine; decide) (fun o1 H1 ho1 s1 e1 => ?_)
      walk_at "r"
      refine i_slT (stup s1 hp) (cut1_any _ _ _ (by simp)) (fun o2 H2 ho2 s2 e2 => ?_)
      rw [show (1 : Int) + 3 = 4 from rfl, cut14] at e2
      walk_at "r"
      refine i_lcT (F := fNum) (xs := [t, e, l].map V.int) (st_of e2) (by show 3 < 100000; decide) (fun x hx H3 s3 QN QY hN hY => ?_) (fun o3 H3 ho3 s3 e3 => ?_)
      · obtain ⟨n, hm, rfl⟩ := List.mem_map.mp hx
        walk_at "r"
        refine num ?_ hY
        rcases List.mem_cons.mp hm with rfl | hm
        · exact ht
        · rcases List.mem_cons.mp hm with rfl | hm
          · exact he
          · rw [List.mem_singleton.mp hm]
            exact k3
      rw [fNum_map] at e3
      walk_at "r"
      refine i_cat (s3 _ _ (s2 _ _ e1)) e3 (by show 1 + 3 ≤ sizeLine; decide) (fun o4 H4 ho4 s4 e4 => ?_)
      have s04 := s1.trans (s2.trans (s3.trans s4))
      have ho40 : H o4 = none := s1.free (s2.free (s3.free ho4))
      have e4 : H4 o4 = some (.lst ((kindWords t e (.counts l)).map V.str)) := e4
      walk_at "r"
      refine i_cut (fun σ' H' => σ' = [some (.ref p), some (.str "counts"), some (.int 4), some (.ref o4), none, none, none] ∧ Same H H' ∧ H' o4 = some (.lst ((kindWords t e (.counts l)).map V.str))) ?_ (fun σ' H' pv => ?_)
      · walk_at "r"
        refine i_no (by decide +kernel) ?_
        walk_at "r"
        exact ⟨rfl, s04, e4⟩
      · obtain ⟨rfl, s5, e5⟩ := pv
        walk_at "r"
        refine i_cut (fun σ' H' => σ' = [some (.ref p), some (.str "counts"), some (.int 4), some (.ref o4), none, none, none] ∧ Same H H' ∧ H' o4 = some (.lst ((kindWords t e (.counts l)).map V.str))) ?_ (fun σ' H' pv => ?_)
        · walk_at "r"
          refine i_no (by decide +kernel) ?_
          walk_at "r"
          exact ⟨rfl, s5, e5⟩
        · obtain ⟨rfl, s6, e6⟩ := pv
          walk_at "r"
          exact q _ _ ho40 s6 e6
    | ranks =>
      have hp : SqT K H p [.str "ranks", .int t, .int e] := hk
      walk_at "r"
      refine i_kd n4 ?_
      walk_at "r"
      refine i_lst (by show 1 ≤ sizeLine; decide) (fun o1 H1 ho1 s1 e1 => ?_)
      walk_at "r"
      refine i_slT (stup s1 hp) (cut1_any _ _ _ (by simp)) (fun o2 H2 ho2 s2 e2 => ?_)
      rw [show (1 : Int) + 2 = 3 from rfl, cut13] at e2
      walk_at "r"
      refine i_lcT (F := fNum) (xs := [t, e].map V.int) (st_of e2) (by show 2 < 100000; decide) (fun x hx H3 s3 QN QY hN hY => ?_) (fun o3 H3 ho3 s3 e3 => ?_)
      · obtain ⟨n, hm, rfl⟩ := List.mem_map.mp hx
        walk_at "r"
        refine num ?_ hY
        rcases List.mem_cons.mp hm with rfl | hm
        · exact ht
        · rw [List.mem_singleton.mp hm]
          exact he
      rw [fNum_map] at e3
      walk_at "r"
      refine i_cat (s3 _ _ (s2 _ _ e1)) e3 (by show 1 + 2 ≤ sizeLine; decide) (fun o4 H4 ho4 s4 e4 => ?_)
      have s04 := s1.trans (s2.trans (s3.trans s4))
      have ho40 : H o4 = none := s1.free (s2.free (s3.free ho4))
      have e4 : H4 o4 = some (.lst ((kindWords t e .ranks).map V.str)) := e4
      walk_at "r"
      refine i_cut (fun σ' H' => σ' = [some (.ref p), some (.str "ranks"), some (.int 3), some (.ref o4), none, none, none] ∧ Same H H' ∧ H' o4 = some (.lst ((kindWords t e .ranks).map V.str))) ?_ (fun σ' H' pv => ?_)
      · walk_at "r"
        refine i_no (by decide +kernel) ?_
        walk_at "r"
        exact ⟨rfl, s04, e4⟩
      · obtain ⟨rfl, s5, e5⟩ := pv
        walk_at "r"
        refine i_cut (fun σ' H' => σ' = [some (.ref p), some (.str "ranks"), some (.int 3), some (.ref o4), none, none, none] ∧ Same H H' ∧ H' o4 = some (.lst ((kindWords t e .ranks).map V.str))) ?_ (fun σ' H' pv => ?_)
        · walk_at "r"
          refine i_no (by decide +kernel) ?_
          walk_at "r"
          exact ⟨rfl, s5, e5⟩
        · obtain ⟨rfl, s6, e6⟩ := pv
          walk_at "r"
          exact q _ _ ho40 s6 e6
def spWritten (K : PySem.W.Frag) : Sp := fun vs H Q _ => ∃ (v : V) (wy : Way), vs = [v] ∧ WayAt K H v wy ∧ wy.Ok ∧ ∀ H', Same H H' → Q (.str (wayS wy)) H'
theorem c_written (c_need_way : C8.Cal P w K mg base 7 "need_way" (spNeedW K) []) (c_unturned : C8.Cal P w K mg base 1 "unturned" (spUnturned K) []) (c_dotted : C8.Cal P w K mg base 1 "dotted" (spDotted K) []) (c_inner_words : C8.Cal P w K mg base 2 "inner_words" (spInnerWords K) []) (d : Dd K mg "written" s_written P_written) : C8.Cal P w K mg base 8 "written" (spWritten K) [] := by
  refine d.cal sc_written (fun vs H Q E h => ?_) (fun f cdv A outer s H vs Q E hr h => ?_)
  · obtain ⟨v, wy, rfl, _⟩ := h
    rfl
  · obtain ⟨v, wy, rfl, hw, ok, q⟩ := h
    have nd := sc_written.nd
    have w3 := ok.three
    obtain ⟨tas, p, hts, hwt, hk⟩ := id hw
    obtain ⟨xs, hx⟩ := hk.head
    have ltas : tas.length ≤ 3 := by
      have z := ok.few
      rw [← hts, List.length_map] at z
      exact z
    refine ⟨_, (pss_cons (ps_expr (C8.pe_c c_need_way hr (by decide) (by rfl) (pa_cons (pv 0) pa_nil)))
  (pss_cons (ps_asg (C8.pe_c c_unturned hr (by decide) (by rfl) (pa_cons (pv 0) pa_nil)) (pg_tup rfl (pgs_cons (pg_name (i := 1) nd rfl (Or.inl rfl)) (pgs_cons (pg_name (i := 2) nd rfl (Or.inl rfl)) pgs_nil))))
  (pss_cons (ps_set (i := 3) nd rfl (Or.inl rfl) (pe_lst pa_nil))
  (pss_cons (ps_for PassesOwn.never rfl (pi_list (pv 1)) (pg_name (i := 4) nd rfl (Or.inl rfl))
    (pss_one (ps_expr (pe_bm PySem.F.plainAttrs_list PySem.F.slot_list_extend PySem.F.type_list_extend mt_extend (pv 3) (pa_cons (pe_lst (pa_cons pe_str (pa_cons (C8.pe_c c_dotted hr (by decide) (by rfl) (pa_cons (pv 4) pa_nil)) pa_nil))) pa_nil)))))
  (pss_one (ps_ret (pe_joinW pe_str (pe_op op_cat (pv 3) (C8.pe_c c_inner_words hr (by decide) (by rfl) (pa_cons (pv 2) pa_nil)))))))))), ?_⟩
    refine i_start (σ' := [some v, none, none, none, none]) rfl ?_
    walk_at "go"
    walk_at "r"
    refine ⟨v, wy, rfl, hw, ok, fun H1 s1 => ?_⟩
    walk_at "r"
    refine ⟨v, tas, p, wy.k.name, _, rfl, hwt.same s1, stup s1 hx, wy.k.name_ne, by omega, fun q2 l2 H2 _ _ s2 e2 el2 => ?_⟩
    have s02 := s1.trans s2
    walk_at "r"
    refine i_lst (Nat.zero_le _) (fun o3 H3 ho3 s3 e3 => ?_)
    have s03 := s02.trans s3
    have el3 := s3 _ _ el2
    have ho30 : H o3 = none := s02.free ho3
    have nlo : l2 ≠ o3 := ne_of_none el2 ho3
    walk_at "r"
    refine i_for (sl_of el3) (fun i σ' H' => ∃ y, σ' = [some v, some (.ref l2), some (.ref p), some (.ref o3), y] ∧ Same H H' ∧ H' l2 = some (.lst (tas.map fun t => V.ref t.1)) ∧ H' o3 = some (.lst ((turnWords ((tas.map (·.2)).take i)).map V.str))) ⟨_, rfl, s03, el3, e3⟩ (fun i σ' H' _ ⟨_, _, _, z, _⟩ => sl_of z) (fun i x σ' H' hi pv => ?_) (fun σ' H' pv => ?_)
    · obtain ⟨y, rfl, s4, el4, e4⟩ := pv
      rw [List.getElem?_map] at hi
      obtain ⟨ta, hta, rfl⟩ : ∃ ta, tas[i]? = some ta ∧ x = .ref ta.1 := by
        cases e : tas[i]? with
        | none =>
          rw [e] at hi
          cases hi
        | some ta =>
          rw [e] at hi
          exact ⟨ta, rfl, (Option.some.inj hi).symm⟩
      have hm := List.mem_of_getElem? hta
      have il := (List.getElem?_eq_some_iff.mp hta).1
      have r3 : Row3 ta.2 := w3.ts _ (by rw [← hts]; exact List.mem_map_of_mem hm)
      walk_at "r"
      refine ⟨ta.1, ta.2, rfl, stup s4 (hwt.mem ta hm), r3, fun H5 s5 => ?_⟩
      walk_at "r"
      refine i_lst (by show 2 ≤ sizeLine; decide) (fun o6 H6 ho6 s6 e6 => ?_)
      have s46 := s5.trans s6
      have e46 := s46 _ _ e4
      walk_at "r"
      refine i_extend e46 e6 (Nat.le_trans (show _ + 2 ≤ 1000 by rw [List.length_map, turnWords_len, List.length_take]; omega) (by decide)) ?_
      walk_at "r"
      refine ⟨_, rfl, smut (s4.trans s46) ho30, (upd_ne nlo).trans (s46 _ _ el4), ?_⟩
      have hta2 : (tas.map (·.2))[i]? = some ta.2 := by rw [List.getElem?_map, hta]; rfl
      rw [take_succ' hta2, turnWords_snoc, upd_same, List.map_append]
      rfl
    · obtain ⟨y, rfl, s4, el4, e4⟩ := pv
      rw [List.length_map, ← List.length_map (f := (·.2)), List.take_length, hts] at e4
      walk_at "r"
      refine ⟨p, wy.t, wy.e, wy.k, rfl, hk.same s4, w3.t, w3.e, w3.k, fun o5 H5 ho5 s5 e5 => ?_⟩
      have o := wayWords_ok w3
      have lw := o.2
      unfold wayWords at lw
      rw [List.length_append] at lw
      walk_at "r"
      refine i_cat (s5 _ _ e4) e5 (sz (by rw [List.length_map, List.length_map]; omega)) (fun o6 H6 ho6 s6 e6 => ?_)
      rw [← List.map_append] at e6
      walk_at "r"
      refine i_join (ys := wayWords wy) (sl_of e6) ?_ (q _ ((s4.trans s5).trans s6))
      have z := sum_len (ps := wayWords wy) (k := 160) fun p m => (o.1 p m).2
      have e : (" " : Str).length = 1 := by decide +kernel
      have := o.2
      rw [e]
      omega
end
end Esc

/-! A way read from its text. -/
namespace Esc
open PySem PySem.Spec PyProof.Rows L2
theorem map_getF {α β : Type} {f : α → β} {l : List α} {i : Nat} {x : β} (h : (l.map f)[i]? = some x) : ∃ a, l[i]? = some a ∧ x = f a := by
  rw [List.getElem?_map] at h
  cases e : l[i]? with
  | none =>
    rw [e] at h
    cases h
  | some a =>
    rw [e] at h
    exact ⟨a, rfl, (Option.some.inj h).symm⟩
section
variable {P : Program} {w : World} {K : PySem.W.Frag} {mg : Str → Option Value} {base : Heap}
def spNumIn : Sp := fun vs H Q _ => ∃ n : Int, vs = [.str (numS n)] ∧ Num3 n ∧ ∀ H', Same H H' → Q (.int n) H'
theorem c_number_in (Z : Blt mg) (m_MOST_FIGURES : GI mg "MOST_FIGURES" 3) (d : Dd K mg "number_in" s_number_in P_number_in) : C8.Cal P w K mg base 1 "number_in" spNumIn [] := by
  refine d.cal sc_number_in (fun vs H Q E h => ?_) (fun f cdv A outer s H vs Q E hr h => ?_)
  · obtain ⟨n, rfl, _⟩ := h
    rfl
  · obtain ⟨n, rfl, h3, q⟩ := h
    have nd := sc_number_in.nd
    obtain ⟨l3, l1⟩ := numS_len h3
    have dig := numS_digits h3.1
    have zer := @numS_zero n h3.1
    have hi := numS_int h3
    refine ⟨_, (pss_cons (ps_if (PW.pt (pw_or (pt_not (pt_val (pe_callB (cr_all rfl) (by rfl) Z.all_ (by decide +kernel) (pa_cons (pe_lc (own := [("letter", 1)]) (g := gName 1) (tt := tYes) rfl nd (pi_str (pv 0)) (blkOk_by (N := N_number_in) (sc := C8.fnScope s_number_in) (own := [("letter", 1)]) (by decide +kernel)) (fun _ _ _ _ _ => (pg_name (i := 1) nd rfl (Or.inl rfl))) (fun _ _ _ _ _ => pts_nil) (fun _ _ _ _ _ => (pe_cmpR k_inS (pv 1) pe_str (by rfl)))) pa_nil)))) (pw_or1 (pt_not (pt_chain op_le op_le pe_int (pe_callB k_lenS (by rfl) Z.len_ (by decide +kernel) (pa_cons (pv 0) pa_nil)) (C8.pe_gc rfl m_MOST_FIGURES)))))) (pss_one ps_never) pss_nil)
  (pss_cons (ps_if (PW.pt (pw_and (pt_cmpR op_eq (pe_ix ix_str (pv 0) pe_int (fun _ _ => rfl)) pe_str (nomark _)) (pw_and1 (pt_cmpR op_gt (pe_callB k_lenS (by rfl) Z.len_ (by decide +kernel) (pa_cons (pv 0) pa_nil)) pe_int (nomark _))))) (pss_one ps_never) pss_nil)
  (pss_one (ps_ret (pe_callTy k_intS (by rfl) Z.int_ (by decide +kernel) (pa_cons (pv 0) pa_nil)))))), ?_⟩
    refine i_start (σ' := [some (.str (numS n)), none]) rfl ?_
    generalize numS n = x at *
    walk_at "go"
    walk_at "r"
    refine i_lcS (F := fun _ => V.bl true) (by omega) (fun c hc H1 s1 QN QY hY => ?_) (fun p1 H1 hp1 s1 e1 => ?_)
    · walk_at "r"
      refine i_inS ?_
      have z := dig c hc
      rw [decide_eq_true (show c ∈ ("0123456789" : Str).cps.toList by
        rw [show ("0123456789" : Str).cps.toList = [48, 49, 50, 51, 52, 53, 54, 55, 56, 57] by decide +kernel]
        simp only [List.mem_cons, List.not_mem_nil, or_false]
        omega)]
      exact hY _ (Same.refl _)
    · rw [show x.cps.toList.map (fun _ => V.bl true) = (x.cps.toList.map fun _ => true).map V.bl by rw [List.map_map]; rfl] at e1
      walk_at "r"
      refine i_all (sl_of e1) ?_
      rw [show (x.cps.toList.map fun _ => true).all id = true by simp]
      walk_at "r"
      refine i_lenS (by omega) ?_
      walk_at "r"
      rw [decide_eq_true (show (1 : Int) ≤ (x.length : Int) by omega)]
      walk_at "r"
      rw [decide_eq_true (show (x.length : Int) ≤ 3 by omega)]
      walk_at "r"
      obtain ⟨c0, cr, ec⟩ : ∃ c cr, x.cps.toList = c :: cr := by
        cases e : x.cps.toList with
        | nil =>
          have z : x.length = x.cps.toList.length := by simp [Str.length]
          rw [e] at z
          simp at z
          omega
        | cons c cr => exact ⟨c, cr, rfl⟩
      refine i_ixS (by omega) (show atI x.cps.toList 0 = some c0 from atI_nat (j := 0) (by rw [ec]; rfl)) ?_
      walk_at "r"
      have fin : ∀ H', Same H H' → rIntS [.str x] H' Q := fun H' s' => i_intS hi (by omega) (q _ s')
      refine i_br (fun c => ?_) (fun c => ?_)
      · walk_at "r"
        refine i_lenS (by omega) ?_
        walk_at "r"
        have z : c0 = 48 := by
          have z1 := congrArg (fun s : Str => s.cps.toList) c
          rw [show (("0" : Str).cps.toList) = [48] by decide +kernel] at z1
          exact (List.cons.inj z1).1
        have zl := zer (by rw [← z]; exact ec)
        have lx : x.length = 1 := by
          have z2 : x.length = x.cps.toList.length := by simp [Str.length]
          rw [z2, ec, zl]
          rfl
        refine i_no (by omega) ?_
        walk_at "r"
        exact fin _ s1
      · walk_at "r"
        exact fin _ s1
def spSignsIn (K : PySem.W.Frag) : Sp := fun vs H Q _ => ∃ ns : List Int, vs = [.str (dotS ns)] ∧ Row3 ns ∧ ∀ p H', H p = none → Same H H' → TupD H' p (ns.map V.int) → Q (.ref p) H'
theorem c_signs_in (Z : Blt mg) (c_number_in : C8.Cal P w K mg base 1 "number_in" spNumIn []) (d : Dd K mg "signs_in" s_signs_in P_signs_in) : C8.Cal P w K mg base 2 "signs_in" (spSignsIn K) [] := by
  refine d.cal sc_signs_in (fun vs H Q E h => ?_) (fun f cdv A outer s H vs Q E hr h => ?_)
  · obtain ⟨ns, rfl, _⟩ := h
    rfl
  · obtain ⟨ns, rfl, h3, q⟩ := h
    have nd := sc_signs_in.nd
    have l3 := dotS_len h3
    have l40 := h3.2.2
    refine ⟨_, (pss_one (ps_ret (pe_callTy k_tupOfF (by rfl) Z.tuple_ (by decide +kernel) (pa_cons (pe_lc (own := [("part", 1)]) (g := gName 1) (tt := tYes) rfl nd (pi_list (pe_splitW (pv 0) pe_str)) (blkOk_by (N := N_signs_in) (sc := C8.fnScope s_signs_in) (own := [("part", 1)]) (by decide +kernel)) (fun _ _ _ _ _ => (pg_name (i := 1) nd rfl (Or.inl rfl))) (fun _ _ _ _ _ => pts_nil) (fun _ _ _ _ _ => (C8.pe_c c_number_in hr (by decide) (by rfl) (pa_cons (pv 1) pa_nil)))) pa_nil)))), ?_⟩
    refine i_start (σ' := [some (.str (dotS ns)), none]) rfl ?_
    walk_at "go"
    walk_at "r"
    refine i_split (by decide +kernel) (by omega) (fun p1 H1 hp1 s1 e1 => ?_)
    rw [dotS_split h3] at e1
    walk_at "r"
    refine i_lcLI (fun D j acc H' => acc = (ns.take j).map V.int ∧ Same H1 H' ∧ H' D = some (.lst acc)) (sl_of e1)
      (fun D hD => ⟨rfl, same_new hD, upd_same⟩) (fun D j acc H' hD pv => sl_of (pv.2.1 _ _ e1)) (fun D j x acc H' hD hx hl pv => ?_) (fun p2 acc H2 hp2 pv => ?_)
    · obtain ⟨rfl, s2, e2⟩ := pv
      obtain ⟨y, hy, rfl⟩ := map_getF hx
      obtain ⟨n, hn, rfl⟩ := map_getF hy
      have jl := (List.getElem?_eq_some_iff.mp hn).1
      walk_at "r"
      refine ⟨n, rfl, h3.1 n (List.mem_of_getElem? hn), fun H3 s3 => ?_⟩
      refine kY_of (s3 _ _ e2) hl (by omega) ⟨?_, smut (s2.trans s3) hD, upd_same⟩
      rw [take_succ' hn, List.map_append]
      rfl
    · obtain ⟨rfl, s2, e2⟩ := pv
      rw [List.length_map, List.length_map, List.take_length] at e2
      walk_at "r"
      refine i_tupOfF (sl_of e2) (fun p3 H3 hp3 s3 e3 => ?_)
      exact q _ _ (s1.free (s2.free hp3)) (s1.trans (s2.trans s3)) e3
def spSignsInP (K : PySem.W.Frag) : Sp := fun vs H Q _ => ∃ ns : List Int, vs = [.str (dotS ns)] ∧ Row3 ns ∧ ∀ p H', H p = none → Same H H' → H' p = some (.tup (ns.map V.int)) → Q (.ref p) H'
theorem c_signs_inP (Z : Blt mg) (c_number_in : C8.Cal P w K mg base 1 "number_in" spNumIn []) (d : Dd K mg "signs_in" s_signs_in P_signs_in) : C8.Cal P w K mg base 2 "signs_in" (spSignsInP K) [] := by
  refine d.cal sc_signs_in (fun vs H Q E h => ?_) (fun f cdv A outer s H vs Q E hr h => ?_)
  · obtain ⟨ns, rfl, _⟩ := h
    rfl
  · obtain ⟨ns, rfl, h3, q⟩ := h
    have nd := sc_signs_in.nd
    have l3 := dotS_len h3
    have l40 := h3.2.2
    refine ⟨_, (pss_one (ps_ret (pe_callTy k_tupOf (by rfl) Z.tuple_ (by decide +kernel) (pa_cons (pe_lc (own := [("part", 1)]) (g := gName 1) (tt := tYes) rfl nd (pi_list (pe_splitW (pv 0) pe_str)) (blkOk_by (N := N_signs_in) (sc := C8.fnScope s_signs_in) (own := [("part", 1)]) (by decide +kernel)) (fun _ _ _ _ _ => (pg_name (i := 1) nd rfl (Or.inl rfl))) (fun _ _ _ _ _ => pts_nil) (fun _ _ _ _ _ => (C8.pe_c c_number_in hr (by decide) (by rfl) (pa_cons (pv 1) pa_nil)))) pa_nil)))), ?_⟩
    refine i_start (σ' := [some (.str (dotS ns)), none]) rfl ?_
    walk_at "go"
    walk_at "r"
    refine i_split (by decide +kernel) (by omega) (fun p1 H1 hp1 s1 e1 => ?_)
    rw [dotS_split h3] at e1
    walk_at "r"
    refine i_lcLI (fun D j acc H' => acc = (ns.take j).map V.int ∧ Same H1 H' ∧ H' D = some (.lst acc)) (sl_of e1)
      (fun D hD => ⟨rfl, same_new hD, upd_same⟩) (fun D j acc H' hD pv => sl_of (pv.2.1 _ _ e1)) (fun D j x acc H' hD hx hl pv => ?_) (fun p2 acc H2 hp2 pv => ?_)
    · obtain ⟨rfl, s2, e2⟩ := pv
      obtain ⟨y, hy, rfl⟩ := map_getF hx
      obtain ⟨n, hn, rfl⟩ := map_getF hy
      have jl := (List.getElem?_eq_some_iff.mp hn).1
      walk_at "r"
      refine ⟨n, rfl, h3.1 n (List.mem_of_getElem? hn), fun H3 s3 => ?_⟩
      refine kY_of (s3 _ _ e2) hl (by omega) ⟨?_, smut (s2.trans s3) hD, upd_same⟩
      rw [take_succ' hn, List.map_append]
      rfl
    · obtain ⟨rfl, s2, e2⟩ := pv
      rw [List.length_map, List.length_map, List.take_length] at e2
      walk_at "r"
      refine i_tupOf (sl_of e2) (fun p3 H3 hp3 s3 e3 => ?_)
      exact q _ _ (s1.free (s2.free hp3)) (s1.trans (s2.trans s3)) e3
def spPairIn (K : PySem.W.Frag) : Sp := fun vs H Q _ => ∃ p : Int × Int, vs = [.str (pairS p)] ∧ Num3 p.1 ∧ Num3 p.2 ∧ ∀ q H', H q = none → Same H H' → H' q = some (.tup [.int p.1, .int p.2]) → Q (.ref q) H'
theorem c_pair_in (Z : Blt mg) (c_number_in : C8.Cal P w K mg base 1 "number_in" spNumIn []) (d : Dd K mg "pair_in" s_pair_in P_pair_in) : C8.Cal P w K mg base 2 "pair_in" (spPairIn K) [] := by
  refine d.cal sc_pair_in (fun vs H Q E h => ?_) (fun f cdv A outer s H vs Q E hr h => ?_)
  · obtain ⟨p, rfl, _⟩ := h
    rfl
  · obtain ⟨p, rfl, ha, hb, q⟩ := h
    have nd := sc_pair_in.nd
    have l3 := pairS_len ⟨ha, hb⟩
    refine ⟨_, (pss_cons (ps_set (i := 1) nd rfl (Or.inl rfl) (pe_splitW (pv 0) pe_str))
  (pss_cons (ps_if (pt_cmpR op_ne (pe_callB k_len (by rfl) Z.len_ (by decide +kernel) (pa_cons (pv 1) pa_nil)) pe_int (nomark _)) (pss_one ps_never) pss_nil)
  (pss_one (ps_ret (pe_tup (pa_cons (C8.pe_c c_number_in hr (by decide) (by rfl) (pa_cons (pe_ix ix_list (pv 1) pe_int (fun _ _ => rfl)) pa_nil)) (pa_cons (C8.pe_c c_number_in hr (by decide) (by rfl) (pa_cons (pe_ix ix_list (pv 1) pe_int (fun _ _ => rfl)) pa_nil)) pa_nil))))))), ?_⟩
    refine i_start (σ' := [some (.str (pairS p)), none]) rfl ?_
    walk_at "go"
    walk_at "r"
    refine i_split (by decide +kernel) (by omega) (fun p1 H1 hp1 s1 e1 => ?_)
    rw [pairS_split ⟨ha, hb⟩] at e1
    have e1 : H1 p1 = some (.lst [.str (numS p.1), .str (numS p.2)]) := e1
    walk_at "r"
    refine i_nyes rfl ?_
    walk_at "r"
    refine ⟨p.1, rfl, ha, fun H2 s2 => ?_⟩
    have e2 := s2 _ _ e1
    walk_at "r"
    refine ⟨p.2, rfl, hb, fun H3 s3 => ?_⟩
    walk_at "r"
    refine i_tup (by show 2 ≤ sizeLine; decide) (fun p4 H4 hp4 s4 e4 => ?_)
    exact q _ _ (s1.free (s2.free (s3.free hp4))) (s1.trans (s2.trans (s3.trans s4))) e4
theorem i_starL {K : PySem.W.Frag} {t : TA} {Q : List V → Hp → Prop} {σ : L2.St} {H : Hp} {p : Addr} {xs : List V} (h : SqL K H p xs) (q : t σ H (kStar2 Q xs)) : kStar K t Q σ (.ref p) H := ⟨p, xs, rfl, .inr h, q⟩
def kNums (t e : Int) : Kind → List Int
  | .codes _ => [t, e]
  | .escapes m _ => [t, e, m]
  | .counts l => [t, e, l]
  | .ranks => [t, e]
def kMore : Kind → List Str
  | .codes cs => cs.map dotS
  | .escapes _ prs => prs.map pairS
  | .counts _ => []
  | .ranks => []
theorem kindWords_eq (t e : Int) (k : Kind) : kindWords t e k = k.name :: ((kNums t e k).map numS ++ kMore k) := by cases k <;> rfl
theorem cut_more (a : V) (xs ys : List V) {m : Int} (h : m = 1 + (xs.length : Int)) : cutV (a :: (xs ++ ys)) (some m) none = ys := by
  subst h
  rw [show (1 : Int) + (xs.length : Int) = ((xs.length + 1 : Nat) : Int) by omega, cut_from]
  show (xs ++ ys).drop xs.length = ys
  rw [List.drop_left]
theorem cut_midV (a : V) (xs ys : List V) {m : Int} (h : m = 1 + (xs.length : Int)) : cutV (a :: (xs ++ ys)) (some 1) (some m) = xs := by
  subst h
  unfold cutV
  rw [show (1 : Int) + (xs.length : Int) = ((1 + xs.length : Nat) : Int) by omega, show (1 : Int) = ((1 : Nat) : Int) from rfl, HT.sIx_nat, HT.sIx_nat, List.length_cons, List.length_append, Nat.min_eq_left (by omega), Nat.min_eq_left (by omega)]
  rw [Nat.add_sub_cancel_left]
  show (xs ++ ys).take xs.length = xs
  rw [List.take_left]
def spInnerIn (K : PySem.W.Frag) : Sp := fun vs H Q _ => ∃ (a : Addr) (t e : Int) (k : Kind), vs = [.ref a] ∧ SqL K H a ((kindWords t e k).map V.str) ∧ Num3 t ∧ Num3 e ∧ Kind3 k ∧ ∀ p H', H p = none → Same H H' → KindAt K H' p t e k → Q (.ref p) H'
theorem c_inner_in (Z : Blt mg) {pN : Addr} (m_NUMBERS : GR mg "NUMBERS" pN) (n1 : KDct K w pN "codes" (.int 2)) (n2 : KDct K w pN "escapes" (.int 3)) (n3 : KDct K w pN "counts" (.int 3)) (n4 : KDct K w pN "ranks" (.int 2))
    (i1 : KDin K w pN "codes" true) (i2 : KDin K w pN "escapes" true) (i3 : KDin K w pN "counts" true) (i4 : KDin K w pN "ranks" true)
    (c_number_in : C8.Cal P w K mg base 1 "number_in" spNumIn []) (c_signs_in : C8.Cal P w K mg base 2 "signs_in" (spSignsInP K) []) (c_pair_in : C8.Cal P w K mg base 2 "pair_in" (spPairIn K) [])
    (d : Dd K mg "inner_in" s_inner_in P_inner_in) : C8.Cal P w K mg base 3 "inner_in" (spInnerIn K) [] := by
  refine d.cal sc_inner_in (fun vs H Q E h => ?_) (fun f cdv A outer s H vs Q E hr h => ?_)
  · obtain ⟨a, t, e, k, rfl, _⟩ := h
    rfl
  · obtain ⟨a, t, e, k, rfl, ha, ht, he, h3, q⟩ := h
    have nd := sc_inner_in.nd
    have kd : KDct K w pN k.name (.int ((kNums t e k).length : Int)) := by cases k <;> assumption
    have ki : KDin K w pN k.name true := by cases k <;> assumption
    have hns : ∀ n ∈ kNums t e k, Num3 n := by
      cases k with
      | codes cs => simp only [kNums, List.mem_cons, List.not_mem_nil, or_false, forall_eq_or_imp, forall_eq]; exact ⟨ht, he⟩
      | escapes m prs => simp only [kNums, List.mem_cons, List.not_mem_nil, or_false, forall_eq_or_imp, forall_eq]; exact ⟨ht, he, h3.1⟩
      | counts l => simp only [kNums, List.mem_cons, List.not_mem_nil, or_false, forall_eq_or_imp, forall_eq]; exact ⟨ht, he, h3⟩
      | ranks => simp only [kNums, List.mem_cons, List.not_mem_nil, or_false, forall_eq_or_imp, forall_eq]; exact ⟨ht, he⟩
    have lns : (kNums t e k).length ≤ 3 := by cases k <;> simp [kNums]
    rw [kindWords_eq, List.map_cons, List.map_append] at ha
    refine ⟨_, (pss_cons (ps_set (i := 1) nd rfl (Or.inl rfl) (pe_ix ix_list (pv 0) pe_int (fun _ _ => rfl)))
  (pss_cons (ps_if (pt_cmpR (op_notIn_kdct) (pv 1) (C8.pe_gc rfl m_NUMBERS) (by rfl)) (pss_one ps_never) pss_nil)
  (pss_cons (ps_set (i := 2) nd rfl (Or.inl rfl) (pe_op op_add pe_int (pe_ix ix_kdict (C8.pe_gc rfl m_NUMBERS) (pv 1) (fun _ _ => rfl))))
  (pss_cons (ps_if (pt_cmpR op_lt (pe_callB k_len (by rfl) Z.len_ (by decide +kernel) (pa_cons (pv 0) pa_nil)) (pv 2) (nomark _)) (pss_one ps_never) pss_nil)
  (pss_cons (ps_setLc (i := 3) (own := [("word", 5)]) (g := gName 5) (tt := tYes) rfl nd rfl rfl (sw_true rfl rfl rfl (by decide +kernel)) (pi_list (pe_slice sl_list (pv 0) (po_some pe_int) (po_some (pv 2)))) (blkOk_by (N := N_inner_in) (sc := C8.fnScope s_inner_in) (own := [("word", 5)]) (by decide +kernel)) (fun _ _ _ _ _ => (pg_name (i := 5) nd rfl (Or.inl rfl))) (fun _ _ _ _ _ => pts_nil) (fun _ _ _ _ _ => (C8.pe_c c_number_in hr (by decide) (by rfl) (pa_cons (pv 5) pa_nil))))
  (pss_cons (ps_set (i := 4) nd rfl (Or.inl rfl) (pe_slice sl_list (pv 0) (po_some (pv 2)) po_none))
  (pss_cons (ps_if (pt_cmpR op_eq (pv 1) pe_str (nomark _)) (pss_one (ps_ret (pe_tup (pa_cons (pv 1) (StX.pa_star (pv 3) (pa_cons (pe_callTy k_tupOfF (by rfl) Z.tuple_ (by decide +kernel) (pa_cons (pe_lc (own := [("word", 5)]) (g := gName 5) (tt := tYes) rfl nd (pi_list (pv 4)) (blkOk_by (N := N_inner_in) (sc := C8.fnScope s_inner_in) (own := [("word", 5)]) (by decide +kernel)) (fun _ _ _ _ _ => (pg_name (i := 5) nd rfl (Or.inl rfl))) (fun _ _ _ _ _ => pts_nil) (fun _ _ _ _ _ => (C8.pe_c c_signs_in hr (by decide) (by rfl) (pa_cons (pv 5) pa_nil)))) pa_nil)) pa_nil)))))) pss_nil)
  (pss_cons (ps_if (pt_cmpR op_eq (pv 1) pe_str (nomark _)) (pss_one (ps_ret (pe_tup (pa_cons (pv 1) (StX.pa_star (pv 3) (pa_cons (pe_callTy k_tupOfF (by rfl) Z.tuple_ (by decide +kernel) (pa_cons (pe_lc (own := [("word", 5)]) (g := gName 5) (tt := tYes) rfl nd (pi_list (pv 4)) (blkOk_by (N := N_inner_in) (sc := C8.fnScope s_inner_in) (own := [("word", 5)]) (by decide +kernel)) (fun _ _ _ _ _ => (pg_name (i := 5) nd rfl (Or.inl rfl))) (fun _ _ _ _ _ => pts_nil) (fun _ _ _ _ _ => (C8.pe_c c_pair_in hr (by decide) (by rfl) (pa_cons (pv 5) pa_nil)))) pa_nil)) pa_nil)))))) pss_nil)
  (pss_cons (ps_if (pt_tru (pv 4) (by intro _; rfl)) (pss_one ps_never) pss_nil)
  (pss_one (ps_ret (pe_tup (pa_cons (pv 1) (StX.pa_star (pv 3) pa_nil)))))))))))))), ?_⟩
    refine i_start (σ' := [some (.ref a), none, none, none, none, none]) rfl ?_
    walk_at "go"
    walk_at "r"
    refine i_notInKd ki ?_
    rw [Bool.not_true]
    walk_at "r"
    refine i_kd kd ?_
    walk_at "r"
    refine i_no (by rw [List.length_cons, List.length_append, List.length_map, List.length_map]; omega) ?_
    walk_at "r"
    refine i_slL ha (fun o1 H1 ho1 s1 e1 => ?_)
    rw [cut_midV _ _ _ (by rw [List.length_map, List.length_map])] at e1
    walk_at "r"
    refine i_lcLI (fun D j acc H' => acc = ((kNums t e k).take j).map V.int ∧ Same H1 H' ∧ H' D = some (.lst acc)) (sl_of e1)
      (fun D hD => ⟨rfl, same_new hD, upd_same⟩) (fun D j acc H' hD pv => sl_of (pv.2.1 _ _ e1)) (fun D j x acc H' hD hx hl pv => ?_) (fun o2 acc H2 ho2 pv => ?_)
    · obtain ⟨rfl, s2, e2⟩ := pv
      obtain ⟨y, hy, rfl⟩ := map_getF hx
      obtain ⟨n, hn, rfl⟩ := map_getF hy
      have jl := (List.getElem?_eq_some_iff.mp hn).1
      walk_at "r"
      refine ⟨n, rfl, hns n (List.mem_of_getElem? hn), fun H3 s3 => ?_⟩
      refine kY_of (s3 _ _ e2) hl (by omega) ⟨?_, smut (s2.trans s3) hD, upd_same⟩
      rw [take_succ' hn, List.map_append]
      rfl
    · obtain ⟨rfl, s2, e2⟩ := pv
      rw [List.length_map, List.length_map, List.take_length] at e2
      have s02 := s1.trans s2
      walk_at "r"
      refine i_slL (s02.seq ha) (fun o3 H3 ho3 s3 e3 => ?_)
      rw [cut_more _ _ _ (by rw [List.length_map, List.length_map])] at e3
      have s03 := s02.trans s3
      have e23 := s3 _ _ e2
      cases k with
      | codes cs =>
        walk_at "r"
        refine i_yes rfl ?_
        walk_at "r"
        refine i_starL (sl_of e23) ?_
        walk_at "r"
        have e3 : H3 o3 = some (.lst ((cs.map dotS).map V.str)) := e3
        refine i_lcLI (fun D j acc H' => ∃ as : List Addr, acc = as.map V.ref ∧ TupsAt K (hid [D] H') as (cs.take j) ∧ Same H3 H' ∧ H' D = some (.lst acc)) (sl_of e3)
          (fun D hD => ⟨[], rfl, trivial, same_new hD, upd_same⟩) (fun D j acc H' hD pv => by obtain ⟨_, _, _, s4, _⟩ := pv; exact sl_of (s4 _ _ e3)) (fun D j x acc H' hD hx hl pv => ?_) (fun o4 acc H4 ho4 pv => ?_)
        · obtain ⟨as, rfl, hta, s4, e4⟩ := pv
          obtain ⟨y, hy, rfl⟩ := map_getF hx
          obtain ⟨cc, hcc, rfl⟩ := map_getF hy
          have jl := (List.getElem?_eq_some_iff.mp hcc).1
          have l40 := h3.2
          walk_at "r"
          refine ⟨cc, rfl, h3.1 cc (List.mem_of_getElem? hcc), fun b5 H5 hb5 s5 e5 => ?_⟩
          have nb : b5 ≠ D := (ne_of_none e4 hb5).symm
          refine kY_of (s5 _ _ e4) hl (by omega) ⟨as ++ [b5], by rw [List.map_append]; rfl, ?_, smut (s4.trans s5) hD, upd_same⟩
          rw [take_succ' hcc]
          exact TupsAt.app (hta.same (hid_tr (hid_pure s5) (hid_up (hid_put List.mem_cons_self)))) ⟨hid_at (by simpa using nb) ((upd_ne nb).trans e5), trivial⟩
        · obtain ⟨as, rfl, hta, s4, e4⟩ := pv
          rw [List.length_map, List.length_map, List.take_length] at hta
          have hta := hta.same hid_same
          walk_at "r"
          refine i_tupOfF (sl_of e4) (fun b5 H5 hb5 s5 e5 => ?_)
          walk_at "r"
          refine i_tup (by show 4 ≤ sizeLine; decide) (fun b6 H6 hb6 s6 e6 => ?_)
          have s46 := s4.trans (s5.trans s6)
          exact q _ _ (s03.free (s4.free (s5.free hb6))) (s03.trans s46) ⟨b5, as, st_of e6, e5.same s6, hta.same (s5.trans s6)⟩
      | escapes m prs =>
        walk_at "r"
        refine i_no (show ¬ ("escapes" : Str) = "codes" by decide +kernel) ?_
        walk_at "r"
        refine i_yes rfl ?_
        walk_at "r"
        refine i_starL (sl_of e23) ?_
        walk_at "r"
        have e3 : H3 o3 = some (.lst ((prs.map pairS).map V.str)) := e3
        refine i_lcLI (fun D j acc H' => ∃ as : List Addr, acc = as.map V.ref ∧ PairsAt K (hid [D] H') as (prs.take j) ∧ Same H3 H' ∧ H' D = some (.lst acc)) (sl_of e3)
          (fun D hD => ⟨[], rfl, trivial, same_new hD, upd_same⟩) (fun D j acc H' hD pv => by obtain ⟨_, _, _, s4, _⟩ := pv; exact sl_of (s4 _ _ e3)) (fun D j x acc H' hD hx hl pv => ?_) (fun o4 acc H4 ho4 pv => ?_)
        · obtain ⟨as, rfl, hta, s4, e4⟩ := pv
          obtain ⟨y, hy, rfl⟩ := map_getF hx
          obtain ⟨cc, hcc, rfl⟩ := map_getF hy
          have jl := (List.getElem?_eq_some_iff.mp hcc).1
          have l40 := h3.2.2
          obtain ⟨c1, c2⟩ := h3.2.1 cc (List.mem_of_getElem? hcc)
          walk_at "r"
          refine ⟨cc, rfl, c1, c2, fun b5 H5 hb5 s5 e5 => ?_⟩
          have nb : b5 ≠ D := (ne_of_none e4 hb5).symm
          refine kY_of (s5 _ _ e4) hl (by omega) ⟨as ++ [b5], by rw [List.map_append]; rfl, ?_, smut (s4.trans s5) hD, upd_same⟩
          rw [take_succ' hcc]
          exact PairsAt.app (hta.same (hid_tr (hid_pure s5) (hid_up (hid_put List.mem_cons_self)))) ⟨st_of (hid_at (by simpa using nb) ((upd_ne nb).trans e5)), trivial⟩
        · obtain ⟨as, rfl, hta, s4, e4⟩ := pv
          rw [List.length_map, List.length_map, List.take_length] at hta
          have hta := hta.same hid_same
          walk_at "r"
          refine i_tupOfF (sl_of e4) (fun b5 H5 hb5 s5 e5 => ?_)
          walk_at "r"
          refine i_tup (by show 5 ≤ sizeLine; decide) (fun b6 H6 hb6 s6 e6 => ?_)
          have s46 := s4.trans (s5.trans s6)
          exact q _ _ (s03.free (s4.free (s5.free hb6))) (s03.trans s46) ⟨b5, as, st_of e6, (e5.same s6).st, hta.same (s5.trans s6)⟩
      | counts l =>
        walk_at "r"
        refine i_no (show ¬ ("counts" : Str) = "codes" by decide +kernel) ?_
        walk_at "r"
        refine i_no (show ¬ ("counts" : Str) = "escapes" by decide +kernel) ?_
        walk_at "r"
        have e3 : H3 o3 = some (.lst []) := e3
        refine i_truL (sl_of e3) ?_
        rw [show (!([] : List V).isEmpty) = false from rfl]
        walk_at "r"
        refine i_starL (sl_of e23) ?_
        walk_at "r"
        refine i_tup (by show 4 ≤ sizeLine; decide) (fun b6 H6 hb6 s6 e6 => ?_)
        exact q _ _ (s03.free hb6) (s03.trans s6) (st_of e6)
      | ranks =>
        walk_at "r"
        refine i_no (show ¬ ("ranks" : Str) = "codes" by decide +kernel) ?_
        walk_at "r"
        refine i_no (show ¬ ("ranks" : Str) = "escapes" by decide +kernel) ?_
        walk_at "r"
        have e3 : H3 o3 = some (.lst []) := e3
        refine i_truL (sl_of e3) ?_
        rw [show (!([] : List V).isEmpty) = false from rfl]
        walk_at "r"
        refine i_starL (sl_of e23) ?_
        walk_at "r"
        refine i_tup (by show 3 ≤ sizeLine; decide) (fun b6 H6 hb6 s6 e6 => ?_)
        exact q _ _ (s03.free hb6) (s03.trans s6) (st_of e6)
end
end Esc

/-! A way read back, or refused. -/
namespace Esc
open PySem PySem.Spec PyProof.Rows L2 LamX
theorem turn_at : ∀ (ts : List (List Int)) (ws : List Str) (i : Nat) (s : List Int), ts[i]? = some s → (turnWords ts ++ ws)[2 * i]? = some "turned" ∧ (turnWords ts ++ ws)[2 * i + 1]? = some (dotS s)
  | [], _, i, _, h => by simp at h
  | s :: ts, ws, 0, s', h => by
    cases h
    rw [turnWords_cons, List.append_assoc]
    exact ⟨rfl, rfl⟩
  | x :: ts, ws, i + 1, s, h => by
    have h : ts[i]? = some s := h
    have ih := turn_at ts ws i s h
    rw [turnWords_cons, List.append_assoc]
    show (("turned" : Str) :: dotS x :: (turnWords ts ++ ws))[2 * i + 1 + 1]? = _ ∧ (("turned" : Str) :: dotS x :: (turnWords ts ++ ws))[2 * i + 1 + 1 + 1]? = _
    exact ih
theorem kind_at (ts : List (List Int)) (t e : Int) (k : Kind) : (turnWords ts ++ kindWords t e k)[2 * ts.length]? = some k.name := by
  rw [List.getElem?_append_right (by rw [turnWords_len]; omega), turnWords_len, Nat.sub_self, kindWords_eq]
  rfl
theorem big3 : ∀ {k : Kind}, Kind3 k → BigK k
  | .codes cs, h => ⟨by have := h.2; omega, fun c m => by have := (h.1 c m).2.2; omega⟩
  | .escapes m prs, h => by
    have := h.2.2
    show prs.length ≤ 60
    omega
  | .counts _, _ => trivial
  | .ranks, _ => trivial
section
variable {P : Program} {w : World} {K : PySem.W.Frag} {mg : Str → Option Value} {base : Heap} {c0 : Addr}
def spReadX (K : PySem.W.Frag) (c0 : Addr) : Sp := fun vs H Q E => ∃ wy : Way, vs = [.str (wayS wy)] ∧ Way3 wy ∧ (wy.Ok → ∀ v H', Same H H' → WayAt K H' v wy → Q v H') ∧ ∀ z, faultW wy = some z → ∀ H' d, Same H H' → H' d = none → E (.ref c0) (some d) (upd H' d (.xd [("why", .str z)]))
theorem c_read_wayX (Z : Blt mg) (c_signs_in : C8.Cal P w K mg base 2 "signs_in" (spSignsIn K) []) (c_inner_in : C8.Cal P w K mg base 3 "inner_in" (spInnerIn K) []) (c_need_way : CalXN P w K mg base 7 "need_way" (spNeedX K c0)) (d : Dd K mg "read_way" s_read_way P_read_way) : CalXN P w K mg base 8 "read_way" (spReadX K c0) := by
  refine d.calXN sc_read_way (fun vs H Q E h => ?_) (fun f cdv A outer s H vs Q E hr h => ?_)
  · obtain ⟨wy, rfl, _⟩ := h
    rfl
  · obtain ⟨wy, rfl, w3, q1, q2⟩ := h
    have nd := sc_read_way.nd
    have ow := wayWords_ok w3
    have lw := wayS_len w3
    have few := w3.few
    refine ⟨_, (pss_cons (ps_set (i := 1) nd rfl (Or.inl rfl) (pe_splitW (pv 0) pe_str))
  (pss_cons (ps_set (i := 2) nd rfl (Or.inl rfl) (pe_lst pa_nil))
  (pss_cons (ps_set (i := 3) nd rfl (Or.inl rfl) pe_int)
  (pss_cons (ps_while PassesOwn.leaving (PW.pt (pw_and (pt_cmpR op_eq (pe_ix ix_list (pv 1) (pv 3) (fun _ _ => rfl)) pe_str (nomark _)) (pw_and1 (pt_cmpR op_lt (pe_op op_add (pv 3) pe_int) (pe_callB k_len (by rfl) Z.len_ (by decide +kernel) (pa_cons (pv 1) pa_nil)) (nomark _)))))
    (pss_cons (ps_expr (pe_bm PySem.F.plainAttrs_list PySem.F.slot_list_append PySem.F.type_list_append mt_append (pv 2) (pa_cons (C8.pe_c c_signs_in hr (by decide) (by rfl) (pa_cons (pe_ix ix_list (pv 1) (pe_op op_add (pv 3) pe_int) (fun _ _ => rfl)) pa_nil)) pa_nil)))
  (pss_one (ps_aug (i := 3) nd rfl (Or.inl rfl) pe_int ip_add))))
  (pss_cons (ps_set (i := 4) nd rfl (Or.inl rfl) (C8.pe_c c_inner_in hr (by decide) (by rfl) (pa_cons (pe_slice sl_list (pv 1) (po_some (pv 3)) po_none) pa_nil)))
  (pss_cons (ps_for PassesOwn.leaving rfl (pi_reversed rfl Z.reversed_ (pa_cons (pv 2) pa_nil)) (pg_name (i := 5) nd rfl (Or.inl rfl))
    (pss_one (ps_set (i := 4) nd rfl (Or.inl rfl) (pe_tup (pa_cons pe_str (pa_cons (pv 5) (pa_cons (pv 4) pa_nil)))))))
  (pss_cons (ps_expr (pe_cxsN c_need_way hr (by decide) (by rfl) (fun σ => L2N.passAt (L2N.takes_of rfl rfl rfl rfl) σ) (pa_cons (pv 4) pa_nil)))
  (pss_one (ps_ret (pv 4)))))))))), ?_⟩
    refine i_start (σ' := [some (.str (wayS wy)), none, none, none, none, none]) rfl ?_
    walk_at "go"
    walk_at "r"
    refine i_split (by decide +kernel) (by omega) (fun p1 H1 hp1 s1 e1 => ?_)
    rw [wayS_split w3] at e1
    walk_at "r"
    refine i_lst (Nat.zero_le _) (fun o2 H2 ho2 s2 e2 => ?_)
    have e12 := s2 _ _ e1
    have ho20 : H o2 = none := s1.free ho2
    have npo : p1 ≠ o2 := ne_of_none e1 ho2
    have s02 := s1.trans s2
    have lww : (wayWords wy).length = 2 * wy.ts.length + (kindWords wy.t wy.e wy.k).length := by
      unfold wayWords
      rw [List.length_append, turnWords_len]
    have lk : 3 ≤ (kindWords wy.t wy.e wy.k).length := by cases wy.k <;> simp [kindWords]
    walk_at "r"
    refine i_while (fun m σ' H' => ∃ tas : List (Addr × List Int), tas.map (·.2) = wy.ts.take tas.length ∧ tas.length + m = wy.ts.length ∧ σ' = [some (.str (wayS wy)), some (.ref p1), some (.ref o2), some (.int ((2 * tas.length : Nat) : Int)), none, none] ∧ Same H H' ∧ H' p1 = some (.lst ((wayWords wy).map V.str)) ∧ H' o2 = some (.lst (tas.map fun t => V.ref t.1)) ∧ ∀ x ∈ tas, TupD (tp H') x.1 (x.2.map V.int))
      wy.ts.length ⟨[], by simp, by simp, rfl, s02, e12, e2, fun x m => by cases m⟩ (fun m σ' H' pv => ?_)
    obtain ⟨tas, hta, hm, rfl, s3, e13, e3, htd⟩ := pv
    cases m with
    | zero =>
      have hl : tas.length = wy.ts.length := by omega
      have hk := kind_at wy.ts wy.t wy.e wy.k
      rw [← hl] at hk
      have at1 : atI ((wayWords wy).map V.str) ((2 * tas.length : Nat) : Int) = some (.str wy.k.name) := atI_nat (by rw [List.getElem?_map]; unfold wayWords; rw [hk]; rfl)
      walk_at "r"
      refine i_no wy.k.name_ne ?_
      walk_at "r"
      refine i_slL (sl_of e13) (fun o4 H4 ho4 s4 e4 => ?_)
      rw [cut_from, ← List.map_drop, hl, show (wayWords wy).drop (2 * wy.ts.length) = kindWords wy.t wy.e wy.k by
        unfold wayWords
        rw [← turnWords_len, List.drop_left]] at e4
      walk_at "r"
      refine ⟨o4, wy.t, wy.e, wy.k, rfl, sl_of e4, w3.t, w3.e, w3.k, fun p5 H5 hp5 s5 hk5 => ?_⟩
      have s45 := s4.trans s5
      have s05 := s3.trans s45
      have e35 := s45 _ _ e3
      have htd5 : ∀ x ∈ tas, TupD H5 x.1 (x.2.map V.int) := fun x m => (htd x m).same (tp_same.trans s45)
      have hts : tas.map (·.2) = wy.ts := by rw [hta, hl, List.take_length]
      walk_at "r"
      refine i_rvs (sl_of e35) (fun j σ' H' => ∃ x y, σ' = [some (.str (wayS wy)), some (.ref p1), some (.ref o2), some (.int ((2 * tas.length : Nat) : Int)), some x, y] ∧ Same H5 H' ∧ TurnAt K H' (tas.drop (tas.length - j)) x (.ref p5)) ⟨_, _, rfl, Same.refl _, by rw [Nat.sub_zero, List.drop_length]; rfl⟩ (fun j σ' H' _ ⟨_, _, _, z, _⟩ => sl_of (z _ _ e35)) (fun j x σ' H' hj hi pv => ?_) (fun σ' H' pv => ?_)
      · obtain ⟨x', y, rfl, s6, ht⟩ := pv
        rw [List.length_map] at hj hi
        obtain ⟨ta, hta', rfl⟩ := map_getF hi
        obtain ⟨jl, eg⟩ := List.getElem?_eq_some_iff.mp hta'
        have td := (htd5 ta (List.mem_of_getElem? hta')).same s6
        walk_at "r"
        refine i_tup (by show 3 ≤ sizeLine; decide) (fun T H7 hT s7 eT => ?_)
        walk_at "r"
        refine ⟨_, _, rfl, s6.trans s7, ?_⟩
        rw [show tas.length - (j + 1) = tas.length - 1 - j by omega, List.drop_eq_getElem_cons jl, eg, show tas.length - 1 - j + 1 = tas.length - j by omega]
        exact ⟨T, x', rfl, st_of eT, td.same s7, ht.same s7⟩
      · obtain ⟨x', y, rfl, s6, ht⟩ := pv
        rw [List.length_map, Nat.sub_self, List.drop_zero] at ht
        have hw : WayAt K H' x' wy := ⟨tas, p5, hts, ht, hk5.same s6⟩
        walk_at "r"
        refine ⟨x', rfl, x', wy, rfl, hw, big3 w3.k, by omega, fun ok H7 s7 => ?_, fun z hz H7 dd s7 hd => q2 z hz H7 dd (s05.trans (s6.trans s7)) hd⟩
        walk_at "r"
        exact q1 ok _ _ (s05.trans (s6.trans s7)) (hw.same s7)
    | succ m =>
      have il : tas.length < wy.ts.length := by omega
      obtain ⟨sg, hsg⟩ : ∃ sg, wy.ts[tas.length]? = some sg := ⟨_, List.getElem?_eq_getElem il⟩
      obtain ⟨w1, w2⟩ := turn_at wy.ts (kindWords wy.t wy.e wy.k) tas.length sg hsg
      have at1 : atI ((wayWords wy).map V.str) ((2 * tas.length : Nat) : Int) = some (.str "turned") := atI_nat (by rw [List.getElem?_map]; unfold wayWords; rw [w1]; rfl)
      have at2 : atI ((wayWords wy).map V.str) (((2 * tas.length : Nat) : Int) + 1) = some (.str (dotS sg)) := by
        rw [show ((2 * tas.length : Nat) : Int) + 1 = ((2 * tas.length + 1 : Nat) : Int) by omega]
        exact atI_nat (by rw [List.getElem?_map]; unfold wayWords; rw [w2]; rfl)
      walk_at "r"
      refine i_yes rfl ?_
      walk_at "r"
      refine i_yes (by rw [List.length_map]; omega) ?_
      walk_at "r"
      refine ⟨sg, rfl, w3.ts sg (List.mem_of_getElem? hsg), fun b4 H4 hb4 s4 td => ?_⟩
      have e34 := s4 _ _ e3
      have ks : (tas.map fun t => V.ref t.1).length < sizeLine := szl (by rw [List.length_map]; omega)
      walk_at "r"
      refine ⟨m, by omega, tas ++ [(b4, sg)], ?_, by rw [List.length_append, List.length_singleton]; omega, ?_, smut (s3.trans s4) ho20, (upd_ne npo).trans (s4 _ _ e13), by rw [upd_same, List.map_append]; rfl, fun x hx => ?_⟩
      · rw [List.map_append, hta, List.length_append, List.length_singleton, take_succ' hsg]
        rfl
      · rw [List.length_append, List.length_singleton, show ((2 * (tas.length + 1) : Nat) : Int) = ((2 * tas.length : Nat) : Int) + 2 by omega]
      · refine TupD.same (tp_put e34) ?_
        rcases List.mem_append.mp hx with hx | hx
        · exact (htd x hx).same (tp_pure s4)
        · rw [List.mem_singleton.mp hx]
          exact tp_tupd td
end
end Esc

/-! Codes, by the law's own look: how many pairs. -/
namespace Esc
open PySem PySem.Spec PyProof.Rows L2
/-- how many of ds begin with c -/
def begN (c : List Int) (ds : List (List Int)) : Nat := (ds.filter fun o => decide (o.take c.length = c)).length
def begAll (cs ds : List (List Int)) : Nat := (cs.map fun c => begN c ds).sum
theorem take_pre {c o : List Int} : o.take c.length = c ↔ c <+: o := by
  constructor
  · intro h
    rw [← h]
    exact List.take_prefix _ _
  · intro ⟨r, hr⟩
    rw [← hr, List.take_left]
theorem begN_cons (c o : List Int) (ds : List (List Int)) : begN c (o :: ds) = (if c <+: o then 1 else 0) + begN c ds := by
  unfold begN
  by_cases h : c <+: o
  · rw [if_pos h, List.filter_cons_of_pos (by exact decide_eq_true (take_pre.mpr h)), List.length_cons]
    omega
  · rw [if_neg h, List.filter_cons_of_neg (by rw [decide_eq_false (fun z => h (take_pre.mp z))]; exact Bool.false_ne_true)]
    omega
theorem begAll_cons (c : List Int) (cs ds : List (List Int)) : begAll (c :: cs) ds = begN c ds + begAll cs ds := by
  unfold begAll
  rw [List.map_cons, List.sum_cons]
theorem begAll_right (o : List Int) (ds : List (List Int)) : ∀ cs : List (List Int), begAll cs (o :: ds) = (cs.filter fun c => decide (c <+: o)).length + begAll cs ds
  | [] => rfl
  | c :: cs => by
    rw [begAll_cons, begAll_cons, begN_cons, begAll_right o ds cs]
    by_cases h : c <+: o
    · rw [if_pos h, List.filter_cons_of_pos (by exact decide_eq_true h), List.length_cons]
      omega
    · rw [if_neg h, List.filter_cons_of_neg (by rw [decide_eq_false h]; exact Bool.false_ne_true)]
      omega
theorem begN_zero {c : List Int} : ∀ {ds : List (List Int)}, begN c ds = 0 ↔ ∀ o ∈ ds, ¬ c <+: o
  | [] => ⟨fun _ o m => (by cases m), fun _ => rfl⟩
  | o :: ds => by
    rw [begN_cons, List.forall_mem_cons, ← begN_zero (ds := ds)]
    by_cases h : c <+: o
    · rw [if_pos h]
      exact ⟨fun z => by omega, fun z => absurd h z.1⟩
    · rw [if_neg h]
      exact ⟨fun z => ⟨h, by omega⟩, fun z => by omega⟩
theorem begAll_apart : ∀ cs : List (List Int), cs.length ≤ begAll cs cs ∧ (begAll cs cs = cs.length ↔ cs.Pairwise Apart)
  | [] => ⟨Nat.le_refl _, ⟨fun _ => .nil, fun _ => rfl⟩⟩
  | c :: cs => by
    obtain ⟨ih1, ih2⟩ := begAll_apart cs
    have e : begAll (c :: cs) (c :: cs) = 1 + begN c cs + (cs.filter fun d => decide (d <+: c)).length + begAll cs cs := by
      rw [begAll_cons, begN_cons, if_pos (List.prefix_refl c), begAll_right]
      omega
    have fz : (cs.filter fun d => decide (d <+: c)).length = 0 ↔ ∀ o ∈ cs, ¬ o <+: c := by
      rw [List.length_eq_zero_iff, List.filter_eq_nil_iff]
      exact ⟨fun z o m h => z o m (decide_eq_true h), fun z o m h => z o m (of_decide_eq_true h)⟩
    rw [e, List.length_cons, List.pairwise_cons, ← ih2]
    refine ⟨by omega, ⟨fun z => ?_, fun z => ?_⟩⟩
    · have a1 : begN c cs = 0 := by omega
      have a2 : (cs.filter fun d => decide (d <+: c)).length = 0 := by omega
      exact ⟨fun o m => ⟨begN_zero.mp a1 o m, fz.mp a2 o m⟩, by omega⟩
    · have a1 := begN_zero.mpr fun o m => (z.1 o m).1
      have a2 := fz.mpr fun o m => (z.1 o m).2
      omega
end Esc

/-! The exchanges of a way. -/
namespace Esc
open PySem PySem.Spec PyProof.Rows L2
section
variable {P : Program} {w : World} {K : PySem.W.Frag} {mg : Str → Option Value} {base : Heap}
def spTurnsL (K : PySem.W.Frag) : Sp := fun vs H Q _ => ∃ (v : V) (ts : List (Addr × List Int)) (p : Addr) (k : Str) (xs : List V), vs = [v] ∧ TurnAt K H ts v (.ref p) ∧ SqT K H p (.str k :: xs) ∧ k ≠ "turned" ∧ ts.length ≤ 1000 ∧
  ∀ l H', H l = none → Same H H' → H' l = some (.lst (ts.map fun t => V.ref t.1)) → Q (.ref l) H'
theorem c__law_turns (d : Dd K mg "_law_turns" s__law_turns P__law_turns) : C8.Cal P w K mg base 1 "_law_turns" (spTurnsL K) [] := by
  refine d.cal sc__law_turns (fun vs H Q E h => ?_) (fun f cdv A outer s H vs Q E hr h => ?_)
  · obtain ⟨v, ts, p, k, xs, rfl, _⟩ := h
    rfl
  · obtain ⟨v, ts, pi, k, xs, rfl, ht, hk, hne, hlen, q⟩ := h
    have nd := sc__law_turns.nd
    refine ⟨_, (pss_cons (ps_set (i := 1) nd rfl (Or.inl rfl) (pe_lst pa_nil))
  (pss_cons (ps_while PassesOwn.never (pt_cmpR op_eq (pe_ix ix_tup (pv 0) pe_int (fun _ _ => rfl)) pe_str (nomark _))
    (pss_cons (ps_expr (pe_bm PySem.F.plainAttrs_list PySem.F.slot_list_append PySem.F.type_list_append mt_append (pv 1) (pa_cons (pe_ix ix_tup (pv 0) pe_int (fun _ _ => rfl)) pa_nil)))
  (pss_one (ps_set (i := 0) nd rfl (Or.inl rfl) (pe_ix ix_tup (pv 0) pe_int (fun _ _ => rfl))))))
  (pss_one (ps_ret (pv 1))))), ?_⟩
    refine i_start (σ' := [some v, none]) rfl ?_
    walk_at "go"
    walk_at "r"
    refine i_lst (Nat.zero_le _) (fun p H1 hp s1 e1 => ?_)
    walk_at "r"
    refine i_while (fun m σ' H' => ∃ ds r x, ts = ds ++ r ∧ m = r.length ∧ σ' = [some x, some (.ref p)] ∧ Same H H' ∧ H' p = some (.lst (ds.map fun t => V.ref t.1)) ∧ TurnAt K H r x (.ref pi)) ts.length ⟨[], ts, v, rfl, rfl, rfl, s1, e1, ht⟩ (fun m σ' H' pv => ?_)
    obtain ⟨ds, r, x, rfl, rfl, rfl, s2, e2, hr2⟩ := pv
    cases r with
    | nil =>
      cases hr2
      have hk2 := stup s2 hk
      walk_at "r"
      refine i_no hne ?_
      walk_at "r"
      rw [List.append_nil] at q
      exact q p H' hp s2 e2
    | cons t r =>
      obtain ⟨a, t⟩ := t
      obtain ⟨p2, y, rfl, h1, h2, h3⟩ := hr2
      have h1' := stup s2 h1
      rw [List.length_append, List.length_cons] at hlen
      walk_at "r"
      refine i_yes rfl ?_
      walk_at "r"
      refine ⟨r.length, by show r.length < r.length + 1; omega, ds ++ [(a, t)], r, y, by rw [List.append_assoc]; rfl, rfl, rfl, smut s2 hp, ?_, h3⟩
      rw [upd_same, List.map_append]
      rfl
end
end Esc

/-! A way within the exchanges of another one; numbers with dots. -/
namespace Esc
open PySem PySem.Spec PyProof.Rows L2
/-- a statement that leaves all as it is -/
theorem i_cutS {t u : TS} {nx : L2.St → Hp → Prop} {rt : VK} {bk ct : L2.St → Hp → Prop} {σ : L2.St} {H : Hp} (h1 : t ⟨fun σ' H' => σ' = σ ∧ H' = H, rt, bk, ct⟩ σ H) (h2 : u ⟨nx, rt, bk, ct⟩ σ H) : C8.tCut t u ⟨nx, rt, bk, ct⟩ σ H :=
  i_cut (fun σ' H' => σ' = σ ∧ H' = H) h1 (fun σ' H' pv => by
    obtain ⟨rfl, rfl⟩ := pv
    exact h2)
section
variable {P : Program} {w : World} {K : PySem.W.Frag} {mg : Str → Option Value} {base : Heap}
def spWithin (K : PySem.W.Frag) : Sp := fun vs H Q _ => ∃ (v : V) (ts : List (Addr × List Int)) (p : Addr) (k : Str) (xs : List V) (q : Addr), vs = [v, .ref q] ∧ TurnAt K H ts v (.ref p) ∧ SqT K H p (.str k :: xs) ∧ k ≠ "turned" ∧ ts.length ≤ 1000 ∧
  ∀ x H', Same H H' → TurnAt K H' ts x (.ref q) → Q x H'
theorem c__law_within (Z : Blt mg) (c__law_turns : C8.Cal P w K mg base 1 "_law_turns" (spTurnsL K) []) (d : Dd K mg "_law_within" s__law_within P__law_within) : C8.Cal P w K mg base 2 "_law_within" (spWithin K) [] := by
  refine d.cal sc__law_within (fun vs H Q E h => ?_) (fun f cdv A outer s H vs Q E hr h => ?_)
  · obtain ⟨v, ts, p, k, xs, q, rfl, _⟩ := h
    rfl
  · obtain ⟨v, tas, p, k, xs, q0, rfl, ht, hk, hne, hlen, q⟩ := h
    have nd := sc__law_within.nd
    refine ⟨_, (pss_cons (ps_for PassesOwn.never rfl (pi_reversed rfl Z.reversed_ (pa_cons (C8.pe_c c__law_turns hr (by decide) (by rfl) (pa_cons (pv 0) pa_nil)) pa_nil)) (pg_name (i := 2) nd rfl (Or.inl rfl))
    (pss_one (ps_set (i := 1) nd rfl (Or.inl rfl) (pe_tup (pa_cons pe_str (pa_cons (pv 2) (pa_cons (pv 1) pa_nil)))))))
  (pss_one (ps_ret (pv 1)))), ?_⟩
    refine i_start (σ' := [some v, some (.ref q0), none]) rfl ?_
    walk_at "go"
    walk_at "r"
    refine ⟨v, tas, p, k, xs, rfl, ht, hk, hne, hlen, fun l H1 hl s1 el => ?_⟩
    have htd : ∀ x ∈ tas, TupD H1 x.1 (x.2.map V.int) := (ht.same s1).memD
    walk_at "r"
    refine i_rvs (sl_of el) (fun j σ' H' => ∃ x y, σ' = [some v, some x, y] ∧ Same H1 H' ∧ TurnAt K H' (tas.drop (tas.length - j)) x (.ref q0)) ⟨_, _, rfl, Same.refl _, by rw [Nat.sub_zero, List.drop_length]; rfl⟩ (fun j σ' H' _ ⟨_, _, _, z, _⟩ => sl_of (z _ _ el)) (fun j x σ' H' hj hi pv => ?_) (fun σ' H' pv => ?_)
    · obtain ⟨x', y, rfl, s6, ht6⟩ := pv
      rw [List.length_map] at hj hi
      obtain ⟨ta, hta', rfl⟩ := map_getF hi
      obtain ⟨jl, eg⟩ := List.getElem?_eq_some_iff.mp hta'
      have td := (htd ta (List.mem_of_getElem? hta')).same s6
      walk_at "r"
      refine i_tup (by show 3 ≤ sizeLine; decide) (fun T H7 hT s7 eT => ?_)
      walk_at "r"
      refine ⟨_, _, rfl, s6.trans s7, ?_⟩
      rw [show tas.length - (j + 1) = tas.length - 1 - j by omega, List.drop_eq_getElem_cons jl, eg, show tas.length - 1 - j + 1 = tas.length - j by omega]
      exact ⟨T, x', rfl, st_of eT, td.same s7, ht6.same s7⟩
    · obtain ⟨x', y, rfl, s6, ht6⟩ := pv
      rw [List.length_map, Nat.sub_self, List.drop_zero] at ht6
      walk_at "r"
      exact q _ _ (s1.trans s6) ht6
def spDots (K : PySem.W.Frag) : Sp := fun vs H Q _ => ∃ (a : Addr) (ns : List Int), vs = [.ref a] ∧ SqT K H a (ns.map V.int) ∧ Row3 ns ∧ ∀ H', Same H H' → Q (.str (dotS ns)) H'
theorem c__law_dots (Z2 : Blt2 mg) (d : Dd K mg "_law_dots" s__law_dots P__law_dots) : C8.Cal P w K mg base 1 "_law_dots" (spDots K) [] := by
  refine d.cal sc__law_dots (fun vs H Q E h => ?_) (fun f cdv A outer s H vs Q E hr h => ?_)
  · obtain ⟨a, ns, rfl, _⟩ := h
    rfl
  · obtain ⟨a, ns, rfl, ha, hn, q⟩ := h
    have nd := sc__law_dots.nd
    have l40 := hn.2.2
    refine ⟨_, (pss_one (ps_ret (pe_joinW pe_str (pe_lc (own := [("_law_number", 1)]) (g := gName 1) (tt := tYes) rfl nd (pi_tup (pv 0)) (blkOk_by (N := N__law_dots) (sc := C8.fnScope s__law_dots) (own := [("_law_number", 1)]) (by decide +kernel)) (fun _ _ _ _ _ => (pg_name (i := 1) nd rfl (Or.inl rfl))) (fun _ _ _ _ _ => pts_nil) (fun _ _ _ _ _ => (pe_callTy k_strI (by rfl) Z2.str_ (by decide +kernel) (pa_cons (pv 1) pa_nil))))))), ?_⟩
    refine i_start (σ' := [some (.ref a), none]) rfl ?_
    walk_at "go"
    walk_at "r"
    refine i_lcT (F := fNum) ha (by rw [List.length_map]; omega) (fun x hx H1 s1 QN QY hN hY => ?_) (fun p1 H1 hp1 s1 e1 => ?_)
    · obtain ⟨n, hm, rfl⟩ := List.mem_map.mp hx
      obtain ⟨n0, n1⟩ := hn.1 n hm
      walk_at "r"
      refine i_strI n0 (by omega) ?_
      exact hY _ rfl _ (Same.refl _)
    · rw [fNum_map] at e1
      walk_at "r"
      refine i_join (sl_of e1) ?_ ?_
      · have z := sum_len (ps := ns.map numS) (k := 3) (fun p m => by
          obtain ⟨n, hm, rfl⟩ := List.mem_map.mp m
          exact (numS_len (hn.1 n hm)).1)
        have e : ("." : Str).length = 1 := by decide +kernel
        rw [List.length_map] at z ⊢
        rw [e]
        omega
      · exact q _ s1
end
end Esc

/-! Whether codes are codes, by the law's own look. -/
namespace Esc
open PySem PySem.Spec PyProof.Rows L2
theorem plain_in {t e x : Int} : x ∈ plainL t e ↔ Plain t e x := plain_mem
/-- what the law looks for in a code -/
def fOut (t e : Int) : V → Option V
  | .int n => if n ∈ plainL t e then none else some (.int n)
  | _ => none
theorem fOut_map (t e : Int) : ∀ c : List Int, (c.map V.int).filterMap (fOut t e) = (c.filter fun n => !decide (n ∈ plainL t e)).map V.int
  | [] => rfl
  | n :: c => by
    rw [List.map_cons, List.filterMap_cons, fOut_map t e c]
    by_cases h : n ∈ plainL t e
    · rw [show fOut t e (.int n) = none from if_pos h, List.filter_cons_of_neg (by rw [decide_eq_true h]; decide)]
    · rw [show fOut t e (.int n) = some (.int n) from if_neg h, List.filter_cons_of_pos (by rw [decide_eq_false h]; decide)]
      rfl
theorem fOut_nil {t e : Int} {c : List Int} : (c.filter fun n => !decide (n ∈ plainL t e)).map V.int = [] ↔ ∀ x ∈ c, Plain t e x := by
  rw [List.map_eq_nil_iff, List.filter_eq_nil_iff]
  constructor
  · intro h x hx
    have z := h x hx
    by_cases p : x ∈ plainL t e
    · exact plain_mem.mp p
    · rw [decide_eq_false p] at z
      exact absurd rfl z
  · intro h x hx z
    rw [decide_eq_true (plain_mem.mpr (h x hx))] at z
    cases z
section
variable {P : Program} {w : World} {K : PySem.W.Frag} {mg : Str → Option Value} {base : Heap}
def spAreCodes (K : PySem.W.Frag) : Sp := fun vs H Q _ => ∃ (a b : Addr) (as : List Addr) (cs : List (List Int)) (t e : Int), vs = [.ref a, .ref b] ∧ SqT K H a (as.map V.ref) ∧ TupsAt K H as cs ∧ cs.length ≤ 60 ∧ (∀ c ∈ cs, c.length ≤ 1000) ∧ SqL K H b ((plainL t e).map V.int) ∧ ∀ H', Same H H' → Q (.bl (bOf (CodesOk t e cs))) H'
set_option maxHeartbeats 2000000 in
theorem c__law_are_codes (Z : Blt mg) (d : Dd K mg "_law_are_codes" s__law_are_codes P__law_are_codes) : C8.Cal P w K mg base 1 "_law_are_codes" (spAreCodes K) [] := by
  refine d.cal sc__law_are_codes (fun vs H Q E h => ?_) (fun f cdv A outer s H vs Q E hr h => ?_)
  · obtain ⟨a, b, as, cs, t, e, rfl, _⟩ := h
    rfl
  · obtain ⟨a, b, as, cs, t, e, rfl, ha, ht, lcs, lc, hb, q⟩ := h
    have nd := sc__law_are_codes.nd
    have hlen := ht.len
    refine ⟨_, (pss_cons (ps_for PassesOwn.never rfl (pi_tup (pv 0)) (pg_name (i := 2) nd rfl (Or.inr rfl))
    (pss_one (ps_if (PW.pt (pw_or (pt_not (pt_chain op_le op_le pe_int (pe_callB k_len (by rfl) Z.len_ (by decide +kernel) (pa_cons (pv 2) pa_nil)) pe_int)) (pw_or1 (pt_cmpR (op_neD hr.units) (pe_lc (own := [("_law_sign", 4)]) (g := gName 4) rfl nd (pi_tup (pv 2)) (blkOk_by (N := N__law_are_codes) (sc := C8.fnScope s__law_are_codes) (own := [("_law_sign", 4)]) (by decide +kernel)) (fun _ _ _ _ _ => (pg_name (i := 4) nd rfl (Or.inl rfl))) (fun _ _ _ _ _ => pts_one (pt_cmpR (show OpR _ _ (rIn K true) from op_notIn_seq) (pv 4) (pv 1) (by rfl))) (fun _ _ _ _ _ => (pv 4))) (pe_lst pa_nil) (nomark _))))) (pss_one (ps_ret pe_bl)) pss_nil)))
  (pss_cons (ps_set (i := 3) nd rfl (Or.inl rfl) (pe_lst pa_nil))
  (pss_cons (ps_for PassesOwn.never rfl (pi_tup (pv 0)) (pg_name (i := 2) nd rfl (Or.inr rfl))
    (pss_one (ps_set (i := 3) nd rfl (Or.inl rfl) (pe_op op_cat (pv 3) (pe_lc (own := [("_law_other_here", 5)]) (g := gName 5) rfl nd (pi_tup (pv 0)) (blkOk_by (N := N__law_are_codes) (sc := C8.fnScope s__law_are_codes) (own := [("_law_other_here", 5)]) (by decide +kernel)) (fun _ _ _ _ _ => (pg_name (i := 5) nd rfl (Or.inl rfl))) (fun _ _ _ _ _ => pts_one (pt_cmpR (show OpR _ _ (rEqD K) from (op_eqD hr.units)) (pe_slice (show SlR _ (rSlA K) from sl_tupA) (pv 5) po_none (po_some (pe_callB (show CallR _ _ (rLen K) from k_len) (by rfl) Z.len_ (by decide +kernel) (pa_cons (pv 2) pa_nil)))) (pv 2) (nomark _))) (fun _ _ _ _ _ => (pe_tup (pa_cons (pv 2) (pa_cons (pv 5) pa_nil)))))))))
  (pss_one (ps_ret (pe_cmpR op_eq (pe_callB k_len (by rfl) Z.len_ (by decide +kernel) (pa_cons (pv 3) pa_nil)) (pe_callB k_len (by rfl) Z.len_ (by decide +kernel) (pa_cons (pv 0) pa_nil)) (nomark _))))))), ?_⟩
    refine i_start (σ' := [some (.ref a), some (.ref b), none, none, none, none]) rfl ?_
    walk_at "go"
    walk_at "r"
    refine i_forT ha (fun i σ' H' => ∃ x y, σ' = [some (.ref a), some (.ref b), x, none, y, none] ∧ Same H H' ∧ ∀ c ∈ cs.take i, CodeP t e c) ⟨_, _, rfl, Same.refl _, fun c m => by cases m⟩ (fun i σ' H' _ ⟨_, _, _, s1, _⟩ => stup s1 ha) (fun i x σ' H1 hi pv => ?_) (fun σ' H1 pv => ?_)
    · obtain ⟨y1, y2, rfl, s1, hin⟩ := pv
      obtain ⟨b1, hb1, rfl⟩ := ref_get hi
      obtain ⟨c, hc, hbc⟩ := ht.get hb1
      have hbc1 := stup s1 hbc
      have no : ∀ H', Same H H' → ¬ CodeP t e c → Q (.bl false) H' := fun H' s' n => by
        have z := q H' s'
        rw [bOf_false (fun z => n (z.1 c (List.mem_of_getElem? hc)))] at z
        exact z
      walk_at "r"
      by_cases c1 : 1 ≤ c.length
      rotate_left
      · rw [decide_eq_false (by rw [List.length_map]; omega)]
        walk_at "r"
        exact no _ s1 fun z => c1 z.1
      rw [decide_eq_true (by rw [List.length_map]; omega)]
      walk_at "r"
      by_cases c2 : c.length ≤ 4
      rotate_left
      · rw [decide_eq_false (by rw [List.length_map]; omega)]
        walk_at "r"
        exact no _ s1 fun z => c2 z.2.1
      rw [decide_eq_true (by rw [List.length_map]; omega)]
      walk_at "r"
      refine i_lcT (F := fOut t e) hbc1 (by rw [List.length_map]; omega) (fun v hv H2 s2 QN QY hN hY => ?_) (fun p2 H2 hp2 s2 e2 => ?_)
      · obtain ⟨n, hn, rfl⟩ := List.mem_map.mp hv
        walk_at "r"
        refine i_notInI ((s1.trans s2).seq hb) ?_
        by_cases m : n ∈ plainL t e
        · rw [decide_eq_true m, Bool.not_true]
          walk_at "r"
          exact hN (if_pos m) _ (Same.refl _)
        · rw [decide_eq_false m, Bool.not_false]
          walk_at "r"
          exact hY _ (if_neg m) _ (Same.refl _)
      rw [fOut_map] at e2
      walk_at "r"
      refine i_lst (Nat.zero_le _) (fun p3 H3 hp3 s3 e3 => ?_)
      have s13 := s1.trans (s2.trans s3)
      walk_at "r"
      refine i_neNil (sl_of (s3 _ _ e2)) (fun v hv => by
        obtain ⟨n, _, rfl⟩ := List.mem_map.mp hv
        exact fl_int n) (sl_of e3) ?_
      by_cases c3 : ∀ x ∈ c, Plain t e x
      rotate_left
      · rw [decide_eq_false (fun z => c3 (fOut_nil.mp z))]
        walk_at "r"
        exact no _ s13 fun z => c3 z.2.2
      rw [decide_eq_true (fOut_nil.mpr c3)]
      walk_at "r"
      refine ⟨_, _, rfl, s13, fun c' m => ?_⟩
      rw [take_succ' hc] at m
      rcases List.mem_append.mp m with m | m
      · exact hin c' m
      · rw [List.mem_singleton.mp m]
        exact ⟨c1, c2, c3⟩
    · obtain ⟨y1, y2, rfl, s1, hin⟩ := pv
      rw [List.length_map, hlen, List.take_length] at hin
      walk_at "r"
      refine i_lst (Nat.zero_le _) (fun l0 H2 hl0 s2 e2 => ?_)
      have s12 := s1.trans s2
      walk_at "r"
      refine i_forT (stup s12 ha) (fun i σ' H' => ∃ l z u, σ' = [some (.ref a), some (.ref b), z, some (.ref l), u, none] ∧ Same H H' ∧ ∃ xs, H' l = some (.lst xs) ∧ xs.length = begAll (cs.take i) cs) ⟨l0, _, _, rfl, s12, [], e2, rfl⟩ (fun i σ' H' _ ⟨_, _, _, _, s3, _⟩ => stup s3 ha) (fun i x σ' H3 hi pv => ?_) (fun σ' H3 pv => ?_)
      · obtain ⟨l, z, u, rfl, s3, xs, el, lx⟩ := pv
        obtain ⟨b1, hb1, rfl⟩ := ref_get hi
        obtain ⟨c, hc, hbc⟩ := ht.get hb1
        have il := (List.getElem?_eq_some_iff.mp hc).1
        have bn : begN c cs ≤ 60 := Nat.le_trans (List.length_filter_le _ _) lcs
        have ba : ∀ ds : List (List Int), begAll ds cs ≤ ds.length * 60 := fun ds => by
          induction ds with
          | nil => exact Nat.le_refl _
          | cons d ds ih =>
            have z1 : begN d cs ≤ 60 := Nat.le_trans (List.length_filter_le _ _) lcs
            rw [begAll_cons, List.length_cons, Nat.succ_mul]
            omega
        have bt := ba (cs.take i)
        rw [List.length_take] at bt
        have b36 : begAll (cs.take i) cs ≤ 3600 := Nat.le_trans bt (Nat.mul_le_mul_right 60 (Nat.le_trans (Nat.min_le_right _ _) lcs))
        walk_at "r"
        refine i_lcTI (fun D j acc H' => acc.length = begN c (cs.take j) ∧ Same H3 H' ∧ H' D = some (.lst acc)) (stup s3 ha)
          (fun D hD => ⟨rfl, same_new hD, upd_same⟩) (fun D j acc H' hD pv => stup (s3.trans pv.2.1) ha) (fun D j x acc H' hD hx hl2 pv => ?_) (fun p4 acc H4 hp4 pv => ?_)
        · obtain ⟨la, s4, e4⟩ := pv
          obtain ⟨b2, hb2, rfl⟩ := ref_get hx
          obtain ⟨o, ho, hbo⟩ := ht.get hb2
          have jl := (List.getElem?_eq_some_iff.mp ho).1
          have s34 := s3.trans s4
          have hbc4 := stup s34 hbc
          have hbo4 := stup s34 hbo
          have tk : begN c (cs.take (j + 1)) = begN c (cs.take j) + (if o.take c.length = c then 1 else 0) := by
            unfold begN
            rw [take_succ' ho, List.filter_append, List.length_append]
            by_cases h : o.take c.length = c
            · rw [if_pos h, List.filter_cons_of_pos (by exact decide_eq_true h)]
              rfl
            · rw [if_neg h, List.filter_cons_of_neg (by rw [decide_eq_false h]; decide)]
              rfl
          have bj : begN c (cs.take j) ≤ 60 := Nat.le_trans (List.length_filter_le _ _) (by rw [List.length_take]; omega)
          walk_at "r"
          rw [List.length_map]
          refine i_slA hbo4 (fun r H5 s5 e5 => ?_)
          rw [cut_to, ← List.map_take] at e5
          have hbc5 := stup s5 hbc4
          walk_at "r"
          refine i_eqT e5 hbc5 ?_
          by_cases h : o.take c.length = c
          · rw [decide_eq_true h]
            rw [if_pos h] at tk
            walk_at "r"
            refine i_tup (by show 2 ≤ sizeLine; decide) (fun T H6 hT s6 eT => ?_)
            have e46 := (s5.trans s6) _ _ e4
            refine kY_of e46 hl2 (by omega) ⟨by rw [List.length_append, tk, la]; rfl, smut (s4.trans (s5.trans s6)) hD, upd_same⟩
          · rw [decide_eq_false h]
            rw [if_neg h] at tk
            walk_at "r"
            refine kN_of hl2 ⟨by rw [tk, la]; rfl, s4.trans s5, s5 _ _ e4⟩
        · obtain ⟨la, s4, e4⟩ := pv
          rw [List.length_map, hlen, List.take_length] at la
          walk_at "r"
          refine i_cat (s4 _ _ el) e4 (sz (by omega)) (fun p5 H5 hp5 s5 e5 => ?_)
          walk_at "r"
          refine ⟨p5, _, _, rfl, s3.trans (s4.trans s5), _, e5, ?_⟩
          rw [take_succ' hc, List.length_append, lx, la]
          have z2 : ∀ ds : List (List Int), begAll (ds ++ [c]) cs = begAll ds cs + begN c cs := fun ds => by
            unfold begAll
            rw [List.map_append, List.sum_append]
            rfl
          rw [z2]
      · obtain ⟨l, z, u, rfl, s3, xs, el, lx⟩ := pv
        rw [List.length_map, hlen, List.take_length] at lx
        have ha3 := stup s3 ha
        obtain ⟨g1, g2⟩ := begAll_apart cs
        walk_at "r"
        rw [lx, List.length_map, hlen, bOf_dec, bOf_congr (show ((begAll cs cs : Nat) : Int) = ((cs.length : Nat) : Int) ↔ CodesOk t e cs from ⟨fun h => ⟨hin, g2.mp (by omega)⟩, fun h => by have := g2.mpr h.2; omega⟩)]
        exact q _ s3
end
end Esc

/-! Whether pairs are pairs, by the law's own look. -/
namespace Esc
open PySem PySem.Spec PyProof.Rows L2
def PairsP (t e m : Int) (prs : List (Int × Int)) : Prop := (prs.map (·.1)).Pairwise (· < ·) ∧ (∀ s ∈ prs.map (·.1), 0 ≤ s ∧ s < t) ∧ e ∈ prs.map (·.1) ∧ m ∈ prs.map (·.1) ∧ (∀ c ∈ prs.map (·.2), Plain t e c) ∧ (prs.map (·.2)).Nodup
theorem count_pwl (t : Int) : (countL t).Pairwise (· < ·) := by
  unfold countL
  exact List.Pairwise.map _ (fun a b (h : a < b) => Int.ofNat_lt.mpr h) List.pairwise_lt_range
theorem rise_filter {t : Int} {sg : List Int} : sg = (countL t).filter (fun x => decide (x ∈ sg)) ↔ sg.Pairwise (· < ·) ∧ ∀ s ∈ sg, 0 ≤ s ∧ s < t := by
  constructor
  · intro h
    refine ⟨?_, fun s m => ?_⟩
    · rw [h]
      exact (count_pwl t).sublist List.filter_sublist
    · rw [h] at m
      exact count_mem.mp (List.mem_filter.mp m).1
  · rintro ⟨h1, h2⟩
    refine rise_eq h1 ((count_pwl t).sublist List.filter_sublist) fun k => ?_
    rw [List.mem_filter, decide_eq_true_eq]
    exact ⟨fun m => ⟨count_mem.mpr (h2 k m), m⟩, fun z => z.2⟩
theorem once_filter {t e : Int} {cd : List Int} : cd = cd.filter (fun c => decide (cd.count c = 1 ∧ c ∈ plainL t e)) ↔ (∀ c ∈ cd, Plain t e c) ∧ cd.Nodup := by
  rw [eq_comm, List.filter_eq_self]
  constructor
  · intro h
    refine ⟨fun c m => plain_mem.mp (of_decide_eq_true (h c m)).2, List.nodup_iff_count.mpr fun c => ?_⟩
    by_cases m : c ∈ cd
    · exact Nat.le_of_eq (of_decide_eq_true (h c m)).1
    · rw [List.count_eq_zero_of_not_mem m]
      exact Nat.zero_le _
  · rintro ⟨h1, h2⟩ c m
    refine decide_eq_true ⟨?_, plain_mem.mpr (h1 c m)⟩
    rw [h2.count, if_pos m]
theorem filterMap_count {t : Int} (sg : List Int) : (List.range t.toNat).filterMap (fun (i : Nat) => if (i : Int) ∈ sg then some (V.int (i : Int)) else none) = ((countL t).filter fun x => decide (x ∈ sg)).map V.int := by
  unfold countL
  generalize List.range t.toNat = l
  induction l with
  | nil => rfl
  | cons i l ih =>
    rw [List.filterMap_cons, List.map_cons, ih]
    by_cases h : (i : Int) ∈ sg
    · rw [if_pos h, List.filter_cons_of_pos (by exact decide_eq_true h)]
      rfl
    · rw [if_neg h, List.filter_cons_of_neg (by rw [decide_eq_false h]; decide)]
def fOnce (t e : Int) (cd : List Int) : V → Option V
  | .int c => if cd.count c = 1 ∧ c ∈ plainL t e then some (.int c) else none
  | _ => none
theorem fOnce_map (t e : Int) (cd : List Int) : ∀ l : List Int, (l.map V.int).filterMap (fOnce t e cd) = (l.filter fun c => decide (cd.count c = 1 ∧ c ∈ plainL t e)).map V.int
  | [] => rfl
  | n :: c => by
    rw [List.map_cons, List.filterMap_cons, fOnce_map t e cd c]
    by_cases h : cd.count n = 1 ∧ n ∈ plainL t e
    · rw [show fOnce t e cd (.int n) = some (.int n) from if_pos h, List.filter_cons_of_pos (by exact decide_eq_true h)]
      rfl
    · rw [show fOnce t e cd (.int n) = none from if_neg h, List.filter_cons_of_neg (by rw [decide_eq_false h]; decide)]
section
variable {P : Program} {w : World} {K : PySem.W.Frag} {mg : Str → Option Value} {base : Heap}
def spArePairs (K : PySem.W.Frag) : Sp := fun vs H Q _ => ∃ (a : Addr) (as : List Addr) (prs : List (Int × Int)) (t e m : Int), vs = [.ref a, .int t, .int e, .int m] ∧ SqT K H a (as.map V.ref) ∧ PairsAt K H as prs ∧ prs.length ≤ 60 ∧ 0 ≤ t ∧ t < 1000 ∧ ∀ H', Same H H' → Q (.bl (bOf (PairsP t e m prs))) H'
set_option maxHeartbeats 2000000 in
theorem c__law_are_pairs (Z : Blt mg) (c__law_plain : C8.Cal P w K mg base 1 "_law_plain" spPlain []) (d : Dd K mg "_law_are_pairs" s__law_are_pairs P__law_are_pairs) : C8.Cal P w K mg base 2 "_law_are_pairs" (spArePairs K) [] := by
  refine d.cal sc__law_are_pairs (fun vs H Q E h => ?_) (fun f cdv A outer s H vs Q E hr h => ?_)
  · obtain ⟨a, as, prs, t, e, m, rfl, _⟩ := h
    rfl
  · obtain ⟨a, as, prs, t, e, m, rfl, hc, ht, lp, t0, t1, q⟩ := h
    have nd := sc__law_are_pairs.nd
    have hlen := ht.len
    have no : ∀ H', Same H H' → ¬ PairsP t e m prs → Q (.bl false) H' := fun H' s' n => by
      have z := q H' s'
      rw [bOf_false n] at z
      exact z
    refine ⟨_, (pss_cons (ps_set (i := 4) nd rfl (Or.inr rfl) (pe_lc (own := [("_law_pair", 6)]) (g := gName 6) (tt := tYes) rfl nd (pi_tup (pv 0)) (blkOk_by (N := N__law_are_pairs) (sc := C8.fnScope s__law_are_pairs) (own := [("_law_pair", 6)]) (by decide +kernel)) (fun _ _ _ _ _ => (pg_name (i := 6) nd rfl (Or.inl rfl))) (fun _ _ _ _ _ => pts_nil) (fun _ _ _ _ _ => (pe_ix (show IxR _ (rIxT K) from ix_tup) (pv 6) pe_int (fun _ _ => rfl)))))
  (pss_cons (ps_set (i := 5) nd rfl (Or.inr rfl) (pe_lc (own := [("_law_pair", 6)]) (g := gName 6) (tt := tYes) rfl nd (pi_tup (pv 0)) (blkOk_by (N := N__law_are_pairs) (sc := C8.fnScope s__law_are_pairs) (own := [("_law_pair", 6)]) (by decide +kernel)) (fun _ _ _ _ _ => (pg_name (i := 6) nd rfl (Or.inl rfl))) (fun _ _ _ _ _ => pts_nil) (fun _ _ _ _ _ => (pe_ix (show IxR _ (rIxT K) from ix_tup) (pv 6) pe_int (fun _ _ => rfl)))))
  (pss_cons (ps_if (PW.pt (pw_or (pt_cmpR (op_neD hr.units) (pv 4) (pe_lc (own := [("_law_sign", 7)]) (g := gName 7) rfl nd (pi_range1 rfl Z.range_ (pa_cons (pv 1) pa_nil)) (blkOk_by (N := N__law_are_pairs) (sc := C8.fnScope s__law_are_pairs) (own := [("_law_sign", 7)]) (by decide +kernel)) (fun _ _ _ _ _ => (pg_name (i := 7) nd rfl (Or.inl rfl))) (fun _ _ _ _ _ => pts_one (pt_cmpR (show OpR _ _ (rIn K false) from op_in_seq) (pv 7) (pv 4) (by rfl))) (fun _ _ _ _ _ => (pv 7))) (nomark _)) (pw_or (pt_cmpR op_notIn_seq (pv 2) (pv 4) (by rfl)) (pw_or1 (pt_cmpR op_notIn_seq (pv 3) (pv 4) (by rfl)))))) (pss_one (ps_ret pe_bl)) pss_nil)
  (pss_one (ps_ret (pe_cmpR (op_eqD hr.units) (pv 5) (pe_lc (own := [("_law_code", 8)]) (g := gName 8) rfl nd (pi_list (pv 5)) (blkOk_by (N := N__law_are_pairs) (sc := C8.fnScope s__law_are_pairs) (own := [("_law_code", 8)]) (by decide +kernel)) (fun _ _ _ _ _ => (pg_name (i := 8) nd rfl (Or.inl rfl))) (fun _ _ _ _ _ => pts_one (PW.pt (pw_and (pt_cmpR op_eq (show PE _ _ (tBM K _ _ _ _) from (pe_bm PySem.F.plainAttrs_list PySem.F.slot_list_count PySem.F.type_list_count (show MtR _ _ (rCntI K) from mt_lcount) (pv 5) (pa_cons (pv 8) pa_nil))) pe_int (nomark _)) (pw_and1 (pt_cmpR (show OpR _ _ (rIn K false) from op_in_seq) (pv 8) (C8.pe_c c__law_plain hr (by decide) (by rfl) (pa_cons (pv 1) (pa_cons (pv 2) pa_nil))) (by rfl)))))) (fun _ _ _ _ _ => (pv 8))) (nomark _))))))), ?_⟩
    refine i_start (σ' := [some (.ref a), some (.int t), some (.int e), some (.int m), none, none, none, none, none]) rfl ?_
    walk_at "go"
    walk_at "r"
    refine i_lcTI (fun D j acc H' => acc = ((prs.take j).map (·.1)).map V.int ∧ Same H H' ∧ H' D = some (.lst acc)) hc
      (fun D hD => ⟨rfl, same_new hD, upd_same⟩) (fun D j acc H' hD pv => stup pv.2.1 hc) (fun D j x acc H' hD hx hl pv => ?_) (fun p1 acc H1 hp1 pv => ?_)
    · obtain ⟨rfl, s1, e1⟩ := pv
      obtain ⟨b, hb, rfl⟩ := ref_get hx
      obtain ⟨pr, hpr, hbp⟩ := ht.get hb
      have hbp1 := stup s1 hbp
      have hj : j < as.length := (List.getElem?_eq_some_iff.mp hb).1
      walk_at "r"
      refine kY_of e1 hl (by omega) ⟨?_, smut s1 hD, upd_same⟩
      rw [take_succ' hpr, List.map_append, List.map_append]
      rfl
    obtain ⟨rfl, s1, e1⟩ := pv
    rw [List.length_map, hlen, List.take_length] at e1
    have hc1 := stup s1 hc
    walk_at "r"
    refine i_lcTI (fun D j acc H' => acc = ((prs.take j).map (·.2)).map V.int ∧ Same H1 H' ∧ H' D = some (.lst acc)) hc1
      (fun D hD => ⟨rfl, same_new hD, upd_same⟩) (fun D j acc H' hD pv => stup pv.2.1 hc1) (fun D j x acc H' hD hx hl pv => ?_) (fun p2 acc H2 hp2 pv => ?_)
    · obtain ⟨rfl, s2, e2⟩ := pv
      obtain ⟨b, hb, rfl⟩ := ref_get hx
      obtain ⟨pr, hpr, hbp⟩ := ht.get hb
      have hbp1 := stup (s1.trans s2) hbp
      have hj : j < as.length := (List.getElem?_eq_some_iff.mp hb).1
      walk_at "r"
      refine kY_of e2 hl (by omega) ⟨?_, smut s2 hD, upd_same⟩
      rw [take_succ' hpr, List.map_append, List.map_append]
      rfl
    obtain ⟨rfl, s2, e2⟩ := pv
    rw [List.length_map, hlen, List.take_length] at e2
    have e12 := s2 _ _ e1
    have s02 := s1.trans s2
    have lsg : (prs.map (·.1)).length ≤ 60 := by rw [List.length_map]; exact lp
    have lcd : (prs.map (·.2)).length ≤ 60 := by rw [List.length_map]; exact lp
    unfold PairsP at q no
    generalize prs.map (·.1) = sg at *
    generalize prs.map (·.2) = cd at *
    walk_at "r"
    refine i_lcR (F := fun (i : Nat) => if (i : Int) ∈ sg then some (V.int (i : Int)) else none) ⟨t0, by omega⟩ (fun i hi H3 s3 QN QY hN hY => ?_) (fun p3 H3 hp3 s3 e3 => ?_)
    · walk_at "r"
      refine i_inI (sl_of (s3 _ _ e12)) ?_
      by_cases h : (i : Int) ∈ sg
      · rw [decide_eq_true h]
        walk_at "r"
        exact hY _ (if_pos h) _ (Same.refl _)
      · rw [decide_eq_false h]
        walk_at "r"
        exact hN (if_neg h) _ (Same.refl _)
    rw [filterMap_count] at e3
    have s03 := s02.trans s3
    have e13 := s3 _ _ e12
    have e23 := s3 _ _ e2
    walk_at "r"
    refine i_neL (sl_of e13) (sl_of e3) ?_
    by_cases c1 : sg = (countL t).filter fun x => decide (x ∈ sg)
    rotate_left
    · rw [decide_eq_false c1, Bool.not_false]
      walk_at "r"
      exact no _ s03 fun z => c1 (rise_filter.mpr ⟨z.1, z.2.1⟩)
    rw [decide_eq_true c1, Bool.not_true]
    obtain ⟨k1, k2⟩ := rise_filter.mp c1
    clear c1
    walk_at "r"
    refine i_notInI (sl_of e13) ?_
    by_cases c2 : e ∈ sg
    rotate_left
    · rw [decide_eq_false c2, Bool.not_false]
      walk_at "r"
      exact no _ s03 fun z => c2 z.2.2.1
    rw [decide_eq_true c2, Bool.not_true]
    walk_at "r"
    refine i_notInI (sl_of e13) ?_
    by_cases c3 : m ∈ sg
    rotate_left
    · rw [decide_eq_false c3, Bool.not_false]
      walk_at "r"
      exact no _ s03 fun z => c3 z.2.2.2.1
    rw [decide_eq_true c3, Bool.not_true]
    walk_at "r"
    refine i_lcL (F := fOnce t e cd) (sl_of e23) (by rw [List.length_map]; omega) (fun v hv H4 s4 QN QY hN hY => ?_) (fun p4 H4 hp4 s4 e4 => ?_)
    · obtain ⟨n, hn, rfl⟩ := List.mem_map.mp hv
      have e24 := s4 _ _ e23
      walk_at "r"
      refine i_count (sl_of e24) ?_
      walk_at "r"
      by_cases h1 : cd.count n = 1
      rotate_left
      · rw [decide_eq_false (by omega)]
        walk_at "r"
        exact hN (if_neg fun z => h1 z.1) _ (Same.refl _)
      rw [decide_eq_true (by omega)]
      walk_at "r"
      refine ⟨t, e, rfl, t0, t1, fun p5 H5 hp5 s5 e5 => ?_⟩
      walk_at "r"
      refine i_inI (sl_of e5) ?_
      by_cases h2 : n ∈ plainL t e
      · rw [decide_eq_true h2]
        walk_at "r"
        exact hY _ (if_pos ⟨h1, h2⟩) _ s5
      · rw [decide_eq_false h2]
        walk_at "r"
        exact hN (if_neg fun z => h2 z.2) _ s5
    rw [fOnce_map] at e4
    walk_at "r"
    refine i_eqL (sl_of (s4 _ _ e23)) (sl_of e4) ?_
    rw [bOf_dec, bOf_congr (show (cd = cd.filter fun c => decide (cd.count c = 1 ∧ c ∈ plainL t e)) ↔ (sg.Pairwise (· < ·) ∧ (∀ s ∈ sg, 0 ≤ s ∧ s < t) ∧ e ∈ sg ∧ m ∈ sg ∧ (∀ c ∈ cd, Plain t e c) ∧ cd.Nodup) from ⟨fun h => by
      obtain ⟨a1, a2⟩ := once_filter.mp h
      exact ⟨k1, k2, c2, c3, a1, a2⟩, fun h => once_filter.mpr ⟨h.2.2.2.2.1, h.2.2.2.2.2⟩⟩)]
    exact q _ (s03.trans s4)
end
end Esc

/-! Why a way is none, by the law's own look. -/
namespace Esc
open PySem PySem.Spec PyProof.Rows L2
def Big2 : Kind → Prop
  | .codes cs => cs.length ≤ 60 ∧ ∀ c ∈ cs, c.length ≤ 1000
  | .escapes _ prs => prs.length ≤ 60
  | _ => True
theorem Big2.big : ∀ {k : Kind}, Big2 k → BigK k
  | .codes _, h => ⟨Nat.le_trans h.1 (by decide), h.2⟩
  | .escapes _ _, h => h
  | .counts _, _ => trivial
  | .ranks, _ => trivial
theorem Kind3.big2 : ∀ {k : Kind}, Kind3 k → Big2 k
  | .codes _, h => ⟨Nat.le_trans h.2 (by decide), fun c m => by have := (h.1 c m).2.2; omega⟩
  | .escapes _ _, h => Nat.le_trans h.2.2 (by decide)
  | .counts _, _ => trivial
  | .ranks, _ => trivial
theorem plain_out {t e : Int} (h : ¬ (0 ≤ e ∧ e < t)) : (plainL t e).length = t.toNat := by
  unfold plainL
  have z : ∀ l : List Nat, (∀ i ∈ l, i < t.toNat) → (l.filterMap fun (i : Nat) => if (i : Int) = e then none else some (i : Int)).length = l.length := fun l => by
    induction l with
    | nil => intro _; rfl
    | cons i l ih =>
      intro hl
      have hi := hl i List.mem_cons_self
      rw [List.filterMap_cons, if_neg (show ¬ (i : Int) = e by omega)]
      show (_ :: _).length = _
      rw [List.length_cons, List.length_cons, ih fun j m => hl j (List.mem_cons_of_mem _ m)]
  rw [z _ fun i m => List.mem_range.mp m, List.length_range]
theorem cutTo3 (a b c : V) (xs : List V) : cutV (a :: b :: c :: xs) none (some 3) = [a, b, c] := by
  rw [show (3 : Int) = ((3 : Nat) : Int) from rfl, cut_to]
  rfl
theorem lt_of_pn {t : Int} {tas : List (Addr × List Int)} {f : List Int → Bool} (hf : ∀ s, f s = true ↔ ¬ s.Perm (countL t)) : (tas.filter fun x => f x.2).map (fun x => V.ref x.1) = [] ↔ ∀ p ∈ tas.map (·.2), p.Perm (countL t) := by
  rw [List.map_eq_nil_iff, List.filter_eq_nil_iff]
  constructor
  · intro h p m
    obtain ⟨x, hx, rfl⟩ := List.mem_map.mp m
    exact Classical.byContradiction fun n => h x hx ((hf _).mpr n)
  · intro h x hx z
    exact (hf _).mp z (h _ (List.mem_map.mpr ⟨x, hx, rfl⟩))
section
variable {P : Program} {w : World} {K : PySem.W.Frag} {mg : Str → Option Value} {base : Heap}
def spWhy (K : PySem.W.Frag) : Sp := fun vs H Q _ => ∃ (v : V) (wy : Way), vs = [v] ∧ WayAt K H v wy ∧ Big2 wy.k ∧ wy.ts.length ≤ 1000 ∧ ∀ H', Same H H' → Q (faultV (faultW wy)) H'
set_option maxHeartbeats 4000000 in
theorem c__law_why (Z : Blt mg) (c__law_turns : C8.Cal P w K mg base 1 "_law_turns" (spTurnsL K) []) (c__law_core : C8.Cal P w K mg base 1 "_law_core" (spCore K) []) (c__law_plain : C8.Cal P w K mg base 1 "_law_plain" spPlain [])
    (c__law_are_codes : C8.Cal P w K mg base 1 "_law_are_codes" (spAreCodes K) []) (c__law_are_pairs : C8.Cal P w K mg base 2 "_law_are_pairs" (spArePairs K) []) (d : Dd K mg "_law_why" s__law_why P__law_why) : C8.Cal P w K mg base 3 "_law_why" (spWhy K) [] := by
  refine d.cal sc__law_why (fun vs H Q E h => ?_) (fun f cdv A outer s H vs Q E hr h => ?_)
  · obtain ⟨v, wy, rfl, _⟩ := h
    rfl
  · obtain ⟨v, ⟨ts, t, e, k⟩, rfl, ⟨tas, p, hts, hw, hk⟩, big, lts, q⟩ := h
    have nd := sc__law_why.nd
    have hts : tas.map (·.2) = ts := hts
    have hk : KindAt K H p t e k := hk
    have big : Big2 k := big
    have lts : ts.length ≤ 1000 := lts
    obtain ⟨xs, hx⟩ := hk.head
    have ltas : tas.length = ts.length := by rw [← hts, List.length_map]
    refine ⟨_, (pss_cons (ps_if (pt_cmpR op_gt (pe_callB k_len (by rfl) Z.len_ (by decide +kernel) (pa_cons (C8.pe_c c__law_turns hr (by decide) (by rfl) (pa_cons (pv 0) pa_nil)) pa_nil)) pe_int (nomark _)) (pss_one (ps_ret pe_str)) pss_nil)
  (pss_cons (ps_set (i := 1) nd rfl (Or.inl rfl) (C8.pe_c c__law_core hr (by decide) (by rfl) (pa_cons (pv 0) pa_nil)))
  (pss_cons (ps_asg (pe_slice sl_tupA (pv 1) po_none (po_some pe_int)) (pg_tup rfl (pgs_cons (pg_name (i := 2) nd rfl (Or.inl rfl)) (pgs_cons (pg_name (i := 3) nd rfl (Or.inr rfl)) (pgs_cons (pg_name (i := 4) nd rfl (Or.inl rfl)) pgs_nil)))))
  (pss_cons (ps_if (pt_cmpR op_notIn_seq (pv 3) (pe_listRg rfl rfl Z.list_ (prg_2 rfl Z.range_ pe_int pe_int)) (by rfl)) (pss_one (ps_ret pe_str)) pss_nil)
  (pss_cons (ps_set (i := 5) nd rfl (Or.inl rfl) (C8.pe_c c__law_plain hr (by decide) (by rfl) (pa_cons (pv 3) (pa_cons (pv 4) pa_nil))))
  (pss_cons (ps_if (pt_cmpR op_eq (pe_callB k_len (by rfl) Z.len_ (by decide +kernel) (pa_cons (pv 5) pa_nil)) (pv 3) (nomark _)) (pss_one (ps_ret pe_str)) pss_nil)
  (pss_cons (ps_if (PW.pt (pw_and (pt_cmpR op_eq (pv 2) pe_str (nomark _)) (pw_and1 (PW.pt (pw_or (pt_cmpR op_ne (pe_callB k_len (by rfl) Z.len_ (by decide +kernel) (pa_cons (pe_ix ix_tup (pv 1) pe_int (fun _ _ => rfl)) pa_nil)) (pv 3) (nomark _)) (pw_or1 (pt_not (pt_val (C8.pe_c c__law_are_codes hr (by decide) (by rfl) (pa_cons (pe_ix ix_tup (pv 1) pe_int (fun _ _ => rfl)) (pa_cons (pv 5) pa_nil))))))))))) (pss_one (ps_ret pe_str)) pss_nil)
  (pss_cons (ps_if (PW.pt (pw_and (pt_cmpR op_eq (pv 2) pe_str (nomark _)) (pw_and1 (pt_cmpR op_notIn_seq (pe_ix ix_tup (pv 1) pe_int (fun _ _ => rfl)) (pv 5) (by rfl))))) (pss_one (ps_ret pe_str)) pss_nil)
  (pss_cons (ps_if (PW.pt (pw_and (pt_cmpR op_eq (pv 2) pe_str (nomark _)) (pw_and1 (pt_not (pt_val (C8.pe_c c__law_are_pairs hr (by decide) (by rfl) (pa_cons (pe_ix ix_tup (pv 1) pe_int (fun _ _ => rfl)) (pa_cons (pv 3) (pa_cons (pv 4) (pa_cons (pe_ix ix_tup (pv 1) pe_int (fun _ _ => rfl)) pa_nil)))))))))) (pss_one (ps_ret pe_str)) pss_nil)
  (pss_cons (ps_if (PW.pt (pw_and (pt_cmpR op_eq (pv 2) pe_str (nomark _)) (pw_and1 (pt_cmpR op_notIn_seq (pe_ix ix_tup (pv 1) pe_int (fun _ _ => rfl)) (pe_listRg rfl rfl Z.list_ (prg_2 rfl Z.range_ pe_int (pv 3))) (by rfl))))) (pss_one (ps_ret pe_str)) pss_nil)
  (pss_cons (ps_setLc (i := 6) (own := [("_law_signs", 7)]) (g := gName 7) rfl nd rfl rfl (sw_true rfl rfl rfl (by decide +kernel)) (pi_list (C8.pe_c c__law_turns hr (by decide) (by rfl) (pa_cons (pv 0) pa_nil))) (blkOk_by (N := N__law_why) (sc := C8.fnScope s__law_why) (own := [("_law_signs", 7)]) (by decide +kernel)) (fun _ _ _ _ _ => (pg_name (i := 7) nd rfl (Or.inl rfl))) (fun _ _ _ _ _ => pts_one (pt_cmpR (show OpR _ _ (rNeD K) from (op_neD hr.units)) (pe_callB (show CallR _ _ (rSortedIT K) from cr_sortedIT) (by rfl) Z.sorted_ (by decide +kernel) (pa_cons (pv 7) pa_nil)) (pe_listRg rfl rfl Z.list_ (prg_1 rfl Z.range_ (pv 3))) (nomark _))) (fun _ _ _ _ _ => (pv 7)))
  (pss_one (ps_ret (pe_ifExp (pt_cmpR (op_neD hr.units) (pv 6) (pe_lst pa_nil) (nomark _)) pe_str pe_non)))))))))))))), ?_⟩
    refine i_start (σ' := [some v, none, none, none, none, none, none, none]) rfl ?_
    walk_at "go"
    walk_at "r"
    refine ⟨v, tas, p, k.name, _, rfl, hw, hx, k.name_ne, by omega, fun l1 H1 _ s1 e1 => ?_⟩
    have hx1 := stup s1 hx
    walk_at "r"
    by_cases c1 : 3 < ts.length
    · refine i_yes (by rw [List.length_map]; omega) ?_
      walk_at "r"
      have ef : faultW ⟨ts, t, e, k⟩ = some "deep" := by
        unfold faultW
        exact if_pos c1
      rw [ef] at q
      exact q _ s1
    refine i_no (by rw [List.length_map]; omega) ?_
    walk_at "r"
    refine ⟨v, tas, p, k.name, _, rfl, hw.same s1, hx1, k.name_ne, ?_⟩
    walk_at "r"
    refine i_slA hx1 (fun q2 H2 s2 e2 => ?_)
    rw [cutTo3] at e2
    have s12 := s1.trans s2
    walk_at "r"
    refine i_lstRg2 ⟨by decide, by decide, by decide, by decide⟩ (fun q3 H3 _ s3 e3 => ?_)
    have s13 := s12.trans s3
    walk_at "r"
    refine i_notInI (sl_of e3) ?_
    by_cases c2 : 3 ≤ t ∧ t ≤ 16
    rotate_left
    · rw [decide_eq_false (fun m => c2 (by have := from_mem.mp m; omega)), Bool.not_false]
      walk_at "r"
      have ef : faultW ⟨ts, t, e, k⟩ = some "top" := by
        unfold faultW
        rw [if_neg c1]
        exact if_pos c2
      rw [ef] at q
      exact q _ s13
    rw [decide_eq_true (show t ∈ fromL 3 17 from from_mem.mpr (by omega)), Bool.not_true]
    walk_at "r"
    refine ⟨t, e, rfl, by omega, by omega, fun p4 H4 _ s4 e4 => ?_⟩
    have s14 := s13.trans s4
    walk_at "r"
    by_cases c3 : 0 ≤ e ∧ e < t
    rotate_left
    · refine i_yes (by rw [plain_out c3]; omega) ?_
      walk_at "r"
      have ef : faultW ⟨ts, t, e, k⟩ = some "end" := by
        unfold faultW
        rw [if_neg c1, if_neg (fun z => z c2)]
        exact if_pos c3
      rw [ef] at q
      exact q _ s14
    refine i_no (by have := plain_len c3.1 c3.2; omega) ?_
    have ef : faultW ⟨ts, t, e, k⟩ = match kindF t e k with | some z => some z | none => if ∀ p ∈ ts, p.Perm (countL t) then none else some "signs" := by
      unfold faultW
      rw [if_neg c1, if_neg (fun z => z c2), if_neg (fun z => z c3)]
      try rfl
    rw [ef] at q
    clear ef
    have hk4 := hk.same s14
    have hx4 := stup s14 hx
    cases k with
    | codes cs =>
      obtain ⟨c, as, hp, hc, ht⟩ := hk4
      have hp : SqT K H4 p [.str "codes", .int t, .int e, .ref c] := hp
      have hcs := hc.st (K := K)
      have hlen := ht.len
      have no : ¬ KindOk t e (.codes cs) → ∀ H', Same H H' → Q (.str "codes") H' := fun z => by
        rw [show kindF t e (.codes cs) = some "codes" by
          unfold kindF
          exact if_neg z] at q
        exact q
      walk_at "r"
      refine i_yes rfl ?_
      walk_at "r"
      by_cases c4 : cs.length = t.toNat
      rotate_left
      · rw [decide_eq_false (show ¬ (((as.map V.ref).length : Nat) : Int) = t by rw [List.length_map]; omega), Bool.not_false]
        walk_at "r"
        exact no (fun z => c4 z.1) _ s14
      rw [decide_eq_true (show (((as.map V.ref).length : Nat) : Int) = t by rw [List.length_map]; omega), Bool.not_true]
      walk_at "r"
      refine ⟨c, p4, as, cs, t, e, rfl, hcs, ht, big.1, big.2, sl_of e4, fun H5 s5 => ?_⟩
      have s15 := s14.trans s5
      have hp5 := stup s5 hp
      by_cases c6 : CodesOk t e cs
      rotate_left
      · rw [bOf_false c6]
        walk_at "r"
        exact no (fun z => c6 z.2) _ s15
      rw [bOf_true c6]
      walk_at "r"
      refine i_no (show ¬ ("codes" : Str) = "escapes" by decide +kernel) ?_
      walk_at "r"
      refine i_no (show ¬ ("codes" : Str) = "escapes" by decide +kernel) ?_
      walk_at "r"
      refine i_no (show ¬ ("codes" : Str) = "counts" by decide +kernel) ?_
      walk_at "r"
      walk_at "r"
      refine ⟨v, tas, p, _, _, rfl, hw.same s15, stup s15 hx, Kind.name_ne _, by omega, fun lB HB _ sB eB => ?_⟩
      have s0B := s15.trans sB
      walk_at "r"
      refine i_lcLI (fun D j acc H' => acc = ((tas.take j).filter fun x => !bOf (x.2.Perm (countL t))).map (fun x => V.ref x.1) ∧ Same HB H' ∧ H' D = some (.lst acc)) (sl_of eB)
        (fun D hD => ⟨rfl, same_new hD, upd_same⟩) (fun D j acc H' hD pv => sl_of (pv.2.1 _ _ eB)) (fun D j x acc H' hD hy hl2 pv => ?_) (fun pC acc HC _ pv => ?_)
      · obtain ⟨rfl, sC, eC⟩ := pv
        obtain ⟨y, hy2, rfl⟩ := map_getF hy
        have jl := (List.getElem?_eq_some_iff.mp hy2).1
        walk_at "r"
        refine i_sortedIT (stup (s0B.trans sC) (hw.mem y (List.mem_of_getElem? hy2))) (fun ms pD HD hms hpw _ sD eD => ?_)
        walk_at "r"
        refine i_lstRg ⟨by omega, by omega⟩ (fun pE HE _ sE eE => ?_)
        rw [rg_count] at eE
        have sCE := sC.trans (sD.trans sE)
        walk_at "r"
        refine i_neL (sl_of (sE _ _ eD)) (sl_of eE) ?_
        have ec : decide (ms = countL t) = bOf (y.2.Perm (countL t)) := bOf_eq ⟨fun z => by
          rw [← of_decide_eq_true z]
          exact hms.symm, fun z => decide_eq_true (perm_count z hms hpw)⟩
        rw [ec]
        have tk : (tas.take (j + 1)).filter (fun x => !bOf (x.2.Perm (countL t))) = (tas.take j).filter (fun x => !bOf (x.2.Perm (countL t))) ++ [y].filter (fun x => !bOf (x.2.Perm (countL t))) := by
          rw [take_succ' hy2, List.filter_append]
        by_cases cp : y.2.Perm (countL t)
        · rw [List.filter_cons_of_neg (by rw [bOf_true cp]; decide), List.filter_nil, List.append_nil] at tk
          rw [bOf_true cp, Bool.not_true]
          walk_at "r"
          exact kN_of hl2 ⟨by rw [tk], sCE, (sD.trans sE) _ _ eC⟩
        · rw [List.filter_cons_of_pos (by rw [bOf_false cp]; decide), List.filter_nil] at tk
          rw [bOf_false cp, Bool.not_false]
          walk_at "r"
          exact kY_of ((sD.trans sE) _ _ eC) hl2 (by omega) ⟨by rw [tk, List.map_append]; rfl, smut sCE hD, upd_same⟩
      · obtain ⟨rfl, sC, eC⟩ := pv
        rw [List.length_map, List.take_length] at eC
        walk_at "r"
        refine i_lst (Nat.zero_le _) (fun pF HF _ sF eF => ?_)
        have s0F := s0B.trans (sC.trans sF)
        walk_at "r"
        refine i_neNil (sl_of (sF _ _ eC)) (fun u hu => by
          obtain ⟨x, hx2, rfl⟩ := List.mem_map.mp hu
          exact fl_tup (stup s0F (hw.mem x (List.mem_filter.mp hx2).1))) (sl_of eF) ?_
        have ep := lt_of_pn (t := t) (tas := tas) (f := fun s => !bOf (s.Perm (countL t))) (fun s => by
          by_cases z : s.Perm (countL t)
          · rw [bOf_true z]
            exact ⟨fun y => (by cases y), fun y => absurd z y⟩
          · rw [bOf_false z]
            exact ⟨fun _ => z, fun _ => rfl⟩)
        rw [hts] at ep
        rw [show kindF t e (.codes cs) = none from kindF_ok (k := .codes cs) ⟨c4, c6⟩] at q
        by_cases c5 : ∀ p ∈ ts, p.Perm (countL t)
        · rw [decide_eq_true (ep.mpr c5), Bool.not_true]
          walk_at "r"
          have q : ∀ H', Same H H' → Q (faultV (if ∀ p ∈ ts, p.Perm (countL t) then none else some "signs")) H' := q
          rw [if_pos c5] at q
          exact q _ s0F
        · rw [decide_eq_false (fun z => c5 (ep.mp z)), Bool.not_false]
          walk_at "r"
          have q : ∀ H', Same H H' → Q (faultV (if ∀ p ∈ ts, p.Perm (countL t) then none else some "signs")) H' := q
          rw [if_neg c5] at q
          exact q _ s0F
    | escapes m prs =>
      obtain ⟨c, as, hp, hc, ht⟩ := hk4
      have hp : SqT K H4 p [.str "escapes", .int t, .int e, .int m, .ref c] := hp
      have hlen := ht.len
      walk_at "r"
      refine i_no (show ¬ ("escapes" : Str) = "codes" by decide +kernel) ?_
      walk_at "r"
      refine i_yes rfl ?_
      walk_at "r"
      refine i_notInI (sl_of e4) ?_
      by_cases c4 : Plain t e m
      rotate_left
      · rw [decide_eq_false (fun z => c4 (plain_mem.mp z)), Bool.not_false]
        walk_at "r"
        rw [show kindF t e (.escapes m prs) = some "mark" by
          unfold kindF
          rw [if_neg (fun z => c4 z.1)]
          exact if_neg c4] at q
        exact q _ s14
      rw [decide_eq_true (plain_mem.mpr c4), Bool.not_true]
      walk_at "r"
      refine i_yes rfl ?_
      walk_at "r"
      refine ⟨c, as, prs, t, e, m, rfl, hc, ht, big, by omega, by omega, fun H5 s5 => ?_⟩
      have s15 := s14.trans s5
      have hp5 := stup s5 hp
      by_cases c6 : PairsP t e m prs
      rotate_left
      · rw [bOf_false c6]
        walk_at "r"
        rw [show kindF t e (.escapes m prs) = some "pairs" by
          unfold kindF
          rw [if_neg (fun z => c6 z.2)]
          exact if_pos c4] at q
        exact q _ s15
      rw [bOf_true c6]
      walk_at "r"
      refine i_no (show ¬ ("escapes" : Str) = "counts" by decide +kernel) ?_
      walk_at "r"
      walk_at "r"
      refine ⟨v, tas, p, _, _, rfl, hw.same s15, stup s15 hx, Kind.name_ne _, by omega, fun lB HB _ sB eB => ?_⟩
      have s0B := s15.trans sB
      walk_at "r"
      refine i_lcLI (fun D j acc H' => acc = ((tas.take j).filter fun x => !bOf (x.2.Perm (countL t))).map (fun x => V.ref x.1) ∧ Same HB H' ∧ H' D = some (.lst acc)) (sl_of eB)
        (fun D hD => ⟨rfl, same_new hD, upd_same⟩) (fun D j acc H' hD pv => sl_of (pv.2.1 _ _ eB)) (fun D j x acc H' hD hy hl2 pv => ?_) (fun pC acc HC _ pv => ?_)
      · obtain ⟨rfl, sC, eC⟩ := pv
        obtain ⟨y, hy2, rfl⟩ := map_getF hy
        have jl := (List.getElem?_eq_some_iff.mp hy2).1
        walk_at "r"
        refine i_sortedIT (stup (s0B.trans sC) (hw.mem y (List.mem_of_getElem? hy2))) (fun ms pD HD hms hpw _ sD eD => ?_)
        walk_at "r"
        refine i_lstRg ⟨by omega, by omega⟩ (fun pE HE _ sE eE => ?_)
        rw [rg_count] at eE
        have sCE := sC.trans (sD.trans sE)
        walk_at "r"
        refine i_neL (sl_of (sE _ _ eD)) (sl_of eE) ?_
        have ec : decide (ms = countL t) = bOf (y.2.Perm (countL t)) := bOf_eq ⟨fun z => by
          rw [← of_decide_eq_true z]
          exact hms.symm, fun z => decide_eq_true (perm_count z hms hpw)⟩
        rw [ec]
        have tk : (tas.take (j + 1)).filter (fun x => !bOf (x.2.Perm (countL t))) = (tas.take j).filter (fun x => !bOf (x.2.Perm (countL t))) ++ [y].filter (fun x => !bOf (x.2.Perm (countL t))) := by
          rw [take_succ' hy2, List.filter_append]
        by_cases cp : y.2.Perm (countL t)
        · rw [List.filter_cons_of_neg (by rw [bOf_true cp]; decide), List.filter_nil, List.append_nil] at tk
          rw [bOf_true cp, Bool.not_true]
          walk_at "r"
          exact kN_of hl2 ⟨by rw [tk], sCE, (sD.trans sE) _ _ eC⟩
        · rw [List.filter_cons_of_pos (by rw [bOf_false cp]; decide), List.filter_nil] at tk
          rw [bOf_false cp, Bool.not_false]
          walk_at "r"
          exact kY_of ((sD.trans sE) _ _ eC) hl2 (by omega) ⟨by rw [tk, List.map_append]; rfl, smut sCE hD, upd_same⟩
      · obtain ⟨rfl, sC, eC⟩ := pv
        rw [List.length_map, List.take_length] at eC
        walk_at "r"
        refine i_lst (Nat.zero_le _) (fun pF HF _ sF eF => ?_)
        have s0F := s0B.trans (sC.trans sF)
        walk_at "r"
        refine i_neNil (sl_of (sF _ _ eC)) (fun u hu => by
          obtain ⟨x, hx2, rfl⟩ := List.mem_map.mp hu
          exact fl_tup (stup s0F (hw.mem x (List.mem_filter.mp hx2).1))) (sl_of eF) ?_
        have ep := lt_of_pn (t := t) (tas := tas) (f := fun s => !bOf (s.Perm (countL t))) (fun s => by
          by_cases z : s.Perm (countL t)
          · rw [bOf_true z]
            exact ⟨fun y => (by cases y), fun y => absurd z y⟩
          · rw [bOf_false z]
            exact ⟨fun _ => z, fun _ => rfl⟩)
        rw [hts] at ep
        rw [show kindF t e (.escapes m prs) = none from kindF_ok (k := .escapes m prs) ⟨c4, c6⟩] at q
        by_cases c5 : ∀ p ∈ ts, p.Perm (countL t)
        · rw [decide_eq_true (ep.mpr c5), Bool.not_true]
          walk_at "r"
          have q : ∀ H', Same H H' → Q (faultV (if ∀ p ∈ ts, p.Perm (countL t) then none else some "signs")) H' := q
          rw [if_pos c5] at q
          exact q _ s0F
        · rw [decide_eq_false (fun z => c5 (ep.mp z)), Bool.not_false]
          walk_at "r"
          have q : ∀ H', Same H H' → Q (faultV (if ∀ p ∈ ts, p.Perm (countL t) then none else some "signs")) H' := q
          rw [if_neg c5] at q
          exact q _ s0F
    | counts l =>
      have hp : SqT K H4 p [.str "counts", .int t, .int e, .int l] := hk4
      walk_at "r"
      refine i_no (show ¬ ("counts" : Str) = "codes" by decide +kernel) ?_
      walk_at "r"
      refine i_no (show ¬ ("counts" : Str) = "escapes" by decide +kernel) ?_
      walk_at "r"
      refine i_no (show ¬ ("counts" : Str) = "escapes" by decide +kernel) ?_
      walk_at "r"
      refine i_yes rfl ?_
      walk_at "r"
      refine i_lstRg2 ⟨by decide, by decide, by omega, by omega⟩ (fun p5 H5 _ s5 e5 => ?_)
      have s15 := s14.trans s5
      have hp5 := stup s5 hp
      walk_at "r"
      refine i_notInI (sl_of e5) ?_
      by_cases c4 : 2 ≤ l ∧ l < t
      rotate_left
      · rw [decide_eq_false (fun z => c4 (from_mem.mp z)), Bool.not_false]
        walk_at "r"
        rw [show kindF t e (.counts l) = some "limit" by
          unfold kindF
          exact if_neg c4] at q
        exact q _ s15
      rw [decide_eq_true (from_mem.mpr c4), Bool.not_true]
      walk_at "r"
      refine ⟨v, tas, p, _, _, rfl, hw.same s15, stup s15 hx, Kind.name_ne _, by omega, fun lB HB _ sB eB => ?_⟩
      have s0B := s15.trans sB
      walk_at "r"
      refine i_lcLI (fun D j acc H' => acc = ((tas.take j).filter fun x => !bOf (x.2.Perm (countL t))).map (fun x => V.ref x.1) ∧ Same HB H' ∧ H' D = some (.lst acc)) (sl_of eB)
        (fun D hD => ⟨rfl, same_new hD, upd_same⟩) (fun D j acc H' hD pv => sl_of (pv.2.1 _ _ eB)) (fun D j x acc H' hD hy hl2 pv => ?_) (fun pC acc HC _ pv => ?_)
      · obtain ⟨rfl, sC, eC⟩ := pv
        obtain ⟨y, hy2, rfl⟩ := map_getF hy
        have jl := (List.getElem?_eq_some_iff.mp hy2).1
        walk_at "r"
        refine i_sortedIT (stup (s0B.trans sC) (hw.mem y (List.mem_of_getElem? hy2))) (fun ms pD HD hms hpw _ sD eD => ?_)
        walk_at "r"
        refine i_lstRg ⟨by omega, by omega⟩ (fun pE HE _ sE eE => ?_)
        rw [rg_count] at eE
        have sCE := sC.trans (sD.trans sE)
        walk_at "r"
        refine i_neL (sl_of (sE _ _ eD)) (sl_of eE) ?_
        have ec : decide (ms = countL t) = bOf (y.2.Perm (countL t)) := bOf_eq ⟨fun z => by
          rw [← of_decide_eq_true z]
          exact hms.symm, fun z => decide_eq_true (perm_count z hms hpw)⟩
        rw [ec]
        have tk : (tas.take (j + 1)).filter (fun x => !bOf (x.2.Perm (countL t))) = (tas.take j).filter (fun x => !bOf (x.2.Perm (countL t))) ++ [y].filter (fun x => !bOf (x.2.Perm (countL t))) := by
          rw [take_succ' hy2, List.filter_append]
        by_cases cp : y.2.Perm (countL t)
        · rw [List.filter_cons_of_neg (by rw [bOf_true cp]; decide), List.filter_nil, List.append_nil] at tk
          rw [bOf_true cp, Bool.not_true]
          walk_at "r"
          exact kN_of hl2 ⟨by rw [tk], sCE, (sD.trans sE) _ _ eC⟩
        · rw [List.filter_cons_of_pos (by rw [bOf_false cp]; decide), List.filter_nil] at tk
          rw [bOf_false cp, Bool.not_false]
          walk_at "r"
          exact kY_of ((sD.trans sE) _ _ eC) hl2 (by omega) ⟨by rw [tk, List.map_append]; rfl, smut sCE hD, upd_same⟩
      · obtain ⟨rfl, sC, eC⟩ := pv
        rw [List.length_map, List.take_length] at eC
        walk_at "r"
        refine i_lst (Nat.zero_le _) (fun pF HF _ sF eF => ?_)
        have s0F := s0B.trans (sC.trans sF)
        walk_at "r"
        refine i_neNil (sl_of (sF _ _ eC)) (fun u hu => by
          obtain ⟨x, hx2, rfl⟩ := List.mem_map.mp hu
          exact fl_tup (stup s0F (hw.mem x (List.mem_filter.mp hx2).1))) (sl_of eF) ?_
        have ep := lt_of_pn (t := t) (tas := tas) (f := fun s => !bOf (s.Perm (countL t))) (fun s => by
          by_cases z : s.Perm (countL t)
          · rw [bOf_true z]
            exact ⟨fun y => (by cases y), fun y => absurd z y⟩
          · rw [bOf_false z]
            exact ⟨fun _ => z, fun _ => rfl⟩)
        rw [hts] at ep
        rw [show kindF t e (.counts l) = none from kindF_ok (k := .counts l) c4] at q
        by_cases c5 : ∀ p ∈ ts, p.Perm (countL t)
        · rw [decide_eq_true (ep.mpr c5), Bool.not_true]
          walk_at "r"
          have q : ∀ H', Same H H' → Q (faultV (if ∀ p ∈ ts, p.Perm (countL t) then none else some "signs")) H' := q
          rw [if_pos c5] at q
          exact q _ s0F
        · rw [decide_eq_false (fun z => c5 (ep.mp z)), Bool.not_false]
          walk_at "r"
          have q : ∀ H', Same H H' → Q (faultV (if ∀ p ∈ ts, p.Perm (countL t) then none else some "signs")) H' := q
          rw [if_neg c5] at q
          exact q _ s0F
    | ranks =>
      have hp : SqT K H4 p [.str "ranks", .int t, .int e] := hk4
      walk_at "r"
      refine i_no (show ¬ ("ranks" : Str) = "codes" by decide +kernel) ?_
      walk_at "r"
      refine i_no (show ¬ ("ranks" : Str) = "escapes" by decide +kernel) ?_
      walk_at "r"
      refine i_no (show ¬ ("ranks" : Str) = "escapes" by decide +kernel) ?_
      walk_at "r"
      refine i_no (show ¬ ("ranks" : Str) = "counts" by decide +kernel) ?_
      walk_at "r"
      refine ⟨v, tas, p, _, _, rfl, hw.same s14, stup s14 hx, Kind.name_ne _, by omega, fun lB HB _ sB eB => ?_⟩
      have s0B := s14.trans sB
      walk_at "r"
      refine i_lcLI (fun D j acc H' => acc = ((tas.take j).filter fun x => !bOf (x.2.Perm (countL t))).map (fun x => V.ref x.1) ∧ Same HB H' ∧ H' D = some (.lst acc)) (sl_of eB)
        (fun D hD => ⟨rfl, same_new hD, upd_same⟩) (fun D j acc H' hD pv => sl_of (pv.2.1 _ _ eB)) (fun D j x acc H' hD hy hl2 pv => ?_) (fun pC acc HC _ pv => ?_)
      · obtain ⟨rfl, sC, eC⟩ := pv
        obtain ⟨y, hy2, rfl⟩ := map_getF hy
        have jl := (List.getElem?_eq_some_iff.mp hy2).1
        walk_at "r"
        refine i_sortedIT (stup (s0B.trans sC) (hw.mem y (List.mem_of_getElem? hy2))) (fun ms pD HD hms hpw _ sD eD => ?_)
        walk_at "r"
        refine i_lstRg ⟨by omega, by omega⟩ (fun pE HE _ sE eE => ?_)
        rw [rg_count] at eE
        have sCE := sC.trans (sD.trans sE)
        walk_at "r"
        refine i_neL (sl_of (sE _ _ eD)) (sl_of eE) ?_
        have ec : decide (ms = countL t) = bOf (y.2.Perm (countL t)) := bOf_eq ⟨fun z => by
          rw [← of_decide_eq_true z]
          exact hms.symm, fun z => decide_eq_true (perm_count z hms hpw)⟩
        rw [ec]
        have tk : (tas.take (j + 1)).filter (fun x => !bOf (x.2.Perm (countL t))) = (tas.take j).filter (fun x => !bOf (x.2.Perm (countL t))) ++ [y].filter (fun x => !bOf (x.2.Perm (countL t))) := by
          rw [take_succ' hy2, List.filter_append]
        by_cases cp : y.2.Perm (countL t)
        · rw [List.filter_cons_of_neg (by rw [bOf_true cp]; decide), List.filter_nil, List.append_nil] at tk
          rw [bOf_true cp, Bool.not_true]
          walk_at "r"
          exact kN_of hl2 ⟨by rw [tk], sCE, (sD.trans sE) _ _ eC⟩
        · rw [List.filter_cons_of_pos (by rw [bOf_false cp]; decide), List.filter_nil] at tk
          rw [bOf_false cp, Bool.not_false]
          walk_at "r"
          exact kY_of ((sD.trans sE) _ _ eC) hl2 (by omega) ⟨by rw [tk, List.map_append]; rfl, smut sCE hD, upd_same⟩
      · obtain ⟨rfl, sC, eC⟩ := pv
        rw [List.length_map, List.take_length] at eC
        walk_at "r"
        refine i_lst (Nat.zero_le _) (fun pF HF _ sF eF => ?_)
        have s0F := s0B.trans (sC.trans sF)
        walk_at "r"
        refine i_neNil (sl_of (sF _ _ eC)) (fun u hu => by
          obtain ⟨x, hx2, rfl⟩ := List.mem_map.mp hu
          exact fl_tup (stup s0F (hw.mem x (List.mem_filter.mp hx2).1))) (sl_of eF) ?_
        have ep := lt_of_pn (t := t) (tas := tas) (f := fun s => !bOf (s.Perm (countL t))) (fun s => by
          by_cases z : s.Perm (countL t)
          · rw [bOf_true z]
            exact ⟨fun y => (by cases y), fun y => absurd z y⟩
          · rw [bOf_false z]
            exact ⟨fun _ => z, fun _ => rfl⟩)
        rw [hts] at ep
        rw [show kindF t e .ranks = none from kindF_ok (k := .ranks) trivial] at q
        by_cases c5 : ∀ p ∈ ts, p.Perm (countL t)
        · rw [decide_eq_true (ep.mpr c5), Bool.not_true]
          walk_at "r"
          have q : ∀ H', Same H H' → Q (faultV (if ∀ p ∈ ts, p.Perm (countL t) then none else some "signs")) H' := q
          rw [if_pos c5] at q
          exact q _ s0F
        · rw [decide_eq_false (fun z => c5 (ep.mp z)), Bool.not_false]
          walk_at "r"
          have q : ∀ H', Same H H' → Q (faultV (if ∀ p ∈ ts, p.Perm (countL t) then none else some "signs")) H' := q
          rw [if_neg c5] at q
          exact q _ s0F
end
end Esc

/-! The text of a way, by the law's own writing. -/
namespace Esc
open PySem PySem.Spec PyProof.Rows L2
theorem wayS_turned (s : List Int) (ts : List (List Int)) (t e : Int) (k : Kind) : (((("turned " : Str) ++ dotS s) ++ (" " : Str)) ++ wayS ⟨ts, t, e, k⟩) = wayS ⟨s :: ts, t, e, k⟩ := by
  refine TL.ext_tl ?_
  obtain ⟨x, xs, hx⟩ : ∃ x xs, wayWords ⟨ts, t, e, k⟩ = x :: xs := by
    cases h : wayWords ⟨ts, t, e, k⟩ with
    | nil => exact absurd (List.append_eq_nil_iff.mp h).2 (kindWords_ne t e k)
    | cons x xs => exact ⟨x, xs, rfl⟩
  have e1 : wayWords ⟨s :: ts, t, e, k⟩ = ("turned" : Str) :: dotS s :: x :: xs := by
    rw [← hx]
    rfl
  unfold wayS
  rw [e1, hx, TL.tl_append, TL.tl_append, TL.tl_append, TL.join_eq, TL.join_eq, TL.tl_join, TL.tl_join, List.map_cons, List.map_cons, List.map_cons]
  show _ = TL.tl ("turned" : Str) ++ (TL.tl (" " : Str) ++ (TL.tl (dotS s) ++ (TL.tl (" " : Str) ++ TL.joinL (TL.tl (" " : Str)) (TL.tl x :: xs.map TL.tl))))
  rw [show TL.tl ("turned " : Str) = TL.tl ("turned" : Str) ++ TL.tl (" " : Str) by decide +kernel]
  simp only [List.append_assoc]
theorem Way3.inner {s : List Int} {ts : List (List Int)} {t e : Int} {k : Kind} (h : Way3 ⟨s :: ts, t, e, k⟩) : Way3 ⟨ts, t, e, k⟩ :=
  ⟨fun x m => h.ts x (List.mem_cons_of_mem _ m), by have := h.few; show ts.length ≤ 10; have : (s :: ts).length ≤ 10 := this; rw [List.length_cons] at this; omega, h.t, h.e, h.k⟩
section
variable {P : Program} {w : World} {K : PySem.W.Frag} {mg : Str → Option Value} {base : Heap}
def spLText (K : PySem.W.Frag) (n : Nat) : Sp := fun vs H Q _ => ∃ (v : V) (wy : Way), vs = [v] ∧ WayAt K H v wy ∧ Way3 wy ∧ wy.ts.length ≤ n ∧ ∀ H', Same H H' → Q (.str (wayS wy)) H'
set_option maxHeartbeats 4000000 in
theorem c_law_textN (Z2 : Blt2 mg) (c__law_dots : C8.Cal P w K mg base 1 "_law_dots" (spDots K) []) (d : Dd K mg "_law_text" s__law_text P__law_text) : ∀ n : Nat, C8.Cal P w K mg base (n + 2) "_law_text" (spLText K n) [] := by
  have h1n : ∀ n : Nat, 1 ≤ n + 1 := fun n => by omega
  have step : ∀ n : Nat, (C8.Cal P w K mg base (n + 1) "_law_text" (fun vs H Q E => match n with | 0 => False | m + 1 => spLText K m vs H Q E) []) → C8.Cal P w K mg base (n + 2) "_law_text" (spLText K n) [] := fun n c__law_text => by
    refine d.cal sc__law_text (fun vs H Q E h => ?_) (fun f cdv A outer s H vs Q E hr h => ?_)
    · obtain ⟨v, wy, rfl, _⟩ := h
      rfl
    · obtain ⟨v, ⟨ts, t, e, k⟩, rfl, ⟨tas, p, hts, hw, hk⟩, w3, hn, q⟩ := h
      have nd := sc__law_text.nd
      have hn : ts.length ≤ n := hn
      have hk : KindAt K H p t e k := hk
      have hts : tas.map (·.2) = ts := hts
      refine ⟨_, (pss_cons (ps_if (pt_cmpR op_eq (pe_ix ix_tup (pv 0) pe_int (fun _ _ => rfl)) pe_str (nomark _)) (pss_one (ps_ret (pe_op k_addS (pe_op k_addS (pe_op k_addS pe_str (C8.pe_c c__law_dots hr (h1n _) (by rfl) (pa_cons (pe_ix ix_tup (pv 0) pe_int (fun _ _ => rfl)) pa_nil))) pe_str) (C8.pe_c c__law_text hr (Nat.le_refl _) (by rfl) (pa_cons (pe_ix ix_tup (pv 0) pe_int (fun _ _ => rfl)) pa_nil))))) pss_nil)
  (pss_cons (ps_set (i := 1) nd rfl (Or.inl rfl) (pe_lst (pa_cons (pe_ix ix_tup (pv 0) pe_int (fun _ _ => rfl)) (pa_cons (pe_callTy k_strI (by rfl) Z2.str_ (by decide +kernel) (pa_cons (pe_ix ix_tup (pv 0) pe_int (fun _ _ => rfl)) pa_nil)) (pa_cons (pe_callTy k_strI (by rfl) Z2.str_ (by decide +kernel) (pa_cons (pe_ix ix_tup (pv 0) pe_int (fun _ _ => rfl)) pa_nil)) pa_nil)))))
  (C8.pss_cut (ps_if (pt_cmpR op_eq (pe_ix ix_tup (pv 0) pe_int (fun _ _ => rfl)) pe_str (nomark _)) (pss_one (ps_set (i := 1) nd rfl (Or.inl rfl) (pe_op op_cat (pv 1) (pe_lc (own := [("_law_code", 2)]) (g := gName 2) (tt := tYes) rfl nd (pi_tup (pe_ix ix_tup (pv 0) pe_int (fun _ _ => rfl))) (blkOk_by (N := N__law_text) (sc := C8.fnScope s__law_text) (own := [("_law_code", 2)]) (by decide +kernel)) (fun _ _ _ _ _ => (pg_name (i := 2) nd rfl (Or.inl rfl))) (fun _ _ _ _ _ => pts_nil) (fun _ _ _ _ _ => (C8.pe_c c__law_dots hr (h1n _) (by rfl) (pa_cons (pv 2) pa_nil))))))) (pss_one (ps_if (pt_cmpR op_eq (pe_ix ix_tup (pv 0) pe_int (fun _ _ => rfl)) pe_str (nomark _)) (pss_one (ps_set (i := 1) nd rfl (Or.inl rfl) (pe_op op_cat (pe_op op_cat (pv 1) (pe_lst (pa_cons (pe_callTy k_strI (by rfl) Z2.str_ (by decide +kernel) (pa_cons (pe_ix ix_tup (pv 0) pe_int (fun _ _ => rfl)) pa_nil)) pa_nil))) (pe_lc (own := [("_law_sign", 3), ("_law_code", 2)]) (g := gTup K 2 (gCons (gName 3) (gCons (gName 2) gNil))) (tt := tYes) rfl nd (pi_tup (pe_ix ix_tup (pv 0) pe_int (fun _ _ => rfl))) (blkOk_by (N := N__law_text) (sc := C8.fnScope s__law_text) (own := [("_law_sign", 3), ("_law_code", 2)]) (by decide +kernel)) (fun _ _ _ _ _ => (pg_tup rfl (pgs_cons (pg_name (i := 3) nd rfl (Or.inl rfl)) (pgs_cons (pg_name (i := 2) nd rfl (Or.inl rfl)) pgs_nil)))) (fun _ _ _ _ _ => pts_nil) (fun _ _ _ _ _ => (pe_op k_addS (pe_op k_addS (pe_callTy k_strI (by rfl) Z2.str_ (by decide +kernel) (pa_cons (pv 3) pa_nil)) pe_str) (pe_callTy k_strI (by rfl) Z2.str_ (by decide +kernel) (pa_cons (pv 2) pa_nil)))))))) (pss_one (ps_if (pt_cmpR op_eq (pe_ix ix_tup (pv 0) pe_int (fun _ _ => rfl)) pe_str (nomark _)) (pss_one (ps_expr (pe_bm PySem.F.plainAttrs_list PySem.F.slot_list_append PySem.F.type_list_append mt_append (pv 1) (pa_cons (pe_callTy k_strI (by rfl) Z2.str_ (by decide +kernel) (pa_cons (pe_ix ix_tup (pv 0) pe_int (fun _ _ => rfl)) pa_nil)) pa_nil)))) pss_nil)))))
  (pss_one (ps_ret (pe_joinW pe_str (pv 1))))))), ?_⟩
      have ht3 : Num3 t := w3.t
      have he3 : Num3 e := w3.e
      have hk3 : Kind3 k := w3.k
      have l20 := wayS_len w3
      cases tas with
      | cons at_ r =>
        obtain ⟨a, tr⟩ := at_
        obtain ⟨p0, x, rfl, hp0, htd, htr⟩ := hw
        have hts : tr :: r.map (·.2) = ts := hts
        subst hts
        cases n with
        | zero => exact absurd hn (by simp)
        | succ m =>
          have r3 : Row3 tr := w3.ts tr List.mem_cons_self
          have ld := dotS_len r3
          have lt : ("turned " : Str).length = 7 := by decide +kernel
          have ls : (" " : Str).length = 1 := by decide +kernel
          have li := wayS_len w3.inner
          refine i_start (σ' := [some (.ref p0), none, none, none]) rfl ?_
          walk_at "go"
          walk_at "r"
          refine i_yes rfl ?_
          walk_at "r"
          refine ⟨a, tr, rfl, htd.st, r3, fun H1 s1 => ?_⟩
          walk_at "r"
          refine i_addS (by omega) ?_
          walk_at "r"
          refine i_addS (by rw [str_app]; omega) ?_
          have hp1 := stup s1 hp0
          walk_at "r"
          have hm' : (r.map (·.2)).length ≤ m := by
            rw [List.length_cons] at hn
            omega
          refine ⟨x, ⟨r.map (·.2), t, e, k⟩, rfl, ⟨r, p, rfl, htr.same s1, hk.same s1⟩, w3.inner, hm', fun H2 s2 => ?_⟩
          walk_at "r"
          refine i_addS (by rw [str_app, str_app]; omega) ?_
          walk_at "r"
          have z := q H2 (s1.trans s2)
          rw [← wayS_turned] at z
          exact z
      | nil =>
        cases hw
        have hts : [] = ts := hts
        subst hts
        have num : ∀ {n : Int} {H1 : Hp} {QY : VK}, Num3 n → QY (.str (numS n)) H1 → rStrI [.int n] H1 QY := fun {n H1 QY} h hY => i_strI h.1 (by have := h.2; omega) hY
        have o := wayWords_ok w3
        have jl : ∀ H' (ws : Addr), Same H H' → H' ws = some (.lst ((kindWords t e k).map V.str)) → rJoinW K (.str " ") [.ref ws] H' Q := fun H' ws s' e' => by
          refine i_join (ys := wayWords ⟨[], t, e, k⟩) (sl_of e') ?_ (q _ s')
          have z := sum_len (ps := wayWords ⟨[], t, e, k⟩) (k := 160) fun p m => (o.1 p m).2
          have e : (" " : Str).length = 1 := by decide +kernel
          have := o.2
          rw [e]
          omega
        refine i_start (σ' := [some (.ref p), none, none, none]) rfl ?_
        walk_at "go"
        cases k with
        | codes cs =>
          obtain ⟨c, as, hp, hc, ht⟩ := hk
          have hc := hc.st (K := K)
          walk_at "r"
          refine i_no (by decide +kernel) ?_
          walk_at "r"
          refine num ht3 ?_
          walk_at "r"
          refine num he3 ?_
          walk_at "r"
          refine i_lst (by show 3 ≤ sizeLine; decide) (fun l1 H1 _ s1 e1 => ?_)
          have hp1 := stup s1 hp
          have hc1 := stup s1 hc
          walk_at "r"
          refine i_cut (fun σ' H' => ∃ l2 y z, σ' = [some (.ref p), some (.ref l2), y, z] ∧ Same H H' ∧ H' l2 = some (.lst ((kindWords t e (.codes cs)).map V.str))) ?_ (fun σ' H' pv => ?_)
          · walk_at "r"
            refine i_yes rfl ?_
            walk_at "r"
            refine i_lcTI (fun D j acc H' => acc = ((cs.take j).map dotS).map V.str ∧ Same H1 H' ∧ H' D = some (.lst acc)) hc1
              (fun D hD => ⟨rfl, same_new hD, upd_same⟩) (fun D j acc H' hD pv => stup pv.2.1 hc1) (fun D j x acc H' hD hx hl pv => ?_) (fun p5 acc H5 hp5 pv => ?_)
            · obtain ⟨rfl, s5, e5⟩ := pv
              obtain ⟨b, hb, rfl⟩ := ref_get hx
              obtain ⟨cc, hcc, hbp⟩ := ht.get hb
              have jl := (List.getElem?_eq_some_iff.mp hcc).1
              have l40 := hk3.2
              walk_at "r"
              refine ⟨b, cc, rfl, stup (s1.trans s5) hbp, hk3.1 cc (List.mem_of_getElem? hcc), fun H6 s6 => ?_⟩
              refine kY_of (s6 _ _ e5) hl (by omega) ⟨?_, smut (s5.trans s6) hD, upd_same⟩
              rw [take_succ' hcc, List.map_append, List.map_append]
              rfl
            · obtain ⟨rfl, s5, e5⟩ := pv
              rw [List.length_map, ht.len, List.take_length] at e5
              have l40 := hk3.2
              walk_at "r"
              refine i_cat (s5 _ _ e1) e5 (Nat.le_trans (show 3 + _ ≤ 100000 by rw [List.length_map, List.length_map]; omega) (by decide)) (fun l6 H6 _ s6 e6 => ?_)
              walk_at "r"
              exact ⟨l6, _, _, rfl, s1.trans (s5.trans s6), by rw [e6]; unfold kindWords; rw [List.map_append]; rfl⟩
          · obtain ⟨l2, y, z, rfl, s2, e2⟩ := pv
            walk_at "r"
            exact jl _ _ s2 e2
        | escapes m prs =>
          obtain ⟨c, as, hp, hc, ht⟩ := hk
          walk_at "r"
          refine i_no (by decide +kernel) ?_
          walk_at "r"
          refine num ht3 ?_
          walk_at "r"
          refine num he3 ?_
          walk_at "r"
          refine i_lst (by show 3 ≤ sizeLine; decide) (fun l1 H1 _ s1 e1 => ?_)
          have hp1 := stup s1 hp
          have hc1 := stup s1 hc
          walk_at "r"
          refine i_cut (fun σ' H' => ∃ l2 y z, σ' = [some (.ref p), some (.ref l2), y, z] ∧ Same H H' ∧ H' l2 = some (.lst ((kindWords t e (.escapes m prs)).map V.str))) ?_ (fun σ' H' pv => ?_)
          · walk_at "r"
            refine i_no (by decide +kernel) ?_
            walk_at "r"
            refine i_yes rfl ?_
            walk_at "r"
            refine num hk3.1 ?_
            walk_at "r"
            refine i_lst (by show 1 ≤ sizeLine; decide) (fun l2 H2 _ s2 e2 => ?_)
            walk_at "r"
            refine i_cat (s2 _ _ e1) e2 (by show 3 + 1 ≤ sizeLine; decide) (fun l3 H3 _ s3 e3 => ?_)
            have s13 := s2.trans s3
            have hp3 := stup s13 hp1
            have hc3 := stup s13 hc1
            have s03 := s1.trans s13
            walk_at "r"
            refine i_lcTI (fun D j acc H' => acc = ((prs.take j).map pairS).map V.str ∧ Same H3 H' ∧ H' D = some (.lst acc)) hc3
              (fun D hD => ⟨rfl, same_new hD, upd_same⟩) (fun D j acc H' hD pv => stup pv.2.1 hc3) (fun D j x acc H' hD hx hl pv => ?_) (fun p5 acc H5 hp5 pv => ?_)
            · obtain ⟨rfl, s6, e6⟩ := pv
              obtain ⟨b, hb, rfl⟩ := ref_get hx
              obtain ⟨cc, hcc, hbp⟩ := ht.get hb
              have jl := (List.getElem?_eq_some_iff.mp hcc).1
              have l40 := hk3.2.2
              have hbp6 := stup (s03.trans s6) hbp
              obtain ⟨na, nb⟩ := hk3.2.1 cc (List.mem_of_getElem? hcc)
              have z1 := (numS_len na).1
              have z2 := (numS_len nb).1
              have z3 : (":" : Str).length = 1 := by decide +kernel
              walk_at "r"
              refine num na ?_
              walk_at "r"
              refine i_addS (by omega) ?_
              walk_at "r"
              refine num nb ?_
              walk_at "r"
              refine i_addS (by rw [str_app]; omega) ?_
              show kY _ D j (V.str (pairS cc)) H'
              refine kY_of e6 hl (by omega) ⟨?_, smut s6 hD, upd_same⟩
              rw [take_succ' hcc, List.map_append, List.map_append]
              rfl
            · obtain ⟨rfl, s5, e5⟩ := pv
              rw [List.length_map, ht.len, List.take_length] at e5
              have l40 := hk3.2.2
              walk_at "r"
              refine i_cat (s5 _ _ e3) e5 (Nat.le_trans (show 4 + _ ≤ 100000 by rw [List.length_map, List.length_map]; omega) (by decide)) (fun l6 H6 _ s6 e6 => ?_)
              walk_at "r"
              exact ⟨l6, _, _, rfl, s03.trans (s5.trans s6), by rw [e6]; unfold kindWords; rw [List.map_append]; rfl⟩
          · obtain ⟨l2, y, z, rfl, s2, e2⟩ := pv
            walk_at "r"
            exact jl _ _ s2 e2
        | counts l =>
          have hp : SqT K H p [.str "counts", .int t, .int e, .int l] := hk
          walk_at "r"
          refine i_no (by decide +kernel) ?_
          walk_at "r"
          refine num ht3 ?_
          walk_at "r"
          refine num he3 ?_
          walk_at "r"
          refine i_lst (by show 3 ≤ sizeLine; decide) (fun l1 H1 hl1 s1 e1 => ?_)
          have hp1 := stup s1 hp
          walk_at "r"
          refine i_cut (fun σ' H' => ∃ l2 y z, σ' = [some (.ref p), some (.ref l2), y, z] ∧ Same H H' ∧ H' l2 = some (.lst ((kindWords t e (.counts l)).map V.str))) ?_ (fun σ' H' pv => ?_)
          · walk_at "r"
            refine i_no (by decide +kernel) ?_
            walk_at "r"
            refine i_no (by decide +kernel) ?_
            walk_at "r"
            refine i_yes rfl ?_
            walk_at "r"
            refine num hk3 ?_
            walk_at "r"
            exact ⟨l1, _, _, rfl, smut s1 hl1, by rw [upd_same]; rfl⟩
          · obtain ⟨l2, y, z, rfl, s2, e2⟩ := pv
            walk_at "r"
            exact jl _ _ s2 e2
        | ranks =>
          have hp : SqT K H p [.str "ranks", .int t, .int e] := hk
          walk_at "r"
          refine i_no (by decide +kernel) ?_
          walk_at "r"
          refine num ht3 ?_
          walk_at "r"
          refine num he3 ?_
          walk_at "r"
          refine i_lst (by show 3 ≤ sizeLine; decide) (fun l1 H1 _ s1 e1 => ?_)
          have hp1 := stup s1 hp
          walk_at "r"
          refine i_cut (fun σ' H' => ∃ l2 y z, σ' = [some (.ref p), some (.ref l2), y, z] ∧ Same H H' ∧ H' l2 = some (.lst ((kindWords t e .ranks).map V.str))) ?_ (fun σ' H' pv => ?_)
          · walk_at "r"
            refine i_no (by decide +kernel) ?_
            walk_at "r"
            refine i_no (by decide +kernel) ?_
            walk_at "r"
            refine i_no (by decide +kernel) ?_
            walk_at "r"
            exact ⟨l1, _, _, rfl, s1, by rw [e1]; rfl⟩
          · obtain ⟨l2, y, z, rfl, s2, e2⟩ := pv
            walk_at "r"
            exact jl _ _ s2 e2
  intro n
  induction n with
  | zero => exact step 0 (by
      have z := c_never (P := P) (w := w) (base := base) (k := 1) d
      exact z)
  | succ m ih => exact step (m + 1) ih
end
end Esc

/-! A way with one number put otherwise. -/
namespace Esc
open PySem PySem.Spec PyProof.Rows L2
theorem TupsAt.drop {K : PySem.W.Frag} {H : Hp} : ∀ {as : List Addr} {cs : List (List Int)} (n : Nat), TupsAt K H as cs → TupsAt K H (as.drop n) (cs.drop n)
  | [], [], n, h => by simpa using h
  | _ :: _, _ :: _, 0, h => h
  | _ :: _, _ :: _, n + 1, ⟨_, r⟩ => r.drop n
theorem PairsAt.take {K : PySem.W.Frag} {H : Hp} : ∀ {as : List Addr} {cs : List (Int × Int)} (n : Nat), PairsAt K H as cs → PairsAt K H (as.take n) (cs.take n)
  | [], [], n, h => by simpa using h
  | _ :: _, _ :: _, 0, _ => trivial
  | _ :: _, _ :: _, n + 1, ⟨h, r⟩ => ⟨h, r.take n⟩
theorem PairsAt.drop {K : PySem.W.Frag} {H : Hp} : ∀ {as : List Addr} {cs : List (Int × Int)} (n : Nat), PairsAt K H as cs → PairsAt K H (as.drop n) (cs.drop n)
  | [], [], n, h => by simpa using h
  | _ :: _, _ :: _, 0, h => h
  | _ :: _, _ :: _, n + 1, ⟨_, r⟩ => r.drop n
/-- another top, another end -/
theorem KindAt.other {K : PySem.W.Frag} {H : Hp} {p : Addr} {t e : Int} : ∀ {k : Kind}, KindAt K H p t e k → ∃ xs, SqT K H p (.str k.name :: .int t :: .int e :: xs) ∧ xs.length ≤ 2 ∧ ∀ p' t' e' H', Same H H' → SqT K H' p' (.str k.name :: .int t' :: .int e' :: xs) → KindAt K H' p' t' e' k
  | .codes _, ⟨c, as, h1, h2, h3⟩ => ⟨[.ref c], h1, (by show 1 ≤ 2; decide), fun p' t' e' H' s h => ⟨c, as, h, h2.same s, h3.same s⟩⟩
  | .escapes m _, ⟨c, as, h1, h2, h3⟩ => ⟨[.int m, .ref c], h1, (by show 2 ≤ 2; decide), fun p' t' e' H' s h => ⟨c, as, h, stup s h2, h3.same s⟩⟩
  | .counts l, h => ⟨[.int l], h, (by show 1 ≤ 2; decide), fun p' t' e' H' s h => h⟩
  | .ranks, h => ⟨[], h, by decide, fun p' t' e' H' s h => h⟩
theorem row3_put {c : List Int} {n : Int} (h : Row3 c) (hn : Num3 n) : Row3 (c.drop 1 ++ [n]) := by
  refine ⟨fun x m => ?_, by simp, ?_⟩
  · rcases List.mem_append.mp m with m | m
    · exact h.1 x (List.mem_of_mem_drop m)
    · rw [List.mem_singleton.mp m]
      exact hn
  · rw [List.length_append, List.length_drop, List.length_singleton]
    have := h.2.2
    have := List.length_pos_iff.mpr h.2.1
    omega
theorem cutTo2 (a b : V) (xs : List V) : cutV (a :: b :: xs) none (some 2) = [a, b] := by
  rw [show (2 : Int) = ((2 : Nat) : Int) from rfl, cut_to]
  rfl
theorem cutFrom2 (a b : V) (xs : List V) : cutV (a :: b :: xs) (some 2) none = xs := by
  rw [show (2 : Int) = ((2 : Nat) : Int) from rfl, cut_from]
  rfl
theorem cutFrom3 (a b c : V) (xs : List V) : cutV (a :: b :: c :: xs) (some 3) none = xs := by
  rw [show (3 : Int) = ((3 : Nat) : Int) from rfl, cut_from]
  rfl
theorem cutTo4 (a b c d : V) (xs : List V) : cutV (a :: b :: c :: d :: xs) none (some 4) = [a, b, c, d] := by
  rw [show (4 : Int) = ((4 : Nat) : Int) from rfl, cut_to]
  rfl
section
variable {P : Program} {w : World} {K : PySem.W.Frag} {mg : Str → Option Value} {base : Heap}
def spOther (K : PySem.W.Frag) : Sp := fun vs H Q _ => ∃ (d : Addr) (v : V) (wy : Way), vs = [.ref d, v] ∧ DiceAt H d ∧ WayAt K (tp H) v wy ∧ wy.Ok ∧ ∀ H' v' wy', Way3 wy' → wy'.ts.length ≤ 4 → Same (hide d H) H' → DiceAt H' d → WayAt K (tp H') v' wy' → Q v' H'
set_option maxHeartbeats 4000000 in
theorem c__law_other (Z : Blt mg) (c__law_off : C8.Cal P w K mg base 1 "_law_off" spOff []) (c__law_core : C8.Cal P w K mg base 1 "_law_core" (spCore K) []) (c__law_within : C8.Cal P w K mg base 2 "_law_within" (spWithin K) []) (d : Dd K mg "_law_other" s__law_other P__law_other) : C8.Cal P w K mg base 3 "_law_other" (spOther K) [] := by
  refine d.cal sc__law_other (fun vs H Q E h => ?_) (fun f cdv A outer s H vs Q E hr h => ?_)
  · obtain ⟨d, v, wy, rfl, _⟩ := h
    rfl
  · obtain ⟨d, v, ⟨ts, t, e, k⟩, rfl, hd, hw, ok, q⟩ := h
    have nd := sc__law_other.nd
    have w3 := ok.three
    have few : ts.length ≤ 3 := ok.few
    refine ⟨_, (pss_cons (ps_set (i := 2) nd rfl (Or.inl rfl) (pe_ix ix_list (pe_lst (pa_cons (C8.pe_c c__law_off hr (by decide) (by rfl) (pa_cons (pv 0) (pa_cons pe_int pa_nil))) (pa_cons pe_int (pa_cons pe_int (pa_cons (C8.pe_c c__law_off hr (by decide) (by rfl) (pa_cons (pv 0) (pa_cons pe_int pa_nil))) pa_nil))))) (C8.pe_c c__law_off hr (by decide) (by rfl) (pa_cons (pv 0) (pa_cons pe_int pa_nil))) (fun _ _ => rfl)))
  (pss_cons (ps_set (i := 3) nd rfl (Or.inl rfl) (C8.pe_c c__law_core hr (by decide) (by rfl) (pa_cons (pv 1) pa_nil)))
  (pss_cons (ps_set (i := 4) nd rfl (Or.inl rfl) (C8.pe_c c__law_off hr (by decide) (by rfl) (pa_cons (pv 0) (pa_cons pe_int pa_nil))))
  (C8.pss_cut (ps_if (pt_cmpR op_eq (pv 4) pe_int (nomark _)) (pss_one (ps_set (i := 3) nd rfl (Or.inl rfl) (pe_op op_catC (pe_tupC (pa_cons (pe_ix ix_tup (pv 3) pe_int (fun _ _ => rfl)) (pa_cons (pv 2) pa_nil))) (pe_slice sl_tupC (pv 3) (po_some pe_int) po_none)))) pss_nil)
  (C8.pss_cut (ps_if (pt_cmpR op_eq (pv 4) pe_int (nomark _)) (pss_one (ps_set (i := 3) nd rfl (Or.inl rfl) (pe_op op_catC (pe_op op_catC (pe_slice sl_tupC (pv 3) po_none (po_some pe_int)) (pe_tupC (pa_cons (pv 2) pa_nil))) (pe_slice sl_tupC (pv 3) (po_some pe_int) po_none)))) pss_nil)
  (C8.pss_cut (ps_if (PW.pt (pw_and (pt_cmpR op_gt (pv 4) pe_int (nomark _)) (pw_and1 (pt_cmpR op_eq (pe_ix ix_tup (pv 3) pe_int (fun _ _ => rfl)) pe_str (nomark _))))) (pss_one (ps_set (i := 3) nd rfl (Or.inl rfl) (pe_op op_catC (pe_slice sl_tupC (pv 3) po_none (po_some pe_int)) (pe_tupC (pa_cons (pv 2) pa_nil))))) pss_nil)
  (C8.pss_cut (ps_if (PW.pt (pw_and (pt_cmpR op_gt (pv 4) pe_int (nomark _)) (pw_and1 (pt_cmpR op_eq (pe_ix ix_tup (pv 3) pe_int (fun _ _ => rfl)) pe_str (nomark _))))) (pss_cons (ps_set (i := 5) nd rfl (Or.inl rfl) (C8.pe_c c__law_off hr (by decide) (by rfl) (pa_cons (pv 0) (pa_cons (pe_callB k_len (by rfl) Z.len_ (by decide +kernel) (pa_cons (pe_ix ix_tup (pv 3) pe_int (fun _ _ => rfl)) pa_nil)) pa_nil))))
  (pss_cons (ps_set (i := 6) nd rfl (Or.inl rfl) (pe_op op_catC (pe_slice sl_tupC (pe_ix ix_tup (pe_ix ix_tup (pv 3) pe_int (fun _ _ => rfl)) (pv 5) (fun _ _ => rfl)) (po_some pe_int) po_none) (pe_tupC (pa_cons (pv 2) pa_nil))))
  (pss_one (ps_set (i := 3) nd rfl (Or.inl rfl) (pe_op op_catC (pe_slice sl_tupC (pv 3) po_none (po_some pe_int)) (pe_tupC (pa_cons (pe_op op_catC (pe_op op_catC (pe_slice sl_tupC (pe_ix ix_tup (pv 3) pe_int (fun _ _ => rfl)) po_none (po_some (pv 5))) (pe_tupC (pa_cons (pv 6) pa_nil))) (pe_slice sl_tupC (pe_ix ix_tup (pv 3) pe_int (fun _ _ => rfl)) (po_some (pe_op op_add (pv 5) pe_int)) po_none)) pa_nil))))))) pss_nil)
  (C8.pss_cut (ps_if (PW.pt (pw_and (pt_cmpR op_gt (pv 4) pe_int (nomark _)) (pw_and1 (pt_cmpR op_eq (pe_ix ix_tup (pv 3) pe_int (fun _ _ => rfl)) pe_str (nomark _))))) (pss_cons (ps_set (i := 5) nd rfl (Or.inl rfl) (C8.pe_c c__law_off hr (by decide) (by rfl) (pa_cons (pv 0) (pa_cons (pe_callB k_len (by rfl) Z.len_ (by decide +kernel) (pa_cons (pe_ix ix_tup (pv 3) pe_int (fun _ _ => rfl)) pa_nil)) pa_nil))))
  (pss_cons (ps_set (i := 7) nd rfl (Or.inl rfl) (pe_tupC (pa_cons (pe_ix ix_tup (pe_ix ix_tup (pe_ix ix_tup (pv 3) pe_int (fun _ _ => rfl)) (pv 5) (fun _ _ => rfl)) pe_int (fun _ _ => rfl)) (pa_cons (pv 2) pa_nil))))
  (pss_one (ps_set (i := 3) nd rfl (Or.inl rfl) (pe_op op_catC (pe_slice sl_tupC (pv 3) po_none (po_some pe_int)) (pe_tupC (pa_cons (pe_op op_catC (pe_op op_catC (pe_slice sl_tupC (pe_ix ix_tup (pv 3) pe_int (fun _ _ => rfl)) po_none (po_some (pv 5))) (pe_tupC (pa_cons (pv 7) pa_nil))) (pe_slice sl_tupC (pe_ix ix_tup (pv 3) pe_int (fun _ _ => rfl)) (po_some (pe_op op_add (pv 5) pe_int)) po_none)) pa_nil))))))) pss_nil)
  (pss_cons (ps_if (PW.pt (pw_and (pt_cmpR op_gt (pv 4) pe_int (nomark _)) (pw_and1 (pt_cmpR op_eq (pe_ix ix_tup (pv 3) pe_int (fun _ _ => rfl)) pe_str (nomark _))))) (pss_one (ps_ret (pe_tupC (pa_cons pe_str (pa_cons (pe_tupC (pa_cons (pv 2) pa_nil)) (pa_cons (pv 1) pa_nil)))))) pss_nil)
  (pss_one (ps_ret (C8.pe_c c__law_within hr (by decide) (by rfl) (pa_cons (pv 1) (pa_cons (pv 3) pa_nil)))))))))))))), ?_⟩
    refine i_start (σ' := [some (.ref d), some v, none, none, none, none, none, none]) rfl ?_
    walk_at "go"
    walk_at "r"
    refine ⟨d, 17, rfl, by decide, by decide, hd, fun H1 n1 s1 d1 a0 a1 => ?_⟩
    walk_at "r"
    refine ⟨d, 1000, rfl, by decide, by decide, d1, fun H2 n2 s2 d2 b0 b1 => ?_⟩
    walk_at "r"
    refine i_lst (by show 4 ≤ sizeLine; decide) (fun l3 H3 hl3 s3 e3 => ?_)
    have d3 := d2.same s3
    have no3 := d2.ne hl3
    walk_at "r"
    refine ⟨d, 4, rfl, by decide, by decide, d3, fun H4 j s4 d4 j0 j1 => ?_⟩
    have e4 := s4 _ _ ((hide_ne no3).trans e3)
    obtain ⟨j, rfl⟩ := Int.eq_ofNat_of_zero_le j0
    obtain ⟨n, n3, at4⟩ : ∃ n : Int, Num3 n ∧ [V.int n1, V.int 16, V.int 999, V.int n2][j]? = some (V.int n) := by
      rcases (show j = 0 ∨ j = 1 ∨ j = 2 ∨ j = 3 by omega) with rfl | rfl | rfl | rfl
      · exact ⟨_, ⟨a0, by omega⟩, rfl⟩
      · exact ⟨_, ⟨by decide, by decide⟩, rfl⟩
      · exact ⟨_, ⟨by decide, by decide⟩, rfl⟩
      · exact ⟨_, ⟨b0, b1⟩, rfl⟩
    refine i_ixL (sl_of e4) (atI_nat at4) ?_
    have s04 : Same (hide d H) H4 := hide_tr ((hide_tr s1 s2).trans s3) s4
    have hw4 : WayAt K (tp H4) v ⟨ts, t, e, k⟩ := (((hw.same (tp_dice hd s1)).same (tp_dice d1 s2)).same (tp_pure s3)).same (tp_dice d3 s4)
    clear at4 e4 e3 no3 s1 s2 s3 s4 d1 d2 d3 hw
    walk_at "r"
    obtain ⟨tas4, p4, hts, ht4, hk4⟩ := hw4
    have hts : tas4.map (·.2) = ts := hts
    have hk4 : KindAt K (tp H4) p4 t e k := hk4
    obtain ⟨xs4, hx4⟩ := hk4.head
    have ltas : tas4.length = ts.length := by rw [← hts, List.length_map]
    refine ⟨v, tas4, p4, k.name, _, rfl, ht4.same tp_same, stup tp_same hx4, k.name_ne, ?_⟩
    walk_at "r"
    refine ⟨d, 4, rfl, by decide, by decide, d4, fun H5 kd s5 d5 kd0 kd1 => ?_⟩
    have s05 : Same (hide d H) H5 := hide_tr s04 s5
    have sT := tp_dice d4 s5
    have hk : KindAt K H5 p4 t e k := (hk4.same sT).same tp_same
    have ht : TurnAt K H5 tas4 v (.ref p4) := (ht4.same sT).same tp_same
    have hx := stup tp_same (stup sT hx4)
    clear hk4 ht4 hx4 sT s04 d4 s5
    have ht3 : Num3 t := w3.t
    have he3 : Num3 e := w3.e
    have hk3 : Kind3 k := w3.k
    have fin : ∀ H' H'' (qq : Addr) (x : V) (t' e' : Int) (k' : Kind), Same (hide d H) H' → DiceAt H' d → Same H' H'' → TurnAt K H'' tas4 x (.ref qq) → KindAt K H' qq t' e' k' → Num3 t' → Num3 e' → Kind3 k' → Q x H'' := fun H' H'' qq x t' e' k' s' d' sx ht' hk' a b c =>
      q H'' x ⟨ts, t', e', k'⟩ ⟨w3.ts, w3.few, a, b, c⟩ (Nat.le_trans few (by decide)) (s'.trans sx) (d'.same sx) (WayAt.tp ⟨tas4, qq, hts, ht', hk'.same sx⟩)
    walk_at "r"
    by_cases c0 : kd = 0
    · refine i_cut (fun σ' H' => ∃ (qq : Addr) (t' e' : Int) (x y z : Option V), σ' = [some (.ref d), some v, some (.int n), some (.ref qq), some (.int kd), x, y, z] ∧ Same (hide d H) H' ∧ DiceAt H' d ∧ TurnAt K H' tas4 v (.ref p4) ∧ (∃ ys, SqT K H' p4 (.str k.name :: ys)) ∧ KindAt K H' qq t' e' k ∧ Num3 t' ∧ Num3 e') ?_ (fun σ' H' pv => ?_)
      · walk_at "r"
        refine i_yes c0 ?_
        obtain ⟨xs, hxx, lxx, mk⟩ := hk.other
        walk_at "r"
        refine i_tupCT (by show 2 ≤ sizeLine; decide) (fun p6 H6 _ s6 e6 => ?_)
        have hxx6 := stup s6 hxx
        walk_at "r"
        refine i_slCS hxx6 (fun p7 H7 s7 e7 => ?_)
        rw [cutFrom2] at e7
        have e67 := s7 _ _ e6
        walk_at "r"
        refine i_catCS (st_of e67) e7 (sz (by show 2 + (_ + 1) ≤ _; omega)) (fun p8 H8 s8 e8 => ?_)
        have s68 := s6.trans (s7.trans s8)
        walk_at "r"
        exact ⟨p8, n, e, _, _, _, rfl, s05.trans s68, d5.same s68, ht.same s68, ⟨_, stup s68 hx⟩, mk _ _ _ _ s68 e8, n3, he3⟩
      · obtain ⟨qq, t', e', x, y, z, rfl, s7, d7, htv, hy, hkq, nt, ne⟩ := pv
        walk_at "r"
        refine i_cutS ?_ ?_
        · walk_at "r"
          refine i_no (by omega) ?_
          walk_at "r"
          exact ⟨rfl, rfl⟩
        walk_at "r"
        refine i_cutS ?_ ?_
        · walk_at "r"
          refine i_no (by omega) ?_
          walk_at "r"
          exact ⟨rfl, rfl⟩
        walk_at "r"
        refine i_cutS ?_ ?_
        · walk_at "r"
          refine i_no (by omega) ?_
          walk_at "r"
          exact ⟨rfl, rfl⟩
        walk_at "r"
        refine i_cutS ?_ ?_
        · walk_at "r"
          refine i_no (by omega) ?_
          walk_at "r"
          exact ⟨rfl, rfl⟩
        walk_at "r"
        refine i_no (by omega) ?_
        walk_at "r"
        obtain ⟨ys, hy⟩ := hy
        refine ⟨v, tas4, p4, k.name, _, qq, rfl, htv, hy, k.name_ne, by omega, fun x' H8 s8 htx => ?_⟩
        walk_at "r"
        exact fin _ _ qq x' t' e' k s7 d7 s8 htx hkq nt ne hk3
    refine i_cutS ?_ ?_
    · walk_at "r"
      refine i_no c0 ?_
      walk_at "r"
      exact ⟨rfl, rfl⟩
    walk_at "r"
    by_cases c1 : kd = 1
    · refine i_cut (fun σ' H' => ∃ (qq : Addr) (t' e' : Int) (x y z : Option V), σ' = [some (.ref d), some v, some (.int n), some (.ref qq), some (.int kd), x, y, z] ∧ Same (hide d H) H' ∧ DiceAt H' d ∧ TurnAt K H' tas4 v (.ref p4) ∧ (∃ ys, SqT K H' p4 (.str k.name :: ys)) ∧ KindAt K H' qq t' e' k ∧ Num3 t' ∧ Num3 e') ?_ (fun σ' H' pv => ?_)
      · walk_at "r"
        refine i_yes c1 ?_
        obtain ⟨xs, hxx, lxx, mk⟩ := hk.other
        walk_at "r"
        refine i_slCS hxx (fun p6 H6 s6 e6 => ?_)
        rw [cutTo2] at e6
        walk_at "r"
        refine i_tupCT (by show 1 ≤ sizeLine; decide) (fun p7 H7 _ s7 e7 => ?_)
        walk_at "r"
        refine i_catCS (stup s7 e6) (st_of e7) (by show 2 + 1 ≤ sizeLine; decide) (fun p8 H8 s8 e8 => ?_)
        have hxx8 := stup (s6.trans (s7.trans s8)) hxx
        walk_at "r"
        refine i_slCS hxx8 (fun p9 H9 s9 e9 => ?_)
        rw [cutFrom3] at e9
        walk_at "r"
        refine i_catCS (stup s9 e8) e9 (sz (by show 3 + _ ≤ _; omega)) (fun p10 H10 s10 e10 => ?_)
        have s6X := s6.trans (s7.trans (s8.trans (s9.trans s10)))
        walk_at "r"
        exact ⟨p10, t, n, _, _, _, rfl, s05.trans s6X, d5.same s6X, ht.same s6X, ⟨_, stup s6X hx⟩, mk _ _ _ _ s6X e10, ht3, n3⟩
      · obtain ⟨qq, t', e', x, y, z, rfl, s7, d7, htv, hy, hkq, nt, ne⟩ := pv
        walk_at "r"
        refine i_cutS ?_ ?_
        · walk_at "r"
          refine i_no (by omega) ?_
          walk_at "r"
          exact ⟨rfl, rfl⟩
        walk_at "r"
        refine i_cutS ?_ ?_
        · walk_at "r"
          refine i_no (by omega) ?_
          walk_at "r"
          exact ⟨rfl, rfl⟩
        walk_at "r"
        refine i_cutS ?_ ?_
        · walk_at "r"
          refine i_no (by omega) ?_
          walk_at "r"
          exact ⟨rfl, rfl⟩
        walk_at "r"
        refine i_no (by omega) ?_
        walk_at "r"
        obtain ⟨ys, hy⟩ := hy
        refine ⟨v, tas4, p4, k.name, _, qq, rfl, htv, hy, k.name_ne, by omega, fun x' H8 s8 htx => ?_⟩
        walk_at "r"
        exact fin _ _ qq x' t' e' k s7 d7 s8 htx hkq nt ne hk3
    refine i_cutS ?_ ?_
    · walk_at "r"
      refine i_no c1 ?_
      walk_at "r"
      exact ⟨rfl, rfl⟩
    walk_at "r"
    clear hx xs4
    cases k with
    | counts l =>
      have hp : SqT K H5 p4 [.str "counts", .int t, .int e, .int l] := hk
      refine i_cut (fun σ' H' => ∃ (qq : Addr) (k' : Kind) (x y z : Option V), σ' = [some (.ref d), some v, some (.int n), some (.ref qq), some (.int kd), x, y, z] ∧ Same (hide d H) H' ∧ DiceAt H' d ∧ TurnAt K H' tas4 v (.ref p4) ∧ (∃ ys, SqT K H' p4 (.str ("counts" : Str) :: ys)) ∧ KindAt K H' qq t e k' ∧ Kind3 k' ∧ k'.name = ("counts" : Str)) ?_ (fun σ' H' pv => ?_)
      · walk_at "r"
        refine i_yes (by omega) ?_
        walk_at "r"
        refine i_yes rfl ?_
        walk_at "r"
        refine i_slCS hp (fun p6 H6 s6 e6 => ?_)
        rw [cutTo3] at e6
        walk_at "r"
        refine i_tupCT (by show 1 ≤ sizeLine; decide) (fun p7 H7 _ s7 e7 => ?_)
        walk_at "r"
        refine i_catCS (stup s7 e6) (st_of e7) (by show 3 + 1 ≤ sizeLine; decide) (fun p8 H8 s8 e8 => ?_)
        have s68 := s6.trans (s7.trans s8)
        walk_at "r"
        exact ⟨p8, .counts n, _, _, _, rfl, s05.trans s68, d5.same s68, ht.same s68, ⟨_, stup s68 hp⟩, e8, n3, rfl⟩
      · obtain ⟨qq, k', x, y, z, rfl, s7, d7, htv, hy, hkq, hk3', hnm⟩ := pv
        obtain ⟨zs, hzs⟩ := hkq.head
        walk_at "r"
        refine i_cutS ?_ ?_
        · walk_at "r"
          refine i_yes (by omega) ?_
          walk_at "r"
          refine i_no (by rw [hnm]; decide +kernel) ?_
          walk_at "r"
          exact ⟨rfl, rfl⟩
        walk_at "r"
        refine i_cutS ?_ ?_
        · walk_at "r"
          refine i_yes (by omega) ?_
          walk_at "r"
          refine i_no (by rw [hnm]; decide +kernel) ?_
          walk_at "r"
          exact ⟨rfl, rfl⟩
        walk_at "r"
        refine i_yes (by omega) ?_
        walk_at "r"
        refine i_no (by rw [hnm]; decide +kernel) ?_
        walk_at "r"
        obtain ⟨ys, hy⟩ := hy
        refine ⟨v, tas4, p4, ("counts" : Str), _, qq, rfl, htv, hy, (by decide +kernel), by omega, fun x' H8 s8 htx => ?_⟩
        walk_at "r"
        exact fin _ _ qq x' t e k' s7 d7 s8 htx hkq ht3 he3 hk3'
    | codes cs =>
      obtain ⟨c, as, hp, hc, htc⟩ := hk
      have hp : SqT K H5 p4 [.str "codes", .int t, .int e, .ref c] := hp
      have hcs := hc.st (K := K)
      have hlen := htc.len
      have hcl : cs.length = t.toNat := ok.kind.1
      have t3 : 3 ≤ t := ok.t3
      have t16 : t ≤ 16 := ok.t16
      refine i_cutS ?_ ?_
      · walk_at "r"
        refine i_yes (by omega) ?_
        walk_at "r"
        refine i_no (by decide +kernel) ?_
        walk_at "r"
        exact ⟨rfl, rfl⟩
      walk_at "r"
      refine i_cut (fun σ' H' => ∃ (qq : Addr) (k' : Kind) (x y z : Option V), σ' = [some (.ref d), some v, some (.int n), some (.ref qq), some (.int kd), x, y, z] ∧ Same (hide d H) H' ∧ DiceAt H' d ∧ TurnAt K H' tas4 v (.ref p4) ∧ (∃ ys, SqT K H' p4 (.str ("codes" : Str) :: ys)) ∧ KindAt K H' qq t e k' ∧ Kind3 k' ∧ k'.name = ("codes" : Str)) ?_ (fun σ' H' pv => ?_)
      · walk_at "r"
        refine i_yes (by omega) ?_
        walk_at "r"
        refine i_yes rfl ?_
        walk_at "r"
        rw [List.length_map]
        refine ⟨d, (as.length : Int), rfl, by omega, by omega, d5, fun H6 i s6 d6 i0 i1 => ?_⟩
        obtain ⟨i, rfl⟩ := Int.eq_ofNat_of_zero_le i0
        have s06 : Same (hide d H) H6 := hide_tr s05 s6
        have tT := tp_dice d5 s6
        have hp6 : SqT K H6 p4 [.str "codes", .int t, .int e, .ref c] := stup tp_same (stup tT (sqt_tp hp))
        have hc6 : TupD H6 c (as.map V.ref) := ((tupd_tp hc).same tT).same tp_same
        have ht6 : TurnAt K H6 tas4 v (.ref p4) := (ht.tp.same tT).same tp_same
        have htc6 : TupsAt K H6 as cs := (htc.tp.same tT).same tp_same
        have hcs6 := hc6.st (K := K)
        obtain ⟨b, hb⟩ : ∃ b, as[i]? = some b := ⟨_, List.getElem?_eq_getElem (by omega)⟩
        obtain ⟨cc, hcc, ecc⟩ := htc6.getS hb
        have atb : atI (as.map V.ref) (i : Int) = some (.ref b) := atI_nat (by rw [List.getElem?_map, hb]; rfl)
        have r3 := hk3.1 cc (List.mem_of_getElem? hcc)
        have l40 := r3.2.2
        walk_at "r"
        refine i_slCT ecc (fun p7 H7 s7 e7 => ?_)
        rw [show (1 : Int) = ((1 : Nat) : Int) from rfl, cut_from, ← List.map_drop] at e7
        walk_at "r"
        refine i_tupCT (by show 1 ≤ sizeLine; decide) (fun p8 H8 _ s8 e8 => ?_)
        walk_at "r"
        refine i_catCT (s8 _ _ e7) e8 (sz (by rw [List.length_map, List.length_drop]; show _ + 1 ≤ _; omega)) (fun p9 H9 s9 e9 => ?_)
        have s69 := s7.trans (s8.trans s9)
        have hp9 := stup s69 hp6
        have e9 : H9 p9 = some (.tup ((cc.drop 1 ++ [n]).map V.int)) := by
          rw [e9, List.map_append]
          rfl
        walk_at "r"
        refine i_slCS hp9 (fun pA HA sA eA => ?_)
        rw [cutTo3] at eA
        have hp9A := stup sA hp9
        have hcA := hc6.same (s69.trans sA)
        walk_at "r"
        refine i_slCF hcA (fun pB HB sB eB => ?_)
        rw [cut_to, ← List.map_take] at eB
        walk_at "r"
        refine i_tupCF (by show 1 ≤ sizeLine; decide) (fun pC HC _ sC eC => ?_)
        walk_at "r"
        refine i_catCF (eB.same sC) eC (sz (by rw [List.length_map, List.length_take]; show _ + 1 ≤ _; omega)) (fun pD HD sD eD => ?_)
        have sAD := sB.trans (sC.trans sD)
        have hpD := stup sAD hp9A
        have hcD := hcA.same sAD
        walk_at "r"
        refine i_slCF hcD (fun pE HE sE eE => ?_)
        rw [show (i : Int) + 1 = ((i + 1 : Nat) : Int) by omega, cut_from, ← List.map_drop] at eE
        walk_at "r"
        refine i_catCF (eD.same sE) eE (sz (by rw [List.length_append, List.length_map, List.length_map, List.length_take, List.length_drop]; show _ + 1 + _ ≤ _; omega)) (fun pF HF sF eF => ?_)
        walk_at "r"
        refine i_tupCT (by show 1 ≤ sizeLine; decide) (fun pG HG _ sG eG => ?_)
        have sAG := sAD.trans (sE.trans (sF.trans sG))
        walk_at "r"
        refine i_catCS (stup sAG eA) (st_of eG) (by show 3 + 1 ≤ sizeLine; decide) (fun pI HI sI eI => ?_)
        have s9I := sA.trans (sAG.trans sI)
        have s6I := s69.trans s9I
        walk_at "r"
        refine ⟨pI, .codes (cs.take i ++ [cc.drop 1 ++ [n]] ++ cs.drop (i + 1)), _, _, _, rfl, s06.trans s6I, d6.same s6I, ht6.same s6I, ⟨_, stup s6I hp6⟩, ⟨pF, as.take i ++ [p9] ++ as.drop (i + 1), eI, ?_, ?_⟩, ?_, rfl⟩
        · rw [List.map_append, List.map_append]
          exact eF.same (sG.trans sI)
        · exact TupsAt.app (TupsAt.app ((htc6.same s6I).take i) ⟨s9I _ _ e9, trivial⟩) ((htc6.same s6I).drop (i + 1))
        · refine ⟨fun x m => ?_, by rw [List.length_append, List.length_append, List.length_take, List.length_drop, List.length_singleton]; omega⟩
          rcases List.mem_append.mp m with m | m
          · rcases List.mem_append.mp m with m | m
            · exact hk3.1 x (List.mem_of_mem_take m)
            · rw [List.mem_singleton.mp m]
              exact row3_put r3 n3
          · exact hk3.1 x (List.mem_of_mem_drop m)
      · obtain ⟨qq, k', x, y, z, rfl, s7, d7, htv, hy, hkq, hk3', hnm⟩ := pv
        obtain ⟨zs, hzs⟩ := hkq.head
        walk_at "r"
        refine i_cutS ?_ ?_
        · walk_at "r"
          refine i_yes (by omega) ?_
          walk_at "r"
          refine i_no (by rw [hnm]; decide +kernel) ?_
          walk_at "r"
          exact ⟨rfl, rfl⟩
        walk_at "r"
        refine i_yes (by omega) ?_
        walk_at "r"
        refine i_no (by rw [hnm]; decide +kernel) ?_
        walk_at "r"
        obtain ⟨ys, hy⟩ := hy
        refine ⟨v, tas4, p4, ("codes" : Str), _, qq, rfl, htv, hy, (by decide +kernel), by omega, fun x' H8 s8 htx => ?_⟩
        walk_at "r"
        exact fin _ _ qq x' t e k' s7 d7 s8 htx hkq ht3 he3 hk3'
    | escapes m prs =>
      obtain ⟨c, as, hp, hc, htc⟩ := hk
      have hp : SqT K H5 p4 [.str "escapes", .int t, .int e, .int m, .ref c] := hp
      have hlen := htc.len
      have hpl : 1 ≤ prs.length := by
        have z : e ∈ prs.map (·.1) := ok.kind.2.2.2.1
        cases prs with
        | nil => cases z
        | cons x xs => rw [List.length_cons]; omega
      have l40 : prs.length ≤ 40 := hk3.2.2
      refine i_cutS ?_ ?_
      · walk_at "r"
        refine i_yes (by omega) ?_
        walk_at "r"
        refine i_no (by decide +kernel) ?_
        walk_at "r"
        exact ⟨rfl, rfl⟩
      walk_at "r"
      refine i_cutS ?_ ?_
      · walk_at "r"
        refine i_yes (by omega) ?_
        walk_at "r"
        refine i_no (by decide +kernel) ?_
        walk_at "r"
        exact ⟨rfl, rfl⟩
      walk_at "r"
      refine i_cut (fun σ' H' => ∃ (qq : Addr) (k' : Kind) (x y z : Option V), σ' = [some (.ref d), some v, some (.int n), some (.ref qq), some (.int kd), x, y, z] ∧ Same (hide d H) H' ∧ DiceAt H' d ∧ TurnAt K H' tas4 v (.ref p4) ∧ (∃ ys, SqT K H' p4 (.str ("escapes" : Str) :: ys)) ∧ KindAt K H' qq t e k' ∧ Kind3 k' ∧ k'.name = ("escapes" : Str)) ?_ (fun σ' H' pv => ?_)
      · walk_at "r"
        refine i_yes (by omega) ?_
        walk_at "r"
        refine i_yes rfl ?_
        walk_at "r"
        rw [List.length_map]
        refine ⟨d, (as.length : Int), rfl, by omega, by omega, d5, fun H6 i s6 d6 i0 i1 => ?_⟩
        obtain ⟨i, rfl⟩ := Int.eq_ofNat_of_zero_le i0
        have s06 : Same (hide d H) H6 := hide_tr s05 s6
        have tT := tp_dice d5 s6
        have hp6 : SqT K H6 p4 [.str "escapes", .int t, .int e, .int m, .ref c] := stup tp_same (stup tT (sqt_tp hp))
        have hc6 : SqT K H6 c (as.map V.ref) := stup tp_same (stup tT (sqt_tp hc))
        have ht6 : TurnAt K H6 tas4 v (.ref p4) := (ht.tp.same tT).same tp_same
        have htc6 : PairsAt K H6 as prs := (htc.tp.same tT).same tp_same
        obtain ⟨b, hb⟩ : ∃ b, as[i]? = some b := ⟨_, List.getElem?_eq_getElem (by omega)⟩
        obtain ⟨cc, hcc, ecc⟩ := htc6.get hb
        have atb : atI (as.map V.ref) (i : Int) = some (.ref b) := atI_nat (by rw [List.getElem?_map, hb]; rfl)
        have r3 := hk3.2.1 cc (List.mem_of_getElem? hcc)
        walk_at "r"
        refine i_tupCT (by show 2 ≤ sizeLine; decide) (fun p9 H9 _ s9 e9 => ?_)
        have hp9 := stup s9 hp6
        walk_at "r"
        refine i_slCS hp9 (fun pA HA sA eA => ?_)
        rw [cutTo4] at eA
        have hp9A := stup sA hp9
        have hcA := stup (s9.trans sA) hc6
        walk_at "r"
        refine i_slCS hcA (fun pB HB sB eB => ?_)
        rw [cut_to, ← List.map_take] at eB
        walk_at "r"
        refine i_tupCT (by show 1 ≤ sizeLine; decide) (fun pC HC _ sC eC => ?_)
        walk_at "r"
        refine i_catCS (stup sC eB) (st_of eC) (sz (by rw [List.length_map, List.length_take]; show _ + 1 ≤ _; omega)) (fun pD HD sD eD => ?_)
        have sAD := sB.trans (sC.trans sD)
        have hpD := stup sAD hp9A
        have hcD := stup sAD hcA
        walk_at "r"
        refine i_slCS hcD (fun pE HE sE eE => ?_)
        rw [show (i : Int) + 1 = ((i + 1 : Nat) : Int) by omega, cut_from, ← List.map_drop] at eE
        walk_at "r"
        refine i_catCS (stup sE eD) eE (sz (by rw [List.length_append, List.length_map, List.length_map, List.length_take, List.length_drop]; show _ + 1 + _ ≤ _; omega)) (fun pF HF sF eF => ?_)
        walk_at "r"
        refine i_tupCT (by show 1 ≤ sizeLine; decide) (fun pG HG _ sG eG => ?_)
        have sAG := sAD.trans (sE.trans (sF.trans sG))
        walk_at "r"
        refine i_catCS (stup sAG eA) (st_of eG) (by show 4 + 1 ≤ sizeLine; decide) (fun pI HI sI eI => ?_)
        have s9I := sA.trans (sAG.trans sI)
        have s6I := s9.trans s9I
        walk_at "r"
        refine ⟨pI, .escapes m (prs.take i ++ [(cc.1, n)] ++ prs.drop (i + 1)), _, _, _, rfl, s06.trans s6I, d6.same s6I, ht6.same s6I, ⟨_, stup s6I hp6⟩, ⟨pF, as.take i ++ [p9] ++ as.drop (i + 1), eI, ?_, ?_⟩, ?_, rfl⟩
        · rw [List.map_append, List.map_append]
          exact stup (sG.trans sI) eF
        · exact PairsAt.app (PairsAt.app ((htc6.same s6I).take i) ⟨st_of (s9I _ _ e9), trivial⟩) ((htc6.same s6I).drop (i + 1))
        · refine ⟨hk3.1, fun x mm => ?_, by rw [List.length_append, List.length_append, List.length_take, List.length_drop, List.length_singleton]; omega⟩
          rcases List.mem_append.mp mm with mm | mm
          · rcases List.mem_append.mp mm with mm | mm
            · exact hk3.2.1 x (List.mem_of_mem_take mm)
            · rw [List.mem_singleton.mp mm]
              exact ⟨r3.1, n3⟩
          · exact hk3.2.1 x (List.mem_of_mem_drop mm)
      · obtain ⟨qq, k', x, y, z, rfl, s7, d7, htv, hy, hkq, hk3', hnm⟩ := pv
        obtain ⟨zs, hzs⟩ := hkq.head
        walk_at "r"
        refine i_yes (by omega) ?_
        walk_at "r"
        refine i_no (by rw [hnm]; decide +kernel) ?_
        walk_at "r"
        obtain ⟨ys, hy⟩ := hy
        refine ⟨v, tas4, p4, ("escapes" : Str), _, qq, rfl, htv, hy, (by decide +kernel), by omega, fun x' H8 s8 htx => ?_⟩
        walk_at "r"
        exact fin _ _ qq x' t e k' s7 d7 s8 htx hkq ht3 he3 hk3'
    | ranks =>
      have hp : SqT K H5 p4 [.str "ranks", .int t, .int e] := hk
      refine i_cutS ?_ ?_
      · walk_at "r"
        refine i_yes (by omega) ?_
        walk_at "r"
        refine i_no (by decide +kernel) ?_
        walk_at "r"
        exact ⟨rfl, rfl⟩
      walk_at "r"
      refine i_cutS ?_ ?_
      · walk_at "r"
        refine i_yes (by omega) ?_
        walk_at "r"
        refine i_no (by decide +kernel) ?_
        walk_at "r"
        exact ⟨rfl, rfl⟩
      walk_at "r"
      refine i_cutS ?_ ?_
      · walk_at "r"
        refine i_yes (by omega) ?_
        walk_at "r"
        refine i_no (by decide +kernel) ?_
        walk_at "r"
        exact ⟨rfl, rfl⟩
      walk_at "r"
      refine i_yes (by omega) ?_
      walk_at "r"
      refine i_yes rfl ?_
      walk_at "r"
      refine i_tupCF (by show 1 ≤ sizeLine; decide) (fun p6 H6 _ s6 e6 => ?_)
      walk_at "r"
      refine i_tupCT (by show 3 ≤ sizeLine; decide) (fun p7 H7 _ s7 e7 => ?_)
      have s67 := s6.trans s7
      refine q H7 _ ⟨[n] :: ts, t, e, .ranks⟩ ⟨fun x mm => ?_, ?_, ht3, he3, trivial⟩ (by show ts.length + 1 ≤ 4; omega) (s05.trans s67) (d5.same s67) (WayAt.tp ⟨(p6, [n]) :: tas4, p4, by rw [List.map_cons, hts], ⟨p7, v, rfl, st_of e7, e6.same s7, ht.same s67⟩, stup s67 hp⟩)
      · rcases List.mem_cons.mp mm with rfl | mm
        · exact ⟨fun y my => by rw [List.mem_singleton.mp my]; exact n3, by simp, by simp⟩
        · exact w3.ts x mm
      · show ts.length + 1 ≤ 10
        omega
end
end Esc

/-! _law_alike, of data with any tuples. -/
namespace Esc
open PySem PySem.Spec PyProof.Rows L2
theorem tyx_tup {K : PySem.W.Frag} {H : Hp} {a : Addr} {xs : List V} (h : SqT K H a xs) : TyX K H (.ref a) (.type "tuple") := by
  rcases h with (h | ⟨o, h⟩) | ⟨o, its, n, h1, h2, _⟩
  · exact .base (.tup h)
  · exact .fTuple h
  · exact .kTuple h1 h2
/-- data whose lists and tuples stand in the heap -/
inductive DhT (K : PySem.W.Frag) (H : Hp) : V → PyData → Prop
  | non : DhT K H .non .none
  | bl (b : Bool) : DhT K H (.bl b) (.bool b)
  | int (i : Int) : DhT K H (.int i) (.int i)
  | str (s : Str) (ok : PyData.strOk s = true) : DhT K H (.str s) (.str s)
  | lst {a : Addr} {xs : List V} {ds : List PyData} : H a = some (.lst xs) → xs.length = ds.length → (∀ (i : Nat) (h : i < ds.length) (v : V), xs[i]? = some v → DhT K H v ds[i]) → DhT K H (.ref a) (.list ds)
  | tup {a : Addr} {xs : List V} {ds : List PyData} : SqT K H a xs → xs.length = ds.length → (∀ (i : Nat) (h : i < ds.length) (v : V), xs[i]? = some v → DhT K H v ds[i]) → DhT K H (.ref a) (.tuple ds)
theorem DhT.same {K : PySem.W.Frag} {H H' : Hp} (s : Same H H') : ∀ {v : V} {d : PyData}, DhT K H v d → DhT K H' v d := fun h => by
  induction h with
  | non => exact .non
  | bl b => exact .bl b
  | int i => exact .int i
  | str z ok => exact .str z ok
  | lst h l _ ih => exact .lst (s _ _ h) l ih
  | tup h l _ ih => exact .tup (stup s h) l ih
theorem DhT.of {K : PySem.W.Frag} {H : Hp} {v : V} {d : PyData} (h : Dh H v d) : DhT K H v d := by
  induction h with
  | non => exact .non
  | bl b => exact .bl b
  | int i => exact .int i
  | str z ok => exact .str z ok
  | lst h l _ ih => exact .lst h l ih
  | tup h l _ ih => exact .tup (st_of h) l ih
section
variable {P : Program} {w : World} {K : PySem.W.Frag} {mg : Str → Option Value} {base : Heap}
def spAlikeT (K : PySem.W.Frag) (n : Nat) : Sp := fun vs H Q _ => ∃ (u v : V) (d1 d2 : PyData), vs = [u, v] ∧ DhT K H u d1 ∧ DhT K H v d2 ∧ SmallD d2 ∧ d2.depth ≤ n ∧ ∀ H', Same H H' → Q (.bl (sameD d1 d2)) H'
set_option maxHeartbeats 4000000 in
theorem c_alikeT (Z : Blt mg) (Z2 : Blt2 mg) (d : Dd K mg "_law_alike" s__law_alike P__law_alike) : ∀ n : Nat, C8.Cal P w K mg base (n + 1) "_law_alike" (spAlikeT K n) [] := by
  have step : ∀ n : Nat, (C8.Cal P w K mg base n "_law_alike" (fun vs H Q E => match n with | 0 => False | m + 1 => spAlikeT K m vs H Q E) []) → C8.Cal P w K mg base (n + 1) "_law_alike" (spAlikeT K n) [] := fun n c__law_alike => by
    refine d.cal sc__law_alike (fun vs H Q E h => ?_) (fun f cdv A outer s H vs Q E hr h => ?_)
    · obtain ⟨u, v, d1, d2, rfl, _⟩ := h
      rfl
    · obtain ⟨u, v, d1, d2, rfl, h1, h2, hsm, hdp, q⟩ := h
      have nd := sc__law_alike.nd
      have hr0 := hr
      cases h2 with
      | non =>
        refine ⟨_, (pss_cons (ps_if (pt_cmpR k_isN (pv 1) pe_non (nomark _)) (pss_one (ps_ret (pe_cmpR k_isN (pv 0) pe_non (nomark _)))) pss_nil)
  (pss_cons (ps_if (pt_val (pe_callB call_isi (by rfl) Z.isinstance_ (by decide +kernel) (pa_cons (pv 1) (pa_cons (pe_bltn (v := .ty "bool") (u := .type "bool") (by rfl) Z2.bool_ (by decide +kernel) rfl) pa_nil)))) (pss_one (ps_ret (pe_and (pe_callB call_isi (by rfl) Z.isinstance_ (by decide +kernel) (pa_cons (pv 0) (pa_cons (pe_bltn (v := .ty "bool") (u := .type "bool") (by rfl) Z2.bool_ (by decide +kernel) rfl) pa_nil))) (pe_one (pe_cmpR (op_eqD hr.units) (pv 0) (pv 1) (nomark _)))))) pss_nil)
  (pss_cons (ps_if (pt_val (pe_callB call_isi (by rfl) Z.isinstance_ (by decide +kernel) (pa_cons (pv 1) (pa_cons (pe_bltn (v := .ty "int") (u := .type "int") (by rfl) Z.int_ (by decide +kernel) rfl) pa_nil)))) (pss_one (ps_ret (pe_and (pe_callB call_isi (by rfl) Z.isinstance_ (by decide +kernel) (pa_cons (pv 0) (pa_cons (pe_bltn (v := .ty "int") (u := .type "int") (by rfl) Z.int_ (by decide +kernel) rfl) pa_nil))) (pe_and (pe_not (pe_callB call_isi (by rfl) Z.isinstance_ (by decide +kernel) (pa_cons (pv 0) (pa_cons (pe_bltn (v := .ty "bool") (u := .type "bool") (by rfl) Z2.bool_ (by decide +kernel) rfl) pa_nil)))) (pe_one (pe_cmpR (op_eqD hr.units) (pv 0) (pv 1) (nomark _))))))) pss_nil)
  (pss_cons (ps_if (pt_val (pe_callB call_isi (by rfl) Z.isinstance_ (by decide +kernel) (pa_cons (pv 1) (pa_cons (pe_bltn (v := .ty "str") (u := .type "str") (by rfl) Z2.str_ (by decide +kernel) rfl) pa_nil)))) (pss_one (ps_ret (pe_and (pe_callB call_isi (by rfl) Z.isinstance_ (by decide +kernel) (pa_cons (pv 0) (pa_cons (pe_bltn (v := .ty "str") (u := .type "str") (by rfl) Z2.str_ (by decide +kernel) rfl) pa_nil))) (pe_one (pe_cmpR (op_eqD hr.units) (pv 0) (pv 1) (nomark _)))))) pss_nil)
  (pss_cons (ps_if (PW.pt (pw_or (pt_cmpR op_ne (pe_callB call_isi (by rfl) Z.isinstance_ (by decide +kernel) (pa_cons (pv 1) (pa_cons (pe_bltn (v := .ty "tuple") (u := .type "tuple") (by rfl) Z.tuple_ (by decide +kernel) rfl) pa_nil))) (pe_callB call_isi (by rfl) Z.isinstance_ (by decide +kernel) (pa_cons (pv 0) (pa_cons (pe_bltn (v := .ty "tuple") (u := .type "tuple") (by rfl) Z.tuple_ (by decide +kernel) rfl) pa_nil))) (nomark _)) (pw_or1 (pt_cmpR op_ne (pe_callB call_isi (by rfl) Z.isinstance_ (by decide +kernel) (pa_cons (pv 1) (pa_cons (pe_bltn (v := .ty "list") (u := .type "list") (by rfl) Z.list_ (by decide +kernel) rfl) pa_nil))) (pe_callB call_isi (by rfl) Z.isinstance_ (by decide +kernel) (pa_cons (pv 0) (pa_cons (pe_bltn (v := .ty "list") (u := .type "list") (by rfl) Z.list_ (by decide +kernel) rfl) pa_nil))) (nomark _))))) (pss_one (ps_ret pe_bl)) pss_nil)
  (pss_cons (ps_if (pt_cmpR op_ne (pe_callB k_len (by rfl) Z.len_ (by decide +kernel) (pa_cons (pv 0) pa_nil)) (pe_callB k_len (by rfl) Z.len_ (by decide +kernel) (pa_cons (pv 1) pa_nil)) (nomark _)) (pss_one (ps_ret pe_bl)) pss_nil)
  (pss_one (ps_ret (pe_callB (cr_all rfl) (by rfl) Z.all_ (by decide +kernel) (pa_cons (pe_lc (own := [("_law_k", 2)]) (g := gName 2) (tt := tYes) rfl nd (pi_range1 rfl Z.range_ (pa_cons (pe_callB k_len (by rfl) Z.len_ (by decide +kernel) (pa_cons (pv 1) pa_nil)) pa_nil)) (blkOk_by (N := N__law_alike) (sc := C8.fnScope s__law_alike) (own := [("_law_k", 2)]) (by decide +kernel)) (fun _ _ _ _ _ => (pg_name (i := 2) nd rfl (Or.inl rfl))) (fun _ _ _ _ _ => pts_nil) (fun _ _ _ _ _ => (C8.pe_c c__law_alike hr (Nat.le_refl _) (by rfl) (pa_cons (pe_ix (show IxR _ (rIxL K) from ix_list) (pv 0) (pv 2) (fun _ _ => rfl)) (pa_cons (pe_ix (show IxR _ (rIxL K) from ix_list) (pv 1) (pv 2) (fun _ _ => rfl)) pa_nil))))) pa_nil)))))))))), ?_⟩
        refine i_start (σ' := [some u, some .non, none]) rfl ?_
        walk_at "go"
        walk_at "r"
        refine i_yes rfl ?_
        walk_at "r"
        have e : sameD d1 .none = decide (u = .non) := by
          cases h1 <;> first | (rw [sameD, decide_eq_true rfl]) | (rw [decide_eq_false (by intro z; cases z)]; rfl) | rfl
        rw [← e]
        exact q H (Same.refl _)
      | bl b =>
        refine ⟨_, (pss_cons (ps_if (pt_cmpR k_isN (pv 1) pe_non (nomark _)) (pss_one (ps_ret (pe_cmpR k_isN (pv 0) pe_non (nomark _)))) pss_nil)
  (pss_cons (ps_if (pt_val (pe_callB call_isi (by rfl) Z.isinstance_ (by decide +kernel) (pa_cons (pv 1) (pa_cons (pe_bltn (v := .ty "bool") (u := .type "bool") (by rfl) Z2.bool_ (by decide +kernel) rfl) pa_nil)))) (pss_one (ps_ret (pe_and (pe_callB call_isi (by rfl) Z.isinstance_ (by decide +kernel) (pa_cons (pv 0) (pa_cons (pe_bltn (v := .ty "bool") (u := .type "bool") (by rfl) Z2.bool_ (by decide +kernel) rfl) pa_nil))) (pe_one (pe_cmpR (op_eqD hr.units) (pv 0) (pv 1) (nomark _)))))) pss_nil)
  (pss_cons (ps_if (pt_val (pe_callB call_isi (by rfl) Z.isinstance_ (by decide +kernel) (pa_cons (pv 1) (pa_cons (pe_bltn (v := .ty "int") (u := .type "int") (by rfl) Z.int_ (by decide +kernel) rfl) pa_nil)))) (pss_one (ps_ret (pe_and (pe_callB call_isi (by rfl) Z.isinstance_ (by decide +kernel) (pa_cons (pv 0) (pa_cons (pe_bltn (v := .ty "int") (u := .type "int") (by rfl) Z.int_ (by decide +kernel) rfl) pa_nil))) (pe_and (pe_not (pe_callB call_isi (by rfl) Z.isinstance_ (by decide +kernel) (pa_cons (pv 0) (pa_cons (pe_bltn (v := .ty "bool") (u := .type "bool") (by rfl) Z2.bool_ (by decide +kernel) rfl) pa_nil)))) (pe_one (pe_cmpR (op_eqD hr.units) (pv 0) (pv 1) (nomark _))))))) pss_nil)
  (pss_cons (ps_if (pt_val (pe_callB call_isi (by rfl) Z.isinstance_ (by decide +kernel) (pa_cons (pv 1) (pa_cons (pe_bltn (v := .ty "str") (u := .type "str") (by rfl) Z2.str_ (by decide +kernel) rfl) pa_nil)))) (pss_one (ps_ret (pe_and (pe_callB call_isi (by rfl) Z.isinstance_ (by decide +kernel) (pa_cons (pv 0) (pa_cons (pe_bltn (v := .ty "str") (u := .type "str") (by rfl) Z2.str_ (by decide +kernel) rfl) pa_nil))) (pe_one (pe_cmpR (op_eqD hr.units) (pv 0) (pv 1) (nomark _)))))) pss_nil)
  (pss_cons (ps_if (PW.pt (pw_or (pt_cmpR op_ne (pe_callB call_isi (by rfl) Z.isinstance_ (by decide +kernel) (pa_cons (pv 1) (pa_cons (pe_bltn (v := .ty "tuple") (u := .type "tuple") (by rfl) Z.tuple_ (by decide +kernel) rfl) pa_nil))) (pe_callB call_isi (by rfl) Z.isinstance_ (by decide +kernel) (pa_cons (pv 0) (pa_cons (pe_bltn (v := .ty "tuple") (u := .type "tuple") (by rfl) Z.tuple_ (by decide +kernel) rfl) pa_nil))) (nomark _)) (pw_or1 (pt_cmpR op_ne (pe_callB call_isi (by rfl) Z.isinstance_ (by decide +kernel) (pa_cons (pv 1) (pa_cons (pe_bltn (v := .ty "list") (u := .type "list") (by rfl) Z.list_ (by decide +kernel) rfl) pa_nil))) (pe_callB call_isi (by rfl) Z.isinstance_ (by decide +kernel) (pa_cons (pv 0) (pa_cons (pe_bltn (v := .ty "list") (u := .type "list") (by rfl) Z.list_ (by decide +kernel) rfl) pa_nil))) (nomark _))))) (pss_one (ps_ret pe_bl)) pss_nil)
  (pss_cons (ps_if (pt_cmpR op_ne (pe_callB k_len (by rfl) Z.len_ (by decide +kernel) (pa_cons (pv 0) pa_nil)) (pe_callB k_len (by rfl) Z.len_ (by decide +kernel) (pa_cons (pv 1) pa_nil)) (nomark _)) (pss_one (ps_ret pe_bl)) pss_nil)
  (pss_one (ps_ret (pe_callB (cr_all rfl) (by rfl) Z.all_ (by decide +kernel) (pa_cons (pe_lc (own := [("_law_k", 2)]) (g := gName 2) (tt := tYes) rfl nd (pi_range1 rfl Z.range_ (pa_cons (pe_callB k_len (by rfl) Z.len_ (by decide +kernel) (pa_cons (pv 1) pa_nil)) pa_nil)) (blkOk_by (N := N__law_alike) (sc := C8.fnScope s__law_alike) (own := [("_law_k", 2)]) (by decide +kernel)) (fun _ _ _ _ _ => (pg_name (i := 2) nd rfl (Or.inl rfl))) (fun _ _ _ _ _ => pts_nil) (fun _ _ _ _ _ => (C8.pe_c c__law_alike hr (Nat.le_refl _) (by rfl) (pa_cons (pe_ix (show IxR _ (rIxL K) from ix_list) (pv 0) (pv 2) (fun _ _ => rfl)) (pa_cons (pe_ix (show IxR _ (rIxL K) from ix_list) (pv 1) (pv 2) (fun _ _ => rfl)) pa_nil))))) pa_nil)))))))))), ?_⟩
        refine i_start (σ' := [some u, some (.bl b), none]) rfl ?_
        walk_at "go"
        walk_at "r"
        refine i_no (by intro z; cases z) ?_
        walk_at "r"
        refine i_isi (b := true) (.base (.bl b)) (by rfl) ?_
        walk_at "r"
        cases h1 with
        | non =>
          refine i_isi (b := false) (.base .non) (by rfl) ?_
          walk_at "r"
          exact q H (Same.refl _)
        | bl c =>
          refine i_isi (b := true) (.base (.bl c)) (by rfl) ?_
          walk_at "r"
          refine i_eqB ?_
          exact q H (Same.refl _)
        | int i =>
          refine i_isi (b := false) (.base (.int i)) (by rfl) ?_
          walk_at "r"
          exact q H (Same.refl _)
        | str z oz =>
          refine i_isi (b := false) (.base (.str z)) (by rfl) ?_
          walk_at "r"
          exact q H (Same.refl _)
        | lst ha la ia =>
          refine i_isi (b := false) (.base (.lst ha)) (by rfl) ?_
          walk_at "r"
          exact q H (Same.refl _)
        | tup ha la ia =>
          refine i_isi (b := false) (tyx_tup ha) (by rfl) ?_
          walk_at "r"
          exact q H (Same.refl _)
      | int i =>
        refine ⟨_, (pss_cons (ps_if (pt_cmpR k_isN (pv 1) pe_non (nomark _)) (pss_one (ps_ret (pe_cmpR k_isN (pv 0) pe_non (nomark _)))) pss_nil)
  (pss_cons (ps_if (pt_val (pe_callB call_isi (by rfl) Z.isinstance_ (by decide +kernel) (pa_cons (pv 1) (pa_cons (pe_bltn (v := .ty "bool") (u := .type "bool") (by rfl) Z2.bool_ (by decide +kernel) rfl) pa_nil)))) (pss_one (ps_ret (pe_and (pe_callB call_isi (by rfl) Z.isinstance_ (by decide +kernel) (pa_cons (pv 0) (pa_cons (pe_bltn (v := .ty "bool") (u := .type "bool") (by rfl) Z2.bool_ (by decide +kernel) rfl) pa_nil))) (pe_one (pe_cmpR (op_eqD hr.units) (pv 0) (pv 1) (nomark _)))))) pss_nil)
  (pss_cons (ps_if (pt_val (pe_callB call_isi (by rfl) Z.isinstance_ (by decide +kernel) (pa_cons (pv 1) (pa_cons (pe_bltn (v := .ty "int") (u := .type "int") (by rfl) Z.int_ (by decide +kernel) rfl) pa_nil)))) (pss_one (ps_ret (pe_and (pe_callB call_isi (by rfl) Z.isinstance_ (by decide +kernel) (pa_cons (pv 0) (pa_cons (pe_bltn (v := .ty "int") (u := .type "int") (by rfl) Z.int_ (by decide +kernel) rfl) pa_nil))) (pe_and (pe_not (pe_callB call_isi (by rfl) Z.isinstance_ (by decide +kernel) (pa_cons (pv 0) (pa_cons (pe_bltn (v := .ty "bool") (u := .type "bool") (by rfl) Z2.bool_ (by decide +kernel) rfl) pa_nil)))) (pe_one (pe_cmpR (op_eqD hr.units) (pv 0) (pv 1) (nomark _))))))) pss_nil)
  (pss_cons (ps_if (pt_val (pe_callB call_isi (by rfl) Z.isinstance_ (by decide +kernel) (pa_cons (pv 1) (pa_cons (pe_bltn (v := .ty "str") (u := .type "str") (by rfl) Z2.str_ (by decide +kernel) rfl) pa_nil)))) (pss_one (ps_ret (pe_and (pe_callB call_isi (by rfl) Z.isinstance_ (by decide +kernel) (pa_cons (pv 0) (pa_cons (pe_bltn (v := .ty "str") (u := .type "str") (by rfl) Z2.str_ (by decide +kernel) rfl) pa_nil))) (pe_one (pe_cmpR (op_eqD hr.units) (pv 0) (pv 1) (nomark _)))))) pss_nil)
  (pss_cons (ps_if (PW.pt (pw_or (pt_cmpR op_ne (pe_callB call_isi (by rfl) Z.isinstance_ (by decide +kernel) (pa_cons (pv 1) (pa_cons (pe_bltn (v := .ty "tuple") (u := .type "tuple") (by rfl) Z.tuple_ (by decide +kernel) rfl) pa_nil))) (pe_callB call_isi (by rfl) Z.isinstance_ (by decide +kernel) (pa_cons (pv 0) (pa_cons (pe_bltn (v := .ty "tuple") (u := .type "tuple") (by rfl) Z.tuple_ (by decide +kernel) rfl) pa_nil))) (nomark _)) (pw_or1 (pt_cmpR op_ne (pe_callB call_isi (by rfl) Z.isinstance_ (by decide +kernel) (pa_cons (pv 1) (pa_cons (pe_bltn (v := .ty "list") (u := .type "list") (by rfl) Z.list_ (by decide +kernel) rfl) pa_nil))) (pe_callB call_isi (by rfl) Z.isinstance_ (by decide +kernel) (pa_cons (pv 0) (pa_cons (pe_bltn (v := .ty "list") (u := .type "list") (by rfl) Z.list_ (by decide +kernel) rfl) pa_nil))) (nomark _))))) (pss_one (ps_ret pe_bl)) pss_nil)
  (pss_cons (ps_if (pt_cmpR op_ne (pe_callB k_len (by rfl) Z.len_ (by decide +kernel) (pa_cons (pv 0) pa_nil)) (pe_callB k_len (by rfl) Z.len_ (by decide +kernel) (pa_cons (pv 1) pa_nil)) (nomark _)) (pss_one (ps_ret pe_bl)) pss_nil)
  (pss_one (ps_ret (pe_callB (cr_all rfl) (by rfl) Z.all_ (by decide +kernel) (pa_cons (pe_lc (own := [("_law_k", 2)]) (g := gName 2) (tt := tYes) rfl nd (pi_range1 rfl Z.range_ (pa_cons (pe_callB k_len (by rfl) Z.len_ (by decide +kernel) (pa_cons (pv 1) pa_nil)) pa_nil)) (blkOk_by (N := N__law_alike) (sc := C8.fnScope s__law_alike) (own := [("_law_k", 2)]) (by decide +kernel)) (fun _ _ _ _ _ => (pg_name (i := 2) nd rfl (Or.inl rfl))) (fun _ _ _ _ _ => pts_nil) (fun _ _ _ _ _ => (C8.pe_c c__law_alike hr (Nat.le_refl _) (by rfl) (pa_cons (pe_ix (show IxR _ (rIxL K) from ix_list) (pv 0) (pv 2) (fun _ _ => rfl)) (pa_cons (pe_ix (show IxR _ (rIxL K) from ix_list) (pv 1) (pv 2) (fun _ _ => rfl)) pa_nil))))) pa_nil)))))))))), ?_⟩
        refine i_start (σ' := [some u, some (.int i), none]) rfl ?_
        walk_at "go"
        walk_at "r"
        refine i_no (by intro z; cases z) ?_
        walk_at "r"
        refine i_isi (b := false) (.base (.int i)) (by rfl) ?_
        walk_at "r"
        refine i_isi (b := true) (.base (.int i)) (by rfl) ?_
        walk_at "r"
        cases h1 with
        | non =>
          refine i_isi (b := false) (.base .non) (by rfl) ?_
          walk_at "r"
          exact q H (Same.refl _)
        | bl c =>
          refine i_isi (b := true) (.base (.bl c)) (by rfl) ?_
          walk_at "r"
          refine i_isi (b := true) (.base (.bl c)) (by rfl) ?_
          walk_at "r"
          exact q H (Same.refl _)
        | int j =>
          refine i_isi (b := true) (.base (.int j)) (by rfl) ?_
          walk_at "r"
          refine i_isi (b := false) (.base (.int j)) (by rfl) ?_
          walk_at "r"
          refine i_eqI ?_
          exact q H (Same.refl _)
        | str z oz =>
          refine i_isi (b := false) (.base (.str z)) (by rfl) ?_
          walk_at "r"
          exact q H (Same.refl _)
        | lst ha la ia =>
          refine i_isi (b := false) (.base (.lst ha)) (by rfl) ?_
          walk_at "r"
          exact q H (Same.refl _)
        | tup ha la ia =>
          refine i_isi (b := false) (tyx_tup ha) (by rfl) ?_
          walk_at "r"
          exact q H (Same.refl _)
      | str i oi =>
        refine ⟨_, (pss_cons (ps_if (pt_cmpR k_isN (pv 1) pe_non (nomark _)) (pss_one (ps_ret (pe_cmpR k_isN (pv 0) pe_non (nomark _)))) pss_nil)
  (pss_cons (ps_if (pt_val (pe_callB call_isi (by rfl) Z.isinstance_ (by decide +kernel) (pa_cons (pv 1) (pa_cons (pe_bltn (v := .ty "bool") (u := .type "bool") (by rfl) Z2.bool_ (by decide +kernel) rfl) pa_nil)))) (pss_one (ps_ret (pe_and (pe_callB call_isi (by rfl) Z.isinstance_ (by decide +kernel) (pa_cons (pv 0) (pa_cons (pe_bltn (v := .ty "bool") (u := .type "bool") (by rfl) Z2.bool_ (by decide +kernel) rfl) pa_nil))) (pe_one (pe_cmpR (op_eqD hr.units) (pv 0) (pv 1) (nomark _)))))) pss_nil)
  (pss_cons (ps_if (pt_val (pe_callB call_isi (by rfl) Z.isinstance_ (by decide +kernel) (pa_cons (pv 1) (pa_cons (pe_bltn (v := .ty "int") (u := .type "int") (by rfl) Z.int_ (by decide +kernel) rfl) pa_nil)))) (pss_one (ps_ret (pe_and (pe_callB call_isi (by rfl) Z.isinstance_ (by decide +kernel) (pa_cons (pv 0) (pa_cons (pe_bltn (v := .ty "int") (u := .type "int") (by rfl) Z.int_ (by decide +kernel) rfl) pa_nil))) (pe_and (pe_not (pe_callB call_isi (by rfl) Z.isinstance_ (by decide +kernel) (pa_cons (pv 0) (pa_cons (pe_bltn (v := .ty "bool") (u := .type "bool") (by rfl) Z2.bool_ (by decide +kernel) rfl) pa_nil)))) (pe_one (pe_cmpR (op_eqD hr.units) (pv 0) (pv 1) (nomark _))))))) pss_nil)
  (pss_cons (ps_if (pt_val (pe_callB call_isi (by rfl) Z.isinstance_ (by decide +kernel) (pa_cons (pv 1) (pa_cons (pe_bltn (v := .ty "str") (u := .type "str") (by rfl) Z2.str_ (by decide +kernel) rfl) pa_nil)))) (pss_one (ps_ret (pe_and (pe_callB call_isi (by rfl) Z.isinstance_ (by decide +kernel) (pa_cons (pv 0) (pa_cons (pe_bltn (v := .ty "str") (u := .type "str") (by rfl) Z2.str_ (by decide +kernel) rfl) pa_nil))) (pe_one (pe_cmpR (op_eqD hr.units) (pv 0) (pv 1) (nomark _)))))) pss_nil)
  (pss_cons (ps_if (PW.pt (pw_or (pt_cmpR op_ne (pe_callB call_isi (by rfl) Z.isinstance_ (by decide +kernel) (pa_cons (pv 1) (pa_cons (pe_bltn (v := .ty "tuple") (u := .type "tuple") (by rfl) Z.tuple_ (by decide +kernel) rfl) pa_nil))) (pe_callB call_isi (by rfl) Z.isinstance_ (by decide +kernel) (pa_cons (pv 0) (pa_cons (pe_bltn (v := .ty "tuple") (u := .type "tuple") (by rfl) Z.tuple_ (by decide +kernel) rfl) pa_nil))) (nomark _)) (pw_or1 (pt_cmpR op_ne (pe_callB call_isi (by rfl) Z.isinstance_ (by decide +kernel) (pa_cons (pv 1) (pa_cons (pe_bltn (v := .ty "list") (u := .type "list") (by rfl) Z.list_ (by decide +kernel) rfl) pa_nil))) (pe_callB call_isi (by rfl) Z.isinstance_ (by decide +kernel) (pa_cons (pv 0) (pa_cons (pe_bltn (v := .ty "list") (u := .type "list") (by rfl) Z.list_ (by decide +kernel) rfl) pa_nil))) (nomark _))))) (pss_one (ps_ret pe_bl)) pss_nil)
  (pss_cons (ps_if (pt_cmpR op_ne (pe_callB k_len (by rfl) Z.len_ (by decide +kernel) (pa_cons (pv 0) pa_nil)) (pe_callB k_len (by rfl) Z.len_ (by decide +kernel) (pa_cons (pv 1) pa_nil)) (nomark _)) (pss_one (ps_ret pe_bl)) pss_nil)
  (pss_one (ps_ret (pe_callB (cr_all rfl) (by rfl) Z.all_ (by decide +kernel) (pa_cons (pe_lc (own := [("_law_k", 2)]) (g := gName 2) (tt := tYes) rfl nd (pi_range1 rfl Z.range_ (pa_cons (pe_callB k_len (by rfl) Z.len_ (by decide +kernel) (pa_cons (pv 1) pa_nil)) pa_nil)) (blkOk_by (N := N__law_alike) (sc := C8.fnScope s__law_alike) (own := [("_law_k", 2)]) (by decide +kernel)) (fun _ _ _ _ _ => (pg_name (i := 2) nd rfl (Or.inl rfl))) (fun _ _ _ _ _ => pts_nil) (fun _ _ _ _ _ => (C8.pe_c c__law_alike hr (Nat.le_refl _) (by rfl) (pa_cons (pe_ix (show IxR _ (rIxL K) from ix_list) (pv 0) (pv 2) (fun _ _ => rfl)) (pa_cons (pe_ix (show IxR _ (rIxL K) from ix_list) (pv 1) (pv 2) (fun _ _ => rfl)) pa_nil))))) pa_nil)))))))))), ?_⟩
        refine i_start (σ' := [some u, some (.str i), none]) rfl ?_
        walk_at "go"
        walk_at "r"
        refine i_no (by intro z; cases z) ?_
        walk_at "r"
        refine i_isi (b := false) (.base (.str i)) (by rfl) ?_
        walk_at "r"
        refine i_isi (b := false) (.base (.str i)) (by rfl) ?_
        walk_at "r"
        refine i_isi (b := true) (.base (.str i)) (by rfl) ?_
        walk_at "r"
        cases h1 with
        | non =>
          refine i_isi (b := false) (.base .non) (by rfl) ?_
          walk_at "r"
          exact q H (Same.refl _)
        | bl c =>
          refine i_isi (b := false) (.base (.bl c)) (by rfl) ?_
          walk_at "r"
          exact q H (Same.refl _)
        | int j =>
          refine i_isi (b := false) (.base (.int j)) (by rfl) ?_
          walk_at "r"
          exact q H (Same.refl _)
        | str z oz =>
          refine i_isi (b := true) (.base (.str z)) (by rfl) ?_
          walk_at "r"
          refine i_eqS oz oi ?_
          exact q H (Same.refl _)
        | lst ha la ia =>
          refine i_isi (b := false) (.base (.lst ha)) (by rfl) ?_
          walk_at "r"
          exact q H (Same.refl _)
        | tup ha la ia =>
          refine i_isi (b := false) (tyx_tup ha) (by rfl) ?_
          walk_at "r"
          exact q H (Same.refl _)
      | @lst b ys ds2 hb lb ib =>
        have tb : TyX K H (.ref b) (.type "list") := .base (.lst hb)
        refine ⟨_, (pss_cons (ps_if (pt_cmpR k_isN (pv 1) pe_non (nomark _)) (pss_one (ps_ret (pe_cmpR k_isN (pv 0) pe_non (nomark _)))) pss_nil)
  (pss_cons (ps_if (pt_val (pe_callB call_isi (by rfl) Z.isinstance_ (by decide +kernel) (pa_cons (pv 1) (pa_cons (pe_bltn (v := .ty "bool") (u := .type "bool") (by rfl) Z2.bool_ (by decide +kernel) rfl) pa_nil)))) (pss_one (ps_ret (pe_and (pe_callB call_isi (by rfl) Z.isinstance_ (by decide +kernel) (pa_cons (pv 0) (pa_cons (pe_bltn (v := .ty "bool") (u := .type "bool") (by rfl) Z2.bool_ (by decide +kernel) rfl) pa_nil))) (pe_one (pe_cmpR (op_eqD hr.units) (pv 0) (pv 1) (nomark _)))))) pss_nil)
  (pss_cons (ps_if (pt_val (pe_callB call_isi (by rfl) Z.isinstance_ (by decide +kernel) (pa_cons (pv 1) (pa_cons (pe_bltn (v := .ty "int") (u := .type "int") (by rfl) Z.int_ (by decide +kernel) rfl) pa_nil)))) (pss_one (ps_ret (pe_and (pe_callB call_isi (by rfl) Z.isinstance_ (by decide +kernel) (pa_cons (pv 0) (pa_cons (pe_bltn (v := .ty "int") (u := .type "int") (by rfl) Z.int_ (by decide +kernel) rfl) pa_nil))) (pe_and (pe_not (pe_callB call_isi (by rfl) Z.isinstance_ (by decide +kernel) (pa_cons (pv 0) (pa_cons (pe_bltn (v := .ty "bool") (u := .type "bool") (by rfl) Z2.bool_ (by decide +kernel) rfl) pa_nil)))) (pe_one (pe_cmpR (op_eqD hr.units) (pv 0) (pv 1) (nomark _))))))) pss_nil)
  (pss_cons (ps_if (pt_val (pe_callB call_isi (by rfl) Z.isinstance_ (by decide +kernel) (pa_cons (pv 1) (pa_cons (pe_bltn (v := .ty "str") (u := .type "str") (by rfl) Z2.str_ (by decide +kernel) rfl) pa_nil)))) (pss_one (ps_ret (pe_and (pe_callB call_isi (by rfl) Z.isinstance_ (by decide +kernel) (pa_cons (pv 0) (pa_cons (pe_bltn (v := .ty "str") (u := .type "str") (by rfl) Z2.str_ (by decide +kernel) rfl) pa_nil))) (pe_one (pe_cmpR (op_eqD hr.units) (pv 0) (pv 1) (nomark _)))))) pss_nil)
  (pss_cons (ps_if (PW.pt (pw_or (pt_cmpR op_ne (pe_callB call_isi (by rfl) Z.isinstance_ (by decide +kernel) (pa_cons (pv 1) (pa_cons (pe_bltn (v := .ty "tuple") (u := .type "tuple") (by rfl) Z.tuple_ (by decide +kernel) rfl) pa_nil))) (pe_callB call_isi (by rfl) Z.isinstance_ (by decide +kernel) (pa_cons (pv 0) (pa_cons (pe_bltn (v := .ty "tuple") (u := .type "tuple") (by rfl) Z.tuple_ (by decide +kernel) rfl) pa_nil))) (nomark _)) (pw_or1 (pt_cmpR op_ne (pe_callB call_isi (by rfl) Z.isinstance_ (by decide +kernel) (pa_cons (pv 1) (pa_cons (pe_bltn (v := .ty "list") (u := .type "list") (by rfl) Z.list_ (by decide +kernel) rfl) pa_nil))) (pe_callB call_isi (by rfl) Z.isinstance_ (by decide +kernel) (pa_cons (pv 0) (pa_cons (pe_bltn (v := .ty "list") (u := .type "list") (by rfl) Z.list_ (by decide +kernel) rfl) pa_nil))) (nomark _))))) (pss_one (ps_ret pe_bl)) pss_nil)
  (pss_cons (ps_if (pt_cmpR op_ne (pe_callB k_len (by rfl) Z.len_ (by decide +kernel) (pa_cons (pv 0) pa_nil)) (pe_callB k_len (by rfl) Z.len_ (by decide +kernel) (pa_cons (pv 1) pa_nil)) (nomark _)) (pss_one (ps_ret pe_bl)) pss_nil)
  (pss_one (ps_ret (pe_callB (cr_all rfl) (by rfl) Z.all_ (by decide +kernel) (pa_cons (pe_lc (own := [("_law_k", 2)]) (g := gName 2) (tt := tYes) rfl nd (pi_range1 rfl Z.range_ (pa_cons (pe_callB k_len (by rfl) Z.len_ (by decide +kernel) (pa_cons (pv 1) pa_nil)) pa_nil)) (blkOk_by (N := N__law_alike) (sc := C8.fnScope s__law_alike) (own := [("_law_k", 2)]) (by decide +kernel)) (fun _ _ _ _ _ => (pg_name (i := 2) nd rfl (Or.inl rfl))) (fun _ _ _ _ _ => pts_nil) (fun _ _ _ _ _ => (C8.pe_c c__law_alike hr (Nat.le_refl _) (by rfl) (pa_cons (pe_ix (show IxR _ (rIxL K) from ix_list) (pv 0) (pv 2) (fun _ _ => rfl)) (pa_cons (pe_ix (show IxR _ (rIxL K) from ix_list) (pv 1) (pv 2) (fun _ _ => rfl)) pa_nil))))) pa_nil)))))))))), ?_⟩
        refine i_start (σ' := [some u, some (.ref b), none]) rfl ?_
        walk_at "go"
        walk_at "r"
        refine i_no (by intro z; cases z) ?_
        walk_at "r"
        refine i_isi (b := false) tb (by rfl) ?_
        walk_at "r"
        refine i_isi (b := false) tb (by rfl) ?_
        walk_at "r"
        refine i_isi (b := false) tb (by rfl) ?_
        walk_at "r"
        refine i_isi (b := false) tb (by rfl) ?_
        walk_at "r"
        cases h1 with
        | non =>
          refine i_isi (b := false) (.base .non) (by rfl) ?_
          walk_at "r"
          refine i_nyes rfl ?_
          walk_at "r"
          refine i_isi (b := true) tb (by rfl) ?_
          walk_at "r"
          refine i_isi (b := false) (.base .non) (by rfl) ?_
          walk_at "r"
          refine i_nno (by decide) ?_
          walk_at "r"
          exact q H (Same.refl _)
        | bl c =>
          refine i_isi (b := false) (.base (.bl c)) (by rfl) ?_
          walk_at "r"
          refine i_nyes rfl ?_
          walk_at "r"
          refine i_isi (b := true) tb (by rfl) ?_
          walk_at "r"
          refine i_isi (b := false) (.base (.bl c)) (by rfl) ?_
          walk_at "r"
          refine i_nno (by decide) ?_
          walk_at "r"
          exact q H (Same.refl _)
        | int c =>
          refine i_isi (b := false) (.base (.int c)) (by rfl) ?_
          walk_at "r"
          refine i_nyes rfl ?_
          walk_at "r"
          refine i_isi (b := true) tb (by rfl) ?_
          walk_at "r"
          refine i_isi (b := false) (.base (.int c)) (by rfl) ?_
          walk_at "r"
          refine i_nno (by decide) ?_
          walk_at "r"
          exact q H (Same.refl _)
        | str c oc =>
          refine i_isi (b := false) (.base (.str c)) (by rfl) ?_
          walk_at "r"
          refine i_nyes rfl ?_
          walk_at "r"
          refine i_isi (b := true) tb (by rfl) ?_
          walk_at "r"
          refine i_isi (b := false) (.base (.str c)) (by rfl) ?_
          walk_at "r"
          refine i_nno (by decide) ?_
          walk_at "r"
          exact q H (Same.refl _)
        | tup ha la ia =>
          refine i_isi (b := true) (tyx_tup ha) (by rfl) ?_
          walk_at "r"
          refine i_nno (by decide) ?_
          walk_at "r"
          exact q H (Same.refl _)
        | @lst a xs ds1 ha la ia =>
          have ta : TyX K H (.ref a) (.type "list") := .base (.lst ha)
          refine i_isi (b := false) ta (by rfl) ?_
          walk_at "r"
          refine i_nyes rfl ?_
          walk_at "r"
          refine i_isi (b := true) tb (by rfl) ?_
          walk_at "r"
          refine i_isi (b := true) ta (by rfl) ?_
          walk_at "r"
          refine i_nyes rfl ?_
          walk_at "r"
          refine i_nbr (fun c => ?_) (fun c => ?_)
          case refine_2 =>
            walk_at "r"
            have e : sameD (.list ds1) (.list ds2) = false := by
              rw [sameD]
              exact sameAll_len (by omega)
            rw [e] at q
            exact q H (Same.refl _)
          have le : ds1.length = ds2.length := by omega
          have l5 : ds2.length ≤ 50000 := hsm.1
          walk_at "r"
          refine i_lcR (F := fun i => some (V.bl (sameD (ds1.getD i .none) (ds2.getD i .none)))) ⟨by omega, by omega⟩ (fun i hi H1 s1 QN QY hN hY => ?_) (fun p H1 hp s1 e1 => ?_)
          · have hi2 : i < ds2.length := by omega
            have hi1 : i < ds1.length := by omega
            have ha1 := s1 _ _ ha
            have hb1 := s1 _ _ hb
            have g1 : xs[i]? = some xs[i] := List.getElem?_eq_getElem (by omega)
            have g2 : ys[i]? = some ys[i] := List.getElem?_eq_getElem (by omega)
            have hat : atI xs (i : Int) = some xs[i] := atI_nat g1
            have hbt : atI ys (i : Int) = some ys[i] := atI_nat g2
            walk_at "r"
            cases n with
            | zero =>
              rw [PyData.depth] at hdp
              omega
            | succ m =>
              rw [PyData.depth] at hdp
              refine ⟨_, _, ds1[i], ds2[i], rfl, (ia i hi1 _ g1).same s1, (ib i hi2 _ g2).same s1, hsm.2.get i hi2, depth_get (by omega) i hi2, fun H2 s2 => ?_⟩
              refine hY _ ?_ _ s2
              rw [List.getD_eq_getElem?_getD, List.getD_eq_getElem?_getD, List.getElem?_eq_getElem hi1, List.getElem?_eq_getElem hi2]
              rfl
          · rw [bools_map, show ((ys.length : Nat) : Int).toNat = ds2.length by omega] at e1
            walk_at "r"
            refine i_all (sl_of e1) ?_
            rw [← sameAll_all le, show sameAll ds1 ds2 = sameD (.list ds1) (.list ds2) by rw [sameD]]
            exact q _ s1
      | @tup b ys ds2 hb lb ib =>
        have tb : TyX K H (.ref b) (.type "tuple") := tyx_tup hb
        refine ⟨_, (pss_cons (ps_if (pt_cmpR k_isN (pv 1) pe_non (nomark _)) (pss_one (ps_ret (pe_cmpR k_isN (pv 0) pe_non (nomark _)))) pss_nil)
  (pss_cons (ps_if (pt_val (pe_callB call_isi (by rfl) Z.isinstance_ (by decide +kernel) (pa_cons (pv 1) (pa_cons (pe_bltn (v := .ty "bool") (u := .type "bool") (by rfl) Z2.bool_ (by decide +kernel) rfl) pa_nil)))) (pss_one (ps_ret (pe_and (pe_callB call_isi (by rfl) Z.isinstance_ (by decide +kernel) (pa_cons (pv 0) (pa_cons (pe_bltn (v := .ty "bool") (u := .type "bool") (by rfl) Z2.bool_ (by decide +kernel) rfl) pa_nil))) (pe_one (pe_cmpR (op_eqD hr.units) (pv 0) (pv 1) (nomark _)))))) pss_nil)
  (pss_cons (ps_if (pt_val (pe_callB call_isi (by rfl) Z.isinstance_ (by decide +kernel) (pa_cons (pv 1) (pa_cons (pe_bltn (v := .ty "int") (u := .type "int") (by rfl) Z.int_ (by decide +kernel) rfl) pa_nil)))) (pss_one (ps_ret (pe_and (pe_callB call_isi (by rfl) Z.isinstance_ (by decide +kernel) (pa_cons (pv 0) (pa_cons (pe_bltn (v := .ty "int") (u := .type "int") (by rfl) Z.int_ (by decide +kernel) rfl) pa_nil))) (pe_and (pe_not (pe_callB call_isi (by rfl) Z.isinstance_ (by decide +kernel) (pa_cons (pv 0) (pa_cons (pe_bltn (v := .ty "bool") (u := .type "bool") (by rfl) Z2.bool_ (by decide +kernel) rfl) pa_nil)))) (pe_one (pe_cmpR (op_eqD hr.units) (pv 0) (pv 1) (nomark _))))))) pss_nil)
  (pss_cons (ps_if (pt_val (pe_callB call_isi (by rfl) Z.isinstance_ (by decide +kernel) (pa_cons (pv 1) (pa_cons (pe_bltn (v := .ty "str") (u := .type "str") (by rfl) Z2.str_ (by decide +kernel) rfl) pa_nil)))) (pss_one (ps_ret (pe_and (pe_callB call_isi (by rfl) Z.isinstance_ (by decide +kernel) (pa_cons (pv 0) (pa_cons (pe_bltn (v := .ty "str") (u := .type "str") (by rfl) Z2.str_ (by decide +kernel) rfl) pa_nil))) (pe_one (pe_cmpR (op_eqD hr.units) (pv 0) (pv 1) (nomark _)))))) pss_nil)
  (pss_cons (ps_if (PW.pt (pw_or (pt_cmpR op_ne (pe_callB call_isi (by rfl) Z.isinstance_ (by decide +kernel) (pa_cons (pv 1) (pa_cons (pe_bltn (v := .ty "tuple") (u := .type "tuple") (by rfl) Z.tuple_ (by decide +kernel) rfl) pa_nil))) (pe_callB call_isi (by rfl) Z.isinstance_ (by decide +kernel) (pa_cons (pv 0) (pa_cons (pe_bltn (v := .ty "tuple") (u := .type "tuple") (by rfl) Z.tuple_ (by decide +kernel) rfl) pa_nil))) (nomark _)) (pw_or1 (pt_cmpR op_ne (pe_callB call_isi (by rfl) Z.isinstance_ (by decide +kernel) (pa_cons (pv 1) (pa_cons (pe_bltn (v := .ty "list") (u := .type "list") (by rfl) Z.list_ (by decide +kernel) rfl) pa_nil))) (pe_callB call_isi (by rfl) Z.isinstance_ (by decide +kernel) (pa_cons (pv 0) (pa_cons (pe_bltn (v := .ty "list") (u := .type "list") (by rfl) Z.list_ (by decide +kernel) rfl) pa_nil))) (nomark _))))) (pss_one (ps_ret pe_bl)) pss_nil)
  (pss_cons (ps_if (pt_cmpR op_ne (pe_callB k_len (by rfl) Z.len_ (by decide +kernel) (pa_cons (pv 0) pa_nil)) (pe_callB k_len (by rfl) Z.len_ (by decide +kernel) (pa_cons (pv 1) pa_nil)) (nomark _)) (pss_one (ps_ret pe_bl)) pss_nil)
  (pss_one (ps_ret (pe_callB (cr_all rfl) (by rfl) Z.all_ (by decide +kernel) (pa_cons (pe_lc (own := [("_law_k", 2)]) (g := gName 2) (tt := tYes) rfl nd (pi_range1 rfl Z.range_ (pa_cons (pe_callB k_len (by rfl) Z.len_ (by decide +kernel) (pa_cons (pv 1) pa_nil)) pa_nil)) (blkOk_by (N := N__law_alike) (sc := C8.fnScope s__law_alike) (own := [("_law_k", 2)]) (by decide +kernel)) (fun _ _ _ _ _ => (pg_name (i := 2) nd rfl (Or.inl rfl))) (fun _ _ _ _ _ => pts_nil) (fun _ _ _ _ _ => (C8.pe_c c__law_alike hr (Nat.le_refl _) (by rfl) (pa_cons (pe_ix (show IxR _ (rIxT K) from ix_tup) (pv 0) (pv 2) (fun _ _ => rfl)) (pa_cons (pe_ix (show IxR _ (rIxT K) from ix_tup) (pv 1) (pv 2) (fun _ _ => rfl)) pa_nil))))) pa_nil)))))))))), ?_⟩
        refine i_start (σ' := [some u, some (.ref b), none]) rfl ?_
        walk_at "go"
        walk_at "r"
        refine i_no (by intro z; cases z) ?_
        walk_at "r"
        refine i_isi (b := false) tb (by rfl) ?_
        walk_at "r"
        refine i_isi (b := false) tb (by rfl) ?_
        walk_at "r"
        refine i_isi (b := false) tb (by rfl) ?_
        walk_at "r"
        refine i_isi (b := true) tb (by rfl) ?_
        walk_at "r"
        cases h1 with
        | non =>
          refine i_isi (b := false) (.base .non) (by rfl) ?_
          walk_at "r"
          refine i_nno (by decide) ?_
          walk_at "r"
          exact q H (Same.refl _)
        | bl c =>
          refine i_isi (b := false) (.base (.bl c)) (by rfl) ?_
          walk_at "r"
          refine i_nno (by decide) ?_
          walk_at "r"
          exact q H (Same.refl _)
        | int c =>
          refine i_isi (b := false) (.base (.int c)) (by rfl) ?_
          walk_at "r"
          refine i_nno (by decide) ?_
          walk_at "r"
          exact q H (Same.refl _)
        | str c oc =>
          refine i_isi (b := false) (.base (.str c)) (by rfl) ?_
          walk_at "r"
          refine i_nno (by decide) ?_
          walk_at "r"
          exact q H (Same.refl _)
        | lst ha la ia =>
          refine i_isi (b := false) (.base (.lst ha)) (by rfl) ?_
          walk_at "r"
          refine i_nno (by decide) ?_
          walk_at "r"
          exact q H (Same.refl _)
        | @tup a xs ds1 ha la ia =>
          have ta : TyX K H (.ref a) (.type "tuple") := tyx_tup ha
          refine i_isi (b := true) ta (by rfl) ?_
          walk_at "r"
          refine i_nyes rfl ?_
          walk_at "r"
          refine i_isi (b := false) tb (by rfl) ?_
          walk_at "r"
          refine i_isi (b := false) ta (by rfl) ?_
          walk_at "r"
          refine i_nyes rfl ?_
          have ha' : SqT K H a xs := ha
          have hb' : SqT K H b ys := hb
          walk_at "r"
          refine i_nbr (fun c => ?_) (fun c => ?_)
          case refine_2 =>
            walk_at "r"
            have e : sameD (.tuple ds1) (.tuple ds2) = false := by
              rw [sameD]
              exact sameAll_len (by omega)
            rw [e] at q
            exact q H (Same.refl _)
          have le : ds1.length = ds2.length := by omega
          have l5 : ds2.length ≤ 50000 := hsm.1
          walk_at "r"
          refine i_lcR (F := fun i => some (V.bl (sameD (ds1.getD i .none) (ds2.getD i .none)))) ⟨by omega, by omega⟩ (fun i hi H1 s1 QN QY hN hY => ?_) (fun p H1 hp s1 e1 => ?_)
          · have hi2 : i < ds2.length := by omega
            have hi1 : i < ds1.length := by omega
            have ha1 := stup s1 ha'
            have hb1 := stup s1 hb'
            have g1 : xs[i]? = some xs[i] := List.getElem?_eq_getElem (by omega)
            have g2 : ys[i]? = some ys[i] := List.getElem?_eq_getElem (by omega)
            have hat : atI xs (i : Int) = some xs[i] := atI_nat g1
            have hbt : atI ys (i : Int) = some ys[i] := atI_nat g2
            walk_at "r"
            cases n with
            | zero =>
              rw [PyData.depth] at hdp
              omega
            | succ m =>
              rw [PyData.depth] at hdp
              refine ⟨_, _, ds1[i], ds2[i], rfl, (ia i hi1 _ g1).same s1, (ib i hi2 _ g2).same s1, hsm.2.get i hi2, depth_get (by omega) i hi2, fun H2 s2 => ?_⟩
              refine hY _ ?_ _ s2
              rw [List.getD_eq_getElem?_getD, List.getD_eq_getElem?_getD, List.getElem?_eq_getElem hi1, List.getElem?_eq_getElem hi2]
              rfl
          · rw [bools_map, show ((ys.length : Nat) : Int).toNat = ds2.length by omega] at e1
            walk_at "r"
            refine i_all (sl_of e1) ?_
            rw [← sameAll_all le, show sameAll ds1 ds2 = sameD (.tuple ds1) (.tuple ds2) by rw [sameD]]
            exact q _ s1
  intro n
  induction n with
  | zero => exact step 0 (by
      have z := c_never (P := P) (w := w) (base := base) (k := 0) d
      exact z)
  | succ m ih => exact step (m + 1) ih
end
end Esc

/-! Ways as data; data copied. -/
namespace Esc
open PySem PySem.Spec PyProof.Rows L2
def DhTs (K : PySem.W.Frag) (H : Hp) : List V → List PyData → Prop
  | [], [] => True
  | v :: vs, d :: ds => DhT K H v d ∧ DhTs K H vs ds
  | _, _ => False
section
variable {K : PySem.W.Frag} {H H' : Hp}
theorem DhTs.len : ∀ {vs : List V} {ds : List PyData}, DhTs K H vs ds → vs.length = ds.length
  | [], [], _ => rfl
  | _ :: _, _ :: _, ⟨_, r⟩ => congrArg (· + 1) r.len
theorem DhTs.get : ∀ {vs : List V} {ds : List PyData}, DhTs K H vs ds → ∀ (i : Nat) (h : i < ds.length) (v : V), vs[i]? = some v → DhT K H v ds[i]
  | [], [], _, i, h, _, _ => by simp at h
  | v :: vs, d :: ds, ⟨a, _⟩, 0, _, _, e => by
    cases e
    exact a
  | v :: vs, d :: ds, ⟨_, r⟩, i + 1, h, u, e => DhTs.get (vs := vs) (ds := ds) r i (by simpa using h) u e
theorem DhTs.app : ∀ {vs us : List V} {ds es : List PyData}, DhTs K H vs ds → DhTs K H us es → DhTs K H (vs ++ us) (ds ++ es)
  | [], _, [], _, _, h => h
  | _ :: vs, us, _ :: ds, es, ⟨a, r⟩, h => ⟨a, DhTs.app (vs := vs) (us := us) (ds := ds) (es := es) r h⟩
theorem DhTs.same (s : Same H H') : ∀ {vs : List V} {ds : List PyData}, DhTs K H vs ds → DhTs K H' vs ds
  | [], [], _ => trivial
  | _ :: _, _ :: _, ⟨a, r⟩ => ⟨a.same s, r.same s⟩
theorem dht_tup {a : Addr} {vs : List V} {ds : List PyData} (h : SqT K H a vs) (r : DhTs K H vs ds) : DhT K H (.ref a) (.tuple ds) := .tup h r.len r.get
theorem dht_lst {a : Addr} {vs : List V} {ds : List PyData} (h : H a = some (.lst vs)) (r : DhTs K H vs ds) : DhT K H (.ref a) (.list ds) := .lst h r.len r.get
theorem dhts_ints : ∀ ns : List Int, DhTs K H (ns.map V.int) (ns.map PyData.int)
  | [] => trivial
  | _ :: ns => ⟨.int _, dhts_ints ns⟩
theorem dhts_tups : ∀ {as : List Addr} {cs : List (List Int)}, TupsAt K H as cs → DhTs K H (as.map V.ref) (cs.map intsT)
  | [], [], _ => trivial
  | _ :: _, _ :: _, ⟨h, r⟩ => ⟨dht_tup (st_of h) (dhts_ints _), dhts_tups r⟩
def twoD (p : Int × Int) : PyData := .tuple [.int p.1, .int p.2]
theorem dhts_pairs : ∀ {as : List Addr} {ps : List (Int × Int)}, PairsAt K H as ps → DhTs K H (as.map V.ref) (ps.map twoD)
  | [], [], _ => trivial
  | _ :: _, _ :: _, ⟨h, r⟩ => ⟨dht_tup h ⟨.int _, .int _, trivial⟩, dhts_pairs r⟩
def kindD (t e : Int) : Kind → PyData
  | .codes cs => .tuple [.str "codes", .int t, .int e, .tuple (cs.map intsT)]
  | .escapes m prs => .tuple [.str "escapes", .int t, .int e, .int m, .tuple (prs.map twoD)]
  | .counts l => .tuple [.str "counts", .int t, .int e, .int l]
  | .ranks => .tuple [.str "ranks", .int t, .int e]
def turnD : List (List Int) → PyData → PyData
  | [], d => d
  | s :: r, d => .tuple [.str "turned", intsT s, turnD r d]
def wayD (w : Way) : PyData := turnD w.ts (kindD w.t w.e w.k)
theorem KindAt.dht {p : Addr} {t e : Int} : ∀ {k : Kind}, KindAt K H p t e k → DhT K H (.ref p) (kindD t e k)
  | .codes cs, ⟨c, as, h1, h2, h3⟩ => dht_tup h1 ⟨.str _ (by decide +kernel), .int _, .int _, dht_tup h2.st (dhts_tups h3), trivial⟩
  | .escapes m prs, ⟨c, as, h1, h2, h3⟩ => dht_tup h1 ⟨.str _ (by decide +kernel), .int _, .int _, .int _, dht_tup h2 (dhts_pairs h3), trivial⟩
  | .counts l, h => dht_tup h ⟨.str _ (by decide +kernel), .int _, .int _, .int _, trivial⟩
  | .ranks, h => dht_tup h ⟨.str _ (by decide +kernel), .int _, .int _, trivial⟩
theorem TurnAt.dht {u : V} {d : PyData} (hu : DhT K H u d) : ∀ {tas : List (Addr × List Int)} {v : V}, TurnAt K H tas v u → DhT K H v (turnD (tas.map (·.2)) d)
  | [], _, h => by
    have h : _ = u := h
    rw [h]
    exact hu
  | (a, t) :: r, _, ⟨p, x, rfl, h1, h2, h3⟩ => dht_tup h1 ⟨.str _ (by decide +kernel), dht_tup h2.st (dhts_ints t), h3.dht hu, trivial⟩
theorem WayAt.dht {v : V} {w : Way} (h : WayAt K H v w) : DhT K H v (wayD w) := by
  obtain ⟨tas, p, e, ht, hk⟩ := h
  unfold wayD
  rw [← e]
  exact ht.dht hk.dht
end
/-! ### how deep, how long -/
theorem depth_tupI (c : List Int) : (intsT c).depth ≤ 1 := by
  unfold intsT
  rw [PyData.depth, depth_ints]
  decide
theorem depth_pair (p : Int × Int) : (twoD p).depth ≤ 1 := by
  unfold twoD
  simp [PyData.depth, PyData.depthAll]
theorem depthAll_map {α : Type} {f : α → PyData} {n : Nat} : ∀ {l : List α}, (∀ x ∈ l, (f x).depth ≤ n) → PyData.depthAll (l.map f) ≤ n
  | [], _ => by simp [PyData.depthAll]
  | x :: l, h => by
    have a := h x List.mem_cons_self
    have b := depthAll_map (l := l) fun y m => h y (List.mem_cons_of_mem _ m)
    rw [List.map_cons, PyData.depthAll]
    omega
theorem smallAll_map {α : Type} {f : α → PyData} : ∀ {l : List α}, (∀ x ∈ l, SmallD (f x)) → SmallAll (l.map f)
  | [], _ => trivial
  | x :: l, h => ⟨h x List.mem_cons_self, smallAll_map fun y m => h y (List.mem_cons_of_mem _ m)⟩
theorem noDictA_map {α : Type} {f : α → PyData} : ∀ {l : List α}, (∀ x ∈ l, NoDict (f x)) → NoDictA (l.map f)
  | [], _ => trivial
  | x :: l, h => ⟨h x List.mem_cons_self, noDictA_map fun y m => h y (List.mem_cons_of_mem _ m)⟩
theorem small_tupI {c : List Int} (h : c.length ≤ 50000) : SmallD (intsT c) := ⟨by rw [List.length_map]; exact h, small_intsA c⟩
theorem noDict_tupI (c : List Int) : NoDict (intsT c) := noDictA_map (f := PyData.int) fun _ _ => trivial
theorem kindD_ok (t e : Int) : ∀ {k : Kind}, Kind3 k → (kindD t e k).depth ≤ 3 ∧ SmallD (kindD t e k) ∧ NoDict (kindD t e k)
  | .codes cs, h => by
    have d := depthAll_map (f := intsT) (n := 1) (l := cs) fun x _ => depth_tupI x
    refine ⟨?_, ⟨by show 4 ≤ 50000; decide, trivial, trivial, trivial, ⟨by rw [List.length_map]; have := h.2; omega, smallAll_map fun x m => small_tupI (by have := (h.1 x m).2.2; omega)⟩, trivial⟩, ⟨trivial, trivial, trivial, noDictA_map fun x _ => noDict_tupI x, trivial⟩⟩
    unfold kindD
    rw [PyData.depth, PyData.depthAll, PyData.depthAll, PyData.depthAll, PyData.depthAll, PyData.depth, PyData.depth, PyData.depth, PyData.depth, PyData.depthAll]
    omega
  | .escapes m prs, h => by
    have d := depthAll_map (f := twoD) (n := 1) (l := prs) fun x _ => depth_pair x
    refine ⟨?_, ⟨by show 5 ≤ 50000; decide, trivial, trivial, trivial, trivial, ⟨by rw [List.length_map]; have := h.2.2; omega, smallAll_map fun x m => ⟨by show 2 ≤ 50000; decide, trivial, trivial, trivial⟩⟩, trivial⟩, ⟨trivial, trivial, trivial, trivial, noDictA_map fun x _ => ⟨trivial, trivial, trivial⟩, trivial⟩⟩
    unfold kindD
    rw [PyData.depth, PyData.depthAll, PyData.depthAll, PyData.depthAll, PyData.depthAll, PyData.depthAll, PyData.depth, PyData.depth, PyData.depth, PyData.depth, PyData.depth, PyData.depthAll]
    omega
  | .counts l, h => ⟨by simp [kindD, PyData.depth, PyData.depthAll], ⟨by show 4 ≤ 50000; decide, trivial, trivial, trivial, trivial, trivial⟩, ⟨trivial, trivial, trivial, trivial, trivial⟩⟩
  | .ranks, h => ⟨by simp [kindD, PyData.depth, PyData.depthAll], ⟨by show 3 ≤ 50000; decide, trivial, trivial, trivial, trivial⟩, ⟨trivial, trivial, trivial, trivial⟩⟩
theorem turnD_ok {d : PyData} {n : Nat} (h1 : d.depth ≤ n) (h2 : SmallD d) (h3 : NoDict d) (n1 : 1 ≤ n) : ∀ {ts : List (List Int)}, (∀ s ∈ ts, Row3 s) → (turnD ts d).depth ≤ n + ts.length ∧ SmallD (turnD ts d) ∧ NoDict (turnD ts d)
  | [], _ => ⟨h1, h2, h3⟩
  | s :: ts, h => by
    obtain ⟨a, b, c⟩ := turnD_ok h1 h2 h3 n1 (ts := ts) fun x m => h x (List.mem_cons_of_mem _ m)
    refine ⟨?_, ⟨by show 3 ≤ 50000; decide, trivial, small_tupI (by have := (h s List.mem_cons_self).2.2; omega), b, trivial⟩, ⟨trivial, noDict_tupI s, c, trivial⟩⟩
    have ds := depth_tupI s
    show (PyData.tuple [.str "turned", intsT s, turnD ts d]).depth ≤ n + (ts.length + 1)
    rw [PyData.depth, PyData.depthAll, PyData.depthAll, PyData.depthAll, PyData.depthAll, PyData.depth]
    omega
theorem wayD_ok {w : Way} (h : Way3 w) (few : w.ts.length ≤ 3) : (wayD w).depth ≤ 6 ∧ SmallD (wayD w) ∧ NoDict (wayD w) := by
  obtain ⟨a, b, c⟩ := kindD_ok w.t w.e h.k
  obtain ⟨a2, b2, c2⟩ := turnD_ok a b c (by decide) h.ts
  exact ⟨by unfold wayD; omega, b2, c2⟩
theorem all_appJ {α : Type} {p : α → Prop} {l m : List α} (h : ∀ x ∈ l, p x) (k : ∀ x ∈ m, p x) : ∀ x ∈ l ++ m, p x := fun x hx => (List.mem_append.mp hx).elim (h x) (k x)
theorem wayS_ok {w : Way} (h : Way3 w) : PyData.strOk (wayS w) = true := by
  have num : ∀ {n : Int}, Num3 n → ∀ c ∈ TL.tl (numS n), c < 128 := fun {n} hn c m => by
    have := numS_digits hn.1 c m
    omega
  have ap : ∀ {x y : Str}, (∀ c ∈ TL.tl x, c < 128) → (∀ c ∈ TL.tl y, c < 128) → ∀ c ∈ TL.tl (x ++ y), c < 128 := fun {x y} h1 h2 c m => by
    rw [TL.tl_append] at m
    exact (List.mem_append.mp m).elim (h1 c) (h2 c)
  have jn : ∀ {y : Str} {ps : List Str}, (∀ c ∈ TL.tl y, c < 128) → (∀ p ∈ ps, ∀ c ∈ TL.tl p, c < 128) → ∀ c ∈ TL.tl (Txt.join y ps), c < 128 := fun {y ps} h1 h2 c m => by
    rw [TL.join_eq, TL.tl_join] at m
    rcases joinL_mem m with z | ⟨x, hx, z⟩
    · exact h1 c z
    · obtain ⟨p, hp, rfl⟩ := List.mem_map.mp hx
      exact h2 p hp c z
  have dot : ∀ {ns : List Int}, Row3 ns → ∀ c ∈ TL.tl (dotS ns), c < 128 := fun {ns} hn => jn (by decide +kernel) fun p m => by
    obtain ⟨n, hn2, rfl⟩ := List.mem_map.mp m
    exact num (hn.1 n hn2)
  have pr : ∀ {p : Int × Int}, Num3 p.1 ∧ Num3 p.2 → ∀ c ∈ TL.tl (pairS p), c < 128 := fun {p} hp => ap (ap (num hp.1) (by decide +kernel)) (num hp.2)
  have kw : ∀ x ∈ kindWords w.t w.e w.k, ∀ c ∈ TL.tl x, c < 128 := by
    have h3 := h.k
    have ht := h.t
    have he := h.e
    rw [kindWords_eq]
    refine List.forall_mem_cons.mpr ⟨?_, all_appJ (fun x m => ?_) (fun x m => ?_)⟩
    · generalize w.k = k
      cases k with
      | codes cs => exact (by decide +kernel : ∀ c ∈ TL.tl ("codes" : Str), c < 128)
      | escapes mk prs => exact (by decide +kernel : ∀ c ∈ TL.tl ("escapes" : Str), c < 128)
      | counts l => exact (by decide +kernel : ∀ c ∈ TL.tl ("counts" : Str), c < 128)
      | ranks => exact (by decide +kernel : ∀ c ∈ TL.tl ("ranks" : Str), c < 128)
    · obtain ⟨n, hn, rfl⟩ := List.mem_map.mp m
      refine num ?_
      generalize w.k = k at h3 hn
      cases k with
      | codes cs =>
        rcases List.mem_cons.mp hn with rfl | hn
        · exact ht
        · rw [List.mem_singleton.mp hn]
          exact he
      | escapes mk prs =>
        rcases List.mem_cons.mp hn with rfl | hn
        · exact ht
        · rcases List.mem_cons.mp hn with rfl | hn
          · exact he
          · rw [List.mem_singleton.mp hn]
            exact h3.1
      | counts l =>
        rcases List.mem_cons.mp hn with rfl | hn
        · exact ht
        · rcases List.mem_cons.mp hn with rfl | hn
          · exact he
          · rw [List.mem_singleton.mp hn]
            exact h3
      | ranks =>
        rcases List.mem_cons.mp hn with rfl | hn
        · exact ht
        · rw [List.mem_singleton.mp hn]
          exact he
    · generalize w.k = k at h3 m
      cases k with
      | codes cs =>
        obtain ⟨c, hc, rfl⟩ := List.mem_map.mp m
        exact dot (h3.1 c hc)
      | escapes mk prs =>
        obtain ⟨c, hc, rfl⟩ := List.mem_map.mp m
        exact pr (h3.2.1 c hc)
      | counts l => cases m
      | ranks => cases m
  have tw : ∀ {ts : List (List Int)}, (∀ s ∈ ts, Row3 s) → ∀ x ∈ turnWords ts, ∀ c ∈ TL.tl x, c < 128 := fun {ts} => by
    induction ts with
    | nil =>
      intro _ x m
      cases m
    | cons s ts ih =>
      intro hts x m
      rw [turnWords_cons] at m
      rcases List.mem_append.mp m with m | m
      · rcases List.mem_cons.mp m with rfl | m
        · decide +kernel
        · rw [List.mem_singleton.mp m]
          exact dot (hts s List.mem_cons_self)
      · exact ih (fun s m => hts s (List.mem_cons_of_mem _ m)) x m
  have all := jn (y := " ") (ps := wayWords w) (by decide +kernel) (all_appJ (tw h.ts) kw)
  show (wayS w).cps.all (· < 0x110000) = true
  refine Array.all_eq_true_iff_forall_mem.mpr fun c hc => ?_
  have z := all c (Array.mem_toList_iff.mpr hc)
  exact decide_eq_true (by omega)
end Esc

/-! The errors' classes, from what the written part says of them. -/
namespace Esc
open PySem PySem.W PySem.Calls PySem.Spec PyProof.Rows L2 LamX NdefX
theorem kit_self {K : PySem.W.Frag} {a : Addr} : kitOne K (.ref a) (.ref a) = some true := by
  unfold kitOne
  rw [if_pos (beq_self_eq_true _)]
theorem kit_off {K : PySem.W.Frag} {a b : Addr} (n : (Value.ref a == Value.ref b) = false) (hd : hasDictIn K b = true) (ht : typeIn K (.ref b) = some (.type "type")) (hs : subIn K (.ref a) (.ref b) = some false) : kitOne K (.ref a) (.ref b) = some false := by
  obtain ⟨cd, hc, _⟩ := any_some hd
  have e2 : ((clsIn K b).isSome && typeIn K (.ref b) == some (.type "type")) = true := by rw [hc, ht] <;> rfl
  unfold kitOne
  rw [if_neg (by rw [n]; decide)]
  show (if ((clsIn K b).isSome && typeIn K (.ref b) == some (.type "type")) = true then subIn K (.ref a) (.ref b) else none) = some false
  rw [if_pos e2]
  exact hs
theorem kit_ty {K : PySem.W.Frag} {a : Addr} (hs : subIn K (.ref a) (.type "ValueError") = some true) : kitOne K (.ref a) (.type "ValueError") = some true := by
  unfold kitOne
  rw [if_neg (by intro z; cases eq_of_beq z)]
  exact hs
/-- what the law's code object tells -/
def CodeVs (vs : Array Value) (PT : Addr) : Prop := vs[11]? = some (.ref PT) ∧ ∃ (file : Str) (tf : Tok) (flags : Int) (tg : Tok) (inF : Bool) (text : Int) (tt : Tok), vs.getD 11 .none = .ref PT ∧ vs.getD 18 .none = .str file tf ∧ vs.getD 7 .none = .int flags tg ∧ vs.getD 9 .none = .bool inF ∧ vs.getD 10 .none = .int text tt
def ExcO (C : Addr) (o : Obj) : Prop := ∃ nm q N bs bm sn sub ab col dd k0 k1 k2 k3 k5, o = excClassObj nm q C N bs bm true sn sub ab col dd k0 k1 k2 k3 k5 "ValueError.__new__" ∧ HandSPX.refsVE bm = true
theorem excO_cls {K : PySem.W.Frag} {C : Addr} {o : Obj} (l : K.lookup C = some o) (e : ExcO C o) : ∃ nm q N bs bm sn sub ab col dd k0 k1 k2 k3 k5, K.lookup C = some (excClassObj nm q C N bs bm true sn sub ab col dd k0 k1 k2 k3 k5 "ValueError.__new__") ∧ HandSPX.refsVE bm = true := by
  obtain ⟨nm, q, N, bs, bm, sn, sub, ab, col, dd, k0, k1, k2, k3, k5, rfl, h⟩ := e
  exact ⟨nm, q, N, bs, bm, sn, sub, ab, col, dd, k0, k1, k2, k3, k5, l, h⟩
/-- their addresses -/
def cAt (c0 c1 c2 c3 c4 : Addr) : Nat → Addr := fun i => [c0, c1, c2, c3, c4].getD i 0
theorem excTab_mk {K : PySem.W.Frag} {h : Heap} {mg : Str → Option Value} {c0 c1 c2 c3 c4 cR : Addr} (X : K.In h) (G : h.Ns mainGlobals mg)
    (a0 : nsIn K mainGlobals "BadWay" = some (some (.ref c0)))
    (a1 : nsIn K mainGlobals "BadBody" = some (some (.ref c1)))
    (a2 : nsIn K mainGlobals "BadSigns" = some (some (.ref c2)))
    (a3 : nsIn K mainGlobals "OtherTop" = some (some (.ref c3)))
    (a4 : nsIn K mainGlobals "BadText" = some (some (.ref c4)))
    (aR : nsIn K mainGlobals "RowError" = some (some (.ref cR)))
    (zV : nsIn K mainGlobals "ValueError" = some none)
    (n01 : (Value.ref c0 == Value.ref c1) = false)
    (s01 : subIn K (.ref c0) (.ref c1) = some false)
    (n02 : (Value.ref c0 == Value.ref c2) = false)
    (s02 : subIn K (.ref c0) (.ref c2) = some false)
    (n03 : (Value.ref c0 == Value.ref c3) = false)
    (s03 : subIn K (.ref c0) (.ref c3) = some false)
    (n04 : (Value.ref c0 == Value.ref c4) = false)
    (s04 : subIn K (.ref c0) (.ref c4) = some false)
    (n10 : (Value.ref c1 == Value.ref c0) = false)
    (s10 : subIn K (.ref c1) (.ref c0) = some false)
    (n12 : (Value.ref c1 == Value.ref c2) = false)
    (s12 : subIn K (.ref c1) (.ref c2) = some false)
    (n13 : (Value.ref c1 == Value.ref c3) = false)
    (s13 : subIn K (.ref c1) (.ref c3) = some false)
    (n14 : (Value.ref c1 == Value.ref c4) = false)
    (s14 : subIn K (.ref c1) (.ref c4) = some false)
    (n20 : (Value.ref c2 == Value.ref c0) = false)
    (s20 : subIn K (.ref c2) (.ref c0) = some false)
    (n21 : (Value.ref c2 == Value.ref c1) = false)
    (s21 : subIn K (.ref c2) (.ref c1) = some false)
    (n23 : (Value.ref c2 == Value.ref c3) = false)
    (s23 : subIn K (.ref c2) (.ref c3) = some false)
    (n24 : (Value.ref c2 == Value.ref c4) = false)
    (s24 : subIn K (.ref c2) (.ref c4) = some false)
    (n30 : (Value.ref c3 == Value.ref c0) = false)
    (s30 : subIn K (.ref c3) (.ref c0) = some false)
    (n31 : (Value.ref c3 == Value.ref c1) = false)
    (s31 : subIn K (.ref c3) (.ref c1) = some false)
    (n32 : (Value.ref c3 == Value.ref c2) = false)
    (s32 : subIn K (.ref c3) (.ref c2) = some false)
    (n34 : (Value.ref c3 == Value.ref c4) = false)
    (s34 : subIn K (.ref c3) (.ref c4) = some false)
    (n40 : (Value.ref c4 == Value.ref c0) = false)
    (s40 : subIn K (.ref c4) (.ref c0) = some false)
    (n41 : (Value.ref c4 == Value.ref c1) = false)
    (s41 : subIn K (.ref c4) (.ref c1) = some false)
    (n42 : (Value.ref c4 == Value.ref c2) = false)
    (s42 : subIn K (.ref c4) (.ref c2) = some false)
    (n43 : (Value.ref c4 == Value.ref c3) = false)
    (s43 : subIn K (.ref c4) (.ref c3) = some false)
    (v0 : subIn K (.ref c0) (.type "ValueError") = some true)
    (r0 : subIn K (.ref c0) (.ref cR) = some true)
    (g0 : findIn K (.ref c0) "__getattribute__" = some (some (.builtin "BaseException.__getattribute__")))
    (k0 : findIn K (.ref c0) "__getattr__" = some none)
    (e0 : subIn K (.ref c0) (.type "BaseException") = some true)
    (d0 : hasDictIn K c0 = true)
    (b0 : findIn K (.ref c0) "__class__" = some (some (.builtin "object.__class__")))
    (m0 : mroIn K c0 (.type "object") = some true)
    (t0 : typeIn K (.ref c0) = some (.type "type"))
    (v1 : subIn K (.ref c1) (.type "ValueError") = some true)
    (r1 : subIn K (.ref c1) (.ref cR) = some true)
    (g1 : findIn K (.ref c1) "__getattribute__" = some (some (.builtin "BaseException.__getattribute__")))
    (k1 : findIn K (.ref c1) "__getattr__" = some none)
    (e1 : subIn K (.ref c1) (.type "BaseException") = some true)
    (d1 : hasDictIn K c1 = true)
    (b1 : findIn K (.ref c1) "__class__" = some (some (.builtin "object.__class__")))
    (m1 : mroIn K c1 (.type "object") = some true)
    (t1 : typeIn K (.ref c1) = some (.type "type"))
    (v2 : subIn K (.ref c2) (.type "ValueError") = some true)
    (r2 : subIn K (.ref c2) (.ref cR) = some true)
    (g2 : findIn K (.ref c2) "__getattribute__" = some (some (.builtin "BaseException.__getattribute__")))
    (k2 : findIn K (.ref c2) "__getattr__" = some none)
    (e2 : subIn K (.ref c2) (.type "BaseException") = some true)
    (d2 : hasDictIn K c2 = true)
    (b2 : findIn K (.ref c2) "__class__" = some (some (.builtin "object.__class__")))
    (m2 : mroIn K c2 (.type "object") = some true)
    (t2 : typeIn K (.ref c2) = some (.type "type"))
    (v3 : subIn K (.ref c3) (.type "ValueError") = some true)
    (r3 : subIn K (.ref c3) (.ref cR) = some true)
    (g3 : findIn K (.ref c3) "__getattribute__" = some (some (.builtin "BaseException.__getattribute__")))
    (k3 : findIn K (.ref c3) "__getattr__" = some none)
    (e3 : subIn K (.ref c3) (.type "BaseException") = some true)
    (d3 : hasDictIn K c3 = true)
    (b3 : findIn K (.ref c3) "__class__" = some (some (.builtin "object.__class__")))
    (m3 : mroIn K c3 (.type "object") = some true)
    (t3 : typeIn K (.ref c3) = some (.type "type"))
    (v4 : subIn K (.ref c4) (.type "ValueError") = some true)
    (r4 : subIn K (.ref c4) (.ref cR) = some true)
    (g4 : findIn K (.ref c4) "__getattribute__" = some (some (.builtin "BaseException.__getattribute__")))
    (k4 : findIn K (.ref c4) "__getattr__" = some none)
    (e4 : subIn K (.ref c4) (.type "BaseException") = some true)
    (d4 : hasDictIn K c4 = true)
    (b4 : findIn K (.ref c4) "__class__" = some (some (.builtin "object.__class__")))
    (m4 : mroIn K c4 (.type "object") = some true)
    (t4 : typeIn K (.ref c4) = some (.type "type"))
    (gs : specialIn K (.builtin "object.__class__") "__get__" = some (some (.builtin "getset_descriptor.__get__")))
    (gt : takesIn K (.builtin "object.__class__") = some true)
    (eR : subIn K (.ref cR) (.type "BaseException") = some true)
    (dR : hasDictIn K cR = true)
    (tR : typeIn K (.ref cR) = some (.type "type"))
    (w0 : findIn K (.ref c0) "why" = some none)
    (w1 : findIn K (.ref c1) "at" = some none)
    (w2 : findIn K (.ref c2) "at" = some none) :
    ExcTab K mg (cAt c0 c1 c2 c3 c4) cR where
  mW := mg_of X G a0
  mB := mg_of X G a1
  mS := mg_of X G a2
  mT := mg_of X G a3
  mX := mg_of X G a4
  mR := mg_of X G aR
  val := mg_none_of X G zV
  one := fun i hi j hj => by
    match i, j, hi, hj with
    | 0, 0, _, _ => exact kit_self
    | 0, 1, _, _ => exact kit_off n01 d1 t1 s01
    | 0, 2, _, _ => exact kit_off n02 d2 t2 s02
    | 0, 3, _, _ => exact kit_off n03 d3 t3 s03
    | 0, 4, _, _ => exact kit_off n04 d4 t4 s04
    | 1, 0, _, _ => exact kit_off n10 d0 t0 s10
    | 1, 1, _, _ => exact kit_self
    | 1, 2, _, _ => exact kit_off n12 d2 t2 s12
    | 1, 3, _, _ => exact kit_off n13 d3 t3 s13
    | 1, 4, _, _ => exact kit_off n14 d4 t4 s14
    | 2, 0, _, _ => exact kit_off n20 d0 t0 s20
    | 2, 1, _, _ => exact kit_off n21 d1 t1 s21
    | 2, 2, _, _ => exact kit_self
    | 2, 3, _, _ => exact kit_off n23 d3 t3 s23
    | 2, 4, _, _ => exact kit_off n24 d4 t4 s24
    | 3, 0, _, _ => exact kit_off n30 d0 t0 s30
    | 3, 1, _, _ => exact kit_off n31 d1 t1 s31
    | 3, 2, _, _ => exact kit_off n32 d2 t2 s32
    | 3, 3, _, _ => exact kit_self
    | 3, 4, _, _ => exact kit_off n34 d4 t4 s34
    | 4, 0, _, _ => exact kit_off n40 d0 t0 s40
    | 4, 1, _, _ => exact kit_off n41 d1 t1 s41
    | 4, 2, _, _ => exact kit_off n42 d2 t2 s42
    | 4, 3, _, _ => exact kit_off n43 d3 t3 s43
    | 4, 4, _, _ => exact kit_self
  isv := fun i hi => by
    match i, hi with
    | 0, _ => exact kit_ty v0
    | 1, _ => exact kit_ty v1
    | 2, _ => exact kit_ty v2
    | 3, _ => exact kit_ty v3
    | 4, _ => exact kit_ty v4
  exc := fun i hi => by
    match i, hi with
    | 0, _ => exact ⟨g0, k0, e0, d0, b0, gs, gt, m0⟩
    | 1, _ => exact ⟨g1, k1, e1, d1, b1, gs, gt, m1⟩
    | 2, _ => exact ⟨g2, k2, e2, d2, b2, gs, gt, m2⟩
    | 3, _ => exact ⟨g3, k3, e3, d3, b3, gs, gt, m3⟩
    | 4, _ => exact ⟨g4, k4, e4, d4, b4, gs, gt, m4⟩
  xf := fun i hi => by
    match i, hi with
    | 0, _ => exact ⟨g0, k0, e0, d0⟩
    | 1, _ => exact ⟨g1, k1, e1, d1⟩
    | 2, _ => exact ⟨g2, k2, e2, d2⟩
    | 3, _ => exact ⟨g3, k3, e3, d3⟩
    | 4, _ => exact ⟨g4, k4, e4, d4⟩
  noW := w0
  noA1 := w1
  noA2 := w2
  row := fun i hi => by
    match i, hi with
    | 0, _ => exact exm_ref eR dR tR r0
    | 1, _ => exact exm_ref eR dR tR r1
    | 2, _ => exact exm_ref eR dR tR r2
    | 3, _ => exact exm_ref eR dR tR r3
    | 4, _ => exact exm_ref eR dR tR r4
end Esc

/-! Lists of lists that grow while dice are thrown. -/
namespace Esc
open PySem PySem.Spec PyProof.Rows L2
theorem hide_at {d a : Addr} {H H' : Hp} {o : HO} (s : Same (hide d H) H') (n : a ≠ d) (h : H a = some o) : H' a = some o := s _ _ ((hide_ne n).trans h)
/-- good rows, each at its own place -/
def Rw (H : Hp) (d r : Addr) (t : Int) (n : Nat) (as : List Addr) : Prop := ∀ b ∈ as, b ≠ r ∧ b ≠ d ∧ ∃ ns : List Int, H b = some (.lst (ns.map V.int)) ∧ (∀ x ∈ ns, 0 ≤ x ∧ x < t) ∧ ns.length ≤ n
theorem Rw.step {H H' : Hp} {d r : Addr} {t : Int} {n : Nat} {as : List Addr} (s : Same (hide d H) H') (h : Rw H d r t n as) : Rw H' d r t n as := fun b hb => by
  obtain ⟨h1, h2, ns, e, k⟩ := h b hb
  exact ⟨h1, h2, ns, hide_at s h2 e, k⟩
theorem Rw.push {H : Hp} {d r b : Addr} {t : Int} {n : Nat} {as : List Addr} {o : HO} {ns : List Int} (h : Rw H d r t n as) (h1 : b ≠ r) (h2 : b ≠ d) (e : H b = some (.lst (ns.map V.int))) (k : ∀ x ∈ ns, 0 ≤ x ∧ x < t) (l : ns.length ≤ n) : Rw (upd H r o) d r t n (as ++ [b]) := fun c hc => by
  rcases List.mem_append.mp hc with m | m
  · obtain ⟨g1, g2, ms, f, k'⟩ := h c m
    exact ⟨g1, g2, ms, (upd_ne g1).trans f, k'⟩
  · rw [List.mem_singleton.mp m]
    exact ⟨h1, h2, ns, (upd_ne h1).trans e, k, l⟩
theorem rep_in {t x : Int} {k : Nat} (h : 0 ≤ x ∧ x < t) : ∀ y ∈ List.replicate k x, 0 ≤ y ∧ y < t := fun y hy => by
  rw [(List.mem_replicate.mp hy).2]
  exact h
theorem app_in {t : Int} {a b : List Int} (h : ∀ x ∈ a, 0 ≤ x ∧ x < t) (k : ∀ x ∈ b, 0 ≤ x ∧ x < t) : ∀ x ∈ a ++ b, 0 ≤ x ∧ x < t := fun x hx => by
  rcases List.mem_append.mp hx with m | m
  · exact h x m
  · exact k x m
theorem one_in {t y : Int} (h : 0 ≤ y ∧ y < t) : ∀ x ∈ [y], 0 ≤ x ∧ x < t := fun x hx => by
  rw [List.mem_singleton.mp hx]
  exact h
theorem take_in {t : Int} {a : List Int} {k : Nat} (h : ∀ x ∈ a, 0 ≤ x ∧ x < t) : ∀ x ∈ a.take k, 0 ≤ x ∧ x < t := fun x hx => h x (List.mem_of_mem_take hx)
theorem drop_in {t : Int} {a : List Int} {k : Nat} (h : ∀ x ∈ a, 0 ≤ x ∧ x < t) : ∀ x ∈ a.drop k, 0 ≤ x ∧ x < t := fun x hx => h x (List.mem_of_mem_drop hx)
end Esc

/-! The law's table of code objects, carried through a law; lists alone change. -/
namespace Esc
open PySem PySem.Spec PyProof.Rows L2 LamX
/-- all but lists stay -/
def Nl (H H' : Hp) : Prop := ∀ a o, H a = some o → (∀ ys, o ≠ .lst ys) → H' a = some o
theorem Nl.refl (H : Hp) : Nl H H := fun _ _ h _ => h
theorem Nl.trans {H H1 H2 : Hp} (a : Nl H H1) (b : Nl H1 H2) : Nl H H2 := fun c o h n => b c o (a c o h n) n
theorem Nl.of {H H' : Hp} (s : Same H H') : Nl H H' := fun a o h _ => s a o h
theorem Nl.put {H : Hp} {l : Addr} {xs : List V} {o : HO} (h : H l = some (.lst xs)) : Nl H (upd H l o) := fun a u e k => by
  by_cases c : a = l
  · rw [c, h] at e
    cases e
    exact absurd rfl (k xs)
  · exact (upd_ne c).trans e
theorem Nl.new {H : Hp} {l : Addr} {o : HO} (h : H l = none) : Nl H (upd H l o) := Nl.of (same_new h)
theorem Nl.hide {H H' : Hp} {l : Addr} {xs : List V} (h : H l = some (.lst xs)) (s : Same (hide l H) H') : Nl H H' := fun a u e k => by
  by_cases c : a = l
  · rw [c, h] at e
    cases e
    exact absurd rfl (k xs)
  · exact hide_at s c e
theorem Nl.dice {H H' : Hp} {d : Addr} (h : DiceAt H d) (s : Same (Esc.hide d H) H') : Nl H H' := by
  obtain ⟨xs, e⟩ := h.lst
  exact Nl.hide e s
theorem Nl.tp {H H' : Hp} (n : Nl H H') : Same (tp H) (tp H') := tp_up fun b o e => by
  have z := tp_of e
  refine n b o z.2 fun ys y => ?_
  rw [y] at z
  cases z.1
theorem tabs_nl {T : List (Addr × Str)} {H H' : Hp} (n : Nl H H') (t : Tabs T H) : Tabs T H' := fun p hp => by
  obtain ⟨ps, h1, h2, h3⟩ := t p hp
  refine ⟨ps, n _ _ h1 (fun ys z => by cases z), h2, fun pos cv hc => ?_⟩
  obtain ⟨c, e1, e2⟩ := h3 pos cv hc
  exact ⟨c, e1, n _ _ e2 (fun ys z => by
    have z : HO.ext _ = HO.lst ys := z
    cases z)⟩
theorem tabs_hid {T : List (Addr × Str)} {S : List Addr} {H H' : Hp} (k : ∀ a ∈ S, ∀ o, H a = some o → (∃ ys, o = .lst ys) ∨ ∃ C dx fs, o = .ins C dx fs) (s : Same (hid S H) H') (t : Tabs T H) : Tabs T H' := fun p hp => by
  obtain ⟨ps, h1, h2, h3⟩ := t p hp
  refine ⟨ps, s _ _ (hid_at (fun m => ?_) h1), h2, fun pos cv hc => ?_⟩
  · rcases k _ m _ h1 with ⟨ys, z⟩ | ⟨C, dx, fs, z⟩ <;> cases z
  · obtain ⟨c, e1, e2⟩ := h3 pos cv hc
    refine ⟨c, e1, s _ _ (hid_at (fun m => ?_) e2)⟩
    rcases k _ m _ e2 with ⟨ys, z⟩ | ⟨C, dx, fs, z⟩
    · have z : HO.ext _ = HO.lst ys := z
      cases z
    · have z : HO.ext _ = HO.ins C dx fs := z
      cases z
theorem tabs_nil {H : Hp} {PT : Addr} (h : H PT = some (.tbl #[])) (q : Str) : Tabs [(PT, q)] H := fun p hp => by
  rw [List.mem_singleton.mp hp]
  exact TabS.nil h
theorem ext_at {H H' : Hp} {a : Addr} {xs : List V} (e : ExtN H H') (h : H a = some (.lst xs)) : H' a = some (.lst xs) := e a _ h (fun ps z => by cases z)
theorem ext_tp {H H' : Hp} (e : ExtN H H') : Same (tp H) (tp H') := tp_up fun b o h => by
  have z := tp_of h
  refine e b o z.2 fun ps y => ?_
  rw [y] at z
  cases z.1
theorem ext_ins {H H' : Hp} {a : Addr} {C dx : Addr} {fs : List (Str × V)} (e : ExtN H H') (h : H a = some (.ins C dx fs)) : H' a = some (.ins C dx fs) := e a _ h (fun ps z => by cases z)
theorem DiceAt.ext {H H' : Hp} {d : Addr} (h : DiceAt H d) (e : ExtN H H') : DiceAt H' d := by
  obtain ⟨x, c, r, a, b⟩ := h
  exact ⟨x, c, r, ext_at e a, b⟩
theorem free_ext {H H' : Hp} {a : Addr} (e : ExtN H H') (n : H' a = none) : H a = none ∨ ∃ ps, H a = some (.tbl ps) := by
  cases h : H a with
  | none => exact .inl rfl
  | some o =>
    by_cases k : ∃ ps, o = .tbl ps
    · obtain ⟨ps, rfl⟩ := k
      exact .inr ⟨ps, rfl⟩
    · have z := e a o h fun ps y => k ⟨ps, y⟩
      rw [n] at z
      cases z
/-- lists of ints told alike -/
theorem alkR {H : Hp} {Q : VK} {a b : Addr} {xs ys : List Int} {n : Nat} {E : XK} (ha : H a = some (.lst (xs.map V.int))) (hb : H b = some (.lst (ys.map V.int))) (hl : ys.length ≤ 50000) (hn : 1 ≤ n) (q : ∀ H', Same H H' → Q (.bl (decide (xs = ys))) H') : spAlikeD n [.ref a, .ref b] H Q E :=
  ⟨_, _, _, _, rfl, dh_ints ha, dh_ints hb, small_ints hl, Nat.le_trans (depth_ints' ys) hn, fun H' s => by
    rw [sameD, same_intsA]
    exact q H' s⟩
theorem alkO {H : Hp} {Q : VK} {u v : V} {E : XK} : ∀ {o : Option (List Int)}, OptAt H u o → OptAt H v o → (∀ b, o = some b → b.length ≤ 50000) → (∀ H', Same H H' → Q (.bl true) H') → spAlikeD 3 [u, v] H Q E
  | none, h1, h2, _, q => by
    have h1 : u = .non := h1
    have h2 : v = .non := h2
    subst h1
    subst h2
    refine ⟨_, _, .none, .none, rfl, .non, .non, trivial, by simp [PyData.depth], fun H' s => ?_⟩
    rw [show sameD PyData.none PyData.none = true from sameD_refl .none trivial]
    exact q H' s
  | some b, h1, h2, hl, q => by
    obtain ⟨a1, rfl, e1⟩ : ∃ a, u = V.ref a ∧ H a = some (HO.lst (b.map V.int)) := h1
    obtain ⟨a2, rfl, e2⟩ : ∃ a, v = V.ref a ∧ H a = some (HO.lst (b.map V.int)) := h2
    exact alkR e1 e2 (hl b rfl) (by decide) fun H' s => by
      rw [decide_eq_true rfl]
      exact q H' s
theorem tellP {H : Hp} {o : Option (List Int)} {Q : VK} (q : ∀ v H', Same H H' → OptAt H' v o → Q v H') : TellO H o Q :=
  ⟨fun b e p H' hp s h => q _ _ s (by subst e; exact ⟨p, rfl, h⟩), fun e H' s => q _ _ s (by subst e; exact rfl)⟩
/-- lists of signs, each at its address -/
def BodsAt (H : Hp) (t : Int) (bs : List Addr) : Prop := ∀ b ∈ bs, ∃ ns : List Int, H b = some (.lst (ns.map V.int)) ∧ (∀ x ∈ ns, 0 ≤ x ∧ x < t) ∧ ns.length ≤ 60
theorem BodsAt.same {H H' : Hp} {t : Int} {bs : List Addr} (s : Same H H') (h : BodsAt H t bs) : BodsAt H' t bs := fun b hb => by
  obtain ⟨ns, e, r⟩ := h b hb
  exact ⟨ns, s _ _ e, r⟩
theorem i_clear {H : Hp} {Q : VK} {l : Addr} {xs : List V} (h : H l = some (.lst xs)) (q : Q .non (upd H l (.lst []))) : rClear (.ref l) [] H Q := ⟨l, xs, rfl, rfl, h, q⟩
theorem same_put {H H' : Hp} {p : Addr} {o : HO} (s : Same H H') (h : H p = none) : Same H (upd H' p o) := smut s h
end Esc

/-! The law: written and read. -/
namespace Esc
open PySem PySem.Spec PyProof.Rows L2 LamX
abbrev goodQ : Str := (("_law_good" : Str) ++ ".<locals>.") ++ "<lambda>"
theorem word_ok : ∀ z ∈ faultWords, PyData.strOk z = true := by decide +kernel
section
variable {P : Program} {w : World} {K : PySem.W.Frag} {mg : Str → Option Value} {base : Heap} {c : Nat → Addr} {cR : Addr}
def spGood (K : PySem.W.Frag) (PT : Addr) : Sp := fun vs H Q _ => ∃ (v : V) (wy : Way), vs = [v] ∧ WayAt K (tp H) v wy ∧ Way3 wy ∧ wy.ts.length ≤ 4 ∧ Tabs [(PT, goodQ)] H ∧ ∀ H', ExtN H H' → Tabs [(PT, goodQ)] H' → Q (.bl true) H'
set_option maxHeartbeats 2000000 in
theorem c__law_good (Z : Blt mg) (ET : ExcTab K mg c cR) (c__law_why : C8.Cal P w K mg base 3 "_law_why" (spWhy K) []) (c__law_text : C8.Cal P w K mg base 6 "_law_text" (spLText K 4) []) (c_written : C8.Cal P w K mg base 8 "written" (spWritten K) []) (c_read_way : CalXN P w K mg base 8 "read_way" (spReadX K (c 0)))
    (c__law_alike : C8.Cal P w K mg base 9 "_law_alike" (spAlikeT K 8) []) (c__law_is : CalQ P w K mg base 1 "_law_is" (spIs c)) (c__law_alikeQ : CalQ P w K mg base 1 "_law_alike" spAlikeQ) (dr : Dd K mg "_law_refused" s__law_refused P__law_refused) {cc PT : Addr} (TB : TabB base mg cc PT)
    (d : Dc K mg "_law_good" s__law_good P__law_good cc) : C8.Cal P w K mg base 12 "_law_good" (spGood K PT) [] := by
  obtain ⟨fr, fdr, Fr, br⟩ := dr.ex
  obtain ⟨ocr, odr, dVr, kVr, docr, pmr, anr, cdr, ctr, oslr, rfl, lkr, hcdr⟩ := Fr.fn.ex
  refine d.cal sc__law_good (fun vs H Q E h => ?_) (fun f A outer s H vs Q E hr h => ?_)
  · obtain ⟨v, wy, rfl, _⟩ := h
    rfl
  · obtain ⟨v, wy, rfl, hw, w3, l4, hT, q⟩ := h
    have nd := sc__law_good.nd
    have hcode : (cxOf C8.CX0 P w K mg base N__law_good "_law_good" (C8.fnScope s__law_good) f (.ref cc) A outer s H E).nox.env.code = .ref cc := by rfl
    refine ⟨_, (pss_cons (ps_set (i := 1) nd rfl (Or.inl rfl) (C8.pe_c c__law_why hr (by decide) (by rfl) (pa_cons (pv 0) pa_nil)))
  (pss_cons (ps_set (i := 2) nd rfl (Or.inr rfl) (C8.pe_c c__law_text hr (by decide) (by rfl) (pa_cons (pv 0) pa_nil)))
  (pss_cons (ps_if (pt_cmpR k_notN (pv 1) pe_non (nomark _)) (pss_one (ps_ret (pe_lam3 (X := (cxOf C8.CX0 P w K mg base N__law_good "_law_good" (C8.fnScope s__law_good) f (.ref cc) A outer s H E).nox) (hst := rfl) (hfm := rfl) (T := [(PT, (cxOf C8.CX0 P w K mg base N__law_good "_law_good" (C8.fnScope s__law_good) f (.ref cc) A outer s H E).nox.env.qual ++ "<lambda>")]) (TT := TRef c) (a := "_law_work") (ps := ["_law_word", "_law_value"]) (by rfl) Fr.mgf Fr.kp lkr hcdr br sc__law_refused rfl (Or.inl rfl) (fun vs hvs => refused_gives Z ET hvs c__law_is c__law_alikeQ) TB hcode List.mem_cons_self (fun p hp _ => by rw [List.mem_singleton.mp hp]) (k := 8) (by decide) (hr.mono (by decide)) (lamS_by (show lamSB (C8.fnScope s__law_good) _ = true from by decide +kernel)) rfl (fun _ _ _ _ _ => rfl) (fun A outer s H E f c0 hr2 => pe_cxsN c_read_way hr2 (by decide) (by rfl) (fun σ => L2N.passAt (L2N.takes_of rfl rfl rfl rfl) σ) (pa_cons (pv 2) pa_nil)) (pa_cons pe_str (pa_cons (pv 1) pa_nil))))) pss_nil)
  (pss_one (ps_ret (pe_and (C8.pe_c c__law_alike hr (by decide) (by rfl) (pa_cons (C8.pe_c c_written hr (by decide) (by rfl) (pa_cons (pv 0) pa_nil)) (pa_cons (pv 2) pa_nil))) (pe_one (C8.pe_c c__law_alike hr (by decide) (by rfl) (pa_cons (pe_cxN c_read_way hr (by decide) (by rfl) (pa_cons (pv 2) pa_nil)) (pa_cons (pv 0) pa_nil)))))))))), ?_⟩
    refine i_start (σ' := [some v, none, none]) rfl ?_
    walk_at "go"
    walk_at "r"
    refine ⟨v, wy, rfl, hw.same tp_same, w3.k.big2, by omega, fun H1 s1 => ?_⟩
    walk_at "r"
    refine ⟨v, wy, rfl, (hw.same tp_same).same s1, w3, l4, fun H2 s2 => ?_⟩
    have s12 := s1.trans s2
    have T2 := tabs_nl (Nl.of s12) hT
    have hw2 : WayAt K H2 v wy := (hw.same tp_same).same s12
    cases hf : faultW wy with
    | some z =>
      rw [show faultV (some z) = V.str z from rfl]
      walk_at "r"
      refine i_nno (by intro y; cases y) ?_
      walk_at "r"
      refine ⟨T2, fun H3 eN T3 => ?_⟩
      walk_at "r"
      refine ⟨rfl, rfl, "way", .str z, rfl, by decide +kernel, ?_⟩
      refine ⟨.str (wayS wy), rfl, wy, rfl, w3, fun ok => ?_, fun z' hz' H4 dd s4 hdd => ?_⟩
      · rw [faultW_none.mpr ok] at hf
        cases hf
      · rw [hf] at hz'
        cases hz'
        refine ⟨0, by decide, rfl, rfl, .inl ⟨rfl, dd, _, z, rfl, upd_same, rfl, rfl, word_ok z (faultW_word hf)⟩, fun H5 s5 => ?_⟩
        have s35 : Same H3 H5 := (smut s4 (s4.free hdd)).trans s5
        exact q H5 (fun a o e n => s35 _ _ (eN a o (s12 _ _ e) n)) (tabs_nl (Nl.of s35) T3)
    | none =>
      have ok := faultW_none.mp hf
      rw [show faultV none = V.non from rfl]
      walk_at "r"
      refine i_nyes rfl ?_
      walk_at "r"
      refine ⟨v, wy, rfl, hw2, ok, fun H3 s3 => ?_⟩
      have so := wayS_ok w3
      walk_at "r"
      refine ⟨.str (wayS wy), .str (wayS wy), .str (wayS wy), .str (wayS wy), rfl, .str _ so, .str _ so, trivial, by rw [PyData.depth]; decide, fun H4 s4 => ?_⟩
      rw [sameD_refl (.str (wayS wy)) trivial]
      walk_at "r"
      refine ⟨wy, rfl, w3, fun _ u H5 s5 hu => ?_, fun z' hz' => by rw [hf] at hz'; cases hz'⟩
      have hw5 := hw2.same (s3.trans (s4.trans s5))
      obtain ⟨k1, k2, k3⟩ := wayD_ok w3 ok.few
      walk_at "r"
      refine ⟨u, v, wayD wy, wayD wy, rfl, hu.dht, hw5.dht, k2, by omega, fun H6 s6 => ?_⟩
      rw [sameD_refl _ k3]
      have s06 := s12.trans (s3.trans (s4.trans (s5.trans s6)))
      walk_at "r"
      exact q H6 (ExtN.of s06) (tabs_nl (Nl.of s06) hT)
/-- the script, and the table of code objects at PT, empty -/
def spLawT (K : PySem.W.Frag) (PT : Addr) : Sp := fun vs H Q _ => ∃ (a : Addr) (ns : List Int), vs = [.ref a] ∧ SqL K H a (ns.map V.int) ∧ ns.length ≤ 63 ∧ H PT = some (.tbl #[]) ∧ ∀ H', Q (.bl true) H'
structure S18 (K : PySem.W.Frag) (PT : Addr) (H : Hp) (d lz : Addr) (v0 v1 : V) (wy0 wy1 : Way) : Prop where
  dice : DiceAt H d
  ls : H lz = some (.lst [v0, v1, v0])
  w0 : WayAt K (tp H) v0 wy0
  w1 : WayAt K (tp H) v1 wy1
  tabs : Tabs [(PT, goodQ)] H
theorem S18.ext {PT : Addr} {H H' : Hp} {d lz : Addr} {v0 v1 : V} {wy0 wy1 : Way} (S : S18 K PT H d lz v0 v1 wy0 wy1) (e : ExtN H H') (t : Tabs [(PT, goodQ)] H') : S18 K PT H' d lz v0 v1 wy0 wy1 :=
  ⟨S.dice.ext e, ext_at e S.ls, S.w0.same (ext_tp e), S.w1.same (ext_tp e), t⟩
theorem S18.roll {PT : Addr} {H H' : Hp} {d lz : Addr} {v0 v1 : V} {wy0 wy1 : Way} (S : S18 K PT H d lz v0 v1 wy0 wy1) (n : lz ≠ d) (s : Same (hide d H) H') (dd : DiceAt H' d) : S18 K PT H' d lz v0 v1 wy0 wy1 :=
  ⟨dd, s _ _ ((hide_ne n).trans S.ls), S.w0.same (tp_dice S.dice s), S.w1.same (tp_dice S.dice s), tabs_nl (Nl.dice S.dice s) S.tabs⟩
set_option maxHeartbeats 2000000 in
theorem c_law (Z : Blt mg) {PT : Addr} (c__law_dice : C8.Cal P w K mg base 1 "_law_dice" (spDice K) []) (c__law_way : C8.Cal P w K mg base 5 "_law_way" (spWay K) []) (c__law_why : C8.Cal P w K mg base 3 "_law_why" (spWhy K) []) (c__law_good : C8.Cal P w K mg base 12 "_law_good" (spGood K PT) []) (c__law_other : C8.Cal P w K mg base 3 "_law_other" (spOther K) [])
    {f : Addr} {fd : FuncData} (F : C8.Def K mg "law" s_law f fd) : FnOk P w K mg base C8.CX0 13 f fd P_law (spLawT K PT) := by
  refine C8.fn0 F.fn sc_law (fun vs H Q E h => ?_) (fun cdv A outer s H vs Q E hr h => ?_)
  · obtain ⟨a, ns, rfl, _⟩ := h
    rfl
  · obtain ⟨a, ns, rfl, ha, hl, ht, q⟩ := h
    have nd := sc_law.nd
    refine ⟨_, (pss_cons (ps_set (i := 1) nd rfl (Or.inl rfl) (C8.pe_c c__law_dice hr (by decide) (by rfl) (pa_cons (pv 0) (pa_cons pe_int pa_nil))))
  (pss_cons (ps_set (i := 2) nd rfl (Or.inl rfl) (pe_lst (pa_cons (C8.pe_c c__law_way hr (by decide) (by rfl) (pa_cons (pv 1) pa_nil)) (pa_cons (C8.pe_c c__law_way hr (by decide) (by rfl) (pa_cons (pv 1) pa_nil)) pa_nil))))
  (pss_cons (ps_for PassesOwn.never rfl (pi_list (pe_op op_cat (pv 2) (pe_slice sl_list (pv 2) po_none (po_some pe_int)))) (pg_name (i := 3) nd rfl (Or.inl rfl))
    (pss_one (ps_if (PW.pt (pw_or (pt_cmpR k_notN (C8.pe_c c__law_why hr (by decide) (by rfl) (pa_cons (pv 3) pa_nil)) pe_non (nomark _)) (pw_or (pt_not (pt_val (C8.pe_c c__law_good hr (by decide) (by rfl) (pa_cons (pv 3) pa_nil)))) (pw_or1 (pt_not (pt_val (C8.pe_c c__law_good hr (by decide) (by rfl) (pa_cons (C8.pe_c c__law_other hr (by decide) (by rfl) (pa_cons (pv 1) (pa_cons (pv 3) pa_nil))) pa_nil)))))))) (pss_one (ps_ret pe_bl)) pss_nil)))
  (pss_one (ps_ret pe_bl))))), ?_⟩
    refine i_start (σ' := [some (.ref a), none, none, none]) rfl ?_
    walk_at "go"
    walk_at "r"
    refine ⟨a, ns, 0, rfl, ha, by decide, by decide, hl, fun d H1 hd1 s1 d1 => ?_⟩
    have t1 := s1 _ _ ht
    walk_at "r"
    refine ⟨d, rfl, d1, fun H2 v0 wy0 ok0 s2 d2 hw0 => ?_⟩
    have t2 := Nl.dice d1 s2 _ _ t1 (fun ys z => by cases z)
    walk_at "r"
    refine ⟨d, rfl, d2, fun H3 v1 wy1 ok1 s3 d3 hw1 => ?_⟩
    have t3 := Nl.dice d2 s3 _ _ t2 (fun ys z => by cases z)
    have hw03 := hw0.same (tp_dice d2 s3)
    walk_at "r"
    refine i_lst (by show 2 ≤ sizeLine; decide) (fun lw H4 hlw s4 elw => ?_)
    walk_at "r"
    refine i_slL (sl_of elw) (fun l5 H5 hl5 s5 e5 => ?_)
    have e5 : H5 l5 = some (.lst [v0]) := by
      rw [e5, show (1 : Int) = ((1 : Nat) : Int) from rfl, cut_to]
      rfl
    walk_at "r"
    refine i_cat (s5 _ _ elw) e5 (by show 2 + 1 ≤ sizeLine; decide) (fun lz H6 hlz s6 e6 => ?_)
    have s36 := s4.trans (s5.trans s6)
    have d6 := d3.same s36
    have nz : lz ≠ d := (d3.same (s4.trans s5)).ne hlz
    have S : S18 K PT H6 d lz v0 v1 wy0 wy1 := ⟨d6, e6, hw03.same (tp_pure s36), hw1.same (tp_pure s36), tabs_nil (s36 _ _ t3) _⟩
    walk_at "r"
    refine i_for (sl_of e6) (fun i σ' H' => ∃ x, σ' = [some (.ref a), some (.ref d), some (.ref lw), x] ∧ S18 K PT H' d lz v0 v1 wy0 wy1) ⟨_, rfl, S⟩ (fun i σ' H' _ ⟨_, _, S'⟩ => sl_of S'.ls) (fun i x σ' H' hi pv => ?_) (fun σ' H' pv => ?_)
    · clear S
      obtain ⟨y, rfl, S⟩ := pv
      obtain ⟨wy, ok, hwx⟩ : ∃ wy : Way, wy.Ok ∧ ∀ H, S18 K PT H d lz v0 v1 wy0 wy1 → WayAt K (tp H) x wy := by
        have il := (List.getElem?_eq_some_iff.mp hi).1
        have il : i < 3 := il
        rcases (show i = 0 ∨ i = 1 ∨ i = 2 by omega) with rfl | rfl | rfl
        · cases hi
          exact ⟨wy0, ok0, fun H S => S.w0⟩
        · cases hi
          exact ⟨wy1, ok1, fun H S => S.w1⟩
        · cases hi
          exact ⟨wy0, ok0, fun H S => S.w0⟩
      have few := ok.few
      walk_at "r"
      refine ⟨x, wy, rfl, (hwx _ S).same tp_same, ok.three.k.big2, by omega, fun H7 s7 => ?_⟩
      have S7 := S.ext (ExtN.of s7) (tabs_nl (Nl.of s7) S.tabs)
      rw [faultW_none.mpr ok, show faultV none = V.non from rfl]
      walk_at "r"
      refine i_nyes rfl ?_
      walk_at "r"
      refine ⟨x, wy, rfl, hwx _ S7, ok.three, by omega, S7.tabs, fun H8 e8 t8 => ?_⟩
      have S8 := S7.ext e8 t8
      walk_at "r"
      refine ⟨d, x, wy, rfl, S8.dice, hwx _ S8, ok, fun H9 v9 wy9 w39 l9 s9 d9 hw9 => ?_⟩
      have S9 := S8.roll nz s9 d9
      walk_at "r"
      refine ⟨v9, wy9, rfl, hw9, w39, l9, S9.tabs, fun HA eA tA => ?_⟩
      walk_at "r"
      exact ⟨_, rfl, S9.ext eA tA⟩
    · obtain ⟨y, rfl, S⟩ := pv
      walk_at "r"
      exact q _
end
end Esc

namespace Esc
open PySem PySem.Spec PyProof.Rows L2
theorem dd_mk {K : PySem.W.Frag} {h : Heap} {mg : Str → Option Value} {x : Str} {st : Stmt} {ps : List Str} {f : Addr} {oc : Value} {od an : Option Addr} {sl : Array (Option Value)} {kV doc pm cdv ct : Value} (X : K.In h) (G : h.Ns mainGlobals mg)
    (a : PySem.W.nsIn K mainGlobals x = some (some (.ref f))) (l : K.lookup f = some ⟨oc, od, .func (PySem.W.fnOf x x (C8.fnArgs st) (C8.fnBody st) (C8.fnScope st) .none kV doc pm an cdv ct), sl⟩) (c : PySem.W.codeIn K cdv x = true) (k : PySem.W.keepIn K (.ref f) = true)
    (hb : ∀ (kV doc pm : Value) (an : Option Addr) (cdv ct : Value) (us : List Value), us.length = ps.length → bindArgs (PySem.W.fnOf x x (C8.fnArgs st) (C8.fnBody st) (C8.fnScope st) .none kV doc pm an cdv ct) ⟨us, []⟩ = pure (ps.zip us)) :
    ∃ fd, C8.Def K mg x st f fd ∧ Binds K fd ps [] :=
  ⟨_, ⟨⟨oc, od, .none, kV, doc, pm, an, cdv, ct, sl, rfl, l, c⟩, PySem.W.mg_of X G a, k⟩, C8.Fun.binds (F := ⟨oc, od, .none, kV, doc, pm, an, cdv, ct, sl, rfl, l, c⟩) rfl hb⟩
theorem dc_mk {K : PySem.W.Frag} {h : Heap} {mg : Str → Option Value} {x : Str} {st : Stmt} {ps : List Str} {f cc : Addr} {oc : Value} {od an : Option Addr} {sl : Array (Option Value)} {kV doc pm ct : Value} (X : K.In h) (G : h.Ns mainGlobals mg)
    (a : PySem.W.nsIn K mainGlobals x = some (some (.ref f))) (l : K.lookup f = some ⟨oc, od, .func (PySem.W.fnOf x x (C8.fnArgs st) (C8.fnBody st) (C8.fnScope st) .none kV doc pm an (.ref cc) ct), sl⟩) (c : PySem.W.codeIn K (.ref cc) x = true) (k : PySem.W.keepIn K (.ref f) = true)
    (hb : ∀ (kV doc pm : Value) (an : Option Addr) (cdv ct : Value) (us : List Value), us.length = ps.length → bindArgs (PySem.W.fnOf x x (C8.fnArgs st) (C8.fnBody st) (C8.fnScope st) .none kV doc pm an cdv ct) ⟨us, []⟩ = pure (ps.zip us)) :
    ∃ fd, C8.Def K mg x st f fd ∧ Binds K fd ps [] ∧ fd.code = .ref cc :=
  ⟨_, ⟨⟨oc, od, .none, kV, doc, pm, an, .ref cc, ct, sl, rfl, l, c⟩, PySem.W.mg_of X G a, k⟩, C8.Fun.binds (F := ⟨oc, od, .none, kV, doc, pm, an, .ref cc, ct, sl, rfl, l, c⟩) rfl hb, rfl⟩
theorem kd_mk {K : PySem.W.Frag} {w : World} {a f : Addr} {x : Str} {es : Array DictEntry} {n : Nat} (l : K.lookup a = some ⟨.type "dict", none, .dict es n, #[]⟩) (kl : PySem.W.KeysLit w.params es.toList) (e : PySem.W.nsIn K a x = some (some (.ref f))) : KDct K w a x (.ref f) :=
  ⟨es, n, .ref f, l, kl, e, rfl⟩
theorem ki_mk {K : PySem.W.Frag} {w : World} {a : Addr} {x : Str} {i : Int} {u : Tok} {es : Array DictEntry} {n : Nat} (l : K.lookup a = some ⟨.type "dict", none, .dict es n, #[]⟩) (kl : PySem.W.KeysLit w.params es.toList) (e : PySem.W.nsIn K a x = some (some (.int i u))) : KDct K w a x (.int i) :=
  ⟨es, n, .int i u, l, kl, e, ⟨_, rfl⟩⟩
theorem kin_mk {K : PySem.W.Frag} {w : World} {a : Addr} {x : Str} {v : Value} {es : Array DictEntry} {n : Nat} (l : K.lookup a = some ⟨.type "dict", none, .dict es n, #[]⟩) (kl : PySem.W.KeysLit w.params es.toList) (lo : (a == sysModules) = false) (e : PySem.W.nsIn K a x = some (some v)) : KDin K w a x true :=
  ⟨es, n, some v, l, kl, lo, e, rfl⟩
theorem gi_mk {K : PySem.W.Frag} {h : Heap} {mg : Str → Option Value} {x : Str} {i : Int} {t : Tok} (X : K.In h) (G : h.Ns mainGlobals mg) (a : PySem.W.nsIn K mainGlobals x = some (some (.int i t))) : GI mg x i := ⟨_, PySem.W.mg_of X G a, ⟨_, rfl⟩⟩
theorem gr_mk {K : PySem.W.Frag} {h : Heap} {mg : Str → Option Value} {x : Str} {b : Addr} (X : K.In h) (G : h.Ns mainGlobals mg) (a : PySem.W.nsIn K mainGlobals x = some (some (.ref b))) : GR mg x b := ⟨_, PySem.W.mg_of X G a, rfl⟩
/-- what the top leaves, all together -/
structure Top (K : PySem.W.Frag) (w : World) (mg : Str → Option Value) : Prop where
  Z : Blt mg
  Z2 : Blt2 mg
  d_need_way : Dd K mg "need_way" s_need_way P_need_way
  d_fault_of : Dd K mg "fault_of" s_fault_of P_fault_of
  d_unturned : Dd K mg "unturned" s_unturned P_unturned
  d_first_unsigned : Dd K mg "first_unsigned" s_first_unsigned P_first_unsigned
  d_is_whole : Dd K mg "is_whole" s_is_whole P_is_whole
  d_is_top : Dd K mg "is_top" s_is_top P_is_top
  d_is_sign : Dd K mg "is_sign" s_is_sign P_is_sign
  d_is_plain : Dd K mg "is_plain" s_is_plain P_is_plain
  d_is_turning : Dd K mg "is_turning" s_is_turning P_is_turning
  d_codes_fault : Dd K mg "codes_fault" s_codes_fault P_codes_fault
  d_is_code : Dd K mg "is_code" s_is_code P_is_code
  d_stand_apart : Dd K mg "stand_apart" s_stand_apart P_stand_apart
  d_escapes_fault : Dd K mg "escapes_fault" s_escapes_fault P_escapes_fault
  d_counts_fault : Dd K mg "counts_fault" s_counts_fault P_counts_fault
  d_ranks_fault : Dd K mg "ranks_fault" s_ranks_fault P_ranks_fault
  d_written : Dd K mg "written" s_written P_written
  d_read_way : Dd K mg "read_way" s_read_way P_read_way
  d_inner_words : Dd K mg "inner_words" s_inner_words P_inner_words
  d_inner_in : Dd K mg "inner_in" s_inner_in P_inner_in
  d_dotted : Dd K mg "dotted" s_dotted P_dotted
  d_signs_in : Dd K mg "signs_in" s_signs_in P_signs_in
  d_pair_in : Dd K mg "pair_in" s_pair_in P_pair_in
  d_number_in : Dd K mg "number_in" s_number_in P_number_in
  d__law_dice : Dd K mg "_law_dice" s__law_dice P__law_dice
  d__law_off : Dd K mg "_law_off" s__law_off P__law_off
  d__law_alike : Dd K mg "_law_alike" s__law_alike P__law_alike
  d__law_mixed : Dd K mg "_law_mixed" s__law_mixed P__law_mixed
  d__law_plain : Dd K mg "_law_plain" s__law_plain P__law_plain
  d__law_codes : Dd K mg "_law_codes" s__law_codes P__law_codes
  d__law_escapes : Dd K mg "_law_escapes" s__law_escapes P__law_escapes
  d__law_base : Dd K mg "_law_base" s__law_base P__law_base
  d__law_turned : Dd K mg "_law_turned" s__law_turned P__law_turned
  d__law_core : Dd K mg "_law_core" s__law_core P__law_core
  d__law_top : Dd K mg "_law_top" s__law_top P__law_top
  d__law_size : Dd K mg "_law_size" s__law_size P__law_size
  d__law_way : Dd K mg "_law_way" s__law_way P__law_way
  d__law_is : Dd K mg "_law_is" s__law_is P__law_is
  d__law_refused : Dd K mg "_law_refused" s__law_refused P__law_refused
  d__law_turns : Dd K mg "_law_turns" s__law_turns P__law_turns
  d__law_within : Dd K mg "_law_within" s__law_within P__law_within
  d__law_are_codes : Dd K mg "_law_are_codes" s__law_are_codes P__law_are_codes
  d__law_are_pairs : Dd K mg "_law_are_pairs" s__law_are_pairs P__law_are_pairs
  d__law_why : Dd K mg "_law_why" s__law_why P__law_why
  d__law_dots : Dd K mg "_law_dots" s__law_dots P__law_dots
  d__law_text : Dd K mg "_law_text" s__law_text P__law_text
  d__law_other : Dd K mg "_law_other" s__law_other P__law_other
  d__law_good : Dd K mg "_law_good" s__law_good P__law_good
  LEAST_TOP : GI mg "LEAST_TOP" 3
  MOST_TOP : GI mg "MOST_TOP" 16
  LONGEST_CODE : GI mg "LONGEST_CODE" 4
  MOST_TURNED : GI mg "MOST_TURNED" 3
  MOST_FIGURES : GI mg "MOST_FIGURES" 3
  tb_FAULTS : ∃ p, GR mg "FAULTS" p ∧ (∃ f, mg "codes_fault" = some (.ref f) ∧ KDct K w p "codes" (.ref f)) ∧ (∃ f, mg "escapes_fault" = some (.ref f) ∧ KDct K w p "escapes" (.ref f)) ∧ (∃ f, mg "counts_fault" = some (.ref f) ∧ KDct K w p "counts" (.ref f)) ∧ (∃ f, mg "ranks_fault" = some (.ref f) ∧ KDct K w p "ranks" (.ref f))
  tb_NUMBERS : ∃ p, GR mg "NUMBERS" p ∧ KDct K w p "codes" (.int 2) ∧ KDct K w p "escapes" (.int 3) ∧ KDct K w p "counts" (.int 3) ∧ KDct K w p "ranks" (.int 2) ∧ KDin K w p "codes" true ∧ KDin K w p "escapes" true ∧ KDin K w p "counts" true ∧ KDin K w p "ranks" true
set_option maxHeartbeats 0 in
theorem lawT {P : Program} {w : World} {K : PySem.W.Frag} {mg : Str → Option Value} {base : Heap} (T : Top K w mg) {c : Nat → Addr} {cR : Addr} (ET : ExcTab K mg c cR) (EXBadWay : ExX P w K mg base 1 "BadWay" (c 0) (c 0) "why" goodStr) {cc PT : Addr} (TB : LamX.TabB base mg cc PT) (dO : Dc K mg "_law_good" s__law_good P__law_good cc) {f : Addr} {fd : FuncData} (F : C8.Def K mg "law" s_law f fd) : FnOk P w K mg base C8.CX0 13 f fd P_law (spLawT K PT) := by
  obtain ⟨p_FAULTS, g_FAULTS, ⟨f_FAULTS_codes, m_FAULTS_codes, n_FAULTS_codes⟩, ⟨f_FAULTS_escapes, m_FAULTS_escapes, n_FAULTS_escapes⟩, ⟨f_FAULTS_counts, m_FAULTS_counts, n_FAULTS_counts⟩, ⟨f_FAULTS_ranks, m_FAULTS_ranks, n_FAULTS_ranks⟩⟩ := T.tb_FAULTS
  obtain ⟨p_NUMBERS, g_NUMBERS, n_NUMBERS_codes, n_NUMBERS_escapes, n_NUMBERS_counts, n_NUMBERS_ranks, i_NUMBERS_codes, i_NUMBERS_escapes, i_NUMBERS_counts, i_NUMBERS_ranks⟩ := T.tb_NUMBERS
  have h0 : C8.Cal P w K mg base 1 "is_whole" spWholeI [] := c_is_whole T.Z T.d_is_whole
  have h1 : C8.Cal P w K mg base 2 "is_sign" spSignI [] := c_is_sign T.Z h0 T.d_is_sign
  have h2 : C8.Cal P w K mg base 2 "is_top" spTopI [] := c_is_top T.Z h0 T.LEAST_TOP T.MOST_TOP T.d_is_top
  have h3 : C8.Cal P w K mg base 3 "first_unsigned" (spFirst K) [] := c_first_unsigned T.Z h1 T.d_first_unsigned
  have h4 : C8.Cal P w K mg base 1 "ranks_fault" spRanksFault [] := c_ranks_fault T.d_ranks_fault
  have h5 : C8.Cal P w K mg base 1 "unturned" (spUnturned K) [] := c_unturned T.d_unturned
  have h6 : C8.Cal P w K mg base 1 "_law_off" spOff [] := c_off T.Z T.d__law_off
  have h7 : C8.Cal P w K mg base 1 "_law_dice" (spDice K) [] := c_dice T.Z T.d__law_dice
  have h8 : C8.Cal P w K mg base 1 "_law_plain" spPlain [] := c_law_plain T.Z T.d__law_plain
  have h9 : C8.Cal P w K mg base 2 "_law_size" spSize [] := c_law_size h6 T.d__law_size
  have h10 : C8.Cal P w K mg base 2 "_law_mixed" (spMixed K) [] := c_mixed T.Z h6 T.d__law_mixed
  have h11 : C8.Cal P w K mg base 1 "_law_core" (spCore K) [] := c_core T.d__law_core
  have h12 : C8.Cal P w K mg base 2 "_law_top" (spTopW K) [] := c_top h11 T.d__law_top
  have h13 : C8.Cal P w K mg base 3 "_law_turned" (spTurned K) [] := c_turned T.Z h6 h10 h12 T.d__law_turned
  have h14 : C8.Cal P w K mg base 3 "_law_codes" (spBase K) [] := c_codes T.Z h6 h8 h10 T.d__law_codes
  have h15 : C8.Cal P w K mg base 3 "_law_escapes" (spBase K) [] := c_escapes T.Z h6 h8 h10 T.d__law_escapes
  have h16 : C8.Cal P w K mg base 4 "_law_base" (spBaseT K) [] := c_base T.Z h6 h14 h15 T.d__law_base
  have h17 : C8.Cal P w K mg base 5 "_law_way" (spWay K) [] := c_way h9 h16 h13 T.d__law_way
  have h18 : C8.Cal P w K mg base 3 "is_plain" spPlainI [] := c_is_plain h1 T.d_is_plain
  have h19 : C8.Cal P w K mg base 2 "counts_fault" (spCountsF K) [] := c_counts_fault h0 T.d_counts_fault
  have h20 : C8.Cal P w K mg base 3 "first_unsigned" (spFirstT K) [] := c_first_unsignedT T.Z h1 T.d_first_unsigned
  have h21 : C8.Cal P w K mg base 4 "is_turning" (spTurnT K) [] := c_is_turning T.Z h20 T.d_is_turning
  have h22 : C8.Cal P w K mg base 4 "is_code" (spCodeI K) [] := c_is_code T.Z h18 T.LONGEST_CODE T.d_is_code
  have h23 : C8.Cal P w K mg base 1 "stand_apart" (spApart K) [] := c_stand_apart T.Z T.d_stand_apart
  have h24 : C8.Cal P w K mg base 5 "codes_fault" (spCodesF K) [] := c_codes_fault T.Z h22 h23 T.d_codes_fault
  have h25 : C8.Cal P w K mg base 4 "escapes_fault" (spEscF K) [] := c_escapes_fault T.Z h18 h3 T.d_escapes_fault
  have h26 : C8.Cal P w K mg base 6 "fault_of" (spNeedW K) [] := c_fault_of T.Z T.MOST_TURNED g_FAULTS ⟨⟨f_FAULTS_codes, m_FAULTS_codes, n_FAULTS_codes, h24⟩, ⟨f_FAULTS_escapes, m_FAULTS_escapes, n_FAULTS_escapes, h25⟩, ⟨f_FAULTS_counts, m_FAULTS_counts, n_FAULTS_counts, h19⟩, ⟨f_FAULTS_ranks, m_FAULTS_ranks, n_FAULTS_ranks, h4⟩⟩ h5 h2 h1 h21 T.d_fault_of
  have h27 : C8.Cal P w K mg base 7 "need_way" (spNeedW K) [] := c_need_way h26 T.d_need_way
  have h28 : C8.Cal P w K mg base 0 "_law_alike" spNever [] := c_never T.d__law_alike
  have h29 : C8.Cal P w K mg base 4 "_law_alike" (spAlikeD 3) [] := c_alikeD T.Z T.Z2 T.d__law_alike 3
  have h30 : CalQ P w K mg base 1 "_law_is" (spIs c) := c_law_is T.Z ET T.d__law_is
  have h31 : CalQ P w K mg base 1 "_law_alike" spAlikeQ := c_law_alikeQ T.Z T.Z2 T.d__law_alike
  have h32 : C8.Cal P w K mg base 3 "first_unsigned" (spFirstTB K) [] := c_first_unsignedTB T.Z h1 T.d_first_unsigned
  have h33 : C8.Cal P w K mg base 4 "is_turning" (spTurnB K) [] := c_is_turningB T.Z h32 T.d_is_turning
  have h34 : C8.Cal P w K mg base 2 "counts_fault" (spCountsFB K) [] := c_counts_faultB h0 T.d_counts_fault
  have h35 : C8.Cal P w K mg base 4 "is_code" (spCodeB K) [] := c_is_codeB T.Z h18 T.LONGEST_CODE T.d_is_code
  have h36 : C8.Cal P w K mg base 1 "stand_apart" (spApartB K) [] := c_stand_apartB T.Z T.d_stand_apart
  have h37 : C8.Cal P w K mg base 5 "codes_fault" (spCodesFB K) [] := c_codes_faultB T.Z h35 h36 T.d_codes_fault
  have h38 : C8.Cal P w K mg base 3 "first_unsigned" (spFirstB K) [] := c_first_unsignedB T.Z h1 T.d_first_unsigned
  have h39 : C8.Cal P w K mg base 4 "escapes_fault" (spEscFB K) [] := c_escapes_faultB T.Z h18 h38 T.d_escapes_fault
  have h40 : C8.Cal P w K mg base 6 "fault_of" (spFaultB K) [] := c_fault_ofB T.Z T.MOST_TURNED g_FAULTS ⟨⟨f_FAULTS_codes, m_FAULTS_codes, n_FAULTS_codes, h37⟩, ⟨f_FAULTS_escapes, m_FAULTS_escapes, n_FAULTS_escapes, h39⟩, ⟨f_FAULTS_counts, m_FAULTS_counts, n_FAULTS_counts, h34⟩, ⟨f_FAULTS_ranks, m_FAULTS_ranks, n_FAULTS_ranks, h4⟩⟩ h5 h2 h1 h33 T.d_fault_of
  have h41 : CalXN P w K mg base 7 "need_way" (spNeedX K (c 0)) := c_need_wayX EXBadWay h40 T.d_need_way
  have h42 : C8.Cal P w K mg base 1 "dotted" (spDotted K) [] := c_dotted T.Z2 T.d_dotted
  have h43 : C8.Cal P w K mg base 2 "inner_words" (spInnerWords K) [] := c_inner_words T.Z2 g_NUMBERS n_NUMBERS_codes n_NUMBERS_escapes n_NUMBERS_counts n_NUMBERS_ranks h42 T.d_inner_words
  have h44 : C8.Cal P w K mg base 8 "written" (spWritten K) [] := c_written h27 h5 h42 h43 T.d_written
  have h45 : C8.Cal P w K mg base 1 "number_in" spNumIn [] := c_number_in T.Z T.MOST_FIGURES T.d_number_in
  have h46 : C8.Cal P w K mg base 2 "signs_in" (spSignsIn K) [] := c_signs_in T.Z h45 T.d_signs_in
  have h47 : C8.Cal P w K mg base 2 "signs_in" (spSignsInP K) [] := c_signs_inP T.Z h45 T.d_signs_in
  have h48 : C8.Cal P w K mg base 2 "pair_in" (spPairIn K) [] := c_pair_in T.Z h45 T.d_pair_in
  have h49 : C8.Cal P w K mg base 3 "inner_in" (spInnerIn K) [] := c_inner_in T.Z g_NUMBERS n_NUMBERS_codes n_NUMBERS_escapes n_NUMBERS_counts n_NUMBERS_ranks i_NUMBERS_codes i_NUMBERS_escapes i_NUMBERS_counts i_NUMBERS_ranks h45 h47 h48 T.d_inner_in
  have h50 : CalXN P w K mg base 8 "read_way" (spReadX K (c 0)) := c_read_wayX T.Z h46 h49 h41 T.d_read_way
  have h51 : C8.Cal P w K mg base 1 "_law_turns" (spTurnsL K) [] := c__law_turns T.d__law_turns
  have h52 : C8.Cal P w K mg base 2 "_law_within" (spWithin K) [] := c__law_within T.Z h51 T.d__law_within
  have h53 : C8.Cal P w K mg base 1 "_law_dots" (spDots K) [] := c__law_dots T.Z2 T.d__law_dots
  have h54 : C8.Cal P w K mg base 1 "_law_are_codes" (spAreCodes K) [] := c__law_are_codes T.Z T.d__law_are_codes
  have h55 : C8.Cal P w K mg base 2 "_law_are_pairs" (spArePairs K) [] := c__law_are_pairs T.Z h8 T.d__law_are_pairs
  have h56 : C8.Cal P w K mg base 3 "_law_why" (spWhy K) [] := c__law_why T.Z h51 h11 h8 h54 h55 T.d__law_why
  have h57 : C8.Cal P w K mg base 6 "_law_text" (spLText K 4) [] := c_law_textN T.Z2 h53 T.d__law_text 4
  have h58 : C8.Cal P w K mg base 3 "_law_other" (spOther K) [] := c__law_other T.Z h6 h11 h52 T.d__law_other
  have h59 : C8.Cal P w K mg base 9 "_law_alike" (spAlikeT K 8) [] := c_alikeT T.Z T.Z2 T.d__law_alike 8
  have h60 : C8.Cal P w K mg base 12 "_law_good" (spGood K PT) [] := c__law_good T.Z ET h56 h57 h44 h50 h59 h30 h31 T.d__law_refused TB dO
  exact c_law T.Z h7 h17 h56 h60 h58 F
theorem law_mk {l : PySem.W.OpenLaw} {w : World} {K : PySem.W.Frag} {h : Heap} {mg : Str → Option Value} {fa f cc PT : Addr} {oc : Value} {od an cdd : Option Addr} {sl csl : Array (Option Value)} {kV doc pm ct cdl : Value} {cvs : Array Value} {c : Nat → Addr} {cR : Addr} (X : K.In h) (G : h.Ns mainGlobals mg) (hfa : mg "law" = some (.ref fa)) (own : ∀ fo, mg "_law_good" = some (.ref fo) → LamX.OwnTab K fo h)
    (a : PySem.W.nsIn K mainGlobals "law" = some (some (.ref f))) (lk : K.lookup f = some ⟨oc, od, .func (PySem.W.fnOf "law" "law" (C8.fnArgs s_law) (C8.fnBody s_law) (C8.fnScope s_law) .none kV doc pm an cdl ct), sl⟩) (cK : PySem.W.codeIn K cdl "law" = true) (k : PySem.W.keepIn K (.ref f) = true)
    {fO : Addr} {ocO : Value} {odO anO : Option Addr} {slO : Array (Option Value)} {kVO docO pmO ctO : Value} (aO : PySem.W.nsIn K mainGlobals "_law_good" = some (some (.ref fO))) (lkO : K.lookup fO = some ⟨ocO, odO, .func (PySem.W.fnOf "_law_good" "_law_good" (C8.fnArgs s__law_good) (C8.fnBody s__law_good) (C8.fnScope s__law_good) .none kVO docO pmO anO (.ref cc) ctO), slO⟩) (dO : Dc K mg "_law_good" s__law_good P__law_good cc)
    (lc : K.lookup cc = some ⟨.type "code", cdd, .fields cvs, csl⟩) (hPT : K.lookup PT = none) (hv : CodeVs cvs PT) (ncP : cc ≠ PT)
    (T : Top K w mg) (ET : ExcTab K mg c cR) (EXBadWay : ∀ base : Heap, ExX l.prog w K mg base 1 "BadWay" (c 0) (c 0) "why" goodStr) : LamX.LawAtS l w K C8.CX0 13 63 "_law_script" mg fa h := by
  have e := hfa.symm.trans (PySem.W.mg_of X G a)
  cases e
  obtain ⟨h11, file, tf, flags, tg, inF, text, tt, v11, v18, v7, v9, v10⟩ := hv
  have hT := own fO (PySem.W.mg_of X G aO) cc PT _ _ _ _ _ _ lkO rfl rfl lc h11
  refine ⟨PySem.W.fnOf "law" "law" (C8.fnArgs s_law) (C8.fnBody s_law) (C8.fnScope s_law) .none kV doc pm an cdl ct, [(cc, PT)], spLawT K PT, fun p hp => ?_, fun p hp => ?_, fun p hp => ?_, fun s u => .of_eq rfl, fun H a ns hl _ hH hS => ⟨a, ns, rfl, hS, hl, hH _ (List.mem_singleton_self _), fun _ => rfl⟩,
    fun base hK hN hTB => lawT T ET (EXBadWay base) (hTB _ (List.mem_singleton_self _)) dO ⟨⟨oc, od, .none, kV, doc, pm, an, cdl, ct, sl, rfl, lk, cK⟩, hfa, k⟩⟩
  · rw [List.mem_singleton.mp hp]
    exact hT
  · rw [List.mem_singleton.mp hp]
    exact hPT
  · rw [List.mem_singleton.mp hp]
    exact ⟨_, cvs, file, tf, flags, tg, inF, text, tt, X _ _ lc, rfl, rfl, h11, v11, v18, v7, v9, v10, ncP⟩
set_option maxHeartbeats 0 in
theorem all_mk {l : PySem.W.OpenLaw} {w : World} {K : PySem.W.Frag} {h : Heap} {mg : Str → Option Value} {fa : Addr} (X : K.In h) (G : h.Ns mainGlobals mg) (hfa : mg "law" = some (.ref fa)) (own : ∀ fo, mg "_law_good" = some (.ref fo) → LamX.OwnTab K fo h)
    {f_need_way : Addr} {oc_need_way : Value} {od_need_way an_need_way : Option Addr} {sl_need_way : Array (Option Value)} {kV_need_way dc_need_way pm_need_way cd_need_way ct_need_way : Value}
    {f_fault_of : Addr} {oc_fault_of : Value} {od_fault_of an_fault_of : Option Addr} {sl_fault_of : Array (Option Value)} {kV_fault_of dc_fault_of pm_fault_of cd_fault_of ct_fault_of : Value}
    {f_unturned : Addr} {oc_unturned : Value} {od_unturned an_unturned : Option Addr} {sl_unturned : Array (Option Value)} {kV_unturned dc_unturned pm_unturned cd_unturned ct_unturned : Value}
    {f_first_unsigned : Addr} {oc_first_unsigned : Value} {od_first_unsigned an_first_unsigned : Option Addr} {sl_first_unsigned : Array (Option Value)} {kV_first_unsigned dc_first_unsigned pm_first_unsigned cd_first_unsigned ct_first_unsigned : Value}
    {f_is_whole : Addr} {oc_is_whole : Value} {od_is_whole an_is_whole : Option Addr} {sl_is_whole : Array (Option Value)} {kV_is_whole dc_is_whole pm_is_whole cd_is_whole ct_is_whole : Value}
    {f_is_top : Addr} {oc_is_top : Value} {od_is_top an_is_top : Option Addr} {sl_is_top : Array (Option Value)} {kV_is_top dc_is_top pm_is_top cd_is_top ct_is_top : Value}
    {f_is_sign : Addr} {oc_is_sign : Value} {od_is_sign an_is_sign : Option Addr} {sl_is_sign : Array (Option Value)} {kV_is_sign dc_is_sign pm_is_sign cd_is_sign ct_is_sign : Value}
    {f_is_plain : Addr} {oc_is_plain : Value} {od_is_plain an_is_plain : Option Addr} {sl_is_plain : Array (Option Value)} {kV_is_plain dc_is_plain pm_is_plain cd_is_plain ct_is_plain : Value}
    {f_is_turning : Addr} {oc_is_turning : Value} {od_is_turning an_is_turning : Option Addr} {sl_is_turning : Array (Option Value)} {kV_is_turning dc_is_turning pm_is_turning cd_is_turning ct_is_turning : Value}
    {f_codes_fault : Addr} {oc_codes_fault : Value} {od_codes_fault an_codes_fault : Option Addr} {sl_codes_fault : Array (Option Value)} {kV_codes_fault dc_codes_fault pm_codes_fault cd_codes_fault ct_codes_fault : Value}
    {f_is_code : Addr} {oc_is_code : Value} {od_is_code an_is_code : Option Addr} {sl_is_code : Array (Option Value)} {kV_is_code dc_is_code pm_is_code cd_is_code ct_is_code : Value}
    {f_stand_apart : Addr} {oc_stand_apart : Value} {od_stand_apart an_stand_apart : Option Addr} {sl_stand_apart : Array (Option Value)} {kV_stand_apart dc_stand_apart pm_stand_apart cd_stand_apart ct_stand_apart : Value}
    {f_escapes_fault : Addr} {oc_escapes_fault : Value} {od_escapes_fault an_escapes_fault : Option Addr} {sl_escapes_fault : Array (Option Value)} {kV_escapes_fault dc_escapes_fault pm_escapes_fault cd_escapes_fault ct_escapes_fault : Value}
    {f_counts_fault : Addr} {oc_counts_fault : Value} {od_counts_fault an_counts_fault : Option Addr} {sl_counts_fault : Array (Option Value)} {kV_counts_fault dc_counts_fault pm_counts_fault cd_counts_fault ct_counts_fault : Value}
    {f_ranks_fault : Addr} {oc_ranks_fault : Value} {od_ranks_fault an_ranks_fault : Option Addr} {sl_ranks_fault : Array (Option Value)} {kV_ranks_fault dc_ranks_fault pm_ranks_fault cd_ranks_fault ct_ranks_fault : Value}
    {f_written : Addr} {oc_written : Value} {od_written an_written : Option Addr} {sl_written : Array (Option Value)} {kV_written dc_written pm_written cd_written ct_written : Value}
    {f_read_way : Addr} {oc_read_way : Value} {od_read_way an_read_way : Option Addr} {sl_read_way : Array (Option Value)} {kV_read_way dc_read_way pm_read_way cd_read_way ct_read_way : Value}
    {f_inner_words : Addr} {oc_inner_words : Value} {od_inner_words an_inner_words : Option Addr} {sl_inner_words : Array (Option Value)} {kV_inner_words dc_inner_words pm_inner_words cd_inner_words ct_inner_words : Value}
    {f_inner_in : Addr} {oc_inner_in : Value} {od_inner_in an_inner_in : Option Addr} {sl_inner_in : Array (Option Value)} {kV_inner_in dc_inner_in pm_inner_in cd_inner_in ct_inner_in : Value}
    {f_dotted : Addr} {oc_dotted : Value} {od_dotted an_dotted : Option Addr} {sl_dotted : Array (Option Value)} {kV_dotted dc_dotted pm_dotted cd_dotted ct_dotted : Value}
    {f_signs_in : Addr} {oc_signs_in : Value} {od_signs_in an_signs_in : Option Addr} {sl_signs_in : Array (Option Value)} {kV_signs_in dc_signs_in pm_signs_in cd_signs_in ct_signs_in : Value}
    {f_pair_in : Addr} {oc_pair_in : Value} {od_pair_in an_pair_in : Option Addr} {sl_pair_in : Array (Option Value)} {kV_pair_in dc_pair_in pm_pair_in cd_pair_in ct_pair_in : Value}
    {f_number_in : Addr} {oc_number_in : Value} {od_number_in an_number_in : Option Addr} {sl_number_in : Array (Option Value)} {kV_number_in dc_number_in pm_number_in cd_number_in ct_number_in : Value}
    {f__law_dice : Addr} {oc__law_dice : Value} {od__law_dice an__law_dice : Option Addr} {sl__law_dice : Array (Option Value)} {kV__law_dice dc__law_dice pm__law_dice cd__law_dice ct__law_dice : Value}
    {f__law_off : Addr} {oc__law_off : Value} {od__law_off an__law_off : Option Addr} {sl__law_off : Array (Option Value)} {kV__law_off dc__law_off pm__law_off cd__law_off ct__law_off : Value}
    {f__law_alike : Addr} {oc__law_alike : Value} {od__law_alike an__law_alike : Option Addr} {sl__law_alike : Array (Option Value)} {kV__law_alike dc__law_alike pm__law_alike cd__law_alike ct__law_alike : Value}
    {f__law_mixed : Addr} {oc__law_mixed : Value} {od__law_mixed an__law_mixed : Option Addr} {sl__law_mixed : Array (Option Value)} {kV__law_mixed dc__law_mixed pm__law_mixed cd__law_mixed ct__law_mixed : Value}
    {f__law_plain : Addr} {oc__law_plain : Value} {od__law_plain an__law_plain : Option Addr} {sl__law_plain : Array (Option Value)} {kV__law_plain dc__law_plain pm__law_plain cd__law_plain ct__law_plain : Value}
    {f__law_codes : Addr} {oc__law_codes : Value} {od__law_codes an__law_codes : Option Addr} {sl__law_codes : Array (Option Value)} {kV__law_codes dc__law_codes pm__law_codes cd__law_codes ct__law_codes : Value}
    {f__law_escapes : Addr} {oc__law_escapes : Value} {od__law_escapes an__law_escapes : Option Addr} {sl__law_escapes : Array (Option Value)} {kV__law_escapes dc__law_escapes pm__law_escapes cd__law_escapes ct__law_escapes : Value}
    {f__law_base : Addr} {oc__law_base : Value} {od__law_base an__law_base : Option Addr} {sl__law_base : Array (Option Value)} {kV__law_base dc__law_base pm__law_base cd__law_base ct__law_base : Value}
    {f__law_turned : Addr} {oc__law_turned : Value} {od__law_turned an__law_turned : Option Addr} {sl__law_turned : Array (Option Value)} {kV__law_turned dc__law_turned pm__law_turned cd__law_turned ct__law_turned : Value}
    {f__law_core : Addr} {oc__law_core : Value} {od__law_core an__law_core : Option Addr} {sl__law_core : Array (Option Value)} {kV__law_core dc__law_core pm__law_core cd__law_core ct__law_core : Value}
    {f__law_top : Addr} {oc__law_top : Value} {od__law_top an__law_top : Option Addr} {sl__law_top : Array (Option Value)} {kV__law_top dc__law_top pm__law_top cd__law_top ct__law_top : Value}
    {f__law_size : Addr} {oc__law_size : Value} {od__law_size an__law_size : Option Addr} {sl__law_size : Array (Option Value)} {kV__law_size dc__law_size pm__law_size cd__law_size ct__law_size : Value}
    {f__law_way : Addr} {oc__law_way : Value} {od__law_way an__law_way : Option Addr} {sl__law_way : Array (Option Value)} {kV__law_way dc__law_way pm__law_way cd__law_way ct__law_way : Value}
    {f__law_is : Addr} {oc__law_is : Value} {od__law_is an__law_is : Option Addr} {sl__law_is : Array (Option Value)} {kV__law_is dc__law_is pm__law_is cd__law_is ct__law_is : Value}
    {f__law_refused : Addr} {oc__law_refused : Value} {od__law_refused an__law_refused : Option Addr} {sl__law_refused : Array (Option Value)} {kV__law_refused dc__law_refused pm__law_refused cd__law_refused ct__law_refused : Value}
    {f__law_turns : Addr} {oc__law_turns : Value} {od__law_turns an__law_turns : Option Addr} {sl__law_turns : Array (Option Value)} {kV__law_turns dc__law_turns pm__law_turns cd__law_turns ct__law_turns : Value}
    {f__law_within : Addr} {oc__law_within : Value} {od__law_within an__law_within : Option Addr} {sl__law_within : Array (Option Value)} {kV__law_within dc__law_within pm__law_within cd__law_within ct__law_within : Value}
    {f__law_are_codes : Addr} {oc__law_are_codes : Value} {od__law_are_codes an__law_are_codes : Option Addr} {sl__law_are_codes : Array (Option Value)} {kV__law_are_codes dc__law_are_codes pm__law_are_codes cd__law_are_codes ct__law_are_codes : Value}
    {f__law_are_pairs : Addr} {oc__law_are_pairs : Value} {od__law_are_pairs an__law_are_pairs : Option Addr} {sl__law_are_pairs : Array (Option Value)} {kV__law_are_pairs dc__law_are_pairs pm__law_are_pairs cd__law_are_pairs ct__law_are_pairs : Value}
    {f__law_why : Addr} {oc__law_why : Value} {od__law_why an__law_why : Option Addr} {sl__law_why : Array (Option Value)} {kV__law_why dc__law_why pm__law_why cd__law_why ct__law_why : Value}
    {f__law_dots : Addr} {oc__law_dots : Value} {od__law_dots an__law_dots : Option Addr} {sl__law_dots : Array (Option Value)} {kV__law_dots dc__law_dots pm__law_dots cd__law_dots ct__law_dots : Value}
    {f__law_text : Addr} {oc__law_text : Value} {od__law_text an__law_text : Option Addr} {sl__law_text : Array (Option Value)} {kV__law_text dc__law_text pm__law_text cd__law_text ct__law_text : Value}
    {f__law_other : Addr} {oc__law_other : Value} {od__law_other an__law_other : Option Addr} {sl__law_other : Array (Option Value)} {kV__law_other dc__law_other pm__law_other cd__law_other ct__law_other : Value}
    {f__law_good : Addr} {oc__law_good : Value} {od__law_good an__law_good : Option Addr} {sl__law_good : Array (Option Value)} {kV__law_good dc__law_good pm__law_good ct__law_good : Value} {cdO__law_good PT_law : Addr} {cdd_law : Option Addr} {cvs_law : Array Value} {csl_law : Array (Option Value)}
    {f_law : Addr} {oc_law : Value} {od_law an_law : Option Addr} {sl_law : Array (Option Value)} {kV_law dc_law pm_law cd_law ct_law : Value}
    {t_LEAST_TOP : Tok}
    {t_MOST_TOP : Tok}
    {t_LONGEST_CODE : Tok}
    {t_MOST_TURNED : Tok}
    {t_MOST_FIGURES : Tok}
    {p_FAULTS : Addr} {es_FAULTS : Array DictEntry} {n_FAULTS : Nat}
    {p_NUMBERS : Addr} {es_NUMBERS : Array DictEntry} {n_NUMBERS : Nat}
    {u_NUMBERS_codes : Tok}
    {u_NUMBERS_escapes : Tok}
    {u_NUMBERS_counts : Tok}
    {u_NUMBERS_ranks : Tok}
    (z_abs : PySem.W.nsIn K mainGlobals "abs" = some none)
    (z_all : PySem.W.nsIn K mainGlobals "all" = some none)
    (z_enumerate : PySem.W.nsIn K mainGlobals "enumerate" = some none)
    (z_int : PySem.W.nsIn K mainGlobals "int" = some none)
    (z_isinstance : PySem.W.nsIn K mainGlobals "isinstance" = some none)
    (z_len : PySem.W.nsIn K mainGlobals "len" = some none)
    (z_list : PySem.W.nsIn K mainGlobals "list" = some none)
    (z_min : PySem.W.nsIn K mainGlobals "min" = some none)
    (z_range : PySem.W.nsIn K mainGlobals "range" = some none)
    (z_reversed : PySem.W.nsIn K mainGlobals "reversed" = some none)
    (z_set : PySem.W.nsIn K mainGlobals "set" = some none)
    (z_sorted : PySem.W.nsIn K mainGlobals "sorted" = some none)
    (z_tuple : PySem.W.nsIn K mainGlobals "tuple" = some none)
    (z_type : PySem.W.nsIn K mainGlobals "type" = some none)
    (z_bool : PySem.W.nsIn K mainGlobals "bool" = some none)
    (z_str : PySem.W.nsIn K mainGlobals "str" = some none)
    (a_need_way : PySem.W.nsIn K mainGlobals "need_way" = some (some (.ref f_need_way))) (l_need_way : K.lookup f_need_way = some ⟨oc_need_way, od_need_way, .func (PySem.W.fnOf "need_way" "need_way" (C8.fnArgs s_need_way) (C8.fnBody s_need_way) (C8.fnScope s_need_way) .none kV_need_way dc_need_way pm_need_way an_need_way cd_need_way ct_need_way), sl_need_way⟩) (c_need_way : PySem.W.codeIn K cd_need_way "need_way" = true) (k_need_way : PySem.W.keepIn K (.ref f_need_way) = true)
    (a_fault_of : PySem.W.nsIn K mainGlobals "fault_of" = some (some (.ref f_fault_of))) (l_fault_of : K.lookup f_fault_of = some ⟨oc_fault_of, od_fault_of, .func (PySem.W.fnOf "fault_of" "fault_of" (C8.fnArgs s_fault_of) (C8.fnBody s_fault_of) (C8.fnScope s_fault_of) .none kV_fault_of dc_fault_of pm_fault_of an_fault_of cd_fault_of ct_fault_of), sl_fault_of⟩) (c_fault_of : PySem.W.codeIn K cd_fault_of "fault_of" = true) (k_fault_of : PySem.W.keepIn K (.ref f_fault_of) = true)
    (a_unturned : PySem.W.nsIn K mainGlobals "unturned" = some (some (.ref f_unturned))) (l_unturned : K.lookup f_unturned = some ⟨oc_unturned, od_unturned, .func (PySem.W.fnOf "unturned" "unturned" (C8.fnArgs s_unturned) (C8.fnBody s_unturned) (C8.fnScope s_unturned) .none kV_unturned dc_unturned pm_unturned an_unturned cd_unturned ct_unturned), sl_unturned⟩) (c_unturned : PySem.W.codeIn K cd_unturned "unturned" = true) (k_unturned : PySem.W.keepIn K (.ref f_unturned) = true)
    (a_first_unsigned : PySem.W.nsIn K mainGlobals "first_unsigned" = some (some (.ref f_first_unsigned))) (l_first_unsigned : K.lookup f_first_unsigned = some ⟨oc_first_unsigned, od_first_unsigned, .func (PySem.W.fnOf "first_unsigned" "first_unsigned" (C8.fnArgs s_first_unsigned) (C8.fnBody s_first_unsigned) (C8.fnScope s_first_unsigned) .none kV_first_unsigned dc_first_unsigned pm_first_unsigned an_first_unsigned cd_first_unsigned ct_first_unsigned), sl_first_unsigned⟩) (c_first_unsigned : PySem.W.codeIn K cd_first_unsigned "first_unsigned" = true) (k_first_unsigned : PySem.W.keepIn K (.ref f_first_unsigned) = true)
    (a_is_whole : PySem.W.nsIn K mainGlobals "is_whole" = some (some (.ref f_is_whole))) (l_is_whole : K.lookup f_is_whole = some ⟨oc_is_whole, od_is_whole, .func (PySem.W.fnOf "is_whole" "is_whole" (C8.fnArgs s_is_whole) (C8.fnBody s_is_whole) (C8.fnScope s_is_whole) .none kV_is_whole dc_is_whole pm_is_whole an_is_whole cd_is_whole ct_is_whole), sl_is_whole⟩) (c_is_whole : PySem.W.codeIn K cd_is_whole "is_whole" = true) (k_is_whole : PySem.W.keepIn K (.ref f_is_whole) = true)
    (a_is_top : PySem.W.nsIn K mainGlobals "is_top" = some (some (.ref f_is_top))) (l_is_top : K.lookup f_is_top = some ⟨oc_is_top, od_is_top, .func (PySem.W.fnOf "is_top" "is_top" (C8.fnArgs s_is_top) (C8.fnBody s_is_top) (C8.fnScope s_is_top) .none kV_is_top dc_is_top pm_is_top an_is_top cd_is_top ct_is_top), sl_is_top⟩) (c_is_top : PySem.W.codeIn K cd_is_top "is_top" = true) (k_is_top : PySem.W.keepIn K (.ref f_is_top) = true)
    (a_is_sign : PySem.W.nsIn K mainGlobals "is_sign" = some (some (.ref f_is_sign))) (l_is_sign : K.lookup f_is_sign = some ⟨oc_is_sign, od_is_sign, .func (PySem.W.fnOf "is_sign" "is_sign" (C8.fnArgs s_is_sign) (C8.fnBody s_is_sign) (C8.fnScope s_is_sign) .none kV_is_sign dc_is_sign pm_is_sign an_is_sign cd_is_sign ct_is_sign), sl_is_sign⟩) (c_is_sign : PySem.W.codeIn K cd_is_sign "is_sign" = true) (k_is_sign : PySem.W.keepIn K (.ref f_is_sign) = true)
    (a_is_plain : PySem.W.nsIn K mainGlobals "is_plain" = some (some (.ref f_is_plain))) (l_is_plain : K.lookup f_is_plain = some ⟨oc_is_plain, od_is_plain, .func (PySem.W.fnOf "is_plain" "is_plain" (C8.fnArgs s_is_plain) (C8.fnBody s_is_plain) (C8.fnScope s_is_plain) .none kV_is_plain dc_is_plain pm_is_plain an_is_plain cd_is_plain ct_is_plain), sl_is_plain⟩) (c_is_plain : PySem.W.codeIn K cd_is_plain "is_plain" = true) (k_is_plain : PySem.W.keepIn K (.ref f_is_plain) = true)
    (a_is_turning : PySem.W.nsIn K mainGlobals "is_turning" = some (some (.ref f_is_turning))) (l_is_turning : K.lookup f_is_turning = some ⟨oc_is_turning, od_is_turning, .func (PySem.W.fnOf "is_turning" "is_turning" (C8.fnArgs s_is_turning) (C8.fnBody s_is_turning) (C8.fnScope s_is_turning) .none kV_is_turning dc_is_turning pm_is_turning an_is_turning cd_is_turning ct_is_turning), sl_is_turning⟩) (c_is_turning : PySem.W.codeIn K cd_is_turning "is_turning" = true) (k_is_turning : PySem.W.keepIn K (.ref f_is_turning) = true)
    (a_codes_fault : PySem.W.nsIn K mainGlobals "codes_fault" = some (some (.ref f_codes_fault))) (l_codes_fault : K.lookup f_codes_fault = some ⟨oc_codes_fault, od_codes_fault, .func (PySem.W.fnOf "codes_fault" "codes_fault" (C8.fnArgs s_codes_fault) (C8.fnBody s_codes_fault) (C8.fnScope s_codes_fault) .none kV_codes_fault dc_codes_fault pm_codes_fault an_codes_fault cd_codes_fault ct_codes_fault), sl_codes_fault⟩) (c_codes_fault : PySem.W.codeIn K cd_codes_fault "codes_fault" = true) (k_codes_fault : PySem.W.keepIn K (.ref f_codes_fault) = true)
    (a_is_code : PySem.W.nsIn K mainGlobals "is_code" = some (some (.ref f_is_code))) (l_is_code : K.lookup f_is_code = some ⟨oc_is_code, od_is_code, .func (PySem.W.fnOf "is_code" "is_code" (C8.fnArgs s_is_code) (C8.fnBody s_is_code) (C8.fnScope s_is_code) .none kV_is_code dc_is_code pm_is_code an_is_code cd_is_code ct_is_code), sl_is_code⟩) (c_is_code : PySem.W.codeIn K cd_is_code "is_code" = true) (k_is_code : PySem.W.keepIn K (.ref f_is_code) = true)
    (a_stand_apart : PySem.W.nsIn K mainGlobals "stand_apart" = some (some (.ref f_stand_apart))) (l_stand_apart : K.lookup f_stand_apart = some ⟨oc_stand_apart, od_stand_apart, .func (PySem.W.fnOf "stand_apart" "stand_apart" (C8.fnArgs s_stand_apart) (C8.fnBody s_stand_apart) (C8.fnScope s_stand_apart) .none kV_stand_apart dc_stand_apart pm_stand_apart an_stand_apart cd_stand_apart ct_stand_apart), sl_stand_apart⟩) (c_stand_apart : PySem.W.codeIn K cd_stand_apart "stand_apart" = true) (k_stand_apart : PySem.W.keepIn K (.ref f_stand_apart) = true)
    (a_escapes_fault : PySem.W.nsIn K mainGlobals "escapes_fault" = some (some (.ref f_escapes_fault))) (l_escapes_fault : K.lookup f_escapes_fault = some ⟨oc_escapes_fault, od_escapes_fault, .func (PySem.W.fnOf "escapes_fault" "escapes_fault" (C8.fnArgs s_escapes_fault) (C8.fnBody s_escapes_fault) (C8.fnScope s_escapes_fault) .none kV_escapes_fault dc_escapes_fault pm_escapes_fault an_escapes_fault cd_escapes_fault ct_escapes_fault), sl_escapes_fault⟩) (c_escapes_fault : PySem.W.codeIn K cd_escapes_fault "escapes_fault" = true) (k_escapes_fault : PySem.W.keepIn K (.ref f_escapes_fault) = true)
    (a_counts_fault : PySem.W.nsIn K mainGlobals "counts_fault" = some (some (.ref f_counts_fault))) (l_counts_fault : K.lookup f_counts_fault = some ⟨oc_counts_fault, od_counts_fault, .func (PySem.W.fnOf "counts_fault" "counts_fault" (C8.fnArgs s_counts_fault) (C8.fnBody s_counts_fault) (C8.fnScope s_counts_fault) .none kV_counts_fault dc_counts_fault pm_counts_fault an_counts_fault cd_counts_fault ct_counts_fault), sl_counts_fault⟩) (c_counts_fault : PySem.W.codeIn K cd_counts_fault "counts_fault" = true) (k_counts_fault : PySem.W.keepIn K (.ref f_counts_fault) = true)
    (a_ranks_fault : PySem.W.nsIn K mainGlobals "ranks_fault" = some (some (.ref f_ranks_fault))) (l_ranks_fault : K.lookup f_ranks_fault = some ⟨oc_ranks_fault, od_ranks_fault, .func (PySem.W.fnOf "ranks_fault" "ranks_fault" (C8.fnArgs s_ranks_fault) (C8.fnBody s_ranks_fault) (C8.fnScope s_ranks_fault) .none kV_ranks_fault dc_ranks_fault pm_ranks_fault an_ranks_fault cd_ranks_fault ct_ranks_fault), sl_ranks_fault⟩) (c_ranks_fault : PySem.W.codeIn K cd_ranks_fault "ranks_fault" = true) (k_ranks_fault : PySem.W.keepIn K (.ref f_ranks_fault) = true)
    (a_written : PySem.W.nsIn K mainGlobals "written" = some (some (.ref f_written))) (l_written : K.lookup f_written = some ⟨oc_written, od_written, .func (PySem.W.fnOf "written" "written" (C8.fnArgs s_written) (C8.fnBody s_written) (C8.fnScope s_written) .none kV_written dc_written pm_written an_written cd_written ct_written), sl_written⟩) (c_written : PySem.W.codeIn K cd_written "written" = true) (k_written : PySem.W.keepIn K (.ref f_written) = true)
    (a_read_way : PySem.W.nsIn K mainGlobals "read_way" = some (some (.ref f_read_way))) (l_read_way : K.lookup f_read_way = some ⟨oc_read_way, od_read_way, .func (PySem.W.fnOf "read_way" "read_way" (C8.fnArgs s_read_way) (C8.fnBody s_read_way) (C8.fnScope s_read_way) .none kV_read_way dc_read_way pm_read_way an_read_way cd_read_way ct_read_way), sl_read_way⟩) (c_read_way : PySem.W.codeIn K cd_read_way "read_way" = true) (k_read_way : PySem.W.keepIn K (.ref f_read_way) = true)
    (a_inner_words : PySem.W.nsIn K mainGlobals "inner_words" = some (some (.ref f_inner_words))) (l_inner_words : K.lookup f_inner_words = some ⟨oc_inner_words, od_inner_words, .func (PySem.W.fnOf "inner_words" "inner_words" (C8.fnArgs s_inner_words) (C8.fnBody s_inner_words) (C8.fnScope s_inner_words) .none kV_inner_words dc_inner_words pm_inner_words an_inner_words cd_inner_words ct_inner_words), sl_inner_words⟩) (c_inner_words : PySem.W.codeIn K cd_inner_words "inner_words" = true) (k_inner_words : PySem.W.keepIn K (.ref f_inner_words) = true)
    (a_inner_in : PySem.W.nsIn K mainGlobals "inner_in" = some (some (.ref f_inner_in))) (l_inner_in : K.lookup f_inner_in = some ⟨oc_inner_in, od_inner_in, .func (PySem.W.fnOf "inner_in" "inner_in" (C8.fnArgs s_inner_in) (C8.fnBody s_inner_in) (C8.fnScope s_inner_in) .none kV_inner_in dc_inner_in pm_inner_in an_inner_in cd_inner_in ct_inner_in), sl_inner_in⟩) (c_inner_in : PySem.W.codeIn K cd_inner_in "inner_in" = true) (k_inner_in : PySem.W.keepIn K (.ref f_inner_in) = true)
    (a_dotted : PySem.W.nsIn K mainGlobals "dotted" = some (some (.ref f_dotted))) (l_dotted : K.lookup f_dotted = some ⟨oc_dotted, od_dotted, .func (PySem.W.fnOf "dotted" "dotted" (C8.fnArgs s_dotted) (C8.fnBody s_dotted) (C8.fnScope s_dotted) .none kV_dotted dc_dotted pm_dotted an_dotted cd_dotted ct_dotted), sl_dotted⟩) (c_dotted : PySem.W.codeIn K cd_dotted "dotted" = true) (k_dotted : PySem.W.keepIn K (.ref f_dotted) = true)
    (a_signs_in : PySem.W.nsIn K mainGlobals "signs_in" = some (some (.ref f_signs_in))) (l_signs_in : K.lookup f_signs_in = some ⟨oc_signs_in, od_signs_in, .func (PySem.W.fnOf "signs_in" "signs_in" (C8.fnArgs s_signs_in) (C8.fnBody s_signs_in) (C8.fnScope s_signs_in) .none kV_signs_in dc_signs_in pm_signs_in an_signs_in cd_signs_in ct_signs_in), sl_signs_in⟩) (c_signs_in : PySem.W.codeIn K cd_signs_in "signs_in" = true) (k_signs_in : PySem.W.keepIn K (.ref f_signs_in) = true)
    (a_pair_in : PySem.W.nsIn K mainGlobals "pair_in" = some (some (.ref f_pair_in))) (l_pair_in : K.lookup f_pair_in = some ⟨oc_pair_in, od_pair_in, .func (PySem.W.fnOf "pair_in" "pair_in" (C8.fnArgs s_pair_in) (C8.fnBody s_pair_in) (C8.fnScope s_pair_in) .none kV_pair_in dc_pair_in pm_pair_in an_pair_in cd_pair_in ct_pair_in), sl_pair_in⟩) (c_pair_in : PySem.W.codeIn K cd_pair_in "pair_in" = true) (k_pair_in : PySem.W.keepIn K (.ref f_pair_in) = true)
    (a_number_in : PySem.W.nsIn K mainGlobals "number_in" = some (some (.ref f_number_in))) (l_number_in : K.lookup f_number_in = some ⟨oc_number_in, od_number_in, .func (PySem.W.fnOf "number_in" "number_in" (C8.fnArgs s_number_in) (C8.fnBody s_number_in) (C8.fnScope s_number_in) .none kV_number_in dc_number_in pm_number_in an_number_in cd_number_in ct_number_in), sl_number_in⟩) (c_number_in : PySem.W.codeIn K cd_number_in "number_in" = true) (k_number_in : PySem.W.keepIn K (.ref f_number_in) = true)
    (a__law_dice : PySem.W.nsIn K mainGlobals "_law_dice" = some (some (.ref f__law_dice))) (l__law_dice : K.lookup f__law_dice = some ⟨oc__law_dice, od__law_dice, .func (PySem.W.fnOf "_law_dice" "_law_dice" (C8.fnArgs s__law_dice) (C8.fnBody s__law_dice) (C8.fnScope s__law_dice) .none kV__law_dice dc__law_dice pm__law_dice an__law_dice cd__law_dice ct__law_dice), sl__law_dice⟩) (c__law_dice : PySem.W.codeIn K cd__law_dice "_law_dice" = true) (k__law_dice : PySem.W.keepIn K (.ref f__law_dice) = true)
    (a__law_off : PySem.W.nsIn K mainGlobals "_law_off" = some (some (.ref f__law_off))) (l__law_off : K.lookup f__law_off = some ⟨oc__law_off, od__law_off, .func (PySem.W.fnOf "_law_off" "_law_off" (C8.fnArgs s__law_off) (C8.fnBody s__law_off) (C8.fnScope s__law_off) .none kV__law_off dc__law_off pm__law_off an__law_off cd__law_off ct__law_off), sl__law_off⟩) (c__law_off : PySem.W.codeIn K cd__law_off "_law_off" = true) (k__law_off : PySem.W.keepIn K (.ref f__law_off) = true)
    (a__law_alike : PySem.W.nsIn K mainGlobals "_law_alike" = some (some (.ref f__law_alike))) (l__law_alike : K.lookup f__law_alike = some ⟨oc__law_alike, od__law_alike, .func (PySem.W.fnOf "_law_alike" "_law_alike" (C8.fnArgs s__law_alike) (C8.fnBody s__law_alike) (C8.fnScope s__law_alike) .none kV__law_alike dc__law_alike pm__law_alike an__law_alike cd__law_alike ct__law_alike), sl__law_alike⟩) (c__law_alike : PySem.W.codeIn K cd__law_alike "_law_alike" = true) (k__law_alike : PySem.W.keepIn K (.ref f__law_alike) = true)
    (a__law_mixed : PySem.W.nsIn K mainGlobals "_law_mixed" = some (some (.ref f__law_mixed))) (l__law_mixed : K.lookup f__law_mixed = some ⟨oc__law_mixed, od__law_mixed, .func (PySem.W.fnOf "_law_mixed" "_law_mixed" (C8.fnArgs s__law_mixed) (C8.fnBody s__law_mixed) (C8.fnScope s__law_mixed) .none kV__law_mixed dc__law_mixed pm__law_mixed an__law_mixed cd__law_mixed ct__law_mixed), sl__law_mixed⟩) (c__law_mixed : PySem.W.codeIn K cd__law_mixed "_law_mixed" = true) (k__law_mixed : PySem.W.keepIn K (.ref f__law_mixed) = true)
    (a__law_plain : PySem.W.nsIn K mainGlobals "_law_plain" = some (some (.ref f__law_plain))) (l__law_plain : K.lookup f__law_plain = some ⟨oc__law_plain, od__law_plain, .func (PySem.W.fnOf "_law_plain" "_law_plain" (C8.fnArgs s__law_plain) (C8.fnBody s__law_plain) (C8.fnScope s__law_plain) .none kV__law_plain dc__law_plain pm__law_plain an__law_plain cd__law_plain ct__law_plain), sl__law_plain⟩) (c__law_plain : PySem.W.codeIn K cd__law_plain "_law_plain" = true) (k__law_plain : PySem.W.keepIn K (.ref f__law_plain) = true)
    (a__law_codes : PySem.W.nsIn K mainGlobals "_law_codes" = some (some (.ref f__law_codes))) (l__law_codes : K.lookup f__law_codes = some ⟨oc__law_codes, od__law_codes, .func (PySem.W.fnOf "_law_codes" "_law_codes" (C8.fnArgs s__law_codes) (C8.fnBody s__law_codes) (C8.fnScope s__law_codes) .none kV__law_codes dc__law_codes pm__law_codes an__law_codes cd__law_codes ct__law_codes), sl__law_codes⟩) (c__law_codes : PySem.W.codeIn K cd__law_codes "_law_codes" = true) (k__law_codes : PySem.W.keepIn K (.ref f__law_codes) = true)
    (a__law_escapes : PySem.W.nsIn K mainGlobals "_law_escapes" = some (some (.ref f__law_escapes))) (l__law_escapes : K.lookup f__law_escapes = some ⟨oc__law_escapes, od__law_escapes, .func (PySem.W.fnOf "_law_escapes" "_law_escapes" (C8.fnArgs s__law_escapes) (C8.fnBody s__law_escapes) (C8.fnScope s__law_escapes) .none kV__law_escapes dc__law_escapes pm__law_escapes an__law_escapes cd__law_escapes ct__law_escapes), sl__law_escapes⟩) (c__law_escapes : PySem.W.codeIn K cd__law_escapes "_law_escapes" = true) (k__law_escapes : PySem.W.keepIn K (.ref f__law_escapes) = true)
    (a__law_base : PySem.W.nsIn K mainGlobals "_law_base" = some (some (.ref f__law_base))) (l__law_base : K.lookup f__law_base = some ⟨oc__law_base, od__law_base, .func (PySem.W.fnOf "_law_base" "_law_base" (C8.fnArgs s__law_base) (C8.fnBody s__law_base) (C8.fnScope s__law_base) .none kV__law_base dc__law_base pm__law_base an__law_base cd__law_base ct__law_base), sl__law_base⟩) (c__law_base : PySem.W.codeIn K cd__law_base "_law_base" = true) (k__law_base : PySem.W.keepIn K (.ref f__law_base) = true)
    (a__law_turned : PySem.W.nsIn K mainGlobals "_law_turned" = some (some (.ref f__law_turned))) (l__law_turned : K.lookup f__law_turned = some ⟨oc__law_turned, od__law_turned, .func (PySem.W.fnOf "_law_turned" "_law_turned" (C8.fnArgs s__law_turned) (C8.fnBody s__law_turned) (C8.fnScope s__law_turned) .none kV__law_turned dc__law_turned pm__law_turned an__law_turned cd__law_turned ct__law_turned), sl__law_turned⟩) (c__law_turned : PySem.W.codeIn K cd__law_turned "_law_turned" = true) (k__law_turned : PySem.W.keepIn K (.ref f__law_turned) = true)
    (a__law_core : PySem.W.nsIn K mainGlobals "_law_core" = some (some (.ref f__law_core))) (l__law_core : K.lookup f__law_core = some ⟨oc__law_core, od__law_core, .func (PySem.W.fnOf "_law_core" "_law_core" (C8.fnArgs s__law_core) (C8.fnBody s__law_core) (C8.fnScope s__law_core) .none kV__law_core dc__law_core pm__law_core an__law_core cd__law_core ct__law_core), sl__law_core⟩) (c__law_core : PySem.W.codeIn K cd__law_core "_law_core" = true) (k__law_core : PySem.W.keepIn K (.ref f__law_core) = true)
    (a__law_top : PySem.W.nsIn K mainGlobals "_law_top" = some (some (.ref f__law_top))) (l__law_top : K.lookup f__law_top = some ⟨oc__law_top, od__law_top, .func (PySem.W.fnOf "_law_top" "_law_top" (C8.fnArgs s__law_top) (C8.fnBody s__law_top) (C8.fnScope s__law_top) .none kV__law_top dc__law_top pm__law_top an__law_top cd__law_top ct__law_top), sl__law_top⟩) (c__law_top : PySem.W.codeIn K cd__law_top "_law_top" = true) (k__law_top : PySem.W.keepIn K (.ref f__law_top) = true)
    (a__law_size : PySem.W.nsIn K mainGlobals "_law_size" = some (some (.ref f__law_size))) (l__law_size : K.lookup f__law_size = some ⟨oc__law_size, od__law_size, .func (PySem.W.fnOf "_law_size" "_law_size" (C8.fnArgs s__law_size) (C8.fnBody s__law_size) (C8.fnScope s__law_size) .none kV__law_size dc__law_size pm__law_size an__law_size cd__law_size ct__law_size), sl__law_size⟩) (c__law_size : PySem.W.codeIn K cd__law_size "_law_size" = true) (k__law_size : PySem.W.keepIn K (.ref f__law_size) = true)
    (a__law_way : PySem.W.nsIn K mainGlobals "_law_way" = some (some (.ref f__law_way))) (l__law_way : K.lookup f__law_way = some ⟨oc__law_way, od__law_way, .func (PySem.W.fnOf "_law_way" "_law_way" (C8.fnArgs s__law_way) (C8.fnBody s__law_way) (C8.fnScope s__law_way) .none kV__law_way dc__law_way pm__law_way an__law_way cd__law_way ct__law_way), sl__law_way⟩) (c__law_way : PySem.W.codeIn K cd__law_way "_law_way" = true) (k__law_way : PySem.W.keepIn K (.ref f__law_way) = true)
    (a__law_is : PySem.W.nsIn K mainGlobals "_law_is" = some (some (.ref f__law_is))) (l__law_is : K.lookup f__law_is = some ⟨oc__law_is, od__law_is, .func (PySem.W.fnOf "_law_is" "_law_is" (C8.fnArgs s__law_is) (C8.fnBody s__law_is) (C8.fnScope s__law_is) .none kV__law_is dc__law_is pm__law_is an__law_is cd__law_is ct__law_is), sl__law_is⟩) (c__law_is : PySem.W.codeIn K cd__law_is "_law_is" = true) (k__law_is : PySem.W.keepIn K (.ref f__law_is) = true)
    (a__law_refused : PySem.W.nsIn K mainGlobals "_law_refused" = some (some (.ref f__law_refused))) (l__law_refused : K.lookup f__law_refused = some ⟨oc__law_refused, od__law_refused, .func (PySem.W.fnOf "_law_refused" "_law_refused" (C8.fnArgs s__law_refused) (C8.fnBody s__law_refused) (C8.fnScope s__law_refused) .none kV__law_refused dc__law_refused pm__law_refused an__law_refused cd__law_refused ct__law_refused), sl__law_refused⟩) (c__law_refused : PySem.W.codeIn K cd__law_refused "_law_refused" = true) (k__law_refused : PySem.W.keepIn K (.ref f__law_refused) = true)
    (a__law_turns : PySem.W.nsIn K mainGlobals "_law_turns" = some (some (.ref f__law_turns))) (l__law_turns : K.lookup f__law_turns = some ⟨oc__law_turns, od__law_turns, .func (PySem.W.fnOf "_law_turns" "_law_turns" (C8.fnArgs s__law_turns) (C8.fnBody s__law_turns) (C8.fnScope s__law_turns) .none kV__law_turns dc__law_turns pm__law_turns an__law_turns cd__law_turns ct__law_turns), sl__law_turns⟩) (c__law_turns : PySem.W.codeIn K cd__law_turns "_law_turns" = true) (k__law_turns : PySem.W.keepIn K (.ref f__law_turns) = true)
    (a__law_within : PySem.W.nsIn K mainGlobals "_law_within" = some (some (.ref f__law_within))) (l__law_within : K.lookup f__law_within = some ⟨oc__law_within, od__law_within, .func (PySem.W.fnOf "_law_within" "_law_within" (C8.fnArgs s__law_within) (C8.fnBody s__law_within) (C8.fnScope s__law_within) .none kV__law_within dc__law_within pm__law_within an__law_within cd__law_within ct__law_within), sl__law_within⟩) (c__law_within : PySem.W.codeIn K cd__law_within "_law_within" = true) (k__law_within : PySem.W.keepIn K (.ref f__law_within) = true)
    (a__law_are_codes : PySem.W.nsIn K mainGlobals "_law_are_codes" = some (some (.ref f__law_are_codes))) (l__law_are_codes : K.lookup f__law_are_codes = some ⟨oc__law_are_codes, od__law_are_codes, .func (PySem.W.fnOf "_law_are_codes" "_law_are_codes" (C8.fnArgs s__law_are_codes) (C8.fnBody s__law_are_codes) (C8.fnScope s__law_are_codes) .none kV__law_are_codes dc__law_are_codes pm__law_are_codes an__law_are_codes cd__law_are_codes ct__law_are_codes), sl__law_are_codes⟩) (c__law_are_codes : PySem.W.codeIn K cd__law_are_codes "_law_are_codes" = true) (k__law_are_codes : PySem.W.keepIn K (.ref f__law_are_codes) = true)
    (a__law_are_pairs : PySem.W.nsIn K mainGlobals "_law_are_pairs" = some (some (.ref f__law_are_pairs))) (l__law_are_pairs : K.lookup f__law_are_pairs = some ⟨oc__law_are_pairs, od__law_are_pairs, .func (PySem.W.fnOf "_law_are_pairs" "_law_are_pairs" (C8.fnArgs s__law_are_pairs) (C8.fnBody s__law_are_pairs) (C8.fnScope s__law_are_pairs) .none kV__law_are_pairs dc__law_are_pairs pm__law_are_pairs an__law_are_pairs cd__law_are_pairs ct__law_are_pairs), sl__law_are_pairs⟩) (c__law_are_pairs : PySem.W.codeIn K cd__law_are_pairs "_law_are_pairs" = true) (k__law_are_pairs : PySem.W.keepIn K (.ref f__law_are_pairs) = true)
    (a__law_why : PySem.W.nsIn K mainGlobals "_law_why" = some (some (.ref f__law_why))) (l__law_why : K.lookup f__law_why = some ⟨oc__law_why, od__law_why, .func (PySem.W.fnOf "_law_why" "_law_why" (C8.fnArgs s__law_why) (C8.fnBody s__law_why) (C8.fnScope s__law_why) .none kV__law_why dc__law_why pm__law_why an__law_why cd__law_why ct__law_why), sl__law_why⟩) (c__law_why : PySem.W.codeIn K cd__law_why "_law_why" = true) (k__law_why : PySem.W.keepIn K (.ref f__law_why) = true)
    (a__law_dots : PySem.W.nsIn K mainGlobals "_law_dots" = some (some (.ref f__law_dots))) (l__law_dots : K.lookup f__law_dots = some ⟨oc__law_dots, od__law_dots, .func (PySem.W.fnOf "_law_dots" "_law_dots" (C8.fnArgs s__law_dots) (C8.fnBody s__law_dots) (C8.fnScope s__law_dots) .none kV__law_dots dc__law_dots pm__law_dots an__law_dots cd__law_dots ct__law_dots), sl__law_dots⟩) (c__law_dots : PySem.W.codeIn K cd__law_dots "_law_dots" = true) (k__law_dots : PySem.W.keepIn K (.ref f__law_dots) = true)
    (a__law_text : PySem.W.nsIn K mainGlobals "_law_text" = some (some (.ref f__law_text))) (l__law_text : K.lookup f__law_text = some ⟨oc__law_text, od__law_text, .func (PySem.W.fnOf "_law_text" "_law_text" (C8.fnArgs s__law_text) (C8.fnBody s__law_text) (C8.fnScope s__law_text) .none kV__law_text dc__law_text pm__law_text an__law_text cd__law_text ct__law_text), sl__law_text⟩) (c__law_text : PySem.W.codeIn K cd__law_text "_law_text" = true) (k__law_text : PySem.W.keepIn K (.ref f__law_text) = true)
    (a__law_other : PySem.W.nsIn K mainGlobals "_law_other" = some (some (.ref f__law_other))) (l__law_other : K.lookup f__law_other = some ⟨oc__law_other, od__law_other, .func (PySem.W.fnOf "_law_other" "_law_other" (C8.fnArgs s__law_other) (C8.fnBody s__law_other) (C8.fnScope s__law_other) .none kV__law_other dc__law_other pm__law_other an__law_other cd__law_other ct__law_other), sl__law_other⟩) (c__law_other : PySem.W.codeIn K cd__law_other "_law_other" = true) (k__law_other : PySem.W.keepIn K (.ref f__law_other) = true)
    (a__law_good : PySem.W.nsIn K mainGlobals "_law_good" = some (some (.ref f__law_good))) (l__law_good : K.lookup f__law_good = some ⟨oc__law_good, od__law_good, .func (PySem.W.fnOf "_law_good" "_law_good" (C8.fnArgs s__law_good) (C8.fnBody s__law_good) (C8.fnScope s__law_good) .none kV__law_good dc__law_good pm__law_good an__law_good (.ref cdO__law_good) ct__law_good), sl__law_good⟩) (c__law_good : PySem.W.codeIn K (.ref cdO__law_good) "_law_good" = true) (k__law_good : PySem.W.keepIn K (.ref f__law_good) = true)
    (a_law : PySem.W.nsIn K mainGlobals "law" = some (some (.ref f_law))) (l_law : K.lookup f_law = some ⟨oc_law, od_law, .func (PySem.W.fnOf "law" "law" (C8.fnArgs s_law) (C8.fnBody s_law) (C8.fnScope s_law) .none kV_law dc_law pm_law an_law cd_law ct_law), sl_law⟩) (c_law : PySem.W.codeIn K cd_law "law" = true) (k_law : PySem.W.keepIn K (.ref f_law) = true)
    (g_LEAST_TOP : PySem.W.nsIn K mainGlobals "LEAST_TOP" = some (some (.int 3 t_LEAST_TOP)))
    (g_MOST_TOP : PySem.W.nsIn K mainGlobals "MOST_TOP" = some (some (.int 16 t_MOST_TOP)))
    (g_LONGEST_CODE : PySem.W.nsIn K mainGlobals "LONGEST_CODE" = some (some (.int 4 t_LONGEST_CODE)))
    (g_MOST_TURNED : PySem.W.nsIn K mainGlobals "MOST_TURNED" = some (some (.int 3 t_MOST_TURNED)))
    (g_MOST_FIGURES : PySem.W.nsIn K mainGlobals "MOST_FIGURES" = some (some (.int 3 t_MOST_FIGURES)))
    (g_FAULTS : PySem.W.nsIn K mainGlobals "FAULTS" = some (some (.ref p_FAULTS))) (m_FAULTS : K.lookup p_FAULTS = some ⟨.type "dict", none, .dict es_FAULTS n_FAULTS, #[]⟩) (e_FAULTS : PySem.W.KeysLit w.params es_FAULTS.toList)
    (h_FAULTS_codes : PySem.W.nsIn K p_FAULTS "codes" = some (some (.ref f_codes_fault)))
    (h_FAULTS_escapes : PySem.W.nsIn K p_FAULTS "escapes" = some (some (.ref f_escapes_fault)))
    (h_FAULTS_counts : PySem.W.nsIn K p_FAULTS "counts" = some (some (.ref f_counts_fault)))
    (h_FAULTS_ranks : PySem.W.nsIn K p_FAULTS "ranks" = some (some (.ref f_ranks_fault)))
    (g_NUMBERS : PySem.W.nsIn K mainGlobals "NUMBERS" = some (some (.ref p_NUMBERS))) (m_NUMBERS : K.lookup p_NUMBERS = some ⟨.type "dict", none, .dict es_NUMBERS n_NUMBERS, #[]⟩) (e_NUMBERS : PySem.W.KeysLit w.params es_NUMBERS.toList)
    (lo_NUMBERS : (p_NUMBERS == sysModules) = false)
    (h_NUMBERS_codes : PySem.W.nsIn K p_NUMBERS "codes" = some (some (.int 2 u_NUMBERS_codes)))
    (h_NUMBERS_escapes : PySem.W.nsIn K p_NUMBERS "escapes" = some (some (.int 3 u_NUMBERS_escapes)))
    (h_NUMBERS_counts : PySem.W.nsIn K p_NUMBERS "counts" = some (some (.int 3 u_NUMBERS_counts)))
    (h_NUMBERS_ranks : PySem.W.nsIn K p_NUMBERS "ranks" = some (some (.int 2 u_NUMBERS_ranks)))
    {c0 c1 c2 c3 c4 cR : Addr}
    {fi_k0 cFi_k0 ccell_k0 : Addr} {oci_k0 kVi_k0 dci_k0 pmi_k0 cti_k0 ccli_k0 cle_k0 : Value} {odi_k0 ani_k0 cddi_k0 clde_k0 : Option Addr} {sli_k0 csli_k0 csle_k0 : Array (Option Value)} {cvsi_k0 : Array Value} {filei_k0 : Str} {tfi_k0 : Tok} {cdDi_k0 : ClassData} {o0_k0 : Obj}
    (lc_law : K.lookup cdO__law_good = some ⟨.type "code", cdd_law, .fields cvs_law, csl_law⟩)
    (hv_law : CodeVs cvs_law PT_law)
    (hPT_law : K.lookup PT_law = none)
    (nc_law : cdO__law_good ≠ PT_law)
    (x_a0 : PySem.W.nsIn K mainGlobals "BadWay" = some (some (.ref c0)))
    (x_a1 : PySem.W.nsIn K mainGlobals "BadBody" = some (some (.ref c1)))
    (x_a2 : PySem.W.nsIn K mainGlobals "BadSigns" = some (some (.ref c2)))
    (x_a3 : PySem.W.nsIn K mainGlobals "OtherTop" = some (some (.ref c3)))
    (x_a4 : PySem.W.nsIn K mainGlobals "BadText" = some (some (.ref c4)))
    (x_aR : PySem.W.nsIn K mainGlobals "RowError" = some (some (.ref cR)))
    (x_zV : PySem.W.nsIn K mainGlobals "ValueError" = some none)
    (x_n01 : (Value.ref c0 == Value.ref c1) = false)
    (x_s01 : PySem.W.subIn K (.ref c0) (.ref c1) = some false)
    (x_n02 : (Value.ref c0 == Value.ref c2) = false)
    (x_s02 : PySem.W.subIn K (.ref c0) (.ref c2) = some false)
    (x_n03 : (Value.ref c0 == Value.ref c3) = false)
    (x_s03 : PySem.W.subIn K (.ref c0) (.ref c3) = some false)
    (x_n04 : (Value.ref c0 == Value.ref c4) = false)
    (x_s04 : PySem.W.subIn K (.ref c0) (.ref c4) = some false)
    (x_n10 : (Value.ref c1 == Value.ref c0) = false)
    (x_s10 : PySem.W.subIn K (.ref c1) (.ref c0) = some false)
    (x_n12 : (Value.ref c1 == Value.ref c2) = false)
    (x_s12 : PySem.W.subIn K (.ref c1) (.ref c2) = some false)
    (x_n13 : (Value.ref c1 == Value.ref c3) = false)
    (x_s13 : PySem.W.subIn K (.ref c1) (.ref c3) = some false)
    (x_n14 : (Value.ref c1 == Value.ref c4) = false)
    (x_s14 : PySem.W.subIn K (.ref c1) (.ref c4) = some false)
    (x_n20 : (Value.ref c2 == Value.ref c0) = false)
    (x_s20 : PySem.W.subIn K (.ref c2) (.ref c0) = some false)
    (x_n21 : (Value.ref c2 == Value.ref c1) = false)
    (x_s21 : PySem.W.subIn K (.ref c2) (.ref c1) = some false)
    (x_n23 : (Value.ref c2 == Value.ref c3) = false)
    (x_s23 : PySem.W.subIn K (.ref c2) (.ref c3) = some false)
    (x_n24 : (Value.ref c2 == Value.ref c4) = false)
    (x_s24 : PySem.W.subIn K (.ref c2) (.ref c4) = some false)
    (x_n30 : (Value.ref c3 == Value.ref c0) = false)
    (x_s30 : PySem.W.subIn K (.ref c3) (.ref c0) = some false)
    (x_n31 : (Value.ref c3 == Value.ref c1) = false)
    (x_s31 : PySem.W.subIn K (.ref c3) (.ref c1) = some false)
    (x_n32 : (Value.ref c3 == Value.ref c2) = false)
    (x_s32 : PySem.W.subIn K (.ref c3) (.ref c2) = some false)
    (x_n34 : (Value.ref c3 == Value.ref c4) = false)
    (x_s34 : PySem.W.subIn K (.ref c3) (.ref c4) = some false)
    (x_n40 : (Value.ref c4 == Value.ref c0) = false)
    (x_s40 : PySem.W.subIn K (.ref c4) (.ref c0) = some false)
    (x_n41 : (Value.ref c4 == Value.ref c1) = false)
    (x_s41 : PySem.W.subIn K (.ref c4) (.ref c1) = some false)
    (x_n42 : (Value.ref c4 == Value.ref c2) = false)
    (x_s42 : PySem.W.subIn K (.ref c4) (.ref c2) = some false)
    (x_n43 : (Value.ref c4 == Value.ref c3) = false)
    (x_s43 : PySem.W.subIn K (.ref c4) (.ref c3) = some false)
    (x_v0 : PySem.W.subIn K (.ref c0) (.type "ValueError") = some true)
    (x_r0 : PySem.W.subIn K (.ref c0) (.ref cR) = some true)
    (x_g0 : PySem.W.findIn K (.ref c0) "__getattribute__" = some (some (.builtin "BaseException.__getattribute__")))
    (x_k0 : PySem.W.findIn K (.ref c0) "__getattr__" = some none)
    (x_e0 : PySem.W.subIn K (.ref c0) (.type "BaseException") = some true)
    (x_d0 : PySem.W.hasDictIn K c0 = true)
    (x_b0 : PySem.W.findIn K (.ref c0) "__class__" = some (some (.builtin "object.__class__")))
    (x_m0 : PySem.W.mroIn K c0 (.type "object") = some true)
    (x_t0 : PySem.W.typeIn K (.ref c0) = some (.type "type"))
    (x_v1 : PySem.W.subIn K (.ref c1) (.type "ValueError") = some true)
    (x_r1 : PySem.W.subIn K (.ref c1) (.ref cR) = some true)
    (x_g1 : PySem.W.findIn K (.ref c1) "__getattribute__" = some (some (.builtin "BaseException.__getattribute__")))
    (x_k1 : PySem.W.findIn K (.ref c1) "__getattr__" = some none)
    (x_e1 : PySem.W.subIn K (.ref c1) (.type "BaseException") = some true)
    (x_d1 : PySem.W.hasDictIn K c1 = true)
    (x_b1 : PySem.W.findIn K (.ref c1) "__class__" = some (some (.builtin "object.__class__")))
    (x_m1 : PySem.W.mroIn K c1 (.type "object") = some true)
    (x_t1 : PySem.W.typeIn K (.ref c1) = some (.type "type"))
    (x_v2 : PySem.W.subIn K (.ref c2) (.type "ValueError") = some true)
    (x_r2 : PySem.W.subIn K (.ref c2) (.ref cR) = some true)
    (x_g2 : PySem.W.findIn K (.ref c2) "__getattribute__" = some (some (.builtin "BaseException.__getattribute__")))
    (x_k2 : PySem.W.findIn K (.ref c2) "__getattr__" = some none)
    (x_e2 : PySem.W.subIn K (.ref c2) (.type "BaseException") = some true)
    (x_d2 : PySem.W.hasDictIn K c2 = true)
    (x_b2 : PySem.W.findIn K (.ref c2) "__class__" = some (some (.builtin "object.__class__")))
    (x_m2 : PySem.W.mroIn K c2 (.type "object") = some true)
    (x_t2 : PySem.W.typeIn K (.ref c2) = some (.type "type"))
    (x_v3 : PySem.W.subIn K (.ref c3) (.type "ValueError") = some true)
    (x_r3 : PySem.W.subIn K (.ref c3) (.ref cR) = some true)
    (x_g3 : PySem.W.findIn K (.ref c3) "__getattribute__" = some (some (.builtin "BaseException.__getattribute__")))
    (x_k3 : PySem.W.findIn K (.ref c3) "__getattr__" = some none)
    (x_e3 : PySem.W.subIn K (.ref c3) (.type "BaseException") = some true)
    (x_d3 : PySem.W.hasDictIn K c3 = true)
    (x_b3 : PySem.W.findIn K (.ref c3) "__class__" = some (some (.builtin "object.__class__")))
    (x_m3 : PySem.W.mroIn K c3 (.type "object") = some true)
    (x_t3 : PySem.W.typeIn K (.ref c3) = some (.type "type"))
    (x_v4 : PySem.W.subIn K (.ref c4) (.type "ValueError") = some true)
    (x_r4 : PySem.W.subIn K (.ref c4) (.ref cR) = some true)
    (x_g4 : PySem.W.findIn K (.ref c4) "__getattribute__" = some (some (.builtin "BaseException.__getattribute__")))
    (x_k4 : PySem.W.findIn K (.ref c4) "__getattr__" = some none)
    (x_e4 : PySem.W.subIn K (.ref c4) (.type "BaseException") = some true)
    (x_d4 : PySem.W.hasDictIn K c4 = true)
    (x_b4 : PySem.W.findIn K (.ref c4) "__class__" = some (some (.builtin "object.__class__")))
    (x_m4 : PySem.W.mroIn K c4 (.type "object") = some true)
    (x_t4 : PySem.W.typeIn K (.ref c4) = some (.type "type"))
    (x_gs : PySem.W.specialIn K (.builtin "object.__class__") "__get__" = some (some (.builtin "getset_descriptor.__get__")))
    (x_gt : PySem.W.takesIn K (.builtin "object.__class__") = some true)
    (x_eR : PySem.W.subIn K (.ref cR) (.type "BaseException") = some true)
    (x_dR : PySem.W.hasDictIn K cR = true)
    (x_tR : PySem.W.typeIn K (.ref cR) = some (.type "type"))
    (x_w0 : PySem.W.findIn K (.ref c0) "why" = some none)
    (x_w1 : PySem.W.findIn K (.ref c1) "at" = some none)
    (x_w2 : PySem.W.findIn K (.ref c2) "at" = some none)
    (zS : PySem.W.nsIn K mainGlobals "super" = some none)
    (topI : (l.prog.main.scope.names.lookup ("super" : Str)).isSome = false)
    (statI : PySem.W.nsIn K cStatics "thirdparty.any" = some none)
    (iF_k0 : PySem.W.findIn K (.ref c0) "__init__" = some (some (.ref fi_k0)))
    (iT_k0 : PySem.W.typeIn K (.ref fi_k0) = some (.type "function"))
    (lI_k0 : K.lookup fi_k0 = some ⟨oci_k0, odi_k0, .func (PySem.W.fnX "__init__" "BadWay.__init__" (C8.fnArgs s_way_init) (C8.fnBody s_way_init) (C8.fnScope s_way_init) [(("__class__" : Str), ccell_k0)] .none kVi_k0 dci_k0 pmi_k0 ani_k0 (.ref cFi_k0) cti_k0), sli_k0⟩)
    (cI_k0 : PySem.W.codeIn K (.ref cFi_k0) "BadWay.__init__" = true)
    (lcI_k0 : K.lookup cFi_k0 = some ⟨ccli_k0, cddi_k0, .fields cvsi_k0, csli_k0⟩)
    (hvsI_k0 : cvsi_k0[2]? = some (.str filei_k0 tfi_k0))
    (hfileI_k0 : ((l.prog.main.file : Str) == filei_k0) = true)
    (lcell_k0 : K.lookup ccell_k0 = some ⟨cle_k0, clde_k0, .cell (some (.ref c0)), csle_k0⟩)
    (hDI_k0 : PySem.W.clsIn K c0 = some cdDi_k0)
    (lkC_k0 : K.lookup c0 = some o0_k0)
    (lxC_k0 : ExcO c0 o0_k0)
    (saC_k0 : PySem.W.findIn K (.ref c0) "__setattr__" = some (some (.builtin "object.__setattr__")))
    (kpC_k0 : PySem.W.keepIn K (.ref c0) = true)
    (mrC_k0 : PySem.W.mroIn K c0 (.ref c0) = some true)
    (supC_k0 : PySem.W.ks_superIn K c0 c0 "__init__" = some (some (.builtin "ValueError.__init__"))) :
    LamX.LawAtS l w K C8.CX0 13 63 "_law_script" mg fa h := by
  have T : Top K w mg := ⟨⟨PySem.W.mg_none_of X G z_abs, PySem.W.mg_none_of X G z_all, PySem.W.mg_none_of X G z_enumerate, PySem.W.mg_none_of X G z_int, PySem.W.mg_none_of X G z_isinstance, PySem.W.mg_none_of X G z_len, PySem.W.mg_none_of X G z_list, PySem.W.mg_none_of X G z_min, PySem.W.mg_none_of X G z_range, PySem.W.mg_none_of X G z_reversed, PySem.W.mg_none_of X G z_set, PySem.W.mg_none_of X G z_sorted, PySem.W.mg_none_of X G z_tuple, PySem.W.mg_none_of X G z_type⟩, ⟨PySem.W.mg_none_of X G z_bool, PySem.W.mg_none_of X G z_str⟩, ⟨⟨f_need_way, dd_mk X G a_need_way l_need_way c_need_way k_need_way fun _ _ _ _ _ _ us hl => match us, hl with | [_], _ => rfl⟩⟩, ⟨⟨f_fault_of, dd_mk X G a_fault_of l_fault_of c_fault_of k_fault_of fun _ _ _ _ _ _ us hl => match us, hl with | [_], _ => rfl⟩⟩, ⟨⟨f_unturned, dd_mk X G a_unturned l_unturned c_unturned k_unturned fun _ _ _ _ _ _ us hl => match us, hl with | [_], _ => rfl⟩⟩, ⟨⟨f_first_unsigned, dd_mk X G a_first_unsigned l_first_unsigned c_first_unsigned k_first_unsigned fun _ _ _ _ _ _ us hl => match us, hl with | [_, _], _ => rfl⟩⟩, ⟨⟨f_is_whole, dd_mk X G a_is_whole l_is_whole c_is_whole k_is_whole fun _ _ _ _ _ _ us hl => match us, hl with | [_], _ => rfl⟩⟩, ⟨⟨f_is_top, dd_mk X G a_is_top l_is_top c_is_top k_is_top fun _ _ _ _ _ _ us hl => match us, hl with | [_], _ => rfl⟩⟩, ⟨⟨f_is_sign, dd_mk X G a_is_sign l_is_sign c_is_sign k_is_sign fun _ _ _ _ _ _ us hl => match us, hl with | [_, _], _ => rfl⟩⟩, ⟨⟨f_is_plain, dd_mk X G a_is_plain l_is_plain c_is_plain k_is_plain fun _ _ _ _ _ _ us hl => match us, hl with | [_, _, _], _ => rfl⟩⟩, ⟨⟨f_is_turning, dd_mk X G a_is_turning l_is_turning c_is_turning k_is_turning fun _ _ _ _ _ _ us hl => match us, hl with | [_, _], _ => rfl⟩⟩, ⟨⟨f_codes_fault, dd_mk X G a_codes_fault l_codes_fault c_codes_fault k_codes_fault fun _ _ _ _ _ _ us hl => match us, hl with | [_], _ => rfl⟩⟩, ⟨⟨f_is_code, dd_mk X G a_is_code l_is_code c_is_code k_is_code fun _ _ _ _ _ _ us hl => match us, hl with | [_, _, _], _ => rfl⟩⟩, ⟨⟨f_stand_apart, dd_mk X G a_stand_apart l_stand_apart c_stand_apart k_stand_apart fun _ _ _ _ _ _ us hl => match us, hl with | [_], _ => rfl⟩⟩, ⟨⟨f_escapes_fault, dd_mk X G a_escapes_fault l_escapes_fault c_escapes_fault k_escapes_fault fun _ _ _ _ _ _ us hl => match us, hl with | [_], _ => rfl⟩⟩, ⟨⟨f_counts_fault, dd_mk X G a_counts_fault l_counts_fault c_counts_fault k_counts_fault fun _ _ _ _ _ _ us hl => match us, hl with | [_], _ => rfl⟩⟩, ⟨⟨f_ranks_fault, dd_mk X G a_ranks_fault l_ranks_fault c_ranks_fault k_ranks_fault fun _ _ _ _ _ _ us hl => match us, hl with | [_], _ => rfl⟩⟩, ⟨⟨f_written, dd_mk X G a_written l_written c_written k_written fun _ _ _ _ _ _ us hl => match us, hl with | [_], _ => rfl⟩⟩, ⟨⟨f_read_way, dd_mk X G a_read_way l_read_way c_read_way k_read_way fun _ _ _ _ _ _ us hl => match us, hl with | [_], _ => rfl⟩⟩, ⟨⟨f_inner_words, dd_mk X G a_inner_words l_inner_words c_inner_words k_inner_words fun _ _ _ _ _ _ us hl => match us, hl with | [_], _ => rfl⟩⟩, ⟨⟨f_inner_in, dd_mk X G a_inner_in l_inner_in c_inner_in k_inner_in fun _ _ _ _ _ _ us hl => match us, hl with | [_], _ => rfl⟩⟩, ⟨⟨f_dotted, dd_mk X G a_dotted l_dotted c_dotted k_dotted fun _ _ _ _ _ _ us hl => match us, hl with | [_], _ => rfl⟩⟩, ⟨⟨f_signs_in, dd_mk X G a_signs_in l_signs_in c_signs_in k_signs_in fun _ _ _ _ _ _ us hl => match us, hl with | [_], _ => rfl⟩⟩, ⟨⟨f_pair_in, dd_mk X G a_pair_in l_pair_in c_pair_in k_pair_in fun _ _ _ _ _ _ us hl => match us, hl with | [_], _ => rfl⟩⟩, ⟨⟨f_number_in, dd_mk X G a_number_in l_number_in c_number_in k_number_in fun _ _ _ _ _ _ us hl => match us, hl with | [_], _ => rfl⟩⟩, ⟨⟨f__law_dice, dd_mk X G a__law_dice l__law_dice c__law_dice k__law_dice fun _ _ _ _ _ _ us hl => match us, hl with | [_, _], _ => rfl⟩⟩, ⟨⟨f__law_off, dd_mk X G a__law_off l__law_off c__law_off k__law_off fun _ _ _ _ _ _ us hl => match us, hl with | [_, _], _ => rfl⟩⟩, ⟨⟨f__law_alike, dd_mk X G a__law_alike l__law_alike c__law_alike k__law_alike fun _ _ _ _ _ _ us hl => match us, hl with | [_, _], _ => rfl⟩⟩, ⟨⟨f__law_mixed, dd_mk X G a__law_mixed l__law_mixed c__law_mixed k__law_mixed fun _ _ _ _ _ _ us hl => match us, hl with | [_, _], _ => rfl⟩⟩, ⟨⟨f__law_plain, dd_mk X G a__law_plain l__law_plain c__law_plain k__law_plain fun _ _ _ _ _ _ us hl => match us, hl with | [_, _], _ => rfl⟩⟩, ⟨⟨f__law_codes, dd_mk X G a__law_codes l__law_codes c__law_codes k__law_codes fun _ _ _ _ _ _ us hl => match us, hl with | [_, _, _], _ => rfl⟩⟩, ⟨⟨f__law_escapes, dd_mk X G a__law_escapes l__law_escapes c__law_escapes k__law_escapes fun _ _ _ _ _ _ us hl => match us, hl with | [_, _, _], _ => rfl⟩⟩, ⟨⟨f__law_base, dd_mk X G a__law_base l__law_base c__law_base k__law_base fun _ _ _ _ _ _ us hl => match us, hl with | [_, _], _ => rfl⟩⟩, ⟨⟨f__law_turned, dd_mk X G a__law_turned l__law_turned c__law_turned k__law_turned fun _ _ _ _ _ _ us hl => match us, hl with | [_, _, _], _ => rfl⟩⟩, ⟨⟨f__law_core, dd_mk X G a__law_core l__law_core c__law_core k__law_core fun _ _ _ _ _ _ us hl => match us, hl with | [_], _ => rfl⟩⟩, ⟨⟨f__law_top, dd_mk X G a__law_top l__law_top c__law_top k__law_top fun _ _ _ _ _ _ us hl => match us, hl with | [_], _ => rfl⟩⟩, ⟨⟨f__law_size, dd_mk X G a__law_size l__law_size c__law_size k__law_size fun _ _ _ _ _ _ us hl => match us, hl with | [_], _ => rfl⟩⟩, ⟨⟨f__law_way, dd_mk X G a__law_way l__law_way c__law_way k__law_way fun _ _ _ _ _ _ us hl => match us, hl with | [_], _ => rfl⟩⟩, ⟨⟨f__law_is, dd_mk X G a__law_is l__law_is c__law_is k__law_is fun _ _ _ _ _ _ us hl => match us, hl with | [_, _], _ => rfl⟩⟩, ⟨⟨f__law_refused, dd_mk X G a__law_refused l__law_refused c__law_refused k__law_refused fun _ _ _ _ _ _ us hl => match us, hl with | [_, _, _], _ => rfl⟩⟩, ⟨⟨f__law_turns, dd_mk X G a__law_turns l__law_turns c__law_turns k__law_turns fun _ _ _ _ _ _ us hl => match us, hl with | [_], _ => rfl⟩⟩, ⟨⟨f__law_within, dd_mk X G a__law_within l__law_within c__law_within k__law_within fun _ _ _ _ _ _ us hl => match us, hl with | [_, _], _ => rfl⟩⟩, ⟨⟨f__law_are_codes, dd_mk X G a__law_are_codes l__law_are_codes c__law_are_codes k__law_are_codes fun _ _ _ _ _ _ us hl => match us, hl with | [_, _], _ => rfl⟩⟩, ⟨⟨f__law_are_pairs, dd_mk X G a__law_are_pairs l__law_are_pairs c__law_are_pairs k__law_are_pairs fun _ _ _ _ _ _ us hl => match us, hl with | [_, _, _, _], _ => rfl⟩⟩, ⟨⟨f__law_why, dd_mk X G a__law_why l__law_why c__law_why k__law_why fun _ _ _ _ _ _ us hl => match us, hl with | [_], _ => rfl⟩⟩, ⟨⟨f__law_dots, dd_mk X G a__law_dots l__law_dots c__law_dots k__law_dots fun _ _ _ _ _ _ us hl => match us, hl with | [_], _ => rfl⟩⟩, ⟨⟨f__law_text, dd_mk X G a__law_text l__law_text c__law_text k__law_text fun _ _ _ _ _ _ us hl => match us, hl with | [_], _ => rfl⟩⟩, ⟨⟨f__law_other, dd_mk X G a__law_other l__law_other c__law_other k__law_other fun _ _ _ _ _ _ us hl => match us, hl with | [_, _], _ => rfl⟩⟩, ⟨⟨f__law_good, dd_mk X G a__law_good l__law_good c__law_good k__law_good fun _ _ _ _ _ _ us hl => match us, hl with | [_], _ => rfl⟩⟩, gi_mk X G g_LEAST_TOP, gi_mk X G g_MOST_TOP, gi_mk X G g_LONGEST_CODE, gi_mk X G g_MOST_TURNED, gi_mk X G g_MOST_FIGURES, ⟨p_FAULTS, gr_mk X G g_FAULTS, ⟨f_codes_fault, PySem.W.mg_of X G a_codes_fault, kd_mk m_FAULTS e_FAULTS h_FAULTS_codes⟩, ⟨f_escapes_fault, PySem.W.mg_of X G a_escapes_fault, kd_mk m_FAULTS e_FAULTS h_FAULTS_escapes⟩, ⟨f_counts_fault, PySem.W.mg_of X G a_counts_fault, kd_mk m_FAULTS e_FAULTS h_FAULTS_counts⟩, ⟨f_ranks_fault, PySem.W.mg_of X G a_ranks_fault, kd_mk m_FAULTS e_FAULTS h_FAULTS_ranks⟩⟩, ⟨p_NUMBERS, gr_mk X G g_NUMBERS, ki_mk m_NUMBERS e_NUMBERS h_NUMBERS_codes, ki_mk m_NUMBERS e_NUMBERS h_NUMBERS_escapes, ki_mk m_NUMBERS e_NUMBERS h_NUMBERS_counts, ki_mk m_NUMBERS e_NUMBERS h_NUMBERS_ranks, kin_mk m_NUMBERS e_NUMBERS lo_NUMBERS h_NUMBERS_codes, kin_mk m_NUMBERS e_NUMBERS lo_NUMBERS h_NUMBERS_escapes, kin_mk m_NUMBERS e_NUMBERS lo_NUMBERS h_NUMBERS_counts, kin_mk m_NUMBERS e_NUMBERS lo_NUMBERS h_NUMBERS_ranks⟩⟩
  have ET : ExcTab K mg (cAt c0 c1 c2 c3 c4) cR := excTab_mk X G x_a0 x_a1 x_a2 x_a3 x_a4 x_aR x_zV x_n01 x_s01 x_n02 x_s02 x_n03 x_s03 x_n04 x_s04 x_n10 x_s10 x_n12 x_s12 x_n13 x_s13 x_n14 x_s14 x_n20 x_s20 x_n21 x_s21 x_n23 x_s23 x_n24 x_s24 x_n30 x_s30 x_n31 x_s31 x_n32 x_s32 x_n34 x_s34 x_n40 x_s40 x_n41 x_s41 x_n42 x_s42 x_n43 x_s43 x_v0 x_r0 x_g0 x_k0 x_e0 x_d0 x_b0 x_m0 x_t0 x_v1 x_r1 x_g1 x_k1 x_e1 x_d1 x_b1 x_m1 x_t1 x_v2 x_r2 x_g2 x_k2 x_e2 x_d2 x_b2 x_m2 x_t2 x_v3 x_r3 x_g3 x_k3 x_e3 x_d3 x_b3 x_m3 x_t3 x_v4 x_r4 x_g4 x_k4 x_e4 x_d4 x_b4 x_m4 x_t4 x_gs x_gt x_eR x_dR x_tR x_w0 x_w1 x_w2
  have EXBadWay : ∀ base : Heap, ExX l.prog w K mg base 1 "BadWay" c0 c0 "why" goodStr := fun base => ⟨⟨excO_cls lkC_k0 lxC_k0, saC_k0, x_e0, x_t0, kpC_k0⟩, ⟨fi_k0, _, "why", iF_k0, iT_k0, init_way lI_k0 cI_k0 lcI_k0 hvsI_k0 hfileI_k0 lcell_k0 hDI_k0 (PySem.W.mg_none_of X G zS) topI statI, fun s us _ hl => match us, hl with | [_, _], _ => .of_eq rfl⟩, mrC_k0, x_v0, supC_k0, x_w0, PySem.W.mg_of X G x_a0⟩
  have dO : Dc K mg "_law_good" s__law_good P__law_good cdO__law_good := ⟨f__law_good, dc_mk X G a__law_good l__law_good c__law_good k__law_good fun _ _ _ _ _ _ us hl => match us, hl with | [_], _ => rfl⟩
  exact law_mk X G hfa own a_law l_law c_law k_law a__law_good l__law_good dO lc_law hPT_law hv_law nc_law T ET EXBadWay
end Esc

open PySem PySem.W PyProof.Rows
set_option maxHeartbeats 0 in
theorem PySem.Challenge.cw_escaperow_k18_written_and_read_holds : PySem.Challenge.rw_escaperow_k18_written_and_read.Holds := by
  w_on; o_law; k_head; (case hw => w_witness2)
  k_fill
  refine LamX.walk_ofOwnA (l := PySem.Challenge.rw_escaperow_k18_written_and_read) (n := 63) (k := 13) (x := "_law_script") (CX := fun _ => C8.CX0) rfl (by decide) rfl ⟨rfl, by decide, by decide⟩ (fun w h Y => PySem.W.km_in_of Y) ?F (fun _ _ _ _ _ h => h)
  case F =>
    intro w mg fa h _ KX G hmg own
    refine' Esc.all_mk KX G hmg (fun fo e => own "_law_good" fo (by rfl) e) ?z_abs ?z_all ?z_enumerate ?z_int ?z_isinstance ?z_len ?z_list ?z_min ?z_range ?z_reversed ?z_set ?z_sorted ?z_tuple ?z_type ?z_bool ?z_str ?a_need_way ?l_need_way ?c_need_way ?k_need_way ?a_fault_of ?l_fault_of ?c_fault_of ?k_fault_of ?a_unturned ?l_unturned ?c_unturned ?k_unturned ?a_first_unsigned ?l_first_unsigned ?c_first_unsigned ?k_first_unsigned ?a_is_whole ?l_is_whole ?c_is_whole ?k_is_whole ?a_is_top ?l_is_top ?c_is_top ?k_is_top ?a_is_sign ?l_is_sign ?c_is_sign ?k_is_sign ?a_is_plain ?l_is_plain ?c_is_plain ?k_is_plain ?a_is_turning ?l_is_turning ?c_is_turning ?k_is_turning ?a_codes_fault ?l_codes_fault ?c_codes_fault ?k_codes_fault ?a_is_code ?l_is_code ?c_is_code ?k_is_code ?a_stand_apart ?l_stand_apart ?c_stand_apart ?k_stand_apart ?a_escapes_fault ?l_escapes_fault ?c_escapes_fault ?k_escapes_fault ?a_counts_fault ?l_counts_fault ?c_counts_fault ?k_counts_fault ?a_ranks_fault ?l_ranks_fault ?c_ranks_fault ?k_ranks_fault ?a_written ?l_written ?c_written ?k_written ?a_read_way ?l_read_way ?c_read_way ?k_read_way ?a_inner_words ?l_inner_words ?c_inner_words ?k_inner_words ?a_inner_in ?l_inner_in ?c_inner_in ?k_inner_in ?a_dotted ?l_dotted ?c_dotted ?k_dotted ?a_signs_in ?l_signs_in ?c_signs_in ?k_signs_in ?a_pair_in ?l_pair_in ?c_pair_in ?k_pair_in ?a_number_in ?l_number_in ?c_number_in ?k_number_in ?a__law_dice ?l__law_dice ?c__law_dice ?k__law_dice ?a__law_off ?l__law_off ?c__law_off ?k__law_off ?a__law_alike ?l__law_alike ?c__law_alike ?k__law_alike ?a__law_mixed ?l__law_mixed ?c__law_mixed ?k__law_mixed ?a__law_plain ?l__law_plain ?c__law_plain ?k__law_plain ?a__law_codes ?l__law_codes ?c__law_codes ?k__law_codes ?a__law_escapes ?l__law_escapes ?c__law_escapes ?k__law_escapes ?a__law_base ?l__law_base ?c__law_base ?k__law_base ?a__law_turned ?l__law_turned ?c__law_turned ?k__law_turned ?a__law_core ?l__law_core ?c__law_core ?k__law_core ?a__law_top ?l__law_top ?c__law_top ?k__law_top ?a__law_size ?l__law_size ?c__law_size ?k__law_size ?a__law_way ?l__law_way ?c__law_way ?k__law_way ?a__law_is ?l__law_is ?c__law_is ?k__law_is ?a__law_refused ?l__law_refused ?c__law_refused ?k__law_refused ?a__law_turns ?l__law_turns ?c__law_turns ?k__law_turns ?a__law_within ?l__law_within ?c__law_within ?k__law_within ?a__law_are_codes ?l__law_are_codes ?c__law_are_codes ?k__law_are_codes ?a__law_are_pairs ?l__law_are_pairs ?c__law_are_pairs ?k__law_are_pairs ?a__law_why ?l__law_why ?c__law_why ?k__law_why ?a__law_dots ?l__law_dots ?c__law_dots ?k__law_dots ?a__law_text ?l__law_text ?c__law_text ?k__law_text ?a__law_other ?l__law_other ?c__law_other ?k__law_other ?a__law_good ?l__law_good ?c__law_good ?k__law_good ?a_law ?l_law ?c_law ?k_law ?g_LEAST_TOP ?g_MOST_TOP ?g_LONGEST_CODE ?g_MOST_TURNED ?g_MOST_FIGURES ?g_FAULTS ?m_FAULTS ?e_FAULTS ?h_FAULTS_codes ?h_FAULTS_escapes ?h_FAULTS_counts ?h_FAULTS_ranks ?g_NUMBERS ?m_NUMBERS ?e_NUMBERS ?lo_NUMBERS ?h_NUMBERS_codes ?h_NUMBERS_escapes ?h_NUMBERS_counts ?h_NUMBERS_ranks ?lc_law ?hv_law ?hPT_law ?nc_law ?x_a0 ?x_a1 ?x_a2 ?x_a3 ?x_a4 ?x_aR ?x_zV ?x_n01 ?x_s01 ?x_n02 ?x_s02 ?x_n03 ?x_s03 ?x_n04 ?x_s04 ?x_n10 ?x_s10 ?x_n12 ?x_s12 ?x_n13 ?x_s13 ?x_n14 ?x_s14 ?x_n20 ?x_s20 ?x_n21 ?x_s21 ?x_n23 ?x_s23 ?x_n24 ?x_s24 ?x_n30 ?x_s30 ?x_n31 ?x_s31 ?x_n32 ?x_s32 ?x_n34 ?x_s34 ?x_n40 ?x_s40 ?x_n41 ?x_s41 ?x_n42 ?x_s42 ?x_n43 ?x_s43 ?x_v0 ?x_r0 ?x_g0 ?x_k0 ?x_e0 ?x_d0 ?x_b0 ?x_m0 ?x_t0 ?x_v1 ?x_r1 ?x_g1 ?x_k1 ?x_e1 ?x_d1 ?x_b1 ?x_m1 ?x_t1 ?x_v2 ?x_r2 ?x_g2 ?x_k2 ?x_e2 ?x_d2 ?x_b2 ?x_m2 ?x_t2 ?x_v3 ?x_r3 ?x_g3 ?x_k3 ?x_e3 ?x_d3 ?x_b3 ?x_m3 ?x_t3 ?x_v4 ?x_r4 ?x_g4 ?x_k4 ?x_e4 ?x_d4 ?x_b4 ?x_m4 ?x_t4 ?x_gs ?x_gt ?x_eR ?x_dR ?x_tR ?x_w0 ?x_w1 ?x_w2 ?zS ?topI ?statI ?iF_k0 ?iT_k0 ?lI_k0 ?cI_k0 ?lcI_k0 ?hvsI_k0 ?hfileI_k0 ?lcell_k0 ?hDI_k0 ?lkC_k0 ?lxC_k0 ?saC_k0 ?kpC_k0 ?mrC_k0 ?supC_k0
    (case z_abs => k_is)
    (case z_all => k_is)
    (case z_enumerate => k_is)
    (case z_int => k_is)
    (case z_isinstance => k_is)
    (case z_len => k_is)
    (case z_list => k_is)
    (case z_min => k_is)
    (case z_range => k_is)
    (case z_reversed => k_is)
    (case z_set => k_is)
    (case z_sorted => k_is)
    (case z_tuple => k_is)
    (case z_type => k_is)
    (case z_bool => k_is)
    (case z_str => k_is)
    (case a_need_way => k_is)
    (case l_need_way => k_is)
    (case c_need_way => k_is)
    (case k_need_way => k_is)
    (case a_fault_of => k_is)
    (case l_fault_of => k_is)
    (case c_fault_of => k_is)
    (case k_fault_of => k_is)
    (case a_unturned => k_is)
    (case l_unturned => k_is)
    (case c_unturned => k_is)
    (case k_unturned => k_is)
    (case a_first_unsigned => k_is)
    (case l_first_unsigned => k_is)
    (case c_first_unsigned => k_is)
    (case k_first_unsigned => k_is)
    (case a_is_whole => k_is)
    (case l_is_whole => k_is)
    (case c_is_whole => k_is)
    (case k_is_whole => k_is)
    (case a_is_top => k_is)
    (case l_is_top => k_is)
    (case c_is_top => k_is)
    (case k_is_top => k_is)
    (case a_is_sign => k_is)
    (case l_is_sign => k_is)
    (case c_is_sign => k_is)
    (case k_is_sign => k_is)
    (case a_is_plain => k_is)
    (case l_is_plain => k_is)
    (case c_is_plain => k_is)
    (case k_is_plain => k_is)
    (case a_is_turning => k_is)
    (case l_is_turning => k_is)
    (case c_is_turning => k_is)
    (case k_is_turning => k_is)
    (case a_codes_fault => k_is)
    (case l_codes_fault => k_is)
    (case c_codes_fault => k_is)
    (case k_codes_fault => k_is)
    (case a_is_code => k_is)
    (case l_is_code => k_is)
    (case c_is_code => k_is)
    (case k_is_code => k_is)
    (case a_stand_apart => k_is)
    (case l_stand_apart => k_is)
    (case c_stand_apart => k_is)
    (case k_stand_apart => k_is)
    (case a_escapes_fault => k_is)
    (case l_escapes_fault => k_is)
    (case c_escapes_fault => k_is)
    (case k_escapes_fault => k_is)
    (case a_counts_fault => k_is)
    (case l_counts_fault => k_is)
    (case c_counts_fault => k_is)
    (case k_counts_fault => k_is)
    (case a_ranks_fault => k_is)
    (case l_ranks_fault => k_is)
    (case c_ranks_fault => k_is)
    (case k_ranks_fault => k_is)
    (case a_written => k_is)
    (case l_written => k_is)
    (case c_written => k_is)
    (case k_written => k_is)
    (case a_read_way => k_is)
    (case l_read_way => k_is)
    (case c_read_way => k_is)
    (case k_read_way => k_is)
    (case a_inner_words => k_is)
    (case l_inner_words => k_is)
    (case c_inner_words => k_is)
    (case k_inner_words => k_is)
    (case a_inner_in => k_is)
    (case l_inner_in => k_is)
    (case c_inner_in => k_is)
    (case k_inner_in => k_is)
    (case a_dotted => k_is)
    (case l_dotted => k_is)
    (case c_dotted => k_is)
    (case k_dotted => k_is)
    (case a_signs_in => k_is)
    (case l_signs_in => k_is)
    (case c_signs_in => k_is)
    (case k_signs_in => k_is)
    (case a_pair_in => k_is)
    (case l_pair_in => k_is)
    (case c_pair_in => k_is)
    (case k_pair_in => k_is)
    (case a_number_in => k_is)
    (case l_number_in => k_is)
    (case c_number_in => k_is)
    (case k_number_in => k_is)
    (case a__law_dice => k_is)
    (case l__law_dice => k_is)
    (case c__law_dice => k_is)
    (case k__law_dice => k_is)
    (case a__law_off => k_is)
    (case l__law_off => k_is)
    (case c__law_off => k_is)
    (case k__law_off => k_is)
    (case a__law_alike => k_is)
    (case l__law_alike => k_is)
    (case c__law_alike => k_is)
    (case k__law_alike => k_is)
    (case a__law_mixed => k_is)
    (case l__law_mixed => k_is)
    (case c__law_mixed => k_is)
    (case k__law_mixed => k_is)
    (case a__law_plain => k_is)
    (case l__law_plain => k_is)
    (case c__law_plain => k_is)
    (case k__law_plain => k_is)
    (case a__law_codes => k_is)
    (case l__law_codes => k_is)
    (case c__law_codes => k_is)
    (case k__law_codes => k_is)
    (case a__law_escapes => k_is)
    (case l__law_escapes => k_is)
    (case c__law_escapes => k_is)
    (case k__law_escapes => k_is)
    (case a__law_base => k_is)
    (case l__law_base => k_is)
    (case c__law_base => k_is)
    (case k__law_base => k_is)
    (case a__law_turned => k_is)
    (case l__law_turned => k_is)
    (case c__law_turned => k_is)
    (case k__law_turned => k_is)
    (case a__law_core => k_is)
    (case l__law_core => k_is)
    (case c__law_core => k_is)
    (case k__law_core => k_is)
    (case a__law_top => k_is)
    (case l__law_top => k_is)
    (case c__law_top => k_is)
    (case k__law_top => k_is)
    (case a__law_size => k_is)
    (case l__law_size => k_is)
    (case c__law_size => k_is)
    (case k__law_size => k_is)
    (case a__law_way => k_is)
    (case l__law_way => k_is)
    (case c__law_way => k_is)
    (case k__law_way => k_is)
    (case a__law_is => k_is)
    (case l__law_is => k_is)
    (case c__law_is => k_is)
    (case k__law_is => k_is)
    (case a__law_refused => k_is)
    (case l__law_refused => k_is)
    (case c__law_refused => k_is)
    (case k__law_refused => k_is)
    (case a__law_turns => k_is)
    (case l__law_turns => k_is)
    (case c__law_turns => k_is)
    (case k__law_turns => k_is)
    (case a__law_within => k_is)
    (case l__law_within => k_is)
    (case c__law_within => k_is)
    (case k__law_within => k_is)
    (case a__law_are_codes => k_is)
    (case l__law_are_codes => k_is)
    (case c__law_are_codes => k_is)
    (case k__law_are_codes => k_is)
    (case a__law_are_pairs => k_is)
    (case l__law_are_pairs => k_is)
    (case c__law_are_pairs => k_is)
    (case k__law_are_pairs => k_is)
    (case a__law_why => k_is)
    (case l__law_why => k_is)
    (case c__law_why => k_is)
    (case k__law_why => k_is)
    (case a__law_dots => k_is)
    (case l__law_dots => k_is)
    (case c__law_dots => k_is)
    (case k__law_dots => k_is)
    (case a__law_text => k_is)
    (case l__law_text => k_is)
    (case c__law_text => k_is)
    (case k__law_text => k_is)
    (case a__law_other => k_is)
    (case l__law_other => k_is)
    (case c__law_other => k_is)
    (case k__law_other => k_is)
    (case a__law_good => k_is)
    (case l__law_good => k_is)
    (case c__law_good => k_is)
    (case k__law_good => k_is)
    (case a_law => k_is)
    (case l_law => k_is)
    (case c_law => k_is)
    (case k_law => k_is)
    (case g_LEAST_TOP => k_is)
    (case g_MOST_TOP => k_is)
    (case g_LONGEST_CODE => k_is)
    (case g_MOST_TURNED => k_is)
    (case g_MOST_FIGURES => k_is)
    (case g_FAULTS => k_is)
    (case m_FAULTS => k_is)
    (case e_FAULTS => exact ⟨⟨_, _, rfl, rfl⟩, ⟨_, _, rfl, rfl⟩, ⟨_, _, rfl, rfl⟩, ⟨_, _, rfl, rfl⟩, trivial⟩)
    (case h_FAULTS_codes => k_is)
    (case h_FAULTS_escapes => k_is)
    (case h_FAULTS_counts => k_is)
    (case h_FAULTS_ranks => k_is)
    (case g_NUMBERS => k_is)
    (case m_NUMBERS => k_is)
    (case e_NUMBERS => exact ⟨⟨_, _, rfl, rfl⟩, ⟨_, _, rfl, rfl⟩, ⟨_, _, rfl, rfl⟩, ⟨_, _, rfl, rfl⟩, trivial⟩)
    (case lo_NUMBERS => rfl)
    (case h_NUMBERS_codes => k_is)
    (case h_NUMBERS_escapes => k_is)
    (case h_NUMBERS_counts => k_is)
    (case h_NUMBERS_ranks => k_is)
    (case lc_law => k_is)
    (case hv_law => exact ⟨rfl, _, _, _, _, _, _, _, rfl, rfl, rfl, rfl, rfl⟩)
    (case hPT_law => rfl)
    (case nc_law => decide)
    (case x_a0 => k_is)
    (case x_a1 => k_is)
    (case x_a2 => k_is)
    (case x_a3 => k_is)
    (case x_a4 => k_is)
    (case x_aR => k_is)
    (case x_zV => k_is)
    (case x_n01 => rfl)
    (case x_s01 => k_is)
    (case x_n02 => rfl)
    (case x_s02 => k_is)
    (case x_n03 => rfl)
    (case x_s03 => k_is)
    (case x_n04 => rfl)
    (case x_s04 => k_is)
    (case x_n10 => rfl)
    (case x_s10 => k_is)
    (case x_n12 => rfl)
    (case x_s12 => k_is)
    (case x_n13 => rfl)
    (case x_s13 => k_is)
    (case x_n14 => rfl)
    (case x_s14 => k_is)
    (case x_n20 => rfl)
    (case x_s20 => k_is)
    (case x_n21 => rfl)
    (case x_s21 => k_is)
    (case x_n23 => rfl)
    (case x_s23 => k_is)
    (case x_n24 => rfl)
    (case x_s24 => k_is)
    (case x_n30 => rfl)
    (case x_s30 => k_is)
    (case x_n31 => rfl)
    (case x_s31 => k_is)
    (case x_n32 => rfl)
    (case x_s32 => k_is)
    (case x_n34 => rfl)
    (case x_s34 => k_is)
    (case x_n40 => rfl)
    (case x_s40 => k_is)
    (case x_n41 => rfl)
    (case x_s41 => k_is)
    (case x_n42 => rfl)
    (case x_s42 => k_is)
    (case x_n43 => rfl)
    (case x_s43 => k_is)
    (case x_v0 => k_is)
    (case x_r0 => k_is)
    (case x_g0 => k_is)
    (case x_k0 => k_is)
    (case x_e0 => k_is)
    (case x_d0 => k_is)
    (case x_b0 => k_is)
    (case x_m0 => k_is)
    (case x_t0 => k_is)
    (case x_v1 => k_is)
    (case x_r1 => k_is)
    (case x_g1 => k_is)
    (case x_k1 => k_is)
    (case x_e1 => k_is)
    (case x_d1 => k_is)
    (case x_b1 => k_is)
    (case x_m1 => k_is)
    (case x_t1 => k_is)
    (case x_v2 => k_is)
    (case x_r2 => k_is)
    (case x_g2 => k_is)
    (case x_k2 => k_is)
    (case x_e2 => k_is)
    (case x_d2 => k_is)
    (case x_b2 => k_is)
    (case x_m2 => k_is)
    (case x_t2 => k_is)
    (case x_v3 => k_is)
    (case x_r3 => k_is)
    (case x_g3 => k_is)
    (case x_k3 => k_is)
    (case x_e3 => k_is)
    (case x_d3 => k_is)
    (case x_b3 => k_is)
    (case x_m3 => k_is)
    (case x_t3 => k_is)
    (case x_v4 => k_is)
    (case x_r4 => k_is)
    (case x_g4 => k_is)
    (case x_k4 => k_is)
    (case x_e4 => k_is)
    (case x_d4 => k_is)
    (case x_b4 => k_is)
    (case x_m4 => k_is)
    (case x_t4 => k_is)
    (case x_gs => k_is)
    (case x_gt => k_is)
    (case x_eR => k_is)
    (case x_dR => k_is)
    (case x_tR => k_is)
    (case x_w0 => k_is)
    (case x_w1 => k_is)
    (case x_w2 => k_is)
    (case zS => k_is)
    (case topI => rfl)
    (case statI => k_is)
    (case iF_k0 => k_is)
    (case iT_k0 => k_is)
    (case lI_k0 => k_is)
    (case cI_k0 => k_is)
    (case lcI_k0 => k_is)
    (case hvsI_k0 => rfl)
    (case hfileI_k0 => rfl)
    (case lcell_k0 => k_is)
    (case hDI_k0 => k_is)
    (case lkC_k0 => k_is)
    (case lxC_k0 => exact ⟨_, _, _, _, _, _, _, _, _, _, _, _, _, _, _, rfl, rfl⟩)
    (case saC_k0 => k_is)
    (case kpC_k0 => k_is)
    (case mrC_k0 => k_is)
    (case supC_k0 => rfl)
