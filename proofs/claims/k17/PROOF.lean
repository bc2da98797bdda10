import PyProof.Rows.All
import Wide.All
import OpenK.AllK
import Wide.FinOn
import HandS.ForMost
import HandS.Codes
import HandS.More
import HandS.SetFor
import HandS.Style
import HandS.CallLocal
import HandS.DictComp
import HandS.Rev
import HandS.Conv
import HandS.WrittenGet
import KE.LtData
import HandS.Deep
import HandS.SortInts
import HandS.Star
import HandS.IsInst
import KE.DataFind
import KE.GoesEnum
import HandS.Strs
import HandS.TupSets
import HandS.DictTup
import KE.KDictDisplayH
import KE.SortData
import HandS.TupAny
import PySem.Challenge.RW_escaperow_k17_whole_told_otherwise
set_option Elab.async false
set_option linter.all false
set_option maxRecDepth 100000
set_option synthInstance.maxSize 100000
set_option synthInstance.maxHeartbeats 4000000
/-! Steps of readings, found by their heads; heaps that only grow. -/
namespace Esc
open PySem PySem.Spec PyProof.Rows L2

/-- to show p, show q -/
class Step (p : Prop) (q : outParam Prop) : Prop where
  h : q → p
class Steps (p : Prop) (q : outParam Prop) : Prop where
  h : q → p
instance (priority := low) Steps.refl {p : Prop} : Steps p p := ⟨id⟩
instance Steps.cons {p q r : Prop} [a : Step p q] [b : Steps q r] : Steps p r := ⟨fun x => a.h (b.h x)⟩
/-- what a slot holds -/
class Lk (i : Nat) (σ : L2.St) (v : outParam V) : Prop where
  h : σ[i]? = some (some v)
instance Lk.z {v : V} {r : L2.St} : Lk 0 (some v :: r) v := ⟨rfl⟩
instance Lk.s {i : Nat} {x : Option V} {v : V} {r : L2.St} [a : Lk i r v] : Lk (i + 1) (x :: r) v := ⟨a.h⟩
class Pu (i : Nat) (v : V) (σ : L2.St) (σ' : outParam L2.St) : Prop where
  h : σ.set i (some v) = σ'
instance Pu.z {v : V} {x : Option V} {r : L2.St} : Pu 0 v (x :: r) (some v :: r) := ⟨rfl⟩
instance Pu.s {i : Nat} {x : Option V} {v : V} {r r' : L2.St} [a : Pu i v r r'] : Pu (i + 1) v (x :: r) (x :: r') := ⟨by rw [List.set_cons_succ, a.h]⟩

/-! ### what is done with a value -/
section
variable (r r' : R2) (ta tb tc te : TE) (tr : TA) (t u : TT) (Q : VK) (QT : Bool → Hp → Prop) (QV : List V → Hp → Prop) (σ : L2.St) (x y : V) (K : PySem.W.Frag)
def kOp1 : VK := fun x H => tb σ H fun y H2 => r x y H2 Q
def kOp2 : VK := fun y H => r x y H Q
def kUn (r : V → Hp → VK → Prop) : VK := fun x H => r x H Q
def kBool : VK := fun x H => ∃ k, x = .bl k ∧ QT k H
def kAnd : Bool → Hp → Prop := fun c H => if c = true then u σ H QT else QT false H
def kOr : Bool → Hp → Prop := fun c H => if c = true then QT true H else u σ H QT
def kNot : Bool → Hp → Prop := fun c H => QT (!c) H
def kAndV : VK := fun x H => ∃ c, x = .bl c ∧ if c = true then tb σ H Q else Q (.bl false) H
def kAndB : Bool → Hp → Prop := fun c H => if c = true then tb σ H Q else Q (.bl false) H
def kOrV : VK := fun x H => ∃ c, x = .bl c ∧ if c = true then Q (.bl true) H else tb σ H Q
def kOrB : Bool → Hp → Prop := fun c H => if c = true then Q (.bl true) H else tb σ H Q
def kNotV : VK := fun x H => ∃ c, x = .bl c ∧ Q (.bl (!c)) H
def kNotB : Bool → Hp → Prop := fun c H => Q (.bl (!c)) H
def kIf : Bool → Hp → Prop := fun c H => if c = true then ta σ H Q else tb σ H Q
def kCh1 : VK := fun x H1 => tb σ H1 fun y H2 => r x y H2 fun z H3 => ∃ k, z = .bl k ∧ (if k = true then tc σ H3 fun z H4 => r' y z H4 Q else Q (.bl false) H3)
def kCh2 : VK := fun y H2 => r x y H2 fun z H3 => ∃ k, z = .bl k ∧ (if k = true then tc σ H3 fun z H4 => r' y z H4 Q else Q (.bl false) H3)
def kCh3 : VK := fun z H3 => ∃ k, z = .bl k ∧ (if k = true then tc σ H3 fun z H4 => r' y z H4 Q else Q (.bl false) H3)
def kCh4 : Bool → Hp → Prop := fun k H3 => if k = true then tc σ H3 fun z H4 => r' y z H4 Q else Q (.bl false) H3
def kCons : VK := fun x H => tr σ H fun xs H2 => QV (x :: xs) H2
def kPre : List V → Hp → Prop := fun xs H => QV (x :: xs) H
def kCB (r : List V → Hp → VK → Prop) : List V → Hp → Prop := fun vs H => r vs H Q
def kCall (sp : Sp) (E : XK) : List V → Hp → Prop := fun vs H => sp vs H Q E
def kBM (T : String) (r : V → List V → Hp → VK → Prop) : VK := fun x H => tyV K T x H ∧ tr σ H fun xs H2 => r x xs H2 Q
def kBM0 (T : String) (r : V → List V → Hp → VK → Prop) : VK := fun x H => tyV K T x H ∧ r x [] H Q
def kRv (r : V → List V → Hp → VK → Prop) : List V → Hp → Prop := fun xs H => r x xs H Q
def kLst : List V → Hp → Prop := fun xs H => xs.length ≤ sizeLine ∧ ∀ p, H p = none → Q (.ref p) (upd H p (.lst xs))
def kTup : List V → Hp → Prop := fun xs H => xs.length ≤ sizeLine ∧ ∀ p, H p = none → Q (.ref p) (upd H p (.tup xs))
def kSl1 (r : V → Option Int → Option Int → Hp → VK → Prop) (tl th : TO) : VK := fun x H1 => tl σ H1 fun l H2 => th σ H2 fun u H3 => r x l u H3 Q
def kSl2 (r : V → Option Int → Option Int → Hp → VK → Prop) (th : TO) : Option Int → Hp → Prop := fun l H2 => th σ H2 fun u H3 => r x l u H3 Q
def kSl3 (r : V → Option Int → Option Int → Hp → VK → Prop) (l : Option Int) : Option Int → Hp → Prop := fun u H3 => r x l u H3 Q
def kPart (QO : Option Int → Hp → Prop) : VK := fun x H => ∃ i, x = .int i ∧ QO (some i) H
def kLstRg : VK := fun x H => ∃ n, x = .int n ∧ RgOk 0 n ∧ ∀ q, H q = none → Q (.ref q) (upd H q (.lst (rgV 0 n)))
def kRev : VK := fun x H1 => ∃ a xs, x = .ref a ∧ SqL K H1 a xs ∧ ∀ p, H1 p = none → Q (.ref p) (upd H1 p (.lst xs.reverse))
def kDGet1 (ty : TE) : VK := fun x H1 => ty σ H1 fun y H2 => ∃ a v, x = .ref a ∧ DGet H2 a y (some v) ∧ Q v H2
def kDGet2 : VK := fun y H2 => ∃ a v, x = .ref a ∧ DGet H2 a y (some v) ∧ Q v H2
def kDIn1 (td : TE) : VK := fun y H1 => td σ H1 fun x H2 => ∃ a o, x = .ref a ∧ DGet H2 a y o ∧ Q (.bl o.isSome) H2
def kDIn2 : VK := fun x H2 => ∃ a o, x = .ref a ∧ DGet H2 a y o ∧ Q (.bl o.isSome) H2
def kCallA (sp : Sp) : List V → Hp → Prop := fun vs H1 => sp vs H1 Q (fun _ _ _ => False)
/-- behind a statement -/
def kAsg (g : TG) (nx : L2.St → Hp → Prop) : VK := fun x H => g x σ H nx
def kDrop (nx : L2.St → Hp → Prop) : VK := fun _ H => nx σ H
def kIfS (t u : TS) (D : Ends) : Bool → Hp → Prop := fun b H => if b = true then t D σ H else u D σ H
def kG (u : TGs) (vs : List V) (QS : L2.St → Hp → Prop) : L2.St → Hp → Prop := fun σ H => u vs σ H QS
def kGs1 (ti : TE) (t : TSet) (v : V) (QS : L2.St → Hp → Prop) : VK := fun o H1 => ti σ H1 fun i H2 => t o i v H2 fun H3 => QS σ H3
def kGs2 (t : TSet) (o v : V) (QS : L2.St → Hp → Prop) : VK := fun i H2 => t o i v H2 fun H3 => QS σ H3
def kPar (i j : Nat) (nx : L2.St → Hp → Prop) : List V → Hp → Prop := fun vs H => ∃ v w, vs = [v, w] ∧ nx ((σ.set i (some v)).set j (some w)) H
def kAug (i : Nat) (ti : TIp) (nx : L2.St → Hp → Prop) : VK := fun y H1 => ti x y H1 fun z H2 => nx (σ.set i (some z)) H2
def kPut (i : Nat) (nx : L2.St → Hp → Prop) : VK := fun z H => nx (σ.set i (some z)) H
end

/-! ### rules under names of their own -/
def rLen (K : PySem.W.Frag) : List V → Hp → VK → Prop := fun xs H Q => ∃ p ys, xs = [.ref p] ∧ (SqL K H p ys ∨ SqT K H p ys) ∧ Q (.int (ys.length : Nat)) H
def rAbs : List V → Hp → VK → Prop := fun xs H Q => ∃ i, xs = [.int i] ∧ Q (.int (if i < 0 then -i else i)) H
def rListOf (K : PySem.W.Frag) : List V → Hp → VK → Prop := fun xs H Q => ∃ p ys, xs = [.ref p] ∧ (SqL K H p ys ∨ SqT K H p ys) ∧ ∀ l, H l = none → Q (.ref l) (upd H l (.lst ys))
def rTupOf (K : PySem.W.Frag) : List V → Hp → VK → Prop := fun xs H Q => ∃ p ys, xs = [.ref p] ∧ ((SqL K H p ys ∧ ∀ l, H l = none → Q (.ref l) (upd H l (.tup ys))) ∨ (SqT K H p ys ∧ Q (.ref p) H))
def rIsN : R2 := fun x y H Q => y = .non ∧ Q (.bl (decide (x = .non))) H
def rNotN : R2 := fun x y H Q => y = .non ∧ Q (.bl (!decide (x = .non))) H
def rIsTy : R2 := fun x y H Q => ∃ a b, x = .ty a ∧ y = .ty b ∧ Q (.bl (decide (a = b))) H
def rInsert : V → List V → Hp → VK → Prop := fun x vs H Q => ∃ (l : Addr) (xs : List V) (i : Int) (y : V), x = .ref l ∧ vs = [.int i, y] ∧ H l = some (.lst xs) ∧ xs.length < sizeLine ∧ 0 ≤ i ∧ i < 2 ^ 63 ∧ Q .non (upd H l (.lst (xs.take i.toNat ++ [y] ++ xs.drop i.toNat)))
def rMin2 : List V → Hp → VK → Prop := fun xs H Q => ∃ i j, xs = [.int i, .int j] ∧ Q (.int (if j < i then j else i)) H
def rMax2 : List V → Hp → VK → Prop := fun xs H Q => ∃ i j, xs = [.int i, .int j] ∧ Q (.int (if j > i then j else i)) H
section
variable {X : Cx}
theorem k_len : CallR X (.builtin "len") (rLen X.K) := call_len_seq
theorem k_abs : CallR X (.builtin "abs") rAbs := call_abs
theorem k_listOf : CallR X (.type "list") (rListOf X.K) := call_list_of
theorem k_tupOf : CallR X (.type "tuple") (rTupOf X.K) := call_tuple_of
theorem k_isN : OpR X (compareOp .Is) rIsN := op_isN
theorem k_notN : OpR X (compareOp .IsNot) rNotN := op_notN
theorem k_isTy : OpR X (compareOp .Is) rIsTy := op_isTyB
theorem k_insert : MtR X "list.insert" rInsert := mt_insert
theorem k_min2 (hc : X.calm = true) : CallR X (.builtin "min") rMin2 := call_min2 hc
theorem k_max2 (hc : X.calm = true) : CallR X (.builtin "max") rMax2 := call_max2 hc
end
theorem dec_int (a b : Int) : decide (V.int a = V.int b) = decide (a = b) := by
  by_cases h : a = b
  · rw [decide_eq_true h, h, decide_eq_true rfl]
  · rw [decide_eq_false h, decide_eq_false fun z => h (V.int.inj z)]
theorem dec_str (a b : Str) : decide (V.str a = V.str b) = decide (a = b) := by
  by_cases h : a = b
  · rw [decide_eq_true h, h, decide_eq_true rfl]
  · rw [decide_eq_false h, decide_eq_false fun z => h (V.str.inj z)]
theorem dec_bl (a b : Bool) : decide (V.bl a = V.bl b) = decide (a = b) := by
  by_cases h : a = b
  · rw [decide_eq_true h, h, decide_eq_true rfl]
  · rw [decide_eq_false h, decide_eq_false fun z => h (V.bl.inj z)]

/-! ### the steps -/
section
variable {r r' : R2} {ta tb tc te ti : TE} {tr : TA} {t u : TT} {Q : VK} {QT : Bool → Hp → Prop} {QV : List V → Hp → Prop} {QS : L2.St → Hp → Prop} {σ σ' σ2 : L2.St} {v w x y : V} {K : PySem.W.Frag} {H : Hp} {i j : Nat} {b : Bool} {a c : Int}
  {ts us : TS} {nx : L2.St → Hp → Prop} {rt : VK} {bk ct : L2.St → Hp → Prop} {D : Ends} {g : TG} {gs : TGs} {vs xs : List V}
instance : Step (tSeq ts us ⟨nx, rt, bk, ct⟩ σ H) (ts ⟨us ⟨nx, rt, bk, ct⟩, rt, bk, ct⟩ σ H) := ⟨fun h => h⟩
instance : Step (tNext ⟨nx, rt, bk, ct⟩ σ H) (nx σ H) := ⟨fun h => h⟩
instance : Step (tBreak ⟨nx, rt, bk, ct⟩ σ H) (bk σ H) := ⟨fun h => h⟩
instance : Step (tCont ⟨nx, rt, bk, ct⟩ σ H) (ct σ H) := ⟨fun h => h⟩
instance : Step (tAsg te g ⟨nx, rt, bk, ct⟩ σ H) (te σ H (kAsg σ g nx)) := ⟨fun h => h⟩
instance : Step (kAsg σ g nx x H) (g x σ H nx) := ⟨fun h => h⟩
instance : Step (tDrop te ⟨nx, rt, bk, ct⟩ σ H) (te σ H (kDrop σ nx)) := ⟨fun h => h⟩
instance : Step (kDrop σ nx x H) (nx σ H) := ⟨fun h => h⟩
instance : Step (tRet te ⟨nx, rt, bk, ct⟩ σ H) (te σ H rt) := ⟨fun h => h⟩
instance : Step (tRetN ⟨nx, rt, bk, ct⟩ σ H) (rt .non H) := ⟨fun h => h⟩
instance : Step (tIfS t ts us D σ H) (t σ H (kIfS σ ts us D)) := ⟨fun h => h⟩
instance : Step (kIfS σ ts us D true H) (ts D σ H) := ⟨fun h => iteT h⟩
instance : Step (kIfS σ ts us D false H) (us D σ H) := ⟨fun h => iteF h⟩
instance [e : Pu i v σ σ'] : Step (gName i v σ H QS) (QS σ' H) := ⟨fun h => by show QS (σ.set i (some v)) H; rw [e.h]; exact h⟩
instance : Step (gCons g gs (v :: vs) σ H QS) (g v σ H (kG gs vs QS)) := ⟨fun h => ⟨v, vs, rfl, h⟩⟩
instance : Step (kG gs vs QS σ H) (gs vs σ H QS) := ⟨fun h => h⟩
instance : Step (gNil [] σ H QS) (QS σ H) := ⟨fun h => ⟨rfl, h⟩⟩
instance {tset : TSet} : Step (gSub te ti tset v σ H QS) (te σ H (kGs1 σ ti tset v QS)) := ⟨fun h => h⟩
instance {tset : TSet} : Step (kGs1 σ ti tset v QS x H) (ti σ H (kGs2 σ tset x v QS)) := ⟨fun h => h⟩
instance {tset : TSet} : Step (kGs2 σ tset x v QS y H) (tset x y v H (QS σ)) := ⟨fun h => h⟩
instance : Step (tPar i j tr ⟨nx, rt, bk, ct⟩ σ H) (tr σ H (kPar σ i j nx)) := ⟨fun h => h⟩
instance [e : Pu i v σ σ'] [f : Pu j w σ' σ2] : Step (kPar σ i j nx [v, w] H) (nx σ2 H) := ⟨fun h => ⟨v, w, rfl, by rw [e.h, f.h]; exact h⟩⟩
instance {ti : TIp} [e : Lk i σ x] : Step (tAug i te ti ⟨nx, rt, bk, ct⟩ σ H) (te σ H (kAug σ x i ti nx)) := ⟨fun h => ⟨x, e.h, h⟩⟩
instance {f : Int → Int → Int} : Step (kAug σ (.int a) i (ipI f) nx (.int c) H) (kPut σ i nx (.int (f a c)) H) := ⟨fun h => ⟨a, c, rfl, rfl, h⟩⟩
instance [e : Pu i v σ σ'] : Step (kPut σ i nx v H) (nx σ' H) := ⟨fun h => by show nx (σ.set i (some v)) H; rw [e.h]; exact h⟩
instance [e : Lk i σ v] : Step (tVar i σ H Q) (Q v H) := ⟨fun h => ⟨v, e.h, h⟩⟩
instance : Step (tC v σ H Q) (Q v H) := ⟨fun h => h⟩
instance : Step (tOp r ta tb σ H Q) (ta σ H (kOp1 r tb Q σ)) := ⟨fun h => h⟩
instance : Step (kOp1 r tb Q σ x H) (tb σ H (kOp2 r Q x)) := ⟨fun h => h⟩
instance : Step (kOp2 r Q x y H) (r x y H Q) := ⟨fun h => h⟩
instance {ru : V → Hp → VK → Prop} : Step (tUn ru ta σ H Q) (ta σ H (kUn Q ru)) := ⟨fun h => h⟩
instance {ru : V → Hp → VK → Prop} : Step (kUn Q ru x H) (ru x H Q) := ⟨fun h => h⟩
instance {gu : Int → V} : Step (rU gu (.int a) H Q) (Q (gu a) H) := ⟨fun h => ⟨a, rfl, h⟩⟩
instance {gi : Int → Int → V} : Step (rI0 gi (.int a) (.int c) H Q) (Q (gi a c) H) := ⟨fun h => ⟨a, c, rfl, rfl, h⟩⟩
instance : Step (rEq (.int a) (.int c) H Q) (Q (.bl (decide (a = c))) H) := ⟨fun h => ⟨rfl, by rw [dec_int]; exact h⟩⟩
instance : Step (rNe (.int a) (.int c) H Q) (Q (.bl (!decide (a = c))) H) := ⟨fun h => ⟨rfl, by rw [dec_int]; exact h⟩⟩
instance {a c : Str} : Step (rEq (.str a) (.str c) H Q) (Q (.bl (decide (a = c))) H) := ⟨fun h => ⟨rfl, by rw [dec_str]; exact h⟩⟩
instance {a c : Str} : Step (rNe (.str a) (.str c) H Q) (Q (.bl (!decide (a = c))) H) := ⟨fun h => ⟨rfl, by rw [dec_str]; exact h⟩⟩
instance {a c : Bool} : Step (rEq (.bl a) (.bl c) H Q) (Q (.bl (decide (a = c))) H) := ⟨fun h => ⟨rfl, by rw [dec_bl]; exact h⟩⟩
instance {a c : Bool} : Step (rNe (.bl a) (.bl c) H Q) (Q (.bl (!decide (a = c))) H) := ⟨fun h => ⟨rfl, by rw [dec_bl]; exact h⟩⟩
instance : Step (rIsN v .non H Q) (Q (.bl (decide (v = .non))) H) := ⟨fun h => ⟨rfl, h⟩⟩
instance : Step (rNotN v .non H Q) (Q (.bl (!decide (v = .non))) H) := ⟨fun h => ⟨rfl, h⟩⟩
instance {s s' : String} : Step (rIsTy (.ty s) (.ty s') H Q) (Q (.bl (decide (s = s'))) H) := ⟨fun h => ⟨s, s', rfl, rfl, h⟩⟩
instance : Step (rTyp K [.int a] H Q) (Q (.ty "int") H) := ⟨fun h => ⟨.int a, "int", rfl, .int a, h⟩⟩
instance : Step (tTest te σ H QT) (te σ H (kBool QT)) := ⟨fun h => h⟩
instance : Step (tB te σ H QT) (te σ H (kBool QT)) := ⟨fun h => h⟩
instance : Step (kBool QT (.bl b) H) (QT b H) := ⟨fun h => ⟨b, rfl, h⟩⟩
instance : Step (tAnd t u σ H QT) (t σ H (kAnd u QT σ)) := ⟨fun h => h⟩
instance : Step (kAnd u QT σ true H) (u σ H QT) := ⟨fun h => iteT h⟩
instance : Step (kAnd u QT σ false H) (QT false H) := ⟨fun h => iteF h⟩
instance : Step (tOr t u σ H QT) (t σ H (kOr u QT σ)) := ⟨fun h => h⟩
instance : Step (kOr u QT σ true H) (QT true H) := ⟨fun h => iteT h⟩
instance : Step (kOr u QT σ false H) (u σ H QT) := ⟨fun h => iteF h⟩
instance : Step (tNot t σ H QT) (t σ H (kNot QT)) := ⟨fun h => h⟩
instance : Step (kNot QT true H) (QT false H) := ⟨fun h => h⟩
instance : Step (kNot QT false H) (QT true H) := ⟨fun h => h⟩
instance : Step (tAndV ta tb σ H Q) (ta σ H (kAndV tb Q σ)) := ⟨fun h => h⟩
instance : Step (kAndV tb Q σ (.bl b) H) (kAndB tb Q σ b H) := ⟨fun h => ⟨b, rfl, h⟩⟩
instance : Step (kAndB tb Q σ true H) (tb σ H Q) := ⟨fun h => iteT h⟩
instance : Step (kAndB tb Q σ false H) (Q (.bl false) H) := ⟨fun h => iteF h⟩
instance : Step (tOrV ta tb σ H Q) (ta σ H (kOrV tb Q σ)) := ⟨fun h => h⟩
instance : Step (kOrV tb Q σ (.bl b) H) (kOrB tb Q σ b H) := ⟨fun h => ⟨b, rfl, h⟩⟩
instance : Step (kOrB tb Q σ true H) (Q (.bl true) H) := ⟨fun h => iteT h⟩
instance : Step (kOrB tb Q σ false H) (tb σ H Q) := ⟨fun h => iteF h⟩
instance : Step (tNotV ta σ H Q) (ta σ H (kNotV Q)) := ⟨fun h => h⟩
instance : Step (kNotV Q (.bl b) H) (kNotB Q b H) := ⟨fun h => ⟨b, rfl, h⟩⟩
instance : Step (kNotB Q true H) (Q (.bl false) H) := ⟨fun h => h⟩
instance : Step (kNotB Q false H) (Q (.bl true) H) := ⟨fun h => h⟩
instance : Step (tIf t ta tb σ H Q) (t σ H (kIf ta tb Q σ)) := ⟨fun h => h⟩
instance : Step (kIf ta tb Q σ true H) (ta σ H Q) := ⟨fun h => iteT h⟩
instance : Step (kIf ta tb Q σ false H) (tb σ H Q) := ⟨fun h => iteF h⟩
instance : Step (tChain r r' ta tb tc σ H Q) (ta σ H (kCh1 r r' tb tc Q σ)) := ⟨fun h => h⟩
instance : Step (kCh1 r r' tb tc Q σ x H) (tb σ H (kCh2 r r' tc Q σ x)) := ⟨fun h => h⟩
instance : Step (kCh2 r r' tc Q σ x y H) (r x y H (kCh3 r' tc Q σ y)) := ⟨fun h => h⟩
instance : Step (kCh3 r' tc Q σ y (.bl b) H) (kCh4 r' tc Q σ y b H) := ⟨fun h => ⟨b, rfl, h⟩⟩
instance : Step (kCh4 r' tc Q σ y true H) (tc σ H (kOp2 r' Q y)) := ⟨fun h => iteT h⟩
instance : Step (kCh4 r' tc Q σ y false H) (Q (.bl false) H) := ⟨fun h => iteF h⟩
instance : Step (tNil σ H QV) (QV [] H) := ⟨fun h => h⟩
instance : Step (tCons ta tr σ H QV) (ta σ H (kCons tr QV σ)) := ⟨fun h => h⟩
instance : Step (kCons tr QV σ x H) (tr σ H (kPre QV x)) := ⟨fun h => h⟩
instance : Step (kPre QV x xs H) (QV (x :: xs) H) := ⟨fun h => h⟩
instance {rc : List V → Hp → VK → Prop} : Step (tCB rc tr σ H Q) (tr σ H (kCB Q rc)) := ⟨fun h => h⟩
instance {rc : List V → Hp → VK → Prop} : Step (kCB Q rc xs H) (rc xs H Q) := ⟨fun h => h⟩
instance : Step (rAbs [.int a] H Q) (Q (.int (if a < 0 then -a else a)) H) := ⟨fun h => ⟨a, rfl, h⟩⟩
instance : Step (rMin2 [.int a, .int c] H Q) (Q (.int (if c < a then c else a)) H) := ⟨fun h => ⟨a, c, rfl, h⟩⟩
instance : Step (rMax2 [.int a, .int c] H Q) (Q (.int (if c > a then c else a)) H) := ⟨fun h => ⟨a, c, rfl, h⟩⟩
theorem call_nil {sp : Sp} {E : XK} (h : tr σ H (kCall Q sp E)) : tCall sp [] E tr σ H Q := by
  have e0 : (fun (vs : List V) (H1 : Hp) => sp (vs ++ []) H1 Q E) = kCall Q sp E := by
    funext vs H1
    rw [List.append_nil]
    rfl
  show tr σ H (fun vs H1 => sp (vs ++ []) H1 Q E)
  rw [e0]
  exact h
instance {sp : Sp} {E : XK} : Step (tCall sp [] E tr σ H Q) (tr σ H (kCall Q sp E)) := ⟨call_nil⟩
instance {sp : Sp} {E : XK} : Step (kCall Q sp E xs H) (sp xs H Q E) := ⟨fun h => h⟩
instance {T : String} {rm : V → List V → Hp → VK → Prop} : Step (tBM K T rm te tr σ H Q) (te σ H (kBM tr Q σ K T rm)) := ⟨fun h => h⟩
instance {T : String} {rm : V → List V → Hp → VK → Prop} : Step (tBM0 K T rm te σ H Q) (te σ H (kBM0 Q K T rm)) := ⟨fun h => h⟩
instance {rm : V → List V → Hp → VK → Prop} : Step (kRv Q x rm xs H) (rm x xs H Q) := ⟨fun h => h⟩
instance : Step (tLst tr σ H Q) (tr σ H (kLst Q)) := ⟨fun h => h⟩
instance : Step (tTup tr σ H Q) (tr σ H (kTup Q)) := ⟨fun h => h⟩
instance {QO : Option Int → Hp → Prop} : Step (tNoPart σ H QO) (QO none H) := ⟨fun h => h⟩
instance {QO : Option Int → Hp → Prop} : Step (tPart ta σ H QO) (ta σ H (kPart QO)) := ⟨fun h => h⟩
instance {QO : Option Int → Hp → Prop} : Step (kPart QO (.int a) H) (QO (some a) H) := ⟨fun h => ⟨a, rfl, h⟩⟩
instance {rs : V → Option Int → Option Int → Hp → VK → Prop} {tl th : TO} : Step (tSl rs te tl th σ H Q) (te σ H (kSl1 Q σ rs tl th)) := ⟨fun h => h⟩
instance {rs : V → Option Int → Option Int → Hp → VK → Prop} {tl th : TO} : Step (kSl1 Q σ rs tl th x H) (tl σ H (kSl2 Q σ x rs th)) := ⟨fun h => h⟩
instance {rs : V → Option Int → Option Int → Hp → VK → Prop} {th : TO} {l : Option Int} : Step (kSl2 Q σ x rs th l H) (th σ H (kSl3 Q x rs l)) := ⟨fun h => h⟩
instance {rs : V → Option Int → Option Int → Hp → VK → Prop} {l o : Option Int} : Step (kSl3 Q x rs l o H) (rs x l o H Q) := ⟨fun h => h⟩
instance : Step (tLstRg (tRg1 ta) σ H Q) (ta σ H (kLstRg Q)) := ⟨fun h => h⟩
instance : Step (tRevL K ta σ H Q) (ta σ H (kRev Q K)) := ⟨fun h => h⟩
instance : Step (tDGet ta tb σ H Q) (ta σ H (kDGet1 Q σ tb)) := ⟨fun h => h⟩
instance : Step (kDGet1 Q σ tb x H) (tb σ H (kDGet2 Q x)) := ⟨fun h => h⟩
instance : Step (tDIn ta tb σ H Q) (ta σ H (kDIn1 Q σ tb)) := ⟨fun h => h⟩
instance : Step (kDIn1 Q σ tb y H) (tb σ H (kDIn2 Q y)) := ⟨fun h => h⟩
instance {sp : Sp} : Step (kCallA Q sp xs H) (sp xs H Q (fun _ _ _ => False)) := ⟨fun h => h⟩
end

/-! ### steps that ask something -/
section
variable {K : PySem.W.Frag} {H : Hp} {Q : VK} {xs ys zs : List V} {a l b p : Addr} {x y z v : V} {σ : L2.St} {tr : TA} {QS : L2.St → Hp → Prop}
theorem i_start {t : TS} {D : Ends} {σ σ' : L2.St} {H : Hp} (e : σ = σ') (q : t D σ' H) : t D σ H := by
  rw [e]
  exact q
/-- by cases on a test -/
theorem i_br {F : Bool → Hp → Prop} {c : Prop} [Decidable c] (h1 : c → F true H) (h2 : ¬ c → F false H) : F (decide c) H := by
  by_cases h : c
  · rw [decide_eq_true h]
    exact h1 h
  · rw [decide_eq_false h]
    exact h2 h
theorem i_nbr {F : Bool → Hp → Prop} {c : Prop} [Decidable c] (h1 : c → F false H) (h2 : ¬ c → F true H) : F (!decide c) H := by
  by_cases h : c
  · rw [decide_eq_true h]
    exact h1 h
  · rw [decide_eq_false h]
    exact h2 h
theorem i_yes {F : Bool → Hp → Prop} {c : Prop} [Decidable c] (h : c) (q : F true H) : F (decide c) H := by
  rw [decide_eq_true h]
  exact q
theorem i_no {F : Bool → Hp → Prop} {c : Prop} [Decidable c] (h : ¬ c) (q : F false H) : F (decide c) H := by
  rw [decide_eq_false h]
  exact q
theorem i_nyes {F : Bool → Hp → Prop} {c : Prop} [Decidable c] (h : c) (q : F false H) : F (!decide c) H := by
  rw [decide_eq_true h]
  exact q
theorem i_nno {F : Bool → Hp → Prop} {c : Prop} [Decidable c] (h : ¬ c) (q : F true H) : F (!decide c) H := by
  rw [decide_eq_false h]
  exact q
theorem i_bool {F : Bool → Hp → Prop} {c : Bool} (h1 : c = true → F true H) (h2 : c = false → F false H) : F c H := by
  cases c with
  | true => exact h1 rfl
  | false => exact h2 rfl
theorem i_I {C : Int → Int → Prop} {g : Int → Int → V} {i j : Int} (c : C i j) (q : Q (g i j) H) : rI C g (.int i) (.int j) H Q := ⟨i, j, rfl, rfl, c, q⟩
theorem i_ixL {i : Int} (h : SqL K H p xs) (e : atI xs i = some v) (q : Q v H) : rIxL K (.ref p) (.int i) H Q := ⟨p, xs, i, v, rfl, rfl, h, e, q⟩
theorem i_ixT {i : Int} (h : SqT K H p xs) (e : atI xs i = some v) (q : Q v H) : rIxT K (.ref p) (.int i) H Q := ⟨p, xs, i, v, rfl, rfl, h, e, q⟩
theorem i_setL {k : Int} {j : Nat} {w : V} {Q : Hp → Prop} (h : H l = some (.lst xs)) (e : ixN xs.length k = some j) (q : Q (upd H l (.lst (xs.set j w)))) : rSetL (.ref l) (.int k) w H Q := ⟨l, xs, k, j, rfl, rfl, h, e, q⟩
theorem i_gtup {n : Nat} {t : TGs} (h : SqT K H a xs) (e : xs.length = n) (q : t xs σ H QS) : gTup K n t (.ref a) σ H QS := ⟨a, xs, rfl, h, e, q⟩
theorem i_bm {r : V → List V → Hp → VK → Prop} (h : SqL K H a xs) (q : tr σ H (kRv Q (.ref a) r)) : kBM tr Q σ K "list" r (.ref a) H := ⟨.inl ⟨rfl, _, h⟩, q⟩
theorem i_bm0 {r : V → List V → Hp → VK → Prop} (h : SqL K H a xs) (q : r (.ref a) [] H Q) : kBM0 Q K "list" r (.ref a) H := ⟨.inl ⟨rfl, _, h⟩, q⟩
theorem i_len (h : SqL K H a xs) (q : Q (.int (xs.length : Nat)) H) : rLen K [.ref a] H Q := ⟨a, xs, rfl, .inl h, q⟩
theorem i_lenI {ns : List Int} (h : SqL K H a (ns.map V.int)) (q : Q (.int (ns.length : Nat)) H) : rLen K [.ref a] H Q := ⟨a, _, rfl, .inl h, by rw [List.length_map]; exact q⟩
theorem i_lenT (h : SqT K H a xs) (q : Q (.int (xs.length : Nat)) H) : rLen K [.ref a] H Q := ⟨a, xs, rfl, .inr h, q⟩
theorem i_append (h : H l = some (.lst xs)) (hz : xs.length < sizeLine) (q : Q .non (upd H l (.lst (xs ++ [y])))) : rAppend (.ref l) [y] H Q := ⟨l, xs, y, rfl, rfl, h, hz, q⟩
theorem i_extend (h : H l = some (.lst xs)) (h' : H b = some (.lst zs)) (hz : xs.length + zs.length ≤ sizeLine) (q : Q .non (upd H l (.lst (xs ++ zs)))) : rExtend (.ref l) [.ref b] H Q := ⟨l, b, xs, zs, rfl, rfl, h, h', hz, q⟩
theorem i_pop (h : H l = some (.lst xs)) (hy : xs[xs.length - 1]? = some y) (q : Q y (upd H l (.lst xs.dropLast))) : rPop (.ref l) [] H Q := ⟨l, xs, y, rfl, rfl, h, hy, q⟩
theorem ixN_of {n j : Nat} {i : Int} (e : i = (j : Int)) (hj : j < n) : ixN n i = some j := by
  subst e
  unfold ixN
  rw [if_pos (by omega), if_pos (by omega)]
  simp
theorem at_of {j : Nat} {i : Int} (e : i = (j : Int)) (h : xs[j]? = some v) : atI xs i = some v := by
  subst e
  exact atI_nat h
theorem i_popAt {j : Nat} {i : Int} (h : H l = some (.lst xs)) (e : i = (j : Int)) (hj : xs[j]? = some y) (hl : xs.length ≤ 100000) (q : Q y (upd H l (.lst (xs.eraseIdx j)))) : rPopAt (.ref l) [.int i] H Q := by
  have hlt : j < xs.length := (List.getElem?_eq_some_iff.mp hj).1
  have e1 : ixN xs.length (j : Int) = some j := ixN_of rfl hlt
  subst e
  exact ⟨l, xs, (j : Int), j, y, rfl, rfl, h, by omega, by omega, (ixN_seq e1).1, hj, q⟩
theorem i_insert0 (h : H l = some (.lst xs)) (hz : xs.length < sizeLine) (q : Q .non (upd H l (.lst (y :: xs)))) : rInsert (.ref l) [.int 0, y] H Q := ⟨l, xs, 0, y, rfl, rfl, h, hz, by decide, by decide, q⟩
/-- a new object: the heap behind it is one that grew -/
theorem i_lst (hz : xs.length ≤ sizeLine) (q : ∀ p H', H p = none → Same H H' → H' p = some (.lst xs) → Q (.ref p) H') : kLst Q xs H := ⟨hz, fun p hp => q p _ hp (fun b x e => by rw [upd_ne (ne_of_none e hp)]; exact e) upd_same⟩
theorem i_tup (hz : xs.length ≤ sizeLine) (q : ∀ p H', H p = none → Same H H' → H' p = some (.tup xs) → Q (.ref p) H') : kTup Q xs H := ⟨hz, fun p hp => q p _ hp (fun b x e => by rw [upd_ne (ne_of_none e hp)]; exact e) upd_same⟩
theorem grow {o : HO} (q : ∀ p H', H p = none → Same H H' → H' p = some o → Q (.ref p) H') : ∀ p, H p = none → Q (.ref p) (upd H p o) := fun p hp => q p _ hp (fun b x e => by rw [upd_ne (ne_of_none e hp)]; exact e) upd_same
theorem i_cat (h1 : H l = some (.lst xs)) (h' : H b = some (.lst zs)) (hz : xs.length + zs.length ≤ sizeLine) (q : ∀ p H', H p = none → Same H H' → H' p = some (.lst (xs ++ zs)) → Q (.ref p) H') : rCat (.ref l) (.ref b) H Q := ⟨l, b, xs, zs, rfl, rfl, h1, h', hz, grow q⟩
theorem i_slL {lo hi : Option Int} (h : SqL K H a xs) (q : ∀ p H', H p = none → Same H H' → H' p = some (.lst (cutV xs lo hi)) → Q (.ref p) H') : rSlL K (.ref a) lo hi H Q := ⟨a, xs, rfl, h, grow q⟩
theorem i_listOf (h : SqL K H a xs) (q : ∀ p H', H p = none → Same H H' → H' p = some (.lst xs) → Q (.ref p) H') : rListOf K [.ref a] H Q := ⟨a, xs, rfl, .inl h, grow q⟩
theorem i_listOfT (h : SqT K H a xs) (q : ∀ p H', H p = none → Same H H' → H' p = some (.lst xs) → Q (.ref p) H') : rListOf K [.ref a] H Q := ⟨a, xs, rfl, .inr h, grow q⟩
theorem i_tupOf (h : SqL K H a xs) (q : ∀ p H', H p = none → Same H H' → H' p = some (.tup xs) → Q (.ref p) H') : rTupOf K [.ref a] H Q := ⟨a, xs, rfl, .inl ⟨h, grow q⟩⟩
theorem i_lstRg {n : Int} (hn : 0 ≤ n ∧ n ≤ 16777216) (q : ∀ p H', H p = none → Same H H' → H' p = some (.lst (rgV 0 n)) → Q (.ref p) H') : kLstRg Q (.int n) H := ⟨n, rfl, RgOk.of_le (Int.le_refl 0) hn.2 (by decide) hn.1, grow q⟩
theorem i_rev (h : SqL K H a xs) (q : ∀ p H', H p = none → Same H H' → H' p = some (.lst xs.reverse) → Q (.ref p) H') : kRev Q K (.ref a) H := ⟨a, xs, rfl, h, grow q⟩
theorem i_cut {t u : TS} {nx : L2.St → Hp → Prop} {rt : VK} {bk ct : L2.St → Hp → Prop} {σ : L2.St} (Mid : L2.St → Hp → Prop) (h1 : t ⟨Mid, rt, bk, ct⟩ σ H) (h2 : ∀ σ' H', Mid σ' H' → u ⟨nx, rt, bk, ct⟩ σ' H') : C8.tCut t u ⟨nx, rt, bk, ct⟩ σ H := ⟨Mid, h1, h2⟩
end

/-! ### heaps -/
theorem upd_at {H : Hp} {a b : Addr} {o u : HO} (n : b ≠ a) (h : H b = some u) : upd H a o b = some u := (upd_ne n).trans h
theorem mut_at {H H' : Hp} {a p : Addr} {o u : HO} (s : Same H H') (n : H p = none) (h : H a = some u) : upd H' p o a = some u := by
  rw [upd_ne (ne_of_none h n)]
  exact s a u h
theorem same_at {H H' : Hp} {a : Addr} {o : HO} (s : Same H H') (h : H a = some o) : H' a = some o := s a o h
theorem same_new {H : Hp} {p : Addr} {o : HO} (h : H p = none) : Same H (upd H p o) := fun b x e => by
  rw [upd_ne (ne_of_none e h)]
  exact e
/-- what the first heap doesn't know may change -/
theorem smut {H H' : Hp} {p : Addr} {o : HO} (s : Same H H') (h : H p = none) : Same H (upd H' p o) := fun b x e => by
  rw [upd_ne (ne_of_none e h)]
  exact s b x e
theorem stup {K : PySem.W.Frag} {H H' : Hp} {a : Addr} {xs : List V} (e : Same H H') (h : SqT K H a xs) : SqT K H' a xs := by
  rcases h with (h | ⟨o, h⟩) | h
  · exact .inl (.inl (e _ _ h))
  · exact .inl (.inr ⟨o, e _ _ h⟩)
  · exact .inr h
theorem mut_l {K : PySem.W.Frag} {H H' : Hp} {a p : Addr} {o : HO} {xs : List V} (s : Same H H') (n : H p = none) (h : SqL K H a xs) : SqL K (upd H' p o) a xs := (smut s n).seq h
theorem mut_t {K : PySem.W.Frag} {H H' : Hp} {a p : Addr} {o : HO} {xs : List V} (s : Same H H') (n : H p = none) (h : SqT K H a xs) : SqT K (upd H' p o) a xs := stup (smut s n) h
/-- the heap without what stands at d -/
def hide (d : Addr) (H : Hp) : Hp := fun a => if a = d then none else H a
theorem hide_d {d : Addr} {H : Hp} : hide d H d = none := by
  unfold hide
  rw [if_pos rfl]
theorem hide_ne {d a : Addr} {H : Hp} (h : a ≠ d) : hide d H a = H a := by
  unfold hide
  rw [if_neg h]
theorem hide_same {d : Addr} {H : Hp} : Same (hide d H) H := fun b o e => by
  by_cases h : b = d
  · rw [h, hide_d] at e
    cases e
  · rw [hide_ne h] at e
    exact e
theorem hide_of {d : Addr} {H0 H : Hp} (n : H0 d = none) (s : Same H0 H) : Same H0 (hide d H) := fun b o e => by
  rw [hide_ne (ne_of_none e n)]
  exact s b o e
theorem hide_tr {d : Addr} {H H1 H2 : Hp} (s : Same (hide d H) H1) (t : Same (hide d H1) H2) : Same (hide d H) H2 := fun b o e => by
  have nb : b ≠ d := fun y => by
    rw [y, hide_d] at e
    cases e
  exact t b o ((hide_ne nb).trans (s b o e))
theorem hide_mut {d : Addr} {H : Hp} {o : HO} : Same (hide d H) (upd H d o) := smut hide_same hide_d
theorem sl_of {K : PySem.W.Frag} {H : Hp} {a : Addr} {xs : List V} (h : H a = some (.lst xs)) : SqL K H a xs := .inl (.inl h)
theorem st_of {K : PySem.W.Frag} {H : Hp} {a : Addr} {xs : List V} (h : H a = some (.tup xs)) : SqT K H a xs := .inl (.inl h)
theorem sz {n : Nat} (h : n ≤ 100000) : n ≤ sizeLine := Nat.le_trans h (by decide)
theorem szl {n : Nat} (h : n < 100000) : n < sizeLine := Nat.lt_of_lt_of_le h (by decide)

/-! ### a def of the module with its parameters -/
structure Dd (K : PySem.W.Frag) (mg : Str → Option Value) (x : Str) (st : Stmt) (ps : List Str) : Prop where
  ex : ∃ f fd, C8.Def K mg x st f fd ∧ Binds K fd ps []
section
variable {P : Program} {w : World} {K : PySem.W.Frag} {mg : Str → Option Value} {base : Heap}
theorem Dd.cal {x : Str} {st : Stmt} {N ps : List Str} {k : Nat} {sp : Sp} (d : Dd K mg x st ps) (S : FnScope N ps (C8.fnScope st)) (len : ∀ vs H Q E, sp vs H Q E → vs.length = ps.length)
    (hbody : ∀ (f : Addr) (cdv : Value) (A : Around) (outer : List Env) (s : Shared) (H : Hp) (vs : List V) (Q : VK) (E : XK), Room k (A.deeper (envOfC x (C8.fnScope st) s.heap.objs.size f cdv)) → sp vs H Q E →
      ∃ t, PSs (cxOf C8.CX0 P w K mg base N x (C8.fnScope st) f cdv A outer s H E).nox (C8.fnBody st) t ∧ t { nx := fun _ H' => Q .non H', rt := Q } (start N vs) H) : C8.Cal P w K mg base (k + 1) x sp [] := by
  obtain ⟨f, fd, F, b⟩ := d.ex
  exact C8.cal0 F b .nil S len fun cdv A outer s H vs Q E hr h => hbody f cdv A outer s H vs Q E hr h
end
end Esc

/-! Loops and comprehensions. -/
namespace Esc
open PySem PySem.Spec PyProof.Rows L2

/-! ### slots forgotten -/
class Pn (i : Nat) (σ : L2.St) (σ' : outParam L2.St) : Prop where
  h : σ.set i none = σ'
instance Pn.z {x : Option V} {r : L2.St} : Pn 0 (x :: r) (none :: r) := ⟨rfl⟩
instance Pn.s {i : Nat} {x : Option V} {r r' : L2.St} [a : Pn i r r'] : Pn (i + 1) (x :: r) (x :: r') := ⟨by rw [List.set_cons_succ, a.h]⟩
class Wp (vs : List Nat) (σ : L2.St) (σ' : outParam L2.St) : Prop where
  h : wipe σ vs = σ'
instance Wp.nil {σ : L2.St} : Wp [] σ σ := ⟨rfl⟩
instance Wp.mnil {σ : L2.St} : Wp (List.map (fun (x : Str × Nat) => x.snd) []) σ σ := ⟨rfl⟩
instance Wp.mcons {y : Str} {v : Nat} {r : List (Str × Nat)} {σ σ1 σ2 : L2.St} [a : Wp (List.map (fun (x : Str × Nat) => x.snd) r) σ σ1] [b : Pn v σ1 σ2] : Wp (List.map (fun (x : Str × Nat) => x.snd) ((y, v) :: r)) σ σ2 := ⟨by
  show (wipe σ (List.map (fun (x : Str × Nat) => x.snd) r)).set v none = σ2
  rw [a.h, b.h]⟩
instance Wp.cons {v : Nat} {vs : List Nat} {σ σ1 σ2 : L2.St} [a : Wp vs σ σ1] [b : Pn v σ1 σ2] : Wp (v :: vs) σ σ2 := ⟨by
  show (wipe σ vs).set v none = σ2
  rw [a.h, b.h]⟩

/-! ### for -/
def Loop (J : It) (g : TG) (tb : TS) (D : Ends) (σ : L2.St) (H1 : Hp) : Prop := ∃ W : Nat → Nat → L2.St → Hp → Prop, (∃ m, W 0 m σ H1) ∧ ∀ i m σ H, W i m σ H →
  (J.stop i H ∧ D.nx σ H) ∨ (J.go i H ∧ ∃ N : L2.St → Hp → Prop, (∀ σ' H', N σ' H' → ∃ m', m' < m ∧ W (i + 1) m' σ' H') ∧ ∀ x H', J.yld i H x H' → g x σ H' fun σ2 H2 => tb { D with nx := N, ct := N, bk := D.nx } σ2 H2)
section
variable {K : PySem.W.Frag} {H : Hp} {g : TG} {tb : TS} {nx : L2.St → Hp → Prop} {rt : VK} {bk ct : L2.St → Hp → Prop} {σ : L2.St} {D : Ends} {te : TE} {ta : TA} {a : Addr} {xs : List V}
def kFor (K : PySem.W.Frag) (g : TG) (tb : TS) (D : Ends) (σ : L2.St) : VK := fun x H1 => ∃ a, x = .ref a ∧ (∃ xs, SqL K H1 a xs) ∧ Loop (Itl K a) g tb D σ H1
def kForT (K : PySem.W.Frag) (g : TG) (tb : TS) (D : Ends) (σ : L2.St) : VK := fun x H1 => ∃ a, x = .ref a ∧ (∃ xs, SqT K H1 a xs) ∧ Loop (Itt K a) g tb D σ H1
def kRng (g : TG) (tb : TS) (D : Ends) (σ : L2.St) : List V → Hp → Prop := fun vs H1 => ∃ j : Int, vs = [.int j] ∧ -(2 ^ 62) ≤ j ∧ j < 2 ^ 62 ∧ Loop (Itr 0 j.toNat) g tb D σ H1
def kEnm (K : PySem.W.Frag) (g : TG) (tb : TS) (D : Ends) (σ : L2.St) : List V → Hp → Prop := fun vs H1 => ∃ a xs, vs = [.ref a] ∧ SqL K H1 a xs ∧ Loop (Ite K a) g tb D σ H1
def kRvs (K : PySem.W.Frag) (g : TG) (tb : TS) (D : Ends) (σ : L2.St) : List V → Hp → Prop := fun vs H1 => ∃ (a : Addr) (xs : List V), vs = [.ref a] ∧ SqL K H1 a xs ∧ Loop (Itv K a xs.length) g tb D σ H1
instance : Step (tFor (iList K te) g tb D σ H) (te σ H (kFor K g tb D σ)) := ⟨fun h => h⟩
instance : Step (tFor (iTup K te) g tb D σ H) (te σ H (kForT K g tb D σ)) := ⟨fun h => h⟩
instance : Step (tFor (iRng1 ta) g tb D σ H) (ta σ H (kRng g tb D σ)) := ⟨fun h => h⟩
instance : Step (tFor (iEnum K ta) g tb D σ H) (ta σ H (kEnm K g tb D σ)) := ⟨fun h => h⟩
instance : Step (tFor (iRev K ta) g tb D σ H) (ta σ H (kRvs K g tb D σ)) := ⟨fun h => h⟩
theorem i_for (hx : SqL K H a xs) (Pv : Nat → L2.St → Hp → Prop) (h0 : Pv 0 σ H) (hl : ∀ i σ H, i ≤ xs.length → Pv i σ H → SqL K H a xs)
    (hs : ∀ i x σ H, xs[i]? = some x → Pv i σ H → g x σ H (tb ⟨Pv (i + 1), rt, nx, Pv (i + 1)⟩)) (hd : ∀ σ H, Pv xs.length σ H → nx σ H) : kFor K g tb ⟨nx, rt, bk, ct⟩ σ (.ref a) H :=
  ⟨a, rfl, ⟨xs, hx⟩, for_list (D := ⟨nx, rt, bk, ct⟩) (xs := xs) Pv h0 hl hs hd⟩
theorem i_forT (hx : SqT K H a xs) (Pv : Nat → L2.St → Hp → Prop) (h0 : Pv 0 σ H) (hl : ∀ i σ H, i ≤ xs.length → Pv i σ H → SqT K H a xs)
    (hs : ∀ i x σ H, xs[i]? = some x → Pv i σ H → g x σ H (tb ⟨Pv (i + 1), rt, nx, Pv (i + 1)⟩)) (hd : ∀ σ H, Pv xs.length σ H → nx σ H) : kForT K g tb ⟨nx, rt, bk, ct⟩ σ (.ref a) H :=
  ⟨a, rfl, ⟨xs, hx⟩, for_tup (D := ⟨nx, rt, bk, ct⟩) (xs := xs) Pv h0 hl hs hd⟩
theorem i_rng {n : Int} (hn : 0 ≤ n ∧ n ≤ 1000000) (Pv : Nat → L2.St → Hp → Prop) (h0 : Pv 0 σ H)
    (hs : ∀ (i : Nat) σ H, (i : Int) < n → Pv i σ H → g (.int (i : Int)) σ H (tb ⟨Pv (i + 1), rt, nx, Pv (i + 1)⟩)) (hd : ∀ σ H, Pv n.toNat σ H → nx σ H) : kRng g tb ⟨nx, rt, bk, ct⟩ σ [.int n] H :=
  ⟨n, rfl, by omega, by omega, for_range (D := ⟨nx, rt, bk, ct⟩) (lo := 0) (n := n.toNat) Pv h0 (fun i σ' H' hi p => by
    have e0 : (0 : Int) + (i : Int) = (i : Int) := Int.zero_add _
    rw [e0]
    exact hs i σ' H' (by omega) p) hd⟩
theorem i_enum (hx : SqL K H a xs) (Pv : Nat → L2.St → Hp → Prop) (h0 : Pv 0 σ H) (hl : ∀ i σ H, i ≤ xs.length → Pv i σ H → SqL K H a xs)
    (hs : ∀ i x σ H T H', xs[i]? = some x → Pv i σ H → H T = none → Same H H' → H' T = some (.tup [.int (i : Nat), x]) → g (.ref T) σ H' (tb ⟨Pv (i + 1), rt, nx, Pv (i + 1)⟩)) (hd : ∀ σ H, Pv xs.length σ H → nx σ H) :
    kEnm K g tb ⟨nx, rt, bk, ct⟩ σ [.ref a] H := by
  refine ⟨a, xs, rfl, hx, fun i m σ H => m = xs.length - i ∧ i ≤ xs.length ∧ Pv i σ H, ⟨xs.length, by simp, Nat.zero_le _, h0⟩, ?_⟩
  rintro i m σ H ⟨rfl, hi, p⟩
  have q := hl i σ H hi p
  by_cases hlt : i < xs.length
  · refine .inr ⟨⟨xs, xs[i], q, by simp [hlt]⟩, Pv (i + 1), fun σ' H' p' => ⟨xs.length - (i + 1), by omega, rfl, hlt, p'⟩, fun x H' y => ?_⟩
    obtain ⟨T, x, rfl, nT, rfl, y⟩ := y
    exact hs i x σ H T _ (y xs q) p nT (same_new nT) upd_same
  · have e : i = xs.length := by omega
    subst e
    exact .inl ⟨⟨xs, q, Nat.le_refl _⟩, hd σ H p⟩
theorem i_rvs (hx : SqL K H a xs) (Pv : Nat → L2.St → Hp → Prop) (h0 : Pv 0 σ H) (hl : ∀ i σ H, i ≤ xs.length → Pv i σ H → SqL K H a xs)
    (hs : ∀ i x σ H, i < xs.length → xs[xs.length - 1 - i]? = some x → Pv i σ H → g x σ H (tb ⟨Pv (i + 1), rt, nx, Pv (i + 1)⟩)) (hd : ∀ σ H, Pv xs.length σ H → nx σ H) :
    kRvs K g tb ⟨nx, rt, bk, ct⟩ σ [.ref a] H := by
  refine ⟨a, xs, rfl, hx, fun i m σ H => m = xs.length - i ∧ i ≤ xs.length ∧ Pv i σ H, ⟨xs.length, by simp, Nat.zero_le _, h0⟩, ?_⟩
  rintro i m σ H ⟨rfl, hi, p⟩
  have q := hl i σ H hi p
  by_cases hlt : i < xs.length
  · refine .inr ⟨⟨hlt, xs, xs[xs.length - 1 - i], q, List.getElem?_eq_getElem (by omega)⟩, Pv (i + 1), fun σ' H' p' => ⟨xs.length - (i + 1), by omega, rfl, hlt, p'⟩, fun x H' y => ?_⟩
    obtain ⟨e, y⟩ := y
    subst e
    exact hs i x σ _ hlt (y xs q) p
  · have e : i = xs.length := by omega
    subst e
    exact .inl ⟨Nat.le_refl _, hd σ H p⟩
end

/-! ### while -/
def kLess (W : Nat → L2.St → Hp → Prop) (m : Nat) : L2.St → Hp → Prop := fun σ H => ∃ m', m' < m ∧ W m' σ H
def kWh (tb : TS) (W : Nat → L2.St → Hp → Prop) (m : Nat) (nx : L2.St → Hp → Prop) (rt : VK) (σ : L2.St) : Bool → Hp → Prop := fun b H1 =>
  if b = true then ∃ N : L2.St → Hp → Prop, (∀ σ' H', N σ' H' → ∃ m', m' < m ∧ W m' σ' H') ∧ tb ⟨N, rt, nx, N⟩ σ H1 else nx σ H1
section
variable {H : Hp} {tb : TS} {tc : TT} {nx : L2.St → Hp → Prop} {rt : VK} {bk ct : L2.St → Hp → Prop} {σ : L2.St} {W : Nat → L2.St → Hp → Prop} {m : Nat}
instance : Step (kWh tb W m nx rt σ true H) (tb ⟨kLess W m, rt, nx, kLess W m⟩ σ H) := ⟨fun h => iteT ⟨kLess W m, fun _ _ q => q, h⟩⟩
instance : Step (kWh tb W m nx rt σ false H) (nx σ H) := ⟨fun h => iteF h⟩
theorem i_while (W : Nat → L2.St → Hp → Prop) (m0 : Nat) (h0 : W m0 σ H) (hs : ∀ m σ H, W m σ H → tc σ H (kWh tb W m nx rt σ)) : tWhile tc tb ⟨nx, rt, bk, ct⟩ σ H := ⟨W, ⟨m0, h0⟩, hs⟩
end

/-! ### comprehensions -/
def LcLoop (J : It) (g : TG) (tt : TT) (te : TE) (vs : List Nat) (σ : L2.St) (Q : VK) (H1 : Hp) : Prop := ∀ D, H1 D = none → ∃ W : Nat → Nat → Hp → Prop, (∃ m, W 0 m (upd H1 D (.lst []))) ∧ ∀ i m H, W i m H →
  (J.stop i H ∧ Q (.ref D) H) ∨ (J.go i H ∧ ∃ Nx : Hp → Prop, (∀ H', Nx H' → ∃ m', m' < m ∧ W (i + 1) m' H') ∧ ∀ x H', J.yld i H x H' → g x (wipe σ vs) H' fun σ2 H2 => wipe σ2 vs = wipe σ vs ∧ tt σ2 H2 fun b H3 =>
    if b = true then te σ2 H3 fun y H4 => ∃ acc, H4 D = some (.lst acc) ∧ acc.length < sizeLine ∧ Nx (upd H4 D (.lst (acc ++ [y]))) else Nx H3)
def kLc (te : TE) (QN : Hp → Prop) (QY : VK) (σ : L2.St) : Bool → Hp → Prop := fun b H => if b = true then te σ H QY else QN H
def kLcB (σ0 : L2.St) (vs : List Nat) (tt : TT) (te : TE) (QN : Hp → Prop) (QY : VK) : L2.St → Hp → Prop := fun σ2 H2 => wipe σ2 vs = σ0 ∧ tt σ2 H2 (kLc te QN QY σ2)
def kLcL (K : PySem.W.Frag) (g : TG) (tt : TT) (te : TE) (vs : List Nat) (σ : L2.St) (Q : VK) : VK := fun x H1 => ∃ a, x = .ref a ∧ (∃ xs, SqL K H1 a xs) ∧ LcLoop (Itl K a) g tt te vs σ Q H1
def kLcT (K : PySem.W.Frag) (g : TG) (tt : TT) (te : TE) (vs : List Nat) (σ : L2.St) (Q : VK) : VK := fun x H1 => ∃ a, x = .ref a ∧ (∃ xs, SqT K H1 a xs) ∧ LcLoop (Itt K a) g tt te vs σ Q H1
def kLcR (g : TG) (tt : TT) (te : TE) (vs : List Nat) (σ : L2.St) (Q : VK) : List V → Hp → Prop := fun us H1 => ∃ j : Int, us = [.int j] ∧ -(2 ^ 62) ≤ j ∧ j < 2 ^ 62 ∧ LcLoop (Itr 0 j.toNat) g tt te vs σ Q H1
section
variable {K : PySem.W.Frag} {H : Hp} {g : TG} {tt : TT} {te tl : TE} {ta : TA} {vs : List Nat} {σ σ0 σ2 : L2.St} {Q : VK} {a : Addr} {xs : List V} {QN : Hp → Prop} {QY : VK} {QT : Bool → Hp → Prop}
instance : Step (tLc (iList K tl) g tt te vs σ H Q) (tl σ H (kLcL K g tt te vs σ Q)) := ⟨fun h => h⟩
instance : Step (tLc (iTup K tl) g tt te vs σ H Q) (tl σ H (kLcT K g tt te vs σ Q)) := ⟨fun h => h⟩
instance : Step (tLc (iRng1 ta) g tt te vs σ H Q) (ta σ H (kLcR g tt te vs σ Q)) := ⟨fun h => h⟩
instance : Step (tYes σ H QT) (QT true H) := ⟨fun h => h⟩
instance : Step (kLc te QN QY σ true H) (te σ H QY) := ⟨fun h => iteT h⟩
instance : Step (kLc te QN QY σ false H) (QN H) := ⟨fun h => iteF h⟩
instance [w : Wp vs σ2 σ0] : Step (kLcB σ0 vs tt te QN QY σ2 H) (tt σ2 H (kLc te QN QY σ2)) := ⟨fun h => ⟨w.h, h⟩⟩
theorem fm_take {α β : Type} (F : α → Option β) {l : List α} {i : Nat} {x : α} (h : l[i]? = some x) : (l.take (i + 1)).filterMap F = (l.take i).filterMap F ++ (F x).toList := by
  rw [List.take_add_one, h, List.filterMap_append]
  cases e : F x <;> simp [List.filterMap, e]
theorem fm_len {α β : Type} (F : α → Option β) (l : List α) (i : Nat) : ((l.take i).filterMap F).length ≤ l.length :=
  Nat.le_trans (List.length_filterMap_le _ _) (by rw [List.length_take]; exact Nat.min_le_right _ _)
/-- a comprehension whose turns change nothing: F x is what x gives, none if it is left out -/
theorem i_lcL [w : Wp vs σ σ0] (F : V → Option V) (hx : SqL K H a xs) (hz : xs.length < 100000)
    (hs : ∀ x ∈ xs, ∀ H1, Same H H1 → ∀ (QN : Hp → Prop) (QY : VK), (F x = none → ∀ H2, Same H1 H2 → QN H2) → (∀ y, F x = some y → ∀ H2, Same H1 H2 → QY y H2) → g x σ0 H1 (kLcB σ0 vs tt te QN QY))
    (q : ∀ p H', H p = none → Same H H' → H' p = some (.lst (xs.filterMap F)) → Q (.ref p) H') : kLcL K g tt te vs σ Q (.ref a) H := by
  have w' := w.h
  subst w'
  refine ⟨a, rfl, ⟨xs, hx⟩, fun D hD => lc_list (xs := xs) (fun i H' => Same H H' ∧ H' D = some (.lst ((xs.take i).filterMap F))) ⟨same_new hD, upd_same⟩ (fun i H' _ p => p.1.seq hx) (fun i x H' hi p => ?_) (fun H' p => ?_)⟩
  · obtain ⟨s, e⟩ := p
    refine hs x (List.mem_of_getElem? hi) H' s (fun H2 => Same H H2 ∧ H2 D = some (.lst ((xs.take (i + 1)).filterMap F))) _ (fun hn H2 s2 => ⟨s.trans s2, ?_⟩) (fun y hy H2 s2 => ⟨_, s2 _ _ e, szl (Nat.lt_of_le_of_lt (fm_len F xs i) hz), smut (s.trans s2) hD, ?_⟩)
    · rw [fm_take F hi, hn]
      show H2 D = some (.lst (_ ++ []))
      rw [List.append_nil]
      exact s2 _ _ e
    · rw [fm_take F hi, hy]
      exact upd_same
  · rw [List.take_of_length_le (Nat.le_refl _)] at p
    exact q D H' hD p.1 p.2
theorem i_lcT [w : Wp vs σ σ0] (F : V → Option V) (hx : SqT K H a xs) (hz : xs.length < 100000)
    (hs : ∀ x ∈ xs, ∀ H1, Same H H1 → ∀ (QN : Hp → Prop) (QY : VK), (F x = none → ∀ H2, Same H1 H2 → QN H2) → (∀ y, F x = some y → ∀ H2, Same H1 H2 → QY y H2) → g x σ0 H1 (kLcB σ0 vs tt te QN QY))
    (q : ∀ p H', H p = none → Same H H' → H' p = some (.lst (xs.filterMap F)) → Q (.ref p) H') : kLcT K g tt te vs σ Q (.ref a) H := by
  have w' := w.h
  subst w'
  refine ⟨a, rfl, ⟨xs, hx⟩, fun D hD => lc_tup (xs := xs) (fun i H' => Same H H' ∧ H' D = some (.lst ((xs.take i).filterMap F))) ⟨same_new hD, upd_same⟩ (fun i H' _ p => stup p.1 hx) (fun i x H' hi p => ?_) (fun H' p => ?_)⟩
  · obtain ⟨s, e⟩ := p
    refine hs x (List.mem_of_getElem? hi) H' s (fun H2 => Same H H2 ∧ H2 D = some (.lst ((xs.take (i + 1)).filterMap F))) _ (fun hn H2 s2 => ⟨s.trans s2, ?_⟩) (fun y hy H2 s2 => ⟨_, s2 _ _ e, szl (Nat.lt_of_le_of_lt (fm_len F xs i) hz), smut (s.trans s2) hD, ?_⟩)
    · rw [fm_take F hi, hn]
      show H2 D = some (.lst (_ ++ []))
      rw [List.append_nil]
      exact s2 _ _ e
    · rw [fm_take F hi, hy]
      exact upd_same
  · rw [List.take_of_length_le (Nat.le_refl _)] at p
    exact q D H' hD p.1 p.2
/-- .. over range(n) -/
theorem i_lcR [w : Wp vs σ σ0] {n : Int} (F : Nat → Option V) (hn : 0 ≤ n ∧ n < 100000)
    (hs : ∀ i : Nat, (i : Int) < n → ∀ H1, Same H H1 → ∀ (QN : Hp → Prop) (QY : VK), (F i = none → ∀ H2, Same H1 H2 → QN H2) → (∀ y, F i = some y → ∀ H2, Same H1 H2 → QY y H2) → g (.int (i : Int)) σ0 H1 (kLcB σ0 vs tt te QN QY))
    (q : ∀ p H', H p = none → Same H H' → H' p = some (.lst ((List.range n.toNat).filterMap F)) → Q (.ref p) H') : kLcR g tt te vs σ Q [.int n] H := by
  have w' := w.h
  subst w'
  have fr : ∀ i, (List.range (i + 1)).filterMap F = (List.range i).filterMap F ++ (F i).toList := fun i => by
    rw [List.range_succ, List.filterMap_append]
    cases e : F i <;> simp [List.filterMap, e]
  refine ⟨n, rfl, by omega, by omega, fun D hD => lc_range (lo := 0) (n := n.toNat) (fun i H' => Same H H' ∧ H' D = some (.lst ((List.range i).filterMap F))) ⟨same_new hD, upd_same⟩ (fun i H' hi p => ?_) (fun H' p => q D H' hD p.1 p.2)⟩
  obtain ⟨s, e⟩ := p
  have e0 : (0 : Int) + (i : Int) = (i : Int) := Int.zero_add _
  rw [e0]
  refine hs i (by omega) H' s (fun H2 => Same H H2 ∧ H2 D = some (.lst ((List.range (i + 1)).filterMap F))) _ (fun hn H2 s2 => ⟨s.trans s2, ?_⟩) (fun y hy H2 s2 => ⟨_, s2 _ _ e, szl (Nat.lt_of_le_of_lt (Nat.le_trans (List.length_filterMap_le _ _) (by rw [List.length_range]; exact Nat.le_of_lt hi)) (by omega)), smut (s.trans s2) hD, ?_⟩)
  · rw [fr, hn]
    show H2 D = some (.lst (_ ++ []))
    rw [List.append_nil]
    exact s2 _ _ e
  · rw [fr, hy]
    exact upd_same
/-- .. whose turns may change what stands: an invariant over the turn's number, the items so far and the heap -/
def kN (Pv : Addr → Nat → List V → Hp → Prop) (D : Addr) (i : Nat) : Hp → Prop := fun H => ∃ acc, acc.length ≤ i + 1 ∧ Pv D (i + 1) acc H
def kY (Pv : Addr → Nat → List V → Hp → Prop) (D : Addr) (i : Nat) : VK := fun y H => ∃ acc, H D = some (.lst acc) ∧ acc.length < sizeLine ∧ kN Pv D i (upd H D (.lst (acc ++ [y])))
theorem kN_of {Pv : Addr → Nat → List V → Hp → Prop} {D : Addr} {i : Nat} {acc : List V} (hl : acc.length ≤ i) (p : Pv D (i + 1) acc H) : kN Pv D i H := ⟨acc, by omega, p⟩
theorem kY_of {Pv : Addr → Nat → List V → Hp → Prop} {D : Addr} {i : Nat} {acc : List V} {y : V} (h : H D = some (.lst acc)) (hl : acc.length ≤ i) (hi : i < 100000) (p : Pv D (i + 1) (acc ++ [y]) (upd H D (.lst (acc ++ [y])))) : kY Pv D i y H :=
  ⟨acc, h, szl (by omega), acc ++ [y], by rw [List.length_append, List.length_singleton]; omega, p⟩
theorem i_lcLI [w : Wp vs σ σ0] (Pv : Addr → Nat → List V → Hp → Prop) (hx0 : SqL K H a xs) (h0 : ∀ D, H D = none → Pv D 0 [] (upd H D (.lst []))) (hx : ∀ D i acc H', H D = none → Pv D i acc H' → SqL K H' a xs)
    (hs : ∀ D i x acc H', H D = none → xs[i]? = some x → acc.length ≤ i → Pv D i acc H' → g x σ0 H' (kLcB σ0 vs tt te (kN Pv D i) (kY Pv D i)))
    (q : ∀ D acc H', H D = none → Pv D xs.length acc H' → Q (.ref D) H') : kLcL K g tt te vs σ Q (.ref a) H := by
  have w' := w.h
  subst w'
  exact ⟨a, rfl, ⟨xs, hx0⟩, fun D hD => lc_list (xs := xs) (fun i H' => ∃ acc, acc.length ≤ i ∧ Pv D i acc H') ⟨[], Nat.le_refl _, h0 D hD⟩ (fun i H' _ ⟨acc, _, p⟩ => hx D i acc H' hD p) (fun i x H' hi ⟨acc, hl, p⟩ => hs D i x acc H' hD hi hl p) (fun H' ⟨acc, _, p⟩ => q D acc H' hD p)⟩
theorem i_lcRI [w : Wp vs σ σ0] {n : Int} (Pv : Addr → Nat → List V → Hp → Prop) (hn : 0 ≤ n ∧ n < 100000) (h0 : ∀ D, H D = none → Pv D 0 [] (upd H D (.lst [])))
    (hs : ∀ D (i : Nat) acc H', H D = none → (i : Int) < n → acc.length ≤ i → Pv D i acc H' → g (.int (i : Int)) σ0 H' (kLcB σ0 vs tt te (kN Pv D i) (kY Pv D i)))
    (q : ∀ D acc H', H D = none → Pv D n.toNat acc H' → Q (.ref D) H') : kLcR g tt te vs σ Q [.int n] H := by
  have w' := w.h
  subst w'
  refine ⟨n, rfl, by omega, by omega, fun D hD => lc_range (lo := 0) (n := n.toNat) (fun i H' => ∃ acc, acc.length ≤ i ∧ Pv D i acc H') ⟨[], Nat.le_refl _, h0 D hD⟩ (fun i H' hi ⟨acc, hl, p⟩ => ?_) (fun H' ⟨acc, _, p⟩ => q D acc H' hD p)⟩
  have e0 : (0 : Int) + (i : Int) = (i : Int) := Int.zero_add _
  rw [e0]
  exact hs D i acc H' hD (by omega) hl p
end

/-! ### dict comprehensions over enumerate -/
def kDcB (σ0 : L2.St) (vs : List Nat) (tt : TT) (tk tv : TE) (D : Addr) (Nx : Hp → Prop) : L2.St → Hp → Prop := fun σ2 H2 => wipe σ2 vs = σ0 ∧ tt σ2 H2 fun b H3 =>
    if b = true then tk σ2 H3 fun y H4 => tv σ2 H4 fun z H5 => ∃ kvs k, y = kV k ∧ H5 D = some (.dK kvs) ∧ kvs.length < sizeLine ∧ Nx (upd H5 D (.dK (putK kvs k z))) else Nx H3
def kDc (tk tv : TE) (D : Addr) (Nx : Hp → Prop) (σ2 : L2.St) : Bool → Hp → Prop := fun b H3 => if b = true then tk σ2 H3 fun y H4 => tv σ2 H4 fun z H5 => ∃ kvs k, y = kV k ∧ H5 D = some (.dK kvs) ∧ kvs.length < sizeLine ∧ Nx (upd H5 D (.dK (putK kvs k z))) else Nx H3
def kDc1 (tv : TE) (D : Addr) (Nx : Hp → Prop) (σ2 : L2.St) : VK := fun y H4 => tv σ2 H4 fun z H5 => ∃ kvs k, y = kV k ∧ H5 D = some (.dK kvs) ∧ kvs.length < sizeLine ∧ Nx (upd H5 D (.dK (putK kvs k z)))
def kDc2 (D : Addr) (Nx : Hp → Prop) (y : V) : VK := fun z H5 => ∃ kvs k, y = kV k ∧ H5 D = some (.dK kvs) ∧ kvs.length < sizeLine ∧ Nx (upd H5 D (.dK (putK kvs k z)))
def DcLoop (J : It) (g : TG) (tt : TT) (tk tv : TE) (vs : List Nat) (σ : L2.St) (Q : VK) (H1 : Hp) : Prop := ∀ D, H1 D = none → ∃ W : Nat → Nat → Hp → Prop, (∃ m, W 0 m (upd H1 D (.dK []))) ∧ ∀ i m H, W i m H →
  (J.stop i H ∧ Q (.ref D) H) ∨ (J.go i H ∧ ∃ Nx : Hp → Prop, (∀ H', Nx H' → ∃ m', m' < m ∧ W (i + 1) m' H') ∧ ∀ x H', J.yld i H x H' → g x (wipe σ vs) H' fun σ2 H2 => wipe σ2 vs = wipe σ vs ∧ tt σ2 H2 fun b H3 =>
    if b = true then tk σ2 H3 fun y H4 => tv σ2 H4 fun z H5 => ∃ kvs k, y = kV k ∧ H5 D = some (.dK kvs) ∧ kvs.length < sizeLine ∧ Nx (upd H5 D (.dK (putK kvs k z))) else Nx H3)
def kDcE (K : PySem.W.Frag) (g : TG) (tt : TT) (tk tv : TE) (vs : List Nat) (σ : L2.St) (Q : VK) : List V → Hp → Prop := fun us H1 => ∃ a xs, us = [.ref a] ∧ SqL K H1 a xs ∧ DcLoop (Ite K a) g tt tk tv vs σ Q H1
section
variable {K : PySem.W.Frag} {H : Hp} {g : TG} {tt : TT} {tk tv : TE} {ta : TA} {vs : List Nat} {σ σ0 σ2 : L2.St} {Q : VK} {a D : Addr} {xs : List V} {Nx : Hp → Prop} {y z : V}
instance : Step (tDc (iEnum K ta) g tt tk tv vs σ H Q) (ta σ H (kDcE K g tt tk tv vs σ Q)) := ⟨fun h => h⟩
instance [w : Wp vs σ2 σ0] : Step (kDcB σ0 vs tt tk tv D Nx σ2 H) (tt σ2 H (kDc tk tv D Nx σ2)) := ⟨fun h => ⟨w.h, h⟩⟩
instance : Step (kDc tk tv D Nx σ2 true H) (tk σ2 H (kDc1 tv D Nx σ2)) := ⟨fun h => iteT h⟩
instance : Step (kDc tk tv D Nx σ2 false H) (Nx H) := ⟨fun h => iteF h⟩
instance : Step (kDc1 tv D Nx σ2 y H) (tv σ2 H (kDc2 D Nx y)) := ⟨fun h => h⟩
theorem i_dcE [w : Wp vs σ σ0] (E : Nat → List (Key × V)) (e0 : E 0 = []) (hE : ∀ i, (E i).length ≤ i) (hx : SqL K H a xs) (hz : xs.length < 100000)
    (hs : ∀ D i x T H1, H D = none → xs[i]? = some x → Same H H1 → H1 D = some (.dK (E i)) → H1 T = some (.tup [.int (i : Nat), x]) → T ≠ D → ∀ Nx : Hp → Prop, (∀ H2, Same H H2 → H2 D = some (.dK (E (i + 1))) → Nx H2) → g (.ref T) σ0 H1 (kDcB σ0 vs tt tk tv D Nx))
    (q : ∀ p H', H p = none → Same H H' → H' p = some (.dK (E xs.length)) → Q (.ref p) H') : kDcE K g tt tk tv vs σ Q [.ref a] H := by
  have w' := w.h
  subst w'
  refine ⟨a, xs, rfl, hx, fun D hD => ⟨fun i m H' => m = xs.length - i ∧ i ≤ xs.length ∧ Same H H' ∧ H' D = some (.dK (E i)), ⟨xs.length, by simp, Nat.zero_le _, same_new hD, by rw [e0]; exact upd_same⟩, ?_⟩⟩
  rintro i m H' ⟨rfl, hi, s, e⟩
  have hq := s.seq hx
  by_cases hlt : i < xs.length
  · refine .inr ⟨⟨xs, xs[i], hq, by simp [hlt]⟩, fun H2 => Same H H2 ∧ H2 D = some (.dK (E (i + 1))), fun H2 p' => ⟨xs.length - (i + 1), by omega, rfl, hlt, p'⟩, fun x H2 y => ?_⟩
    obtain ⟨T, x, rfl, nT, rfl, y⟩ := y
    have nTD : T ≠ D := (ne_of_none e nT).symm
    exact hs D i x T _ hD (y xs hq) (s.trans (same_new nT)) (by rw [upd_ne nTD.symm]; exact e) upd_same nTD _ fun H2 s2 e2 => ⟨s2, e2⟩
  · have ei : i = xs.length := by omega
    subst ei
    exact .inl ⟨⟨xs, hq, Nat.le_refl _⟩, q D H' hD s e⟩
end
/-! ### a dict comprehension that is given to a name -/
section
variable {X : Cx}
theorem sw_dc {kx vx : Expr} {cs : List Comprehension} {sc : Scope} {p py : Pos} {y : Str} {ln : Nat} {ev : Env} (hk : ev.scope.kind = .function) (hy : ev.scope.names.lookup y = some .local) (hl : (py.line == p.line) = true)
    (hn : (sc.names.any fun (n, k) => n == y && (k == .local || k == .cell)) = false) : swapsWith (.DictComp kx vx cs sc p) (some (.Name y py)) ln ev = pure true := by
  have k1 : ev.kindOf y = some .local := hy
  have k2 : ev.blockKind = .function := by unfold Env.blockKind; rw [hk]; rfl
  unfold swapsWith
  simp only [k2, k1, hn, Expr.pos, hl]
  rfl
theorem ps_setDc {i : Nat} {y : Str} {py : Pos} {kx vx tg it : Expr} {ifs : List Expr} {sc : Scope} {own : List (Str × Nat)} {p sp : Pos} {wi : TI} {g : TG} {tt : TT} {tk tv : TE} (hc : X.calm = true) (hN : X.N.Nodup) (hy : X.N[i]? = some y) (hl : X.env.scope.names.lookup y = some .local)
    (hw : swapsWith (.DictComp kx vx [⟨tg, it, ifs, 0⟩] sc p) (some (.Name y py)) sp.line X.env = pure true) (hi : PI X tg it wi) (ok : BlkOk X.N X.env.scope sc own)
    (hg : ∀ (s : Shared) (H : Hp) (C : Addr) (cl : List (Str × Addr)) (fp : List Addr), PG (X.blk s H sc (compEnvC sc cl C X.env) fp) tg g) (ht : ∀ (s : Shared) (H : Hp) (C : Addr) (cl : List (Str × Addr)) (fp : List Addr), PTs (X.blk s H sc (compEnvC sc cl C X.env) fp) ifs tt)
    (hk : ∀ (s : Shared) (H : Hp) (C : Addr) (cl : List (Str × Addr)) (fp : List Addr), PE (X.blk s H sc (compEnvC sc cl C X.env) fp) kx tk)
    (hv : ∀ (s : Shared) (H : Hp) (C : Addr) (cl : List (Str × Addr)) (fp : List Addr), PE (X.blk s H sc (compEnvC sc cl C X.env) fp) vx tv) (hs : ∀ x, foldedSetIterable it X.env x = pure x := by intro _; rfl) :
    PS X (.Assign [.Name y py] (.DictComp kx vx [⟨tg, it, ifs, 0⟩] sc p) sp) (tAsg (tDc wi g tt tk tv (own.map (·.2))) (gName i)) := by
  refine ⟨fun pn s σ H D J q => ?_⟩
  rw [exec_Assign_Name_used _ _ _ _ hw]
  refine wpAny_bind (wpAny_standAt (wpAny_bind ?_))
  show wpAny _ X.A (do let _ ← comprehension (.DictComp kx vx [⟨tg, it, ifs, 0⟩] sc p) sc X.env (firstIterPos [⟨tg, it, ifs, 0⟩] p) newDict false (eval it X.env) (some (assign (.Name y py) X.env))) _ _ s
  have q0 : tDc wi g tt tk tv (own.map (·.2)) σ H (fun x H1 => gName i x σ H1 D.nx) := q
  refine wpAny_bind (thn (dc_core (Qf := fun _ z => SP X pn D .next z) hc hN J hi ok hg ht hk hv hs q0 fun L C z m H' J' q1 nC f => ?_) fun _ z hz => wpAny_pure (wpAny_pure hz))
  show wpAny _ _ (assign (.Name y py) X.env (.ref L)) _ _ _
  refine wpAny_assign_Name (store_ok2 (v := V.ref L) J' hN hy (.inl hl) rfl (fun z2 J2 ⟨a, sb, ha⟩ => ?_) (.inr hl))
  obtain ⟨a0, a1, a2, a3, a4, a5⟩ := f
  have nCa : C ≠ a := by
    rcases ha with e | e
    · rw [e]; exact a1
    · exact fun e' => a4 y a e e'.symm
  refine ⟨m, nC.sameBut sb nCa, fun h3 sb3 => ?_⟩
  exact ⟨_, H', J2.turned (t' := z2.toks) (fun b o hb e => (sb3.2 b hb).trans e) a0 a1 a3 a4 a5, q1⟩
end
end Esc

/-! Rows of digits and their numbers. -/
namespace Esc
theorem mem_dl {α : Type} {l : List α} {x : α} (h : x ∈ l.dropLast) : x ∈ l := List.dropLast_subset l h
def rankD (n : Nat) (ds : List Nat) : Nat := ds.foldl (fun r d => r * n + d + 1) 0
theorem rankD_snoc (n : Nat) (ds : List Nat) (d : Nat) : rankD n (ds ++ [d]) = rankD n ds * n + d + 1 := by
  unfold rankD
  rw [List.foldl_append]
  rfl
def rowD (n r : Nat) : List Nat := if h : r = 0 then [] else rowD n ((r - 1) / n) ++ [(r - 1) % n]
termination_by r
decreasing_by exact Nat.lt_of_le_of_lt (Nat.div_le_self _ _) (by omega)
theorem rowD_zero (n : Nat) : rowD n 0 = [] := by
  rw [rowD]
  exact dif_pos rfl
theorem rowD_pos {n r : Nat} (h : r ≠ 0) : rowD n r = rowD n ((r - 1) / n) ++ [(r - 1) % n] := by
  rw [rowD]
  exact dif_neg h
theorem div_lt' {n r : Nat} (h : r ≠ 0) : (r - 1) / n < r := Nat.lt_of_le_of_lt (Nat.div_le_self _ _) (by omega)
theorem rank_row {n : Nat} : ∀ r : Nat, rankD n (rowD n r) = r := fun r => by
  induction r using Nat.strongRecOn with
  | _ r ih =>
    by_cases h : r = 0
    · rw [h, rowD_zero]
      rfl
    · rw [rowD_pos h, rankD_snoc, ih _ (div_lt' h)]
      have e := Nat.div_add_mod (r - 1) n
      rw [Nat.mul_comm] at e
      omega
theorem row_rank {n : Nat} (hn : 0 < n) : ∀ (k : Nat) (ds : List Nat), ds.length = k → (∀ d ∈ ds, d < n) → rowD n (rankD n ds) = ds
  | 0, [], _, _ => rowD_zero n
  | k + 1, ds, hk, h => by
    have hne : ds ≠ [] := fun e => by
      rw [e] at hk
      cases hk
    have e := List.dropLast_concat_getLast hne
    have hd : ds.getLast hne < n := h _ (List.getLast_mem hne)
    have ih := row_rank hn k ds.dropLast (by rw [List.length_dropLast, hk]; rfl) (fun d m => h d (mem_dl m))
    rw [← e, rankD_snoc, rowD_pos (by omega)]
    have e1 : rankD n ds.dropLast * n + ds.getLast hne + 1 - 1 = ds.getLast hne + n * rankD n ds.dropLast := by
      rw [Nat.mul_comm]
      omega
    rw [e1, Nat.add_mul_div_left _ _ hn, Nat.div_eq_of_lt hd, Nat.zero_add, ih, Nat.add_mul_mod_self_left, Nat.mod_eq_of_lt hd]
theorem row_lt {n : Nat} (hn : 0 < n) : ∀ (r : Nat), ∀ d ∈ rowD n r, d < n := fun r => by
  induction r using Nat.strongRecOn with
  | _ r ih =>
    intro d hd
    by_cases h : r = 0
    · rw [h, rowD_zero] at hd
      cases hd
    · rw [rowD_pos h] at hd
      rcases List.mem_append.mp hd with hd | hd
      · exact ih _ (div_lt' h) d hd
      · rw [List.mem_singleton.mp hd]
        exact Nat.mod_lt _ hn
theorem row_len_mono {m n : Nat} (hm : 0 < m) (hmn : m ≤ n) : ∀ (s r : Nat), r ≤ s → (rowD n r).length ≤ (rowD m s).length := fun s => by
  induction s using Nat.strongRecOn with
  | _ s ih =>
    intro r hr
    by_cases h : r = 0
    · rw [h, rowD_zero]
      exact Nat.zero_le _
    · have hs : s ≠ 0 := by omega
      rw [rowD_pos h, rowD_pos hs, List.length_append, List.length_append]
      have e : (r - 1) / n ≤ (s - 1) / m := Nat.le_trans (Nat.div_le_div_left hmn hm) (Nat.div_le_div_right (by omega))
      exact Nat.add_le_add_right (ih _ (div_lt' hs) _ e) _
/-- shorter rows have lesser numbers -/
theorem rank_short {n : Nat} (hn : 0 < n) : ∀ (k : Nat) (a b : List Nat), b.length = k → a.length < b.length → (∀ d ∈ a, d < n) → rankD n a < rankD n b
  | 0, a, b, hk, h, _ => by omega
  | k + 1, a, b, hk, h, ha => by
    have hb : b ≠ [] := fun e => by
      rw [e] at hk
      cases hk
    have e := List.dropLast_concat_getLast hb
    rw [← e, rankD_snoc]
    by_cases hz : a = []
    · rw [hz]
      show 0 < _
      omega
    · have e2 := List.dropLast_concat_getLast hz
      have hd : a.getLast hz < n := ha _ (List.getLast_mem hz)
      have l1 : a.length = a.dropLast.length + 1 := by
        rw [List.length_dropLast]
        have : a.length ≠ 0 := fun q => hz (List.length_eq_zero_iff.mp q)
        omega
      have l2 : b.dropLast.length = k := by
        rw [List.length_dropLast, hk]
        rfl
      have ih := rank_short hn k a.dropLast b.dropLast l2 (by omega) (fun d m => ha d (mem_dl m))
      have r1 : rankD n a = rankD n a.dropLast * n + a.getLast hz + 1 := by
        have z := rankD_snoc n a.dropLast (a.getLast hz)
        rw [e2] at z
        exact z
      have m1 : (rankD n a.dropLast + 1) * n ≤ rankD n b.dropLast * n := Nat.mul_le_mul_right _ ih
      rw [Nat.add_mul, Nat.one_mul] at m1
      rw [r1]
      omega
/-- a list ahead of another one, sign by sign -/
def lexN : List Nat → List Nat → Bool
  | [], [] => false
  | [], _ :: _ => true
  | _ :: _, [] => false
  | a :: x, b :: y => if a = b then lexN x y else decide (a < b)
theorem lexN_snoc : ∀ (x y : List Nat) (a b : Nat), x.length = y.length → lexN (x ++ [a]) (y ++ [b]) = (lexN x y || (decide (x = y) && decide (a < b)))
  | [], [], a, b, _ => by
    show (if a = b then false else decide (a < b)) = _
    by_cases h : a = b
    · rw [if_pos h, h]
      simp [lexN]
    · rw [if_neg h]
      simp [lexN]
  | [], _ :: _, _, _, h => by simp at h
  | _ :: _, [], _, _, h => by simp at h
  | p :: x, q :: y, a, b, h => by
    show (if p = q then lexN (x ++ [a]) (y ++ [b]) else decide (p < q)) = ((if p = q then lexN x y else decide (p < q)) || _)
    by_cases e : p = q
    · rw [if_pos e, if_pos e, lexN_snoc x y a b (by simpa using h), e]
      simp
    · rw [if_neg e, if_neg e]
      simp [e]
theorem rank_lex {n : Nat} (hn : 0 < n) : ∀ (k : Nat) (a b : List Nat), a.length = k → b.length = k → (∀ d ∈ a, d < n) → (∀ d ∈ b, d < n) → decide (rankD n a < rankD n b) = lexN a b
  | 0, [], [], _, _, _, _ => rfl
  | k + 1, a, b, h1, h2, ha, hb => by
    have na : a ≠ [] := fun e => by
      rw [e] at h1
      cases h1
    have nb : b ≠ [] := fun e => by
      rw [e] at h2
      cases h2
    have ea := List.dropLast_concat_getLast na
    have eb := List.dropLast_concat_getLast nb
    have la : a.dropLast.length = k := by
      rw [List.length_dropLast, h1]
      rfl
    have lb : b.dropLast.length = k := by
      rw [List.length_dropLast, h2]
      rfl
    have ha' : ∀ d ∈ a.dropLast, d < n := fun d m => ha d (mem_dl m)
    have hb' : ∀ d ∈ b.dropLast, d < n := fun d m => hb d (mem_dl m)
    have ih := rank_lex hn k a.dropLast b.dropLast la lb ha' hb'
    have da : a.getLast na < n := ha _ (List.getLast_mem na)
    have db : b.getLast nb < n := hb _ (List.getLast_mem nb)
    rw [← ea, ← eb, lexN_snoc _ _ _ _ (la.trans lb.symm), rankD_snoc, rankD_snoc, ← ih]
    generalize hA : rankD n a.dropLast = A
    generalize hB : rankD n b.dropLast = B
    generalize a.getLast na = x at da
    generalize b.getLast nb = y at db
    have hAB : (a.dropLast = b.dropLast) ↔ A = B := ⟨fun e => by rw [← hA, ← hB, e], fun e => by
      rw [← row_rank hn k _ la ha', ← row_rank hn k _ lb hb', hA, hB, e]⟩
    rw [show decide (a.dropLast = b.dropLast) = decide (A = B) from decide_eq_decide.mpr hAB]
    by_cases c1 : A < B
    · have m1 : (A + 1) * n ≤ B * n := Nat.mul_le_mul_right _ c1
      rw [Nat.add_mul, Nat.one_mul] at m1
      rw [decide_eq_true c1, decide_eq_true (by omega)]
      rfl
    · by_cases c2 : A = B
      · rw [c2]
        simp
      · have m1 : (B + 1) * n ≤ A * n := Nat.mul_le_mul_right _ (by omega)
        rw [Nat.add_mul, Nat.one_mul] at m1
        rw [decide_eq_false c1, decide_eq_false c2, decide_eq_false (by omega)]
        rfl
/-- fewer signs first, of as many those that are less -/
def lessD (a b : List Nat) : Bool := decide (a.length < b.length) || (decide (a.length = b.length) && lexN a b)
theorem rank_less {n : Nat} (hn : 0 < n) {a b : List Nat} (ha : ∀ d ∈ a, d < n) (hb : ∀ d ∈ b, d < n) : lessD a b = decide (rankD n a < rankD n b) := by
  unfold lessD
  by_cases c1 : a.length < b.length
  · rw [decide_eq_true c1, decide_eq_true (rank_short hn _ a b rfl c1 ha)]
    rfl
  · by_cases c2 : a.length = b.length
    · rw [decide_eq_false c1, decide_eq_true c2, rank_lex hn b.length a b c2 rfl ha hb]
      simp
    · have z := rank_short hn _ b a rfl (by omega) hb
      rw [decide_eq_false c1, decide_eq_false c2, decide_eq_false (by omega)]
      rfl
/-- a longer number than that of a row has at most one sign more -/
theorem row_next_len {n : Nat} (hn : 0 < n) (ds : List Nat) (h : ∀ d ∈ ds, d < n) : (rowD n (rankD n ds + 1)).length ≤ ds.length + 1 := by
  have h1 := row_lt hn (rankD n ds + 1)
  by_cases c : (rowD n (rankD n ds + 1)).length ≤ ds.length + 1
  · exact c
  · exfalso
    have hz : ∀ d ∈ List.replicate (ds.length + 1) 0, d < n := fun d m => by
      rw [(List.mem_replicate.mp m).2]
      exact hn
    have z1 := rank_short hn _ ds (List.replicate (ds.length + 1) 0) rfl (by simp) h
    have z2 := rank_short hn _ (List.replicate (ds.length + 1) 0) (rowD n (rankD n ds + 1)) rfl (by rw [List.length_replicate]; omega) hz
    rw [rank_row] at z2
    omega
/-- the number by places: what the signs are worth, and the shorter lists -/
def numD (m : Nat) (ds : List Nat) : Nat × Nat × Nat := ds.foldl (fun (s : Nat × Nat × Nat) d => (s.1 * m + d, s.2.1 + s.2.2, s.2.2 * m)) (0, 0, 1)
theorem numD_snoc (m : Nat) (ds : List Nat) (d : Nat) : numD m (ds ++ [d]) = ((numD m ds).1 * m + d, (numD m ds).2.1 + (numD m ds).2.2, (numD m ds).2.2 * m) := by
  unfold numD
  rw [List.foldl_append]
  rfl
theorem num_inv (m : Nat) (hm : 0 < m) : ∀ (k : Nat) (ds : List Nat), ds.length = k → (numD m ds).2.2 + (numD m ds).2.1 = (numD m ds).2.1 * m + 1 ∧ (numD m ds).1 + (numD m ds).2.1 = rankD m ds ∧ (numD m ds).2.2 = m ^ k
  | 0, [], _ => by
    refine ⟨?_, rfl, rfl⟩
    show 1 + 0 = 0 * m + 1
    omega
  | k + 1, ds, hk => by
    have hne : ds ≠ [] := fun e => by
      rw [e] at hk
      cases hk
    have e := List.dropLast_concat_getLast hne
    have ih := num_inv m hm k ds.dropLast (by rw [List.length_dropLast, hk]; rfl)
    rw [← e, numD_snoc, rankD_snoc]
    generalize numD m ds.dropLast = s at ih
    obtain ⟨v, a, l⟩ := s
    obtain ⟨i1, i2, i3⟩ := ih
    dsimp only at i1 i2 i3 ⊢
    have z : (l + a) * m = (a * m + 1) * m := by rw [i1]
    rw [Nat.add_mul, Nat.add_mul, Nat.one_mul] at z
    refine ⟨?_, ?_, ?_⟩
    · rw [Nat.add_mul]
      omega
    · rw [← i2, Nat.add_mul]
      omega
    · rw [i3]
      rfl
/-! ### what the signs are worth, how many shorter rows there are -/
def valD (m : Nat) (ds : List Nat) : Nat := ds.foldl (fun r d => r * m + d) 0
theorem valD_snoc (m : Nat) (ds : List Nat) (d : Nat) : valD m (ds ++ [d]) = valD m ds * m + d := by
  unfold valD
  rw [List.foldl_append]
  rfl
def aheadD (m : Nat) : Nat → Nat
  | 0 => 0
  | k + 1 => aheadD m k + m ^ k
theorem ahead_mul (m : Nat) : ∀ k : Nat, aheadD m k * m + 1 = aheadD m k + m ^ k
  | 0 => by
    show 0 * m + 1 = 0 + 1
    omega
  | k + 1 => by
    have ih := ahead_mul m k
    show (aheadD m k + m ^ k) * m + 1 = (aheadD m k + m ^ k) + m ^ (k + 1)
    rw [Nat.add_mul, Nat.pow_succ]
    omega
theorem rank_val (m : Nat) : ∀ (k : Nat) (ds : List Nat), ds.length = k → rankD m ds = valD m ds + aheadD m k
  | 0, [], _ => rfl
  | k + 1, ds, hk => by
    have hne : ds ≠ [] := fun e => by
      rw [e] at hk
      cases hk
    have e := List.dropLast_concat_getLast hne
    have ih := rank_val m k ds.dropLast (by rw [List.length_dropLast, hk]; rfl)
    rw [← e, rankD_snoc, valD_snoc, ih, Nat.add_mul]
    have z := ahead_mul m k
    show _ = _ + (aheadD m k + m ^ k)
    omega
theorem val_lt {m : Nat} : ∀ (k : Nat) (ds : List Nat), ds.length = k → (∀ d ∈ ds, d < m) → valD m ds < m ^ k
  | 0, [], _, _ => Nat.one_pos
  | k + 1, ds, hk, h => by
    have hne : ds ≠ [] := fun e => by
      rw [e] at hk
      cases hk
    have e := List.dropLast_concat_getLast hne
    have hd : ds.getLast hne < m := h _ (List.getLast_mem hne)
    have ih := val_lt k ds.dropLast (by rw [List.length_dropLast, hk]; rfl) (fun d z => h d (mem_dl z))
    rw [← e, valD_snoc]
    have m1 : (valD m ds.dropLast + 1) * m ≤ m ^ k * m := Nat.mul_le_mul_right _ ih
    rw [Nat.add_mul, Nat.one_mul] at m1
    rw [Nat.pow_succ]
    omega
theorem ahead_mono (m : Nat) : ∀ {j k : Nat}, j ≤ k → aheadD m j ≤ aheadD m k := fun {j k} h => by
  induction k with
  | zero =>
    rw [Nat.le_zero.mp h]
    exact Nat.le_refl _
  | succ k ih =>
    rcases Nat.lt_or_ge j (k + 1) with c | c
    · exact Nat.le_trans (ih (by omega)) (Nat.le_add_right _ _)
    · rw [show j = k + 1 by omega]
      exact Nat.le_refl _
/-! ### how long rows are -/
theorem rank_up {n : Nat} : ∀ (k : Nat) (ds : List Nat), ds.length = k → (∀ d ∈ ds, d < n) → rankD n ds + 1 ≤ (n + 1) ^ k
  | 0, [], _, _ => Nat.le_refl _
  | k + 1, ds, hk, h => by
    have hne : ds ≠ [] := fun e => by
      rw [e] at hk
      cases hk
    have e := List.dropLast_concat_getLast hne
    have hd : ds.getLast hne < n := h _ (List.getLast_mem hne)
    have ih := rank_up k ds.dropLast (by rw [List.length_dropLast, hk]; rfl) (fun d z => h d (mem_dl z))
    rw [← e, rankD_snoc, Nat.pow_succ]
    have m1 : (rankD n ds.dropLast + 1) * (n + 1) ≤ (n + 1) ^ k * (n + 1) := Nat.mul_le_mul_right _ ih
    rw [Nat.add_mul, Nat.mul_add, Nat.mul_one, Nat.one_mul] at m1
    omega
theorem rank_down {m : Nat} (hm : 2 ≤ m) : ∀ (k : Nat) (ds : List Nat), ds.length = k → 2 ^ k ≤ rankD m ds + 1
  | 0, [], _ => Nat.le_refl _
  | k + 1, ds, hk => by
    have hne : ds ≠ [] := fun e => by
      rw [e] at hk
      cases hk
    have e := List.dropLast_concat_getLast hne
    have ih := rank_down hm k ds.dropLast (by rw [List.length_dropLast, hk]; rfl)
    rw [← e, rankD_snoc, Nat.pow_succ]
    have m1 : rankD m ds.dropLast * 2 ≤ rankD m ds.dropLast * m := Nat.mul_le_mul_left _ hm
    omega
theorem row_short {m n : Nat} (hm : 2 ≤ m) (hn : n ≤ 31) {ds : List Nat} (h : ∀ d ∈ ds, d < n) : (rowD m (rankD n ds)).length ≤ 5 * ds.length := by
  have a := rank_up ds.length ds rfl h
  have b := rank_down hm (rowD m (rankD n ds)).length (rowD m (rankD n ds)) rfl
  rw [rank_row] at b
  have c : (n + 1) ^ ds.length ≤ 32 ^ ds.length := Nat.pow_le_pow_left (by omega) _
  have d : (32 : Nat) ^ ds.length = 2 ^ (5 * ds.length) := by
    rw [Nat.pow_mul]
  rw [d] at c
  exact (Nat.pow_le_pow_iff_right (by decide : 1 < 2)).mp (Nat.le_trans b (Nat.le_trans a c))
end Esc

/-! More steps: slices, dicts of the module, defs held by names, data compared. -/
namespace Esc
open PySem PySem.Spec PyProof.Rows L2
section
variable {K : PySem.W.Frag} {w : World} {H : Hp} {Q : VK} {xs ys zs : List V} {a l b p : Addr} {x y z v : V} {σ : L2.St} {t : TA} {i : Nat}
theorem i_slT {lo hi : Option Int} (h : SqT K H a xs) (n : ¬ (HT.sIx xs.length 0 lo = 0 ∧ HT.sIx xs.length xs.length hi = xs.length)) (q : ∀ p H', H p = none → Same H H' → H' p = some (.tup (cutV xs lo hi)) → Q (.ref p) H') : rSlT K (.ref a) lo hi H Q := ⟨a, xs, rfl, h, n, grow q⟩
theorem cut_to (xs : List V) (k : Nat) : cutV xs none (some (k : Int)) = xs.take k := by
  unfold cutV
  rw [HT.sIx_none, HT.sIx_nat, Nat.sub_zero, List.drop_zero]
  rcases Nat.lt_or_ge k xs.length with h | h
  · rw [Nat.min_eq_left (Nat.le_of_lt h)]
  · rw [Nat.min_eq_right h, List.take_length, List.take_of_length_le h]
theorem cut_from (xs : List V) (k : Nat) : cutV xs (some (k : Int)) none = xs.drop k := by
  unfold cutV
  rw [HT.sIx_none, HT.sIx_nat]
  rcases Nat.lt_or_ge k xs.length with h | h
  · rw [Nat.min_eq_left (Nat.le_of_lt h), List.take_of_length_le (by rw [List.length_drop]; exact Nat.le_refl _)]
  · rw [Nat.min_eq_right h, Nat.sub_self, List.drop_of_length_le h]
    rfl
theorem cut_butlast (xs : List V) (v : V) : cutV (xs ++ [v]) none (some (-1)) = xs := by
  unfold cutV
  rw [HT.sIx_none, Nat.sub_zero, List.drop_zero]
  have e : HT.sIx (xs ++ [v]).length (xs ++ [v]).length (some (-1)) = xs.length := by
    show (if (-1 : Int) < 0 then ((-1 : Int) + ((xs ++ [v]).length : Int)).toNat else min (-1 : Int).toNat (xs ++ [v]).length) = _
    rw [if_pos (by decide), List.length_append, List.length_singleton]
    omega
  rw [e, List.take_left]
theorem i_count {ns : List Int} {k : Int} (h : SqL K H a (ns.map V.int)) (q : Q (.int (ns.count k : Nat)) H) : rCntI K (.ref a) [.int k] H Q := ⟨a, ns, k, rfl, rfl, h, q⟩
theorem i_all {bs : List Bool} (h : SqL K H a (bs.map V.bl)) (q : Q (.bl (bs.all id)) H) : rAll K [.ref a] H Q := ⟨a, bs, rfl, h, q⟩
theorem i_callA {S : Addr → Option Sp} {f : Addr} {sp : Sp} [e : Lk i σ (.ref f)] (hS : S f = some sp) (h : t σ H (kCallA Q sp)) : tCallA i S t σ H Q := ⟨f, sp, e.h, hS, h⟩
theorem i_kd {z : Str} (h : KDct K w p z v) (q : Q v H) : rIxD K w (.ref p) (.str z) H Q := ⟨p, z, v, rfl, rfl, h, q⟩
end
theorem held_of {P : Program} {w : World} {K : PySem.W.Frag} {mg : Str → Option Value} {base : Heap} {k j : Nat} {x : Str} {sp : Sp} {f : Addr} (c : C8.Cal P w K mg base k x sp []) (hm : mg x = some (.ref f)) (h : k ≤ j) : Held P w K mg base j f sp := by
  obtain ⟨f', fd, ps, ds, F, m, kp, b, d⟩ := c.ex
  have e := m.symm.trans hm
  cases e
  cases d
  exact ⟨fd, ps, F.mono h, kp, b⟩
/-! ### data -/
def intsD (ns : List Int) : PyData := .list (ns.map PyData.int)
theorem eqvAll_ints : ∀ xs ys : List Int, PyData.eqvAll (xs.map PyData.int) (ys.map PyData.int) = decide (xs = ys)
  | [], [] => by simp [PyData.eqvAll]
  | [], _ :: _ => by simp [PyData.eqvAll]
  | _ :: _, [] => by simp [PyData.eqvAll]
  | x :: xs, y :: ys => by
    rw [List.map_cons, List.map_cons, PyData.eqvAll, eqvAll_ints xs ys]
    by_cases h : x = y
    · rw [h]
      simp [PyData.eqv]
    · simp [PyData.eqv, h]
theorem eqv_ints (xs ys : List Int) : PyData.eqv (intsD xs) (intsD ys) = decide (xs = ys) := by
  unfold intsD
  rw [PyData.eqv]
  exact eqvAll_ints xs ys
theorem lay_ints : ∀ xs : List Int, PyData.canLayAll0 (xs.map PyData.int) = true
  | [] => by simp [PyData.canLayAll0]
  | x :: xs => by
    rw [List.map_cons, PyData.canLayAll0, lay_ints xs]
    simp [PyData.canLay0]
theorem depth_ints : ∀ xs : List Int, PyData.depthAll (xs.map PyData.int) = 0
  | [] => by simp [PyData.depthAll]
  | x :: xs => by
    rw [List.map_cons, PyData.depthAll, depth_ints xs]
    simp [PyData.depth]
theorem shaped_ints (xs : List Int) : SeqAt.shaped (intsD xs) = true := by
  unfold SeqAt.shaped intsD
  rw [PyData.canLay0, lay_ints, PyData.depth, depth_ints]
  rfl
theorem dpa_ints {K : PySem.W.Frag} {H : Hp} : ∀ xs : List Int, DpAll K H (xs.map V.int) (xs.map PyData.int)
  | [] => .nil
  | x :: xs => .cons (.int x) (dpa_ints xs)
theorem dp_ints {K : PySem.W.Frag} {H : Hp} {a : Addr} {xs : List Int} (h : SqL K H a (xs.map V.int)) : Dp K H (.ref a) (intsD xs) := .lst h (dpa_ints xs)
theorem i_eqL {K : PySem.W.Frag} {H : Hp} {Q : VK} {a b : Addr} {xs ys : List Int} (h : SqL K H a (xs.map V.int)) (h' : SqL K H b (ys.map V.int)) (q : Q (.bl (decide (xs = ys))) H) : rEqD K (.ref a) (.ref b) H Q :=
  ⟨_, _, dp_ints h, dp_ints h', shaped_ints xs, shaped_ints ys, by rw [eqv_ints]; exact q⟩
theorem i_neL {K : PySem.W.Frag} {H : Hp} {Q : VK} {a b : Addr} {xs ys : List Int} (h : SqL K H a (xs.map V.int)) (h' : SqL K H b (ys.map V.int)) (q : Q (.bl (!decide (xs = ys))) H) : rNeD K (.ref a) (.ref b) H Q :=
  ⟨_, _, dp_ints h, dp_ints h', shaped_ints xs, shaped_ints ys, by rw [eqv_ints]; exact q⟩
/-! ### a < b of data -/
def rLtD (K : PySem.W.Frag) : R2 := fun x y H Q => ∃ d e, Dp K H x d ∧ Dp K H y e ∧ PySem.W.alike d e = true ∧ d ≠ .none ∧ d.depth ≤ 64 ∧ Q (.bl (PySem.W.dataLt d e)) H
theorem op_ltD {X : Cx} (hu : X.A.units + 64 < cLine) : OpR X (compareOp .Lt) (rLtD X.K) := by
  intro pn s σ H x y v u Q J rx ry h
  obtain ⟨d, e, hd, he, al, nn, dd, q⟩ := h
  obtain ⟨as, r1⟩ := Dp.reads J d x v hd rx
  obtain ⟨bs, r2⟩ := Dp.reads J e y u he ry
  have hm : min d.depth e.depth ≤ d.depth := Nat.min_le_left _ _
  exact PySem.W.rcLt_alike d e X.A s v u as bs r1 r2 al nn (by omega) X.prog X.w X.xe _ ⟨.bl _, H, J, rfl, q⟩
def lexI : List Int → List Int → Bool
  | [], [] => false
  | [], _ :: _ => true
  | _ :: _, [] => false
  | a :: x, b :: y => if a = b then lexI x y else decide (a < b)
theorem alike_ints : ∀ xs ys : List Int, PySem.W.alikeAll (xs.map PyData.int) (ys.map PyData.int) = true
  | [], _ => by simp [PySem.W.alikeAll]
  | _ :: _, [] => by simp [PySem.W.alikeAll]
  | x :: xs, y :: ys => by
    rw [List.map_cons, List.map_cons, PySem.W.alikeAll, alike_ints xs ys]
    simp [PySem.W.alike]
theorem toks_nil : PySem.W.keyToksAll [] = [.inl 0] := by rw [PySem.W.keyToksAll]
theorem toks_int (x : Int) : PySem.W.keyToks (.int x) = [.inl x] := by rw [PySem.W.keyToks]
theorem lex_ints : ∀ xs ys : List Int, PyProof.Rows.lexLt PyProof.Rows.itemOrd (PySem.W.keyToksAll (xs.map PyData.int)) (PySem.W.keyToksAll (ys.map PyData.int)) = lexI xs ys
  | [], [] => by
    rw [List.map_nil, toks_nil, PyProof.Rows.lex_self]
    rfl
  | [], y :: ys => by
    rw [List.map_nil, toks_nil, List.map_cons, PySem.W.toks_all_cons, PyProof.Rows.lex_diff (by simp)]
    rfl
  | x :: xs, [] => by
    rw [List.map_nil, toks_nil, List.map_cons, PySem.W.toks_all_cons, PyProof.Rows.lex_diff (by simp)]
    rfl
  | x :: xs, y :: ys => by
    rw [List.map_cons, List.map_cons, PySem.W.toks_all_cons, PySem.W.toks_all_cons, PyProof.Rows.lex_self, toks_int, toks_int]
    show PyProof.Rows.lexLt PyProof.Rows.itemOrd (.inl x :: _) (.inl y :: _) = if x = y then lexI xs ys else decide (x < y)
    by_cases h : x = y
    · rw [h, if_pos rfl]
      show PyProof.Rows.lexLt PyProof.Rows.itemOrd (.inl y :: ([] ++ _)) (.inl y :: ([] ++ _)) = _
      rw [PyProof.Rows.lex_self]
      exact lex_ints xs ys
    · rw [if_neg h, PyProof.Rows.lex_diff (by simpa using h)]
      rfl
theorem lexI_self : ∀ xs : List Int, lexI xs xs = false
  | [] => rfl
  | x :: xs => by
    show (if x = x then lexI xs xs else _) = false
    rw [if_pos rfl, lexI_self xs]
/-- (n, xs) < (m, ys) -/
def pairD (n : Int) (xs : List Int) : PyData := .tuple [.int n, intsD xs]
theorem lt_pair (n m : Int) (xs ys : List Int) : PySem.W.dataLt (pairD n xs) (pairD m ys) = if n = m then lexI xs ys else decide (n < m) := by
  unfold pairD
  by_cases h : n = m
  · rw [if_pos h, PySem.W.dataLt_tuple, PySem.W.dataLt_all_yes (by rw [PySem.W.alike]) (by rw [h]; simp [PyData.eqv])]
    by_cases e : xs = ys
    · rw [e, PySem.W.dataLt_all_yes (by unfold intsD; rw [PySem.W.alike]; exact alike_ints ys ys) (by rw [eqv_ints]; simp), toks_nil, PyProof.Rows.lex_self, lexI_self]
      rfl
    · rw [PySem.W.dataLt_all_no (by unfold intsD; rw [PySem.W.alike]; exact alike_ints xs ys) (by rw [eqv_ints]; simpa using e)]
      unfold intsD
      rw [PySem.W.dataLt_list, lex_ints]
  · rw [if_neg h, PySem.W.dataLt_tuple, PySem.W.dataLt_all_no (by rw [PySem.W.alike]) (by simp [PyData.eqv, h]), PySem.W.dataLt_int]
theorem dp_pair {K : PySem.W.Frag} {H : Hp} {p a : Addr} {n : Int} {xs : List Int} (h : SqT K H p [.int n, .ref a]) (h' : SqL K H a (xs.map V.int)) : Dp K H (.ref p) (pairD n xs) := .tup h (.cons (.int n) (.cons (dp_ints h') .nil))
theorem i_ltP {K : PySem.W.Frag} {H : Hp} {Q : VK} {p q a b : Addr} {n m : Int} {xs ys : List Int} (h1 : SqT K H p [.int n, .ref a]) (h2 : SqL K H a (xs.map V.int)) (h3 : SqT K H q [.int m, .ref b]) (h4 : SqL K H b (ys.map V.int))
    (k : Q (.bl (if n = m then lexI xs ys else decide (n < m))) H) : rLtD K (.ref p) (.ref q) H Q := by
  refine ⟨_, _, dp_pair h1 h2, dp_pair h3 h4, ?_, (fun z => by cases z), ?_, by rw [lt_pair]; exact k⟩
  · unfold pairD intsD
    simp only [PySem.W.alike, PySem.W.alikeAll, alike_ints]
    rfl
  · unfold pairD intsD
    simp [PyData.depth, PyData.depthAll, depth_ints]
end Esc

namespace Esc
open PySem PySem.Spec PyProof.Rows L2
theorem eqV_int (a b : Int) : eqV (.int a) (.int b) = decide (a = b) := by
  unfold eqV
  by_cases h : a = b <;> simp [h]
theorem flat_ints (ls : List Int) : (ls.map V.int).all flatV = true := by
  rw [List.all_eq_true]
  intro x hx
  obtain ⟨n, _, rfl⟩ := List.mem_map.mp hx
  rfl
theorem i_indexI {K : PySem.W.Frag} {H : Hp} {Q : VK} {a : Addr} {ls : List Int} {x : Int} (h : SqL K H a (ls.map V.int)) (m : x ∈ ls) (q : Q (.int ((ls.idxOf x : Nat) : Int)) H) : rIndex K (.ref a) [.int x] H Q := by
  have hi := List.idxOf_lt_length_of_mem m
  refine ⟨a, _, .int x, ls.idxOf x, .int x, rfl, rfl, h, rfl, flat_ints ls, ?_, by rw [eqV_int]; simp, fun j z hj hz => ?_, q⟩
  · rw [List.getElem?_map, List.getElem?_eq_getElem hi, List.getElem_idxOf hi]
    rfl
  · rw [List.getElem?_map] at hz
    have hj' : j < ls.length := by omega
    rw [List.getElem?_eq_getElem hj'] at hz
    cases hz
    rw [eqV_int]
    have z := List.not_of_lt_findIdx (p := fun y => y == x) hj
    simpa using z
/-! ### order -/
theorem lexI_letters {ls : List Int} (pw : ls.Pairwise (· < ·)) : ∀ (x y : List Nat), (∀ d ∈ x, d < ls.length) → (∀ d ∈ y, d < ls.length) → lexI (x.map fun d => ls.getD d 0) (y.map fun d => ls.getD d 0) = lexN x y
  | [], [], _, _ => rfl
  | [], _ :: _, _, _ => rfl
  | _ :: _, [], _, _ => rfl
  | a :: x, b :: y, hx, hy => by
    have ha := hx a List.mem_cons_self
    have hb := hy b List.mem_cons_self
    have ih := lexI_letters pw x y (fun d m => hx d (List.mem_cons_of_mem _ m)) (fun d m => hy d (List.mem_cons_of_mem _ m))
    have g : ∀ {i : Nat} (h : i < ls.length), ls.getD i 0 = ls[i] := fun {i} h => by
      rw [List.getD_eq_getElem?_getD, List.getElem?_eq_getElem h]
      rfl
    have mono : ∀ {i j : Nat} (hi : i < ls.length) (hj : j < ls.length), i < j → ls[i] < ls[j] := fun {i j} hi hj h => List.pairwise_iff_getElem.mp pw i j hi hj h
    show (if ls.getD a 0 = ls.getD b 0 then lexI (x.map _) (y.map _) else decide (ls.getD a 0 < ls.getD b 0)) = if a = b then lexN x y else decide (a < b)
    rw [g ha, g hb]
    rcases Nat.lt_trichotomy a b with h | h | h
    · have z := mono ha hb h
      rw [if_neg (by omega), if_neg (by omega), decide_eq_true z, decide_eq_true h]
    · subst h
      rw [if_pos rfl, if_pos rfl]
      exact ih
    · have z := mono hb ha h
      rw [if_neg (by omega), if_neg (by omega), decide_eq_false (by omega), decide_eq_false (by omega)]
def lessI (k : Nat) (a b : List Int) : Bool := if ((a.length + k : Nat) : Int) = ((b.length + k : Nat) : Int) then lexI a b else decide (((a.length + k : Nat) : Int) < ((b.length + k : Nat) : Int))
theorem lessI_letters {k : Nat} {ls : List Int} (pw : ls.Pairwise (· < ·)) {x y : List Nat} (hx : ∀ d ∈ x, d < ls.length) (hy : ∀ d ∈ y, d < ls.length) : lessI k (x.map fun d => ls.getD d 0) (y.map fun d => ls.getD d 0) = lessD x y := by
  unfold lessI lessD
  rw [List.length_map, List.length_map, lexI_letters pw x y hx hy]
  by_cases h : x.length = y.length
  · rw [h, if_pos rfl]
    simp
  · rw [if_neg (by omega), decide_eq_false h]
    by_cases c : x.length < y.length
    · rw [decide_eq_true c, decide_eq_true (by omega)]
      rfl
    · rw [decide_eq_false c, decide_eq_false (by omega)]
      rfl
end Esc

set_option maxHeartbeats 1000000
namespace Esc
open PySem PySem.Spec PyProof.Rows L2
/-! ### l.remove(x) of data -/
def rRemD (K : PySem.W.Frag) : V → List V → Hp → VK → Prop := fun x xs H Q => ∃ (l : Addr) (vs : List V) (y : V) (d : PyData) (ds : List PyData) (j : Nat) (z : PyData), x = .ref l ∧ xs = [y] ∧ H l = some (.lst vs) ∧ DpAll K H vs ds ∧ Dp K H y d ∧
  SeqAt.shaped (.list ds) = true ∧ SeqAt.shaped d = true ∧ ds[j]? = some z ∧ PyData.eqv z d = true ∧ (∀ (m : Nat) (z' : PyData), m < j → ds[m]? = some z' → PyData.eqv z' d = false) ∧ Q .non (upd H l (.lst (vs.eraseIdx j)))
theorem mt_removeD {X : Cx} (hu : X.A.units + 65 < cLine) : MtM X "list.remove" (rRemD X.K) := by
  intro pn s σ H x xs v us Q J rx rxs h
  obtain ⟨l, vs, y, d, ds, j, z, rfl, rfl, hH, ha, hy, sl, sd, hz, hzj, hno, q⟩ := h
  cases rx
  obtain ⟨u, rfl, ru⟩ := rxs.one
  obtain ⟨bs, r1⟩ := Dp.reads J d y u hy ru
  obtain ⟨zz, its, n, r, hl, e⟩ := J.lstM hH
  have lay : PyData.canLayAll0 ds = true := SeqAt.canLay_of_shaped sl
  have room : X.A.units + 1 + min (PyData.depthAll ds) d.depth < cLine := room_in_shaped sd hu
  obtain ⟨as, h4⟩ := Dp.readsAll J ds _ its ha r
  have hn : its.length = ds.length := SeqAt.ReadsAll.length ds its as h4
  have mp : its.map (SeqAt.readOf s.heap) = ds := SeqAt.readsAll_map ds its as lay h4
  have hjd := (List.getElem?_eq_some_iff.mp hz).1
  have hj : j < its.toArray.size := by
    rw [List.size_toArray]
    omega
  have place : ∀ (m : Nat) (hm : m < its.toArray.size) (z' : PyData), ds[m]? = some z' → SeqAt.readOf s.heap its.toArray[m] = z' := fun m hm z' hz' => by
    have hml : m < its.length := by simpa using hm
    rw [← mp, List.getElem?_map, List.getElem?_eq_getElem hml] at hz'
    have e1 : SeqAt.readOf s.heap its[m] = z' := by
      simpa using hz'
    simpa using e1
  have ends := SeqAt.items_eqAt (vs := its.toArray) (show ReadsAll s.heap its.toArray.toList ds as from h4) r1 lay (SeqAt.canLay_of_shaped sd) room
  have rr := r.eraseIdx j
  have zl : its.length ≤ sizeLine := by omega
  refine call_meets PySem.F.slot_list_remove ⟨_, e, rfl⟩ PySem.F.entry_list_remove (PySem.F.args_list_remove_2 _ _) (SeqAt.list_removeAt l its.toArray n _ _ u (fun w => PyData.eqv (SeqAt.readOf s.heap w) d) j hj ?_ ?_ (by rw [List.size_toArray]; exact zl)) ⟨e, ends, ?_⟩
  · show PyData.eqv (SeqAt.readOf s.heap its.toArray[j]) d = true
    rw [place j hj z hz]
    exact hzj
  · intro m hm hmj
    have hmd : m < ds.length := by omega
    show PyData.eqv (SeqAt.readOf s.heap its.toArray[m]) d = false
    rw [place m hm _ (List.getElem?_eq_getElem hmd)]
    exact hno m _ hmj (List.getElem?_eq_getElem hmd)
  · refine ⟨.non, _, J.lset (its' := its.eraseIdx j) (t' := s.toks) hH e ?_ rr ?_, rfl, q⟩
    · show its.toArray.eraseIdxIfInBounds j = (its.eraseIdx j).toArray
      rw [List.eraseIdxIfInBounds_toArray]
    · have z2 := List.length_eraseIdx_le vs j
      omega
end Esc

/-! Ways: what they are, how they stand in a heap, which are good. -/
namespace Esc
open PySem PySem.Spec PyProof.Rows L2
/-! ### tuples of which the object is known to have no dict -/
def NoD (o : Obj) : Prop := o.cls = .type "tuple" ∧ o.dict = none
def TupD (H : Hp) (a : Addr) (xs : List V) : Prop := ∃ o, NoD o ∧ H a = some (.frz o (.tup xs))
theorem TupD.st {K : PySem.W.Frag} {H : Hp} {a : Addr} {xs : List V} (h : TupD H a xs) : SqT K H a xs := by
  obtain ⟨o, _, e⟩ := h
  exact .inl (.inr ⟨o, e⟩)
theorem TupD.same {H H' : Hp} {a : Addr} {xs : List V} (s : Same H H') (h : TupD H a xs) : TupD H' a xs := by
  obtain ⟨o, n, e⟩ := h
  exact ⟨o, n, s _ _ e⟩
/-- tuple(l), the object told -/
def rTupOfF (K : PySem.W.Frag) : List V → Hp → VK → Prop := fun xs H Q => ∃ p ys, xs = [.ref p] ∧ SqL K H p ys ∧ ∀ l o, NoD o → H l = none → Q (.ref l) (upd H l (.frz o (.tup ys)))
theorem k_tupOfF {X : Cx} : CallR X (.type "tuple") (rTupOfF X.K) := by
  intro pn s σ H vs us Q J r h
  obtain ⟨p, ys, rfl, hq, q⟩ := h
  rw [Vals.ref1 r]
  obtain ⟨its, rv, pl, hz⟩ := J.list hq
  have len := rv.length
  refine call_tuple_list pl.isList (fun h1 k => ?_) (by rw [List.size_toArray]; omega)
  have J1 : Inv X pn σ H { s with heap := h1 } := J.kept (t' := s.toks) k
  exact ⟨.ref h1.objs.size, _, J1.laid (o := .frz { cls := .type "tuple", data := .seq its.toArray } (.tup ys)) (t' := s.toks) (fun b u e => Heap.get?_push_of_some _ e) (Nat.le_refl _) ⟨Heap.get?_push_size _ rfl, hz, its, rv, IsTup.new _ _⟩, rfl, q _ _ ⟨rfl, rfl⟩ (J1.hok.fresh (Nat.le_refl _))⟩
theorem i_tupOfF {K : PySem.W.Frag} {H : Hp} {Q : VK} {a : Addr} {xs : List V} (h : SqL K H a xs) (q : ∀ p H', H p = none → Same H H' → TupD H' p xs → Q (.ref p) H') : rTupOfF K [.ref a] H Q :=
  ⟨a, xs, rfl, h, fun l o n hl => q l _ hl (same_new hl) ⟨o, n, upd_same⟩⟩
/-! ### tuples that stay -/
/-- at each of as a tuple of ints -/
def TupsAt (K : PySem.W.Frag) (H : Hp) : List Addr → List (List Int) → Prop
  | [], [] => True
  | a :: as, c :: cs => H a = some (.tup (c.map V.int)) ∧ TupsAt K H as cs
  | _, _ => False
theorem TupsAt.same {K : PySem.W.Frag} {H H' : Hp} (s : Same H H') : ∀ {as : List Addr} {cs : List (List Int)}, TupsAt K H as cs → TupsAt K H' as cs
  | [], [], _ => trivial
  | _ :: _, _ :: _, ⟨h, r⟩ => ⟨s _ _ h, TupsAt.same s r⟩
theorem TupsAt.len {K : PySem.W.Frag} {H : Hp} : ∀ {as : List Addr} {cs : List (List Int)}, TupsAt K H as cs → as.length = cs.length
  | [], [], _ => rfl
  | _ :: _, _ :: _, ⟨_, r⟩ => congrArg (· + 1) r.len
theorem TupsAt.get {K : PySem.W.Frag} {H : Hp} : ∀ {as : List Addr} {cs : List (List Int)} {i : Nat} {a : Addr}, TupsAt K H as cs → as[i]? = some a → ∃ c, cs[i]? = some c ∧ SqT K H a (c.map V.int)
  | [], _, _, _, _, e => by simp at e
  | _ :: _, c :: _, 0, a, ⟨h, _⟩, e => by
    cases e
    exact ⟨c, rfl, st_of h⟩
  | _ :: as, _ :: cs, i + 1, a, ⟨_, r⟩, e => TupsAt.get (as := as) (cs := cs) (i := i) r e
theorem TupsAt.getS {K : PySem.W.Frag} {H : Hp} : ∀ {as : List Addr} {cs : List (List Int)} {i : Nat} {a : Addr}, TupsAt K H as cs → as[i]? = some a → ∃ c, cs[i]? = some c ∧ H a = some (.tup (c.map V.int))
  | [], _, _, _, _, e => by simp at e
  | _ :: _, c :: _, 0, a, ⟨h, _⟩, e => by
    cases e
    exact ⟨c, rfl, h⟩
  | _ :: as, _ :: cs, i + 1, a, ⟨_, r⟩, e => TupsAt.getS (as := as) (cs := cs) (i := i) r e
theorem TupsAt.getc {K : PySem.W.Frag} {H : Hp} : ∀ {as : List Addr} {cs : List (List Int)} {i : Nat} {c : List Int}, TupsAt K H as cs → cs[i]? = some c → ∃ a, as[i]? = some a ∧ SqT K H a (c.map V.int)
  | [], [], _, _, _, e => by simp at e
  | a :: _, _ :: _, 0, c, ⟨h, _⟩, e => by
    cases e
    exact ⟨a, rfl, st_of h⟩
  | _ :: as, _ :: cs, i + 1, c, ⟨_, r⟩, e => TupsAt.getc (as := as) (cs := cs) (i := i) r e
theorem TupsAt.app {K : PySem.W.Frag} {H : Hp} : ∀ {as : List Addr} {cs : List (List Int)} {bs : List Addr} {ds : List (List Int)}, TupsAt K H as cs → TupsAt K H bs ds → TupsAt K H (as ++ bs) (cs ++ ds)
  | [], [], _, _, _, h => h
  | _ :: as, _ :: cs, bs, ds, ⟨h, r⟩, h2 => ⟨h, TupsAt.app (as := as) (cs := cs) (bs := bs) (ds := ds) r h2⟩
theorem TupsAt.erase {K : PySem.W.Frag} {H : Hp} : ∀ {as : List Addr} {cs : List (List Int)} (i : Nat), TupsAt K H as cs → TupsAt K H (as.eraseIdx i) (cs.eraseIdx i)
  | [], [], _, h => by simpa using h
  | _ :: _, _ :: _, 0, ⟨_, r⟩ => r
  | _ :: _, _ :: _, i + 1, ⟨h, r⟩ => ⟨h, r.erase i⟩
theorem TupsAt.take {K : PySem.W.Frag} {H : Hp} : ∀ {as : List Addr} {cs : List (List Int)} (n : Nat), TupsAt K H as cs → TupsAt K H (as.take n) (cs.take n)
  | [], [], n, h => by simpa using h
  | _ :: _, _ :: _, 0, _ => trivial
  | _ :: _, _ :: _, n + 1, ⟨h, r⟩ => ⟨h, r.take n⟩
/-- as data -/
def intsT (c : List Int) : PyData := .tuple (c.map PyData.int)
theorem TupsAt.dpa {K : PySem.W.Frag} {H : Hp} : ∀ {as : List Addr} {cs : List (List Int)}, TupsAt K H as cs → DpAll K H (as.map V.ref) (cs.map intsT)
  | [], [], _ => .nil
  | _ :: _, _ :: _, ⟨h, r⟩ => .cons (.tup (st_of h) (dpa_ints _)) r.dpa
theorem eqv_intsT (a b : List Int) : PyData.eqv (intsT a) (intsT b) = decide (a = b) := by
  unfold intsT
  rw [PyData.eqv]
  exact eqvAll_ints a b
theorem lay_intsT : ∀ cs : List (List Int), PyData.canLayAll0 (cs.map intsT) = true
  | [] => by simp [PyData.canLayAll0]
  | c :: cs => by
    rw [List.map_cons, PyData.canLayAll0, lay_intsT cs]
    unfold intsT
    rw [PyData.canLay0, lay_ints]
    rfl
theorem depth_intsT : ∀ cs : List (List Int), PyData.depthAll (cs.map intsT) ≤ 1
  | [] => by simp [PyData.depthAll]
  | c :: cs => by
    have ih := depth_intsT cs
    rw [List.map_cons, PyData.depthAll]
    unfold intsT at ih ⊢
    rw [PyData.depth, depth_ints]
    omega
theorem shaped_intsT (c : List Int) : SeqAt.shaped (intsT c) = true := by
  unfold SeqAt.shaped intsT
  rw [PyData.canLay0, lay_ints, PyData.depth, depth_ints]
  rfl
theorem shaped_intsTs (cs : List (List Int)) : SeqAt.shaped (.list (cs.map intsT)) = true := by
  unfold SeqAt.shaped
  have h := depth_intsT cs
  rw [PyData.canLay0, lay_intsT, PyData.depth, decide_eq_true (by omega)]
  rfl
/-! ### lists that may be compared -/
/-- data that == can look at -/
def Fl (K : PySem.W.Frag) (H : Hp) (v : V) : Prop := ∃ d, Dp K H v d ∧ d.canLay0 = true ∧ d.depth ≤ 8
mutual
theorem dp_same {K : PySem.W.Frag} {H H' : Hp} (s : Same H H') : ∀ {v : V} {d : PyData}, Dp K H v d → Dp K H' v d
  | _, _, .non => .non
  | _, _, .bl b => .bl b
  | _, _, .int i => .int i
  | _, _, .str x => .str x
  | _, _, .lst h a => .lst (s.seq h) (dpa_same s a)
  | _, _, .tup h a => .tup (stup s h) (dpa_same s a)
theorem dpa_same {K : PySem.W.Frag} {H H' : Hp} (s : Same H H') : ∀ {vs : List V} {ds : List PyData}, DpAll K H vs ds → DpAll K H' vs ds
  | _, _, .nil => .nil
  | _, _, .cons h a => .cons (dp_same s h) (dpa_same s a)
end
theorem Fl.same {K : PySem.W.Frag} {H H' : Hp} (s : Same H H') {v : V} (h : Fl K H v) : Fl K H' v := by
  obtain ⟨d, a, b⟩ := h
  exact ⟨d, dp_same s a, b⟩
theorem fl_int {K : PySem.W.Frag} {H : Hp} (n : Int) : Fl K H (.int n) := ⟨_, .int n, by simp [PyData.canLay0], by simp [PyData.depth]⟩
theorem fl_tup {K : PySem.W.Frag} {H : Hp} {a : Addr} {c : List Int} (h : SqT K H a (c.map V.int)) : Fl K H (.ref a) := ⟨_, .tup h (dpa_ints c), by rw [PyData.canLay0, lay_ints], by rw [PyData.depth, depth_ints]; decide⟩
theorem fl_all {K : PySem.W.Frag} {H : Hp} : ∀ {vs : List V}, (∀ v ∈ vs, Fl K H v) → ∃ ds, DpAll K H vs ds ∧ PyData.canLayAll0 ds = true ∧ PyData.depthAll ds ≤ 8 ∧ ds.length = vs.length
  | [], _ => ⟨[], .nil, by simp [PyData.canLayAll0], by simp [PyData.depthAll], rfl⟩
  | v :: vs, h => by
    obtain ⟨d, a, b, c⟩ := h v List.mem_cons_self
    obtain ⟨ds, a', b', c', e'⟩ := fl_all fun x m => h x (List.mem_cons_of_mem _ m)
    refine ⟨d :: ds, .cons a a', by rw [PyData.canLayAll0, b, b']; rfl, by rw [PyData.depthAll]; omega, by rw [List.length_cons, List.length_cons, e']⟩
/-- xs != [] -/
theorem i_neNil {K : PySem.W.Frag} {H : Hp} {Q : VK} {a b : Addr} {xs : List V} (h : SqL K H a xs) (hf : ∀ v ∈ xs, Fl K H v) (h' : SqL K H b []) (q : Q (.bl (!decide (xs = []))) H) : rNeD K (.ref a) (.ref b) H Q := by
  obtain ⟨ds, h1, h2, h3, h4⟩ := fl_all hf
  refine ⟨.list ds, .list [], .lst h h1, .lst h' .nil, ?_, by decide, ?_⟩
  · unfold SeqAt.shaped
    rw [PyData.canLay0, h2, PyData.depth, decide_eq_true (by omega)]
    rfl
  · have e : PyData.eqv (.list ds) (.list []) = decide (xs = []) := by
      rw [PyData.eqv]
      cases xs with
      | nil =>
        cases ds with
        | nil => simp [PyData.eqvAll]
        | cons d ds => simp at h4
      | cons x xs =>
        cases ds with
        | nil => simp at h4
        | cons d ds => simp [PyData.eqvAll]
    rw [e]
    exact q
/-! ### sorts of ways -/
inductive Kind where
  | codes (cs : List (List Int))
  | escapes (m : Int) (prs : List (Int × Int))
  | counts (l : Int)
  | ranks
def Plain (t e x : Int) : Prop := 0 ≤ x ∧ x < t ∧ x ≠ e
def CodesOk (t e : Int) (cs : List (List Int)) : Prop := (∀ c ∈ cs, 1 ≤ c.length ∧ c.length ≤ 4 ∧ ∀ x ∈ c, Plain t e x) ∧ cs.Pairwise fun a b => ¬ a <+: b ∧ ¬ b <+: a
def KindOk (t e : Int) : Kind → Prop
  | .codes cs => cs.length = t.toNat ∧ CodesOk t e cs
  | .escapes m prs => Plain t e m ∧ (prs.map (·.1)).Pairwise (· < ·) ∧ (∀ s ∈ prs.map (·.1), 0 ≤ s ∧ s < t) ∧ e ∈ prs.map (·.1) ∧ m ∈ prs.map (·.1) ∧ (∀ c ∈ prs.map (·.2), Plain t e c) ∧ (prs.map (·.2)).Nodup
  | .counts l => 2 ≤ l ∧ l < t
  | .ranks => True
def PairsAt (K : PySem.W.Frag) (H : Hp) : List Addr → List (Int × Int) → Prop
  | [], [] => True
  | a :: as, c :: cs => SqT K H a [.int c.1, .int c.2] ∧ PairsAt K H as cs
  | _, _ => False
theorem PairsAt.same {K : PySem.W.Frag} {H H' : Hp} (s : Same H H') : ∀ {as : List Addr} {cs : List (Int × Int)}, PairsAt K H as cs → PairsAt K H' as cs
  | [], [], _ => trivial
  | _ :: _, _ :: _, ⟨h, r⟩ => ⟨stup s h, PairsAt.same s r⟩
theorem PairsAt.len {K : PySem.W.Frag} {H : Hp} : ∀ {as : List Addr} {cs : List (Int × Int)}, PairsAt K H as cs → as.length = cs.length
  | [], [], _ => rfl
  | _ :: _, _ :: _, ⟨_, r⟩ => congrArg (· + 1) r.len
theorem PairsAt.get {K : PySem.W.Frag} {H : Hp} : ∀ {as : List Addr} {cs : List (Int × Int)} {i : Nat} {a : Addr}, PairsAt K H as cs → as[i]? = some a → ∃ c, cs[i]? = some c ∧ SqT K H a [.int c.1, .int c.2]
  | [], _, _, _, _, e => by simp at e
  | _ :: _, c :: _, 0, a, ⟨h, _⟩, e => by
    cases e
    exact ⟨c, rfl, h⟩
  | _ :: as, _ :: cs, i + 1, a, ⟨_, r⟩, e => PairsAt.get (as := as) (cs := cs) (i := i) r e
theorem PairsAt.app {K : PySem.W.Frag} {H : Hp} : ∀ {as : List Addr} {cs : List (Int × Int)} {bs : List Addr} {ds : List (Int × Int)}, PairsAt K H as cs → PairsAt K H bs ds → PairsAt K H (as ++ bs) (cs ++ ds)
  | [], [], _, _, _, h => h
  | _ :: as, _ :: cs, bs, ds, ⟨h, r⟩, h2 => ⟨h, PairsAt.app (as := as) (cs := cs) (bs := bs) (ds := ds) r h2⟩
def KindAt (K : PySem.W.Frag) (H : Hp) (p : Addr) (t e : Int) : Kind → Prop
  | .codes cs => ∃ c as, SqT K H p [.str "codes", .int t, .int e, .ref c] ∧ SqT K H c (as.map V.ref) ∧ TupsAt K H as cs
  | .escapes m prs => ∃ c as, SqT K H p [.str "escapes", .int t, .int e, .int m, .ref c] ∧ SqT K H c (as.map V.ref) ∧ PairsAt K H as prs
  | .counts l => SqT K H p [.str "counts", .int t, .int e, .int l]
  | .ranks => SqT K H p [.str "ranks", .int t, .int e]
theorem KindAt.same {K : PySem.W.Frag} {H H' : Hp} {p : Addr} {t e : Int} (s : Same H H') : ∀ {k : Kind}, KindAt K H p t e k → KindAt K H' p t e k
  | .codes _, ⟨c, as, h1, h2, h3⟩ => ⟨c, as, stup s h1, stup s h2, h3.same s⟩
  | .escapes _ _, ⟨c, as, h1, h2, h3⟩ => ⟨c, as, stup s h1, stup s h2, h3.same s⟩
  | .counts _, h => stup s h
  | .ranks, h => stup s h
def Kind.name : Kind → Str
  | .codes _ => "codes"
  | .escapes _ _ => "escapes"
  | .counts _ => "counts"
  | .ranks => "ranks"
theorem Kind.name_ne : ∀ k : Kind, k.name ≠ "turned"
  | .codes _ => (by decide +kernel : ("codes" : Str) ≠ "turned")
  | .escapes _ _ => (by decide +kernel : ("escapes" : Str) ≠ "turned")
  | .counts _ => (by decide +kernel : ("counts" : Str) ≠ "turned")
  | .ranks => (by decide +kernel : ("ranks" : Str) ≠ "turned")
theorem KindAt.head {K : PySem.W.Frag} {H : Hp} {p : Addr} {t e : Int} : ∀ {k : Kind}, KindAt K H p t e k → ∃ xs, SqT K H p (.str k.name :: .int t :: .int e :: xs)
  | .codes _, ⟨c, as, h1, _, _⟩ => ⟨[.ref c], h1⟩
  | .escapes m _, ⟨c, as, h1, _, _⟩ => ⟨[.int m, .ref c], h1⟩
  | .counts l, h => ⟨[.int l], h⟩
  | .ranks, h => ⟨[], h⟩
/-- v is turned by each of ts (at its address), the outermost first; u stands within -/
def TurnAt (K : PySem.W.Frag) (H : Hp) : List (Addr × List Int) → V → V → Prop
  | [], v, u => v = u
  | (a, t) :: r, v, u => ∃ p x, v = .ref p ∧ SqT K H p [.str "turned", .ref a, x] ∧ TupD H a (t.map V.int) ∧ TurnAt K H r x u
theorem TurnAt.same {K : PySem.W.Frag} {H H' : Hp} (s : Same H H') : ∀ {ts : List (Addr × List Int)} {v u : V}, TurnAt K H ts v u → TurnAt K H' ts v u
  | [], _, _, h => h
  | (_, _) :: _, _, _, ⟨p, x, e, h1, h2, h3⟩ => ⟨p, x, e, stup s h1, h2.same s, h3.same s⟩
structure Way where
  ts : List (List Int)
  t : Int
  e : Int
  k : Kind
def countL (t : Int) : List Int := (List.range t.toNat).map fun (i : Nat) => (i : Int)
def WayAt (K : PySem.W.Frag) (H : Hp) (v : V) (w : Way) : Prop := ∃ (tas : List (Addr × List Int)) (p : Addr), tas.map (·.2) = w.ts ∧ TurnAt K H tas v (.ref p) ∧ KindAt K H p w.t w.e w.k
theorem WayAt.same {K : PySem.W.Frag} {H H' : Hp} {v : V} {w : Way} (s : Same H H') (h : WayAt K H v w) : WayAt K H' v w := by
  obtain ⟨tas, p, a, b, c⟩ := h
  exact ⟨tas, p, a, b.same s, c.same s⟩
structure Way.Ok (w : Way) : Prop where
  few : w.ts.length ≤ 3
  t3 : 3 ≤ w.t
  t16 : w.t ≤ 16
  e0 : 0 ≤ w.e
  e1 : w.e < w.t
  kind : KindOk w.t w.e w.k
  perm : ∀ p ∈ w.ts, p.Perm (countL w.t)
end Esc

/-! Plain signs; rows of letters and their digits; frames by ranks. -/
namespace Esc
open PySem PySem.Spec PyProof.Rows L2
def plainL (t e : Int) : List Int := (List.range t.toNat).filterMap fun (i : Nat) => if (i : Int) = e then none else some (i : Int)
theorem plainL_map (t e : Int) : (List.range t.toNat).filterMap (fun (i : Nat) => if (i : Int) = e then none else some (V.int (i : Int))) = (plainL t e).map V.int := by
  unfold plainL
  rw [List.map_filterMap]
  congr 1
  funext i
  by_cases h : (i : Int) = e
  · rw [if_pos h, if_pos h]
    rfl
  · rw [if_neg h, if_neg h]
    rfl
def pk : Nat → List Int → List (Key × V)
  | _, [] => []
  | n, l :: r => (Sum.inl l, V.int (n : Int)) :: pk (n + 1) r
theorem pk_snoc : ∀ (r : List Int) (n : Nat) (l : Int), pk n (r ++ [l]) = pk n r ++ [(Sum.inl l, V.int ((n + r.length : Nat) : Int))]
  | [], n, l => rfl
  | x :: r, n, l => by
    show _ :: pk (n + 1) (r ++ [l]) = _
    rw [pk_snoc r (n + 1) l]
    show _ = _ :: (pk (n + 1) r ++ _)
    rw [List.length_cons, show n + 1 + r.length = n + (r.length + 1) by omega]
theorem pk_len : ∀ (r : List Int) (n : Nat), (pk n r).length = r.length
  | [], _ => rfl
  | x :: r, n => by
    show (pk (n + 1) r).length + 1 = r.length + 1
    rw [pk_len r (n + 1)]
theorem pk_none : ∀ (r : List Int) (n : Nat) (x : Int), x ∉ r → valV (pk n r) (Sum.inl x) = none
  | [], _, _, _ => rfl
  | y :: r, n, x, h => by
    show valV ((Sum.inl y, V.int (n : Int)) :: pk (n + 1) r) _ = _
    rw [valV_neg (fun e => h (by rw [Sum.inl.inj e]; exact List.mem_cons_self)), pk_none r (n + 1) x fun m => h (List.mem_cons_of_mem _ m)]
theorem pk_some : ∀ (r : List Int) (n : Nat) (x : Int), x ∈ r → valV (pk n r) (Sum.inl x) = some (V.int ((n + r.idxOf x : Nat) : Int))
  | y :: r, n, x, h => by
    show valV ((Sum.inl y, V.int (n : Int)) :: pk (n + 1) r) _ = _
    by_cases e : y = x
    · rw [valV_pos (by rw [e]), e, List.idxOf_cons_self]
      rfl
    · have m : x ∈ r := by
        rcases List.mem_cons.mp h with q | q
        · exact absurd q.symm e
        · exact q
      rw [valV_neg (fun q => e (Sum.inl.inj q)), pk_some r (n + 1) x m, List.idxOf_cons, show (y == x) = false from beq_false_of_ne e, cond_false, show n + 1 + r.idxOf x = n + (r.idxOf x + 1) by omega]
theorem map_get {ns : List Int} {i : Nat} {x : V} (h : (ns.map V.int)[i]? = some x) : ∃ n, ns[i]? = some n ∧ x = .int n := by
  rw [List.getElem?_map] at h
  cases e : ns[i]? with
  | none =>
    rw [e] at h
    cases h
  | some n =>
    rw [e] at h
    exact ⟨n, rfl, (Option.some.inj h).symm⟩
theorem take_succ' {α : Type} {l : List α} {i : Nat} {x : α} (h : l[i]? = some x) : l.take (i + 1) = l.take i ++ [x] := by
  rw [List.take_add_one, h]
  rfl
theorem nodup_take {α : Type} [DecidableEq α] {l : List α} {i : Nat} {x : α} (hn : l.Nodup) (h : l[i]? = some x) : x ∉ l.take i := fun m => by
  obtain ⟨j, hj, e⟩ := List.getElem_of_mem m
  rw [List.length_take] at hj
  obtain ⟨hi, e2⟩ := List.getElem?_eq_some_iff.mp h
  rw [List.getElem_take] at e
  have := (List.getElem_inj hn).mp (e.trans e2.symm)
  omega
theorem plain_mem {t e x : Int} : x ∈ plainL t e ↔ 0 ≤ x ∧ x < t ∧ x ≠ e := by
  unfold plainL
  rw [List.mem_filterMap]
  constructor
  · rintro ⟨i, hi, h⟩
    rw [List.mem_range] at hi
    by_cases c : (i : Int) = e
    · rw [if_pos c] at h
      cases h
    · rw [if_neg c] at h
      cases h
      exact ⟨by omega, by omega, c⟩
  · rintro ⟨h1, h2, h3⟩
    refine ⟨x.toNat, by rw [List.mem_range]; omega, ?_⟩
    rw [Int.toNat_of_nonneg h1, if_neg h3]
theorem rg_count (t : Int) : rgV 0 t = (countL t).map V.int := by
  unfold rgV countL
  rw [List.map_map, Int.sub_zero]
  congr 1
  funext i
  show V.int (0 + (i : Int)) = V.int (i : Int)
  rw [Int.zero_add]
theorem count_len {t : Int} : (countL t).length = t.toNat := by
  unfold countL
  rw [List.length_map, List.length_range]
theorem count_mem {t x : Int} : x ∈ countL t ↔ 0 ≤ x ∧ x < t := by
  unfold countL
  rw [List.mem_map]
  constructor
  · rintro ⟨i, hi, rfl⟩
    rw [List.mem_range] at hi
    exact ⟨by omega, by omega⟩
  · rintro ⟨h1, h2⟩
    exact ⟨x.toNat, by rw [List.mem_range]; omega, Int.toNat_of_nonneg h1⟩
theorem count_nodup (t : Int) : (countL t).Nodup := by
  unfold countL
  exact List.Pairwise.map _ (fun a b (h : a ≠ b) z => h (Int.ofNat.inj z)) List.nodup_range
theorem plain_pw (t e : Int) : (plainL t e).Pairwise (· < ·) := by
  unfold plainL
  refine List.Pairwise.filterMap _ ?_ List.pairwise_lt_range
  intro a b hab x hx y hy
  by_cases c : (a : Int) = e
  · rw [if_pos c] at hx
    cases hx
  · by_cases c2 : (b : Int) = e
    · rw [if_pos c2] at hy
      cases hy
    · rw [if_neg c] at hx
      rw [if_neg c2] at hy
      cases hx
      cases hy
      omega
theorem plain_nodup (t e : Int) : (plainL t e).Nodup := (plain_pw t e).imp fun h => by omega
theorem range_filter_len (e : Nat) : ∀ n : Nat, e < n → ((List.range n).filterMap fun (i : Nat) => if (i : Int) = (e : Int) then none else some (i : Int)).length + 1 = n
  | 0, h => by omega
  | n + 1, h => by
    rw [List.range_succ, List.filterMap_append, List.length_append]
    by_cases c : e < n
    · have ih := range_filter_len e n c
      have q : ¬ ((n : Nat) : Int) = (e : Int) := by omega
      have z : (List.filterMap (fun (i : Nat) => if (i : Int) = (e : Int) then none else some (i : Int)) [n]).length = 1 := by
        rw [List.filterMap_cons, if_neg q]
        rfl
      omega
    · have en : e = n := by omega
      subst en
      have z : (List.filterMap (fun (i : Nat) => if (i : Int) = (e : Int) then none else some (i : Int)) [e]).length = 0 := by
        rw [List.filterMap_cons, if_pos rfl]
        rfl
      have z2 : (List.filterMap (fun (i : Nat) => if (i : Int) = (e : Int) then none else some (i : Int)) (List.range e)).length = e := by
        have : ∀ l : List Nat, (∀ i ∈ l, i < e) → (List.filterMap (fun (i : Nat) => if (i : Int) = (e : Int) then none else some (i : Int)) l).length = l.length := fun l => by
          induction l with
          | nil => intro _; rfl
          | cons a r ih =>
            intro hl
            have ha := hl a List.mem_cons_self
            rw [List.filterMap_cons, if_neg (by omega)]
            show _ + 1 = _ + 1
            rw [ih fun i hi => hl i (List.mem_cons_of_mem _ hi)]
        rw [this _ fun i hi => List.mem_range.mp hi, List.length_range]
      omega
theorem plain_len {t e : Int} (h0 : 0 ≤ e) (h1 : e < t) : (plainL t e).length + 1 = t.toNat := by
  have z := range_filter_len e.toNat t.toNat (by omega)
  rw [Int.toNat_of_nonneg h0] at z
  exact z
/-- the digits of a row of letters -/
def digits (ls : List Int) (row : List Int) : List Nat := row.map fun x => ls.idxOf x
def letters (ls : List Int) (ds : List Nat) : List Int := ds.map fun d => ls.getD d 0
theorem digits_lt {ls row : List Int} (h : ∀ x ∈ row, x ∈ ls) : ∀ d ∈ digits ls row, d < ls.length := fun d hd => by
  obtain ⟨x, hx, rfl⟩ := List.mem_map.mp hd
  exact List.idxOf_lt_length_of_mem (h x hx)
theorem letters_digits {ls row : List Int} (h : ∀ x ∈ row, x ∈ ls) : letters ls (digits ls row) = row := by
  unfold letters digits
  rw [List.map_map]
  conv => rhs; rw [← List.map_id row]
  refine List.map_congr_left fun x hx => ?_
  have hi := List.idxOf_lt_length_of_mem (h x hx)
  show ls.getD (ls.idxOf x) 0 = x
  rw [List.getD_eq_getElem?_getD, List.getElem?_eq_getElem hi, List.getElem_idxOf hi]
  rfl
theorem digits_letters {ls : List Int} (hn : ls.Nodup) {ds : List Nat} (h : ∀ d ∈ ds, d < ls.length) : digits ls (letters ls ds) = ds := by
  unfold letters digits
  rw [List.map_map]
  conv => rhs; rw [← List.map_id ds]
  refine List.map_congr_left fun d hd => ?_
  show ls.idxOf (ls.getD d 0) = d
  rw [List.getD_eq_getElem?_getD, List.getElem?_eq_getElem (h d hd)]
  exact List.Nodup.idxOf_getElem hn d (h d hd)
theorem letters_mem {ls : List Int} {ds : List Nat} (h : ∀ d ∈ ds, d < ls.length) : ∀ x ∈ letters ls ds, x ∈ ls := fun x hx => by
  obtain ⟨d, hd, rfl⟩ := List.mem_map.mp hx
  rw [List.getD_eq_getElem?_getD, List.getElem?_eq_getElem (h d hd)]
  exact List.getElem_mem (h d hd)
/-- the frame of a body without its end, by ranks -/
def rowR (t e : Int) (body : List Int) : List Int := letters (plainL t e) (rowD (plainL t e).length (rankD t.toNat (digits (countL t) body)))
def bodyR (t e : Int) (row : List Int) : List Int := letters (countL t) (rowD t.toNat (rankD (plainL t e).length (digits (plainL t e) row)))
theorem let_map (ls : List Int) (ds : List Nat) : ds.map (fun d => V.int (ls.getD d 0)) = (letters ls ds).map V.int := by
  unfold letters
  rw [List.map_map]
  rfl
theorem bodyR_len {t e : Int} (h3 : 3 ≤ t) (h0 : 0 ≤ e) (h1 : e < t) {row : List Int} (h : ∀ x ∈ row, x ∈ plainL t e) : (bodyR t e row).length ≤ row.length := by
  have z := plain_len h0 h1
  unfold bodyR letters
  rw [List.length_map]
  have a := row_len_mono (m := (plainL t e).length) (n := t.toNat) (by omega) (by omega) (rankD (plainL t e).length (digits (plainL t e) row)) _ (Nat.le_refl _)
  rw [row_rank (by omega) _ (digits (plainL t e) row) rfl (digits_lt h)] at a
  have b : (digits (plainL t e) row).length = row.length := List.length_map _
  omega
theorem bodyR_mem {t e : Int} (h3 : 3 ≤ t) (row : List Int) : ∀ n ∈ bodyR t e row, 0 ≤ n ∧ n < t := fun n hn => by
  refine count_mem.mp (letters_mem (fun d hd => ?_) n hn)
  rw [count_len]
  exact row_lt (by omega) _ d hd
theorem rowR_bodyR {t e : Int} (h3 : 3 ≤ t) (h0 : 0 ≤ e) (h1 : e < t) {row : List Int} (h : ∀ x ∈ row, x ∈ plainL t e) : rowR t e (bodyR t e row) = row := by
  have z := plain_len h0 h1
  unfold rowR bodyR
  rw [digits_letters (count_nodup t) (fun d hd => by rw [count_len]; exact row_lt (by omega) _ d hd), rank_row, row_rank (by omega) _ _ rfl (digits_lt h), letters_digits h]
theorem rowR_mem {t e : Int} (h3 : 3 ≤ t) (h0 : 0 ≤ e) (h1 : e < t) (body : List Int) : ∀ x ∈ rowR t e body, x ∈ plainL t e := by
  have z := plain_len h0 h1
  exact letters_mem (row_lt (by omega) _)
theorem rowR_len {t e : Int} (h3 : 3 ≤ t) (h16 : t ≤ 16) (h0 : 0 ≤ e) (h1 : e < t) {body : List Int} (h : ∀ n ∈ body, 0 ≤ n ∧ n < t) : (rowR t e body).length ≤ 5 * body.length := by
  have z := plain_len h0 h1
  unfold rowR letters
  rw [List.length_map]
  have a := row_short (m := (plainL t e).length) (n := t.toNat) (by omega) (by omega) (ds := digits (countL t) body) (fun d hd => by
    rw [← count_len (t := t)]
    exact digits_lt (fun x hx => count_mem.mpr (h x hx)) d hd)
  have b : (digits (countL t) body).length = body.length := List.length_map _
  omega
end Esc

/-! What stands in tuples stays; codes of which none is the beginning of another one. -/
namespace Esc
open PySem PySem.Spec PyProof.Rows L2
/-- a tuple -/
def isT : HO → Bool
  | .tup _ => true
  | .frz _ (.tup _) => true
  | _ => false
/-- the tuples of a heap alone -/
def tp (H : Hp) : Hp := fun a => (H a).filter isT
theorem tp_all {H : Hp} {a : Addr} {o : HO} (h : H a = some o) (t : isT o = true) : tp H a = some o := by
  unfold tp
  rw [h, Option.filter_some, if_pos t]
theorem tp_at {H : Hp} {a : Addr} {xs : List V} (h : H a = some (.tup xs)) : tp H a = some (.tup xs) := tp_all h rfl
theorem tp_of {H : Hp} {a : Addr} {o : HO} (h : tp H a = some o) : isT o = true ∧ H a = some o := by
  unfold tp at h
  have z := Option.filter_eq_some_iff.mp h
  exact ⟨z.2, z.1⟩
theorem tp_same {H : Hp} : Same (tp H) H := fun b o e => (tp_of e).2
theorem tp_up {H H' : Hp} (s : Same (tp H) H') : Same (tp H) (tp H') := fun b o e => tp_all (s b o e) (tp_of e).1
theorem tp_pure {H H' : Hp} (s : Same H H') : Same (tp H) (tp H') := tp_up fun b o e => s b o (tp_same b o e)
theorem tp_ne {H : Hp} {b d : Addr} {o : HO} {xs : List V} (e : tp H b = some o) (hd : H d = some (.lst xs)) : b ≠ d := fun z => by
  obtain ⟨t, h⟩ := tp_of e
  rw [z, hd] at h
  cases h
  cases t
theorem tp_hide {H H' : Hp} {d : Addr} {xs : List V} (hd : H d = some (.lst xs)) (s : Same (hide d H) H') : Same (tp H) (tp H') := tp_up fun b o e => s b _ ((hide_ne (tp_ne e hd)).trans (tp_of e).2)
theorem tp_put {H : Hp} {l : Addr} {xs : List V} {o : HO} (hl : H l = some (.lst xs)) : Same (tp H) (tp (upd H l o)) := tp_up fun b u e => (upd_ne (tp_ne e hl)).trans (tp_of e).2
theorem tp_new {H : Hp} {l : Addr} {o : HO} (hl : H l = none) : Same (tp H) (tp (upd H l o)) := tp_pure (same_new hl)
theorem tp_sqt {K : PySem.W.Frag} {H : Hp} {a : Addr} {xs : List V} (h : H a = some (.tup xs)) : SqT K (tp H) a xs := st_of (tp_at h)
theorem tp_tupd {H : Hp} {a : Addr} {xs : List V} (h : TupD H a xs) : TupD (tp H) a xs := by
  obtain ⟨o, n, e⟩ := h
  exact ⟨o, n, tp_all e rfl⟩
/-! ### leaves of a tree -/
def Apart (a b : List Int) : Prop := ¬ a <+: b ∧ ¬ b <+: a
theorem Apart.symm {a b : List Int} (h : Apart a b) : Apart b a := ⟨h.2, h.1⟩
def LeavesOk (t e : Int) (m : Nat) (cs : List (List Int)) : Prop := (∀ c ∈ cs, 1 ≤ c.length ∧ c.length ≤ m ∧ ∀ x ∈ c, Plain t e x) ∧ cs.Pairwise Apart
theorem LeavesOk.codes {t e : Int} {cs : List (List Int)} (h : LeavesOk t e 4 cs) : CodesOk t e cs := h
theorem LeavesOk.perm {t e : Int} {m : Nat} {cs ds : List (List Int)} (h : LeavesOk t e m cs) (p : ds.Perm cs) : LeavesOk t e m ds :=
  ⟨fun c hc => h.1 c (p.subset hc), (p.pairwise_iff (fun {_ _} z => Apart.symm z)).mpr h.2⟩
theorem LeavesOk.sub {t e : Int} {m : Nat} {cs ds : List (List Int)} (h : LeavesOk t e m cs) (p : ds.Sublist cs) : LeavesOk t e m ds :=
  ⟨fun c hc => h.1 c (p.subset hc), h.2.sublist p⟩
theorem LeavesOk.mono {t e : Int} {m n : Nat} {cs : List (List Int)} (h : LeavesOk t e m cs) (l : m ≤ n) : LeavesOk t e n cs :=
  ⟨fun c hc => ⟨(h.1 c hc).1, by have := (h.1 c hc).2.1; omega, (h.1 c hc).2.2⟩, h.2⟩
theorem perm_erase {α : Type} : ∀ (l : List α) (i : Nat) (h : i < l.length), (l[i] :: l.eraseIdx i).Perm l
  | a :: l, 0, _ => List.Perm.refl _
  | a :: l, i + 1, h => ((List.Perm.swap a (l[i]'(Nat.lt_of_succ_lt_succ h)) (l.eraseIdx i))).trans ((perm_erase l i (Nat.lt_of_succ_lt_succ h)).cons a)
theorem pre_snoc {a c : List Int} {s : Int} (h : a <+: c ++ [s]) : a <+: c ∨ a = c ++ [s] := by
  obtain ⟨r, hr⟩ := h
  rcases List.eq_nil_or_concat r with e | ⟨r', x, e⟩
  · right
    rw [← hr, e, List.append_nil]
  · left
    rw [e, List.concat_eq_append, ← List.append_assoc] at hr
    exact ⟨r', (List.append_inj' hr rfl).1⟩
theorem leaves_more {t e : Int} {m : Nat} {cs : List (List Int)} {j : Nat} (hj : j < cs.length) (h : LeavesOk t e m cs) : LeavesOk t e (m + 1) (cs.eraseIdx j ++ (plainL t e).map fun s => cs[j] ++ [s]) := by
  have hc := h.1 cs[j] (List.getElem_mem hj)
  have hp := (h.perm (perm_erase cs j hj)).2
  obtain ⟨hx, hr⟩ := List.pairwise_cons.mp hp
  refine ⟨fun c m1 => ?_, List.pairwise_append.mpr ⟨hr, ?_, fun x hx1 y hy => ?_⟩⟩
  · rcases List.mem_append.mp m1 with m1 | m1
    · have z := h.1 c (List.mem_of_mem_eraseIdx m1)
      exact ⟨z.1, by omega, z.2.2⟩
    · obtain ⟨s, hs, rfl⟩ := List.mem_map.mp m1
      refine ⟨by rw [List.length_append, List.length_singleton]; omega, by rw [List.length_append, List.length_singleton]; omega, fun x hx2 => ?_⟩
      rcases List.mem_append.mp hx2 with z | z
      · exact hc.2.2 x z
      · rw [List.mem_singleton.mp z]
        exact plain_mem.mp hs
  · rw [List.pairwise_map]
    refine (plain_nodup t e).imp fun {a b} hab => ?_
    have key : ∀ {a b : Int}, a ≠ b → ¬ (cs[j] ++ [a] <+: cs[j] ++ [b]) := fun {a b} hab z => by
      have q := z.eq_of_length (by rw [List.length_append, List.length_append]; rfl)
      exact hab (by simpa using List.append_cancel_left q)
    exact ⟨key hab, key fun z => hab z.symm⟩
  · obtain ⟨s, hs, rfl⟩ := List.mem_map.mp hy
    have ap := hx x hx1
    constructor
    · intro z
      rcases pre_snoc z with q | q
      · exact ap.2 q
      · exact ap.1 ⟨[s], q.symm⟩
    · intro z
      exact ap.1 ((List.prefix_append cs[j] [s]).trans z)
theorem leaves_first {t e : Int} : LeavesOk t e 1 ((plainL t e).map fun s => [s]) := by
  refine ⟨fun c hc => ?_, ?_⟩
  · obtain ⟨s, hs, rfl⟩ := List.mem_map.mp hc
    exact ⟨Nat.le_refl _, Nat.le_refl _, fun x hx => by rw [List.mem_singleton.mp hx]; exact plain_mem.mp hs⟩
  · rw [List.pairwise_map]
    refine (plain_nodup t e).imp fun {a b} hab => ?_
    have key : ∀ {a b : Int}, a ≠ b → ¬ ([a] <+: [b]) := fun {a b} hab z => by
      have q := z.eq_of_length rfl
      exact hab (by simpa using q)
    exact ⟨key hab, key fun z => hab z.symm⟩
theorem leaves_nodup {t e : Int} {m : Nat} {cs : List (List Int)} (h : LeavesOk t e m cs) : cs.Nodup := h.2.imp fun {a b} hab z => hab.1 (by rw [z]; exact List.prefix_refl _)
end Esc

set_option maxHeartbeats 2000000
/-! enumerate(t), sorted(t) of tuples. -/
namespace Esc
open PySem PySem.Spec PyProof.Rows L2
open Sem (wp)
open AutoSeq1 (wpAny_loadPart')
def enO (a : Addr) : Obj := { cls := .type "enumerate", data := .fields #[.none, .bool false, .ref a, rawInt 0, .none, .none] }
theorem new_en {v : Value} {o : Obj} {C : Heap → Prop} (B : Begins v o C) : Meets (Builtin.«enumerate.__new__» ⟨[.type "enumerate", v], []⟩) (fun _ R s => C s.heap ∧ R (.ok (.ret (.ref (s.heap.push o).objs.size))) { s with heap := (s.heap.push o).push (enO s.heap.objs.size) }) :=
  .of_wp fun prog w A R s ⟨h1, h⟩ => by
    obtain ⟨hp, g, d, tk, os⟩ := s
    have su := sub_enumerate
    have go : ∀ {A' : Around} {E Q : Value → Shared → Prop}, Q (.ref hp.objs.size) ⟨hp.push o, g, d, tk, os⟩ → wpAny (model prog w) A' (pyIter v) Q E ⟨hp, g, d, tk, os⟩ := fun q => B.iter prog w _ _ ⟨hp, g, d, tk, os⟩ _ h1 q
    wp_walk using go
    refine wpAny_stack_any (fun _ => wpAny_pure ?_)
    split
    · rename_i c _ _ _ _ _
      cases c == Value.type "enumerate" <;> (wp_walk using go; exact ⟨_, rfl, h⟩)
    · wp_walk using go
      exact ⟨_, rfl, h⟩
theorem call_en {prog : Program} {w : World} {A : Around} {E Q : Value → Shared → Prop} {s : Shared} {v : Value} {o : Obj} {C : Heap → Prop} (B : Begins v o C) (h1 : C s.heap)
    (h : ∀ h', IsEnum h' (s.heap.objs.size + 1) s.heap.objs.size 0 .none → h'.get? s.heap.objs.size = some o → h'.objs.size = s.heap.objs.size + 2 → (∀ b u, s.heap.get? b = some u → h'.get? b = some u) → Q (.ref (s.heap.objs.size + 1)) { s with heap := h' }) :
    wpAny (model prog w) A (call (.type "enumerate") [v]) Q E s := by
  have z : (s.heap.push o).objs.size = s.heap.objs.size + 1 := Heap.size_push ..
  have e1 : ((s.heap.push o).push (enO s.heap.objs.size)).get? (s.heap.objs.size + 1) = some (enO s.heap.objs.size) := by
    have q := Heap.get?_push_size (s.heap.push o) (o := enO s.heap.objs.size) rfl
    rwa [z] at q
  refine callType_new F.called_enumerate (by decide) (F.typeCall_enumerate_1 _) (F.newCall_enumerate_1 _) (fun obj => F.args_object_init_2 obj _) F.entry_enumerate_new (new_en B) ⟨h1, ?_⟩
  show _ ∧ _
  rw [z]
  exact ⟨⟨_, e1, rfl⟩, h _ e1 (Heap.get?_push_of_some _ (Heap.get?_push_size _ B.free)) (by rw [Heap.size_push, z]) fun b u x => Heap.get?_push_of_some _ (Heap.get?_push_of_some _ x)⟩
/-- the tuple at a, each item in a new pair -/
def IteT (K : PySem.W.Frag) (a : Addr) : It :=
  ⟨fun i H => ∃ (xs : List V) (x : V), SqT K H a xs ∧ xs[i]? = some x, fun i H v H' => ∃ T x, v = .ref T ∧ H T = none ∧ H' = upd H T (.tup [.int (i : Nat), x]) ∧ ∀ xs, SqT K H a xs → xs[i]? = some x, fun i H => ∃ xs : List V, SqT K H a xs ∧ xs.length = i⟩
theorem turn_enT {P : Program} {w : World} {K : PySem.W.Frag} {elts : List Expr} {kk : Nat} {tpos : Pos} (a e it : Addr) (nea : e ≠ a) (nit : a ≠ it) :
    Turn P w K (.Tuple elts kk tpos) (IteT K a) [e, it] e (fun i h => (∃ old, IsEnum h e it ((i : Nat) : Int) old) ∧ h.IsTupleIter it a i ∧ e ≠ it) where
  mem := List.mem_cons_self
  obj := fun i h ⟨⟨old, he⟩, ⟨o, ho, hc, hd⟩, _⟩ b hb => by
    rcases List.mem_cons.mp hb with z | z
    · subst z
      exact ⟨_, he, fun v q => nomatch q⟩
    · rw [List.mem_singleton.mp z]
      exact ⟨o, ho, fun v q => by rw [hd] at q; cases q⟩
  keep := fun i h h' ⟨⟨old, he⟩, hi, hne⟩ k => ⟨⟨old, k e List.mem_cons_self _ he⟩, hi.at fun o q => k it (List.mem_cons_of_mem _ List.mem_cons_self) o q, hne⟩
  item := by
    intro X hP hw hK hc i pins s σ H E I hf st hg
    subst hP hw hK
    obtain ⟨⟨old, he⟩, hit, hne⟩ := st
    obtain ⟨xs, x, hq, hx⟩ := hg
    obtain ⟨its, rv, p, hz⟩ := I.tuple hq
    obtain ⟨u, hu, ru⟩ := rv.get hx
    have lt : i < its.toArray.size := by
      rw [List.size_toArray]
      exact (List.getElem?_eq_some_iff.mp hu).1
    have hel : e < s.heap.objs.size := Heap.lt_size he
    have hil : it < s.heap.objs.size := by
      obtain ⟨_, q, _⟩ := hit
      exact Heap.lt_size q
    refine wpAny_pyNext_enum_itemC (Draws.tuple (show X.A.in1.handled = none from I.ok.hd hc) it a nit its.toArray) he ⟨hit, p⟩ lt hne (by simp [hne, nea]) fun y h' tk hy ho hst hT hsz hk => ?_
    have ey : y = u := by
      have q : its.toArray[i]? = some u := by simpa using hu
      exact Option.some.inj (hy.symm.trans q)
    subst ey
    refine ⟨_, rfl, wpAny_letOwnedTupleGo_enum (s := { s with heap := h', toks := tk + 1 }) ho fun h2 he2 sb => ?_⟩
    have hT2 := (sb.2 _ (Nat.ne_of_gt hel)).trans hT
    have I1 : Inv X pins σ (upd H s.heap.objs.size (.tup [.int (i : Nat), x])) { s with heap := h2, toks := tk + 1 } :=
      I.turnedNew (ch := [e, it]) (fun b ob hb q => (sb.2 b (fun z => hb (z ▸ List.mem_cons_self))).trans (hk b ob (fun z => hb (z ▸ List.mem_cons_self)) (fun z => hb (z ▸ List.mem_cons_of_mem _ List.mem_cons_self)) q)) hf (Nat.le_refl _)
        ⟨by show 2 ≤ sizeLine; decide, [.int i tk, y], .cons ⟨_, rfl⟩ (.cons ru .nil), _, hT2, rfl, _, rfl⟩
    refine ⟨.ref s.heap.objs.size, _, I1, rfl, ⟨_, x, rfl, I.hok.fresh (Nat.le_refl _), rfl, fun ys h3 => by rw [I.tuple_inj h3 hq]; exact hx⟩, ⟨⟨y, ?_⟩, hst.1.at fun o q => (sb.2 it (Ne.symm hne)).trans q, hne⟩, fun b hb => ?_⟩
    · rw [show ((i + 1 : Nat) : Int) = (i : Int) + 1 by omega]
      exact he2
    · have hb' : b ≠ s.heap.objs.size := by
        rcases List.mem_cons.mp hb with z | z
        · exact z ▸ Nat.ne_of_lt hel
        · exact (List.mem_singleton.mp z) ▸ Nat.ne_of_lt hil
      exact (upd_ne hb').trans (hf b hb).1
  done := by
    intro X hP hw hK hc i pins s σ H E I hf st hg
    subst hP hw hK
    obtain ⟨⟨old, he⟩, hit, hne⟩ := st
    obtain ⟨xs, hq, hx⟩ := hg
    obtain ⟨its, rv, p, hz⟩ := I.tuple hq
    have hl := rv.length
    obtain ⟨f0, f1, f2, f3, f4, f5⟩ := hf it (List.mem_cons_of_mem _ List.mem_cons_self)
    have li : its.toArray.size = i := by
      rw [List.size_toArray, ← hl]
      exact hx
    subst li
    exact wpAny_pyNext_enum_endD (Draws.tuple (show X.A.in1.handled = none from I.ok.hd hc) it a nit its.toArray) he ⟨hit, p⟩ fun h' eb => ⟨rfl, I.turned (t' := s.toks) (fun b o hb q => eb b o hb q) f0 f1 f3 f4 f5⟩
  self := fun A i s Q E ⟨⟨_, he⟩, _⟩ h => wpAny_pyIter_enum he h
def iEnT (K : PySem.W.Frag) (ta : TA) : TI := fun σ H R => ta σ H fun vs H1 => ∃ a xs, vs = [.ref a] ∧ SqT K H1 a xs ∧ R (IteT K a) H1
theorem pi_enT {X : Cx} {e : Expr} {ta : TA} {p pos tpos : Pos} {elts : List Expr} {kk : Nat} (hg : Gl X "enumerate") (hm : X.mg "enumerate" = none) (ha : PA X [e] ta) (hs : starEach [e] X.env = [(false, eval e X.env)] := by rfl) :
    PI X (.Tuple elts kk tpos) (.Call (.Name "enumerate" p) [e] [] pos) (iEnT X.K ta) := by
  refine ⟨fun pins s σ H R I h => Call_ (ld_blt I hg hm boot_enumerate (PyProof.Rows.callWith_type1 (thn (ha.run pos pins s σ H _ I h) fun us s1 ⟨vs, H1, I1, r1, a, xs, ex, hq, q⟩ => ?_) hs rfl))⟩
  subst ex
  cases r1 with
  | cons r rr =>
    cases rr
    cases r
    obtain ⟨its, rv, p2, hz⟩ := I1.tuple hq
    have al : a < s1.heap.objs.size := by
      obtain ⟨o, q1, _⟩ := p2
      exact Heap.lt_size q1
    refine call_en (begins_tuple a its.toArray) p2 fun h' he hit hsz hk => wpAny_pyIter_enum he ?_
    refine ⟨s1.heap.objs.size + 1, [s1.heap.objs.size + 1, s1.heap.objs.size], _, _, H1, rfl, I1.kept (t' := s1.toks) hk, turn_enT a (s1.heap.objs.size + 1) s1.heap.objs.size (Nat.ne_of_gt (Nat.lt_succ_of_lt al)) (Nat.ne_of_lt al), ⟨⟨.none, he⟩, ⟨_, hit, rfl, rfl⟩, Nat.succ_ne_self _⟩, fun b hb => ?_, q⟩
    have hle : s1.heap.objs.size ≤ b := by
      rcases List.mem_cons.mp hb with z | z
      · exact z ▸ Nat.le_succ _
      · exact Nat.le_of_eq (List.mem_singleton.mp z).symm
    exact I1.fpOk hle (I1.hok.fresh hle)
section
variable {K : PySem.W.Frag} {H : Hp} {xs : List V} {a : Addr} {σ : L2.St} {g : TG} {tb : TS} {ta : TA} {nx : L2.St → Hp → Prop} {rt : VK} {bk ct : L2.St → Hp → Prop}
def kEnmT (K : PySem.W.Frag) (g : TG) (tb : TS) (D : Ends) (σ : L2.St) : List V → Hp → Prop := fun vs H1 => ∃ a xs, vs = [.ref a] ∧ SqT K H1 a xs ∧ Loop (IteT K a) g tb D σ H1
instance {D : Ends} : Step (tFor (iEnT K ta) g tb D σ H) (ta σ H (kEnmT K g tb D σ)) := ⟨fun h => h⟩
theorem i_enumT (hx : SqT K H a xs) (Pv : Nat → L2.St → Hp → Prop) (h0 : Pv 0 σ H) (hl : ∀ i σ H, i ≤ xs.length → Pv i σ H → SqT K H a xs)
    (hs : ∀ i x σ H T H', xs[i]? = some x → Pv i σ H → H T = none → Same H H' → H' T = some (.tup [.int (i : Nat), x]) → g (.ref T) σ H' (tb ⟨Pv (i + 1), rt, nx, Pv (i + 1)⟩)) (hd : ∀ σ H, Pv xs.length σ H → nx σ H) :
    kEnmT K g tb ⟨nx, rt, bk, ct⟩ σ [.ref a] H := by
  refine ⟨a, xs, rfl, hx, fun i m σ H => m = xs.length - i ∧ i ≤ xs.length ∧ Pv i σ H, ⟨xs.length, by simp, Nat.zero_le _, h0⟩, ?_⟩
  rintro i m σ H ⟨rfl, hi, p⟩
  have q := hl i σ H hi p
  by_cases hlt : i < xs.length
  · refine .inr ⟨⟨xs, xs[i], q, by simp [hlt]⟩, Pv (i + 1), fun σ' H' p' => ⟨xs.length - (i + 1), by omega, rfl, hlt, p'⟩, fun x H' y => ?_⟩
    obtain ⟨T, x, rfl, nT, rfl, y⟩ := y
    exact hs i x σ H T _ (y xs q) p nT (same_new nT) upd_same
  · have e : i = xs.length := by omega
    subst e
    exact .inl ⟨⟨xs, q, rfl⟩, hd σ H p⟩
end
end Esc

set_option maxHeartbeats 2000000
namespace Esc
open PySem PySem.Spec PyProof.Rows L2
/-- sorted(t), a tuple of ints -/
def rSortedIT (K : PySem.W.Frag) : List V → Hp → VK → Prop := fun vs H Q => ∃ (a : Addr) (ns : List Int), vs = [V.ref a] ∧ SqT K H a (ns.map V.int) ∧ ∀ (ms : List Int) (p : Addr), ms.Perm ns → ms.Pairwise (· ≤ ·) → H p = none → Q (.ref p) (upd H p (.lst (ms.map V.int)))
theorem cr_sortedIT {X : Cx} : CallR X (.builtin "sorted") (rSortedIT X.K) := by
  intro pn s σ H vs us Q J r h
  obtain ⟨a, ns, rfl, hs, q⟩ := h
  obtain ⟨its, rv, hl, hz⟩ := J.tuple hs
  have hi := rv.ints
  have hv : its.length ≤ sizeLine := by
    rw [← rv.length]
    exact hz
  rw [Vals.ref1 r]
  obtain ⟨o, ho, hc, n, hd⟩ := hl
  refine (Calls.call_function_entry kind_sorted plain_sorted entry_sorted (args_sorted1 _) ?_ :)
  unfold Builtin.«sorted»
  refine wpAny_bind (m := checkCount "sorted" 1 1 _) (wpAny_pure (wpAny_bind (wpAny_collect_seq a (.inr rfl) ho hc hd (fun h1 k => ?_) (by rw [List.size_toArray]; exact hv))))
  have J1 : Inv X pn σ H { s with heap := h1 } := J.kept (t' := s.toks) k
  refine wpAny_bind (wpAny_newList ?_ hv)
  have hn : (h1.push (seqObj "list" its.toArray 0)).get? h1.objs.size = some (seqObj "list" its.toArray 0) := Heap.get?_push_size _ rfl
  have hn2 : (Shared.heap { s with heap := h1.push (seqObj "list" its.toArray 0) }).get? h1.objs.size = some (seqObj "list" its.toArray 0) := hn
  refine wpAny_bind (wpAny_holding (wpAny_call_entry (s := { s with heap := h1.push (seqObj "list" its.toArray 0) }) slot_list_sort ⟨_, hn2, rfl⟩ entry_list_sort (SrtO.list_sort_ord SrtO.swo_int hn2 hv (fun h2 => SrtO.ints_sortable hi h2) fun out o1 o2 => ⟨_, rfl, ?_⟩) (args_list_sort _)))
  refine wpAny_pure ⟨_, rfl, ?_⟩
  obtain ⟨k1, k2, k3⟩ := SrtO.ints_out hi o1 o2
  obtain ⟨ep, he⟩ := PyProof.Rows.sortedHeap_at (vs := its) (out := out.toArray) hn
  have hlen : ((out.map SrtO.iv).map V.int).length ≤ sizeLine := by
    have z := k2.length_eq
    simp only [List.length_map] at z hz ⊢
    omega
  exact ⟨.ref h1.objs.size, upd H h1.objs.size (.lst ((out.map SrtO.iv).map V.int)), J1.laid (t' := s.toks) (fun b u e => by
    rw [PyProof.Rows.sortedHeap_old (Nat.ne_of_lt (Heap.lt_size e)) (by rw [Heap.size_push]; exact Nat.lt_succ_of_lt (Heap.lt_size e))]
    exact Heap.get?_push_of_some _ e) (Nat.le_refl _) ⟨hlen, out, ep, vals_of_ints k1, he⟩, rfl, q _ _ k2 k3 (J1.hok.fresh (Nat.le_refl _))⟩
theorem i_sortedIT {K : PySem.W.Frag} {H : Hp} {Q : VK} {a : Addr} {ns : List Int} (h : SqT K H a (ns.map V.int)) (q : ∀ (ms : List Int) p H', ms.Perm ns → ms.Pairwise (· ≤ ·) → H p = none → Same H H' → H' p = some (.lst (ms.map V.int)) → Q (.ref p) H') : rSortedIT K [.ref a] H Q :=
  ⟨a, ns, rfl, h, fun ms p hp hw hn => q ms p _ hp hw hn (same_new hn) upd_same⟩
end Esc

set_option maxHeartbeats 4000000
/-! set(l) of a list of ints. -/
namespace Esc
open PySem PySem.Spec PyProof.Rows L2
/-- a set just made -/
def noS (w : World) : Obj := { cls := .type "set", dict := none, data := .set #[] 0 (.fresh 0 0 (!w.params.followText "set-order")) }
section
variable {P : Program} {w : World} {A : Around} {E : Value → Shared → Prop} {s : Shared}
theorem call_set_li {l : Addr} {items : Array Value} (ns : List Int) {Q : Value → Shared → Prop} (hh : A.handled = none) (hl : s.heap.IsList l items) (hit : IntsAre items.toList ns) (hb : ns.length + 1 < scanBound)
    (h : ∀ (h' : Heap) (tk c : Nat), SetR w h' s.heap.objs.size (fun j => decide (j ∈ ns)) c → c ≤ ns.length → (∀ b o, s.heap.get? b = some o → h'.get? b = some o) → Q (.ref s.heap.objs.size) { s with heap := h', toks := tk }) :
    wpAny (model P w) A (call (.type "set") [.ref l]) Q E s := by
  have sizes : items.size = ns.length := (Array.length_toList (xs := items)).symm.trans (IntsAre.length hit)
  obtain ⟨c, tl, hmro⟩ := F.called_set.mro
  have hmade := F.called_set.made
  have hsub := F.called_set.sub
  refine wpAny_call (codeAny_of_tree ?_); show wpAny _ _ (callAny (.type "set") _) _ _ _
  refine wpAny_pure ⟨Code.quiet_builtin _ (by decide +kernel), (codeAny_builtin PySem.F.entry_type_call ?_ :)⟩
  rw [Around.under_plain (weight_type_call_type "set" [.ref l] ([])) (rfl)]
  have h1 := F.called_set.notType
  have h2 := F.called_set.canCreate
  have hct := F.typeCall_set_1 (.ref l)
  repeat any_goals first | assumption | wp_step
  refine codeAny_mono (code_set_led1 (.ref l) (E := E) (Q₁ := fun x s1 => x = .ref s.heap.objs.size ∧ s1 = { s with heap := s.heap.push (noS w) }) ⟨rfl, rfl⟩) fun r s1 hr => ?_
  cases r with
  | error e => exact hr
  | ok fl =>
    cases fl with
    | ret obj =>
      obtain ⟨rfl, rfl⟩ := hr
      have g0 : (s.heap.push (noS w)).get? s.heap.objs.size = some (noS w) := Heap.get?_push_size _ rfl
      have hT : Shared.TypeIs { s with heap := s.heap.push (noS w) } (.ref s.heap.objs.size) "set" := ⟨_, g0, rfl⟩
      have hli := F.called_set.init.lookup
      have hbi := F.called_set.init.bind (.ref s.heap.objs.size)
      repeat any_goals first | assumption | wp_step
      refine codeAny_mono (codeAny_call_builtin (R := wants (fun r s2 => r = .none ∧ ∃ h' tk c, s2 = { s with heap := h', toks := tk } ∧ SetR w h' s.heap.objs.size (fun j => decide (j ∈ ns)) c ∧ c ≤ ns.length ∧ ∀ b o, s.heap.get? b = some o → h'.get? b = some o) E) F.called_set.init.plain F.entry_set_init (check_set_init_1 hT ?_)) fun r2 s2 hr2 => ?_
      · obtain ⟨⟨ocls, odict, odata, oslots⟩, hol, hcl, nl, hdl⟩ := hl
        simp only at hcl hdl
        subst hcl hdl
        have hol' := Heap.get?_push_of_some (noS w) hol
        have hsls := F.sub_list_set
        have hslf := F.sub_list_frozenset
        have hne : (Value.type "list" == Value.type "dict") = false := by decide
        have hl1 : (s.heap.push (noS w)).IsList l items := ⟨_, hol', rfl, nl, rfl⟩
        unfold Builtin.«set.__init__» noKeywords Builtin.Frozenset.updateFrom
        generalize ePI : pyIter = PI
        wp_walk
        subst ePI
        refine wpAny_pyIter_list hl1 (wpAny_bind (wpAny_runValue ?_))
        have lt : l < s.heap.objs.size := Heap.lt_size hol
        have z1 : (s.heap.push (noS w)).objs.size = s.heap.objs.size + 1 := Heap.size_push ..
        have nI : l ≠ (s.heap.push (noS w)).objs.size := by rw [z1]; exact Nat.ne_of_lt (Nat.lt_succ_of_lt lt)
        have nS : s.heap.objs.size ∉ [(s.heap.push (noS w)).objs.size, l] := fun m => by
          rw [z1] at m
          rcases List.mem_cons.mp m with m | m
          · exact Nat.ne_of_lt (Nat.lt_succ_self _) m
          · exact Nat.ne_of_gt lt (List.mem_singleton.mp m)
        have val : ∀ (i : Nat) (v : Value), items[i]? = some v → ∃ k t, ns[i]? = some k ∧ v = .int k t := fun i v hv => by
          have hi : i < ns.length := sizes ▸ (Array.getElem?_eq_some_iff.mp hv).1
          obtain ⟨t, e⟩ := IntsAre.int_at hit i v ((Array.getElem?_toList (xs := items)).trans hv)
          exact ⟨ns[i], t, List.getElem?_eq_getElem hi, by rw [e, List.getD_eq_getElem?_getD, List.getElem?_eq_getElem hi]; rfl⟩
        refine set_update_ints ((Walks.list (show A.in1.in1.in1.handled = none by simp [hh]) _ l nI items).toS) s.heap.objs.size nS ns sizes hb val (items.size - 0) 0 _ (by omega) (Nat.zero_le _) ⟨⟨_, Heap.get?_push_size _ rfl, rfl, rfl⟩, hl1.push _⟩ ?S0 ?SR
        case S0 => exact ⟨0, Nat.le_refl 0, setR_new_at (Heap.get?_push_of_some _ g0)⟩
        case SR =>
          intro s' c' hm hc' hS'
          obtain ⟨h', g2, d', tk', os'⟩ := s'
          obtain rfl : g2 = s.gens := hm.gens
          obtain rfl : d' = s.drawn := hm.drawn
          obtain rfl : os' = s.os := hm.os
          show wpAny _ _ _ _ _ _
          refine wpAny_pure ?_
          show wpAny _ _ (ret Value.none) _ _ _
          refine wpAny_pure ⟨rfl, h', tk', c', rfl, hS', sizes ▸ hc', fun b o e => ?_⟩
          have b0 : b < s.heap.objs.size := Heap.lt_size e
          refine hm.heap b o (fun m => ?_) (Heap.get?_push_of_some _ (Heap.get?_push_of_some _ e))
          rcases List.mem_cons.mp m with m | m
          · exact Nat.ne_of_lt b0 m
          · rw [z1] at m
            exact Nat.ne_of_lt (Nat.lt_succ_of_lt b0) (List.mem_singleton.mp m)
      · cases r2 with
        | error e => exact hr2
        | ok f2 =>
          cases f2 with
          | ret r =>
            obtain ⟨rfl, h', tk, c', rfl, hS', hc', hk'⟩ := hr2
            repeat any_goals first | assumption | wp_step
            exact h _ _ _ hS' hc' hk'
          | _ => exact hr2.elim
    | _ => exact hr.elim
end
/-- set(l), a list of ints -/
def rSetI (K : PySem.W.Frag) (w : World) : List V → Hp → VK → Prop := fun xs H Q => ∃ (l : Addr) (ns : List Int), xs = [V.ref l] ∧ SqL K H l (ns.map V.int) ∧ ns.length ≤ 1000 ∧ ∀ (p : Addr) (c : Nat), c ≤ ns.length → H p = none → Q (.ref p) (upd H p (SetO w p (fun j => decide (j ∈ ns)) c))
theorem cr_setI {X : Cx} (hc : X.calm = true) : CallR X (.type "set") (rSetI X.K X.w) := by
  intro pn s σ H vs us Q J r h
  obtain ⟨l, ns, rfl, hs, hn, q⟩ := h
  obtain ⟨its, rv, pl, hz⟩ := J.list hs
  rw [Vals.ref1 r]
  refine call_set_li ns (J.ok.hd hc) pl.isList (by simpa using rv.ints) (by unfold scanBound; omega) fun h' tk c R hc' k => ?_
  exact ⟨.ref s.heap.objs.size, upd H s.heap.objs.size (SetO X.w s.heap.objs.size (fun j => decide (j ∈ ns)) c), J.laid (t' := tk) k (Nat.le_refl _) (setO_new R), rfl, q _ c hc' (J.hok.fresh (Nat.le_refl _))⟩
end Esc

/-! More steps: comprehensions over tuples with an invariant, members, sets. -/
namespace Esc
open PySem PySem.Spec PyProof.Rows L2
section
variable {K : PySem.W.Frag} {w : World} {H : Hp} {Q : VK} {xs : List V} {a : Addr} {σ σ0 : L2.St} {g : TG} {tt : TT} {te : TE} {vs : List Nat} {ta : TE}
theorem i_lcTI [w : Wp vs σ σ0] (Pv : Addr → Nat → List V → Hp → Prop) (hx0 : SqT K H a xs) (h0 : ∀ D, H D = none → Pv D 0 [] (upd H D (.lst []))) (hx : ∀ D i acc H', H D = none → Pv D i acc H' → SqT K H' a xs)
    (hs : ∀ D i x acc H', H D = none → xs[i]? = some x → acc.length ≤ i → Pv D i acc H' → g x σ0 H' (kLcB σ0 vs tt te (kN Pv D i) (kY Pv D i)))
    (q : ∀ D acc H', H D = none → Pv D xs.length acc H' → Q (.ref D) H') : kLcT K g tt te vs σ Q (.ref a) H := by
  have w' := w.h
  subst w'
  exact ⟨a, rfl, ⟨xs, hx0⟩, fun D hD => lc_tup (xs := xs) (fun i H' => ∃ acc, acc.length ≤ i ∧ Pv D i acc H') ⟨[], Nat.le_refl _, h0 D hD⟩ (fun i H' _ ⟨acc, _, p⟩ => hx D i acc H' hD p) (fun i x H' hi ⟨acc, hl, p⟩ => hs D i x acc H' hD hi hl p) (fun H' ⟨acc, _, p⟩ => q D acc H' hD p)⟩
theorem inV_int (x : Int) : ∀ ns : List Int, inV (.int x) (ns.map V.int) = decide (x ∈ ns)
  | [] => rfl
  | n :: ns => by
    have ih := inV_int x ns
    unfold inV at ih ⊢
    rw [List.map_cons, List.any_cons, ih, eqV_int]
    by_cases h : n = x
    · subst h
      simp
    · rw [decide_eq_false h, Bool.false_or]
      refine decide_eq_decide.mpr ⟨List.mem_cons_of_mem _, fun m => ?_⟩
      rcases List.mem_cons.mp m with z | z
      · exact absurd z.symm h
      · exact z
theorem i_notInI {x : Int} {ns : List Int} (h : SqL K H a (ns.map V.int)) (q : Q (.bl (!decide (x ∈ ns))) H) : rIn K true (.int x) (.ref a) H Q :=
  ⟨a, _, rfl, .inl h, rfl, flat_ints ns, by rw [inV_int]; exact q⟩
theorem i_inI {x : Int} {ns : List Int} (h : SqL K H a (ns.map V.int)) (q : Q (.bl (decide (x ∈ ns))) H) : rIn K false (.int x) (.ref a) H Q :=
  ⟨a, _, rfl, .inl h, rfl, flat_ints ns, by rw [inV_int]; exact q⟩
def kLenSet (K : PySem.W.Frag) (Q : VK) : VK := fun x H1 => ∃ (l : Addr) (ns : List Int), x = V.ref l ∧ SqL K H1 l (ns.map V.int) ∧ ns.length < 64 ∧ ns.Nodup ∧ Q (.int ns.length) H1
instance : Step (tLenSetI K ta σ H Q) (ta σ H (kLenSet K Q)) := ⟨fun h => h⟩
theorem i_lenSet {ns : List Int} (h : SqL K H a (ns.map V.int)) (hl : ns.length < 64) (hn : ns.Nodup) (q : Q (.int ns.length) H) : kLenSet K Q (.ref a) H := ⟨a, ns, rfl, h, hl, hn, q⟩
theorem i_setI {ns : List Int} (h : SqL K H a (ns.map V.int)) (hl : ns.length ≤ 1000) (q : ∀ p c H', c ≤ ns.length → H p = none → Same H H' → H' p = some (SetO w p (fun j => decide (j ∈ ns)) c) → Q (.ref p) H') : rSetI K w [.ref a] H Q :=
  ⟨a, ns, rfl, h, hl, fun p c hc hp => q p c _ hc hp (same_new hp) upd_same⟩
/-- two rising lists of the same members -/
theorem rise_eq : ∀ {xs ys : List Int}, xs.Pairwise (· < ·) → ys.Pairwise (· < ·) → (∀ k, k ∈ xs ↔ k ∈ ys) → xs = ys
  | [], [], _, _, _ => rfl
  | [], y :: ys, _, _, h => by
    have := (h y).mpr List.mem_cons_self
    cases this
  | x :: xs, [], _, _, h => by
    have := (h x).mp List.mem_cons_self
    cases this
  | x :: xs, y :: ys, hx, hy, h => by
    obtain ⟨x1, x2⟩ := List.pairwise_cons.mp hx
    obtain ⟨y1, y2⟩ := List.pairwise_cons.mp hy
    have e : x = y := by
      rcases List.mem_cons.mp ((h x).mp List.mem_cons_self) with z | z
      · exact z
      · rcases List.mem_cons.mp ((h y).mpr List.mem_cons_self) with u | u
        · exact u.symm
        · have a := y1 x z
          have b := x1 y u
          omega
    subst e
    refine congrArg _ (rise_eq x2 y2 fun k => ⟨fun m => ?_, fun m => ?_⟩)
    · rcases List.mem_cons.mp ((h k).mp (List.mem_cons_of_mem _ m)) with z | z
      · have := x1 k m
        omega
      · exact z
    · rcases List.mem_cons.mp ((h k).mpr (List.mem_cons_of_mem _ m)) with z | z
      · have := y1 k m
        omega
      · exact z
theorem i_sortedSet {ns : List Int} {c : Nat} (h : H a = some (SetO w a (fun j => decide (j ∈ ns)) c)) (hc : c < 64) (hw : ns.Pairwise (· < ·)) (q : ∀ p H', H p = none → Same H H' → H' p = some (.lst (ns.map V.int)) → Q (.ref p) H') : rSortedSet w [.ref a] H Q :=
  ⟨a, _, c, rfl, h, hc, fun ms p hms hmem _ hn => by
    have e : ms = ns := rise_eq hms hw fun k => by rw [hmem k, decide_eq_true_iff]
    rw [e]
    exact q p _ hn (same_new hn) upd_same⟩
theorem PairsAt.mem {as : List Addr} {cs : List (Int × Int)} {b : Addr} (h : PairsAt K H as cs) (m : b ∈ as) : ∃ c ∈ cs, SqT K H b [.int c.1, .int c.2] := by
  obtain ⟨i, hi, e⟩ := List.getElem_of_mem m
  obtain ⟨c, h1, h2⟩ := h.get (by rw [List.getElem?_eq_getElem hi, e])
  exact ⟨c, List.mem_of_getElem? h1, h2⟩
end
theorem ref_get {as : List Addr} {i : Nat} {x : V} (h : (as.map V.ref)[i]? = some x) : ∃ a, as[i]? = some a ∧ x = .ref a := by
  rw [List.getElem?_map] at h
  cases e : as[i]? with
  | none =>
    rw [e] at h
    cases h
  | some a =>
    rw [e] at h
    exact ⟨a, rfl, (Option.some.inj h).symm⟩
end Esc

/-! Comprehensions of two fors: over a list, within over a tuple. -/
namespace Esc
open PySem PySem.Spec PyProof.Rows L2
section
variable {K : PySem.W.Frag} {H : Hp} {Q : VK} {xs : List V} {a : Addr} {σ σ0 : L2.St} {g g1 : TG} {tt tt1 : TT} {te tl ti : TE} {wi1 : TI} {vs vs1 : List Nat} {D : Addr} {Nx : Hp → Prop} {b : Bool}
/-- the inner walk -/
def In2 (g1 : TG) (tt1 : TT) (te : TE) (vs1 : List Nat) (D : Addr) (Nx : Hp → Prop) (σ2 : L2.St) : It → Hp → Prop := fun J1 H4 => ∃ W1 : Nat → Nat → Hp → Prop, (∃ m, W1 0 m H4) ∧ ∀ j k H, W1 j k H →
  (J1.stop j H ∧ Nx H) ∨ (J1.go j H ∧ ∃ Nx1 : Hp → Prop, (∀ H', Nx1 H' → ∃ k', k' < k ∧ W1 (j + 1) k' H') ∧ ∀ x H', J1.yld j H x H' → g1 x (wipe σ2 vs1) H' (kLcB (wipe σ2 vs1) vs1 tt1 te Nx1 fun y H7 => ∃ acc, H7 D = some (.lst acc) ∧ acc.length < sizeLine ∧ Nx1 (upd H7 D (.lst (acc ++ [y])))))
def kLc2 (wi1 : TI) (g1 : TG) (tt1 : TT) (te : TE) (vs1 : List Nat) (D : Addr) (Nx : Hp → Prop) (σ2 : L2.St) : Bool → Hp → Prop := fun b H3 => if b = true then wi1 σ2 H3 (In2 g1 tt1 te vs1 D Nx σ2) else Nx H3
def kLcB2 (σ0 : L2.St) (vs : List Nat) (tt : TT) (wi1 : TI) (g1 : TG) (tt1 : TT) (te : TE) (vs1 : List Nat) (D : Addr) (Nx : Hp → Prop) : L2.St → Hp → Prop := fun σ2 H2 => wipe σ2 vs = σ0 ∧ tt σ2 H2 (kLc2 wi1 g1 tt1 te vs1 D Nx σ2)
def Lc2Loop (J : It) (g : TG) (tt : TT) (wi1 : TI) (g1 : TG) (tt1 : TT) (te : TE) (vs vs1 : List Nat) (σ : L2.St) (Q : VK) (H1 : Hp) : Prop := ∀ D, H1 D = none → ∃ W : Nat → Nat → Hp → Prop, (∃ m, W 0 m (upd H1 D (.lst []))) ∧ ∀ i m H, W i m H →
  (J.stop i H ∧ Q (.ref D) H) ∨ (J.go i H ∧ ∃ Nx : Hp → Prop, (∀ H', Nx H' → ∃ m', m' < m ∧ W (i + 1) m' H') ∧ ∀ x H', J.yld i H x H' → g x (wipe σ vs) H' (kLcB2 (wipe σ vs) vs tt wi1 g1 tt1 te vs1 D Nx))
def kLc2L (K : PySem.W.Frag) (g : TG) (tt : TT) (wi1 : TI) (g1 : TG) (tt1 : TT) (te : TE) (vs vs1 : List Nat) (σ : L2.St) (Q : VK) : VK := fun x H1 => ∃ a, x = .ref a ∧ (∃ xs, SqL K H1 a xs) ∧ Lc2Loop (Itl K a) g tt wi1 g1 tt1 te vs vs1 σ Q H1
def kIn2T (K : PySem.W.Frag) (g1 : TG) (tt1 : TT) (te : TE) (vs1 : List Nat) (D : Addr) (Nx : Hp → Prop) (σ2 : L2.St) : VK := fun y H4 => ∃ b, y = .ref b ∧ (∃ ys, SqT K H4 b ys) ∧ In2 g1 tt1 te vs1 D Nx σ2 (Itt K b) H4
instance : Step (tLc2 (iList K tl) g tt wi1 g1 tt1 te vs vs1 σ H Q) (tl σ H (kLc2L K g tt wi1 g1 tt1 te vs vs1 σ Q)) := ⟨fun h => h⟩
instance {σ2 : L2.St} : Step (kLc2 wi1 g1 tt1 te vs1 D Nx σ2 true H) (wi1 σ2 H (In2 g1 tt1 te vs1 D Nx σ2)) := ⟨fun h => iteT h⟩
instance {σ2 : L2.St} : Step (iTup K ti σ2 H (In2 g1 tt1 te vs1 D Nx σ2)) (ti σ2 H (kIn2T K g1 tt1 te vs1 D Nx σ2)) := ⟨fun h => h⟩
instance {σ2 : L2.St} [w : Wp vs σ2 σ0] : Step (kLcB2 σ0 vs tt wi1 g1 tt1 te vs1 D Nx σ2 H) (tt σ2 H (kLc2 wi1 g1 tt1 te vs1 D Nx σ2)) := ⟨fun h => ⟨w.h, h⟩⟩
def kN2 (Pv : Addr → Nat → List V → Hp → Prop) (D : Addr) (i : Nat) : Hp → Prop := fun H => ∃ acc, Pv D i acc H
theorem i_lc2L [w : Wp vs σ σ0] (Pv : Addr → Nat → List V → Hp → Prop) (hx0 : SqL K H a xs) (h0 : ∀ D, H D = none → Pv D 0 [] (upd H D (.lst []))) (hx : ∀ D i acc H', H D = none → Pv D i acc H' → SqL K H' a xs)
    (hs : ∀ D i x acc H', H D = none → xs[i]? = some x → Pv D i acc H' → g x σ0 H' (kLcB2 σ0 vs tt wi1 g1 tt1 te vs1 D (kN2 Pv D (i + 1))))
    (q : ∀ D acc H', H D = none → Pv D xs.length acc H' → Q (.ref D) H') : kLc2L K g tt wi1 g1 tt1 te vs vs1 σ Q (.ref a) H := by
  have w' := w.h
  subst w'
  refine ⟨a, rfl, ⟨xs, hx0⟩, fun D hD => ⟨fun i m H => m = xs.length - i ∧ i ≤ xs.length ∧ kN2 Pv D i H, ⟨xs.length, by simp, Nat.zero_le _, [], h0 D hD⟩, ?_⟩⟩
  rintro i m H' ⟨rfl, hi, acc, p⟩
  have hq := hx D i acc H' hD p
  by_cases hlt : i < xs.length
  · refine .inr ⟨⟨xs, xs[i], hq, by simp [hlt]⟩, kN2 Pv D (i + 1), fun H2 p2 => ⟨xs.length - (i + 1), by omega, rfl, hlt, p2⟩, fun x H2 y => ?_⟩
    obtain ⟨e, y⟩ := y
    subst e
    exact hs D i x acc _ hD (y xs hq) p
  · have e : i = xs.length := by omega
    subst e
    exact .inl ⟨⟨xs, hq, Nat.le_refl _⟩, q D acc H' hD p⟩
theorem i_in2T {σ2 σ1 : L2.St} {ys : List V} [w : Wp vs1 σ2 σ1] (Pw : Nat → Hp → Prop) (hy0 : SqT K H a ys) (h0 : Pw 0 H) (hy : ∀ j H', Pw j H' → SqT K H' a ys)
    (hs : ∀ j y H', ys[j]? = some y → Pw j H' → g1 y σ1 H' (kLcB σ1 vs1 tt1 te (Pw (j + 1)) fun y H7 => ∃ acc, H7 D = some (.lst acc) ∧ acc.length < sizeLine ∧ Pw (j + 1) (upd H7 D (.lst (acc ++ [y])))))
    (q : ∀ H', Pw ys.length H' → Nx H') : kIn2T K g1 tt1 te vs1 D Nx σ2 (.ref a) H := by
  have w' := w.h
  subst w'
  refine ⟨a, rfl, ⟨ys, hy0⟩, fun j m H => m = ys.length - j ∧ j ≤ ys.length ∧ Pw j H, ⟨ys.length, by simp, Nat.zero_le _, h0⟩, ?_⟩
  rintro j m H' ⟨rfl, hj, p⟩
  have hq := hy j H' p
  by_cases hlt : j < ys.length
  · refine .inr ⟨⟨ys, ys[j], hq, by simp [hlt]⟩, Pw (j + 1), fun H2 p2 => ⟨ys.length - (j + 1), by omega, rfl, hlt, p2⟩, fun x H2 y => ?_⟩
    obtain ⟨e, y⟩ := y
    subst e
    exact hs j x _ (y ys hq) p
  · have e : j = ys.length := by omega
    subst e
    exact .inl ⟨⟨ys, hq, Nat.le_refl _⟩, q H' p⟩
end
end Esc

/-! The frames of bodies, by each sort of way. -/
namespace Esc
open PySem PySem.Spec PyProof.Rows L2
def codesB (cs : List (List Int)) (body : List Int) : List Int := body.flatMap fun x => cs.getD x.toNat []
/-- what stands for x -/
def look (l : List (Int × Int)) (x : Int) : Option Int := (l.find? fun c => decide (c.1 = x)).map (·.2)
def escS (m : Int) (prs : List (Int × Int)) (x : Int) : List Int := match look prs x with
  | some c => [m, c]
  | none => [x]
def escB (m : Int) (prs : List (Int × Int)) (body : List Int) : List Int := body.flatMap (escS m prs)
def stepR (e : Int) (rows : List (List Int)) (x : Int) : List (List Int) := if x = e then rows ++ [[]] else rows.dropLast ++ [rows.getLastD [] ++ [x]]
def rowsB (e : Int) (body : List Int) : List (List Int) := body.foldl (stepR e) [[]]
def groupB (cn : List Int) (w : Nat) (row : List Int) : List Int := if h : 0 < w ∧ w ≤ row.length then cn.getD w 0 :: (row.take w ++ groupB cn w (row.drop w)) else cn.getD row.length 0 :: row
  termination_by row.length
  decreasing_by rw [List.length_drop]; omega
def cntB (t e l : Int) (body : List Int) : List Int :=
  let f := (rowsB e body).flatMap (groupB ((plainL t e).take l.toNat) (l.toNat - 1))
  let last := (rowsB e body).getLastD []
  if last ≠ [] ∧ last.length % (l.toNat - 1) = 0 then f.dropLast else f
/-- the frame of a body within, without its end -/
def rowOf (t e : Int) : Kind → List Int → List Int
  | .codes cs, body => codesB cs body
  | .escapes m prs, body => escB m prs body
  | .counts l, body => cntB t e l body
  | .ranks, body => rowR t e body
theorem codesB_len {cs : List (List Int)} (h : ∀ c ∈ cs, c.length ≤ 4) : ∀ body : List Int, (codesB cs body).length ≤ 4 * body.length
  | [] => Nat.le_refl _
  | x :: r => by
    have ih := codesB_len h r
    unfold codesB at ih ⊢
    rw [List.flatMap_cons, List.length_append, List.length_cons]
    have z : (cs.getD x.toNat []).length ≤ 4 := by
      rw [List.getD_eq_getElem?_getD]
      cases e : cs[x.toNat]? with
      | none => exact Nat.zero_le _
      | some c => exact h c (List.mem_of_getElem? e)
    omega
theorem codesB_snoc (cs : List (List Int)) (body : List Int) (x : Int) : codesB cs (body ++ [x]) = codesB cs body ++ cs.getD x.toNat [] := by
  unfold codesB
  rw [List.flatMap_append, List.flatMap_cons, List.flatMap_nil, List.append_nil]
theorem escB_snoc (m : Int) (prs : List (Int × Int)) (body : List Int) (x : Int) : escB m prs (body ++ [x]) = escB m prs body ++ escS m prs x := by
  unfold escB
  rw [List.flatMap_append, List.flatMap_cons, List.flatMap_nil, List.append_nil]
theorem escB_len (m : Int) (prs : List (Int × Int)) : ∀ body : List Int, (escB m prs body).length ≤ 2 * body.length
  | [] => Nat.le_refl _
  | x :: r => by
    have ih := escB_len m prs r
    unfold escB at ih ⊢
    rw [List.flatMap_cons, List.length_append, List.length_cons]
    have z : (escS m prs x).length ≤ 2 := by
      unfold escS
      split <;> simp
    omega
/-! ### pairs as a dict -/
def kvOf (l : List (Int × Int)) : List (Key × V) := l.map fun c => (Sum.inl c.1, V.int c.2)
theorem kv_val (x : Int) : ∀ l : List (Int × Int), valV (kvOf l) (Sum.inl x) = (look l x).map V.int
  | [] => rfl
  | c :: l => by
    show valV ((Sum.inl c.1, V.int c.2) :: kvOf l) _ = _
    by_cases e : c.1 = x
    · rw [valV_pos (by rw [e])]
      unfold look
      rw [List.find?_cons_of_pos (by simpa using e)]
      rfl
    · rw [valV_neg (fun q => e (Sum.inl.inj q)), kv_val x l]
      unfold look
      rw [List.find?_cons_of_neg (by simpa using e)]
theorem look_none {l : List (Int × Int)} {x : Int} (h : x ∉ l.map (·.1)) : look l x = none := by
  unfold look
  rw [List.find?_eq_none.mpr fun c hc => by
    have : c.1 ≠ x := fun z => h (z ▸ List.mem_map_of_mem hc)
    simpa using this]
  rfl
theorem look_mem {l : List (Int × Int)} (hn : (l.map (·.1)).Nodup) {c : Int × Int} (hc : c ∈ l) : look l c.1 = some c.2 := by
  induction l with
  | nil => cases hc
  | cons a l ih =>
    rw [List.map_cons, List.nodup_cons] at hn
    unfold look at ih ⊢
    rcases List.mem_cons.mp hc with rfl | hc
    · rw [List.find?_cons_of_pos (by simp)]
      rfl
    · have ne : a.1 ≠ c.1 := fun z => hn.1 (z ▸ List.mem_map_of_mem hc)
      rw [List.find?_cons_of_neg (by simpa using ne)]
      exact ih hn.2 hc
theorem look_some {l : List (Int × Int)} {x y : Int} (h : look l x = some y) : (x, y) ∈ l := by
  unfold look at h
  cases e : l.find? fun c => decide (c.1 = x) with
  | none =>
    rw [e] at h
    cases h
  | some c =>
    rw [e] at h
    have z := List.find?_some e
    have m := List.mem_of_find?_eq_some e
    have e1 : c.1 = x := by simpa using z
    have e2 : c.2 = y := Option.some.inj h
    rw [← e1, ← e2]
    exact m
theorem kv_snoc (l : List (Int × Int)) (c : Int × Int) (h : c.1 ∉ l.map (·.1)) : putK (kvOf l) (Sum.inl c.1) (V.int c.2) = kvOf (l ++ [c]) := by
  rw [putK_new _ (by rw [kv_val, look_none h]; rfl)]
  unfold kvOf
  rw [List.map_append]
  rfl
/-! ### dict comprehensions over tuples -/
section
variable {K : PySem.W.Frag} {H : Hp} {g : TG} {tt : TT} {tk tv td : TE} {vs : List Nat} {σ σ0 : L2.St} {Q : VK} {a : Addr} {xs : List V}
def kDcT (K : PySem.W.Frag) (g : TG) (tt : TT) (tk tv : TE) (vs : List Nat) (σ : L2.St) (Q : VK) : VK := fun x H1 => ∃ a, x = .ref a ∧ (∃ xs, SqT K H1 a xs) ∧ DcLoop (Itt K a) g tt tk tv vs σ Q H1
instance : Step (tDc (iTup K td) g tt tk tv vs σ H Q) (td σ H (kDcT K g tt tk tv vs σ Q)) := ⟨fun h => h⟩
theorem i_dcT [w : Wp vs σ σ0] (E : Nat → List (Key × V)) (e0 : E 0 = []) (hx : SqT K H a xs)
    (hs : ∀ D i x H1, H D = none → xs[i]? = some x → Same H H1 → H1 D = some (.dK (E i)) → ∀ Nx : Hp → Prop, (∀ H2, Same H H2 → H2 D = some (.dK (E (i + 1))) → Nx H2) → g x σ0 H1 (kDcB σ0 vs tt tk tv D Nx))
    (q : ∀ p H', H p = none → Same H H' → H' p = some (.dK (E xs.length)) → Q (.ref p) H') : kDcT K g tt tk tv vs σ Q (.ref a) H := by
  have w' := w.h
  subst w'
  refine ⟨a, rfl, ⟨xs, hx⟩, fun D hD => ⟨fun i m H' => m = xs.length - i ∧ i ≤ xs.length ∧ Same H H' ∧ H' D = some (.dK (E i)), ⟨xs.length, by simp, Nat.zero_le _, same_new hD, by rw [e0]; exact upd_same⟩, ?_⟩⟩
  rintro i m H' ⟨rfl, hi, s, e⟩
  have hq := stup s hx
  by_cases hlt : i < xs.length
  · refine .inr ⟨⟨xs, xs[i], hq, by simp [hlt]⟩, fun H2 => Same H H2 ∧ H2 D = some (.dK (E (i + 1))), fun H2 p' => ⟨xs.length - (i + 1), by omega, rfl, hlt, p'⟩, fun x H2 y => ?_⟩
    obtain ⟨e2, y⟩ := y
    subst e2
    exact hs D i x _ hD (y xs hq) s e _ fun H3 s3 e3 => ⟨s3, e3⟩
  · have ei : i = xs.length := by omega
    subst ei
    exact .inl ⟨⟨xs, hq, Nat.le_refl _⟩, q D H' hD s e⟩
end
end Esc

set_option maxHeartbeats 1000000
/-! t.index(n) of a tuple of ints. -/
namespace Esc
open PySem PySem.Spec PyProof.Rows L2
def rTIdx (K : PySem.W.Frag) : V → List V → Hp → VK → Prop := fun x vs H Q => ∃ (p : Addr) (ns : List Int) (k : Int), x = .ref p ∧ vs = [.int k] ∧ SqT K H p (ns.map V.int) ∧ k ∈ ns ∧ Q (.int ((ns.idxOf k : Nat) : Int)) H
theorem mt_tindex {X : Cx} : MtR X "tuple.index" (rTIdx X.K) := by
  intro pn s σ H x vs v us Q J rx rs h
  obtain ⟨p, ns, k, rfl, rfl, hq, hk, q⟩ := h
  cases rx
  obtain ⟨u, rfl, t, rfl⟩ := vals1 rs
  obtain ⟨its, r, ⟨⟨cls, dd, dt, sl⟩, ho, hc, n, hd⟩, hz⟩ := J.tuple hq
  simp only at hc hd
  subst hc hd
  have hi := List.idxOf_lt_length_of_mem hk
  have len : its.length = ns.length := r.length.symm.trans (List.length_map _)
  have hj : ns.idxOf k < its.toArray.size := by
    rw [List.size_toArray, len]
    exact hi
  have place : ∀ (m : Nat) (hm : m < its.toArray.size) (hn : m < ns.length), ∃ t2, its.toArray[m] = Value.int ns[m] t2 := fun m hm hn => by
    obtain ⟨w, hw, t2, e2⟩ := r.get (i := m) (x := .int ns[m]) (by rw [List.getElem?_map, List.getElem?_eq_getElem hn]; rfl)
    obtain ⟨_, e⟩ := List.getElem?_eq_some_iff.mp hw
    exact ⟨t2, by rw [← e2, ← e]; simp⟩
  refine call_meets PySem.F.slot_tuple_index ⟨_, ho, rfl⟩ PySem.F.entry_tuple_index (PySem.F.args_tuple_index_2 _ _) (TI.tuple_indexAt p its.toArray n dd sl (.int k t) (eqU (.int k)) (ns.idxOf k) hj ?_ fun m hm hmj => ?_)
    ⟨ho, fun w hw => mem_eqAt (x := .int k) ⟨t, rfl⟩ rfl r (flat_ints ns) w (by simpa using hw), .int ((ns.idxOf k : Nat) : Int), H, J.tok _, ⟨_, rfl⟩, q⟩
  · obtain ⟨t2, e⟩ := place _ hj hi
    rw [e, List.getElem_idxOf hi]
    show (k == k) = true
    exact beq_self_eq_true k
  · have hn : m < ns.length := by omega
    obtain ⟨t2, e⟩ := place m hm hn
    rw [e]
    show (ns[m] == k) = false
    simpa using List.not_of_lt_findIdx (p := fun y => y == k) hmj
section
variable {K : PySem.W.Frag} {H : Hp} {Q : VK} {p : Addr} {ns : List Int} {k : Int} {σ : L2.St} {tr : TA}
theorem i_tidx (h : SqT K H p (ns.map V.int)) (hk : k ∈ ns) (q : Q (.int ((ns.idxOf k : Nat) : Int)) H) : rTIdx K (.ref p) [.int k] H Q := ⟨p, ns, k, rfl, rfl, h, hk, q⟩
/-- t.m(..) of a tuple of which the object is known -/
def tBMD (r : V → List V → Hp → VK → Prop) (to : TE) (t : TA) : TE := fun σ H Q => to σ H fun x H1 => (∃ a xs, x = .ref a ∧ TupD H1 a xs) ∧ t σ H1 fun vs H2 => r x vs H2 Q
def kBMD (r : V → List V → Hp → VK → Prop) (t : TA) (Q : VK) (σ : L2.St) : VK := fun x H1 => (∃ a xs, x = .ref a ∧ TupD H1 a xs) ∧ t σ H1 (kRv Q x r)
instance {r : V → List V → Hp → VK → Prop} {to : TE} {t : TA} : Step (tBMD r to t σ H Q) (to σ H (kBMD r t Q σ)) := ⟨fun h => h⟩
theorem i_bmD {xs : List V} {r : V → List V → Hp → VK → Prop} (h : TupD H p xs) (q : tr σ H (kRv Q (.ref p) r)) : kBMD r tr Q σ (.ref p) H := ⟨⟨p, xs, rfl, h⟩, q⟩
end
section
variable {X : Cx} {o e : Expr} {es : List Expr} {to : TE} {t : TA} {name : Str} {apos cpos : Pos} {id : String} {r : V → List V → Hp → VK → Prop}
theorem pe_bmD (pa : PlainAttrs "tuple") (slot : Slot "tuple" name id) (hty : typeOf (.builtin id) = pure (.type "method_descriptor")) (hm : MtR X id r) (ho : PE X o to) (ha : PA X (e :: es) t) (hb : attributeBase o name X.env (eval o X.env) = eval o X.env := by rfl)
    (hf : ((backTo cpos (starEach (e :: es) X.env)).all (fun x => !x.1) && (backToKw cpos (keywordEach [] X.env)).all (fun x => x.1.isSome) && decide ((e :: es).length + ([] : List Keyword).length + (if ([] : List Keyword).isEmpty then 0 else 1) < 30)) = true := by rfl)
    (hl : (apos.endLine == cpos.line) = true := by rfl) (hs : starEach (e :: es) X.env = (false, eval e X.env) :: starEach es X.env := by rfl) (hp : (backTo cpos (starEach es X.env)).any (·.1) = false := by rfl) : PE X (.Call (.Attribute o name apos) (e :: es) [] cpos) (tBMD r to t) := by
  refine ⟨fun pn s σ H Q J h => wpAny_Call_method_late hb hf hl rfl (thn (ho.run pn s σ H _ J h) fun v s1 ⟨x, H1, J1, r1, ⟨a, xs, ex, ob, nd, eb⟩, q1⟩ => ?_)⟩
  subst ex
  cases r1
  have hob := (J1.hok a _ eb).1
  refine ⟨"tuple", id, pa, slot, hty, ⟨_, hob, nd.1⟩, fun b z => ?_, ?_⟩
  · cases z
    exact ⟨_, hob, nd.2⟩
  · have hA := ha.run cpos pn s1 σ H1 _ J1 q1
    rw [hs] at hA ⊢
    refine Calls.callWith_builtin (by show (false || (backTo cpos (starEach es X.env)).any (·.1)) = false; rw [hp]; rfl) (Calls.evalArgs_plain (thn hA fun us s2 ⟨vs, H2, J2, r2, q2⟩ => ?_))
    exact hm pn s2 σ H2 (.ref a) vs (.ref a) us Q J2 rfl r2 q2
end
end Esc

set_option maxHeartbeats 4000000
/-! Dict comprehensions of which the keys are tuples. -/
namespace Esc
open PySem PySem.Spec PyProof.Rows L2
abbrev kvT (k : List Key) : List V := k.map kV
/-- d[t] = v by a comprehension -/
theorem dt_set {X : Cx} {pn : List (Addr × Obj)} {σ : L2.St} {H : Hp} {s : Shared} {E : Value → Shared → Prop} {D c : Addr} {kvs : List (List Key × V)} {k : List Key} {v : V} {r : Value} {Q : Unit → Shared → Prop} (hu : X.A.units + 1 < cLine) (J : Inv X pn σ H s) (e : H D = some (.dT kvs)) (eb : H c = some (.tup (k.map kV))) (l : kvs.length < sizeLine) (rv : RelV v r)
    (h : ∀ s', Inv X pn σ (upd H D (.dT (putK kvs k v))) s' → Q () s') : wpAny (model X.prog X.w) X.A (dictSet D (.ref c) r) Q E s := by
  obtain ⟨z, hd, xs, rel, dd⟩ := dt_of J.hok e
  have hz : xs.length ≤ sizeLine := Nat.le_trans (Nat.le_of_eq (Paired.length rel).symm) z
  have hl : (putK kvs k v).length ≤ sizeLine := Nat.le_trans (length_putK kvs k v) l
  refine wpAny_dictSet_heap (hsz := hz) (show (tupleKind (mixKind X.prog X.w)).room X.A from Nat.lt_of_succ_lt hu) (key_of J.hok eb) dd fun h' ⟨q, es, ep, hq, h2, h3, h4, _, h5⟩ hs => h _ ?_
  exact d_write J (by rw [e]; trivial) hs ⟨q, hq⟩ ⟨hl, hd, _, (rel.put k eb rv).keeps fun c ys ec => (upd_ne (ne_of ec e (fun z => nomatch z))).trans ec, q, es, ep, hq, h2, h3, h4, h5⟩
def kDT (tk tv : TE) (D : Addr) (Nx : Hp → Prop) (σ2 : L2.St) : Bool → Hp → Prop := fun b H3 => if b = true then tk σ2 H3 fun y H4 => tv σ2 H4 fun z H5 => ∃ kvs k c, y = .ref c ∧ H5 c = some (.tup (kvT k)) ∧ H5 D = some (.dT kvs) ∧ kvs.length < sizeLine ∧ Nx (upd H5 D (.dT (putK kvs k z))) else Nx H3
def kDTB (σ0 : L2.St) (vs : List Nat) (tt : TT) (tk tv : TE) (D : Addr) (Nx : Hp → Prop) : L2.St → Hp → Prop := fun σ2 H2 => wipe σ2 vs = σ0 ∧ tt σ2 H2 (kDT tk tv D Nx σ2)
def DtLoop (J : It) (g : TG) (tt : TT) (tk tv : TE) (vs : List Nat) (σ : L2.St) (Q : VK) (H1 : Hp) : Prop := ∀ D, H1 D = none → ∃ W : Nat → Nat → Hp → Prop, (∃ m, W 0 m (upd H1 D (.dT []))) ∧ ∀ i m H, W i m H →
  (J.stop i H ∧ Q (.ref D) H) ∨ (J.go i H ∧ ∃ Nx : Hp → Prop, (∀ H', Nx H' → ∃ m', m' < m ∧ W (i + 1) m' H') ∧ ∀ x H', J.yld i H x H' → g x (wipe σ vs) H' (kDTB (wipe σ vs) vs tt tk tv D Nx))
/-- {k: v for ..}, the keys tuples of ints and texts -/
def tDt (wi : TI) (g : TG) (tt : TT) (tk tv : TE) (vs : List Nat) : TE := fun σ H Q => wi σ H fun J H1 => DtLoop J g tt tk tv vs σ Q H1
section
variable {X : Cx}
theorem dt_core {pn : List (Addr × Obj)} {s : Shared} {σ : L2.St} {H : Hp} {Q : VK} {kx vx tg it : Expr} {ifs : List Expr} {sc : Scope} {own : List (Str × Nat)} {p p2 : Pos} {wi : TI} {g : TG} {tt : TT} {tk tv : TE} {use : Option (Value → Sem Unit)} {Qf : Value → Shared → Prop}
    (hu : X.A.units + 1 < cLine) (hc : X.calm = true) (hN : X.N.Nodup) (J : Inv X pn σ H s) (hi : PI X tg it wi) (ok : BlkOk X.N X.env.scope sc own)
    (hg : ∀ (s : Shared) (H : Hp) (C : Addr) (cl : List (Str × Addr)) (fp : List Addr), PG (X.blk s H sc (compEnvC sc cl C X.env) fp) tg g) (ht : ∀ (s : Shared) (H : Hp) (C : Addr) (cl : List (Str × Addr)) (fp : List Addr), PTs (X.blk s H sc (compEnvC sc cl C X.env) fp) ifs tt)
    (hk : ∀ (s : Shared) (H : Hp) (C : Addr) (cl : List (Str × Addr)) (fp : List Addr), PE (X.blk s H sc (compEnvC sc cl C X.env) fp) kx tk)
    (hv : ∀ (s : Shared) (H : Hp) (C : Addr) (cl : List (Str × Addr)) (fp : List Addr), PE (X.blk s H sc (compEnvC sc cl C X.env) fp) vx tv) (hs : ∀ x, foldedSetIterable it X.env x = pure x)
    (h : tDt wi g tt tk tv (own.map (·.2)) σ H Q) (hR : ∀ D C s' m H', Inv X pn σ H' s' → Q (.ref D) H' → s'.heap.Ns C m → FpOk X pn H' C → compPost (model X.prog X.w) X.A X.xe use Qf (.ref D) C (.ok .next) s') :
    wpAny (model X.prog X.w) X.A (comprehension (.DictComp kx vx [⟨tg, it, ifs, 0⟩] sc p) sc X.env p2 newDict false (eval it X.env) use) Qf X.xe s := by
  have fr : ∀ y ∈ sc.names, y.2 = .free → ∃ c, X.env.cells.lookup y.1 = some c := fun y hy e => (ok.free y hy e).elim (fun k => J.ok.has _ (.inl k)) fun k => J.ok.has _ (.inr k)
  refine wpAny_comprehension_free (use := use) rfl hs (closure_ok fr) ok.kind (fun y hy e => by rw [ok.uniq y hy, e]) (thn (hi.run pn s σ H _ J h) fun xv s1 hx => thn hx fun itv s2 ⟨ia, fp, tn, Jt, H2, e, J2, T, st2, f2, q⟩ => ?_)
  subst e
  refine wpAny_newObj_type (newEnv_comp ?_)
  generalize eD : s2.heap.objs.size = D
  obtain ⟨W, ⟨m0, w0⟩, turn⟩ := q D (J2.hok.fresh (Nat.le_of_eq eD))
  generalize e3 : ({ s2 with heap := s2.heap.push { cls := .type "dict", data := .dict #[] } } : Shared) = s3
  have h3 : s3.heap = s2.heap.push { cls := .type "dict", data := .dict #[] } := by rw [← e3]
  have J3 : Inv X pn σ (upd H2 D (.dT [])) s3 := by
    rw [← e3]
    exact J2.laid (t' := s2.toks) (fun b o e => Heap.get?_push_of_some _ e) (Nat.le_of_eq eD) (by rw [← eD]; exact dt_empty s2.heap J2.big)
  have f3 : ∀ b ∈ fp, FpOk X pn (upd H2 D (.dT [])) b ∧ b < s3.heap.objs.size := fun b hb => by
    obtain ⟨o, eo, _⟩ := T.obj _ _ st2 b hb
    have lt : b < s2.heap.objs.size := Heap.lt_size eo
    exact ⟨⟨(upd_ne (by rw [← eD]; exact Nat.ne_of_lt lt)).trans (f2 b hb).1, (f2 b hb).2⟩, by rw [h3, Heap.size_push]; exact Nat.lt_succ_of_lt lt⟩
  have st3 : tn 0 s3.heap := T.keep _ _ _ st2 fun b _ o e => by rw [h3]; exact Heap.get?_push_of_some _ e
  have J4 := block_start J3 ok hN f3
  let cl := cellsFrom (s3.heap.objs.size + 1) sc.names (cloFrom X.env.cells sc.names [])
  have pg := hg s3 (upd H2 D (.dT [])) s3.heap.objs.size cl fp
  have pt := ht s3 (upd H2 D (.dT [])) s3.heap.objs.size cl fp
  have pk := hk s3 (upd H2 D (.dT [])) s3.heap.objs.size cl fp
  have pv := hv s3 (upd H2 D (.dT [])) s3.heap.objs.size cl fp
  show codeAny _ _ (.compStart (.DictComp kx vx [⟨tg, it, ifs, 0⟩] sc p) 0 (.ref ia) (.ref D) (compEnvC sc cl s3.heap.objs.size X.env)) (compPost (model X.prog X.w) X.A X.xe use Qf (.ref D) s3.heap.objs.size) { s3 with heap := pushCells (s3.heap.push { cls := .type "dict", data := .dict #[] }) sc.names }
  have nfp : ∀ b ∈ fp, (upd H2 D (.dT [])) b = none := fun b hb => (f3 b hb).1.1
  generalize ece : compEnvC sc cl s3.heap.objs.size X.env = ce at J4 pg pt pk pv ⊢
  have cL : ce.locals = s3.heap.objs.size := ece ▸ rfl
  generalize eH3 : upd H2 D (.dT []) = H3 at J3 J4 pg pt pk pv w0 nfp f3
  generalize e4 : ({ s3 with heap := pushCells (s3.heap.push { cls := .type "dict", data := .dict #[] }) sc.names } : Shared) = s4 at J4 ⊢
  have st4 : tn 0 s4.heap := T.keep _ _ _ st3 fun b _ o e => by rw [← e4]; exact pushCells_keeps _ _ _ _ (Heap.get?_push_of_some _ e)
  have stat : ∀ {σ' : L2.St} {H' : Hp} {s' : Shared}, Inv (X.blk s3 H3 sc ce fp) [] σ' H' s' → (∀ b ∈ fp, H' b = none) → ∀ b ∈ fp, FpOk (X.blk s3 H3 sc ce fp) [] H' b := fun I' hn b hb => ⟨hn b hb, (I'.ok.exf b hb).1, I'.ok.exfs b hb, .inl hb, fun x c e => (I'.ok.exf b hb).2 x c e, fun p hp => by cases hp⟩
  have walk : codeAny (model X.prog X.w) X.A (.compLoop (.DictComp kx vx [⟨tg, it, ifs, 0⟩] sc p) 0 (.ref ia) (.ref D) ce) (compPost (model X.prog X.w) X.A X.xe use Qf (.ref D) s3.heap.objs.size) s4 := by
    refine compLoop_anyD (fun n s' => ∃ i H', Inv (X.blk s3 H3 sc ce fp) [] (wipe σ (own.map (·.2))) H' s' ∧ tn i s'.heap ∧ (∀ b ∈ fp, H' b = none) ∧ W i n H') (fun n s5 ⟨i, H5, J5, st5, n5, w5⟩ => ?_) m0 ⟨0, H3, J4, st4, nfp, w0⟩
    rcases turn i n H5 w5 with ⟨stop, qq⟩ | ⟨go, Nx, hNx, step⟩
    · refine thnF (T.done (X.blk s3 H3 sc ce fp) rfl rfl rfl hc i [] s5 _ H5 (fun _ _ => False) J5 (stat J5 n5) st5 stop) fun r s6 ⟨er, J6⟩ => ?_
      subst er
      have J7 : Inv X pn σ H5 s6 := J3.call' (ch := fp) J6.os J6.base J6.hok J6.bare fun b hb => let z := (f3 b hb).1.2; ⟨z.2.2.1, z.1, z.2.2.2.1, z.2.2.2.2⟩
      have nC : H5 s3.heap.objs.size = none := cL ▸ (show H5 ce.locals = none from J6.free)
      obtain ⟨m, hn, _⟩ := J6.loc
      exact hR D s3.heap.objs.size s6 m H5 J7 qq (cL ▸ (show s6.heap.Ns ce.locals m from hn)) (J3.fpOk (Nat.le_refl _) nC)
    · refine thnF (T.item (X.blk s3 H3 sc ce fp) rfl rfl rfl hc i [] s5 _ H5 (fun _ _ => False) J5 (stat J5 n5) st5 go) fun r s6 ⟨u, er, h6⟩ => ?_
      subst er
      refine thnF h6 fun _ s7 ⟨x, H7, J7, r7, y7, st7, n7⟩ => ?_
      refine thnF (pg.run _ s7 _ H7 x u _ (J7.pinned (stat J7 n7) (T.obj _ _ st7)) r7 (step x H7 y7)) fun _ s8 ⟨σ8, H8, J8, w8, q8⟩ => thnF (pt.run _ s8 σ8 H8 _ J8 q8) fun b s9 ⟨H9, J9, q9⟩ => ?_
      have fin : ∀ {s' : Shared} {H' : Hp}, Inv (X.blk s3 H3 sc ce fp) ([] ++ pinsAt fp s7.heap) σ8 H' s' → Nx H' → ∃ m, m < n ∧ ∃ i H', Inv (X.blk s3 H3 sc ce fp) [] (wipe σ (own.map (·.2))) H' s' ∧ tn i s'.heap ∧ (∀ b ∈ fp, H' b = none) ∧ W i m H' := fun {s' H'} J' nx => by
        obtain ⟨m2, hm, w2⟩ := hNx H' nx
        have pin : ∀ b ∈ fp, ∀ o, s7.heap.get? b = some o → s'.heap.get? b = some o ∧ H' b = none := fun b hb o e => ⟨(J'.pin (b, o) (List.mem_append_right _ (List.mem_append_right _ (mem_pinsAt hb e)))).1, (J'.pin (b, o) (List.mem_append_right _ (List.mem_append_right _ (mem_pinsAt hb e)))).2.1⟩
        exact ⟨m2, hm, i + 1, H', (J'.unpinned (pins := [])).weak (by rw [← w8, wipe_length]) (fun j v e => (wipe_some (w8 ▸ e)).1), T.keep _ _ _ st7 fun b hb o e => (pin b hb o e).1, fun b hb => let ⟨o, e, _⟩ := T.obj _ _ st7 b hb; (pin b hb o e).2, w2⟩
      unfold kDT at q9
      cases b with
      | false =>
        rw [if_neg Bool.false_ne_true] at q9
        rw [if_neg Bool.false_ne_true]; exact fin J9 q9
      | true =>
        rw [if_pos rfl] at q9
        rw [if_pos rfl]; refine thnF (pk.run _ s9 σ8 H9 _ J9 q9) fun z s10 ⟨yk, H10, J10, r10, q10⟩ => thnF (pv.run _ s10 σ8 H10 _ J10 q10) fun z2 s11 ⟨yv, H11, J11, r11, kvs, k, c, ek, hc11, hD11, hz11, nx⟩ => ?_
        subst ek
        cases r10
        exact dt_set (X := X.blk s3 H3 sc ce fp) hu J11 hD11 hc11 hz11 r11 fun s12 J12 => fin J12 nx
  exact codeAny_compStart_dict walk (T.self X.A 0 _ _ _ st4 walk)
theorem ps_setDt {i : Nat} {y : Str} {py : Pos} {kx vx tg it : Expr} {ifs : List Expr} {sc : Scope} {own : List (Str × Nat)} {p sp : Pos} {wi : TI} {g : TG} {tt : TT} {tk tv : TE} (hu : X.A.units + 1 < cLine) (hc : X.calm = true) (hN : X.N.Nodup) (hy : X.N[i]? = some y) (hl : X.env.scope.names.lookup y = some .local)
    (hw : swapsWith (.DictComp kx vx [⟨tg, it, ifs, 0⟩] sc p) (some (.Name y py)) sp.line X.env = pure true) (hi : PI X tg it wi) (ok : BlkOk X.N X.env.scope sc own)
    (hg : ∀ (s : Shared) (H : Hp) (C : Addr) (cl : List (Str × Addr)) (fp : List Addr), PG (X.blk s H sc (compEnvC sc cl C X.env) fp) tg g) (ht : ∀ (s : Shared) (H : Hp) (C : Addr) (cl : List (Str × Addr)) (fp : List Addr), PTs (X.blk s H sc (compEnvC sc cl C X.env) fp) ifs tt)
    (hk : ∀ (s : Shared) (H : Hp) (C : Addr) (cl : List (Str × Addr)) (fp : List Addr), PE (X.blk s H sc (compEnvC sc cl C X.env) fp) kx tk)
    (hv : ∀ (s : Shared) (H : Hp) (C : Addr) (cl : List (Str × Addr)) (fp : List Addr), PE (X.blk s H sc (compEnvC sc cl C X.env) fp) vx tv) (hs : ∀ x, foldedSetIterable it X.env x = pure x := by intro _; rfl) :
    PS X (.Assign [.Name y py] (.DictComp kx vx [⟨tg, it, ifs, 0⟩] sc p) sp) (tAsg (tDt wi g tt tk tv (own.map (·.2))) (gName i)) := by
  refine ⟨fun pn s σ H D J q => ?_⟩
  rw [exec_Assign_Name_used _ _ _ _ hw]
  refine wpAny_bind (wpAny_standAt (wpAny_bind ?_))
  show wpAny _ X.A (do let _ ← comprehension (.DictComp kx vx [⟨tg, it, ifs, 0⟩] sc p) sc X.env (firstIterPos [⟨tg, it, ifs, 0⟩] p) newDict false (eval it X.env) (some (assign (.Name y py) X.env))) _ _ s
  have q0 : tDt wi g tt tk tv (own.map (·.2)) σ H (fun x H1 => gName i x σ H1 D.nx) := q
  refine wpAny_bind (thn (dt_core (Qf := fun _ z => SP X pn D .next z) hu hc hN J hi ok hg ht hk hv hs q0 fun L C z m H' J' q1 nC f => ?_) fun _ z hz => wpAny_pure (wpAny_pure hz))
  show wpAny _ _ (assign (.Name y py) X.env (.ref L)) _ _ _
  refine wpAny_assign_Name (store_ok2 (v := V.ref L) J' hN hy (.inl hl) rfl (fun z2 J2 ⟨a, sb, ha⟩ => ?_) (.inr hl))
  obtain ⟨a0, a1, a2, a3, a4, a5⟩ := f
  have nCa : C ≠ a := by
    rcases ha with e | e
    · rw [e]; exact a1
    · exact fun e' => a4 y a e e'.symm
  refine ⟨m, nC.sameBut sb nCa, fun h3 sb3 => ?_⟩
  exact ⟨_, H', J2.turned (t' := z2.toks) (fun b o hb e => (sb3.2 b hb).trans e) a0 a1 a3 a4 a5, q1⟩
end
section
variable {K : PySem.W.Frag} {H : Hp} {g : TG} {tt : TT} {tk tv : TE} {ta : TA} {vs : List Nat} {σ σ0 σ2 : L2.St} {Q : VK} {a D : Addr} {xs : List V} {Nx : Hp → Prop} {y z : V}
def kDtE (K : PySem.W.Frag) (g : TG) (tt : TT) (tk tv : TE) (vs : List Nat) (σ : L2.St) (Q : VK) : List V → Hp → Prop := fun us H1 => ∃ a xs, us = [.ref a] ∧ SqT K H1 a xs ∧ DtLoop (IteT K a) g tt tk tv vs σ Q H1
def kDT1 (tv : TE) (D : Addr) (Nx : Hp → Prop) (σ2 : L2.St) : VK := fun y H4 => tv σ2 H4 fun z H5 => ∃ kvs k c, y = .ref c ∧ H5 c = some (.tup (kvT k)) ∧ H5 D = some (.dT kvs) ∧ kvs.length < sizeLine ∧ Nx (upd H5 D (.dT (putK kvs k z)))
def kDT2 (D : Addr) (Nx : Hp → Prop) (y : V) : VK := fun z H5 => ∃ kvs k c, y = .ref c ∧ H5 c = some (.tup (kvT k)) ∧ H5 D = some (.dT kvs) ∧ kvs.length < sizeLine ∧ Nx (upd H5 D (.dT (putK kvs k z)))
instance : Step (tDt (iEnT K ta) g tt tk tv vs σ H Q) (ta σ H (kDtE K g tt tk tv vs σ Q)) := ⟨fun h => h⟩
instance [w : Wp vs σ2 σ0] : Step (kDTB σ0 vs tt tk tv D Nx σ2 H) (tt σ2 H (kDT tk tv D Nx σ2)) := ⟨fun h => ⟨w.h, h⟩⟩
instance : Step (kDT tk tv D Nx σ2 true H) (tk σ2 H (kDT1 tv D Nx σ2)) := ⟨fun h => iteT h⟩
instance : Step (kDT1 tv D Nx σ2 y H) (tv σ2 H (kDT2 D Nx y)) := ⟨fun h => h⟩
theorem i_dtE [w : Wp vs σ σ0] (E : Nat → List (List Key × V)) (e0 : E 0 = []) (hx : SqT K H a xs)
    (hs : ∀ D i x T H1, H D = none → xs[i]? = some x → Same H H1 → H1 D = some (.dT (E i)) → H1 T = some (.tup [.int (i : Nat), x]) → T ≠ D → ∀ Nx : Hp → Prop, (∀ H2, Same H H2 → H2 D = some (.dT (E (i + 1))) → Nx H2) → g (.ref T) σ0 H1 (kDTB σ0 vs tt tk tv D Nx))
    (q : ∀ p H', H p = none → Same H H' → H' p = some (.dT (E xs.length)) → Q (.ref p) H') : kDtE K g tt tk tv vs σ Q [.ref a] H := by
  have w' := w.h
  subst w'
  refine ⟨a, xs, rfl, hx, fun D hD => ⟨fun i m H' => m = xs.length - i ∧ i ≤ xs.length ∧ Same H H' ∧ H' D = some (.dT (E i)), ⟨xs.length, by simp, Nat.zero_le _, same_new hD, by rw [e0]; exact upd_same⟩, ?_⟩⟩
  rintro i m H' ⟨rfl, hi, s, e⟩
  have hq := stup s hx
  by_cases hlt : i < xs.length
  · refine .inr ⟨⟨xs, xs[i], hq, by simp [hlt]⟩, fun H2 => Same H H2 ∧ H2 D = some (.dT (E (i + 1))), fun H2 p' => ⟨xs.length - (i + 1), by omega, rfl, hlt, p'⟩, fun x H2 y => ?_⟩
    obtain ⟨T, x, rfl, nT, rfl, y⟩ := y
    have nTD : T ≠ D := (ne_of_none e nT).symm
    exact hs D i x T _ hD (y xs hq) (s.trans (same_new nT)) (by rw [upd_ne nTD.symm]; exact e) upd_same nTD _ fun H2 s2 e2 => ⟨s2, e2⟩
  · have ei : i = xs.length := by omega
    subst ei
    exact .inl ⟨⟨xs, hq, rfl⟩, q D H' hD s e⟩
end
end Esc

/-! Dicts: d.get(k, x), d[k] = v. -/
namespace Esc
open PySem PySem.Spec PyProof.Rows L2
def kGetA (Q : VK) (σ : L2.St) (ty tx : TE) : VK := fun x H1 => ∃ a, x = .ref a ∧ IsD H1 a ∧ ty σ H1 fun y H2 => tx σ H2 fun z H3 => ∃ o, DGet H3 a y o ∧ Q (o.getD z) H3
def kGetB (Q : VK) (σ : L2.St) (tx : TE) (a : Addr) : VK := fun y H2 => tx σ H2 fun z H3 => ∃ o, DGet H3 a y o ∧ Q (o.getD z) H3
def kGetC (Q : VK) (a : Addr) (y : V) : VK := fun z H3 => ∃ o, DGet H3 a y o ∧ Q (o.getD z) H3
def kPutA (nx : L2.St → Hp → Prop) (σ : L2.St) (td ty : TE) : VK := fun v H1 => td σ H1 fun x H2 => ty σ H2 fun y H3 => ∃ a H4, x = .ref a ∧ DPut H3 a y v H4 ∧ nx σ H4
def kPutB (nx : L2.St → Hp → Prop) (σ : L2.St) (ty : TE) (v : V) : VK := fun x H2 => ty σ H2 fun y H3 => ∃ a H4, x = .ref a ∧ DPut H3 a y v H4 ∧ nx σ H4
def kPutC (nx : L2.St → Hp → Prop) (σ : L2.St) (v x : V) : VK := fun y H3 => ∃ a H4, x = .ref a ∧ DPut H3 a y v H4 ∧ nx σ H4
section
variable {Q : VK} {σ : L2.St} {td ty tx tv : TE} {H : Hp} {nx : L2.St → Hp → Prop} {rt : VK} {bk ct : L2.St → Hp → Prop} {x y z v : V} {a : Addr}
instance : Step (tDGet2 td ty tx σ H Q) (td σ H (kGetA Q σ ty tx)) := ⟨fun h => h⟩
instance : Step (kGetB Q σ tx a y H) (tx σ H (kGetC Q a y)) := ⟨fun h => h⟩
instance : Step (sDPut td ty tv ⟨nx, rt, bk, ct⟩ σ H) (tv σ H (kPutA nx σ td ty)) := ⟨fun h => h⟩
instance : Step (kPutA nx σ td ty v H) (td σ H (kPutB nx σ ty v)) := ⟨fun h => h⟩
instance : Step (kPutB nx σ ty v x H) (ty σ H (kPutC nx σ v x)) := ⟨fun h => h⟩
theorem i_getA (d : IsD H a) (q : ty σ H (kGetB Q σ tx a)) : kGetA Q σ ty tx (.ref a) H := ⟨a, rfl, d, q⟩
theorem i_getC {o : Option V} (g : DGet H a y o) (q : Q (o.getD z) H) : kGetC Q a y z H := ⟨o, g, q⟩
theorem isD_T {kvs : List (List Key × V)} (h : H a = some (.dT kvs)) : IsD H a := .inr ⟨kvs, .inl h⟩
theorem isD_K {kvs : List (Key × V)} (h : H a = some (.dK kvs)) : IsD H a := .inl ⟨kvs, .inl h⟩
theorem i_putT {kvs : List (List Key × V)} {k : List Key} {b : Addr} (h : H a = some (.dT kvs)) (hb : H b = some (.tup (k.map kV))) (hl : kvs.length < sizeLine) (q : nx σ (upd H a (.dT (putK kvs k v)))) : kPutC nx σ v (.ref a) (.ref b) H := ⟨a, _, rfl, .t h hb hl, q⟩
theorem i_putK {kvs : List (Key × V)} {k : Key} (h : H a = some (.dK kvs)) (hl : kvs.length < sizeLine) (q : nx σ (upd H a (.dK (putK kvs k v)))) : kPutC nx σ v (.ref a) (kV k) H := ⟨a, _, rfl, .k h hl, q⟩
theorem i_newT {Q : VK} (q : ∀ p H', H p = none → Same H H' → H' p = some (.dT []) → Q (.ref p) H') : tDNewT σ H Q := fun p hp => q p _ hp (same_new hp) upd_same
theorem i_newK {Q : VK} (q : ∀ p H', H p = none → Same H H' → H' p = some (.dK []) → Q (.ref p) H') : tDNewK σ H Q := fun p hp => q p _ hp (same_new hp) upd_same
end
/-! ### lists of ints as keys, addresses as values -/
def ks (c : List Int) : List Key := c.map Sum.inl
theorem ks_kv (c : List Int) : kvT (ks c) = c.map V.int := by
  unfold kvT ks
  rw [List.map_map]
  rfl
theorem ks_kV (c : List Int) : (ks c).map kV = c.map V.int := by
  unfold ks
  rw [List.map_map]
  rfl
theorem ks_inj {c d : List Int} (h : ks c = ks d) : c = d := (List.map_inj_right fun _ _ z => Sum.inl.inj z).mp h
end Esc

/-! Objects: attributes, methods, making. -/
namespace Esc
open PySem PySem.Spec PyProof.Rows L2
/-- a class of the program: what the walk asks of it -/
structure Clx (K : PySem.W.Frag) (mg : Str → Option Value) (x : Str) (C : Addr) (attrs : List Str) : Prop where
  cl : Cls K C
  mgC : mg x = some (.ref C)
  mkc : PySem.W.makesIn K C = true
  kc : PySem.W.keepIn K (.ref C) = true
  na : ∀ f ∈ attrs, NoAttr K C f
/-- a method of it -/
structure Dm (K : PySem.W.Frag) (C : Addr) (m qual : Str) (st : Stmt) (ps : List Str) : Prop where
  ex : ∃ f fd, Meth K C m f ∧ C8.Fun K m qual st f fd ∧ Binds K fd ps []
section
variable {P : Program} {w : World} {K : PySem.W.Frag} {mg : Str → Option Value} {base : Heap}
theorem Dm.met {C : Addr} {x m qual : Str} {attrs : List Str} {st : Stmt} {N ps : List Str} {k : Nat} {sp : Sp} (d : Dm K C m qual st ps) (T : Clx K mg x C attrs) (S : FnScope N ps (C8.fnScope st)) (len : ∀ vs H Q E, sp vs H Q E → vs.length = ps.length)
    (hbody : ∀ (f : Addr) (cdv : Value) (A : Around) (outer : List Env) (s : Shared) (H : Hp) (vs : List V) (Q : VK) (E : XK), Room k (A.deeper (envOfC qual (C8.fnScope st) s.heap.objs.size f cdv)) → sp vs H Q E →
      ∃ t, PSs (cxOf C8.CX0 P w K mg base N qual (C8.fnScope st) f cdv A outer s H E).nox (C8.fnBody st) t ∧ t { nx := fun _ H' => Q .non H', rt := Q } (start N vs) H) : C8.Met P w K mg base (k + 1) C m sp [] := by
  obtain ⟨f, fd, me, F, b⟩ := d.ex
  exact C8.met0 T.cl me F b S len fun cdv A outer s H vs Q E hr h => hbody f cdv A outer s H vs Q E hr h
theorem Dm.mak {C : Addr} {x qual : Str} {attrs : List Str} {st : Stmt} {N ps : List Str} {k : Nat} {sp : Sp} (d : Dm K C "__init__" qual st ps) (T : Clx K mg x C attrs) (S : FnScope N ps (C8.fnScope st)) (len : ∀ vs H Q E, sp vs H Q E → vs.length = ps.length)
    (hbody : ∀ (f : Addr) (cdv : Value) (A : Around) (outer : List Env) (s : Shared) (H : Hp) (vs : List V) (Q : VK) (E : XK), Room k (A.deeper (envOfC qual (C8.fnScope st) s.heap.objs.size f cdv)) → sp vs H Q E →
      ∃ t, PSs (cxOf C8.CX0 P w K mg base N qual (C8.fnScope st) f cdv A outer s H E).nox (C8.fnBody st) t ∧ t { nx := fun _ H' => Q .non H', rt := Q } (start N vs) H) : C8.Mak P w K mg base (k + 1) x C sp [] := by
  obtain ⟨f, fd, me, F, b⟩ := d.ex
  exact C8.mak0 ⟨T.mkc, me.at_, me.fn, T.kc⟩ T.mgC F b .nil S len fun cdv A outer s H vs Q E hr h => hbody f cdv A outer s H vs Q E hr h
end
def kFld (K : PySem.W.Frag) (f : Str) (Q : VK) : VK := fun x H1 => ∃ a C dx fs v, x = .ref a ∧ H1 a = some (.ins C dx fs) ∧ Cls K C ∧ NoAttr K C f ∧ fs.lookup f = some v ∧ Q v H1
def kStA (K : PySem.W.Frag) (f : Str) (nx : L2.St → Hp → Prop) (σ : L2.St) (ta : TE) : VK := fun y H1 => ta σ H1 fun x H2 => ∃ a C dx fs, x = .ref a ∧ H2 a = some (.ins C dx fs) ∧ Cls K C ∧ NoAttr K C f ∧ fs.length < 1000 ∧ nx σ (upd H2 a (.ins C dx (putF f y fs)))
def kStB (K : PySem.W.Frag) (f : Str) (nx : L2.St → Hp → Prop) (σ : L2.St) (y : V) : VK := fun x H2 => ∃ a C dx fs, x = .ref a ∧ H2 a = some (.ins C dx fs) ∧ Cls K C ∧ NoAttr K C f ∧ fs.length < 1000 ∧ nx σ (upd H2 a (.ins C dx (putF f y fs)))
def kMet (C : Addr) (m : Str) (sp : Sp) (E : XK) (t : TA) (σ : L2.St) (Q : VK) : VK := fun x H1 => ∃ a dx fs, x = .ref a ∧ H1 a = some (.ins C dx fs) ∧ fs.lookup m = none ∧ t σ H1 fun vs H2 => sp (x :: (vs ++ [])) H2 Q E
def kMeA (sp : Sp) (E : XK) (x : V) (Q : VK) : List V → Hp → Prop := fun vs H2 => sp (x :: vs) H2 Q E
def kMak (C : Addr) (sp : Sp) (E : XK) (Q : VK) : List V → Hp → Prop := fun vs H1 => ∀ x dx, H1 x = none → H1 dx = none → dx ≠ x → sp (.ref x :: (vs ++ [])) (upd (upd H1 dx (.own x)) x (.ins C dx [])) (fun v H2 => v = .non ∧ Q (.ref x) H2) E
section
variable {K : PySem.W.Frag} {H : Hp} {Q : VK} {σ : L2.St} {ta tv : TE} {t : TA} {f m x : Str} {nx : L2.St → Hp → Prop} {rt : VK} {bk ct : L2.St → Hp → Prop} {C a dx : Addr} {sp : Sp} {E : XK} {v y : V} {fs : List (Str × V)} {mg : Str → Option Value} {attrs : List Str} {vs : List V}
instance : Step (tFld K ta f σ H Q) (ta σ H (kFld K f Q)) := ⟨fun h => h⟩
instance : Step (sFld K ta tv f ⟨nx, rt, bk, ct⟩ σ H) (tv σ H (kStA K f nx σ ta)) := ⟨fun h => h⟩
instance : Step (kStA K f nx σ ta y H) (ta σ H (kStB K f nx σ y)) := ⟨fun h => h⟩
instance : Step (tMeth C m sp [] E ta t σ H Q) (ta σ H (kMet C m sp E t σ Q)) := ⟨fun h => h⟩
instance : Step (tMake C sp [] E t σ H Q) (t σ H (kMak C sp E Q)) := ⟨fun h => h⟩
instance : Step (kMeA sp E v Q vs H) (sp (v :: vs) H Q E) := ⟨fun h => h⟩
theorem i_fld (T : Clx K mg x C attrs) (hf : f ∈ attrs) (h : H a = some (.ins C dx fs)) (l : fs.lookup f = some v) (q : Q v H) : kFld K f Q (.ref a) H := ⟨a, C, dx, fs, v, rfl, h, T.cl, T.na f hf, l, q⟩
theorem i_st (T : Clx K mg x C attrs) (hf : f ∈ attrs) (h : H a = some (.ins C dx fs)) (hl : fs.length < 1000) (q : nx σ (upd H a (.ins C dx (putF f y fs)))) : kStB K f nx σ y (.ref a) H := ⟨a, C, dx, fs, rfl, h, T.cl, T.na f hf, hl, q⟩
theorem i_met (h : H a = some (.ins C dx fs)) (l : fs.lookup m = none) (q : t σ H (kMeA sp E (.ref a) Q)) : kMet C m sp E t σ Q (.ref a) H := by
  refine ⟨a, dx, fs, rfl, h, l, ?_⟩
  have e0 : (fun (vs : List V) (H2 : Hp) => sp (.ref a :: (vs ++ [])) H2 Q E) = kMeA sp E (.ref a) Q := by
    funext vs H2
    rw [List.append_nil]
    rfl
  rw [e0]
  exact q
theorem i_mak (q : ∀ p dx H1, H p = none → H dx = none → dx ≠ p → Same H H1 → H1 p = some (.ins C dx []) → H1 dx = some (.own p) → sp (.ref p :: vs) H1 (fun v H2 => v = .non ∧ Q (.ref p) H2) E) : kMak C sp E Q vs H := fun p dx hp hd n => by
  rw [List.append_nil]
  refine q p dx _ hp hd n (fun b o e => ?_) upd_same ?_
  · rw [upd_ne (ne_of_none e hp), upd_ne (ne_of_none e hd)]
    exact e
  · rw [upd_ne n, upd_same]
end
end Esc

/-! Heaps without what stands at some places. -/
namespace Esc
open PySem PySem.Spec PyProof.Rows L2
def hid (S : List Addr) (H : Hp) : Hp := fun a => if a ∈ S then none else H a
theorem hid_in {S : List Addr} {a : Addr} {H : Hp} (h : a ∈ S) : hid S H a = none := by
  unfold hid
  rw [if_pos h]
theorem hid_out {S : List Addr} {a : Addr} {H : Hp} (h : a ∉ S) : hid S H a = H a := by
  unfold hid
  rw [if_neg h]
theorem hid_of {S : List Addr} {a : Addr} {H : Hp} {o : HO} (e : hid S H a = some o) : a ∉ S ∧ H a = some o := by
  by_cases h : a ∈ S
  · rw [hid_in h] at e
    cases e
  · rw [hid_out h] at e
    exact ⟨h, e⟩
theorem hid_at {S : List Addr} {a : Addr} {H : Hp} {o : HO} (h : a ∉ S) (e : H a = some o) : hid S H a = some o := (hid_out h).trans e
theorem hid_same {S : List Addr} {H : Hp} : Same (hid S H) H := fun b o e => (hid_of e).2
theorem hid_up {S : List Addr} {H H1 : Hp} (s : Same (hid S H) H1) : Same (hid S H) (hid S H1) := fun b o e => hid_at (hid_of e).1 (s b o e)
theorem hid_mono {S T : List Addr} {H H1 : Hp} (h : ∀ a ∈ S, a ∈ T) (s : Same (hid S H) H1) : Same (hid T H) H1 := fun b o e => s b o (hid_at (fun m => (hid_of e).1 (h b m)) (hid_of e).2)
theorem hid_pure {S : List Addr} {H H1 : Hp} (s : Same H H1) : Same (hid S H) H1 := fun b o e => s b o (hid_of e).2
theorem hid_put {S : List Addr} {p : Addr} {H : Hp} {o : HO} (h : p ∈ S) : Same (hid S H) (upd H p o) := fun b u e => (upd_ne (fun z => (hid_of e).1 (by rw [z]; exact h))).trans (hid_of e).2
theorem hid_tr {S : List Addr} {H H1 H2 : Hp} (s : Same (hid S H) H1) (t : Same (hid S H1) H2) : Same (hid S H) H2 := fun b o e => t b o (hid_up s b o e)
theorem hid_one {d : Addr} {H H1 : Hp} (s : Same (hide d H) H1) : Same (hid [d] H) H1 := fun b o e => by
  have z := hid_of e
  exact s b o ((hide_ne fun q => z.1 (by rw [q]; exact List.mem_cons_self)).trans z.2)
theorem one_hid {d : Addr} {H H1 : Hp} (s : Same (hid [d] H) H1) : Same (hide d H) H1 := fun b o e => by
  have nb : b ≠ d := fun z => by
    rw [z, hide_d] at e
    cases e
  rw [hide_ne nb] at e
  exact s b o (hid_at (by simpa using nb) e)
theorem hid_dice {d : Addr} {S : List Addr} {H H1 : Hp} (h : d ∈ S) (s : Same (hide d H) H1) : Same (hid S H) H1 := hid_mono (fun a m => by rw [List.mem_singleton.mp m]; exact h) (hid_one s)
/-- places that are new, or stood among them, may join; others may leave -/
theorem hid_swap {S T : List Addr} {H H1 : Hp} (s : Same (hid S H) H1) (h : ∀ a ∈ T, a ∈ S ∨ H a = none) : Same (hid S H) (hid T H1) := fun b o e => by
  have z := hid_of e
  refine hid_at (fun m => ?_) (s b o e)
  rcases h b m with k | k
  · exact z.1 k
  · rw [z.2] at k
    cases k
theorem hid_free {S : List Addr} {p : Addr} {H H1 : Hp} (s : Same (hid S H) H1) (n : p ∉ S) (h : H1 p = none) : H p = none := by
  have z := s.free h
  rw [hid_out n] at z
  exact z
/-! ### None, or a list of ints -/
def OptAt (H : Hp) (v : V) : Option (List Int) → Prop
  | none => v = .non
  | some b => ∃ a, v = .ref a ∧ H a = some (.lst (b.map V.int))
theorem OptAt.same {H H' : Hp} (s : Same H H') {v : V} : ∀ {o : Option (List Int)}, OptAt H v o → OptAt H' v o
  | none, h => h
  | some _, ⟨a, e, k⟩ => ⟨a, e, s _ _ k⟩
def OptsAt (H : Hp) : List V → List (Option (List Int)) → Prop
  | [], [] => True
  | v :: vs, o :: os => OptAt H v o ∧ OptsAt H vs os
  | _, _ => False
theorem OptsAt.same {H H' : Hp} (s : Same H H') : ∀ {vs : List V} {os : List (Option (List Int))}, OptsAt H vs os → OptsAt H' vs os
  | [], [], _ => trivial
  | _ :: _, _ :: _, ⟨h, r⟩ => ⟨h.same s, OptsAt.same s r⟩
theorem OptsAt.len {H : Hp} : ∀ {vs : List V} {os : List (Option (List Int))}, OptsAt H vs os → vs.length = os.length
  | [], [], _ => rfl
  | _ :: _, _ :: _, ⟨_, r⟩ => congrArg (· + 1) r.len
theorem OptsAt.app {H : Hp} : ∀ {vs : List V} {os : List (Option (List Int))} {us : List V} {ps : List (Option (List Int))}, OptsAt H vs os → OptsAt H us ps → OptsAt H (vs ++ us) (os ++ ps)
  | [], [], _, _, _, h => h
  | _ :: vs, _ :: os, us, ps, ⟨h, r⟩, h2 => ⟨h, OptsAt.app (vs := vs) (os := os) (us := us) (ps := ps) r h2⟩
theorem OptsAt.get {H : Hp} : ∀ {vs : List V} {os : List (Option (List Int))} {i : Nat} {v : V}, OptsAt H vs os → vs[i]? = some v → ∃ o, os[i]? = some o ∧ OptAt H v o
  | [], _, _, _, _, e => by simp at e
  | _ :: _, o :: _, 0, v, ⟨h, _⟩, e => by
    cases e
    exact ⟨o, rfl, h⟩
  | _ :: vs, _ :: os, i + 1, v, ⟨_, r⟩, e => OptsAt.get (vs := vs) (os := os) (i := i) r e
theorem OptsAt.take {H : Hp} : ∀ {vs : List V} {os : List (Option (List Int))} (n : Nat), OptsAt H vs os → OptsAt H (vs.take n) (os.take n)
  | [], [], n, h => by simpa using h
  | _ :: _, _ :: _, 0, _ => trivial
  | _ :: _, _ :: _, n + 1, ⟨h, r⟩ => ⟨h, r.take n⟩
theorem OptsAt.drop {H : Hp} : ∀ {vs : List V} {os : List (Option (List Int))} (n : Nat), OptsAt H vs os → OptsAt H (vs.drop n) (os.drop n)
  | [], [], n, h => by simpa using h
  | _ :: _, _ :: _, 0, h => h
  | _ :: vs, _ :: os, n + 1, ⟨_, r⟩ => OptsAt.drop (vs := vs) (os := os) n r
/-! ### ways among tuples -/
theorem sqt_tp {K : PySem.W.Frag} {H : Hp} {a : Addr} {xs : List V} (h : SqT K H a xs) : SqT K (tp H) a xs := by
  rcases h with (h | ⟨o, h⟩) | h
  · exact .inl (.inl (tp_all h rfl))
  · exact .inl (.inr ⟨o, tp_all h rfl⟩)
  · exact .inr h
theorem tupd_tp {H : Hp} {a : Addr} {xs : List V} (h : TupD H a xs) : TupD (tp H) a xs := by
  obtain ⟨o, n, e⟩ := h
  exact ⟨o, n, tp_all e rfl⟩
theorem TupsAt.tp {K : PySem.W.Frag} {H : Hp} : ∀ {as : List Addr} {cs : List (List Int)}, TupsAt K H as cs → TupsAt K (Esc.tp H) as cs
  | [], [], _ => trivial
  | _ :: _, _ :: _, ⟨h, r⟩ => ⟨tp_all h rfl, TupsAt.tp r⟩
theorem PairsAt.tp {K : PySem.W.Frag} {H : Hp} : ∀ {as : List Addr} {cs : List (Int × Int)}, PairsAt K H as cs → PairsAt K (Esc.tp H) as cs
  | [], [], _ => trivial
  | _ :: _, _ :: _, ⟨h, r⟩ => ⟨sqt_tp h, PairsAt.tp r⟩
theorem KindAt.tp {K : PySem.W.Frag} {H : Hp} {p : Addr} {t e : Int} : ∀ {k : Kind}, KindAt K H p t e k → KindAt K (Esc.tp H) p t e k
  | .codes _, ⟨c, as, h1, h2, h3⟩ => ⟨c, as, sqt_tp h1, sqt_tp h2, h3.tp⟩
  | .escapes _ _, ⟨c, as, h1, h2, h3⟩ => ⟨c, as, sqt_tp h1, sqt_tp h2, h3.tp⟩
  | .counts _, h => sqt_tp h
  | .ranks, h => sqt_tp h
theorem TurnAt.tp {K : PySem.W.Frag} {H : Hp} : ∀ {ts : List (Addr × List Int)} {v u : V}, TurnAt K H ts v u → TurnAt K (Esc.tp H) ts v u
  | [], _, _, h => h
  | (_, _) :: _, _, _, ⟨p, x, e, h1, h2, h3⟩ => ⟨p, x, e, sqt_tp h1, tupd_tp h2, h3.tp⟩
theorem WayAt.tp {K : PySem.W.Frag} {H : Hp} {v : V} {w : Way} (h : WayAt K H v w) : WayAt K (Esc.tp H) v w := by
  obtain ⟨tas, p, a, b, c⟩ := h
  exact ⟨tas, p, a, b.tp, c.tp⟩
theorem tp_hid {S : List Addr} {H H' : Hp} (h : ∀ a ∈ S, ∀ o, H a = some o → isT o = false) (s : Same (hid S H) H') : Same (tp H) (tp H') := tp_up fun b o e => by
  have z := tp_of e
  refine s b o (hid_at (fun m => ?_) z.2)
  have y := h b m o z.2
  rw [z.1] at y
  cases y
end Esc

/-! The pairs of a dict whose keys are tuples, one after another. -/
namespace Esc
open PySem PySem.W PySem.Calls PyProof.Rows PyProof.V PySem.Spec L2
section
variable {X : Cx} {pins : List (Addr × Obj)} {σ : L2.St} {H : Hp} {s : Shared} {d : Addr} {o : Obj}
theorem frzTv {kvs : List (List Key × V)} (I : Inv X pins σ H s) (h : H d = some (.frz o (.dT kvs))) :
    (d == sysModules) = false ∧ s.heap.get? d = some o ∧ o.ExactDict ∧ ∃ (es : Array DictEntry) (ep : Nat), o.data = .dict es ep ∧ es.size = kvs.length ∧
      ∀ (i : Nat) (k : List Key) (v : V), kvs[i]? = some (k, v) → ∃ (en : DictEntry) (q : Addr), es[i]? = some en ∧ en.key = .ref q ∧ H q = some (.tup (k.map kV)) ∧ RelV v en.val := by
  obtain ⟨hd, z, hs, xs, pr, o', es, ep, ho, hx, hdt, he, _⟩ := I.hok d _ h
  rw [hd] at ho
  cases ho
  refine ⟨hs, hd, hx, es, ep, hdt, ?_, fun i k v e => ?_⟩
  · have l1 : es.size = xs.length := size_of_entries he
    have l2 : kvs.length = xs.length := Paired.length pr
    omega
  · obtain ⟨b, hb, e1, e2, e3⟩ := paired_get pr e
    have q := entry_at he i
    rw [hb] at q
    exact ⟨_, b.2.1, q, rfl, e2, e3⟩
end
/-- the pairs of the locked dict at d, each a new tuple -/
def ItiT (d : Addr) (o : Obj) (kvs : List (List Key × V)) : It :=
  ⟨fun i H => H d = some (.frz o (.dT kvs)) ∧ i < kvs.length, fun i H x H' => ∃ (T : Addr) (k : List Key) (v : V) (q : Addr), kvs[i]? = some (k, v) ∧ x = .ref T ∧ H T = none ∧ H q = some (.tup (k.map kV)) ∧ H' = upd H T (.tup [.ref q, v]), fun i H => H d = some (.frz o (.dT kvs)) ∧ kvs.length ≤ i⟩
section
variable {P : Program} {w : World} {K : PySem.W.Frag} {d : Addr} {o : Obj} {es : Array DictEntry} {ep : Nat}
theorem turn_itemsT {kvs : List (List Key × V)} {elts : List Expr} {kk : Nat} {tpos : Pos} (it : Addr) (hod : o.data = .dict es ep) :
    Turn P w K (.Tuple elts kk tpos) (ItiT d o kvs) [it] it (fun i h => ∃ ok ov, IsItemIter h it d i kvs.length ep ok ov) where
  mem := by simp
  obj := fun i h st b hb => by
    have e : b = it := by simpa using hb
    subst e
    obtain ⟨ok, ov, e⟩ := st
    exact ⟨_, e, fun v z => nomatch z⟩
  keep := fun i h h' st k => let ⟨ok, ov, e⟩ := st; ⟨ok, ov, k it (by simp) _ e⟩
  item := by
    intro X hP hw hK hc i pins s σ H E I hf st hg
    subst hP hw hK
    obtain ⟨hd, hi⟩ := hg
    obtain ⟨hs, hgd, hx, es', ep', hdt, hsz, ent⟩ := frzTv I hd
    obtain ⟨rfl, rfl⟩ := dict_ep hod hdt
    obtain ⟨⟨k, v⟩, hkv⟩ : ∃ p, kvs[i]? = some p := ⟨kvs[i], List.getElem?_eq_getElem hi⟩
    obtain ⟨en, q, hen, hkey, hq, rv⟩ := ent i k v hkv
    obtain ⟨hi2, een⟩ := Array.getElem?_eq_some_iff.mp hen
    obtain ⟨ok, ov, he⟩ := st
    rw [← hsz] at he
    have hlt : it < s.heap.objs.size := Heap.lt_size he
    refine DT.nextI he ⟨o, hgd, hx, hdt⟩ hi2 fun h' ho hT hz hk => ?_
    rw [een, hkey] at ho hT
    refine ⟨_, rfl, wpAny_letOwnedTupleGo_items (s := { s with heap := h' }) ho fun h'' he' sb => ?_⟩
    have hT2 : h''.get? s.heap.objs.size = some { cls := .type "tuple", data := .seq #[.ref q, en.val] } := (sb.2 _ (Nat.ne_of_gt hlt)).trans hT
    have new : ObjOk X.prog X.w (upd H s.heap.objs.size (.tup [.ref q, v])) h'' s.heap.objs.size (.tup [.ref q, v]) :=
      ⟨by show 2 ≤ sizeLine; decide, [.ref q, en.val], .cons rfl (.cons rv .nil), ⟨_, hT2, rfl, _, rfl⟩⟩
    have I1 : Inv X pins σ (upd H s.heap.objs.size (.tup [.ref q, v])) { s with heap := h'' } :=
      I.turnedNew (t' := s.toks) (ch := [it]) (fun b ob hb e => (sb.2 b (by simpa using hb)).trans (hk b ob (by simpa using hb) e)) hf (Nat.le_refl _) new
    refine ⟨.ref s.heap.objs.size, _, I1, rfl, ⟨_, k, v, q, hkv, rfl, I.hok.fresh (Nat.le_refl _), hq, rfl⟩, ⟨.ref q, en.val, ?_⟩, fun b hb => ?_⟩
    · rw [← hsz]; exact he'
    · have e : b = it := by simpa using hb
      rw [e, upd_ne (Nat.ne_of_lt hlt)]
      exact (hf it (by simp)).1
  done := by
    intro X hP hw hK hc i pins s σ H E I hf st hg
    subst hP hw hK
    obtain ⟨hd, hi⟩ := hg
    obtain ⟨f0, f1, f2, f3, f4, f5⟩ := hf it (by simp)
    obtain ⟨hs, hgd, hx, es', ep', hdt, hsz, ent⟩ := frzTv I hd
    obtain ⟨rfl, rfl⟩ := dict_ep hod hdt
    obtain ⟨ok, ov, he⟩ := st
    rw [← hsz] at he
    exact DT.endI (I.ok.hd hc) he ⟨o, hgd, hx, hdt⟩ (by omega) fun h' eb => ⟨rfl, I.turned (t' := s.toks) (fun b ob hb e => eb b ob hb e) f0 f1 f3 f4 f5⟩
  self := fun A i s Q E st h => let ⟨_, _, e⟩ := st; PySem.W.kcp_self e h
end
def iItemsT (td : TE) : TI := fun σ H R => td σ H fun x H1 => ∃ d o kvs, x = .ref d ∧ H1 d = some (.frz o (.dT kvs)) ∧ R (ItiT d o kvs) H1
section
variable {X : Cx} {tg e : Expr} {td : TE} {apos cpos : Pos}
theorem pi_itemsT {elts : List Expr} {kk : Nat} {tpos : Pos} (he : PE X e td) (hbase : attributeBase e "items" X.env (eval e X.env) = eval e X.env := by rfl) (hline : (apos.endLine == cpos.line) = true := by rfl) :
    PI X (.Tuple elts kk tpos) (.Call (.Attribute e "items" apos) [] [] cpos) (iItemsT td) := by
  refine ⟨fun pins s σ H R I h => ?_⟩
  refine wpAny_Call_method (T := "dict") (id := "dict.items") hbase rfl hline F.plainAttrs_dict F.slot_dict_items F.type_dict_items (thn (he.run pins s σ H _ I h) fun u s1 ⟨x, H1, I1, rx, d, o, kvs, ex, hd, q⟩ => ?_)
  subst ex
  obtain rfl : u = Value.ref d := rx
  obtain ⟨hs, hgd, hx, es, ep, hdt, hsz, ent⟩ := frzTv I1 hd
  have raw : DT.Raw s1.heap d es ep := ⟨o, hgd, hx, hdt⟩
  refine ⟨raw.typeIs, ?_, ?_⟩
  · intro a ea
    cases ea
    exact ⟨o, hgd, hx.2.1⟩
  have I2 : Inv X pins σ H1 { s1 with heap := s1.heap.push { cls := .type "dict_items", data := .fields #[.ref d] } } := I1.kept (t' := s1.toks) fun b ob q => Heap.get?_push_of_some _ q
  have fin : wpAny (model X.prog X.w) X.A (pyIter (.ref s1.heap.objs.size)) (PIE X pins σ (.Tuple elts kk tpos) R) X.xe { s1 with heap := s1.heap.push { cls := .type "dict_items", data := .fields #[.ref d] } } := by
    refine DT.iterI (d := d) (es := es) (ep := ep) ⟨_, Heap.get?_push_size _ rfl, rfl, rfl⟩ (raw.push _) (pi_one (tk := s1.toks) I2 _ (turn_itemsT _ hdt) ⟨.none, .none, ?_⟩ q)
    rw [← hsz]
    exact Heap.get?_push_size _ rfl
  show wpAny _ _ (callWith cpos (.builtin "dict.items") [.ref d] [] []) _ X.xe s1
  exact method_meetsIn F.slot_dict_items F.entry_dict_items rfl (PySem.evalArgs_none ⟨rfl, raw.typeIs, F.args_dict_items_1 _, _, DT.meetsItems hs, raw, fin⟩)
/-- {t: v}, the key a tuple -/
def tDispT (tk tv : TE) : TE := fun σ H Q => ∀ p, H p = none → tk σ (upd H p (.dT [])) fun x H1 => tv σ H1 fun y H2 => H2 p = some (.dT []) ∧ ∃ (k : List Key) (c : Addr), x = .ref c ∧ H2 c = some (.tup (k.map kV)) ∧ Q (.ref p) (upd H2 p (.dT [(k, y)]))
theorem pe_dispT {k v : Expr} {tk tv : TE} {pos : Pos} (hu : X.A.units + 1 < cLine) (hk : PE X k tk) (hv : PE X v tv) : PE X (.Dict [some k] [v] pos) (tDispT tk tv) := by
  refine ⟨fun pins s σ H Q I q => ?_⟩
  have hn := I.hok.fresh (Nat.le_refl s.heap.objs.size)
  have I1 := I.laid (a := s.heap.objs.size) (o := .dT []) (h' := s.heap.push { cls := .type "dict", data := .dict #[] }) (t' := s.toks) (fun _ _ q => Heap.get?_push_of_some _ q) (Nat.le_refl _) (dt_empty s.heap I.big)
  rw [arm_eval_Dict, zip_pairTrees [some k] [v] X.env pos rfl rfl, dictDisplay_pairs _ (fun z => by have l := pairTrees_length [some k] [v] X.env pos rfl rfl; rw [z] at l; cases l) (by rw [pairTrees_length [some k] [v] X.env pos rfl rfl]; exact Nat.le_of_ble_eq_true rfl)]
  refine wpAny_bind (wpAny_standAt (wpAny_bind (wpAny_subDictH (knd := tupleKind (mixKind X.prog X.w)) (Q := fun d s' => wpAny (model X.prog X.w) X.A (pure (Value.ref d)) _ _ s') (show (tupleKind (mixKind X.prog X.w)).room X.A from Nat.lt_of_succ_lt hu) (by rw [pairTrees_length [some k] [v] X.env pos rfl rfl]; exact Nat.le_of_ble_eq_true rfl) ?_)))
  refine pairTrees_cons_walk (thn (hk.run pins _ σ _ _ I1 (q _ hn)) fun u s1 ⟨x, H1, J1, rx, q1⟩ => thn (hv.run pins s1 σ H1 _ J1 q1) fun w2 s2 ⟨y, H2, I2, ry, e, kk, c, ex, ec, q2⟩ => pairTrees_nil_walk ?_)
  subst ex
  obtain rfl : u = Value.ref c := rx
  obtain ⟨z, hd, xs, rel, dd⟩ := dt_of I2.hok e
  cases rel
  refine ⟨[(kk, c, w2)], ⟨rfl, rfl, key_of I2.hok ec, trivial⟩, dd, fun h' tk ⟨q, es, ep, hq, h2, h3, h4, _, h5⟩ hs => wpAny_pure ⟨.ref s.heap.objs.size, _, ?_, rfl, q2⟩⟩
  exact d_write I2 (by rw [e]; trivial) hs ⟨q, hq⟩ ⟨by show 1 ≤ sizeLine; decide, hd, _, .cons ⟨rfl, (upd_ne (ne_of ec e (fun z => nomatch z))).trans ec, ry⟩ .nil, q, es, ep, hq, h2, h3, h4, h5⟩
end
end Esc

/-! sorted of a list of tuples (a number, a list of numbers). -/
namespace Esc
open PySem PySem.Spec PyProof.Rows L2
def enTL (b : Addr × Int × List Int) : PyData := .tuple [.int b.2.1, .list (b.2.2.map PyData.int)]
def leTL (b c : Addr × Int × List Int) : Bool := PySem.W.dataLe false enTL b c
theorem alike_TL (b c : Addr × Int × List Int) : PySem.W.alike (enTL b) (enTL c) = true := by
  unfold enTL
  simp [PySem.W.alike, PySem.W.alikeAll, alike_ints]
theorem depth_TL (b : Addr × Int × List Int) : (enTL b).depth ≤ 2 := by
  unfold enTL
  simp [PyData.depth, PyData.depthAll, depth_ints]
def rSortedTL (K : PySem.W.Frag) : List V → Hp → VK → Prop := fun vs H Q => ∃ (a : Addr) (bs : List (Addr × Int × List Int)), vs = [V.ref a] ∧ SqL K H a (bs.map fun b => V.ref b.1) ∧ (∀ b ∈ bs, Dp K H (.ref b.1) (enTL b)) ∧
  ∀ p, H p = none → Q (.ref p) (upd H p (.lst ((bs.mergeSort leTL).map fun b => V.ref b.1)))
theorem each_refs : ∀ {bs : List (Addr × Int × List Int)} {us : List Value}, Vals (bs.map fun b => V.ref b.1) us → PySem.W.EachIs (fun v b => v = Value.ref b.1) us bs
  | [], _, h => by
    cases h
    exact .nil
  | b :: bs, _, h => by
    cases h with
    | cons r t =>
      have r : _ = Value.ref b.1 := r
      exact .cons r (each_refs t)
theorem each_imp {R R' : Value → (Addr × Int × List Int) → Prop} : ∀ {us : List Value} {bs : List (Addr × Int × List Int)}, (∀ b ∈ bs, ∀ v, R v b → R' v b) → PySem.W.EachIs R us bs → PySem.W.EachIs R' us bs
  | _, _, _, .nil => .nil
  | _, _, h, .cons r t => .cons (h _ List.mem_cons_self _ r) (each_imp (fun b m => h b (List.mem_cons_of_mem _ m)) t)
theorem vals_refs : ∀ {us : List Value} {bs : List (Addr × Int × List Int)}, PySem.W.EachIs (fun v b => v = Value.ref b.1) us bs → Vals (bs.map fun b => V.ref b.1) us
  | _, _, .nil => .nil
  | _, _, .cons r t => by
    subst r
    exact .cons rfl (vals_refs t)
section
variable {X : Cx}
theorem cr_sortedTL (hu : X.A.units + 64 < cLine) : CallR X (.builtin "sorted") (rSortedTL X.K) := by
  intro pins s σ H vs us Q I r h
  obtain ⟨a, bs, rfl, hs, hx, q⟩ := h
  obtain ⟨its, rv, hl, hz⟩ := I.list hs
  obtain ⟨u, rfl, ru⟩ := vals1 r
  obtain rfl : u = Value.ref a := ru
  have e := each_refs rv
  have er : PySem.W.EachIs (fun v b => ∃ as, Reads s.heap v (enTL b) as) its bs := each_imp (fun b m v ev => by
    subst ev
    exact Dp.reads I _ _ _ (hx b m) rfl) e
  refine PySem.W.sorted_data (enc := enTL) hl.isList e er (PySem.W.AllAlike.of alike_TL) (PySem.W.Sortable.tuples fun b => ⟨_, _, rfl⟩) (by rw [List.length_map] at hz; exact hz) (fun b _ => ?_) fun out _ eo => ?_
  · have := depth_TL b
    omega
  · obtain ⟨n, hn⟩ := sortedAll_at s.heap its (List.toArray out)
    refine ⟨.ref (s.heap.objs.size + 1), _, I.laid (t' := s.toks) (o := .lst ((bs.mergeSort leTL).map fun b => V.ref b.1)) (fun b o e => sortedAll_old e) (Nat.le_succ _) ⟨?_, out, n, vals_refs eo, hn⟩, rfl, q _ (I.hok.fresh (Nat.le_succ _))⟩
    rw [List.length_map, List.length_mergeSort]
    rw [List.length_map] at hz
    exact hz
end
/-! ### tuple(range(n)) -/
def kTupRg (Q : VK) : VK := fun x H => ∃ n, x = .int n ∧ RgOk 0 n ∧ ∀ q, H q = none → Q (.ref q) (upd H q (.tup (rgV 0 n)))
instance {ta : TE} {σ : L2.St} {H : Hp} {Q : VK} : Step (tTupRg (tRg1 ta) σ H Q) (ta σ H (kTupRg Q)) := ⟨fun h => h⟩
theorem i_tupRg {H : Hp} {Q : VK} {n : Int} (hn : 0 ≤ n ∧ n ≤ 16777216) (q : ∀ p H', H p = none → Same H H' → H' p = some (.tup (rgV 0 n)) → Q (.ref p) H') : kTupRg Q (.int n) H := ⟨n, rfl, RgOk.of_le (Int.le_refl 0) hn.2 (by decide) hn.1, grow q⟩
/-- the object told -/
def tTupRgF (te : L2.St → Hp → (Int → Int → Hp → Prop) → Prop) : TE := fun σ H Q => te σ H fun a b H1 => RgOk a b ∧ ∀ q o, NoD o → H1 q = none → Q (.ref q) (upd H1 q (.frz o (.tup (rgV a b))))
theorem pe_tupRgF {X : Cx} {e : Expr} {te : L2.St → Hp → (Int → Int → Hp → Prop) → Prop} {p pos : Pos} (hc : X.calm = true) (hg : Gl X "tuple") (hm : X.mg "tuple" = none) (he : PRg X e te) (na : starEach [e] X.env = (false, eval e X.env) :: starEach [] X.env := by rfl) : PE X (.Call (.Name "tuple" p) [e] [] pos) (tTupRgF te) := by
  refine ⟨fun pins s σ H Q I h => ?_⟩
  refine Call_ (ld_blt I hg hm boot_tuple (PyProof.Rows.callWith_type1 (args_cons (thn (he pins s σ H _ I h) fun x s1 ⟨r, a, b, t, u, v, H1, ex, hr, I1, ok, q⟩ => args_nil ?_) na) na))
  subst ex
  obtain ⟨b1, b2, b3, b4, b5⟩ := ok
  refine call_tuple_range (n := (b - a).toNat) (I1.ok.hd hc) hr (small_one b1 b2 b3 b4) (rangeSize_nat a b) b5 fun h' tk acc hk hi => ?_
  have I2 : Inv X pins σ H1 { s1 with heap := h', toks := tk } := I1.kept hk
  refine ⟨.ref h'.objs.size, _, I2.laid (o := .frz { cls := .type "tuple", data := .seq acc } (.tup (rgV a b))) (t' := tk) (fun c o e => Heap.get?_push_of_some _ e) (Nat.le_refl _) ⟨Heap.get?_push_size _ rfl, ?_, acc.toList, vals_rg hi, ?_⟩, rfl, q _ _ ⟨rfl, rfl⟩ (I2.hok.fresh (Nat.le_refl _))⟩
  · rw [rgV_length, sizeLine_eq]; omega
  · rw [Array.toArray_toList]; exact IsTup.new _ _
def kTupRgF (Q : VK) : VK := fun x H => ∃ n, x = .int n ∧ RgOk 0 n ∧ ∀ q o, NoD o → H q = none → Q (.ref q) (upd H q (.frz o (.tup (rgV 0 n))))
instance {ta : TE} {σ : L2.St} {H : Hp} {Q : VK} : Step (tTupRgF (tRg1 ta) σ H Q) (ta σ H (kTupRgF Q)) := ⟨fun h => h⟩
theorem i_tupRgF {H : Hp} {Q : VK} {n : Int} (hn : 0 ≤ n ∧ n ≤ 16777216) (q : ∀ p H', H p = none → Same H H' → TupD H' p (rgV 0 n) → Q (.ref p) H') : kTupRgF Q (.int n) H :=
  ⟨n, rfl, RgOk.of_le (Int.le_refl 0) hn.2 (by decide) hn.1, fun p o no hp => q p _ hp (same_new hp) ⟨o, no, upd_same⟩⟩
theorem perm_TL (bs : List (Addr × Int × List Int)) : (bs.mergeSort leTL).Perm bs := List.mergeSort_perm bs leTL
end Esc

local macro_rules | `(tactic| walk_at "hp") => `(tactic| first
  | assumption
  | (with_reducible exact L2.upd_same)
  | ((with_reducible apply Esc.mut_at); (focus assumption); (focus assumption); (focus (walk_at "hp")))
  | ((with_reducible apply Esc.upd_at); (focus (first | assumption | exact Ne.symm (by assumption))); (focus (walk_at "hp")))
  | ((with_reducible apply Esc.same_at); (focus assumption); (focus (walk_at "hp"))))
local macro_rules | `(tactic| walk_at "sq") => `(tactic| first
  | assumption
  | ((with_reducible apply Esc.sl_of); (focus (walk_at "hp")))
  | ((with_reducible apply Esc.st_of); (focus (walk_at "hp")))
  | ((with_reducible apply Esc.mut_l); (focus assumption); (focus assumption); (focus (walk_at "sq")))
  | ((with_reducible apply Esc.mut_t); (focus assumption); (focus assumption); (focus (walk_at "sq")))
  | ((with_reducible apply L2.Same.seq); (focus assumption); (focus (walk_at "sq")))
  | ((with_reducible apply Esc.stup); (focus assumption); (focus (walk_at "sq"))))
local macro_rules | `(tactic| walk_at "at") => `(tactic| first
  | assumption
  | exact L2.atI_nat (j := 0) rfl | exact L2.atI_nat (j := 1) rfl | exact L2.atI_nat (j := 2) rfl | exact L2.atI_nat (j := 3) rfl | exact L2.atI_nat (j := 4) rfl)
local macro_rules | `(tactic| walk_at "num") => `(tactic| first
  | assumption | omega
  | exact ⟨by omega, by omega⟩
  | exact Or.inl ⟨by omega, by omega⟩ | exact Or.inr ⟨by omega, by omega⟩)
local macro_rules | `(tactic| walk_at "sz") => `(tactic| first
  | assumption
  | exact Esc.szl (by simp only [List.length_append, List.length_map, List.length_cons, List.length_nil, List.length_singleton]; omega)
  | exact Esc.sz (by simp only [List.length_append, List.length_map, List.length_cons, List.length_nil, List.length_singleton]; omega))
local macro_rules | `(tactic| walk_at "r") => `(tactic| (refine Esc.Steps.h ?_; repeat' (first
  | ((with_reducible apply Esc.i_ixL); (focus (walk_at "sq")); (focus (walk_at "at")); refine Esc.Steps.h ?_)
  | ((with_reducible apply Esc.i_I); (focus (walk_at "num")); refine Esc.Steps.h ?_)
  | ((with_reducible apply Esc.i_ixT); (focus (walk_at "sq")); (focus (walk_at "at")); refine Esc.Steps.h ?_)
  | ((with_reducible apply Esc.i_bm); (focus (walk_at "sq")); refine Esc.Steps.h ?_)
  | ((with_reducible apply Esc.i_bm0); (focus (walk_at "sq")); refine Esc.Steps.h ?_)
  | ((with_reducible apply Esc.i_lenI); (focus (walk_at "sq")); refine Esc.Steps.h ?_)
  | ((with_reducible apply Esc.i_len); (focus (walk_at "sq")); refine Esc.Steps.h ?_)
  | ((with_reducible apply Esc.i_lenT); (focus (walk_at "sq")); refine Esc.Steps.h ?_)
  | ((with_reducible apply Esc.i_gtup); (focus (walk_at "sq")); (focus rfl); refine Esc.Steps.h ?_)
  | ((with_reducible apply Esc.i_append); (focus (walk_at "hp")); (focus (walk_at "sz")); refine Esc.Steps.h ?_)
  | ((with_reducible apply Esc.i_insert0); (focus (walk_at "hp")); (focus (walk_at "sz")); refine Esc.Steps.h ?_))))
local macro_rules | `(tactic| walk_at "go") => `(tactic| (try dsimp only [L2.cxOf, L2.Cx.nox, L2.Cx.wish, List.map_cons, List.map_nil]))

namespace Esc
open PySem PySem.Spec PyProof.Rows L2
def topS (i : Nat) : Stmt := PySem.Challenge.pw_escaperow_k17_whole_told_otherwise.main.body.getD i (.Pass ⟨0, 0, 0, 0⟩)
abbrev s_rank_of : Stmt := topS 7
abbrev N_rank_of : List Str := ["row", "letters", "places", "rank", "letter", "at"]
abbrev P_rank_of : List Str := ["row", "letters"]
theorem sc_rank_of : FnScope N_rank_of P_rank_of (C8.fnScope s_rank_of) := C8.fnScope_by (by decide +kernel)

abbrev s_row_of : Stmt := topS 8
abbrev N_row_of : List Str := ["rank", "letters", "many", "row", "left"]
abbrev P_row_of : List Str := ["rank", "letters"]
theorem sc_row_of : FnScope N_row_of P_row_of (C8.fnScope s_row_of) := C8.fnScope_by (by decide +kernel)

abbrev s_rows_up_to : Stmt := topS 9
abbrev N_rows_up_to : List Str := ["longest", "many", "rows", "_"]
abbrev P_rows_up_to : List Str := ["longest", "many"]
theorem sc_rows_up_to : FnScope N_rows_up_to P_rows_up_to (C8.fnScope s_rows_up_to) := C8.fnScope_by (by decide +kernel)

abbrev s_need_way : Stmt := topS 15
abbrev N_need_way : List Str := ["way", "why"]
abbrev P_need_way : List Str := ["way"]
theorem sc_need_way : FnScope N_need_way P_need_way (C8.fnScope s_need_way) := C8.fnScope_by (by decide +kernel)

abbrev s_fault_of : Stmt := topS 16
abbrev N_fault_of : List Str := ["way", "turnings", "inner", "top", "end", "find_fault", "why", "signs"]
abbrev P_fault_of : List Str := ["way"]
theorem sc_fault_of : FnScope N_fault_of P_fault_of (C8.fnScope s_fault_of) := C8.fnScope_by (by decide +kernel)

abbrev s_unturned : Stmt := topS 17
abbrev N_unturned : List Str := ["way", "turnings", "inner"]
abbrev P_unturned : List Str := ["way"]
theorem sc_unturned : FnScope N_unturned P_unturned (C8.fnScope s_unturned) := C8.fnScope_by (by decide +kernel)

abbrev s_plain_signs : Stmt := topS 18
abbrev N_plain_signs : List Str := ["top", "end", "sign"]
abbrev P_plain_signs : List Str := ["top", "end"]
theorem sc_plain_signs : FnScope N_plain_signs P_plain_signs (C8.fnScope s_plain_signs) := C8.fnScope_by (by decide +kernel)

abbrev s_first_unsigned : Stmt := topS 19
abbrev N_first_unsigned : List Str := ["signs", "top", "at", "sign"]
abbrev P_first_unsigned : List Str := ["signs", "top"]
theorem sc_first_unsigned : FnScope N_first_unsigned P_first_unsigned (C8.fnScope s_first_unsigned) := C8.fnScope_by (by decide +kernel)

abbrev s_is_whole : Stmt := topS 20
abbrev N_is_whole : List Str := ["number"]
abbrev P_is_whole : List Str := ["number"]
theorem sc_is_whole : FnScope N_is_whole P_is_whole (C8.fnScope s_is_whole) := C8.fnScope_by (by decide +kernel)

abbrev s_is_top : Stmt := topS 21
abbrev N_is_top : List Str := ["number"]
abbrev P_is_top : List Str := ["number"]
theorem sc_is_top : FnScope N_is_top P_is_top (C8.fnScope s_is_top) := C8.fnScope_by (by decide +kernel)

abbrev s_is_sign : Stmt := topS 22
abbrev N_is_sign : List Str := ["number", "top"]
abbrev P_is_sign : List Str := ["number", "top"]
theorem sc_is_sign : FnScope N_is_sign P_is_sign (C8.fnScope s_is_sign) := C8.fnScope_by (by decide +kernel)

abbrev s_is_plain : Stmt := topS 23
abbrev N_is_plain : List Str := ["number", "top", "end"]
abbrev P_is_plain : List Str := ["number", "top", "end"]
theorem sc_is_plain : FnScope N_is_plain P_is_plain (C8.fnScope s_is_plain) := C8.fnScope_by (by decide +kernel)

abbrev s_is_turning : Stmt := topS 24
abbrev N_is_turning : List Str := ["signs", "top"]
abbrev P_is_turning : List Str := ["signs", "top"]
theorem sc_is_turning : FnScope N_is_turning P_is_turning (C8.fnScope s_is_turning) := C8.fnScope_by (by decide +kernel)

abbrev s_codes_fault : Stmt := topS 25
abbrev N_codes_fault : List Str := ["way", "_", "top", "end", "codes", "code"]
abbrev P_codes_fault : List Str := ["way"]
theorem sc_codes_fault : FnScope N_codes_fault P_codes_fault (C8.fnScope s_codes_fault) := C8.fnScope_by (by decide +kernel)

abbrev s_is_code : Stmt := topS 26
abbrev N_is_code : List Str := ["code", "top", "end", "sign"]
abbrev P_is_code : List Str := ["code", "top", "end"]
theorem sc_is_code : FnScope N_is_code P_is_code (C8.fnScope s_is_code) := C8.fnScope_by (by decide +kernel)

abbrev s_stand_apart : Stmt := topS 27
abbrev N_stand_apart : List Str := ["codes", "at", "code", "other", "shared"]
abbrev P_stand_apart : List Str := ["codes"]
theorem sc_stand_apart : FnScope N_stand_apart P_stand_apart (C8.fnScope s_stand_apart) := C8.fnScope_by (by decide +kernel)

abbrev s_escapes_fault : Stmt := topS 28
abbrev N_escapes_fault : List Str := ["way", "_", "top", "end", "mark", "pairs", "signs", "codes", "code", "sign"]
abbrev P_escapes_fault : List Str := ["way"]
theorem sc_escapes_fault : FnScope N_escapes_fault P_escapes_fault (C8.fnScope s_escapes_fault) := C8.fnScope_by (by decide +kernel)

abbrev s_counts_fault : Stmt := topS 29
abbrev N_counts_fault : List Str := ["way", "_", "top", "end", "limit"]
abbrev P_counts_fault : List Str := ["way"]
theorem sc_counts_fault : FnScope N_counts_fault P_counts_fault (C8.fnScope s_counts_fault) := C8.fnScope_by (by decide +kernel)

abbrev s_ranks_fault : Stmt := topS 30
abbrev N_ranks_fault : List Str := ["way"]
abbrev P_ranks_fault : List Str := ["way"]
theorem sc_ranks_fault : FnScope N_ranks_fault P_ranks_fault (C8.fnScope s_ranks_fault) := C8.fnScope_by (by decide +kernel)

abbrev s_framed : Stmt := topS 36
abbrev N_framed : List Str := ["way", "body"]
abbrev P_framed : List Str := ["way", "body"]
theorem sc_framed : FnScope N_framed P_framed (C8.fnScope s_framed) := C8.fnScope_by (by decide +kernel)

abbrev s_body_of : Stmt := topS 37
abbrev N_body_of : List Str := ["way", "signs"]
abbrev P_body_of : List Str := ["way", "signs"]
theorem sc_body_of : FnScope N_body_of P_body_of (C8.fnScope s_body_of) := C8.fnScope_by (by decide +kernel)

abbrev s_need_body : Stmt := topS 38
abbrev N_need_body : List Str := ["way", "body", "at"]
abbrev P_need_body : List Str := ["way", "body"]
theorem sc_need_body : FnScope N_need_body P_need_body (C8.fnScope s_need_body) := C8.fnScope_by (by decide +kernel)

abbrev s_need_signs : Stmt := topS 39
abbrev N_need_signs : List Str := ["way", "signs", "at"]
abbrev P_need_signs : List Str := ["way", "signs"]
theorem sc_need_signs : FnScope N_need_signs P_need_signs (C8.fnScope s_need_signs) := C8.fnScope_by (by decide +kernel)

abbrev s_top_of : Stmt := topS 40
abbrev N_top_of : List Str := ["way", "inner"]
abbrev P_top_of : List Str := ["way"]
theorem sc_top_of : FnScope N_top_of P_top_of (C8.fnScope s_top_of) := C8.fnScope_by (by decide +kernel)

abbrev s_frame_of : Stmt := topS 41
abbrev N_frame_of : List Str := ["way", "body", "turnings", "inner", "put_together"]
abbrev P_frame_of : List Str := ["way", "body"]
theorem sc_frame_of : FnScope N_frame_of P_frame_of (C8.fnScope s_frame_of) := C8.fnScope_by (by decide +kernel)

abbrev s_exchanged : Stmt := topS 42
abbrev N_exchanged : List Str := ["turnings", "body", "turned", "signs", "sign"]
abbrev P_exchanged : List Str := ["turnings", "body"]
theorem sc_exchanged : FnScope N_exchanged P_exchanged (C8.fnScope s_exchanged) := C8.fnScope_by (by decide +kernel)

abbrev s_taken_out : Stmt := topS 43
abbrev N_taken_out : List Str := ["way", "signs", "turnings", "inner", "end", "take_apart", "body", "turning", "sign"]
abbrev P_taken_out : List Str := ["way", "signs"]
theorem sc_taken_out : FnScope N_taken_out P_taken_out (C8.fnScope s_taken_out) := C8.fnScope_by (by decide +kernel)

abbrev s_by_codes : Stmt := topS 44
abbrev N_by_codes : List Str := ["way", "body", "codes", "letter", "sign"]
abbrev P_by_codes : List Str := ["way", "body"]
theorem sc_by_codes : FnScope N_by_codes P_by_codes (C8.fnScope s_by_codes) := C8.fnScope_by (by decide +kernel)

abbrev s_from_codes : Stmt := topS 45
abbrev N_from_codes : List Str := ["way", "row", "letters", "body", "begun", "sign", "code", "letter"]
abbrev P_from_codes : List Str := ["way", "row"]
theorem sc_from_codes : FnScope N_from_codes P_from_codes (C8.fnScope s_from_codes) := C8.fnScope_by (by decide +kernel)

abbrev s_by_escapes : Stmt := topS 46
abbrev N_by_escapes : List Str := ["way", "body", "mark", "pairs", "codes", "frame", "sign", "code"]
abbrev P_by_escapes : List Str := ["way", "body"]
theorem sc_by_escapes : FnScope N_by_escapes P_by_escapes (C8.fnScope s_by_escapes) := C8.fnScope_by (by decide +kernel)

abbrev s_from_escapes : Stmt := topS 47
abbrev N_from_escapes : List Str := ["way", "row", "mark", "pairs", "signs", "body", "marked", "sign", "code"]
abbrev P_from_escapes : List Str := ["way", "row"]
theorem sc_from_escapes : FnScope N_from_escapes P_from_escapes (C8.fnScope s_from_escapes) := C8.fnScope_by (by decide +kernel)

abbrev s_by_counts : Stmt := topS 48
abbrev N_by_counts : List Str := ["way", "body", "_", "top", "end", "limit", "counts", "rows", "frame", "row", "last"]
abbrev P_by_counts : List Str := ["way", "body"]
theorem sc_by_counts : FnScope N_by_counts P_by_counts (C8.fnScope s_by_counts) := C8.fnScope_by (by decide +kernel)

abbrev s_rows_between : Stmt := topS 49
abbrev N_rows_between : List Str := ["body", "end", "rows", "sign"]
abbrev P_rows_between : List Str := ["body", "end"]
theorem sc_rows_between : FnScope N_rows_between P_rows_between (C8.fnScope s_rows_between) := C8.fnScope_by (by decide +kernel)

abbrev s_grouped : Stmt := topS 50
abbrev N_grouped : List Str := ["row", "counts", "whole", "groups", "left"]
abbrev P_grouped : List Str := ["row", "counts"]
theorem sc_grouped : FnScope N_grouped P_grouped (C8.fnScope s_grouped) := C8.fnScope_by (by decide +kernel)

abbrev s_from_counts : Stmt := topS 51
abbrev N_from_counts : List Str := ["way", "row", "_", "top", "end", "limit", "plain", "body", "at", "row_is_over", "count"]
abbrev P_from_counts : List Str := ["way", "row"]
theorem sc_from_counts : FnScope N_from_counts P_from_counts (C8.fnScope s_from_counts) := C8.fnScope_by (by decide +kernel)

abbrev s_by_ranks : Stmt := topS 52
abbrev N_by_ranks : List Str := ["way", "body", "_", "top", "end"]
abbrev P_by_ranks : List Str := ["way", "body"]
theorem sc_by_ranks : FnScope N_by_ranks P_by_ranks (C8.fnScope s_by_ranks) := C8.fnScope_by (by decide +kernel)

abbrev s_from_ranks : Stmt := topS 53
abbrev N_from_ranks : List Str := ["way", "row", "_", "top", "end"]
abbrev P_from_ranks : List Str := ["way", "row"]
theorem sc_from_ranks : FnScope N_from_ranks P_from_ranks (C8.fnScope s_from_ranks) := C8.fnScope_by (by decide +kernel)

abbrev s_parted : Stmt := topS 57
abbrev N_parted : List Str := ["way", "other", "signs"]
abbrev P_parted : List Str := ["way", "other"]
theorem sc_parted : FnScope N_parted P_parted (C8.fnScope s_parted) := C8.fnScope_by (by decide +kernel)

abbrev s_in_order : Stmt := topS 58
abbrev N_in_order : List Str := ["lists", "sized", "signs", "row", "size"]
abbrev P_in_order : List Str := ["lists"]
theorem sc_in_order : FnScope N_in_order P_in_order (C8.fnScope s_in_order) := C8.fnScope_by (by decide +kernel)

abbrev s_telling_lists : Stmt := topS 59
abbrev N_telling_lists : List Str := ["way", "_", "inner", "lists", "sign"]
abbrev P_telling_lists : List Str := ["way"]
theorem sc_telling_lists : FnScope N_telling_lists P_telling_lists (C8.fnScope s_telling_lists) := C8.fnScope_by (by decide +kernel)

abbrev s_one_too_many : Stmt := topS 60
abbrev N_one_too_many : List Str := ["way", "_", "top", "end", "limit", "plain"]
abbrev P_one_too_many : List Str := ["way"]
theorem sc_one_too_many : FnScope N_one_too_many P_one_too_many (C8.fnScope s_one_too_many) := C8.fnScope_by (by decide +kernel)

abbrev s_worst : Stmt := topS 62
abbrev N_worst : List Str := ["way", "many", "room", "body", "sign", "same", "size"]
abbrev P_worst : List Str := ["way", "many"]
theorem sc_worst : FnScope N_worst P_worst (C8.fnScope s_worst) := C8.fnScope_by (by decide +kernel)

abbrev s_frames_of : Stmt := topS 63
abbrev N_frames_of : List Str := ["way", "size", "_", "inner", "count"]
abbrev P_frames_of : List Str := ["way", "size"]
theorem sc_frames_of : FnScope N_frames_of P_frames_of (C8.fnScope s_frames_of) := C8.fnScope_by (by decide +kernel)

abbrev s_ranks_of_size : Stmt := topS 64
abbrev N_ranks_of_size : List Str := ["way", "size", "top", "first", "behind_last"]
abbrev P_ranks_of_size : List Str := ["way", "size"]
theorem sc_ranks_of_size : FnScope N_ranks_of_size P_ranks_of_size (C8.fnScope s_ranks_of_size) := C8.fnScope_by (by decide +kernel)

abbrev s_pieces_of_size : Stmt := topS 65
abbrev N_pieces_of_size : List Str := ["way", "size", "end_alone", "steps", "sign"]
abbrev P_pieces_of_size : List Str := ["way", "size"]
theorem sc_pieces_of_size : FnScope N_pieces_of_size P_pieces_of_size (C8.fnScope s_pieces_of_size) := C8.fnScope_by (by decide +kernel)

abbrev s_groups_of_size : Stmt := topS 66
abbrev N_groups_of_size : List Str := ["way", "size", "top", "limit", "whole", "steps", "state", "then", "closings"]
abbrev P_groups_of_size : List Str := ["way", "size"]
theorem sc_groups_of_size : FnScope N_groups_of_size P_groups_of_size (C8.fnScope s_groups_of_size) := C8.fnScope_by (by decide +kernel)

abbrev s_bodies_of_size : Stmt := topS 67
abbrev N_bodies_of_size : List Str := ["steps", "closings", "size", "found", "bodies", "_", "longer", "state", "room", "many", "then", "grown", "signs", "key", "closing", "last"]
abbrev P_bodies_of_size : List Str := ["steps", "closings", "size"]
theorem sc_bodies_of_size : FnScope N_bodies_of_size P_bodies_of_size (C8.fnScope s_bodies_of_size) := C8.fnScope_by (by decide +kernel)

abbrev s__law_dice : Stmt := topS 70
abbrev N__law_dice : List Str := ["_law_script", "_law_k", "_law_found", "_law_cell"]
abbrev P__law_dice : List Str := ["_law_script", "_law_k"]
theorem sc__law_dice : FnScope N__law_dice P__law_dice (C8.fnScope s__law_dice) := C8.fnScope_by (by decide +kernel)

abbrev s__law_off : Stmt := topS 71
abbrev N__law_off : List Str := ["_law_d", "_law_most", "_law_found"]
abbrev P__law_off : List Str := ["_law_d", "_law_most"]
theorem sc__law_off : FnScope N__law_off P__law_off (C8.fnScope s__law_off) := C8.fnScope_by (by decide +kernel)

abbrev s__law_alike : Stmt := topS 72
abbrev N__law_alike : List Str := ["_law_found", "_law_due", "_law_k"]
abbrev P__law_alike : List Str := ["_law_found", "_law_due"]
theorem sc__law_alike : FnScope N__law_alike P__law_alike (C8.fnScope s__law_alike) := C8.fnScope_by (by decide +kernel)

abbrev s__law_mixed : Stmt := topS 73
abbrev N__law_mixed : List Str := ["_law_d", "_law_row", "_law_left", "_law_found"]
abbrev P__law_mixed : List Str := ["_law_d", "_law_row"]
theorem sc__law_mixed : FnScope N__law_mixed P__law_mixed (C8.fnScope s__law_mixed) := C8.fnScope_by (by decide +kernel)

abbrev s__law_plain : Stmt := topS 74
abbrev N__law_plain : List Str := ["_law_top_here", "_law_end_here", "_law_sign"]
abbrev P__law_plain : List Str := ["_law_top_here", "_law_end_here"]
theorem sc__law_plain : FnScope N__law_plain P__law_plain (C8.fnScope s__law_plain) := C8.fnScope_by (by decide +kernel)

abbrev s__law_codes : Stmt := topS 75
abbrev N__law_codes : List Str := ["_law_d", "_law_top_here", "_law_end_here", "_law_plain_here", "_law_leaves", "_law_turn", "_law_short", "_law_code", "_law_sign"]
abbrev P__law_codes : List Str := ["_law_d", "_law_top_here", "_law_end_here"]
theorem sc__law_codes : FnScope N__law_codes P__law_codes (C8.fnScope s__law_codes) := C8.fnScope_by (by decide +kernel)

abbrev s__law_escapes : Stmt := topS 76
abbrev N__law_escapes : List Str := ["_law_d", "_law_top_here", "_law_end_here", "_law_plain_here", "_law_mark", "_law_more", "_law_signs_here", "_law_codes_here", "_law_sign", "_law_k"]
abbrev P__law_escapes : List Str := ["_law_d", "_law_top_here", "_law_end_here"]
theorem sc__law_escapes : FnScope N__law_escapes P__law_escapes (C8.fnScope s__law_escapes) := C8.fnScope_by (by decide +kernel)

abbrev s__law_base : Stmt := topS 77
abbrev N__law_base : List Str := ["_law_d", "_law_top_here", "_law_end_here", "_law_kind"]
abbrev P__law_base : List Str := ["_law_d", "_law_top_here"]
theorem sc__law_base : FnScope N__law_base P__law_base (C8.fnScope s__law_base) := C8.fnScope_by (by decide +kernel)

abbrev s__law_turned : Stmt := topS 78
abbrev N__law_turned : List Str := ["_law_d", "_law_way_here", "_law_most", "_law_turn"]
abbrev P__law_turned : List Str := ["_law_d", "_law_way_here", "_law_most"]
theorem sc__law_turned : FnScope N__law_turned P__law_turned (C8.fnScope s__law_turned) := C8.fnScope_by (by decide +kernel)

abbrev s__law_core : Stmt := topS 79
abbrev N__law_core : List Str := ["_law_way_here"]
abbrev P__law_core : List Str := ["_law_way_here"]
theorem sc__law_core : FnScope N__law_core P__law_core (C8.fnScope s__law_core) := C8.fnScope_by (by decide +kernel)

abbrev s__law_top : Stmt := topS 80
abbrev N__law_top : List Str := ["_law_way_here"]
abbrev P__law_top : List Str := ["_law_way_here"]
theorem sc__law_top : FnScope N__law_top P__law_top (C8.fnScope s__law_top) := C8.fnScope_by (by decide +kernel)

abbrev s__law_end : Stmt := topS 81
abbrev N__law_end : List Str := ["_law_way_here"]
abbrev P__law_end : List Str := ["_law_way_here"]
theorem sc__law_end : FnScope N__law_end P__law_end (C8.fnScope s__law_end) := C8.fnScope_by (by decide +kernel)

abbrev s__law_size : Stmt := topS 82
abbrev N__law_size : List Str := ["_law_d"]
abbrev P__law_size : List Str := ["_law_d"]
theorem sc__law_size : FnScope N__law_size P__law_size (C8.fnScope s__law_size) := C8.fnScope_by (by decide +kernel)

abbrev s__law_way : Stmt := topS 83
abbrev N__law_way : List Str := ["_law_d"]
abbrev P__law_way : List Str := ["_law_d"]
theorem sc__law_way : FnScope N__law_way P__law_way (C8.fnScope s__law_way) := C8.fnScope_by (by decide +kernel)

abbrev s__law_body : Stmt := topS 84
abbrev N__law_body : List Str := ["_law_d", "_law_top_here", "_law_end_here", "_law_most", "_law_size_here", "_law_kind", "_law_one_here", "_law_found", "_law_k"]
abbrev P__law_body : List Str := ["_law_d", "_law_top_here", "_law_end_here", "_law_most"]
theorem sc__law_body : FnScope N__law_body P__law_body (C8.fnScope s__law_body) := C8.fnScope_by (by decide +kernel)

abbrev s__law_number : Stmt := topS 85
abbrev N__law_number : List Str := ["_law_row", "_law_many", "_law_found", "_law_ahead", "_law_lists", "_law_sign"]
abbrev P__law_number : List Str := ["_law_row", "_law_many"]
theorem sc__law_number : FnScope N__law_number P__law_number (C8.fnScope s__law_number) := C8.fnScope_by (by decide +kernel)

abbrev s__law_list : Stmt := topS 86
abbrev N__law_list : List Str := ["_law_number_here", "_law_many", "_law_size_here", "_law_lists", "_law_found", "_law_turn"]
abbrev P__law_list : List Str := ["_law_number_here", "_law_many"]
theorem sc__law_list : FnScope N__law_list P__law_list (C8.fnScope s__law_list) := C8.fnScope_by (by decide +kernel)

abbrev s__law_rows : Stmt := topS 87
abbrev N__law_rows : List Str := ["_law_row", "_law_end_here", "_law_cuts", "_law_k"]
abbrev P__law_rows : List Str := ["_law_row", "_law_end_here"]
theorem sc__law_rows : FnScope N__law_rows P__law_rows (C8.fnScope s__law_rows) := C8.fnScope_by (by decide +kernel)

abbrev s__law_counted : Stmt := topS 88
abbrev N__law_counted : List Str := ["_law_row", "_law_end_here", "_law_plain_here", "_law_limit", "_law_rows_here", "_law_size_here", "_law_found", "_law_at", "_law_left", "_law_turn"]
abbrev P__law_counted : List Str := ["_law_row", "_law_end_here", "_law_plain_here", "_law_limit"]
theorem sc__law_counted : FnScope N__law_counted P__law_counted (C8.fnScope s__law_counted) := C8.fnScope_by (by decide +kernel)

abbrev s__law_framed : Stmt := topS 89
abbrev N__law_framed : List Str := ["_law_way_here", "_law_body_here", "_law_plain_here", "_law_row", "_law_found", "_law_sign", "_law_codes_here", "_law_k", "_law_code", "_law_one_here"]
abbrev P__law_framed : List Str := ["_law_way_here", "_law_body_here"]
theorem sc__law_framed : FnScope N__law_framed P__law_framed (C8.fnScope s__law_framed) := C8.fnScope_by (by decide +kernel)

abbrev s__law_turns : Stmt := topS 90
abbrev N__law_turns : List Str := ["_law_way_here", "_law_found"]
abbrev P__law_turns : List Str := ["_law_way_here"]
theorem sc__law_turns : FnScope N__law_turns P__law_turns (C8.fnScope s__law_turns) := C8.fnScope_by (by decide +kernel)

abbrev s__law_escape_codes : Stmt := topS 91
abbrev N__law_escape_codes : List Str := ["_law_way_here", "_law_codes_here", "_law_sign", "_law_code"]
abbrev P__law_escape_codes : List Str := ["_law_way_here"]
theorem sc__law_escape_codes : FnScope N__law_escape_codes P__law_escape_codes (C8.fnScope s__law_escape_codes) := C8.fnScope_by (by decide +kernel)

abbrev s__law_signs : Stmt := topS 92
abbrev N__law_signs : List Str := ["_law_d", "_law_way_here", "_law_most", "_law_top_here", "_law_end_here", "_law_found", "_law_turn", "_law_k"]
abbrev P__law_signs : List Str := ["_law_d", "_law_way_here", "_law_most"]
theorem sc__law_signs : FnScope N__law_signs P__law_signs (C8.fnScope s__law_signs) := C8.fnScope_by (by decide +kernel)

abbrev s__law_escaped : Stmt := topS 93
abbrev N__law_escaped : List Str := ["_law_way_here"]
abbrev P__law_escaped : List Str := ["_law_way_here"]
theorem sc__law_escaped : FnScope N__law_escaped P__law_escaped (C8.fnScope s__law_escaped) := C8.fnScope_by (by decide +kernel)

abbrev s__law_folded : Stmt := topS 94
abbrev N__law_folded : List Str := ["_law_way_here", "_law_signs_here", "_law_inner", "_law_sign"]
abbrev P__law_folded : List Str := ["_law_way_here"]
theorem sc__law_folded : FnScope N__law_folded P__law_folded (C8.fnScope s__law_folded) := C8.fnScope_by (by decide +kernel)

abbrev s__law_otherwise : Stmt := topS 95
abbrev N__law_otherwise : List Str := ["_law_d", "_law_way_here", "_law_top_here", "_law_signs_here", "_law_inner", "_law_sign"]
abbrev P__law_otherwise : List Str := ["_law_d", "_law_way_here"]
theorem sc__law_otherwise : FnScope N__law_otherwise P__law_otherwise (C8.fnScope s__law_otherwise) := C8.fnScope_by (by decide +kernel)

abbrev s__law_one : Stmt := topS 96
abbrev N__law_one : List Str := ["_law_d", "_law_way_here", "_law_other", "_law_top_here", "_law_turn", "_law_body_here", "_law_row", "_law_many"]
abbrev P__law_one : List Str := ["_law_d", "_law_way_here", "_law_other"]
theorem sc__law_one : FnScope N__law_one P__law_one (C8.fnScope s__law_one) := C8.fnScope_by (by decide +kernel)

abbrev s_law : Stmt := topS 97
abbrev N_law : List Str := ["_law_script", "_law_d", "_law_turn", "_law_way_here", "_law_other", "_law_third", "_law_signs_here", "_law_inner", "_law_found"]
abbrev P_law : List Str := ["_law_script"]
theorem sc_law : FnScope N_law P_law (C8.fnScope s_law) := C8.fnScope_by (by decide +kernel)

/-- the built-in names that the text leaves alone -/
structure Blt (mg : Str → Option Value) : Prop where
  abs_ : mg "abs" = none
  all_ : mg "all" = none
  enumerate_ : mg "enumerate" = none
  int_ : mg "int" = none
  isinstance_ : mg "isinstance" = none
  len_ : mg "len" = none
  list_ : mg "list" = none
  max_ : mg "max" = none
  min_ : mg "min" = none
  range_ : mg "range" = none
  reversed_ : mg "reversed" = none
  set_ : mg "set" = none
  sorted_ : mg "sorted" = none
  sum_ : mg "sum" = none
  tuple_ : mg "tuple" = none
  type_ : mg "type" = none
end Esc

namespace Esc
open PySem PySem.Spec PyProof.Rows L2
section
variable {P : Program} {w : World} {K : PySem.W.Frag} {mg : Str → Option Value} {base : Heap}
/-! ### is_whole, is_sign, is_top: of whole numbers -/
def spWholeI : Sp := fun vs H Q _ => ∃ n : Int, vs = [.int n] ∧ Q (.bl true) H
theorem c_is_whole (Z : Blt mg) (d : Dd K mg "is_whole" s_is_whole P_is_whole) : C8.Cal P w K mg base 1 "is_whole" spWholeI [] := by
  refine d.cal sc_is_whole (fun vs H Q E h => ?_) (fun f cdv A outer s H vs Q E hr h => ?_)
  · obtain ⟨n, rfl, _⟩ := h
    rfl
  · obtain ⟨n, rfl, q⟩ := h
    have nd := sc_is_whole.nd
    refine ⟨_, (pss_one (ps_ret (pe_cmpR k_isTy (pe_callTy call_type1 (by rfl) Z.type_ (by decide +kernel) (pa_cons (pv 0) pa_nil)) (pe_bltn (v := .ty "int") (u := .type "int") (by rfl) Z.int_ (by decide +kernel) rfl) (nomark _)))), ?_⟩
    refine i_start (σ' := [some (.int n)]) rfl ?_
    walk_at "go"
    walk_at "r"
    rw [decide_eq_true rfl]
    exact q
def spSignI : Sp := fun vs H Q _ => ∃ n t : Int, vs = [.int n, .int t] ∧ Q (.bl (decide (0 ≤ n ∧ n < t))) H
theorem c_is_sign (Z : Blt mg) (c_is_whole : C8.Cal P w K mg base 1 "is_whole" spWholeI []) (d : Dd K mg "is_sign" s_is_sign P_is_sign) : C8.Cal P w K mg base 2 "is_sign" spSignI [] := by
  refine d.cal sc_is_sign (fun vs H Q E h => ?_) (fun f cdv A outer s H vs Q E hr h => ?_)
  · obtain ⟨n, t, rfl, _⟩ := h
    rfl
  · obtain ⟨n, t, rfl, q⟩ := h
    have nd := sc_is_sign.nd
    refine ⟨_, (pss_one (ps_ret (pe_and (C8.pe_c c_is_whole hr (by decide) (by rfl) (pa_cons (pv 0) pa_nil)) (pe_one (pe_chain op_le op_lt pe_int (pv 0) (pv 1)))))), ?_⟩
    refine i_start (σ' := [some (.int n), some (.int t)]) rfl ?_
    walk_at "go"
    walk_at "r"
    refine ⟨n, rfl, ?_⟩
    walk_at "r"
    refine i_br (fun h1 => ?_) (fun h1 => ?_)
    · walk_at "r"
      rw [show decide (n < t) = decide (0 ≤ n ∧ n < t) from decide_eq_decide.mpr ⟨fun h => ⟨h1, h⟩, fun h => h.2⟩]
      exact q
    · walk_at "r"
      rw [decide_eq_false (fun h => h1 h.1)] at q
      exact q
def spTopI : Sp := fun vs H Q _ => ∃ n : Int, vs = [.int n] ∧ Q (.bl (decide (3 ≤ n ∧ n ≤ 16))) H
theorem c_is_top (Z : Blt mg) (c_is_whole : C8.Cal P w K mg base 1 "is_whole" spWholeI []) (m_LEAST_TOP : ∃ u, mg "LEAST_TOP" = some u ∧ RelV (.int 3) u) (m_MOST_TOP : ∃ u, mg "MOST_TOP" = some u ∧ RelV (.int 16) u)
    (d : Dd K mg "is_top" s_is_top P_is_top) : C8.Cal P w K mg base 2 "is_top" spTopI [] := by
  refine d.cal sc_is_top (fun vs H Q E h => ?_) (fun f cdv A outer s H vs Q E hr h => ?_)
  · obtain ⟨n, rfl, _⟩ := h
    rfl
  · obtain ⟨n, rfl, q⟩ := h
    have nd := sc_is_top.nd
    refine ⟨_, (pss_one (ps_ret (pe_and (C8.pe_c c_is_whole hr (by decide) (by rfl) (pa_cons (pv 0) pa_nil)) (pe_one (pe_chain op_le op_le (C8.pe_gc rfl m_LEAST_TOP) (pv 0) (C8.pe_gc rfl m_MOST_TOP)))))), ?_⟩
    refine i_start (σ' := [some (.int n)]) rfl ?_
    walk_at "go"
    walk_at "r"
    refine ⟨n, rfl, ?_⟩
    walk_at "r"
    refine i_br (fun h1 => ?_) (fun h1 => ?_)
    · walk_at "r"
      rw [show decide (n ≤ 16) = decide (3 ≤ n ∧ n ≤ 16) from decide_eq_decide.mpr ⟨fun h => ⟨h1, h⟩, fun h => h.2⟩]
      exact q
    · walk_at "r"
      rw [decide_eq_false (fun h => h1 h.1)] at q
      exact q
/-! ### plain signs -/
def spPlain : Sp := fun vs H Q _ => ∃ t e : Int, vs = [.int t, .int e] ∧ 0 ≤ t ∧ t < 1000 ∧ ∀ p H', H p = none → Same H H' → H' p = some (.lst ((plainL t e).map V.int)) → Q (.ref p) H'
theorem c_plain_signs (Z : Blt mg) (d : Dd K mg "plain_signs" s_plain_signs P_plain_signs) : C8.Cal P w K mg base 1 "plain_signs" spPlain [] := by
  refine d.cal sc_plain_signs (fun vs H Q E h => ?_) (fun f cdv A outer s H vs Q E hr h => ?_)
  · obtain ⟨t, e, rfl, _⟩ := h
    rfl
  · obtain ⟨t, e, rfl, h1, h2, q⟩ := h
    have nd := sc_plain_signs.nd
    refine ⟨_, (pss_one (ps_ret (pe_lc (own := [("sign", 2)]) (g := gName 2) rfl nd (pi_range1 rfl Z.range_ (pa_cons (pv 0) pa_nil)) (blkOk_by (N := N_plain_signs) (sc := C8.fnScope s_plain_signs) (own := [("sign", 2)]) (by decide +kernel)) (fun _ _ _ _ _ => (pg_name (i := 2) nd rfl (Or.inl rfl))) (fun _ _ _ _ _ => pts_one (pt_cmpR op_ne (pv 2) (pv 1) (nomark _))) (fun _ _ _ _ _ => (pv 2))))), ?_⟩
    refine i_start (σ' := [some (.int t), some (.int e), none]) rfl ?_
    walk_at "go"
    walk_at "r"
    refine i_lcR (F := fun (i : Nat) => if (i : Int) = e then none else some (V.int (i : Int))) ⟨h1, by omega⟩ (fun i hi H1 s1 QN QY hN hY => ?_) (by rw [plainL_map]; exact q)
    walk_at "r"
    refine i_nbr (fun h => ?_) (fun h => ?_)
    · walk_at "r"
      exact hN (if_pos h) _ (Same.refl _)
    · walk_at "r"
      exact hY _ (if_neg h) _ (Same.refl _)
/-! ### first_unsigned: None of signs, else some place -/
def spFirst (K : PySem.W.Frag) : Sp := fun vs H Q _ => ∃ (a : Addr) (ns : List Int) (t : Int), vs = [.ref a, .int t] ∧ SqL K H a (ns.map V.int) ∧ (∀ n ∈ ns, 0 ≤ n ∧ n < t) ∧ ∀ H', Same H H' → Q .non H'
theorem c_first_unsigned (Z : Blt mg) (c_is_sign : C8.Cal P w K mg base 2 "is_sign" spSignI []) (d : Dd K mg "first_unsigned" s_first_unsigned P_first_unsigned) : C8.Cal P w K mg base 3 "first_unsigned" (spFirst K) [] := by
  refine d.cal sc_first_unsigned (fun vs H Q E h => ?_) (fun f cdv A outer s H vs Q E hr h => ?_)
  · obtain ⟨a, ns, t, rfl, _⟩ := h
    rfl
  · obtain ⟨a, ns, t, rfl, ha, hn, q⟩ := h
    have nd := sc_first_unsigned.nd
    refine ⟨_, (pss_cons (ps_for PassesOwn.never rfl (pi_enum rfl Z.enumerate_ (pa_cons (pv 0) pa_nil)) (pg_tup rfl (pgs_cons (pg_name (i := 2) nd rfl (Or.inl rfl)) (pgs_cons (pg_name (i := 3) nd rfl (Or.inl rfl)) pgs_nil)))
    (pss_one (ps_if (pt_not (pt_val (C8.pe_c c_is_sign hr (by decide) (by rfl) (pa_cons (pv 3) (pa_cons (pv 1) pa_nil))))) (pss_one (ps_ret (pv 2))) pss_nil)))
  (pss_one (ps_ret pe_non))), ?_⟩
    refine i_start (σ' := [some (.ref a), some (.int t), none, none]) rfl ?_
    walk_at "go"
    walk_at "r"
    refine i_enum ha (fun i σ' H' => ∃ x y, σ' = [some (.ref a), some (.int t), x, y] ∧ Same H H') ⟨_, _, rfl, Same.refl _⟩ (fun i σ' H' _ ⟨_, _, _, s1⟩ => s1.seq ha) (fun i x σ' H1 T H2 hi p hT s2 eT => ?_) (fun σ' H1 p => ?_)
    · obtain ⟨y1, y2, rfl, s1⟩ := p
      obtain ⟨n, hn1, rfl⟩ := List.mem_map.mp (List.mem_of_getElem? hi)
      walk_at "r"
      refine ⟨n, t, rfl, ?_⟩
      rw [decide_eq_true (hn n hn1)]
      walk_at "r"
      exact ⟨_, _, rfl, s1.trans s2⟩
    · obtain ⟨y1, y2, rfl, s1⟩ := p
      walk_at "r"
      exact q _ s1
def spRanksFault : Sp := fun vs H Q _ => ∃ v, vs = [v] ∧ Q .non H
theorem c_ranks_fault (d : Dd K mg "ranks_fault" s_ranks_fault P_ranks_fault) : C8.Cal P w K mg base 1 "ranks_fault" spRanksFault [] := by
  refine d.cal sc_ranks_fault (fun vs H Q E h => ?_) (fun f cdv A outer s H vs Q E hr h => ?_)
  · obtain ⟨v, rfl, _⟩ := h
    rfl
  · obtain ⟨v, rfl, q⟩ := h
    have nd := sc_ranks_fault.nd
    refine ⟨_, (pss_one (ps_ret pe_non)), ?_⟩
    refine i_start (σ' := [some v]) rfl ?_
    walk_at "go"
    walk_at "r"
    exact q
/-! ### the number of a row -/
def spRankOf (K : PySem.W.Frag) : Sp := fun vs H Q _ => ∃ (a b : Addr) (row ls : List Int), vs = [.ref a, .ref b] ∧ SqL K H a (row.map V.int) ∧ SqL K H b (ls.map V.int) ∧ ls.Nodup ∧ (∀ x ∈ row, x ∈ ls) ∧ ls.length ≤ 1000 ∧
  ∀ H', Same H H' → Q (.int ((rankD ls.length (row.map fun x => ls.idxOf x) : Nat) : Int)) H'
theorem c_rank_of (Z : Blt mg) (d : Dd K mg "rank_of" s_rank_of P_rank_of) : C8.Cal P w K mg base 1 "rank_of" (spRankOf K) [] := by
  refine d.cal sc_rank_of (fun vs H Q E h => ?_) (fun f cdv A outer s H vs Q E hr h => ?_)
  · obtain ⟨a, b, row, ls, rfl, _⟩ := h
    rfl
  · obtain ⟨a, b, row, ls, rfl, ha, hb, hnd, hin, hlen, q⟩ := h
    have nd := sc_rank_of.nd
    refine ⟨_, (pss_cons (ps_setDc (i := 2) (own := [("at", 5), ("letter", 4)]) (g := gTup K 2 (gCons (gName 5) (gCons (gName 4) gNil))) (tt := tYes) rfl nd rfl rfl (sw_dc rfl rfl rfl (by decide +kernel)) (pi_enum rfl Z.enumerate_ (pa_cons (pv 1) pa_nil)) (blkOk_by (N := N_rank_of) (sc := C8.fnScope s_rank_of) (own := [("at", 5), ("letter", 4)]) (by decide +kernel)) (fun _ _ _ _ _ => (pg_tup rfl (pgs_cons (pg_name (i := 5) nd rfl (Or.inl rfl)) (pgs_cons (pg_name (i := 4) nd rfl (Or.inl rfl)) pgs_nil)))) (fun _ _ _ _ _ => pts_nil) (fun _ _ _ _ _ => (pv 4)) (fun _ _ _ _ _ => (pv 5)))
  (pss_cons (ps_set (i := 3) nd rfl (Or.inl rfl) pe_int)
  (pss_cons (ps_for PassesOwn.never rfl (pi_list (pv 0)) (pg_name (i := 4) nd rfl (Or.inl rfl))
    (pss_one (ps_set (i := 3) nd rfl (Or.inl rfl) (pe_op op_add (pe_op op_add (pe_op op_mul (pv 3) (pe_callB k_len (by rfl) Z.len_ (by decide +kernel) (pa_cons (pv 1) pa_nil))) (pe_dget (hu_of hr) (pv 2) (pv 4) (fun _ _ => rfl))) pe_int))))
  (pss_one (ps_ret (pv 3)))))), ?_⟩
    refine i_start (σ' := [some (.ref a), some (.ref b), none, none, none, none]) rfl ?_
    walk_at "go"
    walk_at "r"
    refine i_dcE (fun i => pk 0 (ls.take i)) rfl (fun i => by rw [pk_len, List.length_take]; exact Nat.min_le_left _ _) hb (by rw [List.length_map]; omega) (fun D i x T H1 hD hi s1 eD eT nTD Nx hN => ?_) (fun p H1 hp s1 e1 => ?_)
    · obtain ⟨n, hn, rfl⟩ := map_get hi
      walk_at "r"
      have e1 : valV (pk 0 (ls.take i)) (Sum.inl n) = none := pk_none _ _ _ (nodup_take hnd hn)
      have il : i < ls.length := (List.getElem?_eq_some_iff.mp hn).1
      refine ⟨_, Sum.inl n, rfl, eD, szl (by rw [pk_len, List.length_take]; omega), hN _ (smut s1 hD) ?_⟩
      rw [upd_same, putK_new _ e1, take_succ' hn, pk_snoc, Nat.zero_add, List.length_take, Nat.min_eq_left (by omega)]
    · rw [List.length_map, List.take_length] at e1
      walk_at "r"
      refine i_for (s1.seq ha) (fun i σ' H' => ∃ y z, σ' = [some (.ref a), some (.ref b), some (.ref p), some (.int ((rankD ls.length ((row.take i).map fun x => ls.idxOf x) : Nat) : Int)), y, z] ∧ Same H1 H') ⟨_, _, rfl, Same.refl _⟩ (fun i σ' H' _ ⟨_, _, _, s2⟩ => s2.seq (s1.seq ha)) (fun i x σ' H2 hi pv => ?_) (fun σ' H2 pv => ?_)
      · obtain ⟨y, z, rfl, s2⟩ := pv
        obtain ⟨n, hn, rfl⟩ := map_get hi
        have hb2 := s2.seq (s1.seq hb)
        have ep := s2 _ _ e1
        walk_at "r"
        have hv := pk_some ls 0 n (hin n (List.mem_of_getElem? hn))
        have hg : DGet H2 p (.int n) (some (V.int ((0 + ls.idxOf n : Nat) : Int))) := by
          rw [← hv]
          exact DGet.k (k := Sum.inl n) ep
        refine ⟨p, _, rfl, hg, ?_⟩
        walk_at "r"
        refine ⟨some (.int n), z, ?_, s2⟩
        rw [take_succ' hn, List.map_append, List.map_singleton, rankD_snoc, Nat.zero_add]
        push_cast
        rfl
      · obtain ⟨y, z, rfl, s2⟩ := pv
        rw [List.length_map, List.take_length]
        walk_at "r"
        exact q _ (s1.trans s2)
/-! ### the row of a number -/
def spRowOf (K : PySem.W.Frag) : Sp := fun vs H Q _ => ∃ (r : Nat) (b : Addr) (ls : List Int), vs = [.int (r : Int), .ref b] ∧ SqL K H b (ls.map V.int) ∧ 0 < ls.length ∧ ls.length ≤ 1000 ∧ (rowD ls.length r).length ≤ 1000 ∧
  ∀ p H', H p = none → Same H H' → H' p = some (.lst ((rowD ls.length r).map fun d => V.int (ls.getD d 0))) → Q (.ref p) H'
theorem c_row_of (Z : Blt mg) (d : Dd K mg "row_of" s_row_of P_row_of) : C8.Cal P w K mg base 1 "row_of" (spRowOf K) [] := by
  refine d.cal sc_row_of (fun vs H Q E h => ?_) (fun f cdv A outer s H vs Q E hr h => ?_)
  · obtain ⟨r, b, ls, rfl, _⟩ := h
    rfl
  · obtain ⟨r, b, ls, rfl, hb, h0, hlen, hrow, q⟩ := h
    have nd := sc_row_of.nd
    refine ⟨_, (pss_cons (ps_set (i := 2) nd rfl (Or.inl rfl) (pe_callB k_len (by rfl) Z.len_ (by decide +kernel) (pa_cons (pv 1) pa_nil)))
  (pss_cons (ps_set (i := 3) nd rfl (Or.inl rfl) (pe_lst pa_nil))
  (pss_cons (ps_set (i := 4) nd rfl (Or.inl rfl) (pv 0))
  (pss_cons (ps_while PassesOwn.never (pt_cmpR op_gt (pv 4) pe_int (nomark _))
    (pss_cons (ps_expr (pe_bm PySem.F.plainAttrs_list PySem.F.slot_list_append PySem.F.type_list_append mt_append (pv 3) (pa_cons (pe_ix ix_list (pv 1) (pe_op op_mod (pe_op op_sub (pv 4) pe_int) (pv 2)) (fun _ _ => rfl)) pa_nil)))
  (pss_one (ps_set (i := 4) nd rfl (Or.inl rfl) (pe_op op_fdiv (pe_op op_sub (pv 4) pe_int) (pv 2))))))
  (pss_one (ps_ret (pe_revL (pv 3)))))))), ?_⟩
    refine i_start (σ' := [some (.int r), some (.ref b), none, none, none]) rfl ?_
    walk_at "go"
    walk_at "r"
    refine i_lst (Nat.zero_le _) (fun p H1 hp s1 e1 => ?_)
    walk_at "r"
    refine i_while (fun m σ' H' => ∃ acc : List Nat, σ' = [some (.int r), some (.ref b), some (.int ls.length), some (.ref p), some (.int (m : Nat))] ∧ Same H H' ∧ H' p = some (.lst (acc.map fun d => V.int (ls.getD d 0))) ∧ rowD ls.length m ++ acc.reverse = rowD ls.length r) r ⟨[], rfl, s1, e1, by simp⟩ (fun m σ' H' pv => ?_)
    obtain ⟨acc, rfl, s2, e2, ea⟩ := pv
    have hb2 := s2.seq hb
    have lacc : acc.length ≤ 1000 := by
      have z := congrArg List.length ea
      rw [List.length_append, List.length_reverse] at z
      omega
    walk_at "r"
    refine i_br (fun h => ?_) (fun h => ?_)
    · have hm : m ≠ 0 := by omega
      have em : (m : Int) - 1 = ((m - 1 : Nat) : Int) := by omega
      walk_at "r"
      refine i_ixL hb2 (v := .int (ls.getD ((m - 1) % ls.length) 0)) ?_ ?_
      · rw [em, ← Int.natCast_emod]
        have hlt : (m - 1) % ls.length < ls.length := Nat.mod_lt _ h0
        refine atI_nat ?_
        rw [List.getElem?_map, List.getElem?_eq_getElem hlt, List.getD_eq_getElem?_getD, List.getElem?_eq_getElem hlt]
        rfl
      · walk_at "r"
        refine ⟨(m - 1) / ls.length, div_lt' hm, acc ++ [(m - 1) % ls.length], ?_, smut s2 hp, ?_, ?_⟩
        · rw [em, ← Int.natCast_ediv]
        · rw [upd_same, List.map_append]
          rfl
        · rw [List.reverse_append, ← ea, rowD_pos hm, List.append_assoc]
          rfl
    · have hm : m = 0 := by omega
      subst hm
      walk_at "r"
      refine i_rev (sl_of e2) (fun p2 H2 hp2 s3 e3 => ?_)
      rw [rowD_zero, List.nil_append] at ea
      rw [← List.map_reverse, ea] at e3
      exact q p2 H2 (s2.free hp2) (s2.trans s3) e3
/-! ### a way without its turned ones -/
def spUnturned (K : PySem.W.Frag) : Sp := fun vs H Q _ => ∃ (v : V) (ts : List (Addr × List Int)) (p : Addr) (k : Str) (xs : List V), vs = [v] ∧ TurnAt K H ts v (.ref p) ∧ SqT K H p (.str k :: xs) ∧ k ≠ "turned" ∧ ts.length ≤ 1000 ∧
  ∀ q l H', H q = none → H l = none → Same H H' → H' q = some (.tup [.ref l, .ref p]) → H' l = some (.lst (ts.map fun t => V.ref t.1)) → Q (.ref q) H'
theorem c_unturned (d : Dd K mg "unturned" s_unturned P_unturned) : C8.Cal P w K mg base 1 "unturned" (spUnturned K) [] := by
  refine d.cal sc_unturned (fun vs H Q E h => ?_) (fun f cdv A outer s H vs Q E hr h => ?_)
  · obtain ⟨v, ts, p, k, xs, rfl, _⟩ := h
    rfl
  · obtain ⟨v, ts, pi, k, xs, rfl, ht, hk, hne, hlen, q⟩ := h
    have nd := sc_unturned.nd
    refine ⟨_, (pss_cons (ps_set (i := 1) nd rfl (Or.inl rfl) (pe_lst pa_nil))
  (pss_cons (ps_set (i := 2) nd rfl (Or.inl rfl) (pv 0))
  (pss_cons (ps_while PassesOwn.never (pt_cmpR op_eq (pe_ix ix_tup (pv 2) pe_int (fun _ _ => rfl)) pe_str (nomark _))
    (pss_cons (ps_expr (pe_bm PySem.F.plainAttrs_list PySem.F.slot_list_append PySem.F.type_list_append mt_append (pv 1) (pa_cons (pe_ix ix_tup (pv 2) pe_int (fun _ _ => rfl)) pa_nil)))
  (pss_one (ps_set (i := 2) nd rfl (Or.inl rfl) (pe_ix ix_tup (pv 2) pe_int (fun _ _ => rfl))))))
  (pss_one (ps_ret (pe_tup (pa_cons (pv 1) (pa_cons (pv 2) pa_nil)))))))), ?_⟩
    refine i_start (σ' := [some v, none, none]) rfl ?_
    walk_at "go"
    walk_at "r"
    refine i_lst (Nat.zero_le _) (fun p H1 hp s1 e1 => ?_)
    walk_at "r"
    refine i_while (fun m σ' H' => ∃ ds r x, ts = ds ++ r ∧ m = r.length ∧ σ' = [some v, some (.ref p), some x] ∧ Same H H' ∧ H' p = some (.lst (ds.map fun t => V.ref t.1)) ∧ TurnAt K H r x (.ref pi)) ts.length ⟨[], ts, v, rfl, rfl, rfl, s1, e1, ht⟩ (fun m σ' H' pv => ?_)
    obtain ⟨ds, r, x, rfl, rfl, rfl, s2, e2, hr2⟩ := pv
    cases r with
    | nil =>
      cases hr2
      have hk2 := stup s2 hk
      walk_at "r"
      refine i_no hne ?_
      walk_at "r"
      refine i_tup (by show 2 ≤ sizeLine; decide) (fun p2 H2 hp2 s3 e3 => ?_)
      rw [List.append_nil] at q
      exact q p2 p H2 (s2.free hp2) hp (s2.trans s3) e3 (s3 _ _ e2)
    | cons t r =>
      obtain ⟨a, t⟩ := t
      obtain ⟨p2, y, rfl, h1, h2, h3⟩ := hr2
      have h1' := stup s2 h1
      rw [List.length_append, List.length_cons] at hlen
      walk_at "r"
      refine i_yes rfl ?_
      walk_at "r"
      refine ⟨r.length, by show r.length < r.length + 1; omega, ds ++ [(a, t)], r, y, by rw [List.append_assoc]; rfl, rfl, rfl, smut s2 hp, ?_, h3⟩
      rw [upd_same, List.map_append]
      rfl
end
end Esc

namespace Esc
open PySem PySem.Spec PyProof.Rows L2
/-- a row of draws -/
def DiceAt (H : Hp) (d : Addr) : Prop := ∃ (x c : Int) (r : List Int), H d = some (.lst (V.int x :: V.int c :: r.map V.int)) ∧ 0 ≤ x ∧ 0 ≤ c ∧ (∀ y ∈ r, 0 ≤ y) ∧ r.length ≤ 63
theorem DiceAt.mk {H : Hp} {d : Addr} {x c : Int} {r : List Int} (h : H d = some (.lst (V.int x :: V.int c :: r.map V.int))) (hx : 0 ≤ x) (hc : 0 ≤ c) (hr : ∀ y ∈ r, 0 ≤ y) (hl : r.length ≤ 63) : DiceAt H d := ⟨x, c, r, h, hx, hc, hr, hl⟩
def spOff : Sp := fun vs H Q _ => ∃ (d : Addr) (m : Int), vs = [.ref d, .int m] ∧ 1 ≤ m ∧ m < 1073741824 ∧ DiceAt H d ∧ ∀ (H' : Hp) (n : Int), Same (hide d H) H' → DiceAt H' d → 0 ≤ n → n < m → Q (.int n) H'
section
variable {P : Program} {w : World} {K : PySem.W.Frag} {mg : Str → Option Value} {base : Heap}
theorem c_off (Z : Blt mg) (d : Dd K mg "_law_off" s__law_off P__law_off) : C8.Cal P w K mg base 1 "_law_off" spOff [] := by
  refine d.cal sc__law_off (fun vs H Q E h => ?_) (fun f cdv A outer s H vs Q E hr h => ?_)
  · obtain ⟨d, m, rfl, _⟩ := h
    rfl
  · obtain ⟨d, m, rfl, hm1, hm2, ⟨x, c, r, hd, hx, hc, hr0, hl⟩, q⟩ := h
    have nd := sc__law_off.nd
    refine ⟨_, (C8.pss_cut (ps_if (PW.pt (pw_and (pt_cmpR op_eq (pe_ix ix_list (pv 0) pe_int (fun _ _ => rfl)) pe_int (nomark _)) (pw_and1 (pt_cmpR op_gt (pe_callB k_len (by rfl) Z.len_ (by decide +kernel) (pa_cons (pv 0) pa_nil)) pe_int (nomark _))))) (pss_one (ps_asg (pe_bm PySem.F.plainAttrs_list PySem.F.slot_list_pop PySem.F.type_list_pop mt_popAt (pv 0) (pa_cons pe_int pa_nil)) (pg_sub (pv 0) pe_int set_list))) pss_nil)
  (pss_cons (ps_if (pt_cmpR op_gt (pe_ix ix_list (pv 0) pe_int (fun _ _ => rfl)) pe_int (nomark _)) (pss_cons (ps_set (i := 2) nd rfl (Or.inl rfl) (pe_op op_mod (pe_ix ix_list (pv 0) pe_int (fun _ _ => rfl)) (pv 1)))
  (pss_cons (ps_asg (pe_op op_fdiv (pe_ix ix_list (pv 0) pe_int (fun _ _ => rfl)) (pv 1)) (pg_sub (pv 0) pe_int set_list))
  (pss_one (ps_ret (pv 2))))) pss_nil)
  (pss_cons (ps_asg (pe_op op_mod (pe_op op_add (pe_op op_mul (pe_ix ix_list (pv 0) pe_int (fun _ _ => rfl)) pe_int) pe_int) pe_int) (pg_sub (pv 0) pe_int set_list))
  (pss_one (ps_ret (pe_op op_mod (pe_op op_fdiv (pe_ix ix_list (pv 0) pe_int (fun _ _ => rfl)) pe_int) (pv 1))))))), ?_⟩
    refine i_start (σ' := [some (.ref d), some (.int m), none]) rfl ?_
    walk_at "go"
    refine i_cut (fun σ' H' => σ' = [some (.ref d), some (.int m), none] ∧ Same (hide d H) H' ∧ DiceAt H' d) ?_ ?_
    · walk_at "r"
      have no : ∀ p : Prop, Same (hide d H) H ∧ DiceAt H d := fun _ => ⟨hide_same, .mk hd hx hc hr0 hl⟩
      refine i_br (fun hc0 => ?_) (fun _ => ?_)
      · walk_at "r"
        refine i_br (fun hlen => ?_) (fun _ => ?_)
        · walk_at "r"
          match r, hr0, hl, hd, hlen with
          | [], hr0, hl, hd, hlen => simp at hlen
          | y :: r, hr0, hl, hd, hlen =>
            refine i_popAt (j := 2) hd rfl rfl (by simp at hl ⊢; omega) ?_
            walk_at "r"
            refine i_setL (j := 1) upd_same (ixN_of rfl (by simp)) ?_
            rw [upd_upd]
            exact ⟨rfl, hide_mut, .mk (c := y) (r := r) upd_same hx (hr0 y List.mem_cons_self) (fun z hz => hr0 z (List.mem_cons_of_mem _ hz)) (by simp at hl; omega)⟩
        · walk_at "r"
          exact ⟨rfl, no True⟩
      · walk_at "r"
        exact ⟨rfl, no True⟩
    · rintro σ1 H1 ⟨rfl, s1, x, c, r, hd, hx, hc, hr0, hl⟩
      have s2 : ∀ {o : HO}, Same (hide d H) (upd H1 d o) := smut s1 hide_d
      walk_at "r"
      refine i_br (fun hc0 => ?_) (fun _ => ?_)
      · walk_at "r"
        refine i_setL (j := 1) hd (ixN_of rfl (by simp)) ?_
        walk_at "r"
        exact q _ _ s2 (.mk (c := c / m) (r := r) upd_same hx (Int.ediv_nonneg hc (by omega)) hr0 hl) (Int.emod_nonneg _ (by omega)) (Int.emod_lt_of_pos _ (by omega))
      · walk_at "r"
        refine i_setL (j := 0) hd (ixN_of rfl (by simp)) ?_
        walk_at "r"
        exact q _ _ s2 (.mk (c := c) (r := r) upd_same (Int.emod_nonneg _ (by decide)) hc hr0 hl) (Int.emod_nonneg _ (by omega)) (Int.emod_lt_of_pos _ (by omega))
/-! ### draws -/
def spDice (K : PySem.W.Frag) : Sp := fun vs H Q _ => ∃ (a : Addr) (ns : List Int) (k : Int), vs = [.ref a, .int k] ∧ SqL K H a (ns.map V.int) ∧ 0 ≤ k ∧ k < 1000000 ∧ ns.length ≤ 63 ∧ ∀ p H', H p = none → Same H H' → DiceAt H' p → Q (.ref p) H'
theorem c_dice (Z : Blt mg) (d : Dd K mg "_law_dice" s__law_dice P__law_dice) : C8.Cal P w K mg base 1 "_law_dice" (spDice K) [] := by
  refine d.cal sc__law_dice (fun vs H Q E h => ?_) (fun f cdv A outer s H vs Q E hr h => ?_)
  · obtain ⟨a, ns, k, rfl, _⟩ := h
    rfl
  · obtain ⟨a, ns, k, rfl, ha, hk0, hk1, hlen, q⟩ := h
    have nd := sc__law_dice.nd
    refine ⟨_, (pss_cons (ps_set (i := 2) nd rfl (Or.inl rfl) (pv 1))
  (pss_cons (ps_for PassesOwn.never rfl (pi_list (pv 0)) (pg_name (i := 3) nd rfl (Or.inl rfl))
    (pss_one (ps_set (i := 2) nd rfl (Or.inl rfl) (pe_op op_mod (pe_op op_add (pe_op op_mul (pv 2) pe_int) (pe_callB k_abs (by rfl) Z.abs_ (by decide +kernel) (pa_cons (pv 3) pa_nil))) pe_int))))
  (pss_one (ps_ret (pe_op op_cat (pe_lst (pa_cons (pv 2) (pa_cons pe_int pa_nil))) (pe_lc (own := [("_law_cell", 3)]) (g := gName 3) rfl nd (pi_list (pv 0)) (blkOk_by (N := N__law_dice) (sc := C8.fnScope s__law_dice) (own := [("_law_cell", 3)]) (by decide +kernel)) (fun _ _ _ _ _ => (pg_name (i := 3) nd rfl (Or.inl rfl))) (fun _ _ _ _ _ => pts_one (pt_cmpR op_ge (pv 3) (pe_op op_pow pe_int pe_int) (nomark _))) (fun _ _ _ _ _ => (pv 3)))))))), ?_⟩
    refine i_start (σ' := [some (.ref a), some (.int k), none, none]) rfl ?_
    walk_at "go"
    walk_at "r"
    refine i_for ha (fun i σ' H' => ∃ x y, σ' = [some (.ref a), some (.int k), some (.int x), y] ∧ Same H H' ∧ 0 ≤ x ∧ x < 2147483647) ⟨k, none, rfl, Same.refl _, hk0, by omega⟩ (fun i σ' H' _ ⟨_, _, _, s1, _⟩ => s1.seq ha) (fun i x σ' H' hi pv => ?_) (fun σ' H' pv => ?_)
    · obtain ⟨x, y, rfl, s1, hx0, hx1⟩ := pv
      obtain ⟨n, hn, rfl⟩ := map_get hi
      walk_at "r"
      exact ⟨_, _, rfl, s1, Int.emod_nonneg _ (by decide), Int.emod_lt_of_pos _ (by decide)⟩
    · obtain ⟨x, y, rfl, s1, hx0, hx1⟩ := pv
      have ha' := s1.seq ha
      walk_at "r"
      refine i_lst (by show 2 ≤ sizeLine; decide) (fun p1 H1 hp1 s2 e1 => ?_)
      walk_at "r"
      refine i_lcL (F := fun v => match v with | .int n => if 10 ^ 18 ≤ n then some (.int n) else none | _ => none) (s2.seq ha') (by rw [List.length_map]; omega) (fun v hv H2 s3 QN QY hN hY => ?_) (fun p2 H2 hp2 s3 e2 => ?_)
      · obtain ⟨n, hn, rfl⟩ := List.mem_map.mp hv
        walk_at "r"
        refine i_br (fun h => ?_) (fun h => ?_)
        · walk_at "r"
          exact hY _ (if_pos (show (10 : Int) ^ 18 ≤ n from h)) _ (Same.refl _)
        · walk_at "r"
          exact hN (if_neg (show ¬ (10 : Int) ^ 18 ≤ n from h)) _ (Same.refl _)
      · have e3 : ∀ l : List Int, (l.map V.int).filterMap (fun v => match v with | .int n => if 10 ^ 18 ≤ n then some (V.int n) else none | _ => none) = (l.filter fun n => decide ((10 : Int) ^ 18 ≤ n)).map V.int := fun l => by
          induction l with
          | nil => rfl
          | cons n r ih =>
            rw [List.map_cons, List.filterMap_cons, List.filter_cons, ih]
            by_cases h : (10 : Int) ^ 18 ≤ n
            · rw [decide_eq_true h, if_pos rfl]
              dsimp only
              rw [if_pos h]
              rfl
            · rw [decide_eq_false h, if_neg Bool.false_ne_true]
              dsimp only
              rw [if_neg h]
        rw [e3] at e2
        have lf : (ns.filter fun n => decide ((10 : Int) ^ 18 ≤ n)).length ≤ ns.length := List.length_filter_le _ _
        walk_at "r"
        have e1' := s3 _ _ e1
        refine i_cat e1' e2 (sz (by rw [List.length_map, List.length_cons, List.length_cons, List.length_nil]; omega)) (fun p3 H3 hp3 s4 e4 => ?_)
        refine q p3 H3 (s1.free (s2.free (s3.free hp3))) (s1.trans (s2.trans (s3.trans s4))) (.mk (x := x) (c := 0) (r := ns.filter fun n => decide ((10 : Int) ^ 18 ≤ n)) e4 hx0 (Int.le_refl _) ?_ (by omega))
        intro y hy
        have z := of_decide_eq_true (List.mem_filter.mp hy).2
        exact Int.le_trans (by decide) z
/-! ### plain signs, by the law's own -/
theorem c_law_plain (Z : Blt mg) (d : Dd K mg "_law_plain" s__law_plain P__law_plain) : C8.Cal P w K mg base 1 "_law_plain" spPlain [] := by
  refine d.cal sc__law_plain (fun vs H Q E h => ?_) (fun f cdv A outer s H vs Q E hr h => ?_)
  · obtain ⟨t, e, rfl, _⟩ := h
    rfl
  · obtain ⟨t, e, rfl, h1, h2, q⟩ := h
    have nd := sc__law_plain.nd
    refine ⟨_, (pss_one (ps_ret (pe_lc (own := [("_law_sign", 2)]) (g := gName 2) rfl nd (pi_range1 rfl Z.range_ (pa_cons (pv 0) pa_nil)) (blkOk_by (N := N__law_plain) (sc := C8.fnScope s__law_plain) (own := [("_law_sign", 2)]) (by decide +kernel)) (fun _ _ _ _ _ => (pg_name (i := 2) nd rfl (Or.inl rfl))) (fun _ _ _ _ _ => pts_one (pt_cmpR op_ne (pv 2) (pv 1) (nomark _))) (fun _ _ _ _ _ => (pv 2))))), ?_⟩
    refine i_start (σ' := [some (.int t), some (.int e), none]) rfl ?_
    walk_at "go"
    walk_at "r"
    refine i_lcR (F := fun (i : Nat) => if (i : Int) = e then none else some (V.int (i : Int))) ⟨h1, by omega⟩ (fun i hi H1 s1 QN QY hN hY => ?_) (by rw [plainL_map]; exact q)
    walk_at "r"
    refine i_nbr (fun h => ?_) (fun h => ?_)
    · walk_at "r"
      exact hN (if_pos h) _ (Same.refl _)
    · walk_at "r"
      exact hY _ (if_neg h) _ (Same.refl _)
/-! ### a top -/
def spSize : Sp := fun vs H Q _ => ∃ d : Addr, vs = [.ref d] ∧ DiceAt H d ∧ ∀ (H' : Hp) (n : Int), Same (hide d H) H' → DiceAt H' d → 3 ≤ n → n ≤ 16 → Q (.int n) H'
theorem c_law_size (c__law_off : C8.Cal P w K mg base 1 "_law_off" spOff []) (d : Dd K mg "_law_size" s__law_size P__law_size) : C8.Cal P w K mg base 2 "_law_size" spSize [] := by
  refine d.cal sc__law_size (fun vs H Q E h => ?_) (fun f cdv A outer s H vs Q E hr h => ?_)
  · obtain ⟨a, rfl, _⟩ := h
    rfl
  · obtain ⟨a, rfl, ⟨x, c, r, hd, hx, hc, hr0, hl⟩, q⟩ := h
    have nd := sc__law_size.nd
    refine ⟨_, (pss_one (ps_ret (pe_ix ix_list (pe_lst (pa_cons pe_int (pa_cons pe_int (pa_cons pe_int (pa_cons pe_int (pa_cons pe_int (pa_cons (pe_op op_add pe_int (pe_op op_mod (pe_op op_fdiv (pe_ix ix_list (pv 0) pe_int (fun _ _ => rfl)) pe_int) pe_int)) (pa_cons pe_int (pa_cons pe_int pa_nil))))))))) (C8.pe_c c__law_off hr (by decide) (by rfl) (pa_cons (pv 0) (pa_cons pe_int pa_nil))) (fun _ _ => rfl)))), ?_⟩
    refine i_start (σ' := [some (.ref a)]) rfl ?_
    walk_at "go"
    walk_at "r"
    have ho := Int.emod_nonneg (x / 7) (show (14 : Int) ≠ 0 by decide)
    have ho2 := Int.emod_lt_of_pos (x / 7) (show (0 : Int) < 14 by decide)
    refine i_lst (by show 8 ≤ sizeLine; decide) (fun p H1 hp s1 e1 => ?_)
    walk_at "r"
    refine ⟨a, 8, rfl, by decide, by decide, .mk (s1 _ _ hd) hx hc hr0 hl, fun H2 n s2 d2 hn0 hn8 => ?_⟩
    have npa : p ≠ a := (ne_of_none hd hp).symm
    have e2 := s2 _ _ ((hide_ne npa).trans e1)
    have s3 : Same (hide a H) H2 := fun b o e => s2 _ _ (by
      have nb : b ≠ a := fun z => by rw [z, hide_d] at e; cases e
      rw [hide_ne nb] at e ⊢
      exact s1 _ _ e)
    walk_at "r"
    have hn : n = 0 ∨ n = 1 ∨ n = 2 ∨ n = 3 ∨ n = 4 ∨ n = 5 ∨ n = 6 ∨ n = 7 := by omega
    rcases hn with rfl | rfl | rfl | rfl | rfl | rfl | rfl | rfl
    · exact i_ixL (sl_of e2) (atI_nat (j := 0) rfl) (q _ _ s3 d2 (by decide) (by decide))
    · exact i_ixL (sl_of e2) (atI_nat (j := 1) rfl) (q _ _ s3 d2 (by decide) (by decide))
    · exact i_ixL (sl_of e2) (atI_nat (j := 2) rfl) (q _ _ s3 d2 (by decide) (by decide))
    · exact i_ixL (sl_of e2) (atI_nat (j := 3) rfl) (q _ _ s3 d2 (by decide) (by decide))
    · exact i_ixL (sl_of e2) (atI_nat (j := 4) rfl) (q _ _ s3 d2 (by decide) (by decide))
    · exact i_ixL (sl_of e2) (atI_nat (j := 5) rfl) (q _ _ s3 d2 (by omega) (by omega))
    · exact i_ixL (sl_of e2) (atI_nat (j := 6) rfl) (q _ _ s3 d2 (by decide) (by decide))
    · exact i_ixL (sl_of e2) (atI_nat (j := 7) rfl) (q _ _ s3 d2 (by decide) (by decide))
/-! ### a body -/
def spBody : Sp := fun vs H Q _ => ∃ (d : Addr) (t e m : Int), vs = [.ref d, .int t, .int e, .int m] ∧ DiceAt H d ∧ 1 ≤ t ∧ t ≤ 16 ∧ 0 ≤ e ∧ e < t ∧ 0 ≤ m ∧ m ≤ 1000 ∧
  ∀ (p : Addr) (H' : Hp) (ns : List Int), H p = none → Same (hide d H) H' → DiceAt H' d → H' p = some (.lst (ns.map V.int)) → (∀ n ∈ ns, 0 ≤ n ∧ n < t) → (ns.length : Int) ≤ m → Q (.ref p) H'
theorem c_law_body (Z : Blt mg) (c__law_off : C8.Cal P w K mg base 1 "_law_off" spOff []) (d : Dd K mg "_law_body" s__law_body P__law_body) : C8.Cal P w K mg base 2 "_law_body" spBody [] := by
  refine d.cal sc__law_body (fun vs H Q E h => ?_) (fun f cdv A outer s H vs Q E hr h => ?_)
  · obtain ⟨a, t, e, m, rfl, _⟩ := h
    rfl
  · obtain ⟨a, t, e, m, rfl, hd, ht1, ht2, he0, het, hm0, hm1, q⟩ := h
    have nd := sc__law_body.nd
    refine ⟨_, (pss_cons (ps_set (i := 4) nd rfl (Or.inl rfl) (C8.pe_c c__law_off hr (by decide) (by rfl) (pa_cons (pv 0) (pa_cons (pe_op op_add (pv 3) pe_int) pa_nil))))
  (pss_cons (ps_set (i := 5) nd rfl (Or.inl rfl) (C8.pe_c c__law_off hr (by decide) (by rfl) (pa_cons (pv 0) (pa_cons pe_int pa_nil))))
  (pss_cons (ps_set (i := 6) nd rfl (Or.inl rfl) (C8.pe_c c__law_off hr (by decide) (by rfl) (pa_cons (pv 0) (pa_cons (pv 1) pa_nil))))
  (pss_cons (ps_set (i := 7) nd rfl (Or.inl rfl) (pe_lst pa_nil))
  (pss_cons (ps_for PassesOwn.never rfl (pi_range1 rfl Z.range_ (pa_cons (pv 4) pa_nil)) (pg_name (i := 8) nd rfl (Or.inl rfl))
    (pss_one (ps_if (PW.pt (pw_or (pt_cmpR op_eq (pv 5) pe_int (nomark _)) (pw_or1 (pt_cmpR op_eq (C8.pe_c c__law_off hr (by decide) (by rfl) (pa_cons (pv 0) (pa_cons pe_int pa_nil))) pe_int (nomark _))))) (pss_one (ps_expr (pe_bm PySem.F.plainAttrs_list PySem.F.slot_list_append PySem.F.type_list_append mt_append (pv 7) (pa_cons (C8.pe_c c__law_off hr (by decide) (by rfl) (pa_cons (pv 0) (pa_cons (pv 1) pa_nil))) pa_nil)))) (pss_one (ps_expr (pe_bm PySem.F.plainAttrs_list PySem.F.slot_list_append PySem.F.type_list_append mt_append (pv 7) (pa_cons (pe_ix ix_list (pe_lst (pa_cons (pv 6) (pa_cons (pv 2) (pa_cons (pv 6) pa_nil)))) (pe_op op_sub (pv 5) pe_int) (fun _ _ => rfl)) pa_nil)))))))
  (pss_one (ps_ret (pv 7)))))))), ?_⟩
    refine i_start (σ' := [some (.ref a), some (.int t), some (.int e), some (.int m), none, none, none, none, none]) rfl ?_
    walk_at "go"
    walk_at "r"
    refine ⟨a, m + 1, rfl, by omega, by omega, hd, fun H1 size s1 d1 hs0 hs1 => ?_⟩
    walk_at "r"
    refine ⟨a, 4, rfl, by omega, by omega, d1, fun H2 kind s2 d2 hk0 hk1 => ?_⟩
    walk_at "r"
    refine ⟨a, t, rfl, by omega, by omega, d2, fun H3 one s3 d3 ho0 ho1 => ?_⟩
    walk_at "r"
    refine i_lst (Nat.zero_le _) (fun p H4 hp s4 e4 => ?_)
    obtain ⟨x3, c3, r3, dd3, dr3⟩ := d3
    have npa : p ≠ a := (ne_of_none dd3 hp).symm
    have h13 : Same (hide a H) H3 := hide_tr (hide_tr s1 s2) s3
    have hpa : hide a H p = none := h13.free hp
    rw [hide_ne npa] at hpa
    walk_at "r"
    refine i_rng ⟨hs0, by omega⟩ (fun i σ' H' => ∃ (y : Option V) (ns : List Int), σ' = [some (.ref a), some (.int t), some (.int e), some (.int m), some (.int size), some (.int kind), some (.int one), some (.ref p), y] ∧ Same (hide a H) H' ∧ DiceAt H' a ∧ H' p = some (.lst (ns.map V.int)) ∧ (∀ n ∈ ns, 0 ≤ n ∧ n < t) ∧ ns.length = i)
      ⟨none, [], rfl, fun b o z => s4 _ _ (h13 _ _ z), ⟨x3, c3, r3, s4 _ _ dd3, dr3⟩, e4, by simp, rfl⟩ (fun i σ' H' hi pv => ?_) (fun σ' H' pv => ?_)
    · obtain ⟨y, ns, rfl, sH, dH, eH, hns, hl⟩ := pv
      have app : ∀ (n : Int) (H5 : Hp), 0 ≤ n → n < t → Same (hide a H) H5 → DiceAt H5 a → H5 p = some (.lst (ns.map V.int)) → ∃ (y' : Option V) (ns' : List Int), [some (V.ref a), some (.int t), some (.int e), some (.int m), some (.int size), some (.int kind), some (.int one), some (.ref p), some (.int (i : Int))] = [some (.ref a), some (.int t), some (.int e), some (.int m), some (.int size), some (.int kind), some (.int one), some (.ref p), y'] ∧ Same (hide a H) (upd H5 p (.lst (ns.map V.int ++ [.int n]))) ∧ DiceAt (upd H5 p (.lst (ns.map V.int ++ [.int n]))) a ∧ (upd H5 p (.lst (ns.map V.int ++ [.int n]))) p = some (.lst (ns'.map V.int)) ∧ (∀ n ∈ ns', 0 ≤ n ∧ n < t) ∧ ns'.length = i + 1 := by
        intro n H5 h1 h2 h3 h4 h5
        obtain ⟨x5, c5, r5, dd5, dr5⟩ := h4
        refine ⟨some (.int (i : Int)), ns ++ [n], rfl, smut h3 (by rw [hide_ne npa]; exact hpa), ⟨x5, c5, r5, by rw [upd_ne npa.symm]; exact dd5, dr5⟩, by rw [upd_same, List.map_append]; rfl, fun k hk => ?_, by rw [List.length_append, hl]; rfl⟩
        rcases List.mem_append.mp hk with hk | hk
        · exact hns k hk
        · rw [List.mem_singleton.mp hk]
          exact ⟨h1, h2⟩
      have lns : ns.length < 100000 := by omega
      have szp : (ns.map V.int).length < sizeLine := szl (by rw [List.length_map]; exact lns)
      walk_at "r"
      refine i_br (fun hk => ?_) (fun hk => ?_)
      · walk_at "r"
        refine ⟨a, t, rfl, by omega, by omega, dH, fun H5 n s5 d5 h1 h2 => ?_⟩
        have e5 := s5 _ _ ((hide_ne npa).trans eH)
        walk_at "r"
        exact app n H5 h1 h2 (hide_tr sH s5) d5 e5
      · walk_at "r"
        refine ⟨a, 6, rfl, by decide, by decide, dH, fun H5 n6 s5 d5 h1 h2 => ?_⟩
        have e5 := s5 _ _ ((hide_ne npa).trans eH)
        have s05 := hide_tr sH s5
        walk_at "r"
        refine i_br (fun _ => ?_) (fun _ => ?_)
        · walk_at "r"
          refine ⟨a, t, rfl, by omega, by omega, d5, fun H6 n s6 d6 h1 h2 => ?_⟩
          have e6 := s6 _ _ ((hide_ne npa).trans e5)
          walk_at "r"
          exact app n H6 h1 h2 (hide_tr s05 s6) d6 e6
        · walk_at "r"
          refine i_lst (by show 3 ≤ sizeLine; decide) (fun p6 H6 hp6 s6 e6 => ?_)
          have e7 := s6 _ _ e5
          obtain ⟨x5, c5, r5, dd5, dr5⟩ := d5
          have d6 : DiceAt H6 a := ⟨x5, c5, r5, s6 _ _ dd5, dr5⟩
          have s06 : Same (hide a H) H6 := s05.trans s6
          walk_at "r"
          have hn : kind = 1 ∨ kind = 2 ∨ kind = 3 := by omega
          rcases hn with rfl | rfl | rfl
          · refine i_ixL (sl_of e6) (atI_nat (j := 0) rfl) ?_
            walk_at "r"
            exact app one H6 ho0 ho1 s06 d6 e7
          · refine i_ixL (sl_of e6) (atI_nat (j := 1) rfl) ?_
            walk_at "r"
            exact app e H6 he0 het s06 d6 e7
          · refine i_ixL (sl_of e6) (atI_nat (j := 2) rfl) ?_
            walk_at "r"
            exact app one H6 ho0 ho1 s06 d6 e7
    · obtain ⟨y, ns, rfl, sH, dH, eH, hns, hl⟩ := pv
      walk_at "r"
      exact q p H' ns hpa sH dH eH hns (by omega)
end
end Esc

namespace Esc
open PySem PySem.Spec PyProof.Rows L2
section
variable {P : Program} {w : World} {K : PySem.W.Frag} {mg : Str → Option Value} {base : Heap}
theorem DiceAt.same {H H' : Hp} {d : Addr} (s : Same H H') (h : DiceAt H d) : DiceAt H' d := by
  obtain ⟨x, c, r, a, b⟩ := h
  exact ⟨x, c, r, s _ _ a, b⟩
theorem DiceAt.there {H : Hp} {d : Addr} (h : DiceAt H d) : ∃ o, H d = some o := by
  obtain ⟨x, c, r, a, b⟩ := h
  exact ⟨_, a⟩
theorem DiceAt.ne {H : Hp} {d p : Addr} (h : DiceAt H d) (n : H p = none) : p ≠ d := by
  obtain ⟨o, e⟩ := h.there
  exact (ne_of_none e n).symm
theorem DiceAt.put {H : Hp} {d p : Addr} {o : HO} (h : DiceAt H d) (n : p ≠ d) : DiceAt (upd H p o) d := by
  obtain ⟨x, c, r, a, b⟩ := h
  exact ⟨x, c, r, by rw [upd_ne n.symm]; exact a, b⟩
theorem hide_pure {d : Addr} {H H1 : Hp} (s : Same H H1) : Same (hide d H) H1 := fun b o e => s b o (hide_same b o e)
theorem hide_free {d p : Addr} {H H1 : Hp} (s : Same (hide d H) H1) (n : p ≠ d) (h : H1 p = none) : H p = none := by
  have z := s.free h
  rw [hide_ne n] at z
  exact z
/-! ### a list in a drawn order -/
def spMixed (K : PySem.W.Frag) : Sp := fun vs H Q _ => ∃ (d a : Addr) (xs : List V), vs = [.ref d, .ref a] ∧ DiceAt H d ∧ SqL K H a xs ∧ (∀ v ∈ xs, Fl K (hide d H) v) ∧ xs.length ≤ 1000 ∧
  ∀ (p : Addr) (H' : Hp) (ys : List V), H p = none → Same (hide d H) H' → DiceAt H' d → H' p = some (.lst ys) → ys.Perm xs → Q (.ref p) H'
theorem c_mixed (Z : Blt mg) (c__law_off : C8.Cal P w K mg base 1 "_law_off" spOff []) (d : Dd K mg "_law_mixed" s__law_mixed P__law_mixed) : C8.Cal P w K mg base 2 "_law_mixed" (spMixed K) [] := by
  refine d.cal sc__law_mixed (fun vs H Q E h => ?_) (fun f cdv A outer s H vs Q E hr h => ?_)
  · obtain ⟨d, a, xs, rfl, _⟩ := h
    rfl
  · obtain ⟨d, a, xs, rfl, hd, ha, hf, hl, q⟩ := h
    have nd := sc__law_mixed.nd
    refine ⟨_, (pss_cons (ps_set (i := 2) nd rfl (Or.inl rfl) (pe_callTy k_listOf (by rfl) Z.list_ (by decide +kernel) (pa_cons (pv 1) pa_nil)))
  (pss_cons (ps_set (i := 3) nd rfl (Or.inl rfl) (pe_lst pa_nil))
  (pss_cons (ps_while PassesOwn.never (pt_cmpR (op_neD hr.units) (pv 2) (pe_lst pa_nil) (nomark _))
    (pss_one (ps_expr (pe_bm PySem.F.plainAttrs_list PySem.F.slot_list_append PySem.F.type_list_append mt_append (pv 3) (pa_cons (pe_bm PySem.F.plainAttrs_list PySem.F.slot_list_pop PySem.F.type_list_pop mt_popAt (pv 2) (pa_cons (C8.pe_c c__law_off hr (by decide) (by rfl) (pa_cons (pv 0) (pa_cons (pe_callB k_len (by rfl) Z.len_ (by decide +kernel) (pa_cons (pv 2) pa_nil)) pa_nil))) pa_nil)) pa_nil)))))
  (pss_one (ps_ret (pv 3)))))), ?_⟩
    refine i_start (σ' := [some (.ref d), some (.ref a), none, none]) rfl ?_
    walk_at "go"
    walk_at "r"
    refine i_listOf ha (fun l H1 hl1 s1 e1 => ?_)
    walk_at "r"
    refine i_lst (Nat.zero_le _) (fun fd H2 hfd s2 e2 => ?_)
    have nld : l ≠ d := hd.ne hl1
    have nfd : fd ≠ d := (hd.same s1).ne hfd
    have nfl : fd ≠ l := (ne_of_none e1 hfd).symm
    have hl0 : hide d H l = none := by rw [hide_ne nld]; exact hl1
    have hf0 : hide d H fd = none := by rw [hide_ne nfd]; exact s1.free hfd
    walk_at "r"
    refine i_while (fun m σ' H' => ∃ left found : List V, m = left.length ∧ σ' = [some (.ref d), some (.ref a), some (.ref l), some (.ref fd)] ∧ Same (hide d H) H' ∧ DiceAt H' d ∧ H' l = some (.lst left) ∧ H' fd = some (.lst found) ∧ (left ++ found).Perm xs) xs.length
      ⟨xs, [], rfl, rfl, hide_pure (s1.trans s2), (hd.same s1).same s2, s2 _ _ e1, e2, by rw [List.append_nil]⟩ (fun m σ' H' pv => ?_)
    obtain ⟨left, found, rfl, rfl, s3, d3, el, ef, hp⟩ := pv
    have hll : left.length + found.length = xs.length := by
      have z := hp.length_eq
      rw [List.length_append] at z
      exact z
    walk_at "r"
    refine i_lst (Nat.zero_le _) (fun nl H4 hnl s4 e4 => ?_)
    have d4 := d3.same s4
    have el4 := s4 _ _ el
    have ef4 := s4 _ _ ef
    have s34 : Same (hide d H) H4 := s3.trans s4
    walk_at "r"
    refine i_neNil (sl_of el4) (fun v hv => (hf v (hp.subset (List.mem_append_left _ hv))).same s34) (sl_of e4) ?_
    walk_at "r"
    refine i_nbr (fun h => ?_) (fun h => ?_)
    · subst h
      walk_at "r"
      rw [List.nil_append] at hp
      exact q fd H4 found (s1.free hfd) s34 d4 ef4 hp
    · have lpos : 0 < left.length := List.length_pos_iff.mpr h
      walk_at "r"
      refine ⟨d, (left.length : Nat), rfl, by omega, by omega, d4, fun H5 k s5 d5 hk0 hk1 => ?_⟩
      have el5 := s5 _ _ ((hide_ne nld).trans el4)
      have ef5 := s5 _ _ ((hide_ne nfd).trans ef4)
      have hkl : k.toNat < left.length := by omega
      walk_at "r"
      refine i_popAt (j := k.toNat) el5 (by omega) (List.getElem?_eq_getElem hkl) (by omega) ?_
      have zf : found.length < sizeLine := szl (by omega)
      have ef6 : (upd H5 l (HO.lst (left.eraseIdx k.toNat))) fd = some (.lst found) := by
        rw [upd_ne nfl]
        exact ef5
      walk_at "r"
      refine ⟨(left.eraseIdx k.toNat).length, by rw [List.length_eraseIdx_of_lt hkl]; omega, left.eraseIdx k.toNat, found ++ [left[k.toNat]], rfl, rfl, ?_, ?_, ?_, upd_same, ?_⟩
      · exact smut (smut (hide_tr s34 s5) hl0) hf0
      · exact (d5.put nld).put nfd
      · rw [upd_ne nfl.symm, upd_same]
      · refine List.Perm.trans ?_ hp
        have z := perm_erase left k.toNat hkl
        rw [← List.append_assoc]
        refine List.Perm.trans (List.perm_append_comm) ?_
        show (left[k.toNat] :: (left.eraseIdx k.toNat ++ found)).Perm _
        exact (List.Perm.append_right found z)
/-! ### the way within, its top, its end -/
def spCore (K : PySem.W.Frag) : Sp := fun vs H Q _ => ∃ (v : V) (ts : List (Addr × List Int)) (p : Addr) (k : Str) (xs : List V), vs = [v] ∧ TurnAt K H ts v (.ref p) ∧ SqT K H p (.str k :: xs) ∧ k ≠ "turned" ∧ Q (.ref p) H
theorem c_core (d : Dd K mg "_law_core" s__law_core P__law_core) : C8.Cal P w K mg base 1 "_law_core" (spCore K) [] := by
  refine d.cal sc__law_core (fun vs H Q E h => ?_) (fun f cdv A outer s H vs Q E hr h => ?_)
  · obtain ⟨v, ts, p, k, xs, rfl, _⟩ := h
    rfl
  · obtain ⟨v, ts, p, k, xs, rfl, ht, hk, hne, q⟩ := h
    have nd := sc__law_core.nd
    refine ⟨_, (pss_cons (ps_while PassesOwn.never (pt_cmpR op_eq (pe_ix ix_tup (pv 0) pe_int (fun _ _ => rfl)) pe_str (nomark _))
    (pss_one (ps_set (i := 0) nd rfl (Or.inl rfl) (pe_ix ix_tup (pv 0) pe_int (fun _ _ => rfl)))))
  (pss_one (ps_ret (pv 0)))), ?_⟩
    refine i_start (σ' := [some v]) rfl ?_
    walk_at "go"
    walk_at "r"
    refine i_while (fun m σ' H' => ∃ r x, m = r.length ∧ σ' = [some x] ∧ H' = H ∧ TurnAt K H r x (.ref p)) ts.length ⟨ts, v, rfl, rfl, rfl, ht⟩ (fun m σ' H' pv => ?_)
    obtain ⟨r, x, rfl, rfl, eH, hr2⟩ := pv
    rw [eH]
    cases r with
    | nil =>
      cases hr2
      walk_at "r"
      refine i_no hne ?_
      walk_at "r"
      exact q
    | cons t r =>
      obtain ⟨a, t⟩ := t
      obtain ⟨p2, y, rfl, h1, h2, h3⟩ := hr2
      walk_at "r"
      refine i_yes rfl ?_
      walk_at "r"
      exact ⟨r.length, by show r.length < r.length + 1; omega, r, y, rfl, rfl, rfl, h3⟩
def spTopW (K : PySem.W.Frag) : Sp := fun vs H Q _ => ∃ (v : V) (wy : Way), vs = [v] ∧ WayAt K H v wy ∧ Q (.int wy.t) H
theorem c_top (c__law_core : C8.Cal P w K mg base 1 "_law_core" (spCore K) []) (d : Dd K mg "_law_top" s__law_top P__law_top) : C8.Cal P w K mg base 2 "_law_top" (spTopW K) [] := by
  refine d.cal sc__law_top (fun vs H Q E h => ?_) (fun f cdv A outer s H vs Q E hr h => ?_)
  · obtain ⟨v, wy, rfl, _⟩ := h
    rfl
  · obtain ⟨v, wy, rfl, ⟨tas, p, h1, h2, h3⟩, q⟩ := h
    have nd := sc__law_top.nd
    obtain ⟨xs, hx⟩ := h3.head
    refine ⟨_, (pss_one (ps_ret (pe_ix ix_tup (C8.pe_c c__law_core hr (by decide) (by rfl) (pa_cons (pv 0) pa_nil)) pe_int (fun _ _ => rfl)))), ?_⟩
    refine i_start (σ' := [some v]) rfl ?_
    walk_at "go"
    walk_at "r"
    refine ⟨v, tas, p, _, _, rfl, h2, hx, wy.k.name_ne, ?_⟩
    walk_at "r"
    exact q
def spEndW (K : PySem.W.Frag) : Sp := fun vs H Q _ => ∃ (v : V) (wy : Way), vs = [v] ∧ WayAt K H v wy ∧ Q (.int wy.e) H
theorem c_end (c__law_core : C8.Cal P w K mg base 1 "_law_core" (spCore K) []) (d : Dd K mg "_law_end" s__law_end P__law_end) : C8.Cal P w K mg base 2 "_law_end" (spEndW K) [] := by
  refine d.cal sc__law_end (fun vs H Q E h => ?_) (fun f cdv A outer s H vs Q E hr h => ?_)
  · obtain ⟨v, wy, rfl, _⟩ := h
    rfl
  · obtain ⟨v, wy, rfl, ⟨tas, p, h1, h2, h3⟩, q⟩ := h
    have nd := sc__law_end.nd
    obtain ⟨xs, hx⟩ := h3.head
    refine ⟨_, (pss_one (ps_ret (pe_ix ix_tup (C8.pe_c c__law_core hr (by decide) (by rfl) (pa_cons (pv 0) pa_nil)) pe_int (fun _ _ => rfl)))), ?_⟩
    refine i_start (σ' := [some v]) rfl ?_
    walk_at "go"
    walk_at "r"
    refine ⟨v, tas, p, _, _, rfl, h2, hx, wy.k.name_ne, ?_⟩
    walk_at "r"
    exact q
end
end Esc

namespace Esc
open PySem PySem.Spec PyProof.Rows L2
theorem perm_map_inv {α β : Type} {f : α → β} {xs ys : List β} (p : ys.Perm xs) : ∀ as : List α, xs = as.map f → ∃ as' : List α, ys = as'.map f ∧ as'.Perm as := by
  induction p with
  | nil =>
    intro as e
    exact ⟨[], rfl, by rw [List.map_eq_nil_iff.mp e.symm]⟩
  | cons x p ih =>
    intro as e
    cases as with
    | nil => cases e
    | cons a as =>
      rw [List.map_cons] at e
      obtain ⟨r, e1, q⟩ := ih as (List.cons.inj e).2
      exact ⟨a :: r, by rw [List.map_cons, e1, (List.cons.inj e).1], q.cons a⟩
  | swap x y l =>
    intro as e
    match as, e with
    | a :: b :: as, e =>
      rw [List.map_cons, List.map_cons] at e
      obtain ⟨e1, e2⟩ := List.cons.inj e
      obtain ⟨e3, e4⟩ := List.cons.inj e2
      exact ⟨b :: a :: as, by rw [List.map_cons, List.map_cons, e1, e3, e4], List.Perm.swap a b as⟩
  | trans _ _ ih1 ih2 =>
    intro as e
    obtain ⟨bs, e1, p1⟩ := ih2 as e
    obtain ⟨cs, e2, p2⟩ := ih1 bs e1
    exact ⟨cs, e2, p2.trans p1⟩
theorem DiceAt.lst {H : Hp} {d : Addr} (h : DiceAt H d) : ∃ xs, H d = some (.lst xs) := by
  obtain ⟨x, c, r, a, _⟩ := h
  exact ⟨_, a⟩
theorem tp_dice {H H' : Hp} {d : Addr} (h : DiceAt H d) (s : Same (hide d H) H') : Same (tp H) (tp H') := by
  obtain ⟨xs, e⟩ := h.lst
  exact tp_hide e s
section
variable {P : Program} {w : World} {K : PySem.W.Frag} {mg : Str → Option Value} {base : Heap}
/-! ### turned ones -/
def spTurned (K : PySem.W.Frag) : Sp := fun vs H Q _ => ∃ (d : Addr) (v : V) (m : Int) (wy : Way), vs = [.ref d, v, .int m] ∧ 0 ≤ m ∧ m ≤ 100 ∧ DiceAt H d ∧ WayAt K (tp H) v wy ∧ 3 ≤ wy.t ∧ wy.t ≤ 16 ∧
  ∀ (H' : Hp) (u : V) (ts : List (List Int)), Same (hide d H) H' → DiceAt H' d → ts.length ≤ max 1 m.toNat → (∀ p ∈ ts, p.Perm (countL wy.t)) → WayAt K (tp H') u ⟨ts ++ wy.ts, wy.t, wy.e, wy.k⟩ → Q u H'
theorem c_turned (Z : Blt mg) (c__law_off : C8.Cal P w K mg base 1 "_law_off" spOff []) (c__law_mixed : C8.Cal P w K mg base 2 "_law_mixed" (spMixed K) []) (c__law_top : C8.Cal P w K mg base 2 "_law_top" (spTopW K) []) (d : Dd K mg "_law_turned" s__law_turned P__law_turned) : C8.Cal P w K mg base 3 "_law_turned" (spTurned K) [] := by
  refine d.cal sc__law_turned (fun vs H Q E h => ?_) (fun f cdv A outer s H vs Q E hr h => ?_)
  · obtain ⟨d, v, m, wy, rfl, _⟩ := h
    rfl
  · obtain ⟨d, v, m, wy, rfl, hm0, hm1, hd, hw, h3, h16, q⟩ := h
    have nd := sc__law_turned.nd
    refine ⟨_, (pss_cons (ps_for PassesOwn.never rfl (pi_range1 rfl Z.range_ (pa_cons (pe_ix ix_list (pe_lst (pa_cons pe_int (pa_cons pe_int (pa_cons pe_int (pa_cons (pv 2) pa_nil))))) (C8.pe_c c__law_off hr (by decide) (by rfl) (pa_cons (pv 0) (pa_cons pe_int pa_nil))) (fun _ _ => rfl)) pa_nil)) (pg_name (i := 3) nd rfl (Or.inl rfl))
    (pss_one (ps_set (i := 1) nd rfl (Or.inl rfl) (pe_tup (pa_cons pe_str (pa_cons (pe_callTy k_tupOfF (by rfl) Z.tuple_ (by decide +kernel) (pa_cons (C8.pe_c c__law_mixed hr (by decide) (by rfl) (pa_cons (pv 0) (pa_cons (pe_listRg rfl rfl Z.list_ (prg_1 rfl Z.range_ (C8.pe_c c__law_top hr (by decide) (by rfl) (pa_cons (pv 1) pa_nil)))) pa_nil))) pa_nil)) (pa_cons (pv 1) pa_nil)))))))
  (pss_one (ps_ret (pv 1)))), ?_⟩
    refine i_start (σ' := [some (.ref d), some v, some (.int m), none]) rfl ?_
    walk_at "go"
    walk_at "r"
    refine i_lst (by show 4 ≤ sizeLine; decide) (fun l H1 hl1 s1 e1 => ?_)
    have nld : l ≠ d := hd.ne hl1
    walk_at "r"
    refine ⟨d, 4, rfl, by decide, by decide, hd.same s1, fun H2 n s2 d2 n0 n1 => ?_⟩
    have e2 := s2 _ _ ((hide_ne nld).trans e1)
    have s02 : Same (hide d H) H2 := hide_tr (hide_pure s1) s2
    have turns : ∀ k : Int, 0 ≤ k → k ≤ max 1 m.toNat → atI [V.int 0, .int 0, .int 1, .int m] n = some (.int k) → ∃ k : Int, 0 ≤ k ∧ k ≤ max 1 m.toNat ∧ atI [V.int 0, .int 0, .int 1, .int m] n = some (.int k) := fun k a b c => ⟨k, a, b, c⟩
    have ht : ∃ k : Int, 0 ≤ k ∧ k ≤ max 1 m.toNat ∧ atI [V.int 0, .int 0, .int 1, .int m] n = some (.int k) := by
      have hn : n = 0 ∨ n = 1 ∨ n = 2 ∨ n = 3 := by omega
      rcases hn with rfl | rfl | rfl | rfl
      · exact ⟨0, by omega, by omega, atI_nat (j := 0) rfl⟩
      · exact ⟨0, by omega, by omega, atI_nat (j := 1) rfl⟩
      · exact ⟨1, by omega, by omega, atI_nat (j := 2) rfl⟩
      · exact ⟨m, by omega, by omega, atI_nat (j := 3) rfl⟩
    obtain ⟨k, hk0, hk1, hk⟩ := ht
    walk_at "r"
    refine i_rng ⟨hk0, by omega⟩ (fun i σ' H' => ∃ u x ts, σ' = [some (.ref d), some u, some (.int m), x] ∧ Same (hide d H) H' ∧ DiceAt H' d ∧ ts.length = i ∧ (∀ p ∈ ts, p.Perm (countL wy.t)) ∧ WayAt K (tp H') u ⟨ts ++ wy.ts, wy.t, wy.e, wy.k⟩)
      ⟨v, none, [], rfl, s02, d2, rfl, (fun p z => by cases z), hw.same (tp_dice hd s02)⟩ (fun i σ' H' hi pv => ?_) (fun σ' H' pv => ?_)
    · obtain ⟨u, x, ts, rfl, s3, d3, lts, hts, w3⟩ := pv
      walk_at "r"
      refine ⟨u, _, rfl, w3.same tp_same, ?_⟩
      walk_at "r"
      refine i_lstRg ⟨by show 0 ≤ wy.t; omega, by show wy.t ≤ _; omega⟩ (fun c H4 hc s4 e4 => ?_)
      have d4 := d3.same s4
      have ncd : c ≠ d := d3.ne hc
      rw [rg_count] at e4
      walk_at "r"
      refine ⟨d, c, _, rfl, d4, sl_of e4, fun y hy => ?_, by rw [List.length_map, count_len]; show wy.t.toNat ≤ 1000; omega, fun p H5 ys hp s5 d5 e5 pp => ?_⟩
      · obtain ⟨z, _, rfl⟩ := List.mem_map.mp hy
        exact fl_int z
      obtain ⟨t, rfl, pt⟩ := perm_map_inv pp _ rfl
      have s35 : Same (hide d H') H5 := hide_tr (hide_pure s4) s5
      have w5 := w3.same (tp_dice d3 s35)
      walk_at "r"
      refine i_tupOfF (sl_of e5) (fun tp5 H6 hp6 s6 e6 => ?_)
      have w6 := w5.same (tp_pure s6)
      walk_at "r"
      refine i_tup (by show 3 ≤ sizeLine; decide) (fun r H7 hr7 s7 e7 => ?_)
      walk_at "r"
      refine ⟨.ref r, _, t :: ts, rfl, ((hide_tr s3 s35).trans s6).trans s7, (d5.same s6).same s7, by rw [List.length_cons, lts], fun p hp => ?_, ?_⟩
      · rcases List.mem_cons.mp hp with rfl | hp
        · exact pt
        · exact hts p hp
      · obtain ⟨tas, pi, z1, z2, z3⟩ := w6.same (tp_pure s7)
        refine ⟨(tp5, t) :: tas, pi, by rw [List.map_cons, z1]; rfl, ⟨r, u, rfl, tp_sqt e7, tp_tupd (e6.same s7), z2⟩, z3⟩
    · obtain ⟨u, x, ts, rfl, s3, d3, lts, hts, w3⟩ := pv
      walk_at "r"
      exact q H' u ts s3 d3 (by omega) hts w3
end
end Esc

namespace Esc
open PySem PySem.Spec PyProof.Rows L2
theorem hu65 {A : Around} {k : Nat} (hr : Room k A) : A.units + 65 < cLine := by have := hr.un; omega
theorem TupsAt.perm {K : PySem.W.Frag} {H : Hp} {as' as : List Addr} (p : as'.Perm as) : ∀ {cs : List (List Int)}, TupsAt K H as cs → ∃ cs' : List (List Int), cs'.Perm cs ∧ TupsAt K H as' cs' := by
  induction p with
  | nil =>
    intro cs h
    exact ⟨cs, .refl _, h⟩
  | cons a p ih =>
    intro cs h
    cases cs with
    | nil => exact h.elim
    | cons c cs =>
      obtain ⟨ds, q, z⟩ := ih h.2
      exact ⟨c :: ds, q.cons c, h.1, z⟩
  | swap a b l =>
    intro cs h
    cases cs with
    | nil => exact h.elim
    | cons c1 cs =>
      cases cs with
      | nil => exact h.2.elim
      | cons c2 cs => exact ⟨c2 :: c1 :: cs, List.Perm.swap _ _ _, h.2.1, h.1, h.2.2⟩
  | trans _ _ ih1 ih2 =>
    intro cs h
    obtain ⟨ds, p1, h1⟩ := ih2 h
    obtain ⟨es, p2, h2⟩ := ih1 h1
    exact ⟨es, p2.trans p1, h2⟩
theorem map_erase {α β : Type} (f : α → β) : ∀ (l : List α) (i : Nat), (l.map f).eraseIdx i = (l.eraseIdx i).map f
  | [], _ => rfl
  | _ :: _, 0 => rfl
  | a :: l, i + 1 => congrArg (f a :: ·) (map_erase f l i)
theorem TupsAt.snoc {K : PySem.W.Frag} {H : Hp} {as : List Addr} {cs : List (List Int)} {a : Addr} {c : List Int} (h : TupsAt K H as cs) (h2 : H a = some (.tup (c.map V.int))) : TupsAt K H (as ++ [a]) (cs ++ [c]) := h.app ⟨h2, trivial⟩
theorem TupsAt.mem {K : PySem.W.Frag} {H : Hp} {as : List Addr} {cs : List (List Int)} {a : Addr} (h : TupsAt K H as cs) (m : a ∈ as) : ∃ c ∈ cs, SqT K H a (c.map V.int) := by
  obtain ⟨i, hi, e⟩ := List.getElem_of_mem m
  obtain ⟨c, h1, h2⟩ := h.get (by rw [List.getElem?_eq_getElem hi, e])
  exact ⟨c, List.mem_of_getElem? h1, h2⟩
/-- l.remove(x) of a list of tuples of ints -/
theorem i_removeT {K : PySem.W.Frag} {H : Hp} {Q : VK} {l a : Addr} {as : List Addr} {cs : List (List Int)} {j : Nat} {c : List Int} (hl : H l = some (.lst (as.map V.ref))) (h : TupsAt K H as cs) (hn : cs.Nodup) (ha : SqT K H a (c.map V.int)) (hj : cs[j]? = some c)
    (q : Q .non (upd H l (.lst ((as.eraseIdx j).map V.ref)))) : rRemD K (.ref l) [.ref a] H Q := by
  refine ⟨l, _, _, intsT c, cs.map intsT, j, intsT c, rfl, rfl, hl, h.dpa, .tup ha (dpa_ints c), shaped_intsTs cs, shaped_intsT c, by rw [List.getElem?_map, hj]; rfl, by rw [eqv_intsT]; exact decide_eq_true rfl, fun m z' hm hz => ?_, by rw [map_erase]; exact q⟩
  rw [List.getElem?_map] at hz
  cases e : cs[m]? with
  | none =>
    rw [e] at hz
    cases hz
  | some c' =>
    rw [e] at hz
    cases hz
    rw [eqv_intsT]
    refine decide_eq_false fun z => ?_
    subst z
    obtain ⟨h1, e1⟩ := List.getElem?_eq_some_iff.mp e
    obtain ⟨h2, e2⟩ := List.getElem?_eq_some_iff.mp hj
    have := (List.getElem_inj hn).mp (e1.trans e2.symm)
    omega
/-- a + b of tuples that are not empty -/
theorem i_catT {K : PySem.W.Frag} {H : Hp} {Q : VK} {a b : Addr} {xs ys : List V} (h1 : SqT K H a xs) (h2 : SqT K H b ys) (n1 : xs ≠ []) (n2 : ys ≠ []) (hz : xs.length + ys.length ≤ sizeLine) (q : ∀ p H', H p = none → Same H H' → H' p = some (.tup (xs ++ ys)) → Q (.ref p) H') : rCatT K (.ref a) (.ref b) H Q :=
  ⟨a, b, xs, ys, rfl, rfl, h1, h2, n1, hz, fun z => absurd z n2, fun _ => grow q⟩
/-- what a way without turned ones ends with -/
def EndB (K : PySem.W.Frag) (d : Addr) (t e : Int) (H : Hp) (Q : VK) : Prop := ∀ (H' : Hp) (p : Addr) (k : Kind), Same (hide d H) H' → DiceAt H' d → KindAt K (tp H') p t e k → KindOk t e k → Q (.ref p) H'
def spBase (K : PySem.W.Frag) : Sp := fun vs H Q _ => ∃ (d : Addr) (t e : Int), vs = [.ref d, .int t, .int e] ∧ DiceAt H d ∧ 3 ≤ t ∧ t ≤ 16 ∧ 0 ≤ e ∧ e < t ∧ EndB K d t e H Q
section
variable {P : Program} {w : World} {K : PySem.W.Frag} {mg : Str → Option Value} {base : Heap}
theorem c_codes (Z : Blt mg) (c__law_off : C8.Cal P w K mg base 1 "_law_off" spOff []) (c__law_plain : C8.Cal P w K mg base 1 "_law_plain" spPlain []) (c__law_mixed : C8.Cal P w K mg base 2 "_law_mixed" (spMixed K) []) (d : Dd K mg "_law_codes" s__law_codes P__law_codes) : C8.Cal P w K mg base 3 "_law_codes" (spBase K) [] := by
  refine d.cal sc__law_codes (fun vs H Q E h => ?_) (fun f cdv A outer s H vs Q E hr h => ?_)
  · obtain ⟨d, t, e, rfl, _⟩ := h
    rfl
  · obtain ⟨d, t, e, rfl, hd, h3, h16, h0, h1, q⟩ := h
    have nd := sc__law_codes.nd
    have np := plain_len h0 h1
    refine ⟨_, (pss_cons (ps_set (i := 3) nd rfl (Or.inl rfl) (C8.pe_c c__law_plain hr (by decide) (by rfl) (pa_cons (pv 1) (pa_cons (pv 2) pa_nil))))
  (pss_cons (ps_setLc (i := 4) (own := [("_law_sign", 8)]) (g := gName 8) (tt := tYes) rfl nd rfl rfl (sw_true rfl rfl rfl (by decide +kernel)) (pi_list (pv 3)) (blkOk_by (N := N__law_codes) (sc := C8.fnScope s__law_codes) (own := [("_law_sign", 8)]) (by decide +kernel)) (fun _ _ _ _ _ => (pg_name (i := 8) nd rfl (Or.inl rfl))) (fun _ _ _ _ _ => pts_nil) (fun _ _ _ _ _ => (pe_tup (pa_cons (pv 8) pa_nil))))
  (pss_cons (ps_for PassesOwn.never rfl (pi_range1 rfl Z.range_ (pa_cons (pe_op op_add pe_int (C8.pe_c c__law_off hr (by decide) (by rfl) (pa_cons (pv 0) (pa_cons pe_int pa_nil)))) pa_nil)) (pg_name (i := 5) nd rfl (Or.inl rfl))
    (pss_cons (ps_setLc (i := 6) (own := [("_law_code", 7)]) (g := gName 7) rfl nd rfl rfl (sw_true rfl rfl rfl (by decide +kernel)) (pi_list (pv 4)) (blkOk_by (N := N__law_codes) (sc := C8.fnScope s__law_codes) (own := [("_law_code", 7)]) (by decide +kernel)) (fun _ _ _ _ _ => (pg_name (i := 7) nd rfl (Or.inl rfl))) (fun _ _ _ _ _ => pts_one (pt_cmpR op_lt (pe_callB (show CallR _ _ (rLen K) from k_len) (by rfl) Z.len_ (by decide +kernel) (pa_cons (pv 7) pa_nil)) pe_int (nomark _))) (fun _ _ _ _ _ => (pv 7)))
  (pss_cons (ps_set (i := 7) nd rfl (Or.inr rfl) (pe_ix ix_list (pv 6) (C8.pe_c c__law_off hr (by decide) (by rfl) (pa_cons (pv 0) (pa_cons (pe_callB k_len (by rfl) Z.len_ (by decide +kernel) (pa_cons (pv 6) pa_nil)) pa_nil))) (fun _ _ => rfl)))
  (pss_cons (ps_expr (pe_bm PySem.F.plainAttrs_list PySem.F.slot_list_remove PySem.F.type_list_remove (mt_removeD (hu65 hr)) (pv 4) (pa_cons (pv 7) pa_nil)))
  (pss_one (ps_set (i := 4) nd rfl (Or.inl rfl) (pe_op op_cat (pv 4) (pe_lc (own := [("_law_sign", 8)]) (g := gName 8) (tt := tYes) rfl nd (pi_list (pv 3)) (blkOk_by (N := N__law_codes) (sc := C8.fnScope s__law_codes) (own := [("_law_sign", 8)]) (by decide +kernel)) (fun _ _ _ _ _ => (pg_name (i := 8) nd rfl (Or.inl rfl))) (fun _ _ _ _ _ => pts_nil) (fun _ _ _ _ _ => (pe_op (show OpR _ _ (rCatT K) from op_catT) (pv 7) (pe_tup (pa_cons (pv 8) pa_nil))))))))))))
  (pss_one (ps_ret (pe_tup (pa_cons pe_str (pa_cons (pv 1) (pa_cons (pv 2) (pa_cons (pe_callTy k_tupOf (by rfl) Z.tuple_ (by decide +kernel) (pa_cons (pe_slice sl_list (C8.pe_c c__law_mixed hr (by decide) (by rfl) (pa_cons (pv 0) (pa_cons (pv 4) pa_nil))) po_none (po_some (pv 1))) pa_nil)) pa_nil)))))))))), ?_⟩
    refine i_start (σ' := [some (.ref d), some (.int t), some (.int e), none, none, none, none, none, none]) rfl ?_
    walk_at "go"
    walk_at "r"
    refine ⟨t, e, rfl, by omega, by omega, fun pl H1 hpl s1 e1 => ?_⟩
    have npd : pl ≠ d := hd.ne hpl
    have d1 := hd.same s1
    walk_at "r"
    refine i_lcLI (xs := (plainL t e).map V.int) (fun D j acc H' => ∃ as : List Addr, acc = as.map V.ref ∧ TupsAt K (tp H') as (((plainL t e).take j).map fun s => [s]) ∧ Same H1 H' ∧ H' D = some (.lst acc)) (sl_of e1)
      (fun D hD => ⟨[], rfl, trivial, same_new hD, upd_same⟩) (fun D j acc H' hD pv => ?_) (fun D j x acc H' hD hx hl pv => ?_) (fun lv acc H' hlv pv => ?_)
    · obtain ⟨as, _, _, s2, _⟩ := pv
      exact s2.seq (sl_of e1)
    · obtain ⟨as, rfl, ht, s2, e2⟩ := pv
      obtain ⟨n, hn, rfl⟩ := map_get hx
      walk_at "r"
      refine i_tup (by show 1 ≤ sizeLine; decide) (fun a H3 ha s3 e3 => ?_)
      have e4 := s3 _ _ e2
      refine kY_of e4 hl (by have := (List.getElem?_eq_some_iff.mp hn).1; omega) ⟨as ++ [a], by rw [List.map_append]; rfl, ?_, smut (s2.trans s3) hD, upd_same⟩
      rw [take_succ' hn, List.map_append]
      refine TupsAt.snoc ((ht.same (tp_pure s3)).same (tp_put e4)) (tp_put e4 _ _ (tp_at e3))
    · obtain ⟨as, rfl, ht, s2, e2⟩ := pv
      rw [List.length_map, List.take_length] at ht
      have npl : lv ≠ pl := (ne_of_none e1 hlv).symm
      have nld : lv ≠ d := d1.ne hlv
      walk_at "r"
      refine ⟨d, 3, rfl, by decide, by decide, d1.same s2, fun H3 n s3 d3 n0 n1 => ?_⟩
      have s03 : Same (hide d H) H3 := hide_tr (hide_pure (s1.trans s2)) s3
      walk_at "r"
      refine i_rng ⟨by omega, by omega⟩ (fun i σ' H' => ∃ (l : Addr) (as : List Addr) (cs : List (List Int)) (x y z : Option V), σ' = [some (.ref d), some (.int t), some (.int e), some (.ref pl), some (.ref l), x, y, z, none] ∧ Same (hide d H) H' ∧ DiceAt H' d ∧ H l = none ∧ l ≠ d ∧ l ≠ pl ∧
          H' l = some (.lst (as.map V.ref)) ∧ H' pl = some (.lst ((plainL t e).map V.int)) ∧ TupsAt K (tp H') as cs ∧ LeavesOk t e (i + 1) cs ∧ cs.length = (plainL t e).length + i * ((plainL t e).length - 1))
        ⟨lv, as, _, none, none, none, rfl, s03, d3, s1.free hlv, nld, npl, s3 _ _ ((hide_ne nld).trans e2), s3 _ _ ((hide_ne npd).trans (s2 _ _ e1)), ht.same (tp_dice (d1.same s2) s3), leaves_first, by rw [List.length_map]; omega⟩
        (fun i σ' H' hi pv => ?_) (fun σ' H' pv => ?_)
      · obtain ⟨l, as, cs, x, y, z, rfl, s4, d4, hl0, hld, hlp, el, ep, hta, hlo, hlen⟩ := pv
        have hi3 : i < 3 := by omega
        have lal := hta.len
        have lcs : cs.length ≤ 50 := by
          have : i * ((plainL t e).length - 1) ≤ 2 * 14 := Nat.mul_le_mul (by omega) (by omega)
          omega
        have lpos : 0 < cs.length := by omega
        walk_at "r"
        refine i_lcL (F := some) (sl_of el) (by rw [List.length_map]; omega) (fun v hv H1 s1 QN QY hN hY => ?_) (fun sh H5 hsh s5 e5 => ?_)
        · obtain ⟨a, ha, rfl⟩ := List.mem_map.mp hv
          obtain ⟨c, hc, hac⟩ := hta.mem ha
          have hac' := stup (tp_same.trans s1) hac
          have lc := (hlo.1 c hc).2.1
          walk_at "r"
          rw [decide_eq_true (by rw [List.length_map]; omega)]
          walk_at "r"
          exact hY _ rfl _ (Same.refl _)
        · rw [List.filterMap_some] at e5
          have d5 := d4.same s5
          have nsd : sh ≠ d := d4.ne hsh
          walk_at "r"
          refine ⟨d, (as.length : Nat), by rw [List.length_map], by omega, by omega, d5, fun H6 n s6 d6 n0 n1 => ?_⟩
          have s46 : Same (hide d H') H6 := hide_tr (hide_pure s5) s6
          have e6 := s6 _ _ ((hide_ne nsd).trans e5)
          have el6 := s46 _ _ ((hide_ne hld).trans el)
          have ep6 := s46 _ _ ((hide_ne npd).trans ep)
          have hta6 := hta.same (tp_dice d4 s46)
          have hj : n.toNat < cs.length := by omega
          have hja : n.toNat < as.length := by omega
          have hx : atI (as.map V.ref) n = some (.ref as[n.toNat]) := by
            have z : ∀ (k : Nat) (v : V), n = (k : Int) → (as.map V.ref)[k]? = some v → atI (as.map V.ref) n = some v := fun k v z1 z2 => by
              rw [z1]
              exact atI_nat z2
            refine z n.toNat _ (by omega) ?_
            rw [List.getElem?_map, List.getElem?_eq_getElem hja]
            rfl
          obtain ⟨c, hc1, hc2⟩ := hta6.get (List.getElem?_eq_getElem hja)
          have ec : cs[n.toNat] = c := by
            rw [List.getElem?_eq_getElem hj] at hc1
            exact Option.some.inj hc1
          have lc := (hlo.1 c (List.mem_of_getElem? hc1)).2.1
          have lc1 := (hlo.1 c (List.mem_of_getElem? hc1)).1
          walk_at "r"
          refine i_removeT el6 (hta6.same tp_same) (leaves_nodup hlo) (stup tp_same hc2) hc1 ?_
          have s7 : Same (hide d H) (upd H6 l (.lst ((as.eraseIdx n.toNat).map V.ref))) := smut (hide_tr s4 s46) (by rw [hide_ne hld]; exact hl0)
          have d7 : DiceAt (upd H6 l (.lst ((as.eraseIdx n.toNat).map V.ref))) d := d6.put hld
          have hta7 := (hta6.erase n.toNat).same (tp_put (o := .lst ((as.eraseIdx n.toNat).map V.ref)) el6)
          have hc7 := stup (tp_put (o := .lst ((as.eraseIdx n.toNat).map V.ref)) el6) hc2
          have ep7 : (upd H6 l (.lst ((as.eraseIdx n.toNat).map V.ref))) pl = some (.lst ((plainL t e).map V.int)) := by
            rw [upd_ne hlp.symm]
            exact ep6
          have el7 : (upd H6 l (.lst ((as.eraseIdx n.toNat).map V.ref))) l = some (.lst ((as.eraseIdx n.toNat).map V.ref)) := upd_same
          generalize (upd H6 l (.lst ((as.eraseIdx n.toNat).map V.ref))) = H7 at s7 d7 hta7 hc7 ep7 el7 ⊢
          walk_at "r"
          refine i_lcLI (xs := (plainL t e).map V.int) (fun D j acc H' => ∃ bs : List Addr, acc = bs.map V.ref ∧ TupsAt K (tp H') bs (((plainL t e).take j).map fun s => cs[n.toNat] ++ [s]) ∧ Same H7 H' ∧ H' D = some (.lst acc)) (sl_of ep7)
            (fun D hD => ⟨[], rfl, trivial, same_new hD, upd_same⟩) (fun D j acc H' hD pv => ?_) (fun D j x acc H' hD hx hl pv => ?_) (fun nw acc H8 hnw pv => ?_)
          · obtain ⟨bs, _, _, s2, _⟩ := pv
            exact s2.seq (sl_of ep7)
          · obtain ⟨bs, rfl, ht, s2, e2⟩ := pv
            obtain ⟨m, hm, rfl⟩ := map_get hx
            walk_at "r"
            refine i_tup (by show 1 ≤ sizeLine; decide) (fun a H3 ha s3 e3 => ?_)
            have hc3 := stup (tp_same.trans (s2.trans s3)) hc7
            have e4 := s3 _ _ e2
            walk_at "r"
            refine i_catT hc3 (st_of e3) (by rw [ne_eq, List.map_eq_nil_iff]; intro z; rw [z] at lc1; exact absurd lc1 (by decide)) (by simp) (sz (by rw [List.length_map]; show c.length + 1 ≤ _; omega)) (fun b H4 hb s4 e5 => ?_)
            have e6 := s4 _ _ e4
            refine kY_of e6 hl (by have := (List.getElem?_eq_some_iff.mp hm).1; omega) ⟨bs ++ [b], by rw [List.map_append]; rfl, ?_, smut ((s2.trans s3).trans s4) hD, upd_same⟩
            rw [take_succ' hm, List.map_append, ec]
            rw [ec] at ht
            refine TupsAt.snoc ((ht.same (tp_pure (s3.trans s4))).same (tp_put e6)) (tp_put e6 _ _ (tp_at ?_))
            rw [List.map_append]
            exact e5
          · obtain ⟨bs, rfl, ht, s8, e8⟩ := pv
            rw [List.length_map, List.take_length] at ht
            have el8 := s8 _ _ el7
            have hta8 := hta7.same (tp_pure s8)
            have lbs := ht.len
            rw [List.length_map] at lbs
            have lae := (hta8.len)
            have lce := List.length_eraseIdx_of_lt hj
            walk_at "r"
            refine i_cat el8 e8 (sz (by rw [List.length_map, List.length_map]; omega)) (fun l9 H9 hl9 s9 e9 => ?_)
            have d8 := d7.same s8
            walk_at "r"
            rw [← List.map_append] at e9
            have z0 := hide_free (s7.trans s8) (d8.ne hl9) hl9
            refine ⟨l9, as.eraseIdx n.toNat ++ bs, cs.eraseIdx n.toNat ++ (plainL t e).map (fun s => cs[n.toNat] ++ [s]), _, _, _, rfl, (s7.trans s8).trans s9, d8.same s9, z0, d8.ne hl9, (ne_of_none (s8 _ _ ep7) hl9).symm, e9, s9 _ _ (s8 _ _ ep7), (hta8.app ht).same (tp_pure s9), leaves_more hj hlo, ?_⟩
            rw [List.length_append, List.length_map, lce, hlen, Nat.succ_mul]
            omega
      · obtain ⟨l, as, cs, x, y, z, rfl, s4, d4, hl0, hld, hlp, el, ep, hta, hlo, hlen⟩ := pv
        have lal := hta.len
        have hm : LeavesOk t e 4 cs := hlo.mono (by omega)
        have lcs : cs.length ≤ 60 ∧ t.toNat ≤ cs.length := by
          have a1 : (1 + n).toNat * ((plainL t e).length - 1) ≤ 3 * 14 := Nat.mul_le_mul (by omega) (by omega)
          have a2 : 1 * ((plainL t e).length - 1) ≤ (1 + n).toNat * ((plainL t e).length - 1) := Nat.mul_le_mul_right _ (by omega)
          omega
        walk_at "r"
        refine ⟨d, l, _, rfl, d4, sl_of el, fun v hv => ?_, by rw [List.length_map]; omega, fun p H5 ys hp s5 d5 e5 pp => ?_⟩
        · obtain ⟨a, ha, rfl⟩ := List.mem_map.mp hv
          obtain ⟨c, hc, hac⟩ := hta.mem ha
          refine fl_tup (c := c) (stup (fun b o z => ?_) hac)
          obtain ⟨xs, ed⟩ := d4.lst
          rw [hide_ne (tp_ne z ed)]
          exact (tp_of z).2
        · obtain ⟨as', rfl, pa⟩ := perm_map_inv pp _ rfl
          obtain ⟨cs', pc, hta'⟩ := (hta.same (tp_dice d4 s5)).perm pa
          have lc' := pc.length_eq
          have la' := hta'.len
          walk_at "r"
          refine i_slL (sl_of e5) (fun p6 H6 hp6 s6 e6 => ?_)
          rw [show (t : Int) = ((t.toNat : Nat) : Int) by omega, cut_to, ← List.map_take] at e6
          walk_at "r"
          refine i_tupOf (sl_of e6) (fun p7 H7 hp7 s7 e7 => ?_)
          walk_at "r"
          refine i_tup (by show 4 ≤ sizeLine; decide) (fun p8 H8 hp8 s8 e8 => ?_)
          have s58 : Same H5 H8 := (s6.trans s7).trans s8
          refine q H8 p8 (.codes (cs'.take t.toNat)) ((hide_tr s4 s5).trans s58) (d5.same s58) ⟨p7, as'.take t.toNat, tp_sqt e8, tp_sqt (s8 _ _ e7), (hta'.take _).same (tp_pure s58)⟩ ⟨by rw [List.length_take]; omega, ((hm.perm pc).sub (List.take_sublist _ _)).codes⟩
end
end Esc

namespace Esc
open PySem PySem.Spec PyProof.Rows L2
theorem i_sortedI {K : PySem.W.Frag} {H : Hp} {Q : VK} {a : Addr} {ns : List Int} (h : SqL K H a (ns.map V.int)) (q : ∀ (ms : List Int) p H', ms.Perm ns → ms.Pairwise (· ≤ ·) → H p = none → Same H H' → H' p = some (.lst (ms.map V.int)) → Q (.ref p) H') : rSortedI K [.ref a] H Q :=
  ⟨a, ns, rfl, h, fun ms p hp hw hn => q ms p _ hp hw hn (same_new hn) upd_same⟩
theorem PairsAt.snoc {K : PySem.W.Frag} {H : Hp} {as : List Addr} {cs : List (Int × Int)} {a : Addr} {c : Int × Int} (h : PairsAt K H as cs) (h2 : SqT K H a [.int c.1, .int c.2]) : PairsAt K H (as ++ [a]) (cs ++ [c]) := h.app ⟨h2, trivial⟩
theorem lt_of_le_nodup : ∀ {l : List Int}, l.Pairwise (· ≤ ·) → l.Nodup → l.Pairwise (· < ·)
  | [], _, _ => .nil
  | a :: l, h, n => by
    obtain ⟨h1, h2⟩ := List.pairwise_cons.mp h
    obtain ⟨n1, n2⟩ := List.nodup_cons.mp n
    refine List.pairwise_cons.mpr ⟨fun x m => ?_, lt_of_le_nodup h2 n2⟩
    have := h1 x m
    have ne : a ≠ x := fun z => n1 (z ▸ m)
    omega
theorem zip_fst : ∀ (ms cs : List Int), ms.length ≤ cs.length → (ms.zip cs).map (·.1) = ms
  | [], cs, _ => by simp
  | m :: ms, [], h => by simp at h
  | m :: ms, c :: cs, h => by
    rw [List.zip_cons_cons, List.map_cons, zip_fst ms cs (by simpa using h)]
theorem zip_snd : ∀ (ms cs : List Int), ms.length ≤ cs.length → (ms.zip cs).map (·.2) = cs.take ms.length
  | [], cs, _ => by simp
  | m :: ms, [], h => by simp at h
  | m :: ms, c :: cs, h => by
    rw [List.zip_cons_cons, List.map_cons, zip_snd ms cs (by simpa using h)]
    rfl
section
variable {P : Program} {w : World} {K : PySem.W.Frag} {mg : Str → Option Value} {base : Heap}
theorem c_escapes (Z : Blt mg) (c__law_off : C8.Cal P w K mg base 1 "_law_off" spOff []) (c__law_plain : C8.Cal P w K mg base 1 "_law_plain" spPlain []) (c__law_mixed : C8.Cal P w K mg base 2 "_law_mixed" (spMixed K) []) (d : Dd K mg "_law_escapes" s__law_escapes P__law_escapes) : C8.Cal P w K mg base 3 "_law_escapes" (spBase K) [] := by
  refine d.cal sc__law_escapes (fun vs H Q E h => ?_) (fun f cdv A outer s H vs Q E hr h => ?_)
  · obtain ⟨d, t, e, rfl, _⟩ := h
    rfl
  · obtain ⟨d, t, e, rfl, hd, h3, h16, h0, h1, q⟩ := h
    have nd := sc__law_escapes.nd
    have np := plain_len h0 h1
    refine ⟨_, (pss_cons (ps_set (i := 3) nd rfl (Or.inl rfl) (C8.pe_c c__law_plain hr (by decide) (by rfl) (pa_cons (pv 1) (pa_cons (pv 2) pa_nil))))
  (pss_cons (ps_set (i := 4) nd rfl (Or.inr rfl) (pe_ix ix_list (pv 3) (C8.pe_c c__law_off hr (by decide) (by rfl) (pa_cons (pv 0) (pa_cons (pe_callB k_len (by rfl) Z.len_ (by decide +kernel) (pa_cons (pv 3) pa_nil)) pa_nil))) (fun _ _ => rfl)))
  (pss_cons (ps_setLc (i := 5) (own := [("_law_sign", 8)]) (g := gName 8) rfl nd rfl rfl (sw_true rfl rfl rfl (by decide +kernel)) (pi_list (pv 3)) (blkOk_by (N := N__law_escapes) (sc := C8.fnScope s__law_escapes) (own := [("_law_sign", 8)]) (by decide +kernel)) (fun _ _ _ _ _ => (pg_name (i := 8) nd rfl (Or.inl rfl))) (fun _ _ _ _ _ => pts_one (PW.pt (pw_and (pt_cmpR op_ne (pv 8) (pv 4) (nomark _)) (pw_and1 (pt_cmpR op_eq (C8.pe_c c__law_off hr (by decide) (by rfl) (pa_cons (pv 0) (pa_cons pe_int pa_nil))) pe_int (nomark _)))))) (fun _ _ _ _ _ => (pv 8)))
  (pss_cons (ps_set (i := 6) nd rfl (Or.inr rfl) (pe_callB cr_sortedI (by rfl) Z.sorted_ (by decide +kernel) (pa_cons (pe_op op_cat (pe_lst (pa_cons (pv 2) (pa_cons (pv 4) pa_nil))) (pe_slice sl_list (pv 5) po_none (po_some (pe_op op_sub (pv 1) pe_int)))) pa_nil)))
  (pss_cons (ps_set (i := 7) nd rfl (Or.inr rfl) (C8.pe_c c__law_mixed hr (by decide) (by rfl) (pa_cons (pv 0) (pa_cons (pv 3) pa_nil))))
  (pss_one (ps_ret (pe_tup (pa_cons pe_str (pa_cons (pv 1) (pa_cons (pv 2) (pa_cons (pv 4) (pa_cons (pe_callTy k_tupOf (by rfl) Z.tuple_ (by decide +kernel) (pa_cons (pe_lc (own := [("_law_k", 9)]) (g := gName 9) (tt := tYes) rfl nd (pi_range1 rfl Z.range_ (pa_cons (pe_callB k_len (by rfl) Z.len_ (by decide +kernel) (pa_cons (pv 6) pa_nil)) pa_nil)) (blkOk_by (N := N__law_escapes) (sc := C8.fnScope s__law_escapes) (own := [("_law_k", 9)]) (by decide +kernel)) (fun _ _ _ _ _ => (pg_name (i := 9) nd rfl (Or.inl rfl))) (fun _ _ _ _ _ => pts_nil) (fun _ _ _ _ _ => (pe_tup (pa_cons (pe_ix (show IxR _ (rIxL K) from ix_list) (pv 6) (pv 9) (fun _ _ => rfl)) (pa_cons (pe_ix (show IxR _ (rIxL K) from ix_list) (pv 7) (pv 9) (fun _ _ => rfl)) pa_nil))))) pa_nil)) pa_nil))))))))))))), ?_⟩
    refine i_start (σ' := [some (.ref d), some (.int t), some (.int e), none, none, none, none, none, none, none]) rfl ?_
    walk_at "go"
    walk_at "r"
    refine ⟨t, e, rfl, by omega, by omega, fun pl H1 hpl s1 e1 => ?_⟩
    have npd : pl ≠ d := hd.ne hpl
    have d1 := hd.same s1
    walk_at "r"
    refine ⟨d, ((plainL t e).length : Nat), rfl, by omega, by omega, d1, fun H2 n s2 d2 n0 n1 => ?_⟩
    have s02 : Same (hide d H) H2 := hide_tr (hide_pure s1) s2
    have e2 := s2 _ _ ((hide_ne npd).trans e1)
    have hn : n.toNat < (plainL t e).length := by omega
    obtain ⟨mk, hmk⟩ : ∃ mk, (plainL t e)[n.toNat]? = some mk := ⟨_, List.getElem?_eq_getElem hn⟩
    have mpl : mk ∈ plainL t e := List.mem_of_getElem? hmk
    have pmk := plain_mem.mp mpl
    have hat : atI ((plainL t e).map V.int) n = some (.int mk) := by
      have z : ∀ (k : Nat) (v : V), n = (k : Int) → ((plainL t e).map V.int)[k]? = some v → atI ((plainL t e).map V.int) n = some v := fun k v z1 z2 => by
        rw [z1]
        exact atI_nat z2
      refine z n.toNat _ (by omega) ?_
      rw [List.getElem?_map, hmk]
      rfl
    walk_at "r"
    refine i_lcLI (xs := (plainL t e).map V.int) (fun D j acc H' => ∃ fs : List Int, acc = fs.map V.int ∧ fs.Sublist ((plainL t e).take j) ∧ mk ∉ fs ∧ Same (hide d H2) H' ∧ DiceAt H' d ∧ H' D = some (.lst acc)) (sl_of e2)
      (fun D hD => ⟨[], rfl, List.nil_sublist _, List.not_mem_nil, hide_pure (same_new hD), d2.same (same_new hD), upd_same⟩) (fun D j acc H' hD pv => ?_) (fun D j x acc H' hD hx hl pv => ?_) (fun mo acc H3 hmo pv => ?_)
    · obtain ⟨fs, _, _, _, s3, _⟩ := pv
      exact s3.seq (sl_of ((hide_ne npd).trans e2))
    · obtain ⟨fs, rfl, hfs, hm, s3, d3, e3⟩ := pv
      obtain ⟨y, hy, rfl⟩ := map_get hx
      have nDd : D ≠ d := d2.ne hD
      have hj : j < (plainL t e).length := (List.getElem?_eq_some_iff.mp hy).1
      have skip : fs.Sublist ((plainL t e).take (j + 1)) := by
        rw [take_succ' hy]
        exact hfs.trans (List.sublist_append_left _ _)
      walk_at "r"
      refine i_nbr (fun hc => ?_) (fun hc => ?_)
      · walk_at "r"
        exact kN_of hl ⟨fs, rfl, skip, hm, s3, d3, e3⟩
      · walk_at "r"
        refine ⟨d, 3, rfl, by decide, by decide, d3, fun H4 n4 s4 d4 _ _ => ?_⟩
        have e4 := s4 _ _ ((hide_ne nDd).trans e3)
        walk_at "r"
        refine i_br (fun _ => ?_) (fun _ => ?_)
        · walk_at "r"
          refine kY_of e4 hl (by omega) ⟨fs ++ [y], by rw [List.map_append]; rfl, ?_, fun m => ?_, smut (hide_tr s3 s4) (by rw [hide_ne nDd]; exact hD), d4.put nDd, upd_same⟩
          · rw [take_succ' hy]
            exact hfs.append (List.Sublist.refl _)
          · rcases List.mem_append.mp m with m | m
            · exact hm m
            · exact hc (List.mem_singleton.mp m).symm
        · walk_at "r"
          exact kN_of hl ⟨fs, rfl, skip, hm, hide_tr s3 s4, d4, e4⟩
    · obtain ⟨fs, rfl, hfs, hm, s3, d3, e3⟩ := pv
      rw [List.length_map, List.take_length] at hfs
      have s03 := hide_tr s02 s3
      have ep3 := s3 _ _ ((hide_ne npd).trans e2)
      walk_at "r"
      refine i_lst (by show 2 ≤ sizeLine; decide) (fun p4 H4 hp4 s4 e4 => ?_)
      have em4 := s4 _ _ e3
      walk_at "r"
      refine i_slL (sl_of em4) (fun p5 H5 hp5 s5 e5 => ?_)
      rw [show t - 3 = (((t - 3).toNat : Nat) : Int) by omega, cut_to, ← List.map_take] at e5
      have e45 := s5 _ _ e4
      have lfs := hfs.length_le
      walk_at "r"
      refine i_cat e45 e5 (sz (by rw [List.length_map, List.length_take]; show 2 + _ ≤ _; omega)) (fun p6 H6 hp6 s6 e6 => ?_)
      walk_at "r"
      refine i_sortedI (ns := e :: mk :: fs.take (t - 3).toNat) (sl_of e6) (fun ms p7 H7 hms hpw hp7 s7 e7 => ?_)
      have s37 := ((s4.trans s5).trans s6).trans s7
      have d7 := d3.same s37
      have ep7 := s37 _ _ ep3
      have n7d : p7 ≠ d := ((((d3.same s4).same s5).same s6)).ne hp7
      have ftk := (List.take_sublist (t - 3).toNat fs).trans hfs
      have lms : ms.length = 2 + (fs.take (t - 3).toNat).length := by
        rw [hms.length_eq]
        simp only [List.length_cons]
        omega
      have lms2 : ms.length ≤ (plainL t e).length := by
        rw [lms, List.length_take]
        omega
      have mms : ∀ s ∈ ms, 0 ≤ s ∧ s < t := fun s hs => by
        rcases List.mem_cons.mp (hms.subset hs) with rfl | hs
        · exact ⟨h0, h1⟩
        · rcases List.mem_cons.mp hs with rfl | hs
          · exact ⟨pmk.1, pmk.2.1⟩
          · have z := plain_mem.mp (ftk.subset hs)
            exact ⟨z.1, z.2.1⟩
      have ndm : ms.Nodup := by
        rw [hms.nodup_iff, List.nodup_cons, List.nodup_cons]
        refine ⟨fun m => ?_, fun m => ?_, (plain_nodup t e).sublist ftk⟩
        · rcases List.mem_cons.mp m with z | m
          · exact pmk.2.2 z.symm
          · exact (plain_mem.mp (ftk.subset m)).2.2 rfl
        · exact hm ((List.take_sublist _ _).subset m)
      walk_at "r"
      refine ⟨d, pl, _, rfl, d7, sl_of ep7, fun v hv => ?_, by rw [List.length_map]; omega, fun p8 H8 ys hp8 s8 d8 e8 pp => ?_⟩
      · obtain ⟨z, _, rfl⟩ := List.mem_map.mp hv
        exact fl_int z
      obtain ⟨cs, rfl, pc⟩ := perm_map_inv pp _ rfl
      have e78 := s8 _ _ ((hide_ne n7d).trans e7)
      have lcs := pc.length_eq
      have s08 : Same (hide d H) H8 := hide_tr (s03.trans s37) s8
      walk_at "r"
      refine i_lcRI (fun D j acc H' => ∃ as : List Addr, acc = as.map V.ref ∧ PairsAt K (tp H') as ((ms.zip cs).take j) ∧ Same H8 H' ∧ H' D = some (.lst acc)) ⟨by omega, by omega⟩
        (fun D hD => ⟨[], rfl, by rw [List.take_zero]; trivial, same_new hD, upd_same⟩) (fun D j acc H' hD hj hl pv => ?_) (fun lp acc H9 hlp pv => ?_)
      · obtain ⟨as, rfl, ht, s9, e9⟩ := pv
        have hj1 : j < ms.length := by omega
        have hj2 : j < cs.length := by omega
        have g1 : atI (ms.map V.int) (j : Int) = some (.int ms[j]) := atI_nat (by rw [List.getElem?_map, List.getElem?_eq_getElem hj1]; rfl)
        have g2 : atI (cs.map V.int) (j : Int) = some (.int cs[j]) := atI_nat (by rw [List.getElem?_map, List.getElem?_eq_getElem hj2]; rfl)
        have e79 := s9 _ _ e78
        have e89 := s9 _ _ e8
        walk_at "r"
        refine i_tup (by show 2 ≤ sizeLine; decide) (fun a H10 ha s10 e10 => ?_)
        have e11 := s10 _ _ e9
        refine kY_of e11 hl (by omega) ⟨as ++ [a], by rw [List.map_append]; rfl, ?_, smut (s9.trans s10) hD, upd_same⟩
        have zz : (ms.zip cs)[j]? = some (ms[j], cs[j]) := by
          rw [List.getElem?_eq_getElem (by rw [List.length_zip]; omega), List.getElem_zip]
        rw [take_succ' zz]
        exact PairsAt.snoc ((ht.same (tp_pure s10)).same (tp_put e11)) (stup (tp_put e11) (tp_sqt e10))
      · obtain ⟨as, rfl, ht, s9, e9⟩ := pv
        rw [Int.toNat_natCast, List.take_of_length_le (by rw [List.length_zip]; omega)] at ht
        walk_at "r"
        refine i_tupOf (sl_of e9) (fun p10 H10 hp10 s10 e10 => ?_)
        walk_at "r"
        refine i_tup (by show 5 ≤ sizeLine; decide) (fun p11 H11 hp11 s11 e11 => ?_)
        have s8e := (s9.trans s10).trans s11
        have fst : (ms.zip cs).map (·.1) = ms := zip_fst ms cs (by omega)
        have snd : (ms.zip cs).map (·.2) = cs.take ms.length := zip_snd ms cs (by omega)
        refine q H11 p11 (.escapes mk (ms.zip cs)) (s08.trans s8e) (d8.same s8e) ⟨p10, as, tp_sqt e11, tp_sqt (s11 _ _ e10), ht.same (tp_pure (s10.trans s11))⟩ ⟨pmk, ?_, ?_, ?_, ?_, ?_, ?_⟩
        · rw [fst]
          exact lt_of_le_nodup hpw ndm
        · rw [fst]
          exact mms
        · rw [fst]
          exact hms.symm.subset List.mem_cons_self
        · rw [fst]
          exact hms.symm.subset (List.mem_cons_of_mem _ List.mem_cons_self)
        · rw [snd]
          exact fun c hc => plain_mem.mp (pc.subset ((List.take_sublist _ _).subset hc))
        · rw [snd]
          exact ((pc.nodup_iff.mpr (plain_nodup t e))).sublist (List.take_sublist _ _)
end
end Esc

namespace Esc
open PySem PySem.Spec PyProof.Rows L2
section
variable {P : Program} {w : World} {K : PySem.W.Frag} {mg : Str → Option Value} {base : Heap}
def spBaseT (K : PySem.W.Frag) : Sp := fun vs H Q _ => ∃ (d : Addr) (t : Int), vs = [.ref d, .int t] ∧ DiceAt H d ∧ 3 ≤ t ∧ t ≤ 16 ∧ ∀ (H' : Hp) (p : Addr) (e : Int) (k : Kind), 0 ≤ e → e < t → Same (hide d H) H' → DiceAt H' d → KindAt K (tp H') p t e k → KindOk t e k → Q (.ref p) H'
theorem c_base (Z : Blt mg) (c__law_off : C8.Cal P w K mg base 1 "_law_off" spOff []) (c__law_codes : C8.Cal P w K mg base 3 "_law_codes" (spBase K) []) (c__law_escapes : C8.Cal P w K mg base 3 "_law_escapes" (spBase K) []) (d : Dd K mg "_law_base" s__law_base P__law_base) : C8.Cal P w K mg base 4 "_law_base" (spBaseT K) [] := by
  refine d.cal sc__law_base (fun vs H Q E h => ?_) (fun f cdv A outer s H vs Q E hr h => ?_)
  · obtain ⟨d, t, rfl, _⟩ := h
    rfl
  · obtain ⟨d, t, rfl, hd, h3, h16, q⟩ := h
    have nd := sc__law_base.nd
    refine ⟨_, (pss_cons (ps_set (i := 2) nd rfl (Or.inl rfl) (C8.pe_c c__law_off hr (by decide) (by rfl) (pa_cons (pv 0) (pa_cons (pv 1) pa_nil))))
  (pss_cons (ps_set (i := 3) nd rfl (Or.inl rfl) (C8.pe_c c__law_off hr (by decide) (by rfl) (pa_cons (pv 0) (pa_cons pe_int pa_nil))))
  (pss_cons (ps_if (pt_cmpR op_lt (pv 3) pe_int (nomark _)) (pss_one (ps_ret (C8.pe_c c__law_codes hr (by decide) (by rfl) (pa_cons (pv 0) (pa_cons (pv 1) (pa_cons (pv 2) pa_nil)))))) pss_nil)
  (pss_cons (ps_if (pt_cmpR op_eq (pv 3) pe_int (nomark _)) (pss_one (ps_ret (C8.pe_c c__law_escapes hr (by decide) (by rfl) (pa_cons (pv 0) (pa_cons (pv 1) (pa_cons (pv 2) pa_nil)))))) pss_nil)
  (pss_cons (ps_if (pt_cmpR op_eq (pv 3) pe_int (nomark _)) (pss_one (ps_ret (pe_tup (pa_cons pe_str (pa_cons (pv 1) (pa_cons (pv 2) pa_nil)))))) pss_nil)
  (pss_one (ps_ret (pe_tup (pa_cons pe_str (pa_cons (pv 1) (pa_cons (pv 2) (pa_cons (pe_ifExp (pt_cmpR op_gt (pv 1) pe_int (nomark _)) (pe_ix ix_list (pe_lst (pa_cons pe_int (pa_cons pe_int (pa_cons (pe_op op_sub (pv 1) pe_int) (pa_cons (pe_op op_add pe_int (C8.pe_c c__law_off hr (by decide) (by rfl) (pa_cons (pv 0) (pa_cons (pe_op op_sub (pv 1) pe_int) pa_nil)))) pa_nil))))) (C8.pe_c c__law_off hr (by decide) (by rfl) (pa_cons (pv 0) (pa_cons pe_int pa_nil))) (fun _ _ => rfl)) pe_int) pa_nil)))))))))))), ?_⟩
    refine i_start (σ' := [some (.ref d), some (.int t), none, none]) rfl ?_
    walk_at "go"
    walk_at "r"
    refine ⟨d, t, rfl, by omega, by omega, hd, fun H1 e s1 d1 e0 e1 => ?_⟩
    walk_at "r"
    refine ⟨d, 7, rfl, by decide, by decide, d1, fun H2 n s2 d2 n0 n1 => ?_⟩
    have s02 := hide_tr s1 s2
    walk_at "r"
    refine i_br (fun _ => ?_) (fun _ => ?_)
    · walk_at "r"
      exact ⟨d, t, e, rfl, d2, h3, h16, e0, e1, fun H3 p k s3 d3 a b => q H3 p e k e0 e1 (hide_tr s02 s3) d3 a b⟩
    · walk_at "r"
      refine i_br (fun _ => ?_) (fun _ => ?_)
      · walk_at "r"
        exact ⟨d, t, e, rfl, d2, h3, h16, e0, e1, fun H3 p k s3 d3 a b => q H3 p e k e0 e1 (hide_tr s02 s3) d3 a b⟩
      · walk_at "r"
        refine i_br (fun _ => ?_) (fun _ => ?_)
        · walk_at "r"
          refine i_tup (by show 3 ≤ sizeLine; decide) (fun p H3 hp s3 e3 => ?_)
          exact q H3 p e .ranks e0 e1 (s02.trans s3) (d2.same s3) (tp_sqt e3) trivial
        · walk_at "r"
          have fin : ∀ (H3 : Hp) (l : Int), 2 ≤ l → l < t → Same (hide d H) H3 → DiceAt H3 d → kTup Q [.str "counts", .int t, .int e, .int l] H3 := fun H3 l l2 lt s3 d3 =>
            i_tup (by show 4 ≤ sizeLine; decide) (fun p H4 hp s4 e4 => q H4 p e (.counts l) e0 e1 (s3.trans s4) (d3.same s4) (tp_sqt e4) ⟨l2, lt⟩)
          refine i_br (fun ht => ?_) (fun _ => ?_)
          · walk_at "r"
            refine ⟨d, t - 2, rfl, by omega, by omega, d2, fun H3 m s3 d3 m0 m1 => ?_⟩
            walk_at "r"
            refine i_lst (by show 4 ≤ sizeLine; decide) (fun l H4 hl s4 e4 => ?_)
            have nld : l ≠ d := d3.ne hl
            walk_at "r"
            refine ⟨d, 4, rfl, by decide, by decide, d3.same s4, fun H5 j s5 d5 j0 j1 => ?_⟩
            have e5 := s5 _ _ ((hide_ne nld).trans e4)
            have s05 : Same (hide d H) H5 := hide_tr ((hide_tr s02 s3).trans s4) s5
            have hv : ∃ v : Int, 2 ≤ v ∧ v < t ∧ atI [V.int 2, .int 3, .int (t - 1), .int (2 + m)] j = some (.int v) := by
              have hj : j = 0 ∨ j = 1 ∨ j = 2 ∨ j = 3 := by omega
              rcases hj with rfl | rfl | rfl | rfl
              · exact ⟨2, by omega, by omega, atI_nat (j := 0) rfl⟩
              · exact ⟨3, by omega, by omega, atI_nat (j := 1) rfl⟩
              · exact ⟨t - 1, by omega, by omega, atI_nat (j := 2) rfl⟩
              · exact ⟨2 + m, by omega, by omega, atI_nat (j := 3) rfl⟩
            obtain ⟨v, v2, vt, hv⟩ := hv
            walk_at "r"
            exact fin H5 v v2 vt s05 d5
          · walk_at "r"
            exact fin H2 2 (by omega) (by omega) s02 d2
def spWay (K : PySem.W.Frag) : Sp := fun vs H Q _ => ∃ (d : Addr), vs = [.ref d] ∧ DiceAt H d ∧ ∀ (H' : Hp) (v : V) (wy : Way), wy.Ok → Same (hide d H) H' → DiceAt H' d → WayAt K (tp H') v wy → Q v H'
theorem c_way (c__law_size : C8.Cal P w K mg base 2 "_law_size" spSize []) (c__law_base : C8.Cal P w K mg base 4 "_law_base" (spBaseT K) []) (c__law_turned : C8.Cal P w K mg base 3 "_law_turned" (spTurned K) []) (d : Dd K mg "_law_way" s__law_way P__law_way) : C8.Cal P w K mg base 5 "_law_way" (spWay K) [] := by
  refine d.cal sc__law_way (fun vs H Q E h => ?_) (fun f cdv A outer s H vs Q E hr h => ?_)
  · obtain ⟨d, rfl, _⟩ := h
    rfl
  · obtain ⟨d, rfl, hd, q⟩ := h
    have nd := sc__law_way.nd
    refine ⟨_, (pss_one (ps_ret (C8.pe_c c__law_turned hr (by decide) (by rfl) (pa_cons (pv 0) (pa_cons (C8.pe_c c__law_base hr (by decide) (by rfl) (pa_cons (pv 0) (pa_cons (C8.pe_c c__law_size hr (by decide) (by rfl) (pa_cons (pv 0) pa_nil)) pa_nil))) (pa_cons pe_int pa_nil)))))), ?_⟩
    refine i_start (σ' := [some (.ref d)]) rfl ?_
    walk_at "go"
    walk_at "r"
    refine ⟨d, rfl, hd, fun H1 t s1 d1 t3 t16 => ?_⟩
    walk_at "r"
    refine ⟨d, t, rfl, d1, t3, t16, fun H2 p e k e0 e1 s2 d2 hk ok => ?_⟩
    walk_at "r"
    refine ⟨d, .ref p, 3, ⟨[], t, e, k⟩, rfl, by decide, by decide, d2, ⟨[], p, rfl, rfl, hk⟩, t3, t16, fun H3 u ts s3 d3 lt hts hw => ?_⟩
    rw [List.append_nil] at hw
    exact q H3 u ⟨ts, t, e, k⟩ ⟨lt, t3, t16, e0, e1, ok, hts⟩ (hide_tr (hide_tr s1 s2) s3) d3 hw
end
end Esc

namespace Esc
open PySem PySem.Spec PyProof.Rows L2
theorem count_pw (t : Int) : (countL t).Pairwise (· ≤ ·) := by
  unfold countL
  rw [List.pairwise_map]
  exact List.pairwise_lt_range.imp fun h => by omega
theorem perm_count {t : Int} {ms ns : List Int} (p : ns.Perm (countL t)) (q : ms.Perm ns) (h : ms.Pairwise (· ≤ ·)) : ms = countL t := List.Perm.eq_of_pairwise (fun a b _ _ h1 h2 => by omega) h (count_pw t) (q.trans p)
section
variable {P : Program} {w : World} {K : PySem.W.Frag} {mg : Str → Option Value} {base : Heap}
instance {t e n : Int} : Decidable (Plain t e n) := by unfold Plain; exact inferInstance
def spPlainI : Sp := fun vs H Q _ => ∃ n t e : Int, vs = [.int n, .int t, .int e] ∧ Q (.bl (decide (Plain t e n))) H
theorem c_is_plain (c_is_sign : C8.Cal P w K mg base 2 "is_sign" spSignI []) (d : Dd K mg "is_plain" s_is_plain P_is_plain) : C8.Cal P w K mg base 3 "is_plain" spPlainI [] := by
  refine d.cal sc_is_plain (fun vs H Q E h => ?_) (fun f cdv A outer s H vs Q E hr h => ?_)
  · obtain ⟨n, t, e, rfl, _⟩ := h
    rfl
  · obtain ⟨n, t, e, rfl, q⟩ := h
    have nd := sc_is_plain.nd
    refine ⟨_, (pss_one (ps_ret (pe_and (C8.pe_c c_is_sign hr (by decide) (by rfl) (pa_cons (pv 0) (pa_cons (pv 1) pa_nil))) (pe_one (pe_cmpR op_ne (pv 0) (pv 2) (nomark _)))))), ?_⟩
    refine i_start (σ' := [some (.int n), some (.int t), some (.int e)]) rfl ?_
    walk_at "go"
    walk_at "r"
    refine ⟨n, t, rfl, ?_⟩
    walk_at "r"
    refine i_br (fun h1 => ?_) (fun h1 => ?_)
    · walk_at "r"
      rw [show (!decide (n = e)) = decide (Plain t e n) by
        by_cases h : n = e
        · rw [decide_eq_true h, decide_eq_false (fun z => z.2.2 h)]
          rfl
        · rw [decide_eq_false h, decide_eq_true ⟨h1.1, h1.2, h⟩]
          rfl]
      exact q
    · walk_at "r"
      rw [decide_eq_false (fun z => h1 ⟨z.1, z.2.1⟩)] at q
      exact q
/-! ### counts -/
def spCountsF (K : PySem.W.Frag) : Sp := fun vs H Q _ => ∃ (p : Addr) (t e l : Int) (x : Str), vs = [.ref p] ∧ SqT K H p [.str x, .int t, .int e, .int l] ∧ 2 ≤ l ∧ l < t ∧ Q .non H
theorem c_counts_fault (c_is_whole : C8.Cal P w K mg base 1 "is_whole" spWholeI []) (d : Dd K mg "counts_fault" s_counts_fault P_counts_fault) : C8.Cal P w K mg base 2 "counts_fault" (spCountsF K) [] := by
  refine d.cal sc_counts_fault (fun vs H Q E h => ?_) (fun f cdv A outer s H vs Q E hr h => ?_)
  · obtain ⟨p, t, e, l, x, rfl, _⟩ := h
    rfl
  · obtain ⟨p, t, e, l, x, rfl, hp, h2, hl, q⟩ := h
    have nd := sc_counts_fault.nd
    refine ⟨_, (pss_cons (ps_asg (pv 0) (pg_tup rfl (pgs_cons (pg_name (i := 1) nd rfl (Or.inl rfl)) (pgs_cons (pg_name (i := 2) nd rfl (Or.inl rfl)) (pgs_cons (pg_name (i := 3) nd rfl (Or.inl rfl)) (pgs_cons (pg_name (i := 4) nd rfl (Or.inl rfl)) pgs_nil))))))
  (pss_one (ps_ret (pe_ifExp (PW.pt (pw_and (pt_val (C8.pe_c c_is_whole hr (by decide) (by rfl) (pa_cons (pv 4) pa_nil))) (pw_and1 (pt_chain op_le op_lt pe_int (pv 4) (pv 2))))) pe_non pe_str)))), ?_⟩
    refine i_start (σ' := [some (.ref p), none, none, none, none]) rfl ?_
    walk_at "go"
    walk_at "r"
    refine ⟨l, rfl, ?_⟩
    walk_at "r"
    rw [decide_eq_true h2]
    walk_at "r"
    rw [decide_eq_true hl]
    walk_at "r"
    exact q
/-! ### turned ones -/
def spFirstT (K : PySem.W.Frag) : Sp := fun vs H Q _ => ∃ (a : Addr) (ns : List Int) (t : Int), vs = [.ref a, .int t] ∧ SqT K H a (ns.map V.int) ∧ (∀ n ∈ ns, 0 ≤ n ∧ n < t) ∧ ∀ H', Same H H' → Q .non H'
theorem c_first_unsignedT (Z : Blt mg) (c_is_sign : C8.Cal P w K mg base 2 "is_sign" spSignI []) (d : Dd K mg "first_unsigned" s_first_unsigned P_first_unsigned) : C8.Cal P w K mg base 3 "first_unsigned" (spFirstT K) [] := by
  refine d.cal sc_first_unsigned (fun vs H Q E h => ?_) (fun f cdv A outer s H vs Q E hr h => ?_)
  · obtain ⟨a, ns, t, rfl, _⟩ := h
    rfl
  · obtain ⟨a, ns, t, rfl, ha, hn, q⟩ := h
    have nd := sc_first_unsigned.nd
    refine ⟨_, (pss_cons (ps_for PassesOwn.never rfl (pi_enT rfl Z.enumerate_ (pa_cons (pv 0) pa_nil)) (pg_tup rfl (pgs_cons (pg_name (i := 2) nd rfl (Or.inl rfl)) (pgs_cons (pg_name (i := 3) nd rfl (Or.inl rfl)) pgs_nil)))
    (pss_one (ps_if (pt_not (pt_val (C8.pe_c c_is_sign hr (by decide) (by rfl) (pa_cons (pv 3) (pa_cons (pv 1) pa_nil))))) (pss_one (ps_ret (pv 2))) pss_nil)))
  (pss_one (ps_ret pe_non))), ?_⟩
    refine i_start (σ' := [some (.ref a), some (.int t), none, none]) rfl ?_
    walk_at "go"
    walk_at "r"
    refine i_enumT ha (fun i σ' H' => ∃ x y, σ' = [some (.ref a), some (.int t), x, y] ∧ Same H H') ⟨_, _, rfl, Same.refl _⟩ (fun i σ' H' _ ⟨_, _, _, s1⟩ => stup s1 ha) (fun i x σ' H1 T H2 hi p hT s2 eT => ?_) (fun σ' H1 p => ?_)
    · obtain ⟨y1, y2, rfl, s1⟩ := p
      obtain ⟨n, hn1, rfl⟩ := List.mem_map.mp (List.mem_of_getElem? hi)
      walk_at "r"
      refine ⟨n, t, rfl, ?_⟩
      rw [decide_eq_true (hn n hn1)]
      walk_at "r"
      exact ⟨_, _, rfl, s1.trans s2⟩
    · obtain ⟨y1, y2, rfl, s1⟩ := p
      walk_at "r"
      exact q _ s1
def spTurnT (K : PySem.W.Frag) : Sp := fun vs H Q _ => ∃ (a : Addr) (ns : List Int) (t : Int), vs = [.ref a, .int t] ∧ SqT K H a (ns.map V.int) ∧ ns.Perm (countL t) ∧ 0 ≤ t ∧ t ≤ 1000 ∧ ∀ H', Same H H' → Q (.bl true) H'
theorem c_is_turning (Z : Blt mg) (c_first_unsigned : C8.Cal P w K mg base 3 "first_unsigned" (spFirstT K) []) (d : Dd K mg "is_turning" s_is_turning P_is_turning) : C8.Cal P w K mg base 4 "is_turning" (spTurnT K) [] := by
  refine d.cal sc_is_turning (fun vs H Q E h => ?_) (fun f cdv A outer s H vs Q E hr h => ?_)
  · obtain ⟨a, ns, t, rfl, _⟩ := h
    rfl
  · obtain ⟨a, ns, t, rfl, ha, hp, h0, h1, q⟩ := h
    have nd := sc_is_turning.nd
    refine ⟨_, (pss_one (ps_ret (pe_and (pe_cmpR k_isN (C8.pe_c c_first_unsigned hr (by decide) (by rfl) (pa_cons (pv 0) (pa_cons (pv 1) pa_nil))) pe_non (nomark _)) (pe_one (pe_cmpR (op_eqD hr.units) (pe_callB cr_sortedIT (by rfl) Z.sorted_ (by decide +kernel) (pa_cons (pv 0) pa_nil)) (pe_listRg rfl rfl Z.list_ (prg_1 rfl Z.range_ (pv 1))) (nomark _)))))), ?_⟩
    refine i_start (σ' := [some (.ref a), some (.int t)]) rfl ?_
    walk_at "go"
    walk_at "r"
    refine ⟨a, ns, t, rfl, ha, fun n hn => count_mem.mp (hp.subset hn), fun H1 s1 => ?_⟩
    have ha1 := stup s1 ha
    walk_at "r"
    rw [decide_eq_true rfl]
    walk_at "r"
    refine i_sortedIT ha1 (fun ms p2 H2 hms hpw hp2 s2 e2 => ?_)
    rw [perm_count hp hms hpw] at e2
    walk_at "r"
    refine i_lstRg ⟨h0, by omega⟩ (fun p3 H3 hp3 s3 e3 => ?_)
    rw [rg_count] at e3
    have e23 := s3 _ _ e2
    walk_at "r"
    refine i_eqL (sl_of e23) (sl_of e3) ?_
    rw [decide_eq_true rfl]
    exact q _ ((s1.trans s2).trans s3)
end
end Esc

namespace Esc
open PySem PySem.Spec PyProof.Rows L2
theorem cut_all (xs : List V) {lo hi : Option Int} (h1 : HT.sIx xs.length 0 lo = 0) (h2 : HT.sIx xs.length xs.length hi = xs.length) : cutV xs lo hi = xs := by
  unfold cutV
  rw [h1, h2, Nat.sub_zero, List.drop_zero, List.take_length]
theorem i_slA {K : PySem.W.Frag} {H : Hp} {Q : VK} {a : Addr} {xs : List V} {lo hi : Option Int} (h : SqT K H a xs) (q : ∀ p H', Same H H' → SqT K H' p (cutV xs lo hi) → Q (.ref p) H') : rSlA K (.ref a) lo hi H Q :=
  ⟨a, xs, rfl, h, fun ⟨h1, h2⟩ => q a H (Same.refl _) (by rw [cut_all xs h1 h2]; exact h), fun _ p hp => q p _ (same_new hp) (st_of upd_same)⟩
theorem dp_intsT {K : PySem.W.Frag} {H : Hp} {a : Addr} {xs : List Int} (h : SqT K H a (xs.map V.int)) : Dp K H (.ref a) (intsT xs) := .tup h (dpa_ints xs)
theorem i_eqT {K : PySem.W.Frag} {H : Hp} {Q : VK} {a b : Addr} {xs ys : List Int} (h : SqT K H a (xs.map V.int)) (h' : SqT K H b (ys.map V.int)) (q : Q (.bl (decide (xs = ys))) H) : rEqD K (.ref a) (.ref b) H Q :=
  ⟨_, _, dp_intsT h, dp_intsT h', shaped_intsT xs, shaped_intsT ys, by rw [eqv_intsT]; exact q⟩
theorem all_yes {α : Type} : ∀ xs : List α, xs.filterMap (fun _ => some (V.bl true)) = (List.replicate xs.length true).map V.bl
  | [] => rfl
  | x :: xs => by
    rw [List.filterMap_cons, all_yes xs]
    rfl
theorem all_true (n : Nat) : (List.replicate n true).all id = true := by simp
theorem apart_take {c o : List Int} (h : Apart c o) {m : Nat} (hm : m = c.length ∨ m = o.length) : c.take m ≠ o.take m := fun z => by
  rcases hm with rfl | rfl
  · rw [List.take_length] at z
    exact h.1 (z ▸ List.take_prefix _ _)
  · rw [List.take_length] at z
    exact h.2 (z ▸ List.take_prefix _ _)
section
variable {P : Program} {w : World} {K : PySem.W.Frag} {mg : Str → Option Value} {base : Heap}
def spCodeI (K : PySem.W.Frag) : Sp := fun vs H Q _ => ∃ (a : Addr) (c : List Int) (t e : Int), vs = [.ref a, .int t, .int e] ∧ SqT K H a (c.map V.int) ∧ 1 ≤ c.length ∧ c.length ≤ 4 ∧ (∀ x ∈ c, Plain t e x) ∧ ∀ H', Same H H' → Q (.bl true) H'
theorem c_is_code (Z : Blt mg) (c_is_plain : C8.Cal P w K mg base 3 "is_plain" spPlainI []) (m_LONGEST_CODE : ∃ u, mg "LONGEST_CODE" = some u ∧ RelV (.int 4) u) (d : Dd K mg "is_code" s_is_code P_is_code) : C8.Cal P w K mg base 4 "is_code" (spCodeI K) [] := by
  refine d.cal sc_is_code (fun vs H Q E h => ?_) (fun f cdv A outer s H vs Q E hr h => ?_)
  · obtain ⟨a, c, t, e, rfl, _⟩ := h
    rfl
  · obtain ⟨a, c, t, e, rfl, ha, h1, h4, hp, q⟩ := h
    have nd := sc_is_code.nd
    refine ⟨_, (pss_one (ps_ret (pe_and (pe_chain op_le op_le pe_int (pe_callB k_len (by rfl) Z.len_ (by decide +kernel) (pa_cons (pv 0) pa_nil)) (C8.pe_gc rfl m_LONGEST_CODE)) (pe_one (pe_callB (cr_all rfl) (by rfl) Z.all_ (by decide +kernel) (pa_cons (pe_lc (own := [("sign", 3)]) (g := gName 3) (tt := tYes) rfl nd (pi_tup (pv 0)) (blkOk_by (N := N_is_code) (sc := C8.fnScope s_is_code) (own := [("sign", 3)]) (by decide +kernel)) (fun _ _ _ _ _ => (pg_name (i := 3) nd rfl (Or.inl rfl))) (fun _ _ _ _ _ => pts_nil) (fun _ _ _ _ _ => (C8.pe_c c_is_plain hr (by decide) (by rfl) (pa_cons (pv 3) (pa_cons (pv 1) (pa_cons (pv 2) pa_nil)))))) pa_nil)))))), ?_⟩
    refine i_start (σ' := [some (.ref a), some (.int t), some (.int e), none]) rfl ?_
    walk_at "go"
    walk_at "r"
    rw [decide_eq_true (by rw [List.length_map]; omega)]
    walk_at "r"
    rw [decide_eq_true (by rw [List.length_map]; omega)]
    walk_at "r"
    refine i_lcT (F := fun _ => some (V.bl true)) ha (by rw [List.length_map]; omega) (fun v hv H1 s1 QN QY hN hY => ?_) (fun p H1 hp1 s1 e1 => ?_)
    · obtain ⟨n, hn, rfl⟩ := List.mem_map.mp hv
      walk_at "r"
      refine ⟨n, t, e, rfl, ?_⟩
      rw [decide_eq_true (hp n hn)]
      exact hY _ rfl _ (Same.refl _)
    · rw [all_yes] at e1
      walk_at "r"
      refine i_all (sl_of e1) ?_
      rw [all_true]
      exact q _ s1
/-! ### codes -/
def spApart (K : PySem.W.Frag) : Sp := fun vs H Q _ => ∃ (a : Addr) (as : List Addr) (cs : List (List Int)), vs = [.ref a] ∧ SqT K H a (as.map V.ref) ∧ TupsAt K H as cs ∧ cs.Pairwise Apart ∧ ∀ H', Same H H' → Q (.bl true) H'
theorem c_stand_apart (Z : Blt mg) (d : Dd K mg "stand_apart" s_stand_apart P_stand_apart) : C8.Cal P w K mg base 1 "stand_apart" (spApart K) [] := by
  refine d.cal sc_stand_apart (fun vs H Q E h => ?_) (fun f cdv A outer s H vs Q E hr h => ?_)
  · obtain ⟨a, as, cs, rfl, _⟩ := h
    rfl
  · obtain ⟨a, as, cs, rfl, ha, ht, hw, q⟩ := h
    have nd := sc_stand_apart.nd
    refine ⟨_, (pss_cons (ps_for PassesOwn.never rfl (pi_enT rfl Z.enumerate_ (pa_cons (pv 0) pa_nil)) (pg_tup rfl (pgs_cons (pg_name (i := 1) nd rfl (Or.inl rfl)) (pgs_cons (pg_name (i := 2) nd rfl (Or.inl rfl)) pgs_nil)))
    (pss_one (ps_for PassesOwn.never rfl (pi_tup (pe_slice sl_tupA (pv 0) (po_some (pe_op op_add (pv 1) pe_int)) po_none)) (pg_name (i := 3) nd rfl (Or.inl rfl))
    (pss_cons (ps_set (i := 4) nd rfl (Or.inl rfl) (pe_callB (k_min2 rfl) (by rfl) Z.min_ (by decide +kernel) (pa_cons (pe_callB k_len (by rfl) Z.len_ (by decide +kernel) (pa_cons (pv 2) pa_nil)) (pa_cons (pe_callB k_len (by rfl) Z.len_ (by decide +kernel) (pa_cons (pv 3) pa_nil)) pa_nil))))
  (pss_one (ps_if (pt_cmpR (op_eqD hr.units) (pe_slice sl_tupA (pv 2) po_none (po_some (pv 4))) (pe_slice sl_tupA (pv 3) po_none (po_some (pv 4))) (nomark _)) (pss_one (ps_ret pe_bl)) pss_nil))))))
  (pss_one (ps_ret pe_bl))), ?_⟩
    refine i_start (σ' := [some (.ref a), none, none, none, none]) rfl ?_
    walk_at "go"
    walk_at "r"
    refine i_enumT ha (fun i σ' H' => ∃ x y z u, σ' = [some (.ref a), x, y, z, u] ∧ Same H H') ⟨_, _, _, _, rfl, Same.refl _⟩ (fun i σ' H' _ ⟨_, _, _, _, _, s1⟩ => stup s1 ha) (fun i x σ' H1 T H2 hi p hT s2 eT => ?_) (fun σ' H1 p => ?_)
    · obtain ⟨x1, x2, x3, x4, rfl, s1⟩ := p
      obtain ⟨b, hb, rfl⟩ : ∃ b, as[i]? = some b ∧ x = .ref b := by
        rw [List.getElem?_map] at hi
        cases e : as[i]? with
        | none =>
          rw [e] at hi
          cases hi
        | some b =>
          rw [e] at hi
          exact ⟨b, rfl, (Option.some.inj hi).symm⟩
      obtain ⟨c, hc, hbc⟩ := ht.get hb
      have s12 := s1.trans s2
      have ha2 := stup s12 ha
      have hil := (List.getElem?_eq_some_iff.mp hb).1
      walk_at "r"
      refine i_slA ha2 (fun r H3 s3 e3 => ?_)
      · rw [show (i : Int) + 1 = ((i + 1 : Nat) : Int) by omega, cut_from, ← List.map_drop] at e3
        have s13 := s12.trans s3
        walk_at "r"
        refine i_forT (e3) (fun j σ' H' => ∃ z u, σ' = [some (.ref a), some (.int (i : Nat)), some (.ref b), z, u] ∧ Same H3 H') ⟨_, _, rfl, Same.refl _⟩ (fun j σ' H' _ ⟨_, _, _, s4⟩ => stup s4 (e3)) (fun j x σ' H4 hj p => ?_) (fun σ' H4 p => ?_)
        · obtain ⟨z, u, rfl, s4⟩ := p
          obtain ⟨b2, hb2, rfl⟩ : ∃ b2, (as.drop (i + 1))[j]? = some b2 ∧ x = .ref b2 := by
            rw [List.getElem?_map] at hj
            cases e : (as.drop (i + 1))[j]? with
            | none =>
              rw [e] at hj
              cases hj
            | some b2 =>
              rw [e] at hj
              exact ⟨b2, rfl, (Option.some.inj hj).symm⟩
          rw [List.getElem?_drop] at hb2
          obtain ⟨o, ho, hbo⟩ := ht.get hb2
          have ap : Apart c o := by
            obtain ⟨g1, g2⟩ := List.getElem?_eq_some_iff.mp hc
            obtain ⟨g3, g4⟩ := List.getElem?_eq_some_iff.mp ho
            have z := List.pairwise_iff_getElem.mp hw i (i + 1 + j) g1 g3 (by omega)
            rw [g2, g4] at z
            exact z
          have s14 := s13.trans s4
          have hbc4 := stup s14 hbc
          have hbo4 := stup s14 hbo
          walk_at "r"
          rw [List.length_map, List.length_map]
          obtain ⟨m, hm, em⟩ : ∃ m : Nat, (m = c.length ∨ m = o.length) ∧ (if (o.length : Int) < (c.length : Int) then (o.length : Int) else (c.length : Int)) = (m : Int) := by
            by_cases z : (o.length : Int) < (c.length : Int)
            · exact ⟨o.length, .inr rfl, if_pos z⟩
            · exact ⟨c.length, .inl rfl, if_neg z⟩
          rw [em]
          refine i_slA hbc4 (fun p5 H5 s5 e5 => ?_)
          rw [cut_to, ← List.map_take] at e5
          have hbo5 := stup s5 hbo4
          walk_at "r"
          refine i_slA hbo5 (fun p6 H6 s6 e6 => ?_)
          rw [cut_to, ← List.map_take] at e6
          have e56 := stup s6 e5
          walk_at "r"
          refine i_eqT e56 e6 ?_
          rw [decide_eq_false (apart_take ap hm)]
          walk_at "r"
          exact ⟨_, _, rfl, (s4.trans s5).trans s6⟩
        · obtain ⟨z, u, rfl, s4⟩ := p
          walk_at "r"
          exact ⟨_, _, _, _, rfl, s13.trans s4⟩
    · obtain ⟨x1, x2, x3, x4, rfl, s1⟩ := p
      walk_at "r"
      exact q _ s1
def spCodesF (K : PySem.W.Frag) : Sp := fun vs H Q _ => ∃ (p : Addr) (t e : Int) (cs : List (List Int)), vs = [.ref p] ∧ KindAt K H p t e (.codes cs) ∧ KindOk t e (.codes cs) ∧ 0 ≤ t ∧ t ≤ 1000 ∧ ∀ H', Same H H' → Q .non H'
theorem c_codes_fault (Z : Blt mg) (c_is_code : C8.Cal P w K mg base 4 "is_code" (spCodeI K) []) (c_stand_apart : C8.Cal P w K mg base 1 "stand_apart" (spApart K) []) (d : Dd K mg "codes_fault" s_codes_fault P_codes_fault) : C8.Cal P w K mg base 5 "codes_fault" (spCodesF K) [] := by
  refine d.cal sc_codes_fault (fun vs H Q E h => ?_) (fun f cdv A outer s H vs Q E hr h => ?_)
  · obtain ⟨p, t, e, cs, rfl, _⟩ := h
    rfl
  · obtain ⟨p, t, e, cs, rfl, ⟨c, as, hp, hc, ht⟩, ⟨hl, hok, hap⟩, h0, h1, q⟩ := h
    have nd := sc_codes_fault.nd
    have hlen := ht.len
    refine ⟨_, (pss_cons (ps_asg (pv 0) (pg_tup rfl (pgs_cons (pg_name (i := 1) nd rfl (Or.inl rfl)) (pgs_cons (pg_name (i := 2) nd rfl (Or.inr rfl)) (pgs_cons (pg_name (i := 3) nd rfl (Or.inr rfl)) (pgs_cons (pg_name (i := 4) nd rfl (Or.inl rfl)) pgs_nil))))))
  (pss_cons (ps_if (PW.pt (pw_or (pt_cmpR op_ne (pe_callB k_len (by rfl) Z.len_ (by decide +kernel) (pa_cons (pv 4) pa_nil)) (pv 2) (nomark _)) (pw_or1 (pt_not (pt_val (pe_callB (cr_all rfl) (by rfl) Z.all_ (by decide +kernel) (pa_cons (pe_lc (own := [("code", 5)]) (g := gName 5) (tt := tYes) rfl nd (pi_tup (pv 4)) (blkOk_by (N := N_codes_fault) (sc := C8.fnScope s_codes_fault) (own := [("code", 5)]) (by decide +kernel)) (fun _ _ _ _ _ => (pg_name (i := 5) nd rfl (Or.inl rfl))) (fun _ _ _ _ _ => pts_nil) (fun _ _ _ _ _ => (C8.pe_c c_is_code hr (by decide) (by rfl) (pa_cons (pv 5) (pa_cons (pv 2) (pa_cons (pv 3) pa_nil)))))) pa_nil))))))) (pss_one (ps_ret pe_str)) pss_nil)
  (pss_one (ps_ret (pe_ifExp (pt_val (C8.pe_c c_stand_apart hr (by decide) (by rfl) (pa_cons (pv 4) pa_nil))) pe_non pe_str))))), ?_⟩
    refine i_start (σ' := [some (.ref p), none, none, none, none, none]) rfl ?_
    walk_at "go"
    walk_at "r"
    rw [decide_eq_true (by rw [List.length_map]; omega), Bool.not_true]
    walk_at "r"
    refine i_lcT (F := fun _ => some (V.bl true)) hc (by rw [List.length_map]; omega) (fun v hv H1 s1 QN QY hN hY => ?_) (fun p2 H1 hp2 s1 e1 => ?_)
    · obtain ⟨a, ha, rfl⟩ := List.mem_map.mp hv
      obtain ⟨x, hx, hax⟩ := ht.mem ha
      have z := hok x hx
      walk_at "r"
      exact ⟨a, x, t, e, rfl, stup s1 hax, z.1, z.2.1, z.2.2, fun H2 s2 => hY _ rfl _ s2⟩
    · rw [all_yes] at e1
      walk_at "r"
      refine i_all (sl_of e1) ?_
      rw [all_true]
      walk_at "r"
      refine ⟨c, as, cs, rfl, stup s1 hc, ht.same s1, hap, fun H2 s2 => ?_⟩
      walk_at "r"
      exact q _ (s1.trans s2)
end
end Esc

namespace Esc
open PySem PySem.Spec PyProof.Rows L2
section
variable {P : Program} {w : World} {K : PySem.W.Frag} {mg : Str → Option Value} {base : Heap}
theorem nodup_sub : ∀ {l m : List Int}, l.Nodup → (∀ x ∈ l, x ∈ m) → l.length ≤ m.length
  | [], _, _, _ => Nat.zero_le _
  | a :: l, m, hn, h => by
    obtain ⟨n1, n2⟩ := List.nodup_cons.mp hn
    have ha := h a List.mem_cons_self
    have ih := nodup_sub (m := m.erase a) n2 fun x hx => (List.mem_erase_of_ne (fun z => n1 (by rw [← z]; exact hx) : x ≠ a)).mpr (h x (List.mem_cons_of_mem _ hx))
    rw [List.length_erase_of_mem ha] at ih
    have := List.length_pos_of_mem ha
    rw [List.length_cons]
    omega
theorem nodup_bound {t e : Int} {cs : List Int} (hn : cs.Nodup) (hp : ∀ c ∈ cs, Plain t e c) (h16 : t ≤ 16) : cs.length ≤ 16 := by
  have sub : cs.length ≤ (countL t).length := nodup_sub hn fun c hc => count_mem.mpr ⟨(hp c hc).1, (hp c hc).2.1⟩
  rw [count_len] at sub
  omega
def spEscF (K : PySem.W.Frag) : Sp := fun vs H Q _ => ∃ (p : Addr) (t e m : Int) (prs : List (Int × Int)), vs = [.ref p] ∧ KindAt K H p t e (.escapes m prs) ∧ KindOk t e (.escapes m prs) ∧ 0 ≤ t ∧ t ≤ 16 ∧ ∀ H', Same H H' → Q .non H'
theorem c_escapes_fault (Z : Blt mg) (c_is_plain : C8.Cal P w K mg base 3 "is_plain" spPlainI []) (c_first_unsigned : C8.Cal P w K mg base 3 "first_unsigned" (spFirst K) []) (d : Dd K mg "escapes_fault" s_escapes_fault P_escapes_fault) : C8.Cal P w K mg base 4 "escapes_fault" (spEscF K) [] := by
  refine d.cal sc_escapes_fault (fun vs H Q E h => ?_) (fun f cdv A outer s H vs Q E hr h => ?_)
  · obtain ⟨p, t, e, m, prs, rfl, _⟩ := h
    rfl
  · obtain ⟨p, t, e, m, prs, rfl, ⟨c, as, hp, hc, ht⟩, ⟨hm, hw, hr0, he1, hm1, hcp, hcn⟩, h0, h16, q⟩ := h
    have nd := sc_escapes_fault.nd
    have hlen := ht.len
    have lp : prs.length ≤ 16 := by
      have z := nodup_bound hcn hcp h16
      rw [List.length_map] at z
      exact z
    refine ⟨_, (pss_cons (ps_asg (pv 0) (pg_tup rfl (pgs_cons (pg_name (i := 1) nd rfl (Or.inl rfl)) (pgs_cons (pg_name (i := 2) nd rfl (Or.inr rfl)) (pgs_cons (pg_name (i := 3) nd rfl (Or.inr rfl)) (pgs_cons (pg_name (i := 4) nd rfl (Or.inl rfl)) (pgs_cons (pg_name (i := 5) nd rfl (Or.inl rfl)) pgs_nil)))))))
  (pss_cons (ps_if (pt_not (pt_val (C8.pe_c c_is_plain hr (by decide) (by rfl) (pa_cons (pv 4) (pa_cons (pv 2) (pa_cons (pv 3) pa_nil)))))) (pss_one (ps_ret pe_str)) pss_nil)
  (pss_cons (ps_setLc (i := 6) (own := [("sign", 9), ("code", 8)]) (g := gTup K 2 (gCons (gName 9) (gCons (gName 8) gNil))) (tt := tYes) rfl nd rfl rfl (sw_true rfl rfl rfl (by decide +kernel)) (pi_tup (pv 5)) (blkOk_by (N := N_escapes_fault) (sc := C8.fnScope s_escapes_fault) (own := [("sign", 9), ("code", 8)]) (by decide +kernel)) (fun _ _ _ _ _ => (pg_tup rfl (pgs_cons (pg_name (i := 9) nd rfl (Or.inl rfl)) (pgs_cons (pg_name (i := 8) nd rfl (Or.inl rfl)) pgs_nil)))) (fun _ _ _ _ _ => pts_nil) (fun _ _ _ _ _ => (pv 9)))
  (pss_cons (ps_setLc (i := 7) (own := [("sign", 9), ("code", 8)]) (g := gTup K 2 (gCons (gName 9) (gCons (gName 8) gNil))) (tt := tYes) rfl nd rfl rfl (sw_true rfl rfl rfl (by decide +kernel)) (pi_tup (pv 5)) (blkOk_by (N := N_escapes_fault) (sc := C8.fnScope s_escapes_fault) (own := [("sign", 9), ("code", 8)]) (by decide +kernel)) (fun _ _ _ _ _ => (pg_tup rfl (pgs_cons (pg_name (i := 9) nd rfl (Or.inl rfl)) (pgs_cons (pg_name (i := 8) nd rfl (Or.inl rfl)) pgs_nil)))) (fun _ _ _ _ _ => pts_nil) (fun _ _ _ _ _ => (pv 8)))
  (pss_cons (ps_if (PW.pt (pw_or (pt_cmpR k_notN (C8.pe_c c_first_unsigned hr (by decide) (by rfl) (pa_cons (pv 6) (pa_cons (pv 2) pa_nil))) pe_non (nomark _)) (pw_or1 (pt_cmpR (op_neD hr.units) (pv 6) (pe_callB (cr_sortedSet rfl) (by rfl) Z.sorted_ (by decide +kernel) (pa_cons (pe_callTy (cr_setI rfl) (by rfl) Z.set_ (by decide +kernel) (pa_cons (pv 6) pa_nil)) pa_nil)) (nomark _))))) (pss_one (ps_ret pe_str)) pss_nil)
  (pss_cons (ps_if (PW.pt (pw_or (pt_cmpR op_notIn_seq (pv 3) (pv 6) (by rfl)) (pw_or1 (pt_cmpR op_notIn_seq (pv 4) (pv 6) (by rfl))))) (pss_one (ps_ret pe_str)) pss_nil)
  (pss_cons (ps_if (PW.pt (pw_or (pt_not (pt_val (pe_callB (cr_all rfl) (by rfl) Z.all_ (by decide +kernel) (pa_cons (pe_lc (own := [("code", 8)]) (g := gName 8) (tt := tYes) rfl nd (pi_list (pv 7)) (blkOk_by (N := N_escapes_fault) (sc := C8.fnScope s_escapes_fault) (own := [("code", 8)]) (by decide +kernel)) (fun _ _ _ _ _ => (pg_name (i := 8) nd rfl (Or.inl rfl))) (fun _ _ _ _ _ => pts_nil) (fun _ _ _ _ _ => (C8.pe_c c_is_plain hr (by decide) (by rfl) (pa_cons (pv 8) (pa_cons (pv 2) (pa_cons (pv 3) pa_nil)))))) pa_nil)))) (pw_or1 (pt_cmpR op_ne (pe_lenSetI rfl rfl Z.len_ rfl Z.set_ (pv 7)) (pe_callB k_len (by rfl) Z.len_ (by decide +kernel) (pa_cons (pv 7) pa_nil)) (nomark _))))) (pss_one (ps_ret pe_str)) pss_nil)
  (pss_one (ps_ret pe_non))))))))), ?_⟩
    refine i_start (σ' := [some (.ref p), none, none, none, none, none, none, none, none, none]) rfl ?_
    walk_at "go"
    walk_at "r"
    refine ⟨m, t, e, rfl, ?_⟩
    rw [decide_eq_true hm]
    walk_at "r"
    refine i_lcTI (fun D j acc H' => acc = ((prs.take j).map (·.1)).map V.int ∧ Same H H' ∧ H' D = some (.lst acc)) hc
      (fun D hD => ⟨rfl, same_new hD, upd_same⟩) (fun D j acc H' hD pv => stup pv.2.1 hc) (fun D j x acc H' hD hx hl pv => ?_) (fun p1 acc H1 hp1 pv => ?_)
    · obtain ⟨rfl, s1, e1⟩ := pv
      obtain ⟨b, hb, rfl⟩ := ref_get hx
      obtain ⟨pr, hpr, hbp⟩ := ht.get hb
      have hbp1 := stup s1 hbp
      have hj : j < as.length := (List.getElem?_eq_some_iff.mp hb).1
      walk_at "r"
      refine kY_of e1 hl (by omega) ⟨?_, smut s1 hD, upd_same⟩
      rw [take_succ' hpr, List.map_append, List.map_append]
      rfl
    obtain ⟨rfl, s1, e1⟩ := pv
    rw [List.length_map, hlen, List.take_length] at e1
    have hc1 := stup s1 hc
    walk_at "r"
    refine i_lcTI (fun D j acc H' => acc = ((prs.take j).map (·.2)).map V.int ∧ Same H1 H' ∧ H' D = some (.lst acc)) hc1
      (fun D hD => ⟨rfl, same_new hD, upd_same⟩) (fun D j acc H' hD pv => stup pv.2.1 hc1) (fun D j x acc H' hD hx hl pv => ?_) (fun p2 acc H2 hp2 pv => ?_)
    · obtain ⟨rfl, s2, e2⟩ := pv
      obtain ⟨b, hb, rfl⟩ := ref_get hx
      obtain ⟨pr, hpr, hbp⟩ := ht.get hb
      have hbp1 := stup (s1.trans s2) hbp
      have hj : j < as.length := (List.getElem?_eq_some_iff.mp hb).1
      walk_at "r"
      refine kY_of e2 hl (by omega) ⟨?_, smut s2 hD, upd_same⟩
      rw [take_succ' hpr, List.map_append, List.map_append]
      rfl
    obtain ⟨rfl, s2, e2⟩ := pv
    rw [List.length_map, hlen, List.take_length] at e2
    have e12 := s2 _ _ e1
    walk_at "r"
    refine ⟨p1, _, t, rfl, sl_of e12, hr0, fun H3 s3 => ?_⟩
    have e13 := s3 _ _ e12
    have e23 := s3 _ _ e2
    walk_at "r"
    rw [decide_eq_true rfl, Bool.not_true]
    walk_at "r"
    refine i_setI (sl_of e13) (by rw [List.length_map]; omega) (fun p4 c4 H4 hc4 hp4 s4 e4 => ?_)
    rw [List.length_map] at hc4
    walk_at "r"
    refine i_sortedSet e4 (by omega) hw (fun p5 H5 hp5 s5 e5 => ?_)
    have s35 := s4.trans s5
    have e15 := s35 _ _ e13
    have e25 := s35 _ _ e23
    walk_at "r"
    refine i_neL (sl_of e15) (sl_of e5) ?_
    rw [decide_eq_true rfl, Bool.not_true]
    walk_at "r"
    refine i_notInI (sl_of e15) ?_
    rw [decide_eq_true he1, Bool.not_true]
    walk_at "r"
    refine i_notInI (sl_of e15) ?_
    rw [decide_eq_true hm1, Bool.not_true]
    walk_at "r"
    refine i_lcL (F := fun _ => some (V.bl true)) (sl_of e25) (by rw [List.length_map, List.length_map]; omega) (fun v hv H6 s6 QN QY hN hY => ?_) (fun p7 H7 hp7 s7 e7 => ?_)
    · obtain ⟨n, hn, rfl⟩ := List.mem_map.mp hv
      walk_at "r"
      refine ⟨n, t, e, rfl, ?_⟩
      rw [decide_eq_true (hcp n hn)]
      exact hY _ rfl _ (Same.refl _)
    rw [all_yes] at e7
    have e27 := s7 _ _ e25
    walk_at "r"
    refine i_all (sl_of e7) ?_
    rw [all_true]
    walk_at "r"
    refine i_lenSet (sl_of e27) (by rw [List.length_map]; omega) hcn ?_
    walk_at "r"
    rw [decide_eq_true (by rw [List.length_map]), Bool.not_true]
    walk_at "r"
    exact q _ (((s1.trans s2).trans (s3.trans s35)).trans s7)
end
end Esc

namespace Esc
open PySem PySem.Spec PyProof.Rows L2
abbrev GI (mg : Str → Option Value) (x : Str) (i : Int) : Prop := ∃ u, mg x = some u ∧ RelV (.int i) u
abbrev GR (mg : Str → Option Value) (x : Str) (a : Addr) : Prop := ∃ u, mg x = some u ∧ RelV (.ref a) u
def S1 (f : Addr) (sp : Sp) : Addr → Option Sp := fun g => if g = f then some sp else none
theorem S1_self {f : Addr} {sp : Sp} : S1 f sp f = some sp := if_pos rfl
theorem S1_held {P : Program} {w : World} {K : PySem.W.Frag} {mg : Str → Option Value} {base : Heap} {j : Nat} {f : Addr} {sp : Sp} (h : Held P w K mg base j f sp) : ∀ g sp', S1 f sp g = some sp' → Held P w K mg base j g sp' := fun g sp' e => by
  unfold S1 at e
  by_cases c : g = f
  · rw [if_pos c] at e
    cases e
    rw [c]
    exact h
  · rw [if_neg c] at e
    cases e
theorem TurnAt.mem {K : PySem.W.Frag} {H : Hp} : ∀ {tas : List (Addr × List Int)} {v u : V}, TurnAt K H tas v u → ∀ x ∈ tas, SqT K H x.1 (x.2.map V.int)
  | [], _, _, _, x, m => by cases m
  | (a, t) :: r, _, _, ⟨p, y, _, _, h2, h3⟩, x, m => by
    rcases List.mem_cons.mp m with rfl | m
    · exact h2.st
    · exact h3.mem x m
theorem cut13 (a b c : V) (xs : List V) : cutV (a :: b :: c :: xs) (some 1) (some 3) = [b, c] := by
  unfold cutV
  rw [show (1 : Int) = ((1 : Nat) : Int) from rfl, show (3 : Int) = ((3 : Nat) : Int) from rfl, HT.sIx_nat, HT.sIx_nat, List.length_cons, List.length_cons, List.length_cons, Nat.min_eq_left (by omega), Nat.min_eq_left (by omega)]
  rfl
theorem cut1_ne (a b c : V) (xs : List V) {n : Nat} : ¬ (HT.sIx (a :: b :: c :: xs).length 0 (some 1) = 0 ∧ HT.sIx (a :: b :: c :: xs).length (a :: b :: c :: xs).length (some 3) = n) := fun z => by
  have q := z.1
  rw [show (1 : Int) = ((1 : Nat) : Int) from rfl, HT.sIx_nat, List.length_cons, Nat.min_eq_left (by omega)] at q
  exact absurd q (by decide)
section
variable {P : Program} {w : World} {K : PySem.W.Frag} {mg : Str → Option Value} {base : Heap}
def spNeedW (K : PySem.W.Frag) : Sp := fun vs H Q _ => ∃ (v : V) (wy : Way), vs = [v] ∧ WayAt K H v wy ∧ wy.Ok ∧ ∀ H', Same H H' → Q .non H'
/-- the four finders of faults, where FAULTS has them -/
structure Faults (P : Program) (w : World) (K : PySem.W.Frag) (mg : Str → Option Value) (base : Heap) (pF : Addr) : Prop where
  codes : ∃ f, mg "codes_fault" = some (.ref f) ∧ KDct K w pF "codes" (.ref f) ∧ C8.Cal P w K mg base 5 "codes_fault" (spCodesF K) []
  escapes : ∃ f, mg "escapes_fault" = some (.ref f) ∧ KDct K w pF "escapes" (.ref f) ∧ C8.Cal P w K mg base 4 "escapes_fault" (spEscF K) []
  counts : ∃ f, mg "counts_fault" = some (.ref f) ∧ KDct K w pF "counts" (.ref f) ∧ C8.Cal P w K mg base 2 "counts_fault" (spCountsF K) []
  ranks : ∃ f, mg "ranks_fault" = some (.ref f) ∧ KDct K w pF "ranks" (.ref f) ∧ C8.Cal P w K mg base 1 "ranks_fault" spRanksFault []
theorem Faults.of {pF : Addr} (F : Faults P w K mg base pF) {p : Addr} {t e : Int} (h3 : 3 ≤ t) (h16 : t ≤ 16) (k : Kind) (ok : KindOk t e k) : ∃ (fa : Addr) (sp : Sp), Held P w K mg base 5 fa sp ∧ KDct K w pF k.name (.ref fa) ∧
    ∀ H Q E, KindAt K H p t e k → (∀ H', Same H H' → Q .non H') → sp [.ref p] H Q E := by
  cases k with
  | codes cs =>
    obtain ⟨f, h1, h2, c⟩ := F.codes
    exact ⟨f, _, held_of c h1 (by decide), h2, fun H Q E hk q => ⟨p, t, e, cs, rfl, hk, ok, by omega, by omega, q⟩⟩
  | escapes m prs =>
    obtain ⟨f, h1, h2, c⟩ := F.escapes
    exact ⟨f, _, held_of c h1 (by decide), h2, fun H Q E hk q => ⟨p, t, e, m, prs, rfl, hk, ok, by omega, by omega, q⟩⟩
  | counts l =>
    obtain ⟨f, h1, h2, c⟩ := F.counts
    exact ⟨f, _, held_of c h1 (by decide), h2, fun H Q E hk q => ⟨p, t, e, l, _, rfl, hk, ok.1, ok.2, q H (Same.refl _)⟩⟩
  | ranks =>
    obtain ⟨f, h1, h2, c⟩ := F.ranks
    exact ⟨f, _, held_of c h1 (by decide), h2, fun H Q E hk q => ⟨.ref p, rfl, q H (Same.refl _)⟩⟩
theorem c_fault_of (Z : Blt mg) {pF : Addr} (m_MOST_TURNED : GI mg "MOST_TURNED" 3) (m_FAULTS : GR mg "FAULTS" pF) (F : Faults P w K mg base pF)
    (c_unturned : C8.Cal P w K mg base 1 "unturned" (spUnturned K) []) (c_is_top : C8.Cal P w K mg base 2 "is_top" spTopI []) (c_is_sign : C8.Cal P w K mg base 2 "is_sign" spSignI [])
    (c_is_turning : C8.Cal P w K mg base 4 "is_turning" (spTurnT K) []) (d : Dd K mg "fault_of" s_fault_of P_fault_of) : C8.Cal P w K mg base 6 "fault_of" (spNeedW K) [] := by
  refine d.cal sc_fault_of (fun vs H Q E h => ?_) (fun f cdv A outer s H vs Q E hr h => ?_)
  · obtain ⟨v, wy, rfl, _⟩ := h
    rfl
  · obtain ⟨v, wy, rfl, ⟨tas, p, hts, hw, hk⟩, ok, q⟩ := h
    have nd := sc_fault_of.nd
    obtain ⟨fa, sp, held, hF, hsp⟩ := F.of (p := p) ok.t3 ok.t16 wy.k ok.kind
    have A_find_fault := S1_held held
    obtain ⟨xs, hx⟩ := hk.head
    have ltas : tas.length ≤ 3 := by
      have z := ok.few
      rw [← hts, List.length_map] at z
      exact z
    refine ⟨_, (pss_cons (ps_asg (C8.pe_c c_unturned hr (by decide) (by rfl) (pa_cons (pv 0) pa_nil)) (pg_tup rfl (pgs_cons (pg_name (i := 1) nd rfl (Or.inl rfl)) (pgs_cons (pg_name (i := 2) nd rfl (Or.inl rfl)) pgs_nil))))
  (pss_cons (ps_if (pt_cmpR op_gt (pe_callB k_len (by rfl) Z.len_ (by decide +kernel) (pa_cons (pv 1) pa_nil)) (C8.pe_gc rfl m_MOST_TURNED) (nomark _)) (pss_one (ps_ret pe_str)) pss_nil)
  (pss_cons (ps_asg (pe_slice sl_tup (pv 2) (po_some pe_int) (po_some pe_int)) (pg_tup rfl (pgs_cons (pg_name (i := 3) nd rfl (Or.inr rfl)) (pgs_cons (pg_name (i := 4) nd rfl (Or.inl rfl)) pgs_nil))))
  (pss_cons (ps_if (pt_not (pt_val (C8.pe_c c_is_top hr (by decide) (by rfl) (pa_cons (pv 3) pa_nil)))) (pss_one (ps_ret pe_str)) pss_nil)
  (pss_cons (ps_if (pt_not (pt_val (C8.pe_c c_is_sign hr (by decide) (by rfl) (pa_cons (pv 4) (pa_cons (pv 3) pa_nil))))) (pss_one (ps_ret pe_str)) pss_nil)
  (pss_cons (ps_set (i := 5) nd rfl (Or.inl rfl) (pe_ix ix_kdict (C8.pe_gc rfl m_FAULTS) (pe_ix ix_tup (pv 2) pe_int (fun _ _ => rfl)) (fun _ _ => rfl)))
  (pss_cons (ps_set (i := 6) nd rfl (Or.inl rfl) (pe_callA A_find_fault hr (x := "find_fault") (i := 5) rfl (by first | exact Or.inl rfl | exact Or.inr (Or.inl rfl) | exact Or.inr (Or.inr rfl)) (pa_cons (pv 2) pa_nil)))
  (pss_cons (ps_if (PW.pt (pw_and (pt_cmpR k_isN (pv 6) pe_non (nomark _)) (pw_and1 (pt_not (pt_val (pe_callB (cr_all rfl) (by rfl) Z.all_ (by decide +kernel) (pa_cons (pe_lc (own := [("signs", 7)]) (g := gName 7) (tt := tYes) rfl nd (pi_list (pv 1)) (blkOk_by (N := N_fault_of) (sc := C8.fnScope s_fault_of) (own := [("signs", 7)]) (by decide +kernel)) (fun _ _ _ _ _ => (pg_name (i := 7) nd rfl (Or.inl rfl))) (fun _ _ _ _ _ => pts_nil) (fun _ _ _ _ _ => (C8.pe_c c_is_turning hr (by decide) (by rfl) (pa_cons (pv 7) (pa_cons (pv 3) pa_nil))))) pa_nil))))))) (pss_one (ps_ret pe_str)) pss_nil)
  (pss_one (ps_ret (pv 6))))))))))), ?_⟩
    refine i_start (σ' := [some v, none, none, none, none, none, none, none]) rfl ?_
    walk_at "go"
    walk_at "r"
    refine ⟨v, tas, p, wy.k.name, _, rfl, hw, hx, wy.k.name_ne, by omega, fun q1 l H1 _ hl s1 e1 el => ?_⟩
    have hx1 := stup s1 hx
    walk_at "r"
    refine i_no (by rw [List.length_map]; omega) ?_
    walk_at "r"
    refine i_slT hx1 (cut1_ne _ _ _ _) (fun q2 H2 _ s2 e2 => ?_)
    rw [cut13] at e2
    have hx2 := stup s2 hx1
    have el2 := s2 _ _ el
    have s12 := s1.trans s2
    walk_at "r"
    refine ⟨wy.t, rfl, ?_⟩
    walk_at "r"
    refine i_yes ⟨ok.t3, ok.t16⟩ ?_
    walk_at "r"
    refine ⟨wy.e, wy.t, rfl, ?_⟩
    walk_at "r"
    refine i_yes ⟨ok.e0, ok.e1⟩ ?_
    walk_at "r"
    refine i_kd hF ?_
    walk_at "r"
    refine i_callA S1_self ?_
    walk_at "r"
    refine hsp _ _ _ (hk.same s12) (fun H3 s3 => ?_)
    have s13 := s12.trans s3
    have el3 := s3 _ _ el2
    walk_at "r"
    refine i_yes rfl ?_
    walk_at "r"
    refine i_lcL (F := fun _ => some (V.bl true)) (sl_of el3) (by rw [List.length_map]; omega) (fun x hx H4 s4 QN QY hN hY => ?_) (fun p3 H4 hp3 s4 e4 => ?_)
    · obtain ⟨y, hy, rfl⟩ := List.mem_map.mp hx
      walk_at "r"
      refine ⟨y.1, y.2, wy.t, rfl, stup (s13.trans s4) (hw.mem y hy), ok.perm _ (by rw [← hts]; exact List.mem_map_of_mem hy), by have := ok.t3; omega, by have := ok.t16; omega, fun H5 s5 => hY _ rfl _ s5⟩
    · rw [all_yes] at e4
      walk_at "r"
      refine i_all (sl_of e4) ?_
      rw [all_true]
      walk_at "r"
      exact q _ (s13.trans s4)
theorem c_need_way (c_fault_of : C8.Cal P w K mg base 6 "fault_of" (spNeedW K) []) (d : Dd K mg "need_way" s_need_way P_need_way) : C8.Cal P w K mg base 7 "need_way" (spNeedW K) [] := by
  refine d.cal sc_need_way (fun vs H Q E h => ?_) (fun f cdv A outer s H vs Q E hr h => ?_)
  · obtain ⟨v, wy, rfl, _⟩ := h
    rfl
  · obtain ⟨v, wy, rfl, hw, ok, q⟩ := h
    have nd := sc_need_way.nd
    refine ⟨_, (pss_cons (ps_set (i := 1) nd rfl (Or.inl rfl) (C8.pe_c c_fault_of hr (by decide) (by rfl) (pa_cons (pv 0) pa_nil)))
  (pss_one (ps_if (pt_cmpR k_notN (pv 1) pe_non (nomark _)) (pss_one ps_never) pss_nil))), ?_⟩
    refine i_start (σ' := [some v, none]) rfl ?_
    walk_at "go"
    walk_at "r"
    refine ⟨v, wy, rfl, hw, ok, fun H1 s1 => ?_⟩
    walk_at "r"
    rw [decide_eq_true rfl, Bool.not_true]
    walk_at "r"
    exact q _ s1
end
end Esc

namespace Esc
open PySem PySem.Spec PyProof.Rows L2
section
variable {P : Program} {w : World} {K : PySem.W.Frag} {mg : Str → Option Value} {base : Heap}
def spByK (K : PySem.W.Frag) (good : Int → Int → Kind → Prop) (out : Int → Int → Kind → List Int → List Int) : Sp := fun vs H Q _ => ∃ (p b : Addr) (t e : Int) (k : Kind) (body : List Int), vs = [.ref p, .ref b] ∧ good t e k ∧ KindAt K H p t e k ∧ KindOk t e k ∧ 3 ≤ t ∧ t ≤ 16 ∧ 0 ≤ e ∧ e < t ∧
  SqL K H b (body.map V.int) ∧ (∀ x ∈ body, 0 ≤ x ∧ x < t) ∧ body.length ≤ 200 ∧ ∀ q H', H q = none → Same H H' → H' q = some (.lst ((out t e k body).map V.int)) → Q (.ref q) H'
def isCodes : Int → Int → Kind → Prop := fun _ _ k => ∃ cs, k = .codes cs
def isEscapes : Int → Int → Kind → Prop := fun _ _ k => ∃ m prs, k = .escapes m prs
def isCounts : Int → Int → Kind → Prop := fun _ _ k => ∃ l, k = .counts l
def isRanks : Int → Int → Kind → Prop := fun _ _ k => k = .ranks
theorem c_by_codes (d : Dd K mg "by_codes" s_by_codes P_by_codes) : C8.Cal P w K mg base 1 "by_codes" (spByK K isCodes rowOf) [] := by
  refine d.cal sc_by_codes (fun vs H Q E h => ?_) (fun f cdv A outer s H vs Q E hr h => ?_)
  · obtain ⟨p, b, t, e, k, body, rfl, _⟩ := h
    rfl
  · obtain ⟨p, b, t, e, k, body, rfl, ⟨cs, rfl⟩, ⟨c, as, hp, hc, ht⟩, ⟨hl, hok, hap⟩, h3, h16, h0, h1, hb, hin, hlen, q⟩ := h
    have nd := sc_by_codes.nd
    have lcs := ht.len
    refine ⟨_, (pss_cons (ps_set (i := 2) nd rfl (Or.inr rfl) (pe_ix ix_tup (pv 0) pe_int (fun _ _ => rfl)))
  (pss_one (ps_ret (pe_lc2 (own := [("letter", 3), ("sign", 4)]) (vs1 := [4]) (g := gName 3) (g1 := gName 4) (tt := tYes) (tt1 := tYes) rfl nd (pi_list (pv 1)) (blkOk_by (N := N_by_codes) (sc := C8.fnScope s_by_codes) (own := [("letter", 3), ("sign", 4)]) (by decide +kernel)) (by decide) (fun _ _ _ _ _ => (pg_name (i := 3) nd rfl (Or.inl rfl))) (fun _ _ _ _ _ => pts_nil) (fun _ _ _ _ _ => (show PI _ _ _ (iTup K _) from (pi_tup (pe_ix (show IxR _ (rIxT K) from ix_tup) (pv 2) (pv 3) (fun _ _ => rfl))))) (fun _ _ _ _ _ => (pg_name (i := 4) nd rfl (Or.inl rfl))) (fun _ _ _ _ _ => pts_nil) (fun _ _ _ _ _ => (pv 4)))))), ?_⟩
    refine i_start (σ' := [some (.ref p), some (.ref b), none, none, none]) rfl ?_
    walk_at "go"
    walk_at "r"
    refine i_lc2L (fun D i acc H' => acc = (codesB cs (body.take i)).map V.int ∧ Same H H' ∧ H' D = some (.lst acc)) hb (fun D hD => ⟨rfl, same_new hD, upd_same⟩) (fun D i acc H' hD pv => pv.2.1.seq hb)
      (fun D i x acc H' hD hx pv => ?_) (fun D acc H' hD pv => ?_)
    · obtain ⟨rfl, s1, e1⟩ := pv
      obtain ⟨n, hn, rfl⟩ := map_get hx
      have hi := (List.getElem?_eq_some_iff.mp hn).1
      have bn := hin n (List.mem_of_getElem? hn)
      have hna : n.toNat < as.length := by omega
      obtain ⟨cc, hcc, hac⟩ := ht.get (List.getElem?_eq_getElem hna)
      have hc1 := stup s1 hc
      have hac1 := stup s1 hac
      have hat : atI (as.map V.ref) n = some (.ref as[n.toNat]) := by
        have z : ∀ (k : Nat) (v : V), n = (k : Int) → (as.map V.ref)[k]? = some v → atI (as.map V.ref) n = some v := fun k v z1 z2 => by
          rw [z1]
          exact atI_nat z2
        refine z n.toNat _ (by omega) ?_
        rw [List.getElem?_map, List.getElem?_eq_getElem hna]
        rfl
      have l4 := codesB_len (fun c hc => (hok c hc).2.1) (body.take i)
      rw [List.length_take] at l4
      walk_at "r"
      refine i_in2T (fun j H' => Same H H' ∧ H' D = some (.lst ((codesB cs (body.take i) ++ cc.take j).map V.int))) hac1 ⟨s1, by rw [List.take_zero, List.append_nil]; exact e1⟩ (fun j H' pw => stup pw.1 hac) (fun j y H2 hy pw => ?_) (fun H2 pw => ?_)
      · obtain ⟨s2, e2⟩ := pw
        obtain ⟨m, hm, rfl⟩ := map_get hy
        have lcc := (hok cc (List.mem_of_getElem? hcc)).2.1
        have hj := (List.getElem?_eq_some_iff.mp hm).1
        walk_at "r"
        refine ⟨_, e2, szl (by rw [List.length_map, List.length_append, List.length_take]; omega), smut s2 hD, ?_⟩
        rw [upd_same, take_succ' hm, List.map_append, List.map_append, List.map_append, List.append_assoc]
        rfl
      · obtain ⟨s2, e2⟩ := pw
        rw [List.length_map, List.take_length] at e2
        refine ⟨_, rfl, s2, ?_⟩
        rw [e2, take_succ' hn, codesB_snoc, List.getD_eq_getElem?_getD, hcc]
        rfl
    · obtain ⟨rfl, s1, e1⟩ := pv
      rw [List.length_map, List.take_length] at e1
      exact q D H' hD s1 e1
end
end Esc

namespace Esc
open PySem PySem.Spec PyProof.Rows L2
theorem cut3 (a b c : V) (xs : List V) : cutV (a :: b :: c :: xs) (some 3) none = xs := by
  rw [show (3 : Int) = ((3 : Nat) : Int) from rfl, cut_from]
  rfl
theorem cut3_ne (a b c : V) (xs : List V) {n : Nat} {hi : Option Int} : ¬ (HT.sIx (a :: b :: c :: xs).length 0 (some 3) = 0 ∧ HT.sIx (a :: b :: c :: xs).length (a :: b :: c :: xs).length hi = n) := fun z => by
  have q := z.1
  rw [show (3 : Int) = ((3 : Nat) : Int) from rfl, HT.sIx_nat, List.length_cons, List.length_cons, List.length_cons, Nat.min_eq_left (by omega)] at q
  exact absurd q (by decide)
theorem drop_get {α : Type} {l : List α} {i : Nat} {x : α} {r : List α} (h : l.drop i = x :: r) : l[i]? = some x ∧ l.drop (i + 1) = r := by
  constructor
  · rw [← List.head?_drop, h]
    rfl
  · rw [← List.tail_drop, h]
    rfl
theorem drop_of {α : Type} {l : List α} {i : Nat} {x : α} (h : l[i]? = some x) : l.drop i = x :: l.drop (i + 1) := by
  obtain ⟨h1, h2⟩ := List.getElem?_eq_some_iff.mp h
  rw [List.drop_eq_getElem_cons h1, h2]
/-- signs and codes exchanged -/
def swp (prs : List (Int × Int)) : List (Int × Int) := prs.map fun c => (c.2, c.1)
theorem swp_fst (prs : List (Int × Int)) : (swp prs).map (·.1) = prs.map (·.2) := by
  unfold swp
  rw [List.map_map]
  rfl
theorem swp_look {prs : List (Int × Int)} (hn : (prs.map (·.2)).Nodup) {x c : Int} (h : look prs x = some c) : look (swp prs) c = some x := by
  have m := look_some h
  have m2 : (c, x) ∈ swp prs := List.mem_map.mpr ⟨(x, c), m, rfl⟩
  exact look_mem (by rw [swp_fst]; exact hn) m2
theorem fst_new {l : List (Int × Int)} {j : Nat} {c : Int × Int} (hn : (l.map (·.1)).Nodup) (h : l[j]? = some c) : c.1 ∉ (l.take j).map (·.1) := by
  rw [List.map_take]
  exact nodup_take hn (by rw [List.getElem?_map, h]; rfl)
section
variable {P : Program} {w : World} {K : PySem.W.Frag} {mg : Str → Option Value} {base : Heap}
theorem c_by_escapes (d : Dd K mg "by_escapes" s_by_escapes P_by_escapes) : C8.Cal P w K mg base 1 "by_escapes" (spByK K isEscapes rowOf) [] := by
  refine d.cal sc_by_escapes (fun vs H Q E h => ?_) (fun f cdv A outer s H vs Q E hr h => ?_)
  · obtain ⟨p, b, t, e, k, body, rfl, _⟩ := h
    rfl
  · obtain ⟨p, b, t, e, k, body, rfl, ⟨m, prs, rfl⟩, ⟨c, as, hp, hc, ht⟩, ⟨hm, hw, hr0, he1, hm1, hcp, hcn⟩, h3, h16, h0, h1, hb, hin, hlen, q⟩ := h
    have nd := sc_by_escapes.nd
    have las := ht.len
    have hnf : (prs.map (·.1)).Nodup := hw.imp fun h => by omega
    refine ⟨_, (pss_cons (ps_asg (pe_slice sl_tup (pv 0) (po_some pe_int) po_none) (pg_tup rfl (pgs_cons (pg_name (i := 2) nd rfl (Or.inl rfl)) (pgs_cons (pg_name (i := 3) nd rfl (Or.inl rfl)) pgs_nil))))
  (pss_cons (ps_setDc (i := 4) (own := [("sign", 6), ("code", 7)]) (g := gTup K 2 (gCons (gName 6) (gCons (gName 7) gNil))) (tt := tYes) rfl nd rfl rfl (sw_dc rfl rfl rfl (by decide +kernel)) (pi_tup (pv 3)) (blkOk_by (N := N_by_escapes) (sc := C8.fnScope s_by_escapes) (own := [("sign", 6), ("code", 7)]) (by decide +kernel)) (fun _ _ _ _ _ => (pg_tup rfl (pgs_cons (pg_name (i := 6) nd rfl (Or.inl rfl)) (pgs_cons (pg_name (i := 7) nd rfl (Or.inl rfl)) pgs_nil)))) (fun _ _ _ _ _ => pts_nil) (fun _ _ _ _ _ => (pv 6)) (fun _ _ _ _ _ => (pv 7)))
  (pss_cons (ps_set (i := 5) nd rfl (Or.inl rfl) (pe_lst pa_nil))
  (pss_cons (ps_for PassesOwn.never rfl (pi_list (pv 1)) (pg_name (i := 6) nd rfl (Or.inl rfl))
    (pss_one (ps_if (pt_cmp (pc_din (hu_of hr) (pv 6) (pv 4))) (pss_one (ps_expr (pe_bm PySem.F.plainAttrs_list PySem.F.slot_list_extend PySem.F.type_list_extend mt_extend (pv 5) (pa_cons (pe_lst (pa_cons (pv 2) (pa_cons (pe_dget (hu_of hr) (pv 4) (pv 6) (fun _ _ => rfl)) pa_nil))) pa_nil)))) (pss_one (ps_expr (pe_bm PySem.F.plainAttrs_list PySem.F.slot_list_append PySem.F.type_list_append mt_append (pv 5) (pa_cons (pv 6) pa_nil)))))))
  (pss_one (ps_ret (pv 5))))))), ?_⟩
    refine i_start (σ' := [some (.ref p), some (.ref b), none, none, none, none, none, none]) rfl ?_
    walk_at "go"
    walk_at "r"
    refine i_slT hp (cut3_ne _ _ _ _) (fun p1 H1 _ s1 e1 => ?_)
    rw [cut3] at e1
    have hc1 := stup s1 hc
    walk_at "r"
    refine i_dcT (fun i => kvOf (prs.take i)) rfl hc1 (fun D i x H2 hD hx s2 e2 Nx hN => ?_) (fun p2 H2 hp2 s2 e2 => ?_)
    · obtain ⟨a, ha, rfl⟩ := ref_get hx
      obtain ⟨cc, hcc, hac⟩ := ht.get ha
      have hac2 := stup (s1.trans s2) hac
      have il := (List.getElem?_eq_some_iff.mp hcc).1
      walk_at "r"
      refine ⟨_, Sum.inl cc.1, rfl, e2, szl (by unfold kvOf; rw [List.length_map, List.length_take]; have z := nodup_bound hcn hcp h16; rw [List.length_map] at z; omega), hN _ (smut s2 hD) ?_⟩
      rw [upd_same, kv_snoc _ _ (fst_new hnf hcc), take_succ' hcc]
    · rw [List.length_map, las, List.take_length] at e2
      have s12 := s1.trans s2
      walk_at "r"
      refine i_lst (Nat.zero_le _) (fun fr H3 hfr s3 e3 => ?_)
      have s13 := s12.trans s3
      have e23 := s3 _ _ e2
      walk_at "r"
      refine i_for (s13.seq hb) (fun i σ' H' => ∃ y, σ' = [some (.ref p), some (.ref b), some (.int m), some (.ref c), some (.ref p2), some (.ref fr), y, none] ∧ Same H H' ∧ H' p2 = some (.dK (kvOf prs)) ∧ H' fr = some (.lst ((escB m prs (body.take i)).map V.int)))
        ⟨none, rfl, s13, e23, e3⟩ (fun i σ' H' _ ⟨_, _, s4, _⟩ => s4.seq hb) (fun i x σ' H' hi pv => ?_) (fun σ' H' pv => ?_)
      · obtain ⟨y, rfl, s4, ed, ef⟩ := pv
        obtain ⟨n, hn, rfl⟩ := map_get hi
        have npf : p2 ≠ fr := (ne_of_none e2 hfr)
        have le := escB_len m prs (body.take i)
        rw [List.length_take] at le
        have hg : DGet H' p2 (.int n) ((look prs n).map V.int) := by
          rw [← kv_val]
          exact DGet.k (k := Sum.inl n) ed
        walk_at "r"
        refine ⟨p2, _, rfl, hg, ?_⟩
        cases el : look prs n with
        | none =>
          simp only [Option.map_none, Option.isSome_none]
          walk_at "r"
          refine ⟨_, rfl, smut s4 (s12.free hfr), ?_, ?_⟩
          · rw [upd_ne npf]
            exact ed
          · rw [upd_same, take_succ' hn, escB_snoc, List.map_append]
            unfold escS
            rw [el]
            rfl
        | some cc =>
          rw [el] at hg
          simp only [Option.map_some, Option.isSome_some] at hg ⊢
          walk_at "r"
          refine ⟨p2, _, rfl, hg, ?_⟩
          walk_at "r"
          refine i_lst (by show 2 ≤ sizeLine; decide) (fun l5 H5 hl5 s5 e5 => ?_)
          have ef5 := s5 _ _ ef
          walk_at "r"
          refine i_extend ef5 e5 (sz (by rw [List.length_map]; show _ + 2 ≤ _; omega)) ?_
          walk_at "r"
          refine ⟨_, rfl, smut (s4.trans s5) (s12.free hfr), ?_, ?_⟩
          · rw [upd_ne npf]
            exact s5 _ _ ed
          · rw [upd_same, take_succ' hn, escB_snoc, List.map_append]
            unfold escS
            rw [el]
            rfl
      · obtain ⟨y, rfl, s4, ed, ef⟩ := pv
        rw [List.length_map, List.take_length] at ef
        walk_at "r"
        exact q fr H' (s12.free hfr) s4 ef
end
end Esc

namespace Esc
open PySem PySem.Spec PyProof.Rows L2
def kDNo1 (Q : VK) (σ : L2.St) (td : TE) : VK := fun y H1 => td σ H1 fun x H2 => ∃ a o, x = .ref a ∧ DGet H2 a y o ∧ Q (.bl (!o.isSome)) H2
def kDNo2 (Q : VK) (y : V) : VK := fun x H2 => ∃ a o, x = .ref a ∧ DGet H2 a y o ∧ Q (.bl (!o.isSome)) H2
instance {ta tb : TE} {σ : L2.St} {H : Hp} {Q : VK} : Step (tDNotIn ta tb σ H Q) (ta σ H (kDNo1 Q σ tb)) := ⟨fun h => h⟩
instance {tb : TE} {σ : L2.St} {H : Hp} {Q : VK} {y : V} : Step (kDNo1 Q σ tb y H) (tb σ H (kDNo2 Q y)) := ⟨fun h => h⟩
theorem escB_cons (m : Int) (prs : List (Int × Int)) (x : Int) (body : List Int) : escB m prs (x :: body) = escS m prs x ++ escB m prs body := by
  unfold escB
  rw [List.flatMap_cons]
theorem escS_some {m : Int} {prs : List (Int × Int)} {x c : Int} (h : look prs x = some c) : escS m prs x = [m, c] := by
  unfold escS
  rw [h]
theorem escS_none {m : Int} {prs : List (Int × Int)} {x : Int} (h : look prs x = none) : escS m prs x = [x] := by
  unfold escS
  rw [h]
theorem escS_ne (m : Int) (prs : List (Int × Int)) (x : Int) : escS m prs x ≠ [] := by
  unfold escS
  split <;> simp
theorem dget_sw {H : Hp} {a : Addr} {l : List (Int × Int)} (h : H a = some (.dK (kvOf l))) (x : Int) : DGet H a (.int x) ((look l x).map V.int) := by
  rw [← kv_val]
  exact DGet.k (k := Sum.inl x) h
end Esc

namespace Esc
open PySem PySem.Spec PyProof.Rows L2
def kTru (K : PySem.W.Frag) (Q : Bool → Hp → Prop) : VK := fun x H' => ∃ k, TruV K x H' k ∧ Q k H'
def tTru (K : PySem.W.Frag) (ta : TE) : TT := fun σ H Q => ta σ H (kTru K Q)
theorem pt_tru {X : Cx} {a : Expr} {ta : TE} (he : PE X a ta) (h : ∀ whole, isTrue a X.env whole = (do let v ← whole; standAt a.pos; holding [v] (truthy v))) : PT X a (tTru X.K ta) := pt_truth he h
instance {K : PySem.W.Frag} {ta : TE} {σ : L2.St} {H : Hp} {Q : Bool → Hp → Prop} : Step (tTru K ta σ H Q) (ta σ H (kTru K Q)) := ⟨fun h => h⟩
theorem i_truL {K : PySem.W.Frag} {H : Hp} {Q : Bool → Hp → Prop} {a : Addr} {xs : List V} (h : SqL K H a xs) (q : Q (!xs.isEmpty) H) : kTru K Q (.ref a) H := ⟨_, .inl ⟨xs, h, rfl⟩, q⟩
theorem atI_last (xs : List V) (v : V) : atI (xs ++ [v]) (-1) = some v := by
  unfold atI ixN
  rw [if_neg (by decide), List.length_append, List.length_singleton, if_pos (by omega)]
  show (xs ++ [v])[((-1 : Int) + ((xs.length + 1 : Nat) : Int)).toNat]? = some v
  rw [show ((-1 : Int) + ((xs.length + 1 : Nat) : Int)).toNat = xs.length by omega, List.getElem?_append_right (Nat.le_refl _), Nat.sub_self]
  rfl
/-- at each of as a list of ints -/
def LstsAt (H : Hp) : List Addr → List (List Int) → Prop
  | [], [] => True
  | a :: as, c :: cs => H a = some (.lst (c.map V.int)) ∧ LstsAt H as cs
  | _, _ => False
theorem LstsAt.same {H H' : Hp} (s : Same H H') : ∀ {as : List Addr} {cs : List (List Int)}, LstsAt H as cs → LstsAt H' as cs
  | [], [], _ => trivial
  | _ :: _, _ :: _, ⟨h, r⟩ => ⟨s _ _ h, LstsAt.same s r⟩
theorem LstsAt.len {H : Hp} : ∀ {as : List Addr} {cs : List (List Int)}, LstsAt H as cs → as.length = cs.length
  | [], [], _ => rfl
  | _ :: _, _ :: _, ⟨_, r⟩ => congrArg (· + 1) r.len
theorem LstsAt.put {H : Hp} {z : Addr} {o : HO} : ∀ {as : List Addr} {cs : List (List Int)}, z ∉ as → LstsAt H as cs → LstsAt (upd H z o) as cs
  | [], [], _, _ => trivial
  | a :: as, _ :: cs, n, ⟨h, r⟩ => ⟨by rw [upd_ne (fun e => n (by rw [← e]; exact List.mem_cons_self) : a ≠ z)]; exact h, LstsAt.put (fun m => n (List.mem_cons_of_mem _ m)) r⟩
theorem LstsAt.app {H : Hp} : ∀ {as : List Addr} {cs : List (List Int)} {bs : List Addr} {ds : List (List Int)}, LstsAt H as cs → LstsAt H bs ds → LstsAt H (as ++ bs) (cs ++ ds)
  | [], [], _, _, _, h => h
  | _ :: as, _ :: cs, bs, ds, ⟨h, r⟩, h2 => ⟨h, LstsAt.app (as := as) (cs := cs) (bs := bs) (ds := ds) r h2⟩
theorem LstsAt.get {H : Hp} : ∀ {as : List Addr} {cs : List (List Int)} {i : Nat} {a : Addr}, LstsAt H as cs → as[i]? = some a → ∃ c, cs[i]? = some c ∧ H a = some (.lst (c.map V.int))
  | [], _, _, _, _, e => by simp at e
  | _ :: _, c :: _, 0, a, ⟨h, _⟩, e => by
    cases e
    exact ⟨c, rfl, h⟩
  | _ :: as, _ :: cs, i + 1, a, ⟨_, r⟩, e => LstsAt.get (as := as) (cs := cs) (i := i) r e
theorem LstsAt.there {H : Hp} : ∀ {as : List Addr} {cs : List (List Int)}, LstsAt H as cs → ∀ a ∈ as, ∃ o, H a = some o
  | a :: as, c :: cs, ⟨h, r⟩, b, m => by
    rcases List.mem_cons.mp m with rfl | m
    · exact ⟨_, h⟩
    · exact r.there b m
theorem LstsAt.new {H : Hp} {as : List Addr} {cs : List (List Int)} {n : Addr} (h : LstsAt H as cs) (hn : H n = none) : n ∉ as := fun m => by
  obtain ⟨o, e⟩ := h.there n m
  rw [hn] at e
  cases e
theorem rowsB_snoc (e : Int) (body : List Int) (x : Int) : rowsB e (body ++ [x]) = stepR e (rowsB e body) x := by
  unfold rowsB
  rw [List.foldl_append]
  rfl
theorem stepR_end {e : Int} (rs : List (List Int)) : stepR e rs e = rs ++ [[]] := if_pos rfl
theorem stepR_in {e x : Int} (h : x ≠ e) (rs : List (List Int)) (l : List Int) : stepR e (rs ++ [l]) x = rs ++ [l ++ [x]] := by
  unfold stepR
  rw [if_neg h, List.dropLast_concat, List.getLastD_concat]
theorem rowsB_len (e : Int) (body : List Int) : ∀ n, (rowsB e (body.take n)).length ≤ n + 1 := fun n => by
  have : ∀ (l : List Int) (rs : List (List Int)), rs ≠ [] → (l.foldl (stepR e) rs).length ≤ rs.length + l.length := fun l => by
    induction l with
    | nil => intro rs _; exact Nat.le_refl _
    | cons x l ih =>
      intro rs hrs
      rw [List.foldl_cons, List.length_cons]
      have z : stepR e rs x ≠ [] ∧ (stepR e rs x).length ≤ rs.length + 1 := by
        unfold stepR
        split
        · exact ⟨by simp, by simp⟩
        · exact ⟨by simp, by simp only [List.length_append, List.length_dropLast, List.length_singleton]; omega⟩
      have := ih _ z.1
      omega
  have z := this (body.take n) [[]] (by simp)
  rw [List.length_take, List.length_singleton] at z
  unfold rowsB
  omega
theorem rowsB_row (e : Int) (body : List Int) : ∀ l ∈ rowsB e body, l.length ≤ body.length := by
  have : ∀ (b : List Int) (rs : List (List Int)) (k : Nat), (∀ l ∈ rs, l.length ≤ k) → ∀ l ∈ b.foldl (stepR e) rs, l.length ≤ k + b.length := fun b => by
    induction b with
    | nil => intro rs k h l m; exact h l m
    | cons x b ih =>
      intro rs k h l m
      rw [List.foldl_cons] at m
      have z := ih (stepR e rs x) (k + 1) (fun l2 m2 => by
        unfold stepR at m2
        split at m2
        · rcases List.mem_append.mp m2 with m2 | m2
          · have := h l2 m2
            omega
          · rw [List.mem_singleton.mp m2]
            exact Nat.zero_le _
        · rcases List.mem_append.mp m2 with m2 | m2
          · have := h l2 ((List.dropLast_sublist rs).subset m2)
            omega
          · rw [List.mem_singleton.mp m2, List.length_append, List.length_singleton]
            cases hrs : rs.getLast? with
            | none =>
              rw [List.getLastD_eq_getLast?, hrs]
              exact Nat.succ_le_succ (Nat.zero_le _)
            | some v =>
              rw [List.getLastD_eq_getLast?, hrs]
              exact Nat.succ_le_succ (h v (List.mem_of_getLast? hrs))) l m
      rw [List.length_cons]
      omega
  intro l m
  have z := this body [[]] 0 (fun l m => by rw [List.mem_singleton.mp m]; exact Nat.le_refl _) l m
  omega
section
variable {P : Program} {w : World} {K : PySem.W.Frag} {mg : Str → Option Value} {base : Heap}
def spRows (K : PySem.W.Frag) : Sp := fun vs H Q _ => ∃ (b : Addr) (e : Int) (body : List Int), vs = [.ref b, .int e] ∧ SqL K H b (body.map V.int) ∧ body.length ≤ 1000 ∧
  ∀ r as H', H r = none → Same H H' → H' r = some (.lst (as.map V.ref)) → LstsAt H' as (rowsB e body) → Q (.ref r) H'
theorem c_rows_between (d : Dd K mg "rows_between" s_rows_between P_rows_between) : C8.Cal P w K mg base 1 "rows_between" (spRows K) [] := by
  refine d.cal sc_rows_between (fun vs H Q E h => ?_) (fun f cdv A outer s H vs Q E hr h => ?_)
  · obtain ⟨b, e, body, rfl, _⟩ := h
    rfl
  · obtain ⟨b, e, body, rfl, hb, hlen, q⟩ := h
    have nd := sc_rows_between.nd
    refine ⟨_, (pss_cons (ps_set (i := 2) nd rfl (Or.inl rfl) (pe_lst (pa_cons (pe_lst pa_nil) pa_nil)))
  (pss_cons (ps_for PassesOwn.never rfl (pi_list (pv 0)) (pg_name (i := 3) nd rfl (Or.inl rfl))
    (pss_one (ps_if (pt_cmpR op_eq (pv 3) (pv 1) (nomark _)) (pss_one (ps_expr (pe_bm PySem.F.plainAttrs_list PySem.F.slot_list_append PySem.F.type_list_append mt_append (pv 2) (pa_cons (pe_lst pa_nil) pa_nil)))) (pss_one (ps_expr (pe_bm PySem.F.plainAttrs_list PySem.F.slot_list_append PySem.F.type_list_append mt_append (pe_ix ix_list (pv 2) (pe_un un_neg pe_int) (fun _ _ => rfl)) (pa_cons (pv 3) pa_nil)))))))
  (pss_one (ps_ret (pv 2))))), ?_⟩
    refine i_start (σ' := [some (.ref b), some (.int e), none, none]) rfl ?_
    walk_at "go"
    walk_at "r"
    refine i_lst (Nat.zero_le _) (fun z0 H1 hz0 s1 e1 => ?_)
    walk_at "r"
    refine i_lst (by show 1 ≤ sizeLine; decide) (fun r H2 hr2 s2 e2 => ?_)
    have e12 := s2 _ _ e1
    have s02 := s1.trans s2
    have nzr : z0 ≠ r := ne_of_none e1 hr2
    have hr0 := s1.free hr2
    walk_at "r"
    refine i_for (s02.seq hb) (fun i σ' H' => ∃ y as z rs ls, σ' = [some (.ref b), some (.int e), some (.ref r), y] ∧ Same H H' ∧ H' r = some (.lst ((as ++ [z]).map V.ref)) ∧ rowsB e (body.take i) = rs ++ [ls] ∧ LstsAt H' as rs ∧ H' z = some (.lst (ls.map V.int)) ∧ z ∉ as ∧ r ∉ as ∧ r ≠ z ∧ H z = none)
      ⟨none, [], z0, [], [], rfl, s02, e2, rfl, trivial, e12, List.not_mem_nil, List.not_mem_nil, nzr.symm, hz0⟩ (fun i σ' H' _ ⟨_, _, _, _, _, _, s4, _⟩ => s4.seq hb) (fun i x σ' H' hi pv => ?_) (fun σ' H' pv => ?_)
    · obtain ⟨y, as, z, rs, ls, rfl, s3, er, hrows, hla, ez, nza, nra, nrz, hz⟩ := pv
      obtain ⟨n, hn, rfl⟩ := map_get hi
      have il := (List.getElem?_eq_some_iff.mp hn).1
      have las := hla.len
      have lrs : rs.length + 1 ≤ 1002 := by
        have z1 := rowsB_len e body i
        rw [hrows, List.length_append, List.length_singleton] at z1
        omega
      have lls : ls.length ≤ 1001 := by
        have z1 := rowsB_row e (body.take i) ls (by rw [hrows]; exact List.mem_append_right _ (List.mem_singleton.mpr rfl))
        rw [List.length_take] at z1
        omega
      walk_at "r"
      refine i_br (fun hne => ?_) (fun hne => ?_)
      · subst hne
        walk_at "r"
        refine i_lst (Nat.zero_le _) (fun nw H4 hnw s4 e4 => ?_)
        have er4 := s4 _ _ er
        have ez4 := s4 _ _ ez
        have hla4 := (hla.same s4).app (show LstsAt H4 [z] [ls] from ⟨ez4, trivial⟩)
        have nnr : nw ≠ r := (ne_of_none er hnw).symm
        have nnz : nw ≠ z := (ne_of_none ez hnw).symm
        have nna : nw ∉ as := hla.new hnw
        have nr2 : r ∉ as ++ [z] := fun m => by
          rcases List.mem_append.mp m with m | m
          · exact nra m
          · exact nrz (List.mem_singleton.mp m)
        walk_at "r"
        refine ⟨_, as ++ [z], nw, rs ++ [ls], [], rfl, smut (s3.trans s4) hr0, ?_, ?_, hla4.put nr2, ?_, fun m => ?_, nr2, nnr.symm, s3.free hnw⟩
        · rw [upd_same, List.map_append (l₂ := [nw])]
          rfl
        · rw [take_succ' hn, rowsB_snoc, hrows, stepR_end]
        · rw [upd_ne nnr]
          exact e4
        · rcases List.mem_append.mp m with m | m
          · exact nna m
          · exact nnz (List.mem_singleton.mp m)
      · rw [List.map_append] at er
        walk_at "r"
        refine i_ixL (sl_of er) (atI_last _ _) ?_
        walk_at "r"
        refine ⟨_, as, z, rs, ls ++ [n], rfl, smut s3 hz, ?_, ?_, hla.put nza, ?_, nza, nra, nrz, hz⟩
        · rw [upd_ne nrz, er, List.map_append]
        · rw [take_succ' hn, rowsB_snoc, hrows, stepR_in hne]
        · rw [upd_same, List.map_append]
          rfl
    · obtain ⟨y, as, z, rs, ls, rfl, s3, er, hrows, hla, ez, nza, nra, nrz, hz⟩ := pv
      rw [List.length_map, List.take_length] at hrows
      walk_at "r"
      exact q r (as ++ [z]) H' hr0 s3 er (by rw [hrows]; exact hla.app ⟨ez, trivial⟩)
end
end Esc

namespace Esc
open PySem PySem.Spec PyProof.Rows L2
theorem groupB_more {cn row : List Int} {w : Nat} (h0 : 0 < w) (h : w ≤ row.length) : groupB cn w row = cn.getD w 0 :: (row.take w ++ groupB cn w (row.drop w)) := by
  rw [groupB, dif_pos ⟨h0, h⟩]
theorem groupB_last {cn row : List Int} {w : Nat} (h : row.length < w) : groupB cn w row = cn.getD row.length 0 :: row := by
  rw [groupB, dif_neg (by omega)]
theorem groupB_len {cn : List Int} {w : Nat} (h0 : 0 < w) : ∀ (n : Nat) (row : List Int), row.length = n → (groupB cn w row).length ≤ 2 * row.length + 1 := by
  intro n
  induction n using Nat.strongRecOn with
  | ind n ih =>
    intro row hn
    by_cases h : w ≤ row.length
    · have z := ih (row.length - w) (by omega) (row.drop w) (List.length_drop ..)
      rw [List.length_drop] at z
      rw [groupB_more h0 h, List.length_cons, List.length_append, List.length_take]
      omega
    · rw [groupB_last (by omega), List.length_cons]
      omega
theorem rowsB_sum (e : Int) (body : List Int) : ∀ n, n ≤ body.length → ∃ rs ls, rowsB e (body.take n) = rs ++ [ls] ∧ (rs.map List.length).sum + ls.length + rs.length = n
  | 0, _ => ⟨[], [], rfl, rfl⟩
  | n + 1, h => by
    obtain ⟨rs, ls, h1, h2⟩ := rowsB_sum e body n (by omega)
    have hx : body[n]? = some body[n] := List.getElem?_eq_getElem (by omega)
    rw [take_succ' hx, rowsB_snoc, h1]
    by_cases c : body[n] = e
    · rw [c, stepR_end]
      refine ⟨rs ++ [ls], [], rfl, ?_⟩
      rw [List.map_append, List.sum_append, List.length_append]
      simp
      omega
    · rw [stepR_in c]
      refine ⟨rs, ls ++ [body[n]], rfl, ?_⟩
      rw [List.length_append, List.length_singleton]
      omega
theorem rowsB_all (e : Int) (body : List Int) : ∃ rs ls, rowsB e body = rs ++ [ls] ∧ (rs.map List.length).sum + ls.length + rs.length = body.length := by
  have z := rowsB_sum e body body.length (Nat.le_refl _)
  rw [List.take_length] at z
  exact z
theorem flat_len {f : List Int → List Int} (hf : ∀ l, (f l).length ≤ 2 * l.length + 1) : ∀ rs : List (List Int), (rs.flatMap f).length ≤ 2 * (rs.map List.length).sum + rs.length
  | [] => Nat.le_refl _
  | l :: rs => by
    have ih := flat_len hf rs
    have z := hf l
    rw [List.flatMap_cons, List.length_append, List.map_cons, List.sum_cons, List.length_cons]
    omega
theorem flat_take {f : List Int → List Int} (rs : List (List Int)) (i : Nat) : ((rs.take i).flatMap f).length ≤ (rs.flatMap f).length := by
  conv => rhs; rw [← List.take_append_drop i rs, List.flatMap_append, List.length_append]
  omega
section
variable {P : Program} {w : World} {K : PySem.W.Frag} {mg : Str → Option Value} {base : Heap}
def spGroup (K : PySem.W.Frag) : Sp := fun vs H Q _ => ∃ (a c : Addr) (row cn : List Int) (n : Nat), vs = [.ref a, .ref c] ∧ H a = some (.lst (row.map V.int)) ∧ SqL K H c (cn.map V.int) ∧ cn.length = n + 1 ∧ 1 ≤ n ∧ row.length ≤ 1000 ∧
  ∀ g H', H g = none → Same H H' → H' g = some (.lst ((groupB cn n row).map V.int)) → Q (.ref g) H'
theorem c_grouped (Z : Blt mg) (d : Dd K mg "grouped" s_grouped P_grouped) : C8.Cal P w K mg base 1 "grouped" (spGroup K) [] := by
  refine d.cal sc_grouped (fun vs H Q E h => ?_) (fun f cdv A outer s H vs Q E hr h => ?_)
  · obtain ⟨a, c, row, cn, n, rfl, _⟩ := h
    rfl
  · obtain ⟨a, c, row, cn, n, rfl, ha, hc, hcn, hn, hlen, q⟩ := h
    have nd := sc_grouped.nd
    have tot := groupB_len (cn := cn) hn row.length row rfl
    refine ⟨_, (pss_cons (ps_set (i := 2) nd rfl (Or.inl rfl) (pe_op op_sub (pe_callB k_len (by rfl) Z.len_ (by decide +kernel) (pa_cons (pv 1) pa_nil)) pe_int))
  (pss_cons (ps_set (i := 3) nd rfl (Or.inl rfl) (pe_lst pa_nil))
  (pss_cons (ps_set (i := 4) nd rfl (Or.inl rfl) (pv 0))
  (pss_cons (ps_while PassesOwn.never (pt_cmpR op_ge (pe_callB k_len (by rfl) Z.len_ (by decide +kernel) (pa_cons (pv 4) pa_nil)) (pv 2) (nomark _))
    (pss_cons (ps_expr (pe_bm PySem.F.plainAttrs_list PySem.F.slot_list_append PySem.F.type_list_append mt_append (pv 3) (pa_cons (pe_ix ix_list (pv 1) (pe_un un_neg pe_int) (fun _ _ => rfl)) pa_nil)))
  (pss_cons (ps_expr (pe_bm PySem.F.plainAttrs_list PySem.F.slot_list_extend PySem.F.type_list_extend mt_extend (pv 3) (pa_cons (pe_slice sl_list (pv 4) po_none (po_some (pv 2))) pa_nil)))
  (pss_one (ps_set (i := 4) nd rfl (Or.inl rfl) (pe_slice sl_list (pv 4) (po_some (pv 2)) po_none))))))
  (pss_cons (ps_expr (pe_bm PySem.F.plainAttrs_list PySem.F.slot_list_append PySem.F.type_list_append mt_append (pv 3) (pa_cons (pe_ix ix_list (pv 1) (pe_callB k_len (by rfl) Z.len_ (by decide +kernel) (pa_cons (pv 4) pa_nil)) (fun _ _ => rfl)) pa_nil)))
  (pss_cons (ps_expr (pe_bm PySem.F.plainAttrs_list PySem.F.slot_list_extend PySem.F.type_list_extend mt_extend (pv 3) (pa_cons (pv 4) pa_nil)))
  (pss_one (ps_ret (pv 3))))))))), ?_⟩
    refine i_start (σ' := [some (.ref a), some (.ref c), none, none, none]) rfl ?_
    walk_at "go"
    walk_at "r"
    refine i_lst (Nat.zero_le _) (fun g H1 hg s1 e1 => ?_)
    have ew : ((cn.length : Nat) : Int) - 1 = (n : Int) := by omega
    walk_at "r"
    rw [ew]
    refine i_while (fun m σ' H' => ∃ lf dn la, m = lf.length ∧ σ' = [some (.ref a), some (.ref c), some (.int (n : Int)), some (.ref g), some (.ref la)] ∧ Same H H' ∧ H' la = some (.lst (lf.map V.int)) ∧ hide g H' la = some (.lst (lf.map V.int)) ∧ H' g = some (.lst (dn.map V.int)) ∧ dn ++ groupB cn n lf = groupB cn n row)
      row.length ⟨row, [], a, rfl, rfl, s1, s1 _ _ ha, hide_of hg s1 _ _ ha, e1, rfl⟩ (fun m σ' H' pv => ?_)
    obtain ⟨lf, dn, la, rfl, rfl, s2, hl, hl2, eg, hgr⟩ := pv
    have hc2 := s2.seq hc
    have ldn : dn.length + (groupB cn n lf).length ≤ 2001 := by
      have z := congrArg List.length hgr
      rw [List.length_append] at z
      omega
    walk_at "r"
    refine i_br (fun h => ?_) (fun h => ?_)
    · have hw : n ≤ lf.length := by omega
      have gm := groupB_more (cn := cn) hn hw
      have hcw : cn.map V.int = (cn.take n).map V.int ++ [.int (cn.getD n 0)] := by
        have z : cn[n]? = some (cn.getD n 0) := by
          rw [List.getD_eq_getElem?_getD, List.getElem?_eq_getElem (by omega)]
          rfl
        have u := take_succ' z
        rw [List.take_of_length_le (by omega)] at u
        rw [congrArg (List.map V.int) u, List.map_append]
        rfl
      have hc3 := hc2
      rw [hcw] at hc3
      have eg1 : ∀ o, upd H' g o g = some o := fun o => upd_same
      rw [gm] at ldn
      simp only [List.length_cons, List.length_append, List.length_take] at ldn
      walk_at "r"
      refine i_ixL hc3 (atI_last _ _) ?_
      walk_at "r"
      refine i_slL (sl_of (hide_mut _ _ hl2)) (fun p4 H4 hp4 s4 e4 => ?_)
      rw [cut_to, ← List.map_take] at e4
      have eg4 := s4 _ _ (eg1 (.lst (dn.map V.int ++ [.int (cn.getD n 0)])))
      have s04 : Same H H4 := (smut s2 hg).trans s4
      have h04 : Same (hide g H') (hide g H4) := hide_of hide_d (hide_mut.trans s4)
      walk_at "r"
      refine i_extend eg4 e4 (sz (by rw [List.length_append, List.length_map, List.length_map, List.length_take, List.length_singleton]; omega)) ?_
      walk_at "r"
      refine i_slL (sl_of (hide_mut _ _ (h04 _ _ hl2))) (fun p6 H6 hp6 s6 e6 => ?_)
      rw [cut_from, ← List.map_drop] at e6
      have eg5 : ∀ o, upd H4 g o g = some o := fun o => upd_same
      have eg6 := s6 _ _ (eg5 (.lst ((dn.map V.int ++ [.int (cn.getD n 0)]) ++ (lf.take n).map V.int)))
      have n6 : p6 ≠ g := fun z => by
        rw [z, upd_same] at hp6
        cases hp6
      walk_at "r"
      refine ⟨(lf.drop n).length, by rw [List.length_drop]; omega, lf.drop n, dn ++ (cn.getD n 0 :: lf.take n), p6, rfl, rfl, (smut s04 hg).trans s6, e6, (hide_ne n6).trans e6, ?_, ?_⟩
      · rw [eg6, List.map_append, List.map_cons, List.append_assoc]
        rfl
      · rw [← hgr, gm, List.append_assoc]
        rfl
    · have hw : lf.length < n := by omega
      have gl := groupB_last (cn := cn) hw
      rw [gl] at ldn
      simp only [List.length_cons] at ldn
      have hat : atI (cn.map V.int) (lf.length : Int) = some (.int (cn.getD lf.length 0)) := by
        refine atI_nat ?_
        rw [List.getElem?_map, List.getD_eq_getElem?_getD, List.getElem?_eq_getElem (by omega)]
        rfl
      walk_at "r"
      have eg1 : ∀ o, upd H' g o g = some o := fun o => upd_same
      refine i_extend (eg1 _) (hide_mut _ _ hl2) (sz (by rw [List.length_append, List.length_map, List.length_map, List.length_singleton]; omega)) ?_
      walk_at "r"
      refine q g _ hg (smut (smut s2 hg) hg) ?_
      rw [upd_same, ← hgr, gl, List.map_append, List.map_cons, List.append_assoc]
      rfl
end
end Esc

namespace Esc
open PySem PySem.Spec PyProof.Rows L2
theorem snoc_of_len {α β : Type} {as : List α} {rs : List β} {l : β} (h : as.length = (rs ++ [l]).length) : ∃ as' z, as = as' ++ [z] ∧ as'.length = rs.length := by
  rcases List.eq_nil_or_concat as with e | ⟨as', z, e⟩
  · rw [e, List.length_append] at h
    simp at h
  · rw [List.concat_eq_append] at e
    refine ⟨as', z, e, ?_⟩
    rw [e, List.length_append, List.length_append] at h
    simpa using h
section
variable {P : Program} {w : World} {K : PySem.W.Frag} {mg : Str → Option Value} {base : Heap}
theorem c_by_counts (Z : Blt mg) (c_plain_signs : C8.Cal P w K mg base 1 "plain_signs" spPlain []) (c_rows_between : C8.Cal P w K mg base 1 "rows_between" (spRows K) []) (c_grouped : C8.Cal P w K mg base 1 "grouped" (spGroup K) []) (d : Dd K mg "by_counts" s_by_counts P_by_counts) : C8.Cal P w K mg base 2 "by_counts" (spByK K isCounts rowOf) [] := by
  refine d.cal sc_by_counts (fun vs H Q E h => ?_) (fun f cdv A outer s H vs Q E hr h => ?_)
  · obtain ⟨p, b, t, e, k, body, rfl, _⟩ := h
    rfl
  · obtain ⟨p, b, t, e, k, body, rfl, ⟨l, rfl⟩, hp, ⟨hl2, hlt⟩, h3, h16, h0, h1, hb, hin, hlen, q⟩ := h
    have hp : SqT K H p [.str "counts", .int t, .int e, .int l] := hp
    have nd := sc_by_counts.nd
    have np := plain_len h0 h1
    have hw1 : 1 ≤ l.toNat - 1 := by omega
    have lcn : ((plainL t e).take l.toNat).length = (l.toNat - 1) + 1 := by
      rw [List.length_take]
      omega
    obtain ⟨rs, ls, hrows, hsum⟩ := rowsB_all e body
    have gl : ∀ x, (groupB ((plainL t e).take l.toNat) (l.toNat - 1) x).length ≤ 2 * x.length + 1 := fun x => groupB_len hw1 _ x rfl
    have ltot : ((rowsB e body).flatMap (groupB ((plainL t e).take l.toNat) (l.toNat - 1))).length ≤ 3001 := by
      have z := flat_len gl (rowsB e body)
      have zs : ((rowsB e body).map List.length).sum = (rs.map List.length).sum + ls.length := by
        rw [hrows, List.map_append, List.sum_append]
        simp
      have zl : (rowsB e body).length = rs.length + 1 := by
        rw [hrows]
        simp
      omega
    refine ⟨_, (pss_cons (ps_asg (pv 0) (pg_tup rfl (pgs_cons (pg_name (i := 2) nd rfl (Or.inl rfl)) (pgs_cons (pg_name (i := 3) nd rfl (Or.inl rfl)) (pgs_cons (pg_name (i := 4) nd rfl (Or.inl rfl)) (pgs_cons (pg_name (i := 5) nd rfl (Or.inl rfl)) pgs_nil))))))
  (pss_cons (ps_set (i := 6) nd rfl (Or.inl rfl) (pe_slice sl_list (C8.pe_c c_plain_signs hr (by decide) (by rfl) (pa_cons (pv 3) (pa_cons (pv 4) pa_nil))) po_none (po_some (pv 5))))
  (pss_cons (ps_set (i := 7) nd rfl (Or.inl rfl) (C8.pe_c c_rows_between hr (by decide) (by rfl) (pa_cons (pv 1) (pa_cons (pv 4) pa_nil))))
  (pss_cons (ps_set (i := 8) nd rfl (Or.inl rfl) (pe_lst pa_nil))
  (pss_cons (ps_for PassesOwn.never rfl (pi_list (pv 7)) (pg_name (i := 9) nd rfl (Or.inl rfl))
    (pss_one (ps_expr (pe_bm PySem.F.plainAttrs_list PySem.F.slot_list_extend PySem.F.type_list_extend mt_extend (pv 8) (pa_cons (C8.pe_c c_grouped hr (by decide) (by rfl) (pa_cons (pv 9) (pa_cons (pv 6) pa_nil))) pa_nil)))))
  (pss_cons (ps_set (i := 10) nd rfl (Or.inl rfl) (pe_ix ix_list (pv 7) (pe_un un_neg pe_int) (fun _ _ => rfl)))
  (C8.pss_cut (ps_if (PW.pt (pw_and (pt_tru (pv 10) (by intro _; rfl)) (pw_and1 (pt_cmpR op_eq (pe_op op_mod (pe_callB k_len (by rfl) Z.len_ (by decide +kernel) (pa_cons (pv 10) pa_nil)) (pe_op op_sub (pv 5) pe_int)) pe_int (nomark _))))) (pss_one (ps_expr (pe_bm0 PySem.F.plainAttrs_list PySem.F.slot_list_pop PySem.F.type_list_pop mt_pop (pv 8)))) pss_nil)
  (pss_one (ps_ret (pv 8)))))))))), ?_⟩
    refine i_start (σ' := [some (.ref p), some (.ref b), none, none, none, none, none, none, none, none, none]) rfl ?_
    walk_at "go"
    walk_at "r"
    refine ⟨t, e, rfl, by omega, by omega, fun pl H1 _ s1 e1 => ?_⟩
    walk_at "r"
    refine i_slL (sl_of e1) (fun pc H2 _ s2 e2 => ?_)
    rw [show (l : Int) = ((l.toNat : Nat) : Int) by omega, cut_to, ← List.map_take] at e2
    have s02 := s1.trans s2
    walk_at "r"
    refine ⟨b, e, body, rfl, s02.seq hb, by omega, fun r as H3 _ s3 e3 hla => ?_⟩
    have s03 := s02.trans s3
    have e23 := s3 _ _ e2
    have las := hla.len
    walk_at "r"
    refine i_lst (Nat.zero_le _) (fun fr H4 hfr s4 e4 => ?_)
    have s04 := s03.trans s4
    walk_at "r"
    refine i_for (sl_of (s4 _ _ e3)) (fun i σ' H' => ∃ y, σ' = [some (.ref p), some (.ref b), some (.str "counts"), some (.int t), some (.int e), some (.int l), some (.ref pc), some (.ref r), some (.ref fr), y, none] ∧ Same H3 H' ∧ H' fr = some (.lst ((((rowsB e body).take i).flatMap (groupB ((plainL t e).take l.toNat) (l.toNat - 1))).map V.int)))
      ⟨none, rfl, s4, e4⟩ (fun i σ' H' _ ⟨_, _, s5, _⟩ => sl_of (s5 _ _ e3)) (fun i x σ' H' hi pv => ?_) (fun σ' H' pv => ?_)
    · obtain ⟨y, rfl, s5, ef⟩ := pv
      obtain ⟨a, ha, rfl⟩ := ref_get hi
      obtain ⟨row, hrow, har⟩ := hla.get ha
      have lrow := rowsB_row e body row (List.mem_of_getElem? hrow)
      have har5 := s5 _ _ har
      have hc5 := s5 _ _ e23
      have ltk := flat_take (f := groupB ((plainL t e).take l.toNat) (l.toNat - 1)) (rowsB e body) i
      have gr := gl row
      walk_at "r"
      refine ⟨a, pc, row, (plainL t e).take l.toNat, l.toNat - 1, rfl, har5, sl_of hc5, lcn, hw1, by omega, fun g H6 hg s6 e6 => ?_⟩
      have ef6 := s6 _ _ ef
      walk_at "r"
      refine i_extend ef6 e6 (sz (by rw [List.length_map, List.length_map]; omega)) ?_
      walk_at "r"
      refine ⟨_, rfl, smut (s5.trans s6) hfr, ?_⟩
      rw [upd_same, take_succ' hrow, List.flatMap_append, List.map_append, List.flatMap_cons, List.flatMap_nil, List.append_nil]
    · obtain ⟨y, rfl, s5, ef⟩ := pv
      rw [List.length_map, las, List.take_length] at ef
      have s0' := s03.trans s5
      have hfr0 := s03.free hfr
      obtain ⟨as', z, rfl, hz⟩ := snoc_of_len (las.trans (congrArg List.length hrows))
      have er := s5 _ _ e3
      rw [List.map_append] at er
      obtain ⟨c, hc, ez⟩ := (hla.same s5).get (i := as'.length) (a := z) (by rw [List.getElem?_append_right (Nat.le_refl _), Nat.sub_self]; rfl)
      have ec : c = ls := by
        rw [hrows, hz, List.getElem?_append_right (Nat.le_refl _), Nat.sub_self] at hc
        exact (Option.some.inj hc).symm
      subst ec
      have elast : (rowsB e body).getLastD [] = c := by rw [hrows, List.getLastD_concat]
      have fin : ∀ H6, Same H H6 → H6 fr = some (.lst ((cntB t e l body).map V.int)) → Q (.ref fr) H6 := fun H6 s6 e6 => q fr H6 hfr0 s6 e6
      walk_at "r"
      refine i_ixL (sl_of er) (atI_last _ _) ?_
      walk_at "r"
      refine i_cut (fun σ6 H6 => ∃ u, σ6 = [some (.ref p), some (.ref b), some (.str "counts"), some (.int t), some (.int e), some (.int l), some (.ref pc), some (.ref r), some (.ref fr), u, some (.ref z)] ∧ Same H H6 ∧ H6 fr = some (.lst ((cntB t e l body).map V.int))) ?_ (fun σ6 H6 pv => ?_)
      · walk_at "r"
        refine i_truL (sl_of ez) ?_
        rw [List.isEmpty_map]
        have keep : ¬ (c ≠ [] ∧ c.length % (l.toNat - 1) = 0) → cntB t e l body = (rowsB e body).flatMap (groupB ((plainL t e).take l.toNat) (l.toNat - 1)) := fun n => by
          unfold cntB
          rw [elast]
          exact if_neg n
        cases hcc : c with
        | nil =>
          subst hcc
          rw [List.isEmpty_nil, Bool.not_true]
          walk_at "r"
          refine ⟨_, rfl, s0', ?_⟩
          rw [keep fun z => z.1 rfl]
          exact ef
        | cons x1 c1 =>
          rw [← hcc]
          have hne : c ≠ [] := by
            rw [hcc]
            simp
          rw [show c.isEmpty = false by rw [hcc]; rfl, Bool.not_false]
          walk_at "r"
          have hmod : ((c.length : Int) % (l - 1) = 0) ↔ c.length % (l.toNat - 1) = 0 := by
            rw [show l - 1 = ((l.toNat - 1 : Nat) : Int) by omega, ← Int.natCast_emod]
            omega
          refine i_br (fun hm => ?_) (fun hm => ?_)
          · rw [hmod] at hm
            have pos : 0 < ((rowsB e body).flatMap (groupB ((plainL t e).take l.toNat) (l.toNat - 1))).length := by
              rw [hrows, List.flatMap_append, List.length_append, List.flatMap_cons, List.flatMap_nil, List.append_nil]
              have : 0 < (groupB ((plainL t e).take l.toNat) (l.toNat - 1) c).length := by
                rw [groupB]
                split <;> simp
              omega
            walk_at "r"
            refine i_pop ef (List.getElem?_eq_getElem (by rw [List.length_map]; omega)) ?_
            walk_at "r"
            refine ⟨_, rfl, smut s0' hfr0, ?_⟩
            rw [upd_same, ← List.map_dropLast]
            unfold cntB
            rw [elast, if_pos ⟨hne, hm⟩]
          · rw [hmod] at hm
            walk_at "r"
            refine ⟨_, rfl, s0', ?_⟩
            rw [keep fun z => hm z.2]
            exact ef
      · obtain ⟨u, rfl, s6, e6⟩ := pv
        walk_at "r"
        exact fin H6 s6 e6
end
end Esc

namespace Esc
open PySem PySem.Spec PyProof.Rows L2
theorem bodyR_rowR {t e : Int} (h3 : 3 ≤ t) (h0 : 0 ≤ e) (h1 : e < t) {body : List Int} (h : ∀ x ∈ body, 0 ≤ x ∧ x < t) : bodyR t e (rowR t e body) = body := by
  have z := plain_len h0 h1
  have hc : ∀ x ∈ body, x ∈ countL t := fun x hx => count_mem.mpr (h x hx)
  unfold rowR bodyR
  rw [digits_letters (plain_nodup t e) (row_lt (by omega) _), rank_row, row_rank (by omega) _ _ rfl (fun d hd => by rw [← count_len]; exact digits_lt hc d hd), letters_digits hc]
section
variable {P : Program} {w : World} {K : PySem.W.Frag} {mg : Str → Option Value} {base : Heap}
theorem c_by_ranks (Z : Blt mg) (c_row_of : C8.Cal P w K mg base 1 "row_of" (spRowOf K) []) (c_rank_of : C8.Cal P w K mg base 1 "rank_of" (spRankOf K) []) (c_plain_signs : C8.Cal P w K mg base 1 "plain_signs" spPlain [])
    (d : Dd K mg "by_ranks" s_by_ranks P_by_ranks) : C8.Cal P w K mg base 2 "by_ranks" (spByK K isRanks rowOf) [] := by
  refine d.cal sc_by_ranks (fun vs H Q E h => ?_) (fun f cdv A outer s H vs Q E hr h => ?_)
  · obtain ⟨p, b, t, e, k, body, rfl, _⟩ := h
    rfl
  · obtain ⟨p, b, t, e, k, body, rfl, rfl, hp, _, h3, h16, h0, h1, hb, hin, hlen, q⟩ := h
    have hp : SqT K H p [.str "ranks", .int t, .int e] := hp
    have nd := sc_by_ranks.nd
    refine ⟨_, (pss_cons (ps_asg (pv 0) (pg_tup rfl (pgs_cons (pg_name (i := 2) nd rfl (Or.inl rfl)) (pgs_cons (pg_name (i := 3) nd rfl (Or.inl rfl)) (pgs_cons (pg_name (i := 4) nd rfl (Or.inl rfl)) pgs_nil)))))
  (pss_one (ps_ret (C8.pe_c c_row_of hr (by decide) (by rfl) (pa_cons (C8.pe_c c_rank_of hr (by decide) (by rfl) (pa_cons (pv 1) (pa_cons (pe_listRg rfl rfl Z.list_ (prg_1 rfl Z.range_ (pv 3))) pa_nil))) (pa_cons (C8.pe_c c_plain_signs hr (by decide) (by rfl) (pa_cons (pv 3) (pa_cons (pv 4) pa_nil))) pa_nil)))))), ?_⟩
    refine i_start (σ' := [some (.ref p), some (.ref b), none, none, none]) rfl ?_
    walk_at "go"
    walk_at "r"
    refine i_lstRg ⟨by omega, by omega⟩ (fun p1 H1 hp1 s1 e1 => ?_)
    rw [rg_count] at e1
    walk_at "r"
    refine ⟨b, p1, body, countL t, rfl, s1.seq hb, sl_of e1, count_nodup t, fun x hx => count_mem.mpr (hin x hx), by rw [count_len]; omega, fun H2 s2 => ?_⟩
    walk_at "r"
    refine ⟨t, e, rfl, by omega, by omega, fun p3 H3 hp3 s3 e3 => ?_⟩
    walk_at "r"
    have z := plain_len h0 h1
    have hrl := rowR_len h3 h16 h0 h1 hin
    unfold rowR letters at hrl
    rw [List.length_map] at hrl
    rw [count_len]
    refine ⟨_, p3, plainL t e, rfl, sl_of e3, by omega, by omega, by unfold digits at hrl; omega, fun p4 H4 hp4 s4 e4 => ?_⟩
    rw [let_map] at e4
    exact q p4 H4 (s1.free (s2.free (s3.free hp4))) (s1.trans (s2.trans (s3.trans s4))) e4
end
end Esc

namespace Esc
open PySem PySem.Spec PyProof.Rows L2
def turnS (p : List Int) (body : List Int) : List Int := body.map fun x => p.getD x.toNat 0
def turnL (ts : List (List Int)) (body : List Int) : List Int := ts.foldl (fun b p => turnS p b) body
def frameW (wy : Way) (body : List Int) : List Int := rowOf wy.t wy.e wy.k (turnL wy.ts body) ++ [wy.e]
theorem turnL_snoc (ts : List (List Int)) (p : List Int) (body : List Int) : turnL (ts ++ [p]) body = turnS p (turnL ts body) := by
  unfold turnL
  rw [List.foldl_append]
  rfl
theorem turnS_in {t : Int} {p body : List Int} (hp : p.Perm (countL t)) (h : ∀ x ∈ body, 0 ≤ x ∧ x < t) : ∀ x ∈ turnS p body, 0 ≤ x ∧ x < t := fun x hx => by
  obtain ⟨y, hy, rfl⟩ := List.mem_map.mp hx
  have z := h y hy
  have lp := hp.length_eq
  rw [count_len] at lp
  have hl : y.toNat < p.length := by omega
  rw [List.getD_eq_getElem?_getD, List.getElem?_eq_getElem hl]
  exact count_mem.mp (hp.subset (List.getElem_mem hl))
theorem turnS_len (p body : List Int) : (turnS p body).length = body.length := List.length_map _
theorem turnL_ok {t : Int} : ∀ (ts : List (List Int)), (∀ p ∈ ts, p.Perm (countL t)) → ∀ (body : List Int), (∀ x ∈ body, 0 ≤ x ∧ x < t) → (∀ x ∈ turnL ts body, 0 ≤ x ∧ x < t) ∧ (turnL ts body).length = body.length
  | [], _, body, h => ⟨h, rfl⟩
  | p :: ts, hp, body, h => by
    have z := turnL_ok ts (fun q hq => hp q (List.mem_cons_of_mem _ hq)) (turnS p body) (turnS_in (hp p List.mem_cons_self) h)
    rw [turnS_len] at z
    exact z
theorem cntB_len {t e l : Int} (hl2 : 2 ≤ l) (body : List Int) : (cntB t e l body).length ≤ 2 * body.length + 1 := by
  obtain ⟨rs, ls, hrows, hsum⟩ := rowsB_all e body
  have z := flat_len (f := groupB ((plainL t e).take l.toNat) (l.toNat - 1)) (fun x => groupB_len (by omega) _ x rfl) (rowsB e body)
  have zs : ((rowsB e body).map List.length).sum = (rs.map List.length).sum + ls.length := by
    rw [hrows, List.map_append, List.sum_append]
    simp
  have zl : (rowsB e body).length = rs.length + 1 := by
    rw [hrows]
    simp
  unfold cntB
  dsimp only
  split
  · rw [List.length_dropLast]
    omega
  · omega
theorem rowOf_len {t e : Int} {k : Kind} (ok : KindOk t e k) (h3 : 3 ≤ t) (h16 : t ≤ 16) (h0 : 0 ≤ e) (h1 : e < t) {body : List Int} (h : ∀ x ∈ body, 0 ≤ x ∧ x < t) : (rowOf t e k body).length ≤ 5 * body.length + 1 := by
  cases k with
  | codes cs =>
    have z := codesB_len (fun c hc => (ok.2.1 c hc).2.1) body
    show (codesB cs body).length ≤ _
    omega
  | escapes m prs =>
    have z := escB_len m prs body
    show (escB m prs body).length ≤ _
    omega
  | counts l =>
    have z := cntB_len (t := t) (e := e) ok.1 body
    show (cntB t e l body).length ≤ _
    omega
  | ranks =>
    have z := rowR_len h3 h16 h0 h1 h
    show (rowR t e body).length ≤ _
    omega
section
variable {P : Program} {w : World} {K : PySem.W.Frag} {mg : Str → Option Value} {base : Heap}
/-- the four framers, where FRAMERS has them -/
structure Framers (P : Program) (w : World) (K : PySem.W.Frag) (mg : Str → Option Value) (base : Heap) (pF : Addr) : Prop where
  codes : ∃ f, mg "by_codes" = some (.ref f) ∧ KDct K w pF "codes" (.ref f) ∧ C8.Cal P w K mg base 1 "by_codes" (spByK K isCodes rowOf) []
  escapes : ∃ f, mg "by_escapes" = some (.ref f) ∧ KDct K w pF "escapes" (.ref f) ∧ C8.Cal P w K mg base 1 "by_escapes" (spByK K isEscapes rowOf) []
  counts : ∃ f, mg "by_counts" = some (.ref f) ∧ KDct K w pF "counts" (.ref f) ∧ C8.Cal P w K mg base 2 "by_counts" (spByK K isCounts rowOf) []
  ranks : ∃ f, mg "by_ranks" = some (.ref f) ∧ KDct K w pF "ranks" (.ref f) ∧ C8.Cal P w K mg base 2 "by_ranks" (spByK K isRanks rowOf) []
def isAny : Int → Int → Kind → Prop := fun _ _ _ => True
theorem Framers.of {pF : Addr} (F : Framers P w K mg base pF) (k : Kind) : ∃ (fa : Addr) (sp : Sp), Held P w K mg base 2 fa sp ∧ KDct K w pF k.name (.ref fa) ∧
    ∀ (p b : Addr) (t e : Int) (body : List Int) H Q E, KindAt K H p t e k → KindOk t e k → 3 ≤ t → t ≤ 16 → 0 ≤ e → e < t → SqL K H b (body.map V.int) → (∀ x ∈ body, 0 ≤ x ∧ x < t) → body.length ≤ 200 →
      (∀ q H', H q = none → Same H H' → H' q = some (.lst ((rowOf t e k body).map V.int)) → Q (.ref q) H') → sp [.ref p, .ref b] H Q E := by
  cases k with
  | codes cs =>
    obtain ⟨f, h1, h2, c⟩ := F.codes
    exact ⟨f, _, held_of c h1 (by decide), h2, fun p b t e body H Q E a1 a2 a3 a4 a5 a6 a7 a8 a9 q => ⟨p, b, t, e, _, body, rfl, ⟨cs, rfl⟩, a1, a2, a3, a4, a5, a6, a7, a8, a9, q⟩⟩
  | escapes m prs =>
    obtain ⟨f, h1, h2, c⟩ := F.escapes
    exact ⟨f, _, held_of c h1 (by decide), h2, fun p b t e body H Q E a1 a2 a3 a4 a5 a6 a7 a8 a9 q => ⟨p, b, t, e, _, body, rfl, ⟨m, prs, rfl⟩, a1, a2, a3, a4, a5, a6, a7, a8, a9, q⟩⟩
  | counts l =>
    obtain ⟨f, h1, h2, c⟩ := F.counts
    exact ⟨f, _, held_of c h1 (by decide), h2, fun p b t e body H Q E a1 a2 a3 a4 a5 a6 a7 a8 a9 q => ⟨p, b, t, e, _, body, rfl, ⟨l, rfl⟩, a1, a2, a3, a4, a5, a6, a7, a8, a9, q⟩⟩
  | ranks =>
    obtain ⟨f, h1, h2, c⟩ := F.ranks
    exact ⟨f, _, held_of c h1 (by decide), h2, fun p b t e body H Q E a1 a2 a3 a4 a5 a6 a7 a8 a9 q => ⟨p, b, t, e, _, body, rfl, rfl, a1, a2, a3, a4, a5, a6, a7, a8, a9, q⟩⟩
def spFrameW (K : PySem.W.Frag) : Sp := fun vs H Q _ => ∃ (v : V) (b : Addr) (wy : Way) (body : List Int), vs = [v, .ref b] ∧ WayAt K H v wy ∧ wy.Ok ∧ SqL K H b (body.map V.int) ∧ (∀ x ∈ body, 0 ≤ x ∧ x < wy.t) ∧ body.length ≤ 200 ∧
  ∀ q H', H q = none → Same H H' → H' q = some (.lst ((frameW wy body).map V.int)) → Q (.ref q) H'
def spExch (K : PySem.W.Frag) : Sp := fun vs H Q _ => ∃ (l b : Addr) (tas : List (Addr × List Int)) (t : Int) (body : List Int), vs = [.ref l, .ref b] ∧ SqL K H l (tas.map fun a => .ref a.1) ∧ (∀ a ∈ tas, SqT K H a.1 (a.2.map V.int)) ∧ tas.length ≤ 3 ∧ (∀ p ∈ tas.map (·.2), p.Perm (countL t)) ∧ t ≤ 16 ∧
  SqL K H b (body.map V.int) ∧ (∀ x ∈ body, 0 ≤ x ∧ x < t) ∧ body.length ≤ 1000 ∧ ∀ q H', Same H H' → SqL K H' q ((turnL (tas.map (·.2)) body).map V.int) → Q (.ref q) H'
theorem c_exchanged (d : Dd K mg "exchanged" s_exchanged P_exchanged) : C8.Cal P w K mg base 1 "exchanged" (spExch K) [] := by
  refine d.cal sc_exchanged (fun vs H Q E h => ?_) (fun f cdv A outer s H vs Q E hr h => ?_)
  · obtain ⟨l, b, tas, t, body, rfl, _⟩ := h
    rfl
  · obtain ⟨l, b, tas, t, body, rfl, el, hts, ltas, hperm, h16, hb, hin, hlen, q⟩ := h
    have nd := sc_exchanged.nd
    refine ⟨_, (pss_cons (ps_set (i := 2) nd rfl (Or.inl rfl) (pv 1))
  (pss_cons (ps_for PassesOwn.never rfl (pi_list (pv 0)) (pg_name (i := 3) nd rfl (Or.inr rfl))
    (pss_one (ps_setLc (i := 2) (own := [("sign", 4)]) (g := gName 4) (tt := tYes) rfl nd rfl rfl (sw_true rfl rfl rfl (by decide +kernel)) (pi_list (pv 2)) (blkOk_by (N := N_exchanged) (sc := C8.fnScope s_exchanged) (own := [("sign", 4)]) (by decide +kernel)) (fun _ _ _ _ _ => (pg_name (i := 4) nd rfl (Or.inl rfl))) (fun _ _ _ _ _ => pts_nil) (fun _ _ _ _ _ => (pe_ix (show IxR _ (rIxT K) from ix_tup) (pv 3) (pv 4) (fun _ _ => rfl))))))
  (pss_one (ps_ret (pv 2))))), ?_⟩
    refine i_start (σ' := [some (.ref l), some (.ref b), none, none, none]) rfl ?_
    walk_at "go"
    walk_at "r"
    refine i_for el (fun i σ' H' => ∃ tb y, σ' = [some (.ref l), some (.ref b), some (.ref tb), y, none] ∧ Same H H' ∧ SqL K H' tb ((turnL ((tas.map (·.2)).take i) body).map V.int)) ⟨b, none, rfl, Same.refl _, hb⟩ (fun i σ' H' _ ⟨_, _, _, s2, _⟩ => s2.seq el) (fun i x σ' H' hi pv => ?_) (fun σ' H' pv => ?_)
    · obtain ⟨tb, y, rfl, s2, htb⟩ := pv
      rw [List.getElem?_map] at hi
      obtain ⟨a, ha, rfl⟩ : ∃ a, tas[i]? = some a ∧ x = .ref a.1 := by
        cases e : tas[i]? with
        | none =>
          rw [e] at hi
          cases hi
        | some a =>
          rw [e] at hi
          exact ⟨a, rfl, (Option.some.inj hi).symm⟩
      have hts2 : (tas.map (·.2))[i]? = some a.2 := by
        rw [List.getElem?_map, ha]
        rfl
      have hpa := hperm a.2 (List.mem_of_getElem? hts2)
      have hsa := stup s2 (hts a (List.mem_of_getElem? ha))
      obtain ⟨pin, plen⟩ := turnL_ok ((tas.map (·.2)).take i) (fun p hp => hperm p (List.mem_of_mem_take hp)) body hin
      have lp := hpa.length_eq
      rw [count_len] at lp
      walk_at "r"
      refine i_lcL (F := fun v => match v with | .int n => some (.int (a.2.getD n.toNat 0)) | _ => none) htb (by rw [List.length_map]; omega) (fun v hv H3 s3 QN QY hN hY => ?_) (fun p3 H3 hp3 s3 e3 => ?_)
      · obtain ⟨n, hn, rfl⟩ := List.mem_map.mp hv
        have zn := pin n hn
        have hsa3 := stup s3 hsa
        have hat : atI (a.2.map V.int) n = some (.int (a.2.getD n.toNat 0)) := by
          have z : ∀ (k : Nat) (v : V), n = (k : Int) → (a.2.map V.int)[k]? = some v → atI (a.2.map V.int) n = some v := fun k v z1 z2 => by
            rw [z1]
            exact atI_nat z2
          refine z n.toNat _ (by omega) ?_
          rw [List.getElem?_map, List.getD_eq_getElem?_getD, List.getElem?_eq_getElem (by omega)]
          rfl
        walk_at "r"
        exact hY _ rfl _ (Same.refl _)
      · have e5 : ∀ l : List Int, (l.map V.int).filterMap (fun v => match v with | .int n => some (V.int (a.2.getD n.toNat 0)) | _ => none) = (turnS a.2 l).map V.int := fun l => by
          induction l with
          | nil => rfl
          | cons n r ih =>
            rw [List.map_cons, List.filterMap_cons, ih]
            rfl
        rw [e5] at e3
        refine ⟨p3, _, rfl, s2.trans s3, ?_⟩
        rw [take_succ' hts2, turnL_snoc]
        exact sl_of e3
    · obtain ⟨tb, y, rfl, s2, htb⟩ := pv
      rw [List.length_map, show tas.length = (tas.map (·.2)).length by rw [List.length_map], List.take_length] at htb
      walk_at "r"
      exact q _ _ s2 htb
theorem c_frame_of {pF : Addr} (m_FRAMERS : GR mg "FRAMERS" pF) (F : Framers P w K mg base pF) (c_unturned : C8.Cal P w K mg base 1 "unturned" (spUnturned K) []) (c_exchanged : C8.Cal P w K mg base 1 "exchanged" (spExch K) []) (d : Dd K mg "frame_of" s_frame_of P_frame_of) : C8.Cal P w K mg base 3 "frame_of" (spFrameW K) [] := by
  refine d.cal sc_frame_of (fun vs H Q E h => ?_) (fun f cdv A outer s H vs Q E hr h => ?_)
  · obtain ⟨v, b, wy, body, rfl, _⟩ := h
    rfl
  · obtain ⟨v, b, wy, body, rfl, ⟨tas, p, hts, hw, hk⟩, ok, hb, hin, hlen, q⟩ := h
    have nd := sc_frame_of.nd
    obtain ⟨fa, sp, held, hF, hsp⟩ := F.of wy.k
    have A_put_together := S1_held held
    obtain ⟨xs, hx⟩ := hk.head
    have ltas : tas.length ≤ 3 := by
      have z := ok.few
      rw [← hts, List.length_map] at z
      exact z
    obtain ⟨tin, tlen⟩ := turnL_ok wy.ts ok.perm body hin
    refine ⟨_, (pss_cons (ps_asg (C8.pe_c c_unturned hr (by decide) (by rfl) (pa_cons (pv 0) pa_nil)) (pg_tup rfl (pgs_cons (pg_name (i := 2) nd rfl (Or.inl rfl)) (pgs_cons (pg_name (i := 3) nd rfl (Or.inl rfl)) pgs_nil))))
  (pss_cons (ps_set (i := 4) nd rfl (Or.inl rfl) (pe_ix ix_kdict (C8.pe_gc rfl m_FRAMERS) (pe_ix ix_tup (pv 3) pe_int (fun _ _ => rfl)) (fun _ _ => rfl)))
  (pss_one (ps_ret (pe_op op_cat (pe_callA A_put_together hr (x := "put_together") (i := 4) rfl (by first | exact Or.inl rfl | exact Or.inr (Or.inl rfl) | exact Or.inr (Or.inr rfl)) (pa_cons (pv 3) (pa_cons (C8.pe_c c_exchanged hr (by decide) (by rfl) (pa_cons (pv 2) (pa_cons (pv 1) pa_nil))) pa_nil))) (pe_lst (pa_cons (pe_ix ix_tup (pv 3) pe_int (fun _ _ => rfl)) pa_nil))))))), ?_⟩
    refine i_start (σ' := [some v, some (.ref b), none, none, none]) rfl ?_
    walk_at "go"
    walk_at "r"
    refine ⟨v, tas, p, wy.k.name, _, rfl, hw, hx, wy.k.name_ne, by omega, fun q1 l H1 _ _ s1 e1 el => ?_⟩
    have hx1 := stup s1 hx
    walk_at "r"
    refine i_kd hF ?_
    walk_at "r"
    refine i_callA S1_self ?_
    walk_at "r"
    refine ⟨l, b, tas, wy.t, body, rfl, sl_of el, fun a ha => stup s1 (hw.mem a ha), ltas, by rw [hts]; exact ok.perm, ok.t16, s1.seq hb, hin, by omega, fun tb H2 s2 htb => ?_⟩
    rw [hts] at htb
    have s12 := s1.trans s2
    have hk2 := hk.same s12
    have hx2 := stup s12 hx
    walk_at "r"
    refine hsp _ _ _ _ _ _ _ _ hk2 ok.kind ok.t3 ok.t16 ok.e0 ok.e1 htb tin (by omega) (fun p3 H3 hp3 s3 e3 => ?_)
    have hx3 := stup s3 hx2
    have rl := rowOf_len ok.kind ok.t3 ok.t16 ok.e0 ok.e1 tin
    walk_at "r"
    refine i_lst (by show 1 ≤ sizeLine; decide) (fun p4 H4 hp4 s4 e4 => ?_)
    have e34 := s4 _ _ e3
    walk_at "r"
    refine i_cat e34 e4 (sz (by rw [List.length_map, List.length_singleton]; omega)) (fun p5 H5 hp5 s5 e5 => ?_)
    have s25 := (s3.trans s4).trans s5
    refine q p5 H5 ((s12.trans (s3.trans s4)).free hp5) (s12.trans s25) ?_
    unfold frameW
    rw [List.map_append]
    exact e5
end
end Esc

namespace Esc
open PySem PySem.Spec PyProof.Rows L2
theorem cut_mid (xs : List V) (a b : Nat) (h : a ≤ b) : cutV xs (some (a : Int)) (some (b : Int)) = (xs.drop a).take (b - a) := by
  unfold cutV
  rw [HT.sIx_nat, HT.sIx_nat]
  by_cases ha : a ≤ xs.length
  · rw [Nat.min_eq_left ha]
    by_cases hb : b ≤ xs.length
    · rw [Nat.min_eq_left hb]
    · rw [Nat.min_eq_right (by omega), List.take_of_length_le (by rw [List.length_drop]; exact Nat.le_refl _), List.take_of_length_le (by rw [List.length_drop]; omega)]
  · rw [Nat.min_eq_right (by omega), Nat.min_eq_right (by omega), Nat.sub_self, List.drop_of_length_le (by omega), List.drop_of_length_le (by omega)]
    simp
/-- rows, each behind an end -/
def JT (e : Int) (rs : List (List Int)) : List Int := rs.flatMap fun r => e :: r
theorem JT_cons (e : Int) (r : List Int) (rs : List (List Int)) : JT e (r :: rs) = e :: (r ++ JT e rs) := by
  unfold JT
  rw [List.flatMap_cons]
  rfl
theorem JT_rows (e : Int) (body : List Int) : JT e (rowsB e body) = e :: body := by
  have : ∀ n, n ≤ body.length → JT e (rowsB e (body.take n)) = e :: body.take n := fun n => by
    induction n with
    | zero => intro _; rfl
    | succ n ih =>
      intro h
      have hx : body[n]? = some body[n] := List.getElem?_eq_getElem (by omega)
      obtain ⟨rs, ls, h1, _⟩ := rowsB_sum e body n (by omega)
      have ih := ih (by omega)
      rw [h1] at ih
      rw [take_succ' hx, rowsB_snoc, h1]
      by_cases c : body[n] = e
      · rw [c, stepR_end]
        unfold JT at ih ⊢
        rw [List.flatMap_append, ih]
        rfl
      · rw [stepR_in c]
        unfold JT at ih ⊢
        rw [List.flatMap_append, List.flatMap_cons, List.flatMap_nil, List.append_nil] at ih ⊢
        rw [← List.cons_append, ← List.append_assoc, ih]
        rfl
  have z := this body.length (Nat.le_refl _)
  rw [List.take_length] at z
  exact z
/-- all groups of rows -/
def full (cn : List Int) (w : Nat) (rs : List (List Int)) : List Int := rs.flatMap (groupB cn w)
theorem full_cons (cn : List Int) (w : Nat) (r : List Int) (rs : List (List Int)) : full cn w (r :: rs) = groupB cn w r ++ full cn w rs := by
  unfold full
  rw [List.flatMap_cons]
theorem groupB_pos (cn : List Int) (w : Nat) (r : List Int) : 0 < (groupB cn w r).length := by
  rw [groupB]
  split <;> simp
theorem full_pos (cn : List Int) (w : Nat) {rs : List (List Int)} (h : rs ≠ []) : 0 < (full cn w rs).length := by
  cases rs with
  | nil => exact absurd rfl h
  | cons r rs =>
    rw [full_cons, List.length_append]
    have := groupB_pos cn w r
    omega
theorem groupB_ge {cn : List Int} {w : Nat} (h0 : 0 < w) : ∀ (n : Nat) (row : List Int), row.length = n → row.length + 1 ≤ (groupB cn w row).length := by
  intro n
  induction n using Nat.strongRecOn with
  | ind n ih =>
    intro row hn
    by_cases h : w ≤ row.length
    · have z := ih (row.length - w) (by omega) (row.drop w) (List.length_drop ..)
      rw [List.length_drop] at z
      rw [groupB_more h0 h, List.length_cons, List.length_append, List.length_take]
      omega
    · rw [groupB_last (by omega), List.length_cons]
      omega
/-- the last of these rows is not empty, where something is left out -/
def Dg (D : Bool) (rs : List (List Int)) : Prop := D = true → rs ≠ [] → rs.getLastD [] ≠ []
theorem Dg.tl {D : Bool} {cur : List Int} {rest : List (List Int)} (h : Dg D (cur :: rest)) : Dg D rest := fun d n => by
  cases rest with
  | nil => exact absurd rfl n
  | cons r rest => exact h d (by simp)
/-- a row of whole groups ends with the sign of none -/
theorem groupB_end {cn : List Int} {w : Nat} (h0 : 0 < w) : ∀ (n : Nat) (row : List Int), row.length = n → row.length % w = 0 → ∃ pre, groupB cn w row = pre ++ [cn.getD 0 0] := by
  intro n
  induction n using Nat.strongRecOn with
  | ind n ih =>
    intro row hn hm
    by_cases h : w ≤ row.length
    · obtain ⟨pre, hp⟩ := ih (row.length - w) (by omega) (row.drop w) (List.length_drop ..) (by
        rw [List.length_drop]
        rw [← Nat.mod_eq_sub_mod h]
        exact hm)
      exact ⟨cn.getD w 0 :: (row.take w ++ pre), by rw [groupB_more h0 h, hp, List.cons_append, List.append_assoc]⟩
    · have z : row.length = 0 := by
        rw [Nat.mod_eq_of_lt (by omega)] at hm
        exact hm
      rw [List.length_eq_zero_iff] at z
      subst z
      exact ⟨[], by rw [groupB_last (by simpa using h0)]; rfl⟩
/-- what is left out at the end -/
def tailD (cn : List Int) (D : Bool) : List Int := if D = true then [cn.getD 0 0] else []
theorem cntB_full {t e l : Int} (hl2 : 2 ≤ l) (body : List Int) : ∃ D : Bool, cntB t e l body ++ tailD ((plainL t e).take l.toNat) D = full ((plainL t e).take l.toNat) (l.toNat - 1) (rowsB e body) ∧ (D = true → ((rowsB e body).getLastD []).length % (l.toNat - 1) = 0) ∧ (D = true → (rowsB e body).getLastD [] ≠ []) := by
  obtain ⟨rs, ls, hrows, _⟩ := rowsB_all e body
  have hlast : (rowsB e body).getLastD [] = ls := by rw [hrows, List.getLastD_concat]
  by_cases h : ls ≠ [] ∧ ls.length % (l.toNat - 1) = 0
  · refine ⟨true, ?_, fun _ => by rw [hlast]; exact h.2, fun _ => by rw [hlast]; exact h.1⟩
    obtain ⟨pre, hp⟩ := groupB_end (cn := (plainL t e).take l.toNat) (w := l.toNat - 1) (by omega) _ ls rfl h.2
    unfold cntB
    dsimp only
    rw [hlast, if_pos h]
    unfold full tailD
    rw [if_pos rfl, hrows, List.flatMap_append, List.flatMap_cons, List.flatMap_nil, List.append_nil, hp, ← List.append_assoc, List.dropLast_concat]
  · refine ⟨false, ?_, fun z => absurd z Bool.false_ne_true, fun z => absurd z Bool.false_ne_true⟩
    unfold cntB
    dsimp only
    rw [hlast, if_neg h]
    unfold full tailD
    rw [if_neg Bool.false_ne_true, List.append_nil]
theorem tailD_len (cn : List Int) (D : Bool) : (tailD cn D).length ≤ 1 := by
  unfold tailD
  split <;> simp
/-- one group, read -/
theorem read_group {cn : List Int} {w : Nat} {D : Bool} {cur : List Int} {rest : List (List Int)} {x : Int} {suf : List Int} (h0 : 0 < w) (h : (x :: suf) ++ tailD cn D = full cn w (cur :: rest)) (hD : D = true → ((cur :: rest).getLastD []).length % w = 0) :
    ∃ i, i ≤ w ∧ x = cn.getD i 0 ∧ ((i = w ∧ w ≤ cur.length ∧ suf.take i = cur.take w ∧ suf.drop i ++ tailD cn D = full cn w (cur.drop w :: rest) ∧ (D = true → ((cur.drop w :: rest).getLastD []).length % w = 0)) ∨
      (i < w ∧ i = cur.length ∧ suf.take i = cur ∧ suf.drop i ++ tailD cn D = full cn w rest ∧ (D = true → (rest.getLastD []).length % w = 0))) := by
  have tl := tailD_len cn D
  rw [full_cons] at h
  by_cases hw : w ≤ cur.length
  · rw [groupB_more h0 hw, List.cons_append, List.cons_append] at h
    obtain ⟨hx, hs⟩ := List.cons.inj h
    refine ⟨w, Nat.le_refl _, hx, .inl ⟨rfl, hw, ?_⟩⟩
    have lt : (cur.take w).length = w := by
      rw [List.length_take]
      omega
    have gp := groupB_pos cn w (cur.drop w)
    have ls : w ≤ suf.length := by
      have z := congrArg List.length hs
      rw [List.length_append, List.length_append, List.length_append, lt] at z
      omega
    have e1 : suf.take w = cur.take w := by
      have z := congrArg (List.take w) hs
      rw [List.take_append_of_le_length ls, List.append_assoc, List.take_append_of_le_length (Nat.le_of_eq lt.symm), List.take_of_length_le (Nat.le_of_eq lt)] at z
      exact z
    refine ⟨e1, ?_, fun d => ?_⟩
    · have z := congrArg (List.drop w) hs
      rw [List.drop_append_of_le_length ls, List.append_assoc, List.drop_append_of_le_length (Nat.le_of_eq lt.symm), List.drop_of_length_le (Nat.le_of_eq lt), List.nil_append] at z
      rw [full_cons]
      exact z
    · have z := hD d
      cases rest with
      | nil =>
        show (cur.drop w).length % w = 0
        have z : cur.length % w = 0 := z
        rw [List.length_drop, ← Nat.mod_eq_sub_mod hw]
        exact z
      | cons r rest => exact z
  · rw [groupB_last (by omega), List.cons_append, List.cons_append] at h
    obtain ⟨hx, hs⟩ := List.cons.inj h
    refine ⟨cur.length, by omega, hx, .inr ⟨by omega, rfl, ?_⟩⟩
    have ls : cur.length ≤ suf.length := by
      have z := congrArg List.length hs
      rw [List.length_append, List.length_append] at z
      cases rest with
      | nil =>
        by_cases d : D = true
        · have y : cur.length % w = 0 := hD d
          rw [Nat.mod_eq_of_lt (by omega)] at y
          omega
        · unfold tailD at z
          rw [if_neg d, List.length_nil] at z
          omega
      | cons r rest =>
        have := full_pos cn w (rs := r :: rest) (by simp)
        omega
    refine ⟨?_, ?_, fun d => ?_⟩
    · have z := congrArg (List.take cur.length) hs
      rw [List.take_append_of_le_length ls, List.take_append_of_le_length (Nat.le_refl _), List.take_length] at z
      exact z
    · have z := congrArg (List.drop cur.length) hs
      rw [List.drop_append_of_le_length ls, List.drop_append_of_le_length (Nat.le_refl _), List.drop_length, List.nil_append] at z
      exact z
    · cases rest with
      | nil => exact Nat.zero_mod _
      | cons r rest => exact hD d
end Esc

namespace Esc
open PySem PySem.Spec PyProof.Rows L2
theorem rows_plain {t e : Int} {body : List Int} (h : ∀ x ∈ body, 0 ≤ x ∧ x < t) : ∀ row ∈ rowsB e body, ∀ x ∈ row, Plain t e x := by
  have : ∀ n, n ≤ body.length → ∀ row ∈ rowsB e (body.take n), ∀ x ∈ row, Plain t e x := fun n => by
    induction n with
    | zero =>
      intro _ row hr x hx
      rw [List.take_zero] at hr
      rw [List.mem_singleton.mp hr] at hx
      cases hx
    | succ n ih =>
      intro hn row hr x hx
      have hb : body[n]? = some body[n] := List.getElem?_eq_getElem (by omega)
      obtain ⟨rs, ls, h1, _⟩ := rowsB_sum e body n (by omega)
      have ih := ih (by omega)
      rw [h1] at ih
      rw [take_succ' hb, rowsB_snoc, h1] at hr
      by_cases c : body[n] = e
      · rw [c, stepR_end] at hr
        rcases List.mem_append.mp hr with m | m
        · exact ih row m x hx
        · rw [List.mem_singleton.mp m] at hx
          cases hx
      · rw [stepR_in c] at hr
        rcases List.mem_append.mp hr with m | m
        · exact ih row (List.mem_append_left _ m) x hx
        · rw [List.mem_singleton.mp m] at hx
          rcases List.mem_append.mp hx with m | m
          · exact ih ls (List.mem_append_right _ (List.mem_singleton.mpr rfl)) x m
          · rw [List.mem_singleton.mp m]
            have z := h body[n] (List.getElem_mem _)
            exact ⟨z.1, z.2, c⟩
  have z := this body.length (Nat.le_refl _)
  rw [List.take_length] at z
  exact z
theorem group_plain {t e : Int} {cn : List Int} {w : Nat} (h0 : 0 < w) (hc : cn.length = w + 1) (hp : ∀ x ∈ cn, Plain t e x) : ∀ (n : Nat) (row : List Int), row.length = n → (∀ x ∈ row, Plain t e x) → ∀ x ∈ groupB cn w row, Plain t e x := by
  have at_ : ∀ i, i ≤ w → Plain t e (cn.getD i 0) := fun i hi => by
    rw [List.getD_eq_getElem?_getD, List.getElem?_eq_getElem (by omega)]
    exact hp _ (List.getElem_mem _)
  intro n
  induction n using Nat.strongRecOn with
  | ind n ih =>
    intro row hn hr x hx
    by_cases h : w ≤ row.length
    · rw [groupB_more h0 h] at hx
      rcases List.mem_cons.mp hx with rfl | m
      · exact at_ w (Nat.le_refl _)
      · rcases List.mem_append.mp m with m | m
        · exact hr x (List.mem_of_mem_take m)
        · exact ih (row.length - w) (by omega) (row.drop w) (List.length_drop ..) (fun y hy => hr y (List.mem_of_mem_drop hy)) x m
    · rw [groupB_last (by omega)] at hx
      rcases List.mem_cons.mp hx with rfl | m
      · exact at_ _ (by omega)
      · exact hr x m
theorem rowOf_plain {t e : Int} {k : Kind} (ok : KindOk t e k) (h3 : 3 ≤ t) (h16 : t ≤ 16) (h0 : 0 ≤ e) (h1 : e < t) {body : List Int} (h : ∀ x ∈ body, 0 ≤ x ∧ x < t) : ∀ x ∈ rowOf t e k body, Plain t e x := by
  intro x hx
  cases k with
  | codes cs =>
    obtain ⟨y, hy, m⟩ := List.mem_flatMap.mp (show x ∈ codesB cs body from hx)
    rw [List.getD_eq_getElem?_getD] at m
    cases e1 : cs[y.toNat]? with
    | none =>
      rw [e1] at m
      cases m
    | some c =>
      rw [e1] at m
      exact (ok.2.1 c (List.mem_of_getElem? e1)).2.2 x m
  | escapes mk prs =>
    obtain ⟨hm, hw, hr0, he1, hm1, hcp, hcn⟩ := ok
    obtain ⟨y, hy, m⟩ := List.mem_flatMap.mp (show x ∈ escB mk prs body from hx)
    cases el : look prs y with
    | some c =>
      rw [escS_some el] at m
      rcases List.mem_cons.mp m with rfl | m
      · exact hm
      · rw [List.mem_singleton.mp m]
        exact hcp c (List.mem_map.mpr ⟨(y, c), look_some el, rfl⟩)
    | none =>
      rw [escS_none el] at m
      rw [List.mem_singleton.mp m]
      have z := h y hy
      refine ⟨z.1, z.2, fun q => ?_⟩
      subst q
      obtain ⟨pc, hpc, e2⟩ := List.mem_map.mp he1
      have hnf : (prs.map (·.1)).Nodup := hw.imp fun h => by omega
      have zz := look_mem hnf hpc
      rw [e2, el] at zz
      cases zz
  | counts l =>
    obtain ⟨hl2, hlt⟩ := ok
    have np := plain_len h0 h1
    have lcn : ((plainL t e).take l.toNat).length = (l.toNat - 1) + 1 := by
      rw [List.length_take]
      omega
    have m : x ∈ full ((plainL t e).take l.toNat) (l.toNat - 1) (rowsB e body) := by
      obtain ⟨D, hf, _⟩ := cntB_full (t := t) (e := e) hl2 body
      rw [← hf]
      exact List.mem_append_left _ hx
    obtain ⟨row, hrow, m⟩ := List.mem_flatMap.mp m
    exact group_plain (by omega) lcn (fun y hy => plain_mem.mp (List.mem_of_mem_take hy)) _ row rfl (rows_plain h row hrow) x m
  | ranks => exact plain_mem.mp (rowR_mem h3 h0 h1 body x hx)
theorem frameW_in {wy : Way} (ok : wy.Ok) {body : List Int} (h : ∀ x ∈ body, 0 ≤ x ∧ x < wy.t) : ∀ x ∈ frameW wy body, 0 ≤ x ∧ x < wy.t := fun x hx => by
  rcases List.mem_append.mp hx with m | m
  · have z := rowOf_plain ok.kind ok.t3 ok.t16 ok.e0 ok.e1 (turnL_ok wy.ts ok.perm body h).1 x m
    exact ⟨z.1, z.2.1⟩
  · rw [List.mem_singleton.mp m]
    exact ⟨ok.e0, ok.e1⟩
theorem frameW_count {wy : Way} (ok : wy.Ok) {body : List Int} (h : ∀ x ∈ body, 0 ≤ x ∧ x < wy.t) : (frameW wy body).count wy.e = 1 := by
  unfold frameW
  rw [List.count_append, List.count_eq_zero_of_not_mem (fun m => (rowOf_plain ok.kind ok.t3 ok.t16 ok.e0 ok.e1 (turnL_ok wy.ts ok.perm body h).1 _ m).2.2 rfl)]
  simp
theorem frameW_len {wy : Way} (ok : wy.Ok) {body : List Int} (h : ∀ x ∈ body, 0 ≤ x ∧ x < wy.t) : (frameW wy body).length ≤ 5 * body.length + 2 := by
  obtain ⟨tin, tlen⟩ := turnL_ok wy.ts ok.perm body h
  have z := rowOf_len ok.kind ok.t3 ok.t16 ok.e0 ok.e1 tin
  unfold frameW
  rw [List.length_append, List.length_singleton]
  omega
/-- exchanged back -/
theorem turn_back {t : Int} {p body : List Int} (hp : p.Perm (countL t)) (h : ∀ x ∈ body, 0 ≤ x ∧ x < t) : (turnS p body).map (fun x => ((p.idxOf x : Nat) : Int)) = body := by
  unfold turnS
  rw [List.map_map]
  conv => rhs; rw [← List.map_id body]
  refine List.map_congr_left fun x hx => ?_
  have z := h x hx
  have lp := hp.length_eq
  rw [count_len] at lp
  have hl : x.toNat < p.length := by omega
  show ((p.idxOf (p.getD x.toNat 0) : Nat) : Int) = x
  rw [List.getD_eq_getElem?_getD, List.getElem?_eq_getElem hl]
  show ((p.idxOf p[x.toNat] : Nat) : Int) = x
  rw [List.Nodup.idxOf_getElem (hp.nodup_iff.mpr (count_nodup t)) _ hl]
  omega
end Esc

/-! What lists of signs are the frames of: reading, as the program goes. -/
namespace Esc
open PySem PySem.Spec PyProof.Rows L2
/-! ### escapes -/
def escR (m : Int) (sw : List (Int × Int)) : Bool → List Int → Option (List Int)
  | false, [] => some []
  | true, [] => none
  | true, x :: r => match look sw x with
    | none => none
    | some s => (escR m sw false r).map (s :: ·)
  | false, x :: r => if x = m then escR m sw true r else (escR m sw false r).map (x :: ·)
theorem escR_t {m : Int} {sw : List (Int × Int)} {x s : Int} {r : List Int} (h : look sw x = some s) : escR m sw true (x :: r) = (escR m sw false r).map (s :: ·) := by
  rw [escR, h]
theorem escR_tn {m : Int} {sw : List (Int × Int)} {x : Int} {r : List Int} (h : look sw x = none) : escR m sw true (x :: r) = none := by
  rw [escR, h]
theorem escR_m {m : Int} {sw : List (Int × Int)} {r : List Int} : escR m sw false (m :: r) = escR m sw true r := by
  rw [escR, if_pos rfl]
theorem escR_f {m : Int} {sw : List (Int × Int)} {x : Int} {r : List Int} (h : x ≠ m) : escR m sw false (x :: r) = (escR m sw false r).map (x :: ·) := by
  rw [escR, if_neg h]
theorem escR_escB {m : Int} {prs : List (Int × Int)} (hnf : (prs.map (·.1)).Nodup) (hcn : (prs.map (·.2)).Nodup) (hm : m ∈ prs.map (·.1)) : ∀ body : List Int, escR m (swp prs) false (escB m prs body) = some body
  | [] => rfl
  | x :: body => by
    have ih := escR_escB hnf hcn hm body
    rw [escB_cons]
    cases el : look prs x with
    | some c =>
      rw [escS_some el]
      show escR m (swp prs) false (m :: c :: escB m prs body) = _
      rw [escR_m, escR_t (swp_look hcn el), ih]
      rfl
    | none =>
      rw [escS_none el]
      show escR m (swp prs) false (x :: escB m prs body) = _
      have ne : x ≠ m := fun z => by
        subst z
        obtain ⟨pc, hpc, e1⟩ := List.mem_map.mp hm
        have zz := look_mem hnf hpc
        rw [e1, el] at zz
        cases zz
      rw [escR_f ne, ih]
      rfl
theorem look_mem2 {l : List (Int × Int)} {x y : Int} (h : look l x = some y) : y ∈ l.map (·.2) := List.mem_map.mpr ⟨(x, y), look_some h, rfl⟩
theorem swp_snd (prs : List (Int × Int)) : (swp prs).map (·.2) = prs.map (·.1) := by
  unfold swp
  rw [List.map_map]
  rfl
theorem escR_in {t m : Int} {sw : List (Int × Int)} (hs : ∀ s ∈ sw.map (·.2), 0 ≤ s ∧ s < t) : ∀ (row : List Int) (mk : Bool) (b : List Int), (∀ x ∈ row, 0 ≤ x ∧ x < t) → escR m sw mk row = some b → (∀ x ∈ b, 0 ≤ x ∧ x < t) ∧ b.length ≤ row.length
  | [], false, b, _, h => by
    cases h
    exact ⟨fun x hx => (by cases hx), Nat.le_refl _⟩
  | [], true, b, _, h => by cases h
  | x :: r, true, b, hr, h => by
    cases el : look sw x with
    | none =>
      rw [escR_tn el] at h
      cases h
    | some s =>
      rw [escR_t el] at h
      cases e : escR m sw false r with
      | none =>
        rw [e] at h
        cases h
      | some b1 =>
        rw [e] at h
        cases h
        obtain ⟨h1, h2⟩ := escR_in hs r false b1 (fun y m => hr y (List.mem_cons_of_mem _ m)) e
        refine ⟨fun y hy => ?_, Nat.succ_le_succ h2⟩
        rcases List.mem_cons.mp hy with rfl | m
        · exact hs _ (look_mem2 el)
        · exact h1 y m
  | x :: r, false, b, hr, h => by
    by_cases c : x = m
    · subst c
      rw [escR_m] at h
      obtain ⟨h1, h2⟩ := escR_in hs r true b (fun y m => hr y (List.mem_cons_of_mem _ m)) h
      exact ⟨h1, Nat.le_succ_of_le h2⟩
    · rw [escR_f c] at h
      cases e : escR m sw false r with
      | none =>
        rw [e] at h
        cases h
      | some b1 =>
        rw [e] at h
        cases h
        obtain ⟨h1, h2⟩ := escR_in hs r false b1 (fun y m => hr y (List.mem_cons_of_mem _ m)) e
        refine ⟨fun y hy => ?_, Nat.succ_le_succ h2⟩
        rcases List.mem_cons.mp hy with rfl | m
        · exact hr _ List.mem_cons_self
        · exact h1 y m
/-! ### codes -/
def codR (cs : List (List Int)) : List Int → List Int → Option (List Int)
  | bs, [] => if bs = [] then some [] else none
  | bs, x :: r => if bs ++ [x] ∈ cs then (codR cs [] r).map (((cs.idxOf (bs ++ [x]) : Nat) : Int) :: ·) else codR cs (bs ++ [x]) r
theorem codR_hit {cs : List (List Int)} {bs r : List Int} {x : Int} (h : bs ++ [x] ∈ cs) : codR cs bs (x :: r) = (codR cs [] r).map (((cs.idxOf (bs ++ [x]) : Nat) : Int) :: ·) := by
  rw [codR, if_pos h]
theorem codR_miss {cs : List (List Int)} {bs r : List Int} {x : Int} (h : bs ++ [x] ∉ cs) : codR cs bs (x :: r) = codR cs (bs ++ [x]) r := by
  rw [codR, if_neg h]
theorem codR_end {cs : List (List Int)} {bs : List Int} (h : bs ≠ []) : codR cs bs [] = none := by
  rw [codR, if_neg h]
theorem codR_one {cs : List (List Int)} (hap : cs.Pairwise fun a b => ¬ a <+: b ∧ ¬ b <+: a) {j : Nat} {c : List Int} (hj : cs[j]? = some c) : ∀ (suf bs rest : List Int), suf ≠ [] → bs ++ suf = c → codR cs bs (suf ++ rest) = (codR cs [] rest).map ((j : Int) :: ·)
  | [], _, _, h, _ => absurd rfl h
  | x :: suf, bs, rest, _, h => by
    have hnd : cs.Nodup := hap.imp fun {a b} hab z => hab.1 (by rw [z]; exact List.prefix_refl _)
    obtain ⟨g1, g2⟩ := List.getElem?_eq_some_iff.mp hj
    show codR cs bs (x :: (suf ++ rest)) = _
    by_cases hs : suf = []
    · subst hs
      have m : bs ++ [x] ∈ cs := by
        rw [h]
        exact List.mem_of_getElem? hj
      rw [codR_hit m, h, ← g2, List.Nodup.idxOf_getElem hnd _ g1]
      rfl
    · have h2 : (bs ++ [x]) ++ suf = c := by
        rw [List.append_assoc]
        exact h
      have hno : bs ++ [x] ∉ cs := fun m => by
        obtain ⟨i, hi, ei⟩ := List.getElem_of_mem m
        have pre : cs[i] <+: cs[j] := by
          rw [ei, g2]
          exact ⟨suf, h2⟩
        have nj : i ≠ j := fun q => by
          subst q
          rw [g2] at ei
          have z := congrArg List.length h2
          rw [← ei, List.length_append] at z
          exact hs (List.length_eq_zero_iff.mp (by omega))
        rcases Nat.lt_or_gt_of_ne nj with q | q
        · exact (List.pairwise_iff_getElem.mp hap i j hi g1 q).1 pre
        · exact (List.pairwise_iff_getElem.mp hap j i g1 hi q).2 pre
      rw [codR_miss hno]
      exact codR_one hap hj suf (bs ++ [x]) rest hs h2
theorem codesB_cons' (cs : List (List Int)) (x : Int) (body : List Int) : codesB cs (x :: body) = cs.getD x.toNat [] ++ codesB cs body := by
  unfold codesB
  rw [List.flatMap_cons]
theorem codR_codesB {t e : Int} {cs : List (List Int)} (ok : CodesOk t e cs) (hl : cs.length = t.toNat) : ∀ body : List Int, (∀ x ∈ body, 0 ≤ x ∧ x < t) → codR cs [] (codesB cs body) = some body
  | [], _ => rfl
  | x :: body, h => by
    have hx := h x List.mem_cons_self
    have ih := codR_codesB ok hl body fun y m => h y (List.mem_cons_of_mem _ m)
    have hxl : x.toNat < cs.length := by omega
    have hj : cs[x.toNat]? = some cs[x.toNat] := List.getElem?_eq_getElem hxl
    have hg : cs.getD x.toNat [] = cs[x.toNat] := by
      rw [List.getD_eq_getElem?_getD, hj]
      rfl
    have h1 := (ok.1 cs[x.toNat] (List.getElem_mem hxl)).1
    rw [codesB_cons', hg, codR_one ok.2 hj cs[x.toNat] [] _ (fun z => by rw [z] at h1; exact absurd h1 (by decide)) (List.nil_append _), ih]
    show some (((x.toNat : Nat) : Int) :: body) = _
    rw [Int.toNat_of_nonneg hx.1]
theorem codR_in {t : Int} {cs : List (List Int)} (h0 : 0 ≤ t) (hl : cs.length = t.toNat) : ∀ (row bs b : List Int), codR cs bs row = some b → (∀ x ∈ b, 0 ≤ x ∧ x < t) ∧ b.length ≤ row.length
  | [], bs, b, h => by
    by_cases c : bs = []
    · subst c
      cases h
      exact ⟨fun x hx => (by cases hx), Nat.le_refl _⟩
    · rw [codR_end c] at h
      cases h
  | x :: r, bs, b, h => by
    by_cases c : bs ++ [x] ∈ cs
    · rw [codR_hit c] at h
      cases e : codR cs [] r with
      | none =>
        rw [e] at h
        cases h
      | some b1 =>
        rw [e] at h
        cases h
        obtain ⟨h1, h2⟩ := codR_in h0 hl r [] b1 e
        refine ⟨fun y hy => ?_, Nat.succ_le_succ h2⟩
        rcases List.mem_cons.mp hy with rfl | m
        · have z := List.idxOf_lt_length_of_mem c
          omega
        · exact h1 y m
    · rw [codR_miss c] at h
      obtain ⟨h1, h2⟩ := codR_in h0 hl r _ b h
      exact ⟨h1, Nat.le_succ_of_le h2⟩
/-! ### counts -/
def cntR (pl : List Int) (l e : Int) (ov : Bool) : List Int → List Int
  | [] => []
  | x :: r => (if ov = true then [e] else []) ++ (r.take (pl.idxOf x) ++ cntR pl l e (decide (((pl.idxOf x : Nat) : Int) + 1 < l)) (r.drop (pl.idxOf x)))
  termination_by row => row.length
  decreasing_by rw [List.length_drop, List.length_cons]; omega
theorem cntR_nil {pl : List Int} {l e : Int} {ov : Bool} : cntR pl l e ov [] = [] := by rw [cntR]
theorem cntR_cons {pl : List Int} {l e : Int} {ov : Bool} {x : Int} {r : List Int} : cntR pl l e ov (x :: r) = (if ov = true then [e] else []) ++ (r.take (pl.idxOf x) ++ cntR pl l e (decide (((pl.idxOf x : Nat) : Int) + 1 < l)) (r.drop (pl.idxOf x))) := by rw [cntR]
theorem cntR_in {t e l : Int} {pl : List Int} (he : 0 ≤ e ∧ e < t) : ∀ (n : Nat) (row : List Int) (ov : Bool), row.length = n → (∀ x ∈ row, 0 ≤ x ∧ x < t) → (∀ x ∈ cntR pl l e ov row, 0 ≤ x ∧ x < t) ∧ (cntR pl l e ov row).length ≤ row.length := by
  intro n
  induction n using Nat.strongRecOn with
  | ind n ih =>
    intro row ov hn hr
    cases row with
    | nil =>
      rw [cntR_nil]
      exact ⟨fun x hx => (by cases hx), Nat.le_refl _⟩
    | cons x r =>
      rw [cntR_cons]
      generalize pl.idxOf x = i
      have z := ih (r.drop i).length (by rw [List.length_drop]; rw [List.length_cons] at hn; omega) (r.drop i) (decide (((i : Nat) : Int) + 1 < l)) rfl (fun y m => hr y (List.mem_cons_of_mem _ (List.mem_of_mem_drop m)))
      refine ⟨fun y hy => ?_, ?_⟩
      · rcases List.mem_append.mp hy with m | m
        · cases ov with
          | true =>
            rw [List.mem_singleton.mp m]
            exact he
          | false => cases m
        · rcases List.mem_append.mp m with m | m
          · exact hr y (List.mem_cons_of_mem _ (List.mem_of_mem_take m))
          · exact z.1 y m
      · have z2 := z.2
        have z3 : (if ov = true then [e] else []).length ≤ 1 := by
          split <;> simp
        rw [List.length_append, List.length_append, List.length_take]
        rw [List.length_drop] at z2
        rw [List.length_cons]
        omega
theorem cntR_full {t e l : Int} (hl2 : 2 ≤ l) (hlt : l < t) (h0 : 0 ≤ e) (h1 : e < t) {D : Bool} {cn : List Int} (hcn : (plainL t e).take l.toNat = cn) : ∀ (n : Nat) (s : List Int), s.length = n → ∀ rs : List (List Int), s ++ tailD cn D = full cn (l.toNat - 1) rs → (D = true → (rs.getLastD []).length % (l.toNat - 1) = 0) →
    (Dg D rs → cntR (plainL t e) l e true s = JT e rs) ∧ (∀ cur rest, rs = cur :: rest → Dg D rest → cntR (plainL t e) l e false s = cur ++ JT e rest) := by
  have np := plain_len h0 h1
  have lcn : cn.length = (l.toNat - 1) + 1 := by
    rw [← hcn, List.length_take]
    omega
  intro n
  induction n using Nat.strongRecOn with
  | ind n ih =>
    intro s hn rs hsuf hD
    have tl := tailD_len cn D
    cases s with
    | nil =>
      rw [List.nil_append] at hsuf
      have lone : ∀ (cur : List Int) (rest : List (List Int)), tailD cn D = full cn (l.toNat - 1) (cur :: rest) → D = true ∧ cur = [] ∧ rest = [] := fun cur rest z => by
        have z2 := congrArg List.length z
        rw [full_cons, List.length_append] at z2
        have g := groupB_ge (cn := cn) (w := l.toNat - 1) (by omega) cur.length cur rfl
        refine ⟨?_, List.length_eq_zero_iff.mp (by omega), ?_⟩
        · cases D with
          | true => rfl
          | false =>
            have : (tailD cn false).length = 0 := rfl
            omega
        · cases rest with
          | nil => rfl
          | cons r rest =>
            have := full_pos cn (l.toNat - 1) (rs := r :: rest) (by simp)
            omega
      rw [cntR_nil, cntR_nil]
      refine ⟨fun g => ?_, fun cur rest h g => ?_⟩
      · cases rs with
        | nil => rfl
        | cons cur rest =>
          obtain ⟨d, e1, e2⟩ := lone cur rest hsuf
          subst e1 e2
          exact absurd rfl (g d (by simp))
      · subst h
        obtain ⟨d, e1, e2⟩ := lone cur rest hsuf
        subst e1 e2
        rfl
    | cons x r =>
      have key : ∀ cur rest, rs = cur :: rest → Dg D rest → r.take ((plainL t e).idxOf x) ++ cntR (plainL t e) l e (decide ((((plainL t e).idxOf x : Nat) : Int) + 1 < l)) (r.drop ((plainL t e).idxOf x)) = cur ++ JT e rest := fun cur rest h g => by
        subst h
        obtain ⟨i, hi, hxi, hcase⟩ := read_group (by omega) hsuf hD
        have hil : i < cn.length := by omega
        have hci : cn[i]? = some x := by
          rw [hxi, List.getD_eq_getElem?_getD, List.getElem?_eq_getElem hil]
          rfl
        have hpi : (plainL t e)[i]? = some x := by
          rw [← hcn, List.getElem?_take] at hci
          split at hci
          · exact hci
          · cases hci
        have hidx : (plainL t e).idxOf x = i := by
          obtain ⟨g1, g2⟩ := List.getElem?_eq_some_iff.mp hpi
          rw [← g2]
          exact List.Nodup.idxOf_getElem (plain_nodup t e) i g1
        rw [hidx]
        have lt : (r.drop i).length < n := by
          rw [List.length_drop]
          rw [List.length_cons] at hn
          omega
        rcases hcase with ⟨h1, h2, h3, h4, h5⟩ | ⟨h1, h2, h3, h4, h5⟩
        · rw [decide_eq_false (by omega), (ih _ lt (r.drop i) rfl _ h4 h5).2 _ _ rfl g, h3, ← List.append_assoc, List.take_append_drop]
        · rw [decide_eq_true (by omega), (ih _ lt (r.drop i) rfl _ h4 h5).1 g, h3]
      refine ⟨fun g => ?_, fun cur rest h g => ?_⟩
      · cases rs with
        | nil => cases hsuf
        | cons cur rest =>
          rw [cntR_cons, key cur rest rfl g.tl, if_pos rfl, JT_cons]
          rfl
      · rw [cntR_cons, key cur rest h g, if_neg Bool.false_ne_true]
        rfl
theorem cntR_cntB {t e l : Int} (hl2 : 2 ≤ l) (hlt : l < t) (h0 : 0 ≤ e) (h1 : e < t) (body : List Int) : cntR (plainL t e) l e false (cntB t e l body) = body := by
  obtain ⟨D, hfull, hD, hD2⟩ := cntB_full (t := t) (e := e) hl2 body
  have hjt := JT_rows e body
  cases hrs : rowsB e body with
  | nil =>
    rw [hrs] at hjt
    cases hjt
  | cons cur rest =>
    have z : Dg D (cur :: rest) := fun d _ => by
      rw [← hrs]
      exact hD2 d
    have q := (cntR_full hl2 hlt h0 h1 rfl _ _ rfl _ hfull hD).2 cur rest hrs z.tl
    rw [hrs, JT_cons] at hjt
    rw [q]
    exact (List.cons.inj hjt).2
/-! ### all sorts -/
def fromK (t e : Int) : Kind → List Int → Option (List Int)
  | .codes cs, row => codR cs [] row
  | .escapes m prs, row => escR m (swp prs) false row
  | .counts l, row => some (cntR (plainL t e) l e false row)
  | .ranks, row => some (bodyR t e row)
theorem fromK_rowOf {t e : Int} {k : Kind} (ok : KindOk t e k) (h3 : 3 ≤ t) (h0 : 0 ≤ e) (h1 : e < t) {body : List Int} (h : ∀ x ∈ body, 0 ≤ x ∧ x < t) : fromK t e k (rowOf t e k body) = some body := by
  cases k with
  | codes cs => exact codR_codesB ok.2 ok.1 body h
  | escapes m prs =>
    obtain ⟨hm, hw, hr0, he1, hm1, hcp, hcn⟩ := ok
    exact escR_escB (hw.imp fun h => by omega) hcn hm1 body
  | counts l => exact congrArg some (cntR_cntB ok.1 ok.2 h0 h1 body)
  | ranks => exact congrArg some (bodyR_rowR h3 h0 h1 h)
theorem fromK_in {t e : Int} {k : Kind} (ok : KindOk t e k) (h3 : 3 ≤ t) (h0 : 0 ≤ e) (h1 : e < t) {row b : List Int} (h : ∀ x ∈ row, Plain t e x) (q : fromK t e k row = some b) : (∀ x ∈ b, 0 ≤ x ∧ x < t) ∧ b.length ≤ row.length := by
  have h' : ∀ x ∈ row, 0 ≤ x ∧ x < t := fun x m => ⟨(h x m).1, (h x m).2.1⟩
  cases k with
  | codes cs => exact codR_in (by omega) ok.1 row [] b q
  | escapes m prs =>
    obtain ⟨hm, hw, hr0, he1, hm1, hcp, hcn⟩ := ok
    exact escR_in (by rw [swp_snd]; exact hr0) row false b h' q
  | counts l =>
    cases q
    exact cntR_in ⟨h0, h1⟩ _ row false rfl h'
  | ranks =>
    cases q
    exact ⟨bodyR_mem h3 row, bodyR_len h3 h0 h1 fun x m => plain_mem.mpr (h x m)⟩
/-! ### exchanged back -/
def backS (p b : List Int) : List Int := b.map fun x => ((p.idxOf x : Nat) : Int)
def backL (ts : List (List Int)) (b : List Int) : List Int := ts.foldr backS b
theorem backS_in {t : Int} {p b : List Int} (hp : p.Perm (countL t)) (h : ∀ x ∈ b, 0 ≤ x ∧ x < t) : ∀ x ∈ backS p b, 0 ≤ x ∧ x < t := fun x hx => by
  obtain ⟨y, hy, rfl⟩ := List.mem_map.mp hx
  have z := h y hy
  have q := List.idxOf_lt_length_of_mem (hp.symm.subset (count_mem.mpr z))
  have lp := hp.length_eq
  rw [count_len] at lp
  omega
theorem backS_len (p b : List Int) : (backS p b).length = b.length := List.length_map _
theorem turnS_backS {t : Int} {p b : List Int} (hp : p.Perm (countL t)) (h : ∀ x ∈ b, 0 ≤ x ∧ x < t) : turnS p (backS p b) = b := by
  unfold turnS backS
  rw [List.map_map]
  conv => rhs; rw [← List.map_id b]
  refine List.map_congr_left fun x hx => ?_
  have z := List.idxOf_lt_length_of_mem (hp.symm.subset (count_mem.mpr (h x hx)))
  show p.getD ((p.idxOf x : Nat) : Int).toNat 0 = x
  rw [Int.toNat_natCast, List.getD_eq_getElem?_getD, List.getElem?_eq_getElem z, Option.getD_some, List.getElem_idxOf z]
theorem backL_ok {t : Int} : ∀ (ts : List (List Int)), (∀ p ∈ ts, p.Perm (countL t)) → ∀ (b : List Int), (∀ x ∈ b, 0 ≤ x ∧ x < t) → (∀ x ∈ backL ts b, 0 ≤ x ∧ x < t) ∧ (backL ts b).length = b.length
  | [], _, b, h => ⟨h, rfl⟩
  | p :: ts, hp, b, h => by
    have z := backL_ok ts (fun q hq => hp q (List.mem_cons_of_mem _ hq)) b h
    refine ⟨backS_in (hp p List.mem_cons_self) z.1, ?_⟩
    show (backS p (backL ts b)).length = _
    rw [backS_len, z.2]
theorem turnL_backL {t : Int} : ∀ (ts : List (List Int)), (∀ p ∈ ts, p.Perm (countL t)) → ∀ (b : List Int), (∀ x ∈ b, 0 ≤ x ∧ x < t) → turnL ts (backL ts b) = b
  | [], _, b, h => rfl
  | p :: ts, hp, b, h => by
    have hp' := fun q hq => hp q (List.mem_cons_of_mem p hq)
    have z := backL_ok ts hp' b h
    show turnL ts (turnS p (backS p (backL ts b))) = b
    rw [turnS_backS (hp p List.mem_cons_self) z.1]
    exact turnL_backL ts hp' b h
theorem backL_turnL {t : Int} : ∀ (ts : List (List Int)), (∀ p ∈ ts, p.Perm (countL t)) → ∀ (b : List Int), (∀ x ∈ b, 0 ≤ x ∧ x < t) → backL ts (turnL ts b) = b
  | [], _, b, h => rfl
  | p :: ts, hp, b, h => by
    have hp' := fun q hq => hp q (List.mem_cons_of_mem p hq)
    have hpp := hp p List.mem_cons_self
    show backS p (backL ts (turnL ts (turnS p b))) = b
    rw [backL_turnL ts hp' (turnS p b) (turnS_in hpp h)]
    exact turn_back hpp h
/-! ### how long frames are -/
theorem rank_up3 {m : Nat} (hm : 3 ≤ m) : ∀ (k : Nat) (ds : List Nat), ds.length = k → 3 ^ k ≤ 2 * rankD m ds + 1
  | 0, [], _ => Nat.le_refl _
  | k + 1, ds, hk => by
    have hne : ds ≠ [] := fun e => by
      rw [e] at hk
      cases hk
    have e := List.dropLast_concat_getLast hne
    have ih := rank_up3 hm k ds.dropLast (by rw [List.length_dropLast, hk]; rfl)
    rw [← e, rankD_snoc, Nat.pow_succ]
    have m1 : rankD m ds.dropLast * 3 ≤ rankD m ds.dropLast * m := Nat.mul_le_mul_left _ hm
    omega
theorem row_short4 {m n : Nat} (hm : 2 ≤ m) (hmn : n = m + 1) (hn : n ≤ 16) {ds : List Nat} (h : ∀ d ∈ ds, d < n) : (rowD m (rankD n ds)).length ≤ 4 * ds.length := by
  have a := rank_up ds.length ds rfl h
  by_cases c : m = 2
  · have b := rank_down hm (rowD m (rankD n ds)).length (rowD m (rankD n ds)) rfl
    rw [rank_row] at b
    have d : (n + 1) ^ ds.length = 2 ^ (2 * ds.length) := by
      rw [Nat.pow_mul, hmn, c]
    rw [d] at a
    have z := (Nat.pow_le_pow_iff_right (by decide : 1 < 2)).mp (Nat.le_trans b a)
    omega
  · have b := rank_up3 (m := m) (by omega) (rowD m (rankD n ds)).length (rowD m (rankD n ds)) rfl
    rw [rank_row] at b
    cases hk : ds.length with
    | zero =>
      have z : ds = [] := List.length_eq_zero_iff.mp hk
      rw [z]
      show (rowD m 0).length ≤ _
      rw [rowD_zero]
      exact Nat.le_refl _
    | succ k =>
      rw [hk] at a
      have d : (n + 1) ^ (k + 1) ≤ 27 ^ (k + 1) := Nat.pow_le_pow_left (by omega) _
      have e : (27 : Nat) ^ (k + 1) = 3 ^ (3 * (k + 1)) := by
        rw [Nat.pow_mul]
      rw [e] at d
      have f : (3 : Nat) ^ (rowD m (rankD n ds)).length < 3 ^ (3 * (k + 1) + 1) := by
        rw [Nat.pow_succ]
        omega
      have z := (Nat.pow_lt_pow_iff_right (by decide : 1 < 3)).mp f
      omega
theorem rowR_len4 {t e : Int} (h3 : 3 ≤ t) (h16 : t ≤ 16) (h0 : 0 ≤ e) (h1 : e < t) {body : List Int} (h : ∀ n ∈ body, 0 ≤ n ∧ n < t) : (rowR t e body).length ≤ 4 * body.length := by
  have np := plain_len h0 h1
  unfold rowR letters
  rw [List.length_map]
  have z := row_short4 (m := (plainL t e).length) (n := t.toNat) (by omega) (by omega) (by omega) (ds := digits (countL t) body) (fun d hd => by
    rw [← count_len]
    exact digits_lt (fun x hx => count_mem.mpr (h x hx)) d hd)
  unfold digits at z ⊢
  rw [List.length_map] at z
  exact z
theorem rowOf_len4 {t e : Int} {k : Kind} (ok : KindOk t e k) (h3 : 3 ≤ t) (h16 : t ≤ 16) (h0 : 0 ≤ e) (h1 : e < t) {body : List Int} (h : ∀ x ∈ body, 0 ≤ x ∧ x < t) (hl : body.length ≤ 60) : (rowOf t e k body).length ≤ 240 := by
  cases k with
  | codes cs =>
    have z := codesB_len (fun c hc => (ok.2.1 c hc).2.1) body
    show (codesB cs body).length ≤ _
    omega
  | escapes m prs =>
    have z := escB_len m prs body
    show (escB m prs body).length ≤ _
    omega
  | counts l =>
    have z := cntB_len (t := t) (e := e) ok.1 body
    show (cntB t e l body).length ≤ _
    omega
  | ranks =>
    have z := rowR_len4 h3 h16 h0 h1 h
    show (rowR t e body).length ≤ _
    omega
theorem frameW_len4 {wy : Way} (ok : wy.Ok) {body : List Int} (h : ∀ x ∈ body, 0 ≤ x ∧ x < wy.t) (hl : body.length ≤ 60) : (frameW wy body).length ≤ 241 := by
  obtain ⟨tin, tlen⟩ := turnL_ok wy.ts ok.perm body h
  have z := rowOf_len4 ok.kind ok.t3 ok.t16 ok.e0 ok.e1 tin (by omega)
  unfold frameW
  rw [List.length_append, List.length_singleton]
  omega
/-! ### reading -/
def isFr (e : Int) (ns : List Int) : Prop := ns.length ≤ 241 ∧ ns.count e = 1 ∧ ns.getLast? = some e
instance {e : Int} {ns : List Int} : Decidable (isFr e ns) := by unfold isFr; exact inferInstance
def readW (wy : Way) (ns : List Int) : Option (List Int) :=
  if isFr wy.e ns then
    match fromK wy.t wy.e wy.k ns.dropLast with
    | none => none
    | some b => if b.length ≤ 60 ∧ frameW wy (backL wy.ts b) = ns then some (backL wy.ts b) else none
  else none
theorem isFr_plain {t e : Int} {ns : List Int} (h : isFr e ns) (hn : ∀ x ∈ ns, 0 ≤ x ∧ x < t) : ns = ns.dropLast ++ [e] ∧ ∀ x ∈ ns.dropLast, Plain t e x := by
  obtain ⟨_, hc, hl⟩ := h
  have hne : ns ≠ [] := fun z => by
    rw [z] at hl
    cases hl
  have e1 := List.dropLast_concat_getLast hne
  have e2 : ns.getLast hne = e := by
    rw [List.getLast?_eq_some_getLast hne] at hl
    exact Option.some.inj hl
  rw [e2] at e1
  refine ⟨e1.symm, fun x hx => ?_⟩
  have z := hn x (mem_dl hx)
  refine ⟨z.1, z.2, fun q => ?_⟩
  subst q
  rw [← e1, List.count_append] at hc
  have z2 := List.count_pos_iff.mpr hx
  simp at hc
  omega
theorem readW_some {wy : Way} (ok : wy.Ok) {ns b : List Int} (hn : ∀ x ∈ ns, 0 ≤ x ∧ x < wy.t) (h : readW wy ns = some b) : frameW wy b = ns ∧ (∀ x ∈ b, 0 ≤ x ∧ x < wy.t) ∧ b.length ≤ 60 := by
  unfold readW at h
  split at h
  · rename_i hf
    split at h
    · cases h
    · rename_i b1 e1
      split at h
      · rename_i hb
        cases h
        obtain ⟨_, hp⟩ := isFr_plain hf hn
        obtain ⟨i1, i2⟩ := fromK_in ok.kind ok.t3 ok.e0 ok.e1 hp e1
        obtain ⟨j1, j2⟩ := backL_ok wy.ts ok.perm b1 i1
        exact ⟨hb.2, j1, by omega⟩
      · cases h
  · cases h
theorem readW_frame {wy : Way} (ok : wy.Ok) {b : List Int} (h : ∀ x ∈ b, 0 ≤ x ∧ x < wy.t) (hl : b.length ≤ 60) : readW wy (frameW wy b) = some b := by
  have c := frameW_count ok h
  have l := frameW_len4 ok h hl
  obtain ⟨tin, tlen⟩ := turnL_ok wy.ts ok.perm b h
  unfold readW
  rw [if_pos ⟨l, c, by unfold frameW; rw [List.getLast?_concat]⟩]
  have e1 : (frameW wy b).dropLast = rowOf wy.t wy.e wy.k (turnL wy.ts b) := by
    unfold frameW
    rw [List.dropLast_concat]
  rw [e1, fromK_rowOf ok.kind ok.t3 ok.e0 ok.e1 tin]
  dsimp only
  rw [backL_turnL wy.ts ok.perm b h, if_pos ⟨by omega, rfl⟩]
theorem frameW_inj {wy : Way} (ok : wy.Ok) {a b : List Int} (ha : ∀ x ∈ a, 0 ≤ x ∧ x < wy.t) (hb : ∀ x ∈ b, 0 ≤ x ∧ x < wy.t) (h : frameW wy a = frameW wy b) : a = b := by
  have ta := turnL_ok wy.ts ok.perm a ha
  have tb := turnL_ok wy.ts ok.perm b hb
  unfold frameW at h
  have e := List.append_cancel_right h
  have z1 := fromK_rowOf ok.kind ok.t3 ok.e0 ok.e1 ta.1
  rw [e, fromK_rowOf ok.kind ok.t3 ok.e0 ok.e1 tb.1] at z1
  have z2 := Option.some.inj z1
  rw [← backL_turnL wy.ts ok.perm a ha, ← backL_turnL wy.ts ok.perm b hb, z2]
end Esc

namespace Esc
open PySem PySem.Spec PyProof.Rows L2
def spNever : Sp := fun vs H Q _ => False
section
variable {P : Program} {w : World} {K : PySem.W.Frag} {mg : Str → Option Value} {base : Heap}
theorem c_never {x : Str} {st : Stmt} {ps : List Str} {k : Nat} (d : Dd K mg x st ps) : C8.Cal P w K mg base k x spNever [] := by
  obtain ⟨f, fd, F, b⟩ := d.ex
  exact ⟨f, fd, ps, [], ⟨fun _ _ _ _ z => z.elim, fun _ _ _ _ _ _ _ _ _ _ _ _ _ z => z.elim⟩, F.mgf, F.kp, b, .nil⟩
end
end Esc

/-! _law_alike, of all data. -/
namespace Esc
open PySem PySem.Spec PyProof.Rows L2
structure Blt2 (mg : Str → Option Value) : Prop where
  bool_ : mg "bool" = none
  str_ : mg "str" = none
theorem i_isi {K : PySem.W.Frag} {H : Hp} {Q : VK} {x : V} {t : Value} {n : String} {b : Bool} (ty : TyX K H x t) (e : PySem.W.kitOne K t (.type n) = some b) (q : Q (.bl b) H) : rIsi K [x, .ty n] H Q := ⟨x, _, t, _, b, rfl, .ty n, ty, e, q⟩
theorem i_eqI {K : PySem.W.Frag} {H : Hp} {Q : VK} {a b : Int} (q : Q (.bl (decide (a = b))) H) : rEqD K (.int a) (.int b) H Q :=
  ⟨_, _, .int a, .int b, by simp [SeqAt.shaped, PyData.canLay0, PyData.depth], by simp [SeqAt.shaped, PyData.canLay0, PyData.depth], by
    rw [show PyData.eqv (.int a) (.int b) = decide (a = b) by by_cases h : a = b <;> simp [PyData.eqv, h]]
    exact q⟩
theorem i_eqS {K : PySem.W.Frag} {H : Hp} {Q : VK} {a b : Str} (oa : PyData.strOk a = true) (ob : PyData.strOk b = true) (q : Q (.bl (decide (a = b))) H) : rEqD K (.str a) (.str b) H Q :=
  ⟨_, _, .str a, .str b, by simp [SeqAt.shaped, PyData.canLay0, PyData.depth, oa], by simp [SeqAt.shaped, PyData.canLay0, PyData.depth, ob], by
    rw [show PyData.eqv (.str a) (.str b) = decide (a = b) by by_cases h : a = b <;> simp [PyData.eqv, h]]
    exact q⟩
theorem i_eqB {K : PySem.W.Frag} {H : Hp} {Q : VK} {a b : Bool} (q : Q (.bl (decide (a = b))) H) : rEqD K (.bl a) (.bl b) H Q :=
  ⟨_, _, .bl a, .bl b, by simp [SeqAt.shaped, PyData.canLay0, PyData.depth], by simp [SeqAt.shaped, PyData.canLay0, PyData.depth], by
    rw [show PyData.eqv (.bool a) (.bool b) = decide (a = b) by by_cases h : a = b <;> simp [PyData.eqv, h]]
    exact q⟩
mutual
/-- the same, sorts told apart -/
def sameD : PyData → PyData → Bool
  | .none, .none => true
  | .bool a, .bool b => decide (a = b)
  | .int a, .int b => decide (a = b)
  | .str a, .str b => decide (a = b)
  | .list xs, .list ys => sameAll xs ys
  | .tuple xs, .tuple ys => sameAll xs ys
  | _, _ => false
def sameAll : List PyData → List PyData → Bool
  | [], [] => true
  | x :: xs, y :: ys => sameD x y && sameAll xs ys
  | _, _ => false
end
mutual
/-- rows that are not too long -/
def SmallD : PyData → Prop
  | .list xs => xs.length ≤ 50000 ∧ SmallAll xs
  | .tuple xs => xs.length ≤ 50000 ∧ SmallAll xs
  | _ => True
def SmallAll : List PyData → Prop
  | [] => True
  | x :: xs => SmallD x ∧ SmallAll xs
end
theorem sameAll_len : ∀ {xs ys : List PyData}, xs.length ≠ ys.length → sameAll xs ys = false
  | [], [], h => absurd rfl h
  | [], _ :: _, _ => by simp [sameAll]
  | _ :: _, [], _ => by simp [sameAll]
  | x :: xs, y :: ys, h => by
    rw [sameAll, sameAll_len (by simpa using h), Bool.and_false]
theorem sameAll_all : ∀ {xs ys : List PyData}, xs.length = ys.length → sameAll xs ys = ((List.range ys.length).map fun i => sameD (xs.getD i .none) (ys.getD i .none)).all id
  | [], [], _ => by rw [sameAll]; rfl
  | [], _ :: _, h => by simp at h
  | _ :: _, [], h => by simp at h
  | x :: xs, y :: ys, h => by
    rw [sameAll, sameAll_all (xs := xs) (ys := ys) (by simpa using h), List.length_cons, List.range_succ_eq_map, List.map_cons, List.all_cons, List.map_map]
    rfl
theorem SmallAll.get : ∀ {xs : List PyData}, SmallAll xs → ∀ (i : Nat) (h : i < xs.length), SmallD xs[i]
  | x :: xs, h, 0, _ => h.1
  | x :: xs, h, i + 1, l => SmallAll.get h.2 i (by simpa using l)
theorem depth_get : ∀ {xs : List PyData} {n : Nat}, PyData.depthAll xs ≤ n → ∀ (i : Nat) (h : i < xs.length), (xs[i]).depth ≤ n
  | x :: xs, n, h, 0, _ => by
    rw [PyData.depthAll] at h
    show x.depth ≤ n
    omega
  | x :: xs, n, h, i + 1, l => by
    rw [PyData.depthAll] at h
    exact depth_get (xs := xs) (n := n) (by omega) i (by simpa using l)
theorem dpa_len {K : PySem.W.Frag} {H : Hp} : ∀ {vs : List V} {ds : List PyData}, DpAll K H vs ds → vs.length = ds.length
  | _, _, .nil => rfl
  | _, _, .cons _ a => congrArg (· + 1) (dpa_len a)
theorem dpa_get {K : PySem.W.Frag} {H : Hp} : ∀ {vs : List V} {ds : List PyData}, DpAll K H vs ds → ∀ (i : Nat) (h : i < ds.length), ∃ v, vs[i]? = some v ∧ Dp K H v ds[i]
  | _, _, .nil, i, h => by simp at h
  | _, _, .cons (v := v) d a, 0, _ => ⟨v, rfl, d⟩
  | _, _, .cons d a, i + 1, h => dpa_get a i (by simpa using h)
theorem tyx_lst {K : PySem.W.Frag} {H : Hp} {a : Addr} {xs : List V} (h : H a = some (.lst xs)) : TyX K H (.ref a) (.type "list") := .base (.lst h)
/-- data whose lists and tuples stand in the heap -/
inductive Dh (H : Hp) : V → PyData → Prop
  | non : Dh H .non .none
  | bl (b : Bool) : Dh H (.bl b) (.bool b)
  | int (i : Int) : Dh H (.int i) (.int i)
  | str (s : Str) (ok : PyData.strOk s = true) : Dh H (.str s) (.str s)
  | lst {a : Addr} {xs : List V} {ds : List PyData} : H a = some (.lst xs) → xs.length = ds.length → (∀ (i : Nat) (h : i < ds.length) (v : V), xs[i]? = some v → Dh H v ds[i]) → Dh H (.ref a) (.list ds)
  | tup {a : Addr} {xs : List V} {ds : List PyData} : H a = some (.tup xs) → xs.length = ds.length → (∀ (i : Nat) (h : i < ds.length) (v : V), xs[i]? = some v → Dh H v ds[i]) → Dh H (.ref a) (.tuple ds)
theorem Dh.same {H H' : Hp} (s : Same H H') : ∀ {v : V} {d : PyData}, Dh H v d → Dh H' v d := fun h => by
  induction h with
  | non => exact .non
  | bl b => exact .bl b
  | int i => exact .int i
  | str z ok => exact .str z ok
  | lst h l _ ih => exact .lst (s _ _ h) l ih
  | tup h l _ ih => exact .tup (s _ _ h) l ih
theorem dh_ints {H : Hp} {a : Addr} {ns : List Int} (h : H a = some (.lst (ns.map V.int))) : Dh H (.ref a) (.list (ns.map PyData.int)) := .lst h (by rw [List.length_map, List.length_map]) fun i hi v hv => by
  rw [List.length_map] at hi
  rw [List.getElem?_map, List.getElem?_eq_getElem hi] at hv
  cases hv
  rw [List.getElem_map]
  exact .int _
theorem depth_ints' (ns : List Int) : (PyData.list (ns.map PyData.int)).depth ≤ 1 := by
  rw [PyData.depth, depth_ints]
  decide
theorem small_intsA : ∀ ns : List Int, SmallAll (ns.map PyData.int)
  | [] => trivial
  | _ :: ns => ⟨trivial, small_intsA ns⟩
theorem small_ints {ns : List Int} (h : ns.length ≤ 50000) : SmallD (.list (ns.map PyData.int)) := ⟨by rw [List.length_map]; exact h, small_intsA ns⟩
theorem same_intsA : ∀ xs ys : List Int, sameAll (xs.map PyData.int) (ys.map PyData.int) = decide (xs = ys)
  | [], [] => by rw [List.map_nil, sameAll]; rfl
  | [], y :: ys => by
    rw [decide_eq_false (by intro z; cases z)]
    exact sameAll_len (by simp)
  | x :: xs, [] => by
    rw [decide_eq_false (by intro z; cases z)]
    exact sameAll_len (by simp)
  | x :: xs, y :: ys => by
    rw [List.map_cons, List.map_cons, sameAll, same_intsA xs ys, sameD]
    by_cases h : x = y
    · by_cases h2 : xs = ys
      · simp [h, h2]
      · simp [h, h2]
    · simp [h]
mutual
/-- without dicts -/
def NoDict : PyData → Prop
  | .dict _ => False
  | .list xs => NoDictA xs
  | .tuple xs => NoDictA xs
  | _ => True
def NoDictA : List PyData → Prop
  | [] => True
  | x :: xs => NoDict x ∧ NoDictA xs
end
mutual
theorem sameD_refl : ∀ d : PyData, NoDict d → sameD d d = true
  | .none, _ => by rw [sameD]
  | .bool b, _ => by rw [sameD]; exact decide_eq_true rfl
  | .int i, _ => by rw [sameD]; exact decide_eq_true rfl
  | .str s, _ => by rw [sameD]; exact decide_eq_true rfl
  | .list xs, h => by rw [sameD]; exact sameAll_refl xs h
  | .tuple xs, h => by rw [sameD]; exact sameAll_refl xs h
  | .dict _, h => h.elim
theorem sameAll_refl : ∀ xs : List PyData, NoDictA xs → sameAll xs xs = true
  | [], _ => by rw [sameAll]
  | x :: xs, h => by rw [sameAll, sameD_refl x h.1, sameAll_refl xs h.2]; rfl
end
section
variable {P : Program} {w : World} {K : PySem.W.Frag} {mg : Str → Option Value} {base : Heap}
def spAlikeD (n : Nat) : Sp := fun vs H Q _ => ∃ (u v : V) (d1 d2 : PyData), vs = [u, v] ∧ Dh H u d1 ∧ Dh H v d2 ∧ SmallD d2 ∧ d2.depth ≤ n ∧ ∀ H', Same H H' → Q (.bl (sameD d1 d2)) H'
theorem bools_map (f : Nat → Bool) (n : Nat) : (List.range n).filterMap (fun i => some (V.bl (f i))) = ((List.range n).map f).map V.bl := by
  rw [List.map_map, ← List.filterMap_eq_map]
  rfl
theorem c_alikeD (Z : Blt mg) (Z2 : Blt2 mg) (d : Dd K mg "_law_alike" s__law_alike P__law_alike) : ∀ n : Nat, C8.Cal P w K mg base (n + 1) "_law_alike" (spAlikeD n) [] := by
  have step : ∀ n : Nat, (C8.Cal P w K mg base n "_law_alike" (fun vs H Q E => match n with | 0 => False | m + 1 => spAlikeD m vs H Q E) []) → C8.Cal P w K mg base (n + 1) "_law_alike" (spAlikeD n) [] := fun n c__law_alike => by
    refine d.cal sc__law_alike (fun vs H Q E h => ?_) (fun f cdv A outer s H vs Q E hr h => ?_)
    · obtain ⟨u, v, d1, d2, rfl, _⟩ := h
      rfl
    · obtain ⟨u, v, d1, d2, rfl, h1, h2, hsm, hdp, q⟩ := h
      have nd := sc__law_alike.nd
      have hr0 := hr
      cases h2 with
      | non =>
        refine ⟨_, (pss_cons (ps_if (pt_cmpR k_isN (pv 1) pe_non (nomark _)) (pss_one (ps_ret (pe_cmpR k_isN (pv 0) pe_non (nomark _)))) pss_nil)
  (pss_cons (ps_if (pt_val (pe_callB call_isi (by rfl) Z.isinstance_ (by decide +kernel) (pa_cons (pv 1) (pa_cons (pe_bltn (v := .ty "bool") (u := .type "bool") (by rfl) Z2.bool_ (by decide +kernel) rfl) pa_nil)))) (pss_one (ps_ret (pe_and (pe_callB call_isi (by rfl) Z.isinstance_ (by decide +kernel) (pa_cons (pv 0) (pa_cons (pe_bltn (v := .ty "bool") (u := .type "bool") (by rfl) Z2.bool_ (by decide +kernel) rfl) pa_nil))) (pe_one (pe_cmpR (op_eqD hr.units) (pv 0) (pv 1) (nomark _)))))) pss_nil)
  (pss_cons (ps_if (pt_val (pe_callB call_isi (by rfl) Z.isinstance_ (by decide +kernel) (pa_cons (pv 1) (pa_cons (pe_bltn (v := .ty "int") (u := .type "int") (by rfl) Z.int_ (by decide +kernel) rfl) pa_nil)))) (pss_one (ps_ret (pe_and (pe_callB call_isi (by rfl) Z.isinstance_ (by decide +kernel) (pa_cons (pv 0) (pa_cons (pe_bltn (v := .ty "int") (u := .type "int") (by rfl) Z.int_ (by decide +kernel) rfl) pa_nil))) (pe_and (pe_not (pe_callB call_isi (by rfl) Z.isinstance_ (by decide +kernel) (pa_cons (pv 0) (pa_cons (pe_bltn (v := .ty "bool") (u := .type "bool") (by rfl) Z2.bool_ (by decide +kernel) rfl) pa_nil)))) (pe_one (pe_cmpR (op_eqD hr.units) (pv 0) (pv 1) (nomark _))))))) pss_nil)
  (pss_cons (ps_if (pt_val (pe_callB call_isi (by rfl) Z.isinstance_ (by decide +kernel) (pa_cons (pv 1) (pa_cons (pe_bltn (v := .ty "str") (u := .type "str") (by rfl) Z2.str_ (by decide +kernel) rfl) pa_nil)))) (pss_one (ps_ret (pe_and (pe_callB call_isi (by rfl) Z.isinstance_ (by decide +kernel) (pa_cons (pv 0) (pa_cons (pe_bltn (v := .ty "str") (u := .type "str") (by rfl) Z2.str_ (by decide +kernel) rfl) pa_nil))) (pe_one (pe_cmpR (op_eqD hr.units) (pv 0) (pv 1) (nomark _)))))) pss_nil)
  (pss_cons (ps_if (PW.pt (pw_or (pt_cmpR op_ne (pe_callB call_isi (by rfl) Z.isinstance_ (by decide +kernel) (pa_cons (pv 1) (pa_cons (pe_bltn (v := .ty "tuple") (u := .type "tuple") (by rfl) Z.tuple_ (by decide +kernel) rfl) pa_nil))) (pe_callB call_isi (by rfl) Z.isinstance_ (by decide +kernel) (pa_cons (pv 0) (pa_cons (pe_bltn (v := .ty "tuple") (u := .type "tuple") (by rfl) Z.tuple_ (by decide +kernel) rfl) pa_nil))) (nomark _)) (pw_or1 (pt_cmpR op_ne (pe_callB call_isi (by rfl) Z.isinstance_ (by decide +kernel) (pa_cons (pv 1) (pa_cons (pe_bltn (v := .ty "list") (u := .type "list") (by rfl) Z.list_ (by decide +kernel) rfl) pa_nil))) (pe_callB call_isi (by rfl) Z.isinstance_ (by decide +kernel) (pa_cons (pv 0) (pa_cons (pe_bltn (v := .ty "list") (u := .type "list") (by rfl) Z.list_ (by decide +kernel) rfl) pa_nil))) (nomark _))))) (pss_one (ps_ret pe_bl)) pss_nil)
  (pss_cons (ps_if (pt_cmpR op_ne (pe_callB k_len (by rfl) Z.len_ (by decide +kernel) (pa_cons (pv 0) pa_nil)) (pe_callB k_len (by rfl) Z.len_ (by decide +kernel) (pa_cons (pv 1) pa_nil)) (nomark _)) (pss_one (ps_ret pe_bl)) pss_nil)
  (pss_one (ps_ret (pe_callB (cr_all rfl) (by rfl) Z.all_ (by decide +kernel) (pa_cons (pe_lc (own := [("_law_k", 2)]) (g := gName 2) (tt := tYes) rfl nd (pi_range1 rfl Z.range_ (pa_cons (pe_callB k_len (by rfl) Z.len_ (by decide +kernel) (pa_cons (pv 1) pa_nil)) pa_nil)) (blkOk_by (N := N__law_alike) (sc := C8.fnScope s__law_alike) (own := [("_law_k", 2)]) (by decide +kernel)) (fun _ _ _ _ _ => (pg_name (i := 2) nd rfl (Or.inl rfl))) (fun _ _ _ _ _ => pts_nil) (fun _ _ _ _ _ => (C8.pe_c c__law_alike hr (Nat.le_refl _) (by rfl) (pa_cons (pe_ix (show IxR _ (rIxL K) from ix_list) (pv 0) (pv 2) (fun _ _ => rfl)) (pa_cons (pe_ix (show IxR _ (rIxL K) from ix_list) (pv 1) (pv 2) (fun _ _ => rfl)) pa_nil))))) pa_nil)))))))))), ?_⟩
        refine i_start (σ' := [some u, some .non, none]) rfl ?_
        walk_at "go"
        walk_at "r"
        refine i_yes rfl ?_
        walk_at "r"
        have e : sameD d1 .none = decide (u = .non) := by
          cases h1 <;> first | (rw [sameD, decide_eq_true rfl]) | (rw [decide_eq_false (by intro z; cases z)]; rfl) | rfl
        rw [← e]
        exact q H (Same.refl _)
      | bl b =>
        refine ⟨_, (pss_cons (ps_if (pt_cmpR k_isN (pv 1) pe_non (nomark _)) (pss_one (ps_ret (pe_cmpR k_isN (pv 0) pe_non (nomark _)))) pss_nil)
  (pss_cons (ps_if (pt_val (pe_callB call_isi (by rfl) Z.isinstance_ (by decide +kernel) (pa_cons (pv 1) (pa_cons (pe_bltn (v := .ty "bool") (u := .type "bool") (by rfl) Z2.bool_ (by decide +kernel) rfl) pa_nil)))) (pss_one (ps_ret (pe_and (pe_callB call_isi (by rfl) Z.isinstance_ (by decide +kernel) (pa_cons (pv 0) (pa_cons (pe_bltn (v := .ty "bool") (u := .type "bool") (by rfl) Z2.bool_ (by decide +kernel) rfl) pa_nil))) (pe_one (pe_cmpR (op_eqD hr.units) (pv 0) (pv 1) (nomark _)))))) pss_nil)
  (pss_cons (ps_if (pt_val (pe_callB call_isi (by rfl) Z.isinstance_ (by decide +kernel) (pa_cons (pv 1) (pa_cons (pe_bltn (v := .ty "int") (u := .type "int") (by rfl) Z.int_ (by decide +kernel) rfl) pa_nil)))) (pss_one (ps_ret (pe_and (pe_callB call_isi (by rfl) Z.isinstance_ (by decide +kernel) (pa_cons (pv 0) (pa_cons (pe_bltn (v := .ty "int") (u := .type "int") (by rfl) Z.int_ (by decide +kernel) rfl) pa_nil))) (pe_and (pe_not (pe_callB call_isi (by rfl) Z.isinstance_ (by decide +kernel) (pa_cons (pv 0) (pa_cons (pe_bltn (v := .ty "bool") (u := .type "bool") (by rfl) Z2.bool_ (by decide +kernel) rfl) pa_nil)))) (pe_one (pe_cmpR (op_eqD hr.units) (pv 0) (pv 1) (nomark _))))))) pss_nil)
  (pss_cons (ps_if (pt_val (pe_callB call_isi (by rfl) Z.isinstance_ (by decide +kernel) (pa_cons (pv 1) (pa_cons (pe_bltn (v := .ty "str") (u := .type "str") (by rfl) Z2.str_ (by decide +kernel) rfl) pa_nil)))) (pss_one (ps_ret (pe_and (pe_callB call_isi (by rfl) Z.isinstance_ (by decide +kernel) (pa_cons (pv 0) (pa_cons (pe_bltn (v := .ty "str") (u := .type "str") (by rfl) Z2.str_ (by decide +kernel) rfl) pa_nil))) (pe_one (pe_cmpR (op_eqD hr.units) (pv 0) (pv 1) (nomark _)))))) pss_nil)
  (pss_cons (ps_if (PW.pt (pw_or (pt_cmpR op_ne (pe_callB call_isi (by rfl) Z.isinstance_ (by decide +kernel) (pa_cons (pv 1) (pa_cons (pe_bltn (v := .ty "tuple") (u := .type "tuple") (by rfl) Z.tuple_ (by decide +kernel) rfl) pa_nil))) (pe_callB call_isi (by rfl) Z.isinstance_ (by decide +kernel) (pa_cons (pv 0) (pa_cons (pe_bltn (v := .ty "tuple") (u := .type "tuple") (by rfl) Z.tuple_ (by decide +kernel) rfl) pa_nil))) (nomark _)) (pw_or1 (pt_cmpR op_ne (pe_callB call_isi (by rfl) Z.isinstance_ (by decide +kernel) (pa_cons (pv 1) (pa_cons (pe_bltn (v := .ty "list") (u := .type "list") (by rfl) Z.list_ (by decide +kernel) rfl) pa_nil))) (pe_callB call_isi (by rfl) Z.isinstance_ (by decide +kernel) (pa_cons (pv 0) (pa_cons (pe_bltn (v := .ty "list") (u := .type "list") (by rfl) Z.list_ (by decide +kernel) rfl) pa_nil))) (nomark _))))) (pss_one (ps_ret pe_bl)) pss_nil)
  (pss_cons (ps_if (pt_cmpR op_ne (pe_callB k_len (by rfl) Z.len_ (by decide +kernel) (pa_cons (pv 0) pa_nil)) (pe_callB k_len (by rfl) Z.len_ (by decide +kernel) (pa_cons (pv 1) pa_nil)) (nomark _)) (pss_one (ps_ret pe_bl)) pss_nil)
  (pss_one (ps_ret (pe_callB (cr_all rfl) (by rfl) Z.all_ (by decide +kernel) (pa_cons (pe_lc (own := [("_law_k", 2)]) (g := gName 2) (tt := tYes) rfl nd (pi_range1 rfl Z.range_ (pa_cons (pe_callB k_len (by rfl) Z.len_ (by decide +kernel) (pa_cons (pv 1) pa_nil)) pa_nil)) (blkOk_by (N := N__law_alike) (sc := C8.fnScope s__law_alike) (own := [("_law_k", 2)]) (by decide +kernel)) (fun _ _ _ _ _ => (pg_name (i := 2) nd rfl (Or.inl rfl))) (fun _ _ _ _ _ => pts_nil) (fun _ _ _ _ _ => (C8.pe_c c__law_alike hr (Nat.le_refl _) (by rfl) (pa_cons (pe_ix (show IxR _ (rIxL K) from ix_list) (pv 0) (pv 2) (fun _ _ => rfl)) (pa_cons (pe_ix (show IxR _ (rIxL K) from ix_list) (pv 1) (pv 2) (fun _ _ => rfl)) pa_nil))))) pa_nil)))))))))), ?_⟩
        refine i_start (σ' := [some u, some (.bl b), none]) rfl ?_
        walk_at "go"
        walk_at "r"
        refine i_no (by intro z; cases z) ?_
        walk_at "r"
        refine i_isi (b := true) (.base (.bl b)) (by rfl) ?_
        walk_at "r"
        cases h1 with
        | non =>
          refine i_isi (b := false) (.base .non) (by rfl) ?_
          walk_at "r"
          exact q H (Same.refl _)
        | bl c =>
          refine i_isi (b := true) (.base (.bl c)) (by rfl) ?_
          walk_at "r"
          refine i_eqB ?_
          exact q H (Same.refl _)
        | int i =>
          refine i_isi (b := false) (.base (.int i)) (by rfl) ?_
          walk_at "r"
          exact q H (Same.refl _)
        | str z oz =>
          refine i_isi (b := false) (.base (.str z)) (by rfl) ?_
          walk_at "r"
          exact q H (Same.refl _)
        | lst ha la ia =>
          refine i_isi (b := false) (.base (.lst ha)) (by rfl) ?_
          walk_at "r"
          exact q H (Same.refl _)
        | tup ha la ia =>
          refine i_isi (b := false) (.base (.tup ha)) (by rfl) ?_
          walk_at "r"
          exact q H (Same.refl _)
      | int i =>
        refine ⟨_, (pss_cons (ps_if (pt_cmpR k_isN (pv 1) pe_non (nomark _)) (pss_one (ps_ret (pe_cmpR k_isN (pv 0) pe_non (nomark _)))) pss_nil)
  (pss_cons (ps_if (pt_val (pe_callB call_isi (by rfl) Z.isinstance_ (by decide +kernel) (pa_cons (pv 1) (pa_cons (pe_bltn (v := .ty "bool") (u := .type "bool") (by rfl) Z2.bool_ (by decide +kernel) rfl) pa_nil)))) (pss_one (ps_ret (pe_and (pe_callB call_isi (by rfl) Z.isinstance_ (by decide +kernel) (pa_cons (pv 0) (pa_cons (pe_bltn (v := .ty "bool") (u := .type "bool") (by rfl) Z2.bool_ (by decide +kernel) rfl) pa_nil))) (pe_one (pe_cmpR (op_eqD hr.units) (pv 0) (pv 1) (nomark _)))))) pss_nil)
  (pss_cons (ps_if (pt_val (pe_callB call_isi (by rfl) Z.isinstance_ (by decide +kernel) (pa_cons (pv 1) (pa_cons (pe_bltn (v := .ty "int") (u := .type "int") (by rfl) Z.int_ (by decide +kernel) rfl) pa_nil)))) (pss_one (ps_ret (pe_and (pe_callB call_isi (by rfl) Z.isinstance_ (by decide +kernel) (pa_cons (pv 0) (pa_cons (pe_bltn (v := .ty "int") (u := .type "int") (by rfl) Z.int_ (by decide +kernel) rfl) pa_nil))) (pe_and (pe_not (pe_callB call_isi (by rfl) Z.isinstance_ (by decide +kernel) (pa_cons (pv 0) (pa_cons (pe_bltn (v := .ty "bool") (u := .type "bool") (by rfl) Z2.bool_ (by decide +kernel) rfl) pa_nil)))) (pe_one (pe_cmpR (op_eqD hr.units) (pv 0) (pv 1) (nomark _))))))) pss_nil)
  (pss_cons (ps_if (pt_val (pe_callB call_isi (by rfl) Z.isinstance_ (by decide +kernel) (pa_cons (pv 1) (pa_cons (pe_bltn (v := .ty "str") (u := .type "str") (by rfl) Z2.str_ (by decide +kernel) rfl) pa_nil)))) (pss_one (ps_ret (pe_and (pe_callB call_isi (by rfl) Z.isinstance_ (by decide +kernel) (pa_cons (pv 0) (pa_cons (pe_bltn (v := .ty "str") (u := .type "str") (by rfl) Z2.str_ (by decide +kernel) rfl) pa_nil))) (pe_one (pe_cmpR (op_eqD hr.units) (pv 0) (pv 1) (nomark _)))))) pss_nil)
  (pss_cons (ps_if (PW.pt (pw_or (pt_cmpR op_ne (pe_callB call_isi (by rfl) Z.isinstance_ (by decide +kernel) (pa_cons (pv 1) (pa_cons (pe_bltn (v := .ty "tuple") (u := .type "tuple") (by rfl) Z.tuple_ (by decide +kernel) rfl) pa_nil))) (pe_callB call_isi (by rfl) Z.isinstance_ (by decide +kernel) (pa_cons (pv 0) (pa_cons (pe_bltn (v := .ty "tuple") (u := .type "tuple") (by rfl) Z.tuple_ (by decide +kernel) rfl) pa_nil))) (nomark _)) (pw_or1 (pt_cmpR op_ne (pe_callB call_isi (by rfl) Z.isinstance_ (by decide +kernel) (pa_cons (pv 1) (pa_cons (pe_bltn (v := .ty "list") (u := .type "list") (by rfl) Z.list_ (by decide +kernel) rfl) pa_nil))) (pe_callB call_isi (by rfl) Z.isinstance_ (by decide +kernel) (pa_cons (pv 0) (pa_cons (pe_bltn (v := .ty "list") (u := .type "list") (by rfl) Z.list_ (by decide +kernel) rfl) pa_nil))) (nomark _))))) (pss_one (ps_ret pe_bl)) pss_nil)
  (pss_cons (ps_if (pt_cmpR op_ne (pe_callB k_len (by rfl) Z.len_ (by decide +kernel) (pa_cons (pv 0) pa_nil)) (pe_callB k_len (by rfl) Z.len_ (by decide +kernel) (pa_cons (pv 1) pa_nil)) (nomark _)) (pss_one (ps_ret pe_bl)) pss_nil)
  (pss_one (ps_ret (pe_callB (cr_all rfl) (by rfl) Z.all_ (by decide +kernel) (pa_cons (pe_lc (own := [("_law_k", 2)]) (g := gName 2) (tt := tYes) rfl nd (pi_range1 rfl Z.range_ (pa_cons (pe_callB k_len (by rfl) Z.len_ (by decide +kernel) (pa_cons (pv 1) pa_nil)) pa_nil)) (blkOk_by (N := N__law_alike) (sc := C8.fnScope s__law_alike) (own := [("_law_k", 2)]) (by decide +kernel)) (fun _ _ _ _ _ => (pg_name (i := 2) nd rfl (Or.inl rfl))) (fun _ _ _ _ _ => pts_nil) (fun _ _ _ _ _ => (C8.pe_c c__law_alike hr (Nat.le_refl _) (by rfl) (pa_cons (pe_ix (show IxR _ (rIxL K) from ix_list) (pv 0) (pv 2) (fun _ _ => rfl)) (pa_cons (pe_ix (show IxR _ (rIxL K) from ix_list) (pv 1) (pv 2) (fun _ _ => rfl)) pa_nil))))) pa_nil)))))))))), ?_⟩
        refine i_start (σ' := [some u, some (.int i), none]) rfl ?_
        walk_at "go"
        walk_at "r"
        refine i_no (by intro z; cases z) ?_
        walk_at "r"
        refine i_isi (b := false) (.base (.int i)) (by rfl) ?_
        walk_at "r"
        refine i_isi (b := true) (.base (.int i)) (by rfl) ?_
        walk_at "r"
        cases h1 with
        | non =>
          refine i_isi (b := false) (.base .non) (by rfl) ?_
          walk_at "r"
          exact q H (Same.refl _)
        | bl c =>
          refine i_isi (b := true) (.base (.bl c)) (by rfl) ?_
          walk_at "r"
          refine i_isi (b := true) (.base (.bl c)) (by rfl) ?_
          walk_at "r"
          exact q H (Same.refl _)
        | int j =>
          refine i_isi (b := true) (.base (.int j)) (by rfl) ?_
          walk_at "r"
          refine i_isi (b := false) (.base (.int j)) (by rfl) ?_
          walk_at "r"
          refine i_eqI ?_
          exact q H (Same.refl _)
        | str z oz =>
          refine i_isi (b := false) (.base (.str z)) (by rfl) ?_
          walk_at "r"
          exact q H (Same.refl _)
        | lst ha la ia =>
          refine i_isi (b := false) (.base (.lst ha)) (by rfl) ?_
          walk_at "r"
          exact q H (Same.refl _)
        | tup ha la ia =>
          refine i_isi (b := false) (.base (.tup ha)) (by rfl) ?_
          walk_at "r"
          exact q H (Same.refl _)
      | str i oi =>
        refine ⟨_, (pss_cons (ps_if (pt_cmpR k_isN (pv 1) pe_non (nomark _)) (pss_one (ps_ret (pe_cmpR k_isN (pv 0) pe_non (nomark _)))) pss_nil)
  (pss_cons (ps_if (pt_val (pe_callB call_isi (by rfl) Z.isinstance_ (by decide +kernel) (pa_cons (pv 1) (pa_cons (pe_bltn (v := .ty "bool") (u := .type "bool") (by rfl) Z2.bool_ (by decide +kernel) rfl) pa_nil)))) (pss_one (ps_ret (pe_and (pe_callB call_isi (by rfl) Z.isinstance_ (by decide +kernel) (pa_cons (pv 0) (pa_cons (pe_bltn (v := .ty "bool") (u := .type "bool") (by rfl) Z2.bool_ (by decide +kernel) rfl) pa_nil))) (pe_one (pe_cmpR (op_eqD hr.units) (pv 0) (pv 1) (nomark _)))))) pss_nil)
  (pss_cons (ps_if (pt_val (pe_callB call_isi (by rfl) Z.isinstance_ (by decide +kernel) (pa_cons (pv 1) (pa_cons (pe_bltn (v := .ty "int") (u := .type "int") (by rfl) Z.int_ (by decide +kernel) rfl) pa_nil)))) (pss_one (ps_ret (pe_and (pe_callB call_isi (by rfl) Z.isinstance_ (by decide +kernel) (pa_cons (pv 0) (pa_cons (pe_bltn (v := .ty "int") (u := .type "int") (by rfl) Z.int_ (by decide +kernel) rfl) pa_nil))) (pe_and (pe_not (pe_callB call_isi (by rfl) Z.isinstance_ (by decide +kernel) (pa_cons (pv 0) (pa_cons (pe_bltn (v := .ty "bool") (u := .type "bool") (by rfl) Z2.bool_ (by decide +kernel) rfl) pa_nil)))) (pe_one (pe_cmpR (op_eqD hr.units) (pv 0) (pv 1) (nomark _))))))) pss_nil)
  (pss_cons (ps_if (pt_val (pe_callB call_isi (by rfl) Z.isinstance_ (by decide +kernel) (pa_cons (pv 1) (pa_cons (pe_bltn (v := .ty "str") (u := .type "str") (by rfl) Z2.str_ (by decide +kernel) rfl) pa_nil)))) (pss_one (ps_ret (pe_and (pe_callB call_isi (by rfl) Z.isinstance_ (by decide +kernel) (pa_cons (pv 0) (pa_cons (pe_bltn (v := .ty "str") (u := .type "str") (by rfl) Z2.str_ (by decide +kernel) rfl) pa_nil))) (pe_one (pe_cmpR (op_eqD hr.units) (pv 0) (pv 1) (nomark _)))))) pss_nil)
  (pss_cons (ps_if (PW.pt (pw_or (pt_cmpR op_ne (pe_callB call_isi (by rfl) Z.isinstance_ (by decide +kernel) (pa_cons (pv 1) (pa_cons (pe_bltn (v := .ty "tuple") (u := .type "tuple") (by rfl) Z.tuple_ (by decide +kernel) rfl) pa_nil))) (pe_callB call_isi (by rfl) Z.isinstance_ (by decide +kernel) (pa_cons (pv 0) (pa_cons (pe_bltn (v := .ty "tuple") (u := .type "tuple") (by rfl) Z.tuple_ (by decide +kernel) rfl) pa_nil))) (nomark _)) (pw_or1 (pt_cmpR op_ne (pe_callB call_isi (by rfl) Z.isinstance_ (by decide +kernel) (pa_cons (pv 1) (pa_cons (pe_bltn (v := .ty "list") (u := .type "list") (by rfl) Z.list_ (by decide +kernel) rfl) pa_nil))) (pe_callB call_isi (by rfl) Z.isinstance_ (by decide +kernel) (pa_cons (pv 0) (pa_cons (pe_bltn (v := .ty "list") (u := .type "list") (by rfl) Z.list_ (by decide +kernel) rfl) pa_nil))) (nomark _))))) (pss_one (ps_ret pe_bl)) pss_nil)
  (pss_cons (ps_if (pt_cmpR op_ne (pe_callB k_len (by rfl) Z.len_ (by decide +kernel) (pa_cons (pv 0) pa_nil)) (pe_callB k_len (by rfl) Z.len_ (by decide +kernel) (pa_cons (pv 1) pa_nil)) (nomark _)) (pss_one (ps_ret pe_bl)) pss_nil)
  (pss_one (ps_ret (pe_callB (cr_all rfl) (by rfl) Z.all_ (by decide +kernel) (pa_cons (pe_lc (own := [("_law_k", 2)]) (g := gName 2) (tt := tYes) rfl nd (pi_range1 rfl Z.range_ (pa_cons (pe_callB k_len (by rfl) Z.len_ (by decide +kernel) (pa_cons (pv 1) pa_nil)) pa_nil)) (blkOk_by (N := N__law_alike) (sc := C8.fnScope s__law_alike) (own := [("_law_k", 2)]) (by decide +kernel)) (fun _ _ _ _ _ => (pg_name (i := 2) nd rfl (Or.inl rfl))) (fun _ _ _ _ _ => pts_nil) (fun _ _ _ _ _ => (C8.pe_c c__law_alike hr (Nat.le_refl _) (by rfl) (pa_cons (pe_ix (show IxR _ (rIxL K) from ix_list) (pv 0) (pv 2) (fun _ _ => rfl)) (pa_cons (pe_ix (show IxR _ (rIxL K) from ix_list) (pv 1) (pv 2) (fun _ _ => rfl)) pa_nil))))) pa_nil)))))))))), ?_⟩
        refine i_start (σ' := [some u, some (.str i), none]) rfl ?_
        walk_at "go"
        walk_at "r"
        refine i_no (by intro z; cases z) ?_
        walk_at "r"
        refine i_isi (b := false) (.base (.str i)) (by rfl) ?_
        walk_at "r"
        refine i_isi (b := false) (.base (.str i)) (by rfl) ?_
        walk_at "r"
        refine i_isi (b := true) (.base (.str i)) (by rfl) ?_
        walk_at "r"
        cases h1 with
        | non =>
          refine i_isi (b := false) (.base .non) (by rfl) ?_
          walk_at "r"
          exact q H (Same.refl _)
        | bl c =>
          refine i_isi (b := false) (.base (.bl c)) (by rfl) ?_
          walk_at "r"
          exact q H (Same.refl _)
        | int j =>
          refine i_isi (b := false) (.base (.int j)) (by rfl) ?_
          walk_at "r"
          exact q H (Same.refl _)
        | str z oz =>
          refine i_isi (b := true) (.base (.str z)) (by rfl) ?_
          walk_at "r"
          refine i_eqS oz oi ?_
          exact q H (Same.refl _)
        | lst ha la ia =>
          refine i_isi (b := false) (.base (.lst ha)) (by rfl) ?_
          walk_at "r"
          exact q H (Same.refl _)
        | tup ha la ia =>
          refine i_isi (b := false) (.base (.tup ha)) (by rfl) ?_
          walk_at "r"
          exact q H (Same.refl _)
      | @lst b ys ds2 hb lb ib =>
        have tb : TyX K H (.ref b) (.type "list") := .base (.lst hb)
        refine ⟨_, (pss_cons (ps_if (pt_cmpR k_isN (pv 1) pe_non (nomark _)) (pss_one (ps_ret (pe_cmpR k_isN (pv 0) pe_non (nomark _)))) pss_nil)
  (pss_cons (ps_if (pt_val (pe_callB call_isi (by rfl) Z.isinstance_ (by decide +kernel) (pa_cons (pv 1) (pa_cons (pe_bltn (v := .ty "bool") (u := .type "bool") (by rfl) Z2.bool_ (by decide +kernel) rfl) pa_nil)))) (pss_one (ps_ret (pe_and (pe_callB call_isi (by rfl) Z.isinstance_ (by decide +kernel) (pa_cons (pv 0) (pa_cons (pe_bltn (v := .ty "bool") (u := .type "bool") (by rfl) Z2.bool_ (by decide +kernel) rfl) pa_nil))) (pe_one (pe_cmpR (op_eqD hr.units) (pv 0) (pv 1) (nomark _)))))) pss_nil)
  (pss_cons (ps_if (pt_val (pe_callB call_isi (by rfl) Z.isinstance_ (by decide +kernel) (pa_cons (pv 1) (pa_cons (pe_bltn (v := .ty "int") (u := .type "int") (by rfl) Z.int_ (by decide +kernel) rfl) pa_nil)))) (pss_one (ps_ret (pe_and (pe_callB call_isi (by rfl) Z.isinstance_ (by decide +kernel) (pa_cons (pv 0) (pa_cons (pe_bltn (v := .ty "int") (u := .type "int") (by rfl) Z.int_ (by decide +kernel) rfl) pa_nil))) (pe_and (pe_not (pe_callB call_isi (by rfl) Z.isinstance_ (by decide +kernel) (pa_cons (pv 0) (pa_cons (pe_bltn (v := .ty "bool") (u := .type "bool") (by rfl) Z2.bool_ (by decide +kernel) rfl) pa_nil)))) (pe_one (pe_cmpR (op_eqD hr.units) (pv 0) (pv 1) (nomark _))))))) pss_nil)
  (pss_cons (ps_if (pt_val (pe_callB call_isi (by rfl) Z.isinstance_ (by decide +kernel) (pa_cons (pv 1) (pa_cons (pe_bltn (v := .ty "str") (u := .type "str") (by rfl) Z2.str_ (by decide +kernel) rfl) pa_nil)))) (pss_one (ps_ret (pe_and (pe_callB call_isi (by rfl) Z.isinstance_ (by decide +kernel) (pa_cons (pv 0) (pa_cons (pe_bltn (v := .ty "str") (u := .type "str") (by rfl) Z2.str_ (by decide +kernel) rfl) pa_nil))) (pe_one (pe_cmpR (op_eqD hr.units) (pv 0) (pv 1) (nomark _)))))) pss_nil)
  (pss_cons (ps_if (PW.pt (pw_or (pt_cmpR op_ne (pe_callB call_isi (by rfl) Z.isinstance_ (by decide +kernel) (pa_cons (pv 1) (pa_cons (pe_bltn (v := .ty "tuple") (u := .type "tuple") (by rfl) Z.tuple_ (by decide +kernel) rfl) pa_nil))) (pe_callB call_isi (by rfl) Z.isinstance_ (by decide +kernel) (pa_cons (pv 0) (pa_cons (pe_bltn (v := .ty "tuple") (u := .type "tuple") (by rfl) Z.tuple_ (by decide +kernel) rfl) pa_nil))) (nomark _)) (pw_or1 (pt_cmpR op_ne (pe_callB call_isi (by rfl) Z.isinstance_ (by decide +kernel) (pa_cons (pv 1) (pa_cons (pe_bltn (v := .ty "list") (u := .type "list") (by rfl) Z.list_ (by decide +kernel) rfl) pa_nil))) (pe_callB call_isi (by rfl) Z.isinstance_ (by decide +kernel) (pa_cons (pv 0) (pa_cons (pe_bltn (v := .ty "list") (u := .type "list") (by rfl) Z.list_ (by decide +kernel) rfl) pa_nil))) (nomark _))))) (pss_one (ps_ret pe_bl)) pss_nil)
  (pss_cons (ps_if (pt_cmpR op_ne (pe_callB k_len (by rfl) Z.len_ (by decide +kernel) (pa_cons (pv 0) pa_nil)) (pe_callB k_len (by rfl) Z.len_ (by decide +kernel) (pa_cons (pv 1) pa_nil)) (nomark _)) (pss_one (ps_ret pe_bl)) pss_nil)
  (pss_one (ps_ret (pe_callB (cr_all rfl) (by rfl) Z.all_ (by decide +kernel) (pa_cons (pe_lc (own := [("_law_k", 2)]) (g := gName 2) (tt := tYes) rfl nd (pi_range1 rfl Z.range_ (pa_cons (pe_callB k_len (by rfl) Z.len_ (by decide +kernel) (pa_cons (pv 1) pa_nil)) pa_nil)) (blkOk_by (N := N__law_alike) (sc := C8.fnScope s__law_alike) (own := [("_law_k", 2)]) (by decide +kernel)) (fun _ _ _ _ _ => (pg_name (i := 2) nd rfl (Or.inl rfl))) (fun _ _ _ _ _ => pts_nil) (fun _ _ _ _ _ => (C8.pe_c c__law_alike hr (Nat.le_refl _) (by rfl) (pa_cons (pe_ix (show IxR _ (rIxL K) from ix_list) (pv 0) (pv 2) (fun _ _ => rfl)) (pa_cons (pe_ix (show IxR _ (rIxL K) from ix_list) (pv 1) (pv 2) (fun _ _ => rfl)) pa_nil))))) pa_nil)))))))))), ?_⟩
        refine i_start (σ' := [some u, some (.ref b), none]) rfl ?_
        walk_at "go"
        walk_at "r"
        refine i_no (by intro z; cases z) ?_
        walk_at "r"
        refine i_isi (b := false) tb (by rfl) ?_
        walk_at "r"
        refine i_isi (b := false) tb (by rfl) ?_
        walk_at "r"
        refine i_isi (b := false) tb (by rfl) ?_
        walk_at "r"
        refine i_isi (b := false) tb (by rfl) ?_
        walk_at "r"
        cases h1 with
        | non =>
          refine i_isi (b := false) (.base .non) (by rfl) ?_
          walk_at "r"
          refine i_nyes rfl ?_
          walk_at "r"
          refine i_isi (b := true) tb (by rfl) ?_
          walk_at "r"
          refine i_isi (b := false) (.base .non) (by rfl) ?_
          walk_at "r"
          refine i_nno (by decide) ?_
          walk_at "r"
          exact q H (Same.refl _)
        | bl c =>
          refine i_isi (b := false) (.base (.bl c)) (by rfl) ?_
          walk_at "r"
          refine i_nyes rfl ?_
          walk_at "r"
          refine i_isi (b := true) tb (by rfl) ?_
          walk_at "r"
          refine i_isi (b := false) (.base (.bl c)) (by rfl) ?_
          walk_at "r"
          refine i_nno (by decide) ?_
          walk_at "r"
          exact q H (Same.refl _)
        | int c =>
          refine i_isi (b := false) (.base (.int c)) (by rfl) ?_
          walk_at "r"
          refine i_nyes rfl ?_
          walk_at "r"
          refine i_isi (b := true) tb (by rfl) ?_
          walk_at "r"
          refine i_isi (b := false) (.base (.int c)) (by rfl) ?_
          walk_at "r"
          refine i_nno (by decide) ?_
          walk_at "r"
          exact q H (Same.refl _)
        | str c oc =>
          refine i_isi (b := false) (.base (.str c)) (by rfl) ?_
          walk_at "r"
          refine i_nyes rfl ?_
          walk_at "r"
          refine i_isi (b := true) tb (by rfl) ?_
          walk_at "r"
          refine i_isi (b := false) (.base (.str c)) (by rfl) ?_
          walk_at "r"
          refine i_nno (by decide) ?_
          walk_at "r"
          exact q H (Same.refl _)
        | tup ha la ia =>
          refine i_isi (b := true) (.base (.tup ha)) (by rfl) ?_
          walk_at "r"
          refine i_nno (by decide) ?_
          walk_at "r"
          exact q H (Same.refl _)
        | @lst a xs ds1 ha la ia =>
          have ta : TyX K H (.ref a) (.type "list") := .base (.lst ha)
          refine i_isi (b := false) ta (by rfl) ?_
          walk_at "r"
          refine i_nyes rfl ?_
          walk_at "r"
          refine i_isi (b := true) tb (by rfl) ?_
          walk_at "r"
          refine i_isi (b := true) ta (by rfl) ?_
          walk_at "r"
          refine i_nyes rfl ?_
          walk_at "r"
          refine i_nbr (fun c => ?_) (fun c => ?_)
          case refine_2 =>
            walk_at "r"
            have e : sameD (.list ds1) (.list ds2) = false := by
              rw [sameD]
              exact sameAll_len (by omega)
            rw [e] at q
            exact q H (Same.refl _)
          have le : ds1.length = ds2.length := by omega
          have l5 : ds2.length ≤ 50000 := hsm.1
          walk_at "r"
          refine i_lcR (F := fun i => some (V.bl (sameD (ds1.getD i .none) (ds2.getD i .none)))) ⟨by omega, by omega⟩ (fun i hi H1 s1 QN QY hN hY => ?_) (fun p H1 hp s1 e1 => ?_)
          · have hi2 : i < ds2.length := by omega
            have hi1 : i < ds1.length := by omega
            have ha1 := s1 _ _ ha
            have hb1 := s1 _ _ hb
            have g1 : xs[i]? = some xs[i] := List.getElem?_eq_getElem (by omega)
            have g2 : ys[i]? = some ys[i] := List.getElem?_eq_getElem (by omega)
            have hat : atI xs (i : Int) = some xs[i] := atI_nat g1
            have hbt : atI ys (i : Int) = some ys[i] := atI_nat g2
            walk_at "r"
            cases n with
            | zero =>
              rw [PyData.depth] at hdp
              omega
            | succ m =>
              rw [PyData.depth] at hdp
              refine ⟨_, _, ds1[i], ds2[i], rfl, (ia i hi1 _ g1).same s1, (ib i hi2 _ g2).same s1, hsm.2.get i hi2, depth_get (by omega) i hi2, fun H2 s2 => ?_⟩
              refine hY _ ?_ _ s2
              rw [List.getD_eq_getElem?_getD, List.getD_eq_getElem?_getD, List.getElem?_eq_getElem hi1, List.getElem?_eq_getElem hi2]
              rfl
          · rw [bools_map, show ((ys.length : Nat) : Int).toNat = ds2.length by omega] at e1
            walk_at "r"
            refine i_all (sl_of e1) ?_
            rw [← sameAll_all le, show sameAll ds1 ds2 = sameD (.list ds1) (.list ds2) by rw [sameD]]
            exact q _ s1
      | @tup b ys ds2 hb lb ib =>
        have tb : TyX K H (.ref b) (.type "tuple") := .base (.tup hb)
        refine ⟨_, (pss_cons (ps_if (pt_cmpR k_isN (pv 1) pe_non (nomark _)) (pss_one (ps_ret (pe_cmpR k_isN (pv 0) pe_non (nomark _)))) pss_nil)
  (pss_cons (ps_if (pt_val (pe_callB call_isi (by rfl) Z.isinstance_ (by decide +kernel) (pa_cons (pv 1) (pa_cons (pe_bltn (v := .ty "bool") (u := .type "bool") (by rfl) Z2.bool_ (by decide +kernel) rfl) pa_nil)))) (pss_one (ps_ret (pe_and (pe_callB call_isi (by rfl) Z.isinstance_ (by decide +kernel) (pa_cons (pv 0) (pa_cons (pe_bltn (v := .ty "bool") (u := .type "bool") (by rfl) Z2.bool_ (by decide +kernel) rfl) pa_nil))) (pe_one (pe_cmpR (op_eqD hr.units) (pv 0) (pv 1) (nomark _)))))) pss_nil)
  (pss_cons (ps_if (pt_val (pe_callB call_isi (by rfl) Z.isinstance_ (by decide +kernel) (pa_cons (pv 1) (pa_cons (pe_bltn (v := .ty "int") (u := .type "int") (by rfl) Z.int_ (by decide +kernel) rfl) pa_nil)))) (pss_one (ps_ret (pe_and (pe_callB call_isi (by rfl) Z.isinstance_ (by decide +kernel) (pa_cons (pv 0) (pa_cons (pe_bltn (v := .ty "int") (u := .type "int") (by rfl) Z.int_ (by decide +kernel) rfl) pa_nil))) (pe_and (pe_not (pe_callB call_isi (by rfl) Z.isinstance_ (by decide +kernel) (pa_cons (pv 0) (pa_cons (pe_bltn (v := .ty "bool") (u := .type "bool") (by rfl) Z2.bool_ (by decide +kernel) rfl) pa_nil)))) (pe_one (pe_cmpR (op_eqD hr.units) (pv 0) (pv 1) (nomark _))))))) pss_nil)
  (pss_cons (ps_if (pt_val (pe_callB call_isi (by rfl) Z.isinstance_ (by decide +kernel) (pa_cons (pv 1) (pa_cons (pe_bltn (v := .ty "str") (u := .type "str") (by rfl) Z2.str_ (by decide +kernel) rfl) pa_nil)))) (pss_one (ps_ret (pe_and (pe_callB call_isi (by rfl) Z.isinstance_ (by decide +kernel) (pa_cons (pv 0) (pa_cons (pe_bltn (v := .ty "str") (u := .type "str") (by rfl) Z2.str_ (by decide +kernel) rfl) pa_nil))) (pe_one (pe_cmpR (op_eqD hr.units) (pv 0) (pv 1) (nomark _)))))) pss_nil)
  (pss_cons (ps_if (PW.pt (pw_or (pt_cmpR op_ne (pe_callB call_isi (by rfl) Z.isinstance_ (by decide +kernel) (pa_cons (pv 1) (pa_cons (pe_bltn (v := .ty "tuple") (u := .type "tuple") (by rfl) Z.tuple_ (by decide +kernel) rfl) pa_nil))) (pe_callB call_isi (by rfl) Z.isinstance_ (by decide +kernel) (pa_cons (pv 0) (pa_cons (pe_bltn (v := .ty "tuple") (u := .type "tuple") (by rfl) Z.tuple_ (by decide +kernel) rfl) pa_nil))) (nomark _)) (pw_or1 (pt_cmpR op_ne (pe_callB call_isi (by rfl) Z.isinstance_ (by decide +kernel) (pa_cons (pv 1) (pa_cons (pe_bltn (v := .ty "list") (u := .type "list") (by rfl) Z.list_ (by decide +kernel) rfl) pa_nil))) (pe_callB call_isi (by rfl) Z.isinstance_ (by decide +kernel) (pa_cons (pv 0) (pa_cons (pe_bltn (v := .ty "list") (u := .type "list") (by rfl) Z.list_ (by decide +kernel) rfl) pa_nil))) (nomark _))))) (pss_one (ps_ret pe_bl)) pss_nil)
  (pss_cons (ps_if (pt_cmpR op_ne (pe_callB k_len (by rfl) Z.len_ (by decide +kernel) (pa_cons (pv 0) pa_nil)) (pe_callB k_len (by rfl) Z.len_ (by decide +kernel) (pa_cons (pv 1) pa_nil)) (nomark _)) (pss_one (ps_ret pe_bl)) pss_nil)
  (pss_one (ps_ret (pe_callB (cr_all rfl) (by rfl) Z.all_ (by decide +kernel) (pa_cons (pe_lc (own := [("_law_k", 2)]) (g := gName 2) (tt := tYes) rfl nd (pi_range1 rfl Z.range_ (pa_cons (pe_callB k_len (by rfl) Z.len_ (by decide +kernel) (pa_cons (pv 1) pa_nil)) pa_nil)) (blkOk_by (N := N__law_alike) (sc := C8.fnScope s__law_alike) (own := [("_law_k", 2)]) (by decide +kernel)) (fun _ _ _ _ _ => (pg_name (i := 2) nd rfl (Or.inl rfl))) (fun _ _ _ _ _ => pts_nil) (fun _ _ _ _ _ => (C8.pe_c c__law_alike hr (Nat.le_refl _) (by rfl) (pa_cons (pe_ix (show IxR _ (rIxT K) from ix_tup) (pv 0) (pv 2) (fun _ _ => rfl)) (pa_cons (pe_ix (show IxR _ (rIxT K) from ix_tup) (pv 1) (pv 2) (fun _ _ => rfl)) pa_nil))))) pa_nil)))))))))), ?_⟩
        refine i_start (σ' := [some u, some (.ref b), none]) rfl ?_
        walk_at "go"
        walk_at "r"
        refine i_no (by intro z; cases z) ?_
        walk_at "r"
        refine i_isi (b := false) tb (by rfl) ?_
        walk_at "r"
        refine i_isi (b := false) tb (by rfl) ?_
        walk_at "r"
        refine i_isi (b := false) tb (by rfl) ?_
        walk_at "r"
        refine i_isi (b := true) tb (by rfl) ?_
        walk_at "r"
        cases h1 with
        | non =>
          refine i_isi (b := false) (.base .non) (by rfl) ?_
          walk_at "r"
          refine i_nno (by decide) ?_
          walk_at "r"
          exact q H (Same.refl _)
        | bl c =>
          refine i_isi (b := false) (.base (.bl c)) (by rfl) ?_
          walk_at "r"
          refine i_nno (by decide) ?_
          walk_at "r"
          exact q H (Same.refl _)
        | int c =>
          refine i_isi (b := false) (.base (.int c)) (by rfl) ?_
          walk_at "r"
          refine i_nno (by decide) ?_
          walk_at "r"
          exact q H (Same.refl _)
        | str c oc =>
          refine i_isi (b := false) (.base (.str c)) (by rfl) ?_
          walk_at "r"
          refine i_nno (by decide) ?_
          walk_at "r"
          exact q H (Same.refl _)
        | lst ha la ia =>
          refine i_isi (b := false) (.base (.lst ha)) (by rfl) ?_
          walk_at "r"
          refine i_nno (by decide) ?_
          walk_at "r"
          exact q H (Same.refl _)
        | @tup a xs ds1 ha la ia =>
          have ta : TyX K H (.ref a) (.type "tuple") := .base (.tup ha)
          refine i_isi (b := true) ta (by rfl) ?_
          walk_at "r"
          refine i_nyes rfl ?_
          walk_at "r"
          refine i_isi (b := false) tb (by rfl) ?_
          walk_at "r"
          refine i_isi (b := false) ta (by rfl) ?_
          walk_at "r"
          refine i_nyes rfl ?_
          have ha' : SqT K H a xs := st_of ha
          have hb' : SqT K H b ys := st_of hb
          walk_at "r"
          refine i_nbr (fun c => ?_) (fun c => ?_)
          case refine_2 =>
            walk_at "r"
            have e : sameD (.tuple ds1) (.tuple ds2) = false := by
              rw [sameD]
              exact sameAll_len (by omega)
            rw [e] at q
            exact q H (Same.refl _)
          have le : ds1.length = ds2.length := by omega
          have l5 : ds2.length ≤ 50000 := hsm.1
          walk_at "r"
          refine i_lcR (F := fun i => some (V.bl (sameD (ds1.getD i .none) (ds2.getD i .none)))) ⟨by omega, by omega⟩ (fun i hi H1 s1 QN QY hN hY => ?_) (fun p H1 hp s1 e1 => ?_)
          · have hi2 : i < ds2.length := by omega
            have hi1 : i < ds1.length := by omega
            have ha1 := stup s1 ha'
            have hb1 := stup s1 hb'
            have g1 : xs[i]? = some xs[i] := List.getElem?_eq_getElem (by omega)
            have g2 : ys[i]? = some ys[i] := List.getElem?_eq_getElem (by omega)
            have hat : atI xs (i : Int) = some xs[i] := atI_nat g1
            have hbt : atI ys (i : Int) = some ys[i] := atI_nat g2
            walk_at "r"
            cases n with
            | zero =>
              rw [PyData.depth] at hdp
              omega
            | succ m =>
              rw [PyData.depth] at hdp
              refine ⟨_, _, ds1[i], ds2[i], rfl, (ia i hi1 _ g1).same s1, (ib i hi2 _ g2).same s1, hsm.2.get i hi2, depth_get (by omega) i hi2, fun H2 s2 => ?_⟩
              refine hY _ ?_ _ s2
              rw [List.getD_eq_getElem?_getD, List.getD_eq_getElem?_getD, List.getElem?_eq_getElem hi1, List.getElem?_eq_getElem hi2]
              rfl
          · rw [bools_map, show ((ys.length : Nat) : Int).toNat = ds2.length by omega] at e1
            walk_at "r"
            refine i_all (sl_of e1) ?_
            rw [← sameAll_all le, show sameAll ds1 ds2 = sameD (.tuple ds1) (.tuple ds2) by rw [sameD]]
            exact q _ s1
  intro n
  induction n with
  | zero => exact step 0 (by
      have z := c_never (P := P) (w := w) (base := base) (k := 0) d
      exact z)
  | succ m ih => exact step (m + 1) ih
end
end Esc

namespace Esc
open PySem PySem.Spec PyProof.Rows L2
section
variable {P : Program} {w : World} {K : PySem.W.Frag} {mg : Str → Option Value} {base : Heap}
def spFromR (K : PySem.W.Frag) (good : Int → Int → Kind → Prop) : Sp := fun vs H Q _ => ∃ (p b : Addr) (t e : Int) (k : Kind) (row : List Int), vs = [.ref p, .ref b] ∧ good t e k ∧ KindAt K H p t e k ∧ KindOk t e k ∧ 3 ≤ t ∧ t ≤ 16 ∧ 0 ≤ e ∧ e < t ∧
  SqL K H b (row.map V.int) ∧ (∀ x ∈ row, Plain t e x) ∧ row.length ≤ 400 ∧ (∀ r, fromK t e k row = some r → ∀ q H', H q = none → Same H H' → H' q = some (.lst (r.map V.int)) → Q (.ref q) H') ∧ (fromK t e k row = none → ∀ H', Same H H' → Q .non H')
theorem opt_none {α : Type} {x : Option α} {f : α → α} (h : x = none) : x.map f = none := by rw [h]; rfl
theorem c_from_escapes (d : Dd K mg "from_escapes" s_from_escapes P_from_escapes) : C8.Cal P w K mg base 1 "from_escapes" (spFromR K isEscapes) [] := by
  refine d.cal sc_from_escapes (fun vs H Q E h => ?_) (fun f cdv A outer s H vs Q E hr h => ?_)
  · obtain ⟨p, b, t, e, k, body, rfl, _⟩ := h
    rfl
  · obtain ⟨p, b, t, e, k, row, rfl, ⟨m, prs, rfl⟩, ⟨c, as, hp, hc, ht⟩, ⟨hm, hw, hr0, he1, hm1, hcp, hcn⟩, h3, h16, h0, h1, hb, hin, hlen, q, qn⟩ := h
    have nd := sc_from_escapes.nd
    have las := ht.len
    have hnf : (prs.map (·.1)).Nodup := hw.imp fun h => by omega
    have hns : ((swp prs).map (·.1)).Nodup := by
      rw [swp_fst]
      exact hcn
    refine ⟨_, (pss_cons (ps_asg (pe_slice sl_tup (pv 0) (po_some pe_int) po_none) (pg_tup rfl (pgs_cons (pg_name (i := 2) nd rfl (Or.inl rfl)) (pgs_cons (pg_name (i := 3) nd rfl (Or.inl rfl)) pgs_nil))))
  (pss_cons (ps_setDc (i := 4) (own := [("sign", 7), ("code", 8)]) (g := gTup K 2 (gCons (gName 7) (gCons (gName 8) gNil))) (tt := tYes) rfl nd rfl rfl (sw_dc rfl rfl rfl (by decide +kernel)) (pi_tup (pv 3)) (blkOk_by (N := N_from_escapes) (sc := C8.fnScope s_from_escapes) (own := [("sign", 7), ("code", 8)]) (by decide +kernel)) (fun _ _ _ _ _ => (pg_tup rfl (pgs_cons (pg_name (i := 7) nd rfl (Or.inl rfl)) (pgs_cons (pg_name (i := 8) nd rfl (Or.inl rfl)) pgs_nil)))) (fun _ _ _ _ _ => pts_nil) (fun _ _ _ _ _ => (pv 8)) (fun _ _ _ _ _ => (pv 7)))
  (pss_cons (ps_set (i := 5) nd rfl (Or.inl rfl) (pe_lst pa_nil))
  (pss_cons (ps_set (i := 6) nd rfl (Or.inl rfl) pe_bl)
  (pss_cons (ps_for PassesOwn.never rfl (pi_list (pv 1)) (pg_name (i := 7) nd rfl (Or.inl rfl))
    (pss_cons (ps_if (PW.pt (pw_and (pt_val (pv 6)) (pw_and1 (pt_cmp (pc_dnotin (hu_of hr) (pv 7) (pv 4)))))) (pss_one (ps_ret pe_non)) pss_nil)
  (pss_one (ps_if (pt_val (pv 6)) (pss_cons (ps_expr (pe_bm PySem.F.plainAttrs_list PySem.F.slot_list_append PySem.F.type_list_append mt_append (pv 5) (pa_cons (pe_dget (hu_of hr) (pv 4) (pv 7) (fun _ _ => rfl)) pa_nil)))
  (pss_one (ps_set (i := 6) nd rfl (Or.inl rfl) pe_bl))) (pss_one (ps_if (pt_cmpR op_eq (pv 7) (pv 2) (nomark _)) (pss_one (ps_set (i := 6) nd rfl (Or.inl rfl) pe_bl)) (pss_one (ps_expr (pe_bm PySem.F.plainAttrs_list PySem.F.slot_list_append PySem.F.type_list_append mt_append (pv 5) (pa_cons (pv 7) pa_nil))))))))))
  (pss_one (ps_ret (pe_ifExp (pt_val (pv 6)) pe_non (pv 5))))))))), ?_⟩
    refine i_start (σ' := [some (.ref p), some (.ref b), none, none, none, none, none, none, none]) rfl ?_
    walk_at "go"
    walk_at "r"
    refine i_slT hp (cut3_ne _ _ _ _) (fun p1 H1 _ s1 e1 => ?_)
    rw [cut3] at e1
    have hc1 := stup s1 hc
    walk_at "r"
    refine i_dcT (fun i => kvOf ((swp prs).take i)) rfl hc1 (fun D i x H2 hD hx s2 e2 Nx hN => ?_) (fun p2 H2 hp2 s2 e2 => ?_)
    · obtain ⟨a, ha, rfl⟩ := ref_get hx
      obtain ⟨cc, hcc, hac⟩ := ht.get ha
      have hac2 := stup (s1.trans s2) hac
      have il := (List.getElem?_eq_some_iff.mp hcc).1
      have hsc : (swp prs)[i]? = some (cc.2, cc.1) := by
        unfold swp
        rw [List.getElem?_map, hcc]
        rfl
      walk_at "r"
      refine ⟨_, Sum.inl cc.2, rfl, e2, szl (by unfold kvOf swp; rw [List.length_map, List.length_take, List.length_map]; have z := nodup_bound hcn hcp h16; rw [List.length_map] at z; omega), hN _ (smut s2 hD) ?_⟩
      rw [upd_same, show V.int cc.1 = V.int (cc.2, cc.1).2 from rfl, show Sum.inl cc.2 = (Sum.inl (cc.2, cc.1).1 : Key) from rfl, kv_snoc _ _ (fst_new hns hsc), take_succ' hsc]
    · rw [List.length_map, las, List.take_of_length_le (by unfold swp; rw [List.length_map]; exact Nat.le_refl _)] at e2
      have s12 := s1.trans s2
      walk_at "r"
      refine i_lst (Nat.zero_le _) (fun fr H3 hfr s3 e3 => ?_)
      have s13 := s12.trans s3
      have e23 := s3 _ _ e2
      have npf : p2 ≠ fr := (ne_of_none e2 hfr)
      walk_at "r"
      refine i_for (s13.seq hb) (fun i σ' H' => ∃ y mk bp, σ' = [some (.ref p), some (.ref b), some (.int m), some (.ref c), some (.ref p2), some (.ref fr), some (.bl mk), y, none] ∧ Same H H' ∧ H' p2 = some (.dK (kvOf (swp prs))) ∧ H' fr = some (.lst (bp.map V.int)) ∧ bp.length ≤ i ∧
          escR m (swp prs) false row = (escR m (swp prs) mk (row.drop i)).map (bp ++ ·))
        ⟨none, false, [], rfl, s13, e23, e3, Nat.le_refl _, by rw [List.drop_zero]; cases escR m (swp prs) false row <;> rfl⟩ (fun i σ' H' _ ⟨_, _, _, _, s4, _⟩ => s4.seq hb) (fun i x σ' H' hi pv => ?_) (fun σ' H' pv => ?_)
      · obtain ⟨y, mk, bp, rfl, s4, ed, ef, lb, st⟩ := pv
        obtain ⟨n, hn, rfl⟩ := map_get hi
        have il := (List.getElem?_eq_some_iff.mp hn).1
        have hdn := drop_of hn
        rw [hdn] at st
        have push : ∀ (z : Int) (o : Option (List Int)), escR m (swp prs) false row = (o.map (z :: ·)).map (bp ++ ·) → escR m (swp prs) false row = o.map ((bp ++ [z]) ++ ·) := fun z o ho => by
          rw [ho]
          cases o with
          | none => rfl
          | some l => simp
        have hg := dget_sw ed n
        cases mk with
        | false =>
          walk_at "r"
          by_cases c : n = m
          · subst c
            rw [escR_m] at st
            refine i_yes rfl ?_
            walk_at "r"
            exact ⟨_, _, bp, rfl, s4, ed, ef, by omega, st⟩
          · rw [escR_f c] at st
            refine i_no c ?_
            walk_at "r"
            refine ⟨_, _, bp ++ [n], rfl, smut s4 (s12.free hfr), ?_, ?_, by rw [List.length_append, List.length_singleton]; omega, push n _ st⟩
            · rw [upd_ne npf]
              exact ed
            · rw [upd_same, List.map_append]
              rfl
        | true =>
          cases el : look (swp prs) n with
          | none =>
            rw [escR_tn el] at st
            rw [el] at hg
            walk_at "r"
            refine ⟨p2, _, rfl, hg, ?_⟩
            simp only [Option.map_none, Option.isSome_none, Bool.not_false]
            walk_at "r"
            exact qn st _ s4
          | some cc =>
            rw [escR_t el] at st
            rw [el] at hg
            walk_at "r"
            refine ⟨p2, _, rfl, hg, ?_⟩
            simp only [Option.map_some, Option.isSome_some, Bool.not_true] at hg ⊢
            walk_at "r"
            refine ⟨p2, _, rfl, hg, ?_⟩
            walk_at "r"
            refine ⟨_, _, bp ++ [cc], rfl, smut s4 (s12.free hfr), ?_, ?_, by rw [List.length_append, List.length_singleton]; omega, push cc _ st⟩
            · rw [upd_ne npf]
              exact ed
            · rw [upd_same, List.map_append]
              rfl
      · obtain ⟨y, mk, bp, rfl, s4, ed, ef, lb, st⟩ := pv
        rw [List.length_map, List.drop_length] at st
        cases mk with
        | false =>
          walk_at "r"
          exact q bp (by rw [show fromK t e (.escapes m prs) row = escR m (swp prs) false row from rfl, st]; simp [escR]) fr H' (s12.free hfr) s4 ef
        | true =>
          walk_at "r"
          exact qn st _ s4
end
end Esc

namespace Esc
open PySem PySem.Spec PyProof.Rows L2
section
variable {P : Program} {w : World} {K : PySem.W.Frag} {mg : Str → Option Value} {base : Heap}
theorem c_from_counts (Z : Blt mg) (c_plain_signs : C8.Cal P w K mg base 1 "plain_signs" spPlain []) (d : Dd K mg "from_counts" s_from_counts P_from_counts) : C8.Cal P w K mg base 2 "from_counts" (spFromR K isCounts) [] := by
  refine d.cal sc_from_counts (fun vs H Q E h => ?_) (fun f cdv A outer s H vs Q E hr h => ?_)
  · obtain ⟨p, b, t, e, k, body, rfl, _⟩ := h
    rfl
  · obtain ⟨p, b, t, e, k, row, rfl, ⟨l, rfl⟩, hp, ⟨hl2, hlt⟩, h3, h16, h0, h1, hb, hin, hlen, q, qn⟩ := h
    have hp : SqT K H p [.str "counts", .int t, .int e, .int l] := hp
    have nd := sc_from_counts.nd
    have np := plain_len h0 h1
    refine ⟨_, (pss_cons (ps_asg (pv 0) (pg_tup rfl (pgs_cons (pg_name (i := 2) nd rfl (Or.inl rfl)) (pgs_cons (pg_name (i := 3) nd rfl (Or.inl rfl)) (pgs_cons (pg_name (i := 4) nd rfl (Or.inl rfl)) (pgs_cons (pg_name (i := 5) nd rfl (Or.inl rfl)) pgs_nil))))))
  (pss_cons (ps_set (i := 6) nd rfl (Or.inl rfl) (C8.pe_c c_plain_signs hr (by decide) (by rfl) (pa_cons (pv 3) (pa_cons (pv 4) pa_nil))))
  (pss_cons (ps_set (i := 7) nd rfl (Or.inl rfl) (pe_lst pa_nil))
  (pss_cons (ps_set (i := 8) nd rfl (Or.inl rfl) pe_int)
  (pss_cons (ps_set (i := 9) nd rfl (Or.inl rfl) pe_bl)
  (pss_cons (ps_while PassesOwn.never (pt_cmpR op_lt (pv 8) (pe_callB k_len (by rfl) Z.len_ (by decide +kernel) (pa_cons (pv 1) pa_nil)) (nomark _))
    (C8.pss_cut (ps_if (pt_val (pv 9)) (pss_one (ps_expr (pe_bm PySem.F.plainAttrs_list PySem.F.slot_list_append PySem.F.type_list_append mt_append (pv 7) (pa_cons (pv 4) pa_nil)))) pss_nil)
  (pss_cons (ps_set (i := 10) nd rfl (Or.inl rfl) (pe_op op_add (pe_bm PySem.F.plainAttrs_list PySem.F.slot_list_index PySem.F.type_list_index mt_index (pv 6) (pa_cons (pe_ix ix_list (pv 1) (pv 8) (fun _ _ => rfl)) pa_nil)) pe_int))
  (pss_cons (ps_expr (pe_bm PySem.F.plainAttrs_list PySem.F.slot_list_extend PySem.F.type_list_extend mt_extend (pv 7) (pa_cons (pe_slice sl_list (pv 1) (po_some (pe_op op_add (pv 8) pe_int)) (po_some (pe_op op_add (pv 8) (pv 10)))) pa_nil)))
  (pss_cons (ps_set (i := 9) nd rfl (Or.inl rfl) (pe_cmpR op_lt (pv 10) (pv 5) (nomark _)))
  (pss_one (ps_aug (i := 8) nd rfl (Or.inl rfl) (pv 10) ip_add)))))))
  (pss_one (ps_ret (pv 7))))))))), ?_⟩
    refine i_start (σ' := [some (.ref p), some (.ref b), none, none, none, none, none, none, none, none, none]) rfl ?_
    walk_at "go"
    walk_at "r"
    refine ⟨t, e, rfl, by omega, by omega, fun pl H1 _ s1 e1 => ?_⟩
    walk_at "r"
    refine i_lst (Nat.zero_le _) (fun fr H2 hfr s2 e2 => ?_)
    have s02 := s1.trans s2
    have e12 := s2 _ _ e1
    have npf : pl ≠ fr := ne_of_none e1 hfr
    have hfr0 := s1.free hfr
    walk_at "r"
    refine i_while (fun m σ' H' => ∃ (a : Nat) (ov : Bool) (out : List Int) (y : Option V), m = row.length - a ∧ σ' = [some (.ref p), some (.ref b), some (.str "counts"), some (.int t), some (.int e), some (.int l), some (.ref pl), some (.ref fr), some (.int (a : Int)), some (.bl ov), y] ∧
        Same H H' ∧ H' pl = some (.lst ((plainL t e).map V.int)) ∧ H' fr = some (.lst (out.map V.int)) ∧ out.length ≤ a ∧ a ≤ 420 ∧ cntR (plainL t e) l e false row = out ++ cntR (plainL t e) l e ov (row.drop a))
      row.length ⟨0, false, [], none, rfl, rfl, s02, e12, e2, Nat.le_refl _, by decide, by rw [List.drop_zero]; rfl⟩ (fun m σ' H' pv => ?_)
    obtain ⟨a, ov, out, y, rfl, rfl, s3, epl, efr, lout, la, st⟩ := pv
    have hb3 := s3.seq hb
    walk_at "r"
    refine i_br (fun h => ?_) (fun h => ?_)
    · have ha : a < row.length := by omega
      have hx : row[a]? = some row[a] := List.getElem?_eq_getElem ha
      have hdr := drop_of hx
      rw [hdr, cntR_cons] at st
      have hmem : row[a] ∈ plainL t e := plain_mem.mpr (hin _ (List.getElem_mem ha))
      have hil := List.idxOf_lt_length_of_mem hmem
      generalize hi : (plainL t e).idxOf row[a] = i at st hil
      walk_at "r"
      refine i_cut (fun σ6 H6 => σ6 = [some (.ref p), some (.ref b), some (.str "counts"), some (.int t), some (.int e), some (.int l), some (.ref pl), some (.ref fr), some (.int (a : Int)), some (.bl ov), y] ∧ Same H H6 ∧ H6 pl = some (.lst ((plainL t e).map V.int)) ∧ H6 fr = some (.lst ((out ++ (if ov = true then [e] else [])).map V.int))) ?_ (fun σ6 H6 pv => ?_)
      · cases ov with
        | true =>
          walk_at "r"
          refine ⟨rfl, smut s3 hfr0, by rw [upd_ne npf]; exact epl, ?_⟩
          rw [upd_same, if_pos rfl, List.map_append]
          rfl
        | false =>
          walk_at "r"
          exact ⟨rfl, s3, epl, by rw [if_neg Bool.false_ne_true, List.append_nil]; exact efr⟩
      · obtain ⟨rfl, s6, epl6, efr6⟩ := pv
        have hb6 := s6.seq hb
        have lov : (if ov = true then [e] else []).length ≤ 1 := by
          split <;> simp
        generalize (if ov = true then [e] else []) = oe at st lov efr6
        have hat : atI (row.map V.int) (a : Int) = some (.int row[a]) := atI_nat (by rw [List.getElem?_map, hx]; rfl)
        walk_at "r"
        refine i_indexI (sl_of epl6) hmem ?_
        rw [hi]
        walk_at "r"
        rw [show (a : Int) + 1 = ((a + 1 : Nat) : Int) by omega, show (a : Int) + ((i : Int) + 1) = ((a + (i + 1) : Nat) : Int) by omega]
        refine i_slL hb6 (fun p7 H7 hp7 s7 e7 => ?_)
        rw [cut_mid _ _ _ (by omega), show a + (i + 1) - (a + 1) = i by omega, ← List.map_drop, ← List.map_take] at e7
        have efr7 := s7 _ _ efr6
        have epl7 := s7 _ _ epl6
        have lmid : ((row.drop (a + 1)).take i).length ≤ i := by
          rw [List.length_take]
          exact Nat.min_le_left _ _
        walk_at "r"
        refine i_extend efr7 e7 (sz (by rw [List.length_map, List.length_map, List.length_append]; omega)) ?_
        walk_at "r"
        refine ⟨row.length - (a + (i + 1)), by omega, a + (i + 1), decide ((i : Int) + 1 < l), (out ++ oe) ++ (row.drop (a + 1)).take i, _, rfl, rfl, smut (s6.trans s7) hfr0, ?_, ?_, ?_, by omega, ?_⟩
        · rw [upd_ne npf]
          exact epl7
        · rw [upd_same, ← List.map_append]
        · rw [List.length_append, List.length_append]
          omega
        · rw [st, List.append_assoc, List.append_assoc, List.drop_drop, show a + 1 + i = a + (i + 1) by omega]
    · rw [List.drop_of_length_le (by omega), cntR_nil, List.append_nil] at st
      walk_at "r"
      exact q out (congrArg some st) fr H' hfr0 s3 efr
end
end Esc

namespace Esc
open PySem PySem.Spec PyProof.Rows L2
def kStar (K : PySem.W.Frag) (t : TA) (Q : List V → Hp → Prop) (σ : L2.St) : VK := fun x H1 => ∃ p xs, x = V.ref p ∧ (SqT K H1 p xs ∨ SqL K H1 p xs) ∧ t σ H1 fun ys H2 => Q (xs ++ ys) H2
def kStar2 (Q : List V → Hp → Prop) (xs : List V) : List V → Hp → Prop := fun ys H2 => Q (xs ++ ys) H2
instance {K : PySem.W.Frag} {te : TE} {t : TA} {σ : L2.St} {H : Hp} {Q : List V → Hp → Prop} : Step (StX.tStar K te t σ H Q) (te σ H (kStar K t Q σ)) := ⟨fun h => h⟩
instance {H : Hp} {Q : List V → Hp → Prop} {xs ys : List V} : Step (kStar2 Q xs ys H) (Q (xs ++ ys) H) := ⟨fun h => h⟩
theorem i_star {K : PySem.W.Frag} {t : TA} {Q : List V → Hp → Prop} {σ : L2.St} {H : Hp} {p : Addr} {xs : List V} (h : SqT K H p xs) (q : t σ H (kStar2 Q xs)) : kStar K t Q σ (.ref p) H := ⟨p, xs, rfl, .inl h, q⟩
theorem i_truT {K : PySem.W.Frag} {H : Hp} {Q : Bool → Hp → Prop} {a : Addr} {xs : List V} (h : SqT K H a xs) (q : Q (!xs.isEmpty) H) : kTru K Q (.ref a) H := ⟨_, .inr (.inl ⟨xs, h, rfl⟩), q⟩
def ck : Nat → List (List Int) → List (List Key × V)
  | _, [] => []
  | n, c :: r => (ks c, V.int (n : Int)) :: ck (n + 1) r
theorem ck_len : ∀ (r : List (List Int)) (n : Nat), (ck n r).length = r.length
  | [], _ => rfl
  | _ :: r, n => congrArg (· + 1) (ck_len r (n + 1))
theorem ck_snoc : ∀ (r : List (List Int)) (n : Nat) (c : List Int), ck n (r ++ [c]) = ck n r ++ [(ks c, V.int ((n + r.length : Nat) : Int))]
  | [], n, c => rfl
  | x :: r, n, c => by
    show _ :: ck (n + 1) (r ++ [c]) = _
    rw [ck_snoc r (n + 1) c]
    show _ = _ :: (ck (n + 1) r ++ _)
    rw [List.length_cons, show n + 1 + r.length = n + (r.length + 1) by omega]
theorem ck_none : ∀ (r : List (List Int)) (n : Nat) (c : List Int), c ∉ r → valV (ck n r) (ks c) = none
  | [], _, _, _ => rfl
  | y :: r, n, c, h => by
    show valV ((ks y, V.int (n : Int)) :: ck (n + 1) r) _ = _
    rw [valV_neg (fun e => h (by rw [ks_inj e]; exact List.mem_cons_self)), ck_none r (n + 1) c fun m => h (List.mem_cons_of_mem _ m)]
theorem ck_some : ∀ (r : List (List Int)) (n j : Nat) (c : List Int), r.Nodup → r[j]? = some c → valV (ck n r) (ks c) = some (V.int ((n + j : Nat) : Int))
  | [], _, _, _, _, h => by simp at h
  | y :: r, n, 0, c, _, h => by
    cases h
    show valV ((ks y, V.int (n : Int)) :: ck (n + 1) r) _ = _
    rw [valV_pos rfl]
    rfl
  | y :: r, n, j + 1, c, hn, h => by
    have h : r[j]? = some c := h
    obtain ⟨n1, n2⟩ := List.nodup_cons.mp hn
    show valV ((ks y, V.int (n : Int)) :: ck (n + 1) r) _ = _
    rw [valV_neg (fun e => n1 (by rw [ks_inj e]; exact List.mem_of_getElem? h)), ck_some r (n + 1) j c n2 h, show n + 1 + j = n + (j + 1) by omega]
section
variable {P : Program} {w : World} {K : PySem.W.Frag} {mg : Str → Option Value} {base : Heap}
theorem c_from_codes (Z : Blt mg) (d : Dd K mg "from_codes" s_from_codes P_from_codes) : C8.Cal P w K mg base 1 "from_codes" (spFromR K isCodes) [] := by
  refine d.cal sc_from_codes (fun vs H Q E h => ?_) (fun f cdv A outer s H vs Q E hr h => ?_)
  · obtain ⟨p, b, t, e, k, body, rfl, _⟩ := h
    rfl
  · obtain ⟨p, b, t, e, k, row, rfl, ⟨cs, rfl⟩, ⟨c, as, hp, hc, ht⟩, ⟨hl, hok, hap⟩, h3, h16, h0, h1, hb, hin, hlen, q, qn⟩ := h
    have nd := sc_from_codes.nd
    have las := ht.len
    have hnd : cs.Nodup := hap.imp fun {a b} hab z => hab.1 (by rw [z]; exact List.prefix_refl _)
    refine ⟨_, (pss_cons (ps_setDt (i := 2) (own := [("letter", 7), ("code", 6)]) (g := gTup K 2 (gCons (gName 7) (gCons (gName 6) gNil))) (tt := tYes) (hu_of hr) rfl nd rfl rfl (sw_dc rfl rfl rfl (by decide +kernel)) (pi_enT rfl Z.enumerate_ (pa_cons (pe_ix ix_tup (pv 0) pe_int (fun _ _ => rfl)) pa_nil)) (blkOk_by (N := N_from_codes) (sc := C8.fnScope s_from_codes) (own := [("letter", 7), ("code", 6)]) (by decide +kernel)) (fun _ _ _ _ _ => (pg_tup rfl (pgs_cons (pg_name (i := 7) nd rfl (Or.inl rfl)) (pgs_cons (pg_name (i := 6) nd rfl (Or.inl rfl)) pgs_nil)))) (fun _ _ _ _ _ => pts_nil) (fun _ _ _ _ _ => (pv 6)) (fun _ _ _ _ _ => (pv 7)))
  (pss_cons (ps_set (i := 3) nd rfl (Or.inl rfl) (pe_lst pa_nil))
  (pss_cons (ps_set (i := 4) nd rfl (Or.inl rfl) (pe_tup pa_nil))
  (pss_cons (ps_for PassesOwn.never rfl (pi_list (pv 1)) (pg_name (i := 5) nd rfl (Or.inl rfl))
    (pss_cons (ps_set (i := 4) nd rfl (Or.inl rfl) (pe_tup (StX.pa_star (pv 4) (pa_cons (pv 5) pa_nil))))
  (pss_one (ps_if (pt_cmp (pc_din (hu_of hr) (pv 4) (pv 2))) (pss_cons (ps_expr (pe_bm PySem.F.plainAttrs_list PySem.F.slot_list_append PySem.F.type_list_append mt_append (pv 3) (pa_cons (pe_dget (hu_of hr) (pv 2) (pv 4) (fun _ _ => rfl)) pa_nil)))
  (pss_one (ps_set (i := 4) nd rfl (Or.inl rfl) (pe_tup pa_nil)))) pss_nil))))
  (pss_one (ps_ret (pe_ifExp (pt_tru (pv 4) (by intro _; rfl)) pe_non (pv 3)))))))), ?_⟩
    refine i_start (σ' := [some (.ref p), some (.ref b), none, none, none, none, none, none]) rfl ?_
    walk_at "go"
    walk_at "r"
    refine i_dtE (fun i => ck 0 (cs.take i)) rfl hc (fun D i x T H1 hD hi s1 eD eT nTD Nx hN => ?_) (fun p2 H1 hp2 s1 e1 => ?_)
    · obtain ⟨a, ha, rfl⟩ := ref_get hi
      obtain ⟨cc, hcc, hac⟩ := ht.getS ha
      have hac1 := s1 _ _ hac
      have il := (List.getElem?_eq_some_iff.mp hcc).1
      walk_at "r"
      refine ⟨_, ks cc, a, rfl, by rw [ks_kv]; exact hac1, eD, szl (by rw [ck_len, List.length_take]; omega), hN _ (smut s1 hD) ?_⟩
      rw [upd_same, putK_new _ (ck_none _ _ _ (nodup_take hnd hcc)), take_succ' hcc, ck_snoc, Nat.zero_add, List.length_take, Nat.min_eq_left (by omega)]
    · rw [List.length_map, las, List.take_length] at e1
      walk_at "r"
      refine i_lst (Nat.zero_le _) (fun fr H2 hfr s2 e2 => ?_)
      have e12 := s2 _ _ e1
      have npf : p2 ≠ fr := ne_of_none e1 hfr
      have hfr0 := s1.free hfr
      walk_at "r"
      refine i_tup (Nat.zero_le _) (fun bt0 H3 hbt0 s3 e3 => ?_)
      have s03 := (s1.trans s2).trans s3
      have n0 : bt0 ≠ fr := (ne_of_none e2 hbt0).symm
      walk_at "r"
      refine i_for (s03.seq hb) (fun i σ' H' => ∃ (bt : Addr) (y : Option V) (bp bs : List Int), σ' = [some (.ref p), some (.ref b), some (.ref p2), some (.ref fr), some (.ref bt), y, none, none] ∧ Same H H' ∧ H' p2 = some (.dT (ck 0 cs)) ∧ H' fr = some (.lst (bp.map V.int)) ∧ H' bt = some (.tup (bs.map V.int)) ∧ bt ≠ fr ∧ bp.length + bs.length ≤ i ∧
          codR cs [] row = (codR cs bs (row.drop i)).map (bp ++ ·))
        ⟨bt0, none, [], [], rfl, s03, s3 _ _ e12, s3 _ _ e2, e3, n0, Nat.le_refl _, by rw [List.drop_zero]; cases codR cs [] row <;> rfl⟩ (fun i σ' H' _ ⟨_, _, _, _, _, s4, _⟩ => s4.seq hb) (fun i x σ' H' hi pv => ?_) (fun σ' H' pv => ?_)
      · obtain ⟨bt, y, bp, bs, rfl, s4, ed, ef, eb, nbf, lb, st⟩ := pv
        obtain ⟨n, hn, rfl⟩ := map_get hi
        have il := (List.getElem?_eq_some_iff.mp hn).1
        rw [drop_of hn] at st
        walk_at "r"
        refine i_star (st_of eb) ?_
        walk_at "r"
        refine i_tup (sz (by rw [List.length_append, List.length_map, List.length_singleton]; omega)) (fun b5 H5 hb5 s5 e5 => ?_)
        have e5' : H5 b5 = some (.tup (kvT (ks (bs ++ [n])))) := by
          rw [ks_kv, List.map_append]
          exact e5
        have ed5 := s5 _ _ ed
        have ef5 := s5 _ _ ef
        have n5 : b5 ≠ fr := (ne_of_none ef hb5).symm
        have hg := DGet.t (k := ks (bs ++ [n])) ed5 e5'
        walk_at "r"
        by_cases hs : bs ++ [n] ∈ cs
        · rw [codR_hit hs] at st
          have hix := List.idxOf_lt_length_of_mem hs
          have k1 : cs[cs.idxOf (bs ++ [n])]? = some (bs ++ [n]) := by rw [List.getElem?_eq_getElem hix, List.getElem_idxOf hix]
          rw [ck_some cs 0 _ _ hnd k1, Nat.zero_add] at hg
          refine ⟨p2, _, rfl, hg, ?_⟩
          simp only [Option.isSome_some]
          walk_at "r"
          refine ⟨p2, _, rfl, hg, ?_⟩
          walk_at "r"
          refine i_tup (Nat.zero_le _) (fun b6 H6 hb6 s6 e6 => ?_)
          have s46 : Same H H6 := (smut (s4.trans s5) hfr0).trans s6
          have ef6 : H6 fr = some (.lst ((bp ++ [((cs.idxOf (bs ++ [n]) : Nat) : Int)]).map V.int)) := by
            refine s6 _ _ ?_
            rw [upd_same, List.map_append]
            rfl
          walk_at "r"
          refine ⟨b6, _, bp ++ [((cs.idxOf (bs ++ [n]) : Nat) : Int)], [], rfl, s46, s6 _ _ (by rw [upd_ne npf]; exact ed5), ef6, e6, fun z => ?_, by rw [List.length_append, List.length_singleton, List.length_nil]; omega, ?_⟩
          · rw [z] at hb6
            rw [upd_same] at hb6
            cases hb6
          · rw [st]
            cases codR cs [] (row.drop (i + 1)) with
            | none => rfl
            | some l => simp
        · rw [codR_miss hs] at st
          rw [ck_none cs 0 _ hs] at hg
          refine ⟨p2, _, rfl, hg, ?_⟩
          simp only [Option.isSome_none]
          walk_at "r"
          exact ⟨b5, _, bp, bs ++ [n], rfl, s4.trans s5, ed5, ef5, by rw [List.map_append]; exact e5, n5, by rw [List.length_append, List.length_singleton]; omega, st⟩
      · obtain ⟨bt, y, bp, bs, rfl, s4, ed, ef, eb, nbf, lb, st⟩ := pv
        rw [List.length_map, List.drop_length] at st
        walk_at "r"
        refine i_truT (st_of eb) ?_
        cases bs with
        | nil =>
          rw [show (!(List.map V.int []).isEmpty) = false from rfl]
          walk_at "r"
          exact q bp (by rw [show fromK t e (.codes cs) row = codR cs [] row from rfl, st]; simp [codR]) fr H' hfr0 s4 ef
        | cons x bs =>
          rw [show (!(List.map V.int (x :: bs)).isEmpty) = true from rfl]
          rw [codR_end (by simp)] at st
          walk_at "r"
          exact qn st _ s4
end
end Esc

namespace Esc
open PySem PySem.Spec PyProof.Rows L2
section
variable {P : Program} {w : World} {K : PySem.W.Frag} {mg : Str → Option Value} {base : Heap}
theorem c_from_ranks (Z : Blt mg) (c_row_of : C8.Cal P w K mg base 1 "row_of" (spRowOf K) []) (c_rank_of : C8.Cal P w K mg base 1 "rank_of" (spRankOf K) []) (c_plain_signs : C8.Cal P w K mg base 1 "plain_signs" spPlain [])
    (d : Dd K mg "from_ranks" s_from_ranks P_from_ranks) : C8.Cal P w K mg base 2 "from_ranks" (spFromR K isRanks) [] := by
  refine d.cal sc_from_ranks (fun vs H Q E h => ?_) (fun f cdv A outer s H vs Q E hr h => ?_)
  · obtain ⟨p, b, t, e, k, body, rfl, _⟩ := h
    rfl
  · obtain ⟨p, b, t, e, k, row, rfl, rfl, hp, _, h3, h16, h0, h1, hb, hin, hlen, q, qn⟩ := h
    have hp : SqT K H p [.str "ranks", .int t, .int e] := hp
    have hns : ∀ x ∈ row, x ∈ plainL t e := fun x m => plain_mem.mpr (hin x m)
    have nd := sc_from_ranks.nd
    refine ⟨_, (pss_cons (ps_asg (pv 0) (pg_tup rfl (pgs_cons (pg_name (i := 2) nd rfl (Or.inl rfl)) (pgs_cons (pg_name (i := 3) nd rfl (Or.inl rfl)) (pgs_cons (pg_name (i := 4) nd rfl (Or.inl rfl)) pgs_nil)))))
  (pss_one (ps_ret (C8.pe_c c_row_of hr (by decide) (by rfl) (pa_cons (C8.pe_c c_rank_of hr (by decide) (by rfl) (pa_cons (pv 1) (pa_cons (C8.pe_c c_plain_signs hr (by decide) (by rfl) (pa_cons (pv 3) (pa_cons (pv 4) pa_nil))) pa_nil))) (pa_cons (pe_listRg rfl rfl Z.list_ (prg_1 rfl Z.range_ (pv 3))) pa_nil)))))), ?_⟩
    refine i_start (σ' := [some (.ref p), some (.ref b), none, none, none]) rfl ?_
    walk_at "go"
    walk_at "r"
    refine ⟨t, e, rfl, by omega, by omega, fun p1 H1 hp1 s1 e1 => ?_⟩
    walk_at "r"
    have z := plain_len h0 h1
    refine ⟨b, p1, row, plainL t e, rfl, s1.seq hb, sl_of e1, plain_nodup t e, hns, by omega, fun H2 s2 => ?_⟩
    walk_at "r"
    refine i_lstRg ⟨by omega, by omega⟩ (fun p3 H3 hp3 s3 e3 => ?_)
    rw [rg_count] at e3
    walk_at "r"
    have hbl := bodyR_len h3 h0 h1 hns
    unfold bodyR letters at hbl
    rw [List.length_map] at hbl
    refine ⟨_, p3, countL t, rfl, sl_of e3, by rw [count_len]; omega, by rw [count_len]; omega, by rw [count_len]; unfold digits at hbl; omega, fun p4 H4 hp4 s4 e4 => ?_⟩
    rw [let_map, count_len] at e4
    exact q _ rfl p4 H4 (s1.free (s2.free (s3.free hp4))) (s1.trans (s2.trans (s3.trans s4))) e4
end
end Esc

namespace Esc
open PySem PySem.Spec PyProof.Rows L2
theorem TurnAt.memD {K : PySem.W.Frag} {H : Hp} : ∀ {tas : List (Addr × List Int)} {v u : V}, TurnAt K H tas v u → ∀ x ∈ tas, TupD H x.1 (x.2.map V.int)
  | [], _, _, _, x, m => by cases m
  | (a, t) :: r, _, _, ⟨p, y, _, _, h2, h3⟩, x, m => by
    rcases List.mem_cons.mp m with rfl | m
    · exact h2
    · exact h3.memD x m
section
variable {P : Program} {w : World} {K : PySem.W.Frag} {mg : Str → Option Value} {base : Heap}
def spTopOf (K : PySem.W.Frag) : Sp := fun vs H Q _ => ∃ (v : V) (wy : Way), vs = [v] ∧ WayAt K H v wy ∧ wy.Ok ∧ ∀ H', Same H H' → Q (.int wy.t) H'
theorem c_top_of (c_unturned : C8.Cal P w K mg base 1 "unturned" (spUnturned K) []) (d : Dd K mg "top_of" s_top_of P_top_of) : C8.Cal P w K mg base 2 "top_of" (spTopOf K) [] := by
  refine d.cal sc_top_of (fun vs H Q E h => ?_) (fun f cdv A outer s H vs Q E hr h => ?_)
  · obtain ⟨v, wy, rfl, _⟩ := h
    rfl
  · obtain ⟨v, wy, rfl, ⟨tas, p, hts, hw, hk⟩, ok, q⟩ := h
    have nd := sc_top_of.nd
    obtain ⟨xs, hx⟩ := hk.head
    have ltas : tas.length ≤ 3 := by
      have z := ok.few
      rw [← hts, List.length_map] at z
      exact z
    refine ⟨_, (pss_cons (ps_set (i := 1) nd rfl (Or.inl rfl) (pe_ix ix_tup (C8.pe_c c_unturned hr (by decide) (by rfl) (pa_cons (pv 0) pa_nil)) pe_int (fun _ _ => rfl)))
  (pss_one (ps_ret (pe_ix ix_tup (pv 1) pe_int (fun _ _ => rfl))))), ?_⟩
    refine i_start (σ' := [some v, none]) rfl ?_
    walk_at "go"
    walk_at "r"
    refine ⟨v, tas, p, wy.k.name, _, rfl, hw, hx, wy.k.name_ne, by omega, fun q1 l H1 _ hl s1 e1 el => ?_⟩
    have hx1 := stup s1 hx
    walk_at "r"
    exact q _ s1
def spBodyN (K : PySem.W.Frag) (n : Nat) : Sp := fun vs H Q _ => ∃ (v : V) (a : Addr) (wy : Way) (ns : List Int), vs = [v, .ref a] ∧ WayAt K H v wy ∧ wy.Ok ∧ SqL K H a (ns.map V.int) ∧ (∀ x ∈ ns, 0 ≤ x ∧ x < wy.t) ∧ ns.length ≤ n ∧ ∀ H', Same H H' → Q .non H'
theorem c_need_body (Z : Blt mg) (m_MOST_BODY : GI mg "MOST_BODY" 60) (c_top_of : C8.Cal P w K mg base 2 "top_of" (spTopOf K) []) (c_first_unsigned : C8.Cal P w K mg base 3 "first_unsigned" (spFirst K) []) (d : Dd K mg "need_body" s_need_body P_need_body) : C8.Cal P w K mg base 4 "need_body" (spBodyN K 60) [] := by
  refine d.cal sc_need_body (fun vs H Q E h => ?_) (fun f cdv A outer s H vs Q E hr h => ?_)
  · obtain ⟨v, a, wy, ns, rfl, _⟩ := h
    rfl
  · obtain ⟨v, a, wy, ns, rfl, hw, ok, ha, hns, hl, q⟩ := h
    have nd := sc_need_body.nd
    refine ⟨_, (pss_cons (ps_if (pt_cmpR op_gt (pe_callB k_len (by rfl) Z.len_ (by decide +kernel) (pa_cons (pv 1) pa_nil)) (C8.pe_gc rfl m_MOST_BODY) (nomark _)) (pss_one ps_never) pss_nil)
  (pss_cons (ps_set (i := 2) nd rfl (Or.inl rfl) (C8.pe_c c_first_unsigned hr (by decide) (by rfl) (pa_cons (pv 1) (pa_cons (C8.pe_c c_top_of hr (by decide) (by rfl) (pa_cons (pv 0) pa_nil)) pa_nil))))
  (pss_one (ps_if (pt_cmpR k_notN (pv 2) pe_non (nomark _)) (pss_one ps_never) pss_nil)))), ?_⟩
    refine i_start (σ' := [some v, some (.ref a), none]) rfl ?_
    walk_at "go"
    walk_at "r"
    refine i_no (by omega) ?_
    walk_at "r"
    refine ⟨v, wy, rfl, hw, ok, fun H1 s1 => ?_⟩
    have ha1 := s1.seq ha
    walk_at "r"
    refine ⟨a, ns, wy.t, rfl, ha1, hns, fun H2 s2 => ?_⟩
    walk_at "r"
    refine i_nyes rfl ?_
    walk_at "r"
    exact q _ (s1.trans s2)
theorem c_need_signs (Z : Blt mg) (m_MOST_SIGNS : GI mg "MOST_SIGNS" 400) (c_top_of : C8.Cal P w K mg base 2 "top_of" (spTopOf K) []) (c_first_unsigned : C8.Cal P w K mg base 3 "first_unsigned" (spFirst K) []) (d : Dd K mg "need_signs" s_need_signs P_need_signs) : C8.Cal P w K mg base 4 "need_signs" (spBodyN K 400) [] := by
  refine d.cal sc_need_signs (fun vs H Q E h => ?_) (fun f cdv A outer s H vs Q E hr h => ?_)
  · obtain ⟨v, a, wy, ns, rfl, _⟩ := h
    rfl
  · obtain ⟨v, a, wy, ns, rfl, hw, ok, ha, hns, hl, q⟩ := h
    have nd := sc_need_signs.nd
    refine ⟨_, (pss_cons (ps_set (i := 2) nd rfl (Or.inl rfl) (C8.pe_c c_first_unsigned hr (by decide) (by rfl) (pa_cons (pe_slice sl_list (pv 1) po_none (po_some (C8.pe_gc rfl m_MOST_SIGNS))) (pa_cons (C8.pe_c c_top_of hr (by decide) (by rfl) (pa_cons (pv 0) pa_nil)) pa_nil))))
  (pss_cons (ps_if (pt_cmpR k_notN (pv 2) pe_non (nomark _)) (pss_one ps_never) pss_nil)
  (pss_one (ps_if (pt_cmpR op_gt (pe_callB k_len (by rfl) Z.len_ (by decide +kernel) (pa_cons (pv 1) pa_nil)) (C8.pe_gc rfl m_MOST_SIGNS) (nomark _)) (pss_one ps_never) pss_nil)))), ?_⟩
    refine i_start (σ' := [some v, some (.ref a), none]) rfl ?_
    walk_at "go"
    walk_at "r"
    refine i_slL ha (fun p1 H1 hp1 s1 e1 => ?_)
    rw [show ((400 : Int)) = ((400 : Nat) : Int) from rfl, cut_to, List.take_of_length_le (by rw [List.length_map]; exact hl)] at e1
    have ha1 := s1.seq ha
    walk_at "r"
    refine ⟨v, wy, rfl, hw.same s1, ok, fun H2 s2 => ?_⟩
    have ha2 := s2.seq ha1
    walk_at "r"
    refine ⟨p1, ns, wy.t, rfl, sl_of (s2 _ _ e1), hns, fun H3 s3 => ?_⟩
    have ha3 := s3.seq ha2
    walk_at "r"
    refine i_nyes rfl ?_
    walk_at "r"
    refine i_no (by omega) ?_
    walk_at "r"
    exact q _ (s1.trans (s2.trans s3))
/-- the four readers, where READERS has them -/
structure Readers (P : Program) (w : World) (K : PySem.W.Frag) (mg : Str → Option Value) (base : Heap) (pF : Addr) : Prop where
  codes : ∃ f, mg "from_codes" = some (.ref f) ∧ KDct K w pF "codes" (.ref f) ∧ C8.Cal P w K mg base 1 "from_codes" (spFromR K isCodes) []
  escapes : ∃ f, mg "from_escapes" = some (.ref f) ∧ KDct K w pF "escapes" (.ref f) ∧ C8.Cal P w K mg base 1 "from_escapes" (spFromR K isEscapes) []
  counts : ∃ f, mg "from_counts" = some (.ref f) ∧ KDct K w pF "counts" (.ref f) ∧ C8.Cal P w K mg base 2 "from_counts" (spFromR K isCounts) []
  ranks : ∃ f, mg "from_ranks" = some (.ref f) ∧ KDct K w pF "ranks" (.ref f) ∧ C8.Cal P w K mg base 2 "from_ranks" (spFromR K isRanks) []
theorem Readers.of {pF : Addr} (F : Readers P w K mg base pF) (k : Kind) : ∃ (fa : Addr) (sp : Sp), Held P w K mg base 3 fa sp ∧ KDct K w pF k.name (.ref fa) ∧
    ∀ (p b : Addr) (t e : Int) (row : List Int) H Q E, KindAt K H p t e k → KindOk t e k → 3 ≤ t → t ≤ 16 → 0 ≤ e → e < t → SqL K H b (row.map V.int) → (∀ x ∈ row, Plain t e x) → row.length ≤ 400 →
      (∀ r, fromK t e k row = some r → ∀ q H', H q = none → Same H H' → H' q = some (.lst (r.map V.int)) → Q (.ref q) H') → (fromK t e k row = none → ∀ H', Same H H' → Q .non H') → sp [.ref p, .ref b] H Q E := by
  cases k with
  | codes cs =>
    obtain ⟨f, h1, h2, c⟩ := F.codes
    exact ⟨f, _, held_of c h1 (by decide), h2, fun p b t e row H Q E a1 a2 a3 a4 a5 a6 a7 a8 a9 q qn => ⟨p, b, t, e, _, row, rfl, ⟨cs, rfl⟩, a1, a2, a3, a4, a5, a6, a7, a8, a9, q, qn⟩⟩
  | escapes m prs =>
    obtain ⟨f, h1, h2, c⟩ := F.escapes
    exact ⟨f, _, held_of c h1 (by decide), h2, fun p b t e row H Q E a1 a2 a3 a4 a5 a6 a7 a8 a9 q qn => ⟨p, b, t, e, _, row, rfl, ⟨m, prs, rfl⟩, a1, a2, a3, a4, a5, a6, a7, a8, a9, q, qn⟩⟩
  | counts l =>
    obtain ⟨f, h1, h2, c⟩ := F.counts
    exact ⟨f, _, held_of c h1 (by decide), h2, fun p b t e row H Q E a1 a2 a3 a4 a5 a6 a7 a8 a9 q qn => ⟨p, b, t, e, _, row, rfl, ⟨l, rfl⟩, a1, a2, a3, a4, a5, a6, a7, a8, a9, q, qn⟩⟩
  | ranks =>
    obtain ⟨f, h1, h2, c⟩ := F.ranks
    exact ⟨f, _, held_of c h1 (by decide), h2, fun p b t e row H Q E a1 a2 a3 a4 a5 a6 a7 a8 a9 q qn => ⟨p, b, t, e, _, row, rfl, rfl, a1, a2, a3, a4, a5, a6, a7, a8, a9, q, qn⟩⟩
/-- what is told of a list: an own list, or None -/
def TellO (H : Hp) (o : Option (List Int)) (Q : VK) : Prop := (∀ b, o = some b → ∀ q H', H q = none → Same H H' → H' q = some (.lst (b.map V.int)) → Q (.ref q) H') ∧ (o = none → ∀ H', Same H H' → Q .non H')
theorem TellO.mono {H H1 : Hp} {o : Option (List Int)} {Q : VK} (s : Same H H1) (h : TellO H o Q) : TellO H1 o Q :=
  ⟨fun b e q H' hq s2 e2 => h.1 b e q H' (s.free hq) (s.trans s2) e2, fun e H' s2 => h.2 e H' (s.trans s2)⟩
theorem tell_frame {H : Hp} {Q : VK} {wy : Way} (ok : wy.Ok) {b : List Int} (h : ∀ x ∈ b, 0 ≤ x ∧ x < wy.t) (hl : b.length ≤ 60) (q : ∀ q H', H q = none → Same H H' → H' q = some (.lst (b.map V.int)) → Q (.ref q) H') : TellO H (readW wy (frameW wy b)) Q := by
  rw [readW_frame ok h hl]
  exact ⟨fun b e => (by cases e; exact q), fun e => (by cases e)⟩
theorem tell_cnt {H : Hp} {Q : VK} {wy : Way} {ns : List Int} (h : ns.count wy.e ≠ 1) (q : ∀ H', Same H H' → Q .non H') : TellO H (readW wy ns) Q := by
  have e : readW wy ns = none := by
    unfold readW
    rw [if_neg fun z => h z.2.1]
  rw [e]
  exact ⟨fun b e => (by cases e), fun _ => q⟩
def spTakenR (K : PySem.W.Frag) : Sp := fun vs H Q _ => ∃ (v : V) (a : Addr) (wy : Way) (ns : List Int), vs = [v, .ref a] ∧ WayAt K H v wy ∧ wy.Ok ∧ SqL K H a (ns.map V.int) ∧ (∀ x ∈ ns, 0 ≤ x ∧ x < wy.t) ∧ ns.length ≤ 1000 ∧ TellO H (readW wy ns) Q
theorem readW_none {wy : Way} {ns : List Int} (h : ¬ isFr wy.e ns) : readW wy ns = none := by
  unfold readW
  rw [if_neg h]
theorem c_taken_out (Z : Blt mg) {pR : Addr} (m_READERS : GR mg "READERS" pR) (R : Readers P w K mg base pR) (m_MOST_BODY : GI mg "MOST_BODY" 60) (m_LONGEST_FRAME : GI mg "LONGEST_FRAME" 241) (c_frame_of : C8.Cal P w K mg base 3 "frame_of" (spFrameW K) []) (c_unturned : C8.Cal P w K mg base 1 "unturned" (spUnturned K) []) (d : Dd K mg "taken_out" s_taken_out P_taken_out) : C8.Cal P w K mg base 4 "taken_out" (spTakenR K) [] := by
  refine d.cal sc_taken_out (fun vs H Q E h => ?_) (fun f cdv A outer s H vs Q E hr h => ?_)
  · obtain ⟨v, a, wy, ns, rfl, _⟩ := h
    rfl
  · obtain ⟨v, a, wy, ns, rfl, ⟨tas, p, hts, hw, hk⟩, ok, ha, hns, hln, hq⟩ := h
    have hwy : WayAt K H v wy := ⟨tas, p, hts, hw, hk⟩
    have nd := sc_taken_out.nd
    obtain ⟨fa, sp, held, hR, hsp⟩ := R.of wy.k
    have A_take_apart := S1_held held
    obtain ⟨xs, hx⟩ := hk.head
    have ltt : tas.length = wy.ts.length := by rw [← hts, List.length_map]
    have ltas : tas.length ≤ 3 := by
      have z := ok.few
      omega
    refine ⟨_, (pss_cons (ps_asg (C8.pe_c c_unturned hr (by decide) (by rfl) (pa_cons (pv 0) pa_nil)) (pg_tup rfl (pgs_cons (pg_name (i := 2) nd rfl (Or.inl rfl)) (pgs_cons (pg_name (i := 3) nd rfl (Or.inl rfl)) pgs_nil))))
  (pss_cons (ps_set (i := 4) nd rfl (Or.inl rfl) (pe_ix ix_tup (pv 3) pe_int (fun _ _ => rfl)))
  (pss_cons (ps_if (PW.pt (pw_or (pt_cmpR op_gt (pe_callB k_len (by rfl) Z.len_ (by decide +kernel) (pa_cons (pv 1) pa_nil)) (C8.pe_gc rfl m_LONGEST_FRAME) (nomark _)) (pw_or (pt_cmpR op_ne (pe_bm PySem.F.plainAttrs_list PySem.F.slot_list_count PySem.F.type_list_count mt_lcount (pv 1) (pa_cons (pv 4) pa_nil)) pe_int (nomark _)) (pw_or1 (pt_cmpR op_ne (pe_ix ix_list (pv 1) (pe_un un_neg pe_int) (fun _ _ => rfl)) (pv 4) (nomark _)))))) (pss_one (ps_ret pe_non)) pss_nil)
  (pss_cons (ps_set (i := 5) nd rfl (Or.inl rfl) (pe_ix ix_kdict (C8.pe_gc rfl m_READERS) (pe_ix ix_tup (pv 3) pe_int (fun _ _ => rfl)) (fun _ _ => rfl)))
  (pss_cons (ps_set (i := 6) nd rfl (Or.inl rfl) (pe_callA A_take_apart hr (x := "take_apart") (i := 5) rfl (by first | exact Or.inl rfl | exact Or.inr (Or.inl rfl) | exact Or.inr (Or.inr rfl)) (pa_cons (pv 3) (pa_cons (pe_slice sl_list (pv 1) po_none (po_some (pe_un un_neg pe_int))) pa_nil))))
  (pss_cons (ps_if (PW.pt (pw_or (pt_cmpR k_isN (pv 6) pe_non (nomark _)) (pw_or1 (pt_cmpR op_gt (pe_callB k_len (by rfl) Z.len_ (by decide +kernel) (pa_cons (pv 6) pa_nil)) (C8.pe_gc rfl m_MOST_BODY) (nomark _))))) (pss_one (ps_ret pe_non)) pss_nil)
  (pss_cons (ps_for PassesOwn.never rfl (pi_reversed rfl Z.reversed_ (pa_cons (pv 2) pa_nil)) (pg_name (i := 7) nd rfl (Or.inr rfl))
    (pss_one (ps_setLc (i := 6) (own := [("sign", 8)]) (g := gName 8) (tt := tYes) rfl nd rfl rfl (sw_true rfl rfl rfl (by decide +kernel)) (pi_list (pv 6)) (blkOk_by (N := N_taken_out) (sc := C8.fnScope s_taken_out) (own := [("sign", 8)]) (by decide +kernel)) (fun _ _ _ _ _ => (pg_name (i := 8) nd rfl (Or.inl rfl))) (fun _ _ _ _ _ => pts_nil) (fun _ _ _ _ _ => (pe_bmD PySem.F.plainAttrs_tuple PySem.F.slot_tuple_index PySem.F.type_tuple_index (show MtR _ _ (rTIdx K) from mt_tindex) (pv 7) (pa_cons (pv 8) pa_nil))))))
  (pss_one (ps_ret (pe_ifExp (pt_cmpR (op_eqD hr.units) (C8.pe_c c_frame_of hr (by decide) (by rfl) (pa_cons (pv 0) (pa_cons (pv 6) pa_nil))) (pv 1) (nomark _)) (pv 6) pe_non)))))))))), ?_⟩
    refine i_start (σ' := [some v, some (.ref a), none, none, none, none, none, none, none]) rfl ?_
    walk_at "go"
    walk_at "r"
    refine ⟨v, tas, p, wy.k.name, _, rfl, hw, hx, wy.k.name_ne, by omega, fun q1 l H1 _ _ s1 e1 el => ?_⟩
    have hx1 := stup s1 hx
    have ha1 := s1.seq ha
    walk_at "r"
    refine i_br (fun c => ?_) (fun c => ?_)
    · walk_at "r"
      exact hq.2 (readW_none fun z => by have := z.1; omega) _ s1
    walk_at "r"
    refine i_count ha1 ?_
    walk_at "r"
    refine i_nbr (fun c2 => ?_) (fun c2 => ?_)
    case refine_2 =>
      walk_at "r"
      exact hq.2 (readW_none fun z => c2 (by rw [z.2.1]; rfl)) _ s1
    have hne : ns ≠ [] := fun z => by
      rw [z] at c2
      cases c2
    have hlast : ns = ns.dropLast ++ [ns.getLast hne] := (List.dropLast_concat_getLast hne).symm
    have ha1' := ha1
    rw [hlast, List.map_append] at ha1'
    walk_at "r"
    refine i_ixL ha1' (atI_last _ _) ?_
    walk_at "r"
    refine i_nbr (fun c3 => ?_) (fun c3 => ?_)
    case refine_2 =>
      walk_at "r"
      refine hq.2 (readW_none fun z => c3 ?_) _ s1
      have y := z.2.2
      rw [List.getLast?_eq_some_getLast hne] at y
      exact Option.some.inj y
    have hfr : isFr wy.e ns := ⟨by omega, by omega, by rw [List.getLast?_eq_some_getLast hne, c3]⟩
    obtain ⟨_, hpl⟩ := isFr_plain hfr hns
    walk_at "r"
    refine i_kd hR ?_
    walk_at "r"
    refine i_callA S1_self ?_
    walk_at "r"
    refine i_slL ha1' (fun p2 H2 hp2 s2 e2 => ?_)
    rw [show List.map V.int [ns.getLast hne] = [V.int (ns.getLast hne)] from rfl, cut_butlast] at e2
    have s12 := s1.trans s2
    have ldl : ns.dropLast.length ≤ 240 := by
      have z := hfr.1
      rw [List.length_dropLast]
      omega
    have el2 := s2 _ _ el
    walk_at "r"
    refine hsp _ _ _ _ _ _ _ _ (hk.same s12) ok.kind ok.t3 ok.t16 ok.e0 ok.e1 (sl_of e2) hpl (by omega) (fun b1 hb1 p3 H3 hp3 s3 e3 => ?_) (fun hno H3 s3 => ?_)
    · obtain ⟨bin, blen⟩ := fromK_in ok.kind ok.t3 ok.e0 ok.e1 hpl hb1
      have s13 := s12.trans s3
      walk_at "r"
      refine i_no (by intro z; cases z) ?_
      walk_at "r"
      refine i_br (fun c4 => ?_) (fun c4 => ?_)
      · walk_at "r"
        refine hq.2 ?_ _ s13
        unfold readW
        rw [if_pos hfr, hb1]
        dsimp only
        rw [if_neg fun z => by have := z.1; omega]
      have el3 := s3 _ _ el2
      walk_at "r"
      refine i_rvs (sl_of el3) (fun i σ' H' => ∃ b y, σ' = [some v, some (.ref a), some (.ref l), some (.ref p), some (.int wy.e), some (.ref fa), some (.ref b), y, none] ∧ Same H3 H' ∧ H b = none ∧ H' b = some (.lst ((backL (wy.ts.drop (tas.length - i)) b1).map V.int)))
        ⟨p3, none, rfl, Same.refl _, s12.free hp3, by rw [Nat.sub_zero, ltt, List.drop_length]; exact e3⟩ (fun i σ' H' _ ⟨_, _, _, s4, _⟩ => sl_of (s4 _ _ el3)) (fun i x σ' H' hil hix pv => ?_) (fun σ' H' pv => ?_)
      · obtain ⟨b, y, rfl, s4, hb0, eb⟩ := pv
        rw [List.length_map] at hil
        rw [List.length_map, List.getElem?_map] at hix
        obtain ⟨a2, ha2, rfl⟩ : ∃ a2, tas[tas.length - 1 - i]? = some a2 ∧ x = .ref a2.1 := by
          cases e : tas[tas.length - 1 - i]? with
          | none =>
            rw [e] at hix
            cases hix
          | some a2 =>
            rw [e] at hix
            exact ⟨a2, rfl, (Option.some.inj hix).symm⟩
        have hts2 : wy.ts[tas.length - 1 - i]? = some a2.2 := by
          rw [← hts, List.getElem?_map, ha2]
          rfl
        have hpa := ok.perm a2.2 (List.mem_of_getElem? hts2)
        have s14 := s13.trans s4
        have hsa := (hw.memD a2 (List.mem_of_getElem? ha2)).same s14
        obtain ⟨pin, plen⟩ := backL_ok (wy.ts.drop (tas.length - i)) (fun p hp => ok.perm p (List.mem_of_mem_drop hp)) b1 bin
        have etk : backL (wy.ts.drop (tas.length - (i + 1))) b1 = backS a2.2 (backL (wy.ts.drop (tas.length - i)) b1) := by
          rw [show tas.length - (i + 1) = tas.length - 1 - i by omega, drop_of hts2, show tas.length - 1 - i + 1 = tas.length - i by omega]
          rfl
        walk_at "r"
        refine i_lcL (F := fun v => match v with | .int n => some (.int ((a2.2.idxOf n : Nat) : Int)) | _ => none) (sl_of eb) (by rw [List.length_map]; omega) (fun v hv H5 s5 QN QY hN hY => ?_) (fun p5 H5 hp5 s5 e5 => ?_)
        · obtain ⟨n, hn, rfl⟩ := List.mem_map.mp hv
          have zn := pin n hn
          walk_at "r"
          refine i_bmD (hsa.same s5) ?_
          walk_at "r"
          refine i_tidx (hsa.same s5).st (hpa.symm.subset (count_mem.mpr zn)) ?_
          exact hY _ rfl _ (Same.refl _)
        · have e6 : ∀ l : List Int, (l.map V.int).filterMap (fun v => match v with | .int n => some (V.int ((a2.2.idxOf n : Nat) : Int)) | _ => none) = (backS a2.2 l).map V.int := fun l => by
            induction l with
            | nil => rfl
            | cons n r ih =>
              rw [List.map_cons, List.filterMap_cons, ih]
              rfl
          rw [e6] at e5
          exact ⟨p5, _, rfl, s4.trans s5, s14.free hp5, by rw [etk]; exact e5⟩
      · obtain ⟨b, y, rfl, s4, hb0, eb⟩ := pv
        rw [List.length_map, Nat.sub_self, List.drop_zero] at eb
        obtain ⟨kin, klen⟩ := backL_ok wy.ts ok.perm b1 bin
        have s14 := s13.trans s4
        have ha4 := s14.seq ha
        walk_at "r"
        refine ⟨v, b, wy, _, rfl, hwy.same s14, ok, sl_of eb, kin, by omega, fun p5 H5 hp5 s5 e5 => ?_⟩
        have ha5 := s5.seq ha4
        walk_at "r"
        refine i_eqL (sl_of e5) ha5 ?_
        walk_at "r"
        refine i_br (fun c5 => ?_) (fun c5 => ?_)
        · walk_at "r"
          refine hq.1 _ ?_ b _ hb0 (s14.trans s5) (s5 _ _ eb)
          unfold readW
          rw [if_pos hfr, hb1]
          dsimp only
          rw [if_pos ⟨by omega, c5⟩]
        · walk_at "r"
          refine hq.2 ?_ _ (s14.trans s5)
          unfold readW
          rw [if_pos hfr, hb1]
          dsimp only
          rw [if_neg fun z => c5 z.2]
    · walk_at "r"
      refine i_yes rfl ?_
      walk_at "r"
      refine hq.2 ?_ _ (s12.trans s3)
      unfold readW
      rw [if_pos hfr, hno]
def spFramed (K : PySem.W.Frag) : Sp := fun vs H Q _ => ∃ (v : V) (b : Addr) (wy : Way) (body : List Int), vs = [v, .ref b] ∧ WayAt K H v wy ∧ wy.Ok ∧ SqL K H b (body.map V.int) ∧ (∀ x ∈ body, 0 ≤ x ∧ x < wy.t) ∧ body.length ≤ 60 ∧
  ∀ q H', H q = none → Same H H' → H' q = some (.lst ((frameW wy body).map V.int)) → Q (.ref q) H'
theorem c_framed (c_need_way : C8.Cal P w K mg base 7 "need_way" (spNeedW K) []) (c_need_body : C8.Cal P w K mg base 4 "need_body" (spBodyN K 60) []) (c_frame_of : C8.Cal P w K mg base 3 "frame_of" (spFrameW K) []) (d : Dd K mg "framed" s_framed P_framed) : C8.Cal P w K mg base 8 "framed" (spFramed K) [] := by
  refine d.cal sc_framed (fun vs H Q E h => ?_) (fun f cdv A outer s H vs Q E hr h => ?_)
  · obtain ⟨v, b, wy, body, rfl, _⟩ := h
    rfl
  · obtain ⟨v, b, wy, body, rfl, hw, ok, hb, hin, hlen, q⟩ := h
    have nd := sc_framed.nd
    refine ⟨_, (pss_cons (ps_expr (C8.pe_c c_need_way hr (by decide) (by rfl) (pa_cons (pv 0) pa_nil)))
  (pss_cons (ps_expr (C8.pe_c c_need_body hr (by decide) (by rfl) (pa_cons (pv 0) (pa_cons (pv 1) pa_nil))))
  (pss_one (ps_ret (C8.pe_c c_frame_of hr (by decide) (by rfl) (pa_cons (pv 0) (pa_cons (pv 1) pa_nil))))))), ?_⟩
    refine i_start (σ' := [some v, some (.ref b)]) rfl ?_
    walk_at "go"
    walk_at "r"
    refine ⟨v, wy, rfl, hw, ok, fun H1 s1 => ?_⟩
    walk_at "r"
    refine ⟨v, b, wy, body, rfl, hw.same s1, ok, s1.seq hb, hin, hlen, fun H2 s2 => ?_⟩
    walk_at "r"
    exact ⟨v, b, wy, body, rfl, (hw.same s1).same s2, ok, s2.seq (s1.seq hb), hin, by omega, fun p3 H3 hp3 s3 e3 => q p3 H3 (s1.free (s2.free hp3)) (s1.trans (s2.trans s3)) e3⟩
def spTakenB (K : PySem.W.Frag) : Sp := fun vs H Q _ => ∃ (v : V) (a : Addr) (wy : Way) (ns : List Int), vs = [v, .ref a] ∧ WayAt K H v wy ∧ wy.Ok ∧ SqL K H a (ns.map V.int) ∧ (∀ x ∈ ns, 0 ≤ x ∧ x < wy.t) ∧ ns.length ≤ 400 ∧ TellO H (readW wy ns) Q
theorem c_body_of (c_need_way : C8.Cal P w K mg base 7 "need_way" (spNeedW K) []) (c_need_signs : C8.Cal P w K mg base 4 "need_signs" (spBodyN K 400) []) (c_taken_out : C8.Cal P w K mg base 4 "taken_out" (spTakenR K) []) (d : Dd K mg "body_of" s_body_of P_body_of) : C8.Cal P w K mg base 8 "body_of" (spTakenB K) [] := by
  refine d.cal sc_body_of (fun vs H Q E h => ?_) (fun f cdv A outer s H vs Q E hr h => ?_)
  · obtain ⟨v, a, wy, ns, rfl, _⟩ := h
    rfl
  · obtain ⟨v, a, wy, ns, rfl, hw, ok, ha, hns, hl, hq⟩ := h
    have nd := sc_body_of.nd
    refine ⟨_, (pss_cons (ps_expr (C8.pe_c c_need_way hr (by decide) (by rfl) (pa_cons (pv 0) pa_nil)))
  (pss_cons (ps_expr (C8.pe_c c_need_signs hr (by decide) (by rfl) (pa_cons (pv 0) (pa_cons (pv 1) pa_nil))))
  (pss_one (ps_ret (C8.pe_c c_taken_out hr (by decide) (by rfl) (pa_cons (pv 0) (pa_cons (pv 1) pa_nil))))))), ?_⟩
    refine i_start (σ' := [some v, some (.ref a)]) rfl ?_
    walk_at "go"
    walk_at "r"
    refine ⟨v, wy, rfl, hw, ok, fun H1 s1 => ?_⟩
    walk_at "r"
    refine ⟨v, a, wy, ns, rfl, hw.same s1, ok, s1.seq ha, hns, hl, fun H2 s2 => ?_⟩
    walk_at "r"
    have s12 := s1.trans s2
    exact ⟨v, a, wy, ns, rfl, hw.same s12, ok, s12.seq ha, hns, by omega, hq.mono s12⟩
end
end Esc

/-! The longest frames. -/
namespace Esc
open PySem PySem.Spec PyProof.Rows L2
/-! ### how long frames by counts are -/
theorem groupB_size {cn : List Int} {w : Nat} (h0 : 0 < w) : ∀ (n : Nat) (row : List Int), row.length = n → (groupB cn w row).length = row.length + row.length / w + 1 := by
  intro n
  induction n using Nat.strongRecOn with
  | ind n ih =>
    intro row hn
    by_cases h : w ≤ row.length
    · have z := ih (row.length - w) (by omega) (row.drop w) (List.length_drop ..)
      rw [List.length_drop] at z
      have d : row.length / w = (row.length - w) / w + 1 := by
        rw [← Nat.div_eq_sub_div h0 h]
      rw [groupB_more h0 h, List.length_cons, List.length_append, List.length_take, z, d]
      omega
    · rw [groupB_last (by omega), List.length_cons, Nat.div_eq_of_lt (by omega)]
theorem div_add_le {w : Nat} (h0 : 0 < w) (a b : Nat) : a / w + b / w ≤ (a + b) / w := by
  rw [Nat.le_div_iff_mul_le h0, Nat.add_mul]
  exact Nat.add_le_add (Nat.div_mul_le_self a w) (Nat.div_mul_le_self b w)
def flr (w : Nat) (rs : List (List Int)) : Nat := (rs.map fun r => r.length / w).sum
theorem full_size {cn : List Int} {w : Nat} (h0 : 0 < w) : ∀ rs : List (List Int), (full cn w rs).length = (rs.map List.length).sum + flr w rs + rs.length
  | [] => rfl
  | r :: rs => by
    rw [full_cons, List.length_append, full_size h0 rs, groupB_size h0 _ r rfl]
    unfold flr
    rw [List.map_cons, List.sum_cons, List.map_cons, List.sum_cons, List.length_cons]
    omega
theorem flr_le {w : Nat} (h0 : 0 < w) : ∀ rs : List (List Int), flr w rs ≤ (rs.map List.length).sum / w
  | [] => Nat.zero_le _
  | r :: rs => by
    have ih := flr_le h0 rs
    unfold flr at ih ⊢
    rw [List.map_cons, List.sum_cons, List.map_cons, List.sum_cons]
    have z := div_add_le h0 r.length (rs.map List.length).sum
    exact Nat.le_trans (Nat.add_le_add_left ih _) z
/-- the rows of a body and how many there are -/
theorem rows_size (e : Int) (body : List Int) : ((rowsB e body).map List.length).sum + (rowsB e body).length = body.length + 1 := by
  obtain ⟨rs, ls, h, s⟩ := rowsB_all e body
  rw [h, List.map_append, List.sum_append, List.length_append]
  simp
  omega
theorem cntB_size {t e l : Int} (hl2 : 2 ≤ l) (body : List Int) : (cntB t e l body).length = body.length + 1 + flr (l.toNat - 1) (rowsB e body) - (if (rowsB e body).getLastD [] ≠ [] ∧ ((rowsB e body).getLastD []).length % (l.toNat - 1) = 0 then 1 else 0) := by
  have z := rows_size e body
  have f : ((rowsB e body).flatMap (groupB ((plainL t e).take l.toNat) (l.toNat - 1))).length = body.length + 1 + flr (l.toNat - 1) (rowsB e body) := by
    have y := full_size (cn := (plainL t e).take l.toNat) (w := l.toNat - 1) (by omega) (rowsB e body)
    unfold full at y
    omega
  unfold cntB
  dsimp only
  split
  · rw [List.length_dropLast, f]
  · rw [f]
    omega
/-- as many as a row of one sign takes -/
def cRow (w n : Nat) : Nat := if n = 0 then 1 else n + (n - 1) / w + 1
theorem cRow_mono {w : Nat} (h0 : 0 < w) {m n : Nat} (h : m ≤ n) : cRow w m ≤ cRow w n := by
  unfold cRow
  by_cases a : m = 0
  · rw [if_pos a]
    generalize (n - 1) / w = q
    split <;> omega
  · rw [if_neg a, if_neg (by omega)]
    have z := Nat.div_le_div_right (c := w) (show m - 1 ≤ n - 1 by omega)
    generalize (m - 1) / w = q1 at z ⊢
    generalize (n - 1) / w = q2 at z ⊢
    omega
theorem div_pred {w n : Nat} (h0 : 0 < w) (hn : 0 < n) : n / w = (n - 1) / w + (if n % w = 0 then 1 else 0) := by
  obtain ⟨m, rfl⟩ : ∃ m, n = m + 1 := ⟨n - 1, by omega⟩
  rw [Nat.add_sub_cancel]
  rw [Nat.succ_div]
  by_cases c : w ∣ m + 1
  · rw [if_pos c, if_pos (Nat.mod_eq_zero_of_dvd c)]
  · rw [if_neg c, if_neg fun z => c (Nat.dvd_of_mod_eq_zero z)]
theorem cntB_le {t e l : Int} (hl2 : 2 ≤ l) (body : List Int) : (cntB t e l body).length ≤ cRow (l.toNat - 1) body.length := by
  have w0 : 0 < l.toNat - 1 := by omega
  rw [cntB_size hl2]
  generalize l.toNat - 1 = w at w0
  obtain ⟨rs, ls, h, s⟩ := rowsB_all e body
  have fl := flr_le w0 rs
  have e1 : flr w (rowsB e body) = flr w rs + ls.length / w := by
    rw [h]
    unfold flr
    rw [List.map_append, List.sum_append]
    simp
  have e2 : (rowsB e body).getLastD [] = ls := by rw [h, List.getLastD_concat]
  rw [e1, e2]
  by_cases c : rs = []
  · subst c
    have lb : ls.length = body.length := by simpa using s
    have f0 : flr w ([] : List (List Int)) = 0 := rfl
    rw [f0]
    by_cases n0 : ls = []
    · rw [n0] at lb
      have lb : 0 = body.length := lb
      rw [if_neg (by simp [n0]), ← lb, n0]
      simp [cRow]
    · have lp := List.length_pos_iff.mpr n0
      unfold cRow
      rw [← lb, if_neg (show ¬ ls.length = 0 by omega)]
      have z := div_pred w0 lp
      generalize (ls.length - 1) / w = q2 at z ⊢
      generalize ls.length / w = q4 at z ⊢
      by_cases m : ls.length % w = 0
      · rw [if_pos ⟨n0, m⟩]
        rw [if_pos m] at z
        omega
      · rw [if_neg fun z => m z.2]
        rw [if_neg m] at z
        omega
  · have lr := List.length_pos_iff.mpr c
    unfold cRow
    rw [if_neg (show ¬ body.length = 0 by omega)]
    have z := div_add_le w0 (rs.map List.length).sum ls.length
    have z2 : ((rs.map List.length).sum + ls.length) / w ≤ (body.length - 1) / w := Nat.div_le_div_right (by omega)
    generalize ((rs.map List.length).sum + ls.length) / w = q1 at z z2
    generalize (body.length - 1) / w = q2 at z2 ⊢
    generalize (rs.map List.length).sum / w = q3 at z fl
    generalize ls.length / w = q4 at z ⊢
    generalize flr w rs = q5 at fl ⊢
    split <;> omega
theorem rows_rep {e x : Int} (h : x ≠ e) : ∀ n : Nat, rowsB e (List.replicate n x) = [List.replicate n x]
  | 0 => rfl
  | n + 1 => by
    rw [List.replicate_succ', rowsB_snoc, rows_rep h n]
    exact stepR_in h [] _
theorem cntB_rep {t e l x : Int} (hl2 : 2 ≤ l) (h : x ≠ e) (n : Nat) : (cntB t e l (List.replicate n x)).length = cRow (l.toNat - 1) n := by
  have w0 : 0 < l.toNat - 1 := by omega
  rw [cntB_size hl2, rows_rep h]
  generalize l.toNat - 1 = w at w0
  unfold flr cRow
  simp only [List.map_cons, List.map_nil, List.sum_cons, List.sum_nil, List.length_replicate, List.getLastD_cons, List.getLastD_nil, Nat.add_zero]
  by_cases c : n = 0
  · subst c
    simp
  · have z := div_pred w0 (by omega : 0 < n)
    have ne : List.replicate n x ≠ [] := by
      intro q
      have := congrArg List.length q
      simp at this
      exact c this
    rw [if_neg c]
    generalize (n - 1) / w = q2 at z ⊢
    generalize n / w = q4 at z ⊢
    by_cases m : n % w = 0
    · rw [if_pos m] at z
      rw [if_pos ⟨ne, m⟩]
      omega
    · rw [if_neg m] at z
      rw [if_neg fun z => m z.2]
      omega
/-! ### by ranks -/
theorem rank_rep {n : Nat} (hn : 0 < n) : ∀ k : Nat, aheadD n (k + 1) ≤ rankD n (List.replicate k (n - 1)) + 1
  | 0 => Nat.le_refl _
  | k + 1 => by
    have ih := rank_rep hn k
    rw [List.replicate_succ', rankD_snoc]
    have z := ahead_mul n (k + 1)
    have y : aheadD n (k + 1 + 1) = aheadD n (k + 1) + n ^ (k + 1) := rfl
    rw [y, ← z]
    have m1 : aheadD n (k + 1) * n ≤ (rankD n (List.replicate k (n - 1)) + 1) * n := Nat.mul_le_mul_right _ ih
    rw [Nat.add_mul, Nat.one_mul] at m1
    omega
theorem rank_most {n : Nat} (hn : 0 < n) {ds : List Nat} {k : Nat} (hk : ds.length ≤ k) (h : ∀ d ∈ ds, d < n) : rankD n ds ≤ rankD n (List.replicate k (n - 1)) := by
  have a := rank_val n ds.length ds rfl
  have b := val_lt ds.length ds rfl h
  have c := ahead_mono n (show ds.length + 1 ≤ k + 1 by omega)
  have d := rank_rep hn k
  have y : aheadD n (ds.length + 1) = aheadD n ds.length + n ^ ds.length := rfl
  omega
theorem rowR_most {t e : Int} (h3 : 3 ≤ t) (h0 : 0 ≤ e) (h1 : e < t) {body : List Int} {k : Nat} (hk : body.length ≤ k) (h : ∀ x ∈ body, 0 ≤ x ∧ x < t) : (rowR t e body).length ≤ (rowR t e (List.replicate k (t - 1))).length := by
  have np := plain_len h0 h1
  unfold rowR letters
  rw [List.length_map, List.length_map]
  have e1 : digits (countL t) (List.replicate k (t - 1)) = List.replicate k (t.toNat - 1) := by
    unfold digits
    rw [List.map_replicate]
    congr 1
    have m : (countL t)[t.toNat - 1]? = some (t - 1) := by
      unfold countL
      rw [List.getElem?_map, List.getElem?_range (by omega)]
      show some ((t.toNat - 1 : Nat) : Int) = _
      congr 1
      omega
    obtain ⟨g1, g2⟩ := List.getElem?_eq_some_iff.mp m
    rw [← g2]
    exact List.Nodup.idxOf_getElem (count_nodup t) _ g1
  rw [e1]
  refine row_len_mono (by omega) (Nat.le_refl _) _ _ (rank_most (by omega) (by unfold digits; rw [List.length_map]; exact hk) fun d hd => ?_)
  rw [← count_len]
  exact digits_lt (fun x hx => count_mem.mpr (h x hx)) d hd
/-! ### one sign at all places is as bad as any -/
theorem codesB_most {cs : List (List Int)} {L : Nat} (h : ∀ c ∈ cs, c.length ≤ L) : ∀ body : List Int, (codesB cs body).length ≤ L * body.length
  | [] => Nat.zero_le _
  | x :: r => by
    have ih := codesB_most h r
    unfold codesB at ih ⊢
    rw [List.flatMap_cons, List.length_append, List.length_cons, Nat.mul_add, Nat.mul_one]
    have z : (cs.getD x.toNat []).length ≤ L := by
      rw [List.getD_eq_getElem?_getD]
      cases e : cs[x.toNat]? with
      | none => exact Nat.zero_le _
      | some c => exact h c (List.mem_of_getElem? e)
    omega
theorem flat_rep {f : Int → List Int} (x : Int) : ∀ n : Nat, ((List.replicate n x).flatMap f).length = n * (f x).length
  | 0 => by simp
  | n + 1 => by
    rw [List.replicate_succ, List.flatMap_cons, List.length_append, flat_rep x n, Nat.add_mul, Nat.one_mul, Nat.add_comm]
theorem longest : ∀ cs : List (List Int), cs ≠ [] → ∃ (i : Nat) (h : i < cs.length), ∀ c ∈ cs, c.length ≤ (cs[i]).length
  | [], h => absurd rfl h
  | [c], _ => ⟨0, by simp, fun d hd => by rw [List.mem_singleton.mp hd]; exact Nat.le_refl _⟩
  | c :: d :: cs, _ => by
    obtain ⟨i, hi, hm⟩ := longest (d :: cs) (by simp)
    by_cases z : c.length ≤ ((d :: cs)[i]).length
    · refine ⟨i + 1, by simpa using hi, fun x hx => ?_⟩
      rcases List.mem_cons.mp hx with rfl | m
      · exact z
      · exact hm x m
    · refine ⟨0, by simp, fun x hx => ?_⟩
      rcases List.mem_cons.mp hx with rfl | m
      · exact Nat.le_refl _
      · exact Nat.le_trans (hm x m) (by show _ ≤ c.length; omega)
theorem rowOf_most {t e : Int} {k : Kind} (ok : KindOk t e k) (h3 : 3 ≤ t) (h0 : 0 ≤ e) (h1 : e < t) (n : Nat) : ∃ s : Int, 0 ≤ s ∧ s < t ∧ ∀ body : List Int, (∀ x ∈ body, 0 ≤ x ∧ x < t) → body.length ≤ n → (rowOf t e k body).length ≤ (rowOf t e k (List.replicate n s)).length := by
  cases k with
  | codes cs =>
    obtain ⟨hl, hok, _⟩ := ok
    obtain ⟨i, hi, hm⟩ := longest cs (fun z => by rw [z] at hl; have : (0 : Nat) = t.toNat := hl; omega)
    refine ⟨(i : Int), by omega, by omega, fun body _ hn => ?_⟩
    show (codesB cs body).length ≤ (codesB cs (List.replicate n (i : Int))).length
    have z := codesB_most hm body
    have y : (codesB cs (List.replicate n (i : Int))).length = n * (cs[i]).length := by
      unfold codesB
      rw [flat_rep, Int.toNat_natCast, List.getD_eq_getElem?_getD, List.getElem?_eq_getElem hi]
      rfl
    rw [y, Nat.mul_comm]
    exact Nat.le_trans z (Nat.mul_le_mul_left _ hn)
  | escapes m prs =>
    obtain ⟨hm, hw, hr0, he1, hm1, hcp, hcn⟩ := ok
    refine ⟨m, hm.1, hm.2.1, fun body _ hn => ?_⟩
    show (escB m prs body).length ≤ (escB m prs (List.replicate n m)).length
    have z := escB_len m prs body
    have hnf : (prs.map (·.1)).Nodup := hw.imp fun h => by omega
    obtain ⟨pc, hpc, e1⟩ := List.mem_map.mp hm1
    have zz := look_mem hnf hpc
    rw [e1] at zz
    have y : (escB m prs (List.replicate n m)).length = n * 2 := by
      unfold escB
      rw [flat_rep, escS_some zz]
      rfl
    rw [y]
    omega
  | counts l =>
    obtain ⟨hl2, hlt⟩ := ok
    have np := plain_len h0 h1
    obtain ⟨x, hx⟩ : ∃ x, x ∈ plainL t e := ⟨(plainL t e)[0]'(by omega), List.getElem_mem _⟩
    have px := plain_mem.mp hx
    refine ⟨x, px.1, px.2.1, fun body _ hn => ?_⟩
    show (cntB t e l body).length ≤ (cntB t e l (List.replicate n x)).length
    rw [cntB_rep hl2 px.2.2]
    exact Nat.le_trans (cntB_le hl2 body) (cRow_mono (by omega) hn)
  | ranks => exact ⟨t - 1, by omega, by omega, fun body h hn => rowR_most h3 h0 h1 hn h⟩
theorem turnL_rep (ts : List (List Int)) (s : Int) (n : Nat) : ∃ s', ∀ m, turnL ts (List.replicate m s) = List.replicate m s' := by
  induction ts generalizing s with
  | nil => exact ⟨s, fun m => rfl⟩
  | cons p ts ih =>
    obtain ⟨s', h⟩ := ih (p.getD s.toNat 0)
    refine ⟨s', fun m => ?_⟩
    show turnL ts (turnS p (List.replicate m s)) = _
    unfold turnS
    rw [List.map_replicate]
    exact h m
theorem frameW_most {wy : Way} (ok : wy.Ok) (n : Nat) : ∃ s : Int, 0 ≤ s ∧ s < wy.t ∧ ∀ body : List Int, (∀ x ∈ body, 0 ≤ x ∧ x < wy.t) → body.length ≤ n → (frameW wy body).length ≤ (frameW wy (List.replicate n s)).length := by
  obtain ⟨s, s0, s1, h⟩ := rowOf_most ok.kind ok.t3 ok.e0 ok.e1 n
  have hr : ∀ x ∈ List.replicate n s, 0 ≤ x ∧ x < wy.t := fun x hx => by
    rw [(List.mem_replicate.mp hx).2]
    exact ⟨s0, s1⟩
  have hr1 : ∀ x ∈ List.replicate 1 s, 0 ≤ x ∧ x < wy.t := fun x hx => by
    rw [(List.mem_replicate.mp hx).2]
    exact ⟨s0, s1⟩
  obtain ⟨kin, klen⟩ := backL_ok wy.ts ok.perm (List.replicate 1 s) hr1
  obtain ⟨s2, hs2⟩ : ∃ s2, backL wy.ts (List.replicate 1 s) = [s2] := by
    match hb : backL wy.ts (List.replicate 1 s), klen with
    | [s2], _ => exact ⟨s2, rfl⟩
  rw [hs2] at kin
  have k2 := kin s2 List.mem_cons_self
  obtain ⟨s3, h3⟩ := turnL_rep wy.ts s2 1
  have e1 : turnL wy.ts [s2] = [s] := by
    rw [← hs2]
    exact turnL_backL wy.ts ok.perm _ hr1
  have e2 : s3 = s := by
    have z := h3 1
    rw [show List.replicate 1 s2 = [s2] from rfl, e1] at z
    exact (List.cons.inj z).1.symm
  refine ⟨s2, k2.1, k2.2, fun body hb hl => ?_⟩
  obtain ⟨tin, tlen⟩ := turnL_ok wy.ts ok.perm body hb
  unfold frameW
  rw [List.length_append, List.length_append, h3 n, e2]
  exact Nat.add_le_add_right (h _ tin (by omega)) _
/-! ### the loop over the signs -/
def wRoom (f : Nat → Nat) : Nat → Nat
  | 0 => 0
  | i + 1 => if f i > wRoom f i then f i else wRoom f i
def wSign (f : Nat → Nat) : Nat → Option Nat
  | 0 => none
  | i + 1 => if f i > wRoom f i then some i else wSign f i
theorem wRoom_ge (f : Nat → Nat) : ∀ (n i : Nat), i < n → f i ≤ wRoom f n
  | n + 1, i, h => by
    rw [wRoom]
    rcases Nat.lt_or_ge i n with c | c
    · have z := wRoom_ge f n i c
      split <;> omega
    · have e : i = n := by omega
      subst e
      split <;> omega
theorem wSign_some (f : Nat → Nat) (hf : ∀ i, 0 < f i) : ∀ n : Nat, 0 < n → ∃ i, i < n ∧ wSign f n = some i ∧ f i = wRoom f n
  | 1, _ => by
    refine ⟨0, by decide, ?_, ?_⟩
    · show (if f 0 > 0 then some 0 else none) = some 0
      rw [if_pos (hf 0)]
    · show f 0 = if f 0 > 0 then f 0 else 0
      rw [if_pos (hf 0)]
  | n + 2, _ => by
    obtain ⟨i, h1, h2, h3⟩ := wSign_some f hf (n + 1) (by omega)
    have q1 : wSign f (n + 2) = if f (n + 1) > wRoom f (n + 1) then some (n + 1) else wSign f (n + 1) := rfl
    have q2 : wRoom f (n + 2) = if f (n + 1) > wRoom f (n + 1) then f (n + 1) else wRoom f (n + 1) := rfl
    rw [q1, q2]
    by_cases c : f (n + 1) > wRoom f (n + 1)
    · rw [if_pos c, if_pos c]
      exact ⟨n + 1, by omega, rfl, rfl⟩
    · rw [if_neg c, if_neg c]
      exact ⟨i, by omega, h2, h3⟩
/-- how long the frame of so many of one sign is -/
def sizeS (wy : Way) (n : Nat) (i : Nat) : Nat := (frameW wy (List.replicate n (i : Int))).length
def worstR (wy : Way) (n : Nat) : Nat := wRoom (sizeS wy n) wy.t.toNat
def worstBi (wy : Way) (n i : Nat) : List Int := match wSign (sizeS wy n) i with
  | none => []
  | some s => List.replicate n (s : Int)
def worstB (wy : Way) (n : Nat) : List Int := worstBi wy n wy.t.toNat
theorem frameW_pos (wy : Way) (b : List Int) : 0 < (frameW wy b).length := by
  unfold frameW
  rw [List.length_append, List.length_singleton]
  omega
theorem worst_ok {wy : Way} (ok : wy.Ok) (n : Nat) : (worstB wy n).length = n ∧ (∀ x ∈ worstB wy n, 0 ≤ x ∧ x < wy.t) ∧ (frameW wy (worstB wy n)).length = worstR wy n ∧ ∀ body : List Int, (∀ x ∈ body, 0 ≤ x ∧ x < wy.t) → body.length ≤ n → (frameW wy body).length ≤ worstR wy n := by
  have t3 := ok.t3
  obtain ⟨i, h1, h2, h3⟩ := wSign_some (sizeS wy n) (fun i => frameW_pos _ _) wy.t.toNat (by omega)
  have e : worstB wy n = List.replicate n (i : Int) := by
    unfold worstB worstBi
    rw [h2]
  rw [e]
  refine ⟨List.length_replicate, fun x hx => ?_, h3, fun body hb hl => ?_⟩
  · rw [(List.mem_replicate.mp hx).2]
    omega
  · obtain ⟨s, s0, s1, h⟩ := frameW_most ok n
    refine Nat.le_trans (h body hb hl) ?_
    have z := wRoom_ge (sizeS wy n) wy.t.toNat s.toNat (by omega)
    have y : ((s.toNat : Nat) : Int) = s := Int.toNat_of_nonneg s0
    unfold sizeS at z
    rw [y] at z
    exact z
end Esc

namespace Esc
open PySem PySem.Spec PyProof.Rows L2
theorem i_rep {H : Hp} {Q : VK} {l : Addr} {k : Int} {xs : List V} (h : H l = some (.lst xs)) (hk : 0 ≤ k ∧ k ≤ 1000) (hz : xs.length * k.toNat ≤ 100000) (q : ∀ p H', H p = none → Same H H' → H' p = some (.lst (List.replicate k.toNat xs).flatten) → Q (.ref p) H') : rRep (.ref l) (.int k) H Q :=
  ⟨l, k, xs, rfl, rfl, h, by omega, by omega, sz hz, grow q⟩
theorem rep_map (n : Nat) (xs : List Int) : (List.replicate n (xs.map V.int)).flatten = ((List.replicate n xs).flatten).map V.int := by
  rw [List.map_flatten, List.map_replicate]
theorem rep_one (n : Nat) (x : Int) : (List.replicate n [x]).flatten = List.replicate n x := by
  induction n with
  | zero => rfl
  | succ n ih =>
    rw [List.replicate_succ, List.flatten_cons, ih]
    rfl
/-- [x] * n -/
theorem i_rep1 {H : Hp} {Q : VK} {l : Addr} {k x : Int} (h : H l = some (.lst [.int x])) (hk : 0 ≤ k ∧ k ≤ 1000) (q : ∀ p H', H p = none → Same H H' → H' p = some (.lst ((List.replicate k.toNat x).map V.int)) → Q (.ref p) H') : rRep (.ref l) (.int k) H Q := by
  refine i_rep (xs := [.int x]) h hk (by show 1 * k.toNat ≤ 100000; omega) fun p H' hp s e => q p H' hp s ?_
  rw [e, show [V.int x] = [x].map V.int from rfl, rep_map, rep_one]
/-! ### all bodies -/
def longerB (t : Int) (rows : List (List Int)) : List (List Int) := rows.flatMap fun row => (countL t).map fun s => row ++ [s]
def aheadB (t : Int) : Nat → List (List Int)
  | 0 => [[]]
  | n + 1 => longerB t (aheadB t n)
def bodiesB (t : Int) : Nat → List (List Int)
  | 0 => [[]]
  | n + 1 => bodiesB t n ++ aheadB t (n + 1)
theorem longerB_snoc (t : Int) (rows : List (List Int)) (row : List Int) : longerB t (rows ++ [row]) = longerB t rows ++ (countL t).map fun s => row ++ [s] := by
  unfold longerB
  rw [List.flatMap_append, List.flatMap_cons, List.flatMap_nil, List.append_nil]
theorem longerB_len (t : Int) : ∀ rows : List (List Int), (longerB t rows).length = t.toNat * rows.length
  | [] => rfl
  | r :: rows => by
    have ih := longerB_len t rows
    unfold longerB at ih ⊢
    rw [List.flatMap_cons, List.length_append, ih, List.length_map, count_len, List.length_cons, Nat.mul_add, Nat.mul_one, Nat.add_comm]
theorem longer_take (t : Int) (rows : List (List Int)) (i : Nat) : (longerB t (rows.take i)).length ≤ (longerB t rows).length := by
  rw [longerB_len, longerB_len, List.length_take]
  exact Nat.mul_le_mul_left _ (Nat.min_le_right _ _)
theorem aheadB_mem {t : Int} : ∀ {n : Nat} {b : List Int}, b ∈ aheadB t n ↔ b.length = n ∧ ∀ x ∈ b, 0 ≤ x ∧ x < t
  | 0, b => by
    rw [show aheadB t 0 = [[]] from rfl, List.mem_singleton]
    exact ⟨fun h => by rw [h]; exact ⟨rfl, fun x hx => by cases hx⟩, fun h => List.length_eq_zero_iff.mp h.1⟩
  | n + 1, b => by
    show b ∈ longerB t (aheadB t n) ↔ _
    unfold longerB
    rw [List.mem_flatMap]
    constructor
    · rintro ⟨row, hr, hb⟩
      obtain ⟨s, hs, rfl⟩ := List.mem_map.mp hb
      obtain ⟨h1, h2⟩ := aheadB_mem.mp hr
      refine ⟨by rw [List.length_append, h1]; rfl, fun x hx => ?_⟩
      rcases List.mem_append.mp hx with m | m
      · exact h2 x m
      · rw [List.mem_singleton.mp m]
        exact count_mem.mp hs
    · rintro ⟨h1, h2⟩
      have hne : b ≠ [] := fun e => by
        rw [e] at h1
        cases h1
      have e := List.dropLast_concat_getLast hne
      refine ⟨b.dropLast, aheadB_mem.mpr ⟨by rw [List.length_dropLast, h1]; rfl, fun x hx => h2 x (mem_dl hx)⟩, List.mem_map.mpr ⟨b.getLast hne, count_mem.mpr (h2 _ (List.getLast_mem hne)), e⟩⟩
theorem bodiesB_mem {t : Int} : ∀ {n : Nat} {b : List Int}, b ∈ bodiesB t n ↔ b.length ≤ n ∧ ∀ x ∈ b, 0 ≤ x ∧ x < t
  | 0, b => by
    show b ∈ aheadB t 0 ↔ _
    rw [aheadB_mem, Nat.le_zero]
  | n + 1, b => by
    show b ∈ bodiesB t n ++ aheadB t (n + 1) ↔ _
    rw [List.mem_append, bodiesB_mem, aheadB_mem]
    constructor
    · rintro (⟨h1, h2⟩ | ⟨h1, h2⟩)
      · exact ⟨by omega, h2⟩
      · exact ⟨by omega, h2⟩
    · rintro ⟨h1, h2⟩
      by_cases c : b.length = n + 1
      · exact .inr ⟨c, h2⟩
      · exact .inl ⟨by omega, h2⟩
theorem longerB_nodup {t : Int} : ∀ {rows : List (List Int)}, rows.Nodup → (longerB t rows).Nodup
  | [], _ => List.nodup_nil
  | r :: rows, h => by
    obtain ⟨h1, h2⟩ := List.nodup_cons.mp h
    have ih := longerB_nodup (t := t) h2
    unfold longerB at ih ⊢
    rw [List.flatMap_cons]
    refine List.nodup_append.mpr ⟨?_, ih, ?_⟩
    · refine List.Pairwise.map _ (fun a b hab z => hab ?_) (count_nodup t)
      have q := List.append_cancel_left z
      exact (List.cons.inj q).1
    · intro x hx y hy z
      subst z
      obtain ⟨s, _, rfl⟩ := List.mem_map.mp hx
      obtain ⟨row, hr, hb⟩ := List.mem_flatMap.mp hy
      obtain ⟨s2, _, e⟩ := List.mem_map.mp hb
      have q := (List.append_inj' e rfl).1
      exact h1 (q ▸ hr)
theorem aheadB_nodup (t : Int) : ∀ n : Nat, (aheadB t n).Nodup
  | 0 => by
    show [([] : List Int)].Nodup
    simp
  | n + 1 => longerB_nodup (aheadB_nodup t n)
theorem bodiesB_nodup (t : Int) : ∀ n : Nat, (bodiesB t n).Nodup
  | 0 => by
    show [([] : List Int)].Nodup
    simp
  | n + 1 => by
    refine List.nodup_append.mpr ⟨bodiesB_nodup t n, aheadB_nodup t (n + 1), fun x hx y hy z => ?_⟩
    subst z
    have a := (bodiesB_mem.mp hx).1
    have b := (aheadB_mem.mp hy).1
    omega
theorem ahead_le (t : Int) : ∀ n : Nat, (aheadB t n).length ≤ (bodiesB t n).length
  | 0 => Nat.le_refl _
  | n + 1 => by
    show _ ≤ (bodiesB t n ++ aheadB t (n + 1)).length
    rw [List.length_append]
    omega
theorem bodies_mono (t : Int) {m : Nat} : ∀ {n : Nat}, m ≤ n → (bodiesB t m).length ≤ (bodiesB t n).length := fun {n} h => by
  induction n with
  | zero =>
    rw [Nat.le_zero.mp h]
    exact Nat.le_refl _
  | succ n ih =>
    rcases Nat.lt_or_ge m (n + 1) with c | c
    · have z := ih (by omega)
      show _ ≤ (bodiesB t n ++ aheadB t (n + 1)).length
      rw [List.length_append]
      omega
    · rw [show m = n + 1 by omega]
      exact Nat.le_refl _
section
variable {P : Program} {w : World} {K : PySem.W.Frag} {mg : Str → Option Value} {base : Heap}
theorem LstsAt.mem {H : Hp} : ∀ {as : List Addr} {cs : List (List Int)}, LstsAt H as cs → ∀ a ∈ as, ∃ c ∈ cs, H a = some (.lst (c.map V.int))
  | a :: as, c :: cs, ⟨h, r⟩, b, m => by
    rcases List.mem_cons.mp m with rfl | m
    · exact ⟨c, List.mem_cons_self, h⟩
    · obtain ⟨c2, m2, e⟩ := r.mem b m
      exact ⟨c2, List.mem_cons_of_mem _ m2, e⟩
/-- new ones -/
def Fr (H : Hp) (as : List Addr) : Prop := ∀ a ∈ as, H a = none
theorem Fr.app {H : Hp} {as bs : List Addr} (h : Fr H as) (k : Fr H bs) : Fr H (as ++ bs) := fun a ha => by
  rcases List.mem_append.mp ha with m | m
  · exact h a m
  · exact k a m
def spBodies : Sp := fun vs H Q _ => ∃ (t n : Int), vs = [.int t, .int n] ∧ 0 ≤ t ∧ t ≤ 16 ∧ 0 ≤ n ∧ n ≤ 100 ∧ (bodiesB t n.toNat).length ≤ 20000 ∧ ∀ r as H', H r = none → Same H H' → H' r = some (.lst (as.map V.ref)) → LstsAt H' as (bodiesB t n.toNat) → Fr H as → Q (.ref r) H'
def spPower : Sp := fun vs H Q _ => ∃ (a n : Int), vs = [.int a, .int n] ∧ 0 ≤ a ∧ a ≤ 1000 ∧ 0 ≤ n ∧ n ≤ 1000 ∧ Q (.int (a ^ n.toNat)) H
end
end Esc

/-! Lists of lists that grow while dice are thrown. -/
namespace Esc
open PySem PySem.Spec PyProof.Rows L2
theorem hide_at {d a : Addr} {H H' : Hp} {o : HO} (s : Same (hide d H) H') (n : a ≠ d) (h : H a = some o) : H' a = some o := s _ _ ((hide_ne n).trans h)
/-- good rows, each at its own place -/
def Rw (H : Hp) (d r : Addr) (t : Int) (n : Nat) (as : List Addr) : Prop := ∀ b ∈ as, b ≠ r ∧ b ≠ d ∧ ∃ ns : List Int, H b = some (.lst (ns.map V.int)) ∧ (∀ x ∈ ns, 0 ≤ x ∧ x < t) ∧ ns.length ≤ n
theorem Rw.step {H H' : Hp} {d r : Addr} {t : Int} {n : Nat} {as : List Addr} (s : Same (hide d H) H') (h : Rw H d r t n as) : Rw H' d r t n as := fun b hb => by
  obtain ⟨h1, h2, ns, e, k⟩ := h b hb
  exact ⟨h1, h2, ns, hide_at s h2 e, k⟩
theorem Rw.push {H : Hp} {d r b : Addr} {t : Int} {n : Nat} {as : List Addr} {o : HO} {ns : List Int} (h : Rw H d r t n as) (h1 : b ≠ r) (h2 : b ≠ d) (e : H b = some (.lst (ns.map V.int))) (k : ∀ x ∈ ns, 0 ≤ x ∧ x < t) (l : ns.length ≤ n) : Rw (upd H r o) d r t n (as ++ [b]) := fun c hc => by
  rcases List.mem_append.mp hc with m | m
  · obtain ⟨g1, g2, ms, f, k'⟩ := h c m
    exact ⟨g1, g2, ms, (upd_ne g1).trans f, k'⟩
  · rw [List.mem_singleton.mp m]
    exact ⟨h1, h2, ns, (upd_ne h1).trans e, k, l⟩
theorem rep_in {t x : Int} {k : Nat} (h : 0 ≤ x ∧ x < t) : ∀ y ∈ List.replicate k x, 0 ≤ y ∧ y < t := fun y hy => by
  rw [(List.mem_replicate.mp hy).2]
  exact h
theorem app_in {t : Int} {a b : List Int} (h : ∀ x ∈ a, 0 ≤ x ∧ x < t) (k : ∀ x ∈ b, 0 ≤ x ∧ x < t) : ∀ x ∈ a ++ b, 0 ≤ x ∧ x < t := fun x hx => by
  rcases List.mem_append.mp hx with m | m
  · exact h x m
  · exact k x m
theorem one_in {t y : Int} (h : 0 ≤ y ∧ y < t) : ∀ x ∈ [y], 0 ≤ x ∧ x < t := fun x hx => by
  rw [List.mem_singleton.mp hx]
  exact h
theorem take_in {t : Int} {a : List Int} {k : Nat} (h : ∀ x ∈ a, 0 ≤ x ∧ x < t) : ∀ x ∈ a.take k, 0 ≤ x ∧ x < t := fun x hx => h x (List.mem_of_mem_take hx)
theorem drop_in {t : Int} {a : List Int} {k : Nat} (h : ∀ x ∈ a, 0 ≤ x ∧ x < t) : ∀ x ∈ a.drop k, 0 ≤ x ∧ x < t := fun x hx => h x (List.mem_of_mem_drop hx)
end Esc

namespace Esc
open PySem PySem.Spec PyProof.Rows L2
section
variable {P : Program} {w : World} {K : PySem.W.Frag} {mg : Str → Option Value} {base : Heap}
def spWorst (K : PySem.W.Frag) : Sp := fun vs H Q _ => ∃ (v : V) (n : Int) (wy : Way), vs = [v, .int n] ∧ WayAt K H v wy ∧ wy.Ok ∧ 0 ≤ n ∧ n ≤ 100 ∧
  ∀ q b H', H q = none → H b = none → Same H H' → H' q = some (.tup [.int (worstR wy n.toNat : Nat), .ref b]) → H' b = some (.lst ((worstB wy n.toNat).map V.int)) → Q (.ref q) H'
theorem c_worst (Z : Blt mg) (c_need_way : C8.Cal P w K mg base 7 "need_way" (spNeedW K) []) (c_top_of : C8.Cal P w K mg base 2 "top_of" (spTopOf K) []) (c_frame_of : C8.Cal P w K mg base 3 "frame_of" (spFrameW K) []) (d : Dd K mg "worst" s_worst P_worst) : C8.Cal P w K mg base 8 "worst" (spWorst K) [] := by
  refine d.cal sc_worst (fun vs H Q E h => ?_) (fun f cdv A outer s H vs Q E hr h => ?_)
  · obtain ⟨v, n, wy, rfl, _⟩ := h
    rfl
  · obtain ⟨v, n, wy, rfl, hw, ok, n0, n1, q⟩ := h
    have nd := sc_worst.nd
    have t3 := ok.t3
    have t16 := ok.t16
    have nn : ((n.toNat : Nat) : Int) = n := Int.toNat_of_nonneg n0
    refine ⟨_, (pss_cons (ps_expr (C8.pe_c c_need_way hr (by decide) (by rfl) (pa_cons (pv 0) pa_nil)))
  (pss_cons (ps_set (i := 2) nd rfl (Or.inl rfl) pe_int)
  (pss_cons (ps_set (i := 3) nd rfl (Or.inl rfl) (pe_lst pa_nil))
  (pss_cons (ps_for PassesOwn.never rfl (pi_range1 rfl Z.range_ (pa_cons (C8.pe_c c_top_of hr (by decide) (by rfl) (pa_cons (pv 0) pa_nil)) pa_nil)) (pg_name (i := 4) nd rfl (Or.inl rfl))
    (pss_cons (ps_set (i := 5) nd rfl (Or.inl rfl) (pe_op op_rep (pe_lst (pa_cons (pv 4) pa_nil)) (pv 1)))
  (pss_cons (ps_set (i := 6) nd rfl (Or.inl rfl) (pe_callB k_len (by rfl) Z.len_ (by decide +kernel) (pa_cons (C8.pe_c c_frame_of hr (by decide) (by rfl) (pa_cons (pv 0) (pa_cons (pv 5) pa_nil))) pa_nil)))
  (pss_one (ps_if (pt_cmpR op_gt (pv 6) (pv 2) (nomark _)) (pss_cons (ps_set (i := 2) nd rfl (Or.inl rfl) (pv 6))
  (pss_one (ps_set (i := 3) nd rfl (Or.inl rfl) (pv 5)))) pss_nil)))))
  (pss_one (ps_ret (pe_tup (pa_cons (pv 2) (pa_cons (pv 3) pa_nil))))))))), ?_⟩
    refine i_start (σ' := [some v, some (.int n), none, none, none, none, none]) rfl ?_
    walk_at "go"
    walk_at "r"
    refine ⟨v, wy, rfl, hw, ok, fun H1 s1 => ?_⟩
    walk_at "r"
    refine i_lst (Nat.zero_le _) (fun b0 H2 hb0 s2 e2 => ?_)
    have s02 := s1.trans s2
    walk_at "r"
    refine ⟨v, wy, rfl, hw.same s02, ok, fun H3 s3 => ?_⟩
    have s03 := s02.trans s3
    walk_at "r"
    refine i_rng ⟨by omega, by omega⟩ (fun i σ' H' => ∃ b y1 y2 y3, σ' = [some v, some (.int n), some (.int (wRoom (sizeS wy n.toNat) i : Nat)), some (.ref b), y1, y2, y3] ∧ Same H H' ∧ H b = none ∧ H' b = some (.lst ((worstBi wy n.toNat i).map V.int)))
      ⟨b0, none, none, none, rfl, s03, s1.free hb0, s3 _ _ e2⟩ (fun i σ' H' hi pv => ?_) (fun σ' H' pv => ?_)
    · obtain ⟨b, y1, y2, y3, rfl, s4, hb, eb⟩ := pv
      have hin : ∀ x ∈ List.replicate n.toNat (i : Int), 0 ≤ x ∧ x < wy.t := fun x hx => by
        rw [(List.mem_replicate.mp hx).2]
        omega
      walk_at "r"
      refine i_lst (by show 1 ≤ sizeLine; decide) (fun l1 H5 hl1 s5 e5 => ?_)
      walk_at "r"
      refine i_rep1 e5 ⟨n0, by omega⟩ (fun l2 H6 hl2 s6 e6 => ?_)
      have s46 := (s4.trans s5).trans s6
      have eb6 := s6 _ _ (s5 _ _ eb)
      walk_at "r"
      refine ⟨v, l2, wy, _, rfl, hw.same s46, ok, sl_of e6, hin, by rw [List.length_replicate]; omega, fun p7 H7 hp7 s7 e7 => ?_⟩
      have s47 := s46.trans s7
      walk_at "r"
      have e8 : (frameW wy (List.replicate n.toNat (i : Int))).length = sizeS wy n.toNat i := rfl
      rw [e8]
      have e67 := s7 _ _ e6
      have eb7 := s7 _ _ eb6
      refine i_br (fun c => ?_) (fun c => ?_)
      · have c : sizeS wy n.toNat i > wRoom (sizeS wy n.toNat) i := by omega
        walk_at "r"
        refine ⟨l2, some (.int (i : Int)), some (.ref l2), some (.int (sizeS wy n.toNat i : Nat)), ?_, s47, (s4.trans s5).free hl2, ?_⟩
        · rw [wRoom, if_pos c]
        · unfold worstBi
          rw [wSign, if_pos c]
          exact e67
      · have c : ¬ sizeS wy n.toNat i > wRoom (sizeS wy n.toNat) i := by omega
        walk_at "r"
        refine ⟨b, some (.int (i : Int)), some (.ref l2), some (.int (sizeS wy n.toNat i : Nat)), ?_, s47, hb, ?_⟩
        · rw [wRoom, if_neg c]
        · unfold worstBi
          rw [wSign, if_neg c]
          exact eb7
    · obtain ⟨b, y1, y2, y3, rfl, s4, hb, eb⟩ := pv
      walk_at "r"
      refine i_tup (by show 2 ≤ sizeLine; decide) (fun q1 H5 hq1 s5 e5 => ?_)
      exact q q1 b H5 (s4.free hq1) hb (s4.trans s5) e5 (s5 _ _ eb)
end
end Esc

namespace Esc
open PySem PySem.Spec PyProof.Rows L2
/-! ### frames have more signs than their bodies -/
theorem codesB_ge {t e : Int} {cs : List (List Int)} (ok : CodesOk t e cs) (hl : cs.length = t.toNat) : ∀ body : List Int, (∀ x ∈ body, 0 ≤ x ∧ x < t) → body.length ≤ (codesB cs body).length
  | [], _ => Nat.le_refl _
  | x :: r, h => by
    have ih := codesB_ge ok hl r fun y m => h y (List.mem_cons_of_mem _ m)
    have hx := h x List.mem_cons_self
    have hxl : x.toNat < cs.length := by omega
    have z := (ok.1 cs[x.toNat] (List.getElem_mem hxl)).1
    rw [codesB_cons', List.length_append, List.length_cons, List.getD_eq_getElem?_getD, List.getElem?_eq_getElem hxl]
    show _ ≤ (cs[x.toNat]).length + _
    omega
theorem escB_ge (m : Int) (prs : List (Int × Int)) : ∀ body : List Int, body.length ≤ (escB m prs body).length
  | [] => Nat.le_refl _
  | x :: r => by
    have ih := escB_ge m prs r
    have z := List.length_pos_iff.mpr (escS_ne m prs x)
    rw [escB_cons, List.length_append, List.length_cons]
    omega
theorem cntB_ge {t e l : Int} (hl2 : 2 ≤ l) (body : List Int) : body.length ≤ (cntB t e l body).length := by
  rw [cntB_size hl2]
  generalize flr (l.toNat - 1) (rowsB e body) = q
  split <;> omega
theorem rowR_ge {t e : Int} (h3 : 3 ≤ t) (h0 : 0 ≤ e) (h1 : e < t) {body : List Int} (h : ∀ x ∈ body, 0 ≤ x ∧ x < t) : body.length ≤ (rowR t e body).length := by
  have np := plain_len h0 h1
  have z := row_len_mono (m := (plainL t e).length) (n := t.toNat) (by omega) (by omega) (rankD t.toNat (digits (countL t) body)) (rankD t.toNat (digits (countL t) body)) (Nat.le_refl _)
  rw [row_rank (by omega) _ _ rfl fun d hd => by
    rw [← count_len]
    exact digits_lt (fun x hx => count_mem.mpr (h x hx)) d hd] at z
  unfold rowR letters
  rw [List.length_map]
  unfold digits at z ⊢
  rw [List.length_map] at z
  exact z
theorem frameW_ge {wy : Way} (ok : wy.Ok) {body : List Int} (h : ∀ x ∈ body, 0 ≤ x ∧ x < wy.t) : body.length + 1 ≤ (frameW wy body).length := by
  obtain ⟨tin, tlen⟩ := turnL_ok wy.ts ok.perm body h
  unfold frameW
  rw [List.length_append, List.length_singleton, ← tlen]
  refine Nat.add_le_add_right ?_ 1
  have kd := ok.kind
  have t3 := ok.t3
  have e0 := ok.e0
  have e1 := ok.e1
  generalize wy.k = k at kd
  cases k with
  | codes cs => exact codesB_ge kd.2 kd.1 _ tin
  | escapes m prs => exact escB_ge m prs _
  | counts l => exact cntB_ge kd.1 _
  | ranks => exact rowR_ge t3 e0 e1 tin
/-! ### what stands in the dict -/
def dueL (l : List (List Int × Addr)) : List (List Key × V) := l.map fun p => (ks p.1, V.ref p.2)
theorem dueL_none : ∀ {l : List (List Int × Addr)} {row : List Int}, row ∉ l.map (·.1) → valV (dueL l) (ks row) = none
  | [], _, _ => rfl
  | p :: l, row, h => by
    show valV ((ks p.1, V.ref p.2) :: dueL l) _ = _
    rw [valV_neg (fun e => h (by rw [ks_inj e.symm]; exact List.mem_cons_self)), dueL_none fun m => h (List.mem_cons_of_mem _ m)]
theorem dueL_mem : ∀ {l : List (List Int × Addr)} {row : List Int} {a : Addr}, (l.map (·.1)).Nodup → (row, a) ∈ l → valV (dueL l) (ks row) = some (.ref a)
  | p :: l, row, a, hn, h => by
    obtain ⟨n1, n2⟩ := List.nodup_cons.mp hn
    show valV ((ks p.1, V.ref p.2) :: dueL l) _ = _
    rcases List.mem_cons.mp h with e | m
    · rw [← e]
      exact valV_pos rfl
    · rw [valV_neg (fun e => n1 (by show p.1 ∈ _; rw [ks_inj (show ks p.1 = ks row from e)]; exact List.mem_map_of_mem (f := (·.1)) m)), dueL_mem n2 m]
theorem dueL_snoc {l : List (List Int × Addr)} {row : List Int} {a : Addr} (h : row ∉ l.map (·.1)) : putK (dueL l) (ks row) (.ref a) = dueL (l ++ [(row, a)]) := by
  rw [putK_new _ (dueL_none h)]
  unfold dueL
  rw [List.map_append]
  rfl
/-- the frames, and where their bodies are -/
def frZ (wy : Way) (bs : List (List Int)) (as : List Addr) : List (List Int × Addr) := (bs.map (frameW wy)).zip as
theorem frZ_fst {wy : Way} {bs : List (List Int)} {as : List Addr} (h : as.length = bs.length) : (frZ wy bs as).map (·.1) = bs.map (frameW wy) := by
  unfold frZ
  rw [List.map_fst_zip]
  rw [List.length_map]
  omega
theorem frZ_get {wy : Way} {bs : List (List Int)} {as : List Addr} {i : Nat} {b : List Int} {a : Addr} (hb : bs[i]? = some b) (ha : as[i]? = some a) : (frZ wy bs as)[i]? = some (frameW wy b, a) := by
  unfold frZ
  rw [List.getElem?_zip_eq_some]
  exact ⟨by rw [List.getElem?_map, hb]; rfl, ha⟩
theorem frames_nodup {wy : Way} (ok : wy.Ok) (n : Nat) : ((bodiesB wy.t n).map (frameW wy)).Nodup := by
  refine List.pairwise_map.mpr (List.Pairwise.imp_of_mem ?_ (bodiesB_nodup wy.t n))
  intro a b ha hb hab z
  exact hab (frameW_inj ok (bodiesB_mem.mp ha).2 (bodiesB_mem.mp hb).2 z)
theorem LstsAt.hide {H : Hp} {d : Addr} : ∀ {as : List Addr} {cs : List (List Int)}, d ∉ as → LstsAt H as cs → LstsAt (hide d H) as cs
  | [], [], _, _ => trivial
  | a :: as, _ :: cs, n, ⟨h, r⟩ => ⟨(hide_ne fun e => n (by rw [← e]; exact List.mem_cons_self)).trans h, LstsAt.hide (fun m => n (List.mem_cons_of_mem _ m)) r⟩
theorem alk_ints {H : Hp} {Q : VK} {a b : Addr} {xs ys : List Int} {n : Nat} {E : XK} (ha : H a = some (.lst (xs.map V.int))) (hb : H b = some (.lst (ys.map V.int))) (hl : ys.length ≤ 50000) (hn : 1 ≤ n) (q : ∀ H', Same H H' → Q (.bl (decide (xs = ys))) H') : spAlikeD n [.ref a, .ref b] H Q E :=
  ⟨_, _, _, _, rfl, dh_ints ha, dh_ints hb, small_ints hl, Nat.le_trans (depth_ints' ys) hn, fun H' s => by
    rw [sameD, same_intsA]
    exact q H' s⟩
theorem alk_none {H : Hp} {Q : VK} {n : Nat} {E : XK} (q : ∀ H', Same H H' → Q (.bl true) H') : spAlikeD n [.non, .non] H Q E :=
  ⟨_, _, _, _, rfl, .non, .non, trivial, by rw [PyData.depth]; exact Nat.zero_le _, fun H' s => by
    rw [sameD]
    exact q H' s⟩
section
variable {P : Program} {w : World} {K : PySem.W.Frag} {mg : Str → Option Value} {base : Heap}
def spAllR (K : PySem.W.Frag) : Sp := fun vs H Q _ => ∃ (v : V) (t : Int) (wy : Way), vs = [v, .int t] ∧ WayAt K H v wy ∧ wy.Ok ∧ t = wy.t ∧ wy.t ≤ 4 ∧ ∀ H', Same H H' → Q (.bl true) H'
end
end Esc

namespace Esc
open PySem PySem.Spec PyProof.Rows L2
section
variable {P : Program} {w : World} {K : PySem.W.Frag} {mg : Str → Option Value} {base : Heap}
theorem mapD_get {ds : List Nat} {i : Nat} {x : V} (h : (ds.map fun d => V.int ((d : Nat) : Int))[i]? = some x) : ∃ d, ds[i]? = some d ∧ x = .int ((d : Nat) : Int) := by
  rw [List.getElem?_map] at h
  cases e : ds[i]? with
  | none =>
    rw [e] at h
    cases h
  | some n =>
    rw [e] at h
    exact ⟨n, rfl, (Option.some.inj h).symm⟩
def spNumber (K : PySem.W.Frag) : Sp := fun vs H Q _ => ∃ (a : Addr) (ds : List Nat) (m : Nat), vs = [.ref a, .int (m : Int)] ∧ SqL K H a (ds.map fun d => V.int ((d : Nat) : Int)) ∧ 0 < m ∧ m ≤ 1000 ∧ ∀ H', Same H H' → Q (.int ((rankD m ds : Nat) : Int)) H'
theorem c_law_number (d : Dd K mg "_law_number" s__law_number P__law_number) : C8.Cal P w K mg base 1 "_law_number" (spNumber K) [] := by
  refine d.cal sc__law_number (fun vs H Q E h => ?_) (fun f cdv A outer s H vs Q E hr h => ?_)
  · obtain ⟨a, ds, m, rfl, _⟩ := h
    rfl
  · obtain ⟨a, ds, m, rfl, ha, hm0, hm1, q⟩ := h
    have nd := sc__law_number.nd
    refine ⟨_, (pss_cons (ps_set (i := 2) nd rfl (Or.inl rfl) pe_int)
  (pss_cons (ps_set (i := 3) nd rfl (Or.inl rfl) pe_int)
  (pss_cons (ps_set (i := 4) nd rfl (Or.inl rfl) pe_int)
  (pss_cons (ps_for PassesOwn.never rfl (pi_list (pv 0)) (pg_name (i := 5) nd rfl (Or.inl rfl))
    (pss_cons (ps_set (i := 2) nd rfl (Or.inl rfl) (pe_op op_add (pe_op op_mul (pv 2) (pv 1)) (pv 5)))
  (pss_cons (ps_set (i := 3) nd rfl (Or.inl rfl) (pe_op op_add (pv 3) (pv 4)))
  (pss_one (ps_set (i := 4) nd rfl (Or.inl rfl) (pe_op op_mul (pv 4) (pv 1)))))))
  (pss_one (ps_ret (pe_op op_add (pv 2) (pv 3)))))))), ?_⟩
    refine i_start (σ' := [some (.ref a), some (.int m), none, none, none, none]) rfl ?_
    walk_at "go"
    walk_at "r"
    refine i_for ha (fun i σ' H' => ∃ y, σ' = [some (.ref a), some (.int m), some (.int ((numD m (ds.take i)).1 : Nat)), some (.int ((numD m (ds.take i)).2.1 : Nat)), some (.int ((numD m (ds.take i)).2.2 : Nat)), y] ∧ Same H H') ⟨none, rfl, Same.refl _⟩ (fun i σ' H' _ ⟨_, _, s1⟩ => s1.seq ha) (fun i x σ' H' hi pv => ?_) (fun σ' H' pv => ?_)
    · obtain ⟨y, rfl, s1⟩ := pv
      obtain ⟨n, hn, rfl⟩ := mapD_get hi
      walk_at "r"
      refine ⟨some (.int ((n : Nat) : Int)), ?_, s1⟩
      rw [take_succ' hn, numD_snoc]
      push_cast
      rfl
    · obtain ⟨y, rfl, s1⟩ := pv
      walk_at "r"
      rw [List.length_map, List.take_length, ← Int.natCast_add, (num_inv m hm0 ds.length ds rfl).2.1]
      exact q _ s1
def spList : Sp := fun vs H Q _ => ∃ (r m : Nat), vs = [.int (r : Int), .int (m : Int)] ∧ 0 < m ∧ m ≤ 1000 ∧ (rowD m r).length ≤ 1000 ∧ ∀ p H', H p = none → Same H H' → H' p = some (.lst ((rowD m r).map fun d => V.int ((d : Nat) : Int))) → Q (.ref p) H'
theorem c_law_list (Z : Blt mg) (d : Dd K mg "_law_list" s__law_list P__law_list) : C8.Cal P w K mg base 1 "_law_list" spList [] := by
  refine d.cal sc__law_list (fun vs H Q E h => ?_) (fun f cdv A outer s H vs Q E hr h => ?_)
  · obtain ⟨r, m, rfl, _⟩ := h
    rfl
  · obtain ⟨r, m, rfl, hm0, hm1, hl, q⟩ := h
    have nd := sc__law_list.nd
    refine ⟨_, (pss_cons (ps_set (i := 2) nd rfl (Or.inl rfl) pe_int)
  (pss_cons (ps_set (i := 3) nd rfl (Or.inl rfl) pe_int)
  (pss_cons (ps_while PassesOwn.never (pt_cmpR op_ge (pv 0) (pv 3) (nomark _))
    (pss_cons (ps_set (i := 0) nd rfl (Or.inl rfl) (pe_op op_sub (pv 0) (pv 3)))
  (pss_cons (ps_set (i := 3) nd rfl (Or.inl rfl) (pe_op op_mul (pv 3) (pv 1)))
  (pss_one (ps_set (i := 2) nd rfl (Or.inl rfl) (pe_op op_add (pv 2) pe_int))))))
  (pss_cons (ps_set (i := 4) nd rfl (Or.inl rfl) (pe_lst pa_nil))
  (pss_cons (ps_for PassesOwn.never rfl (pi_range1 rfl Z.range_ (pa_cons (pv 2) pa_nil)) (pg_name (i := 5) nd rfl (Or.inl rfl))
    (pss_cons (ps_expr (pe_bm PySem.F.plainAttrs_list PySem.F.slot_list_insert PySem.F.type_list_insert k_insert (pv 4) (pa_cons pe_int (pa_cons (pe_op op_mod (pv 0) (pv 1)) pa_nil))))
  (pss_one (ps_set (i := 0) nd rfl (Or.inl rfl) (pe_op op_fdiv (pv 0) (pv 1))))))
  (pss_one (ps_ret (pv 4)))))))), ?_⟩
    refine i_start (σ' := [some (.int r), some (.int m), none, none, none, none]) rfl ?_
    walk_at "go"
    walk_at "r"
    have hrk := rank_val m (rowD m r).length (rowD m r) rfl
    rw [rank_row] at hrk
    have hv := val_lt (rowD m r).length (rowD m r) rfl (row_lt hm0 r)
    generalize hk : (rowD m r).length = k at hrk hv hl
    refine i_while (fun n σ' H' => ∃ j, n = k - j ∧ j ≤ k ∧ σ' = [some (.int ((r - aheadD m j : Nat) : Int)), some (.int m), some (.int (j : Int)), some (.int ((m ^ j : Nat) : Int)), none, none] ∧ Same H H') k ⟨0, rfl, Nat.zero_le _, rfl, Same.refl _⟩ (fun n σ' H' pv => ?_)
    obtain ⟨j, rfl, hj, rfl, s0⟩ := pv
    have hS : aheadD m j ≤ r := by
      have z := ahead_mono m hj
      omega
    walk_at "r"
    refine i_br (fun h => ?_) (fun h => ?_)
    · have hlt : j < k := by
        rcases Nat.lt_or_ge j k with c | c
        · exact c
        · exfalso
          have e : j = k := by omega
          subst e
          omega
      have hS1 : aheadD m (j + 1) ≤ r := by
        have z := ahead_mono m (show j + 1 ≤ k from hlt)
        exact Nat.le_trans z (by omega)
      walk_at "r"
      refine ⟨k - (j + 1), by omega, j + 1, rfl, hlt, ?_, s0⟩
      have e1 : ((r - aheadD m j : Nat) : Int) - ((m ^ j : Nat) : Int) = ((r - aheadD m (j + 1) : Nat) : Int) := by
        have z : aheadD m (j + 1) = aheadD m j + m ^ j := rfl
        omega
      rw [e1, Nat.pow_succ]
      push_cast
      rfl
    · have ej : j = k := by
        rcases Nat.lt_or_ge j k with c | c
        · exfalso
          have z := ahead_mono m (show j + 1 ≤ k from c)
          have z2 : aheadD m (j + 1) = aheadD m j + m ^ j := rfl
          have z3 : m ^ j ≤ r - aheadD m j := by omega
          exact h (Int.ofNat_le.mpr z3)
        · omega
      subst ej
      walk_at "r"
      refine i_lst (Nat.zero_le _) (fun p H1 hp s1 e1 => ?_)
      walk_at "r"
      have erow : (rowD m r).take j = rowD m r := List.take_of_length_le (by omega)
      have eval : r - aheadD m j = valD m (rowD m r) := by omega
      refine i_rng ⟨by omega, by omega⟩ (fun i σ' H' => ∃ y, σ' = [some (.int ((valD m ((rowD m r).take (j - i)) : Nat) : Int)), some (.int m), some (.int (j : Int)), some (.int ((m ^ j : Nat) : Int)), some (.ref p), y] ∧ Same H H' ∧ H' p = some (.lst (((rowD m r).drop (j - i)).map fun d => V.int ((d : Nat) : Int))))
        ⟨none, by rw [Nat.sub_zero, erow, eval], s0.trans s1, by rw [Nat.sub_zero, List.drop_of_length_le (by omega)]; exact e1⟩ (fun i σ' H' hi pv => ?_) (fun σ' H' pv => ?_)
      · obtain ⟨y, rfl, s2, e2⟩ := pv
        have hi' : i < j := by omega
        have hlt : j - (i + 1) < (rowD m r).length := by omega
        have et : (rowD m r).take (j - i) = (rowD m r).take (j - (i + 1)) ++ [(rowD m r)[j - (i + 1)]] := by
          rw [show j - i = j - (i + 1) + 1 by omega]
          exact take_succ' (List.getElem?_eq_getElem hlt)
        have edr : (rowD m r).drop (j - (i + 1)) = (rowD m r)[j - (i + 1)] :: (rowD m r).drop (j - i) := by
          rw [List.drop_eq_getElem_cons hlt, show j - (i + 1) + 1 = j - i by omega]
        have hdm : (rowD m r)[j - (i + 1)] < m := row_lt hm0 r _ (List.getElem_mem hlt)
        rw [et, valD_snoc]
        have hz : (((rowD m r).drop (j - i)).map fun d => V.int ((d : Nat) : Int)).length < sizeLine := szl (by rw [List.length_map, List.length_drop]; omega)
        generalize (rowD m r)[j - (i + 1)] = dd at edr hdm
        generalize valD m ((rowD m r).take (j - (i + 1))) = vv
        have em : (vv * m + dd) % m = dd := by rw [Nat.mul_comm, Nat.mul_add_mod, Nat.mod_eq_of_lt hdm]
        have ed : (vv * m + dd) / m = vv := by rw [Nat.mul_comm, Nat.mul_add_div hm0, Nat.div_eq_of_lt hdm, Nat.add_zero]
        walk_at "r"
        rw [← Int.natCast_emod, em, ← Int.natCast_ediv, ed]
        refine ⟨some (.int (i : Int)), rfl, smut s2 (s0.free hp), ?_⟩
        rw [upd_same, edr]
        rfl
      · obtain ⟨y, rfl, s2, e2⟩ := pv
        walk_at "r"
        rw [Int.toNat_natCast, Nat.sub_self, List.drop_zero] at e2
        exact q p H' (s0.free hp) s2 e2
end
end Esc

namespace Esc
open PySem PySem.Spec PyProof.Rows L2
/-! ### rows, from the left -/
def splB (e : Int) : List Int → List (List Int)
  | [] => [[]]
  | x :: r => if x = e then [] :: splB e r else match splB e r with
    | [] => [[x]]
    | c :: cs => (x :: c) :: cs
theorem splB_ne (e : Int) : ∀ l : List Int, splB e l ≠ []
  | [] => by simp [splB]
  | x :: r => by
    rw [splB]
    split
    · simp
    · split <;> simp
theorem splB_JT (e : Int) : ∀ l : List Int, JT e (splB e l) = e :: l
  | [] => rfl
  | x :: r => by
    have ih := splB_JT e r
    rw [splB]
    by_cases h : x = e
    · rw [if_pos h, JT_cons, ih, h]
      rfl
    · rw [if_neg h]
      cases hs : splB e r with
      | nil => exact absurd hs (splB_ne e r)
      | cons c cs =>
        rw [hs, JT_cons] at ih
        have z := (List.cons.inj ih).2
        dsimp only
        rw [JT_cons, List.cons_append, z]
theorem splB_no (e : Int) : ∀ (l : List Int), ∀ row ∈ splB e l, e ∉ row
  | [], row, h => by
    rw [splB, List.mem_singleton] at h
    rw [h]
    simp
  | x :: r, row, h => by
    have ih := splB_no e r
    rw [splB] at h
    by_cases c : x = e
    · rw [if_pos c] at h
      rcases List.mem_cons.mp h with rfl | m
      · simp
      · exact ih row m
    · rw [if_neg c] at h
      cases hs : splB e r with
      | nil => exact absurd hs (splB_ne e r)
      | cons d ds =>
        rw [hs] at h ih
        dsimp only at h
        rcases List.mem_cons.mp h with rfl | m
        · intro q
          rcases List.mem_cons.mp q with q | q
          · exact c q.symm
          · exact ih d List.mem_cons_self q
        · exact ih row (List.mem_cons_of_mem _ m)
theorem rowsB_no (e : Int) (body : List Int) : ∀ row ∈ rowsB e body, e ∉ row := by
  have : ∀ n, n ≤ body.length → ∀ row ∈ rowsB e (body.take n), e ∉ row := fun n => by
    induction n with
    | zero =>
      intro _ row hr hx
      rw [List.take_zero] at hr
      rw [List.mem_singleton.mp hr] at hx
      cases hx
    | succ n ih =>
      intro hn row hr hx
      have hb : body[n]? = some body[n] := List.getElem?_eq_getElem (by omega)
      obtain ⟨rs, ls, h1, _⟩ := rowsB_sum e body n (by omega)
      have ih := ih (by omega)
      rw [h1] at ih
      rw [take_succ' hb, rowsB_snoc, h1] at hr
      by_cases c : body[n] = e
      · rw [c, stepR_end] at hr
        rcases List.mem_append.mp hr with m | m
        · exact ih row m hx
        · rw [List.mem_singleton.mp m] at hx
          cases hx
      · rw [stepR_in c] at hr
        rcases List.mem_append.mp hr with m | m
        · exact ih row (List.mem_append_left _ m) hx
        · rw [List.mem_singleton.mp m] at hx
          rcases List.mem_append.mp hx with m | m
          · exact ih ls (List.mem_append_right _ (List.mem_singleton.mpr rfl)) m
          · exact c (List.mem_singleton.mp m).symm
  have z := this body.length (Nat.le_refl _)
  rw [List.take_length] at z
  exact z
/-- rows without ends are told by what stands behind ends -/
theorem JT_inj {e : Int} : ∀ {rs ss : List (List Int)}, (∀ r ∈ rs, e ∉ r) → (∀ r ∈ ss, e ∉ r) → JT e rs = JT e ss → rs = ss
  | [], [], _, _, _ => rfl
  | [], s :: ss, _, _, h => by
    rw [JT_cons] at h
    cases h
  | r :: rs, [], _, _, h => by
    rw [JT_cons] at h
    cases h
  | r :: rs, s :: ss, hr, hs, h => by
    rw [JT_cons, JT_cons] at h
    have h := (List.cons.inj h).2
    have nr := hr r List.mem_cons_self
    have ns := hs s List.mem_cons_self
    have head : ∀ (a b x y : List Int), e ∉ a → e ∉ b → (x = [] ∨ ∃ x', x = e :: x') → (y = [] ∨ ∃ y', y = e :: y') → a ++ x = b ++ y → a = b ∧ x = y := fun a => by
      induction a with
      | nil =>
        intro b x y na nb hx hy hq
        cases b with
        | nil => exact ⟨rfl, hq⟩
        | cons c b =>
          rcases hx with rfl | ⟨x', rfl⟩
          · cases hq
          · have z := (List.cons.inj hq).1
            exact absurd (by rw [z]; exact List.mem_cons_self) nb
      | cons c a ih =>
        intro b x y na nb hx hy hq
        cases b with
        | nil =>
          rcases hy with rfl | ⟨y', rfl⟩
          · cases hq
          · have z := (List.cons.inj hq).1
            exact absurd (by rw [z]; exact List.mem_cons_self) na
        | cons d b =>
          obtain ⟨h1, h2⟩ := List.cons.inj hq
          obtain ⟨h3, h4⟩ := ih b x y (fun m => na (List.mem_cons_of_mem _ m)) (fun m => nb (List.mem_cons_of_mem _ m)) hx hy h2
          exact ⟨by rw [h1, h3], h4⟩
    have shape : ∀ ts : List (List Int), JT e ts = [] ∨ ∃ x', JT e ts = e :: x' := fun ts => by
      cases ts with
      | nil => exact .inl rfl
      | cons t ts => exact .inr ⟨_, JT_cons e t ts⟩
    obtain ⟨h1, h2⟩ := head r s _ _ nr ns (shape rs) (shape ss) h
    rw [h1, JT_inj (fun t m => hr t (List.mem_cons_of_mem _ m)) (fun t m => hs t (List.mem_cons_of_mem _ m)) h2]
theorem splB_rows (e : Int) (body : List Int) : splB e body = rowsB e body := JT_inj (splB_no e body) (rowsB_no e body) ((splB_JT e body).trans (JT_rows e body).symm)
/-! ### cut at places -/
/-- where ends stand, the first place has the number k -/
def posE (e : Int) : Nat → List Int → List Nat
  | _, [] => []
  | k, x :: r => if x = e then k :: posE e (k + 1) r else posE e (k + 1) r
/-- what stands between places, the first one begins at a -/
def segs (l : List Int) : Nat → List Nat → List (List Int)
  | _, [] => []
  | a, c :: cs => (l.drop a).take (c - a) :: segs l (c + 1) cs
theorem segs_spl {e : Int} (l : List Int) : ∀ (r : List Int) (a k : Nat), a ≤ k → l.drop k = r → k + r.length = l.length → segs l a (posE e k r ++ [l.length]) = match splB e r with
    | [] => []
    | c :: cs => ((l.drop a).take (k - a) ++ c) :: cs
  | [], a, k, hak, hd, hk => by
    rw [posE, splB]
    dsimp only
    rw [List.nil_append, segs, segs, List.append_nil]
    have e : k = l.length := by simpa using hk
    rw [e]
  | x :: r, a, k, hak, hd, hk => by
    have hd2 : l.drop (k + 1) = r := by
      rw [← List.drop_drop, hd]
      rfl
    have hk2 : k + 1 + r.length = l.length := by
      rw [List.length_cons] at hk
      omega
    have hx : (l.drop a).take (k + 1 - a) = (l.drop a).take (k - a) ++ [x] := by
      have g : l[k]? = some x := by
        have z := congrArg List.head? hd
        rw [List.head?_drop] at z
        exact z
      have g2 : (l.drop a)[k - a]? = some x := by
        rw [List.getElem?_drop, show a + (k - a) = k by omega]
        exact g
      rw [show k + 1 - a = (k - a) + 1 by omega, take_succ' g2]
    rw [posE, splB]
    by_cases c : x = e
    · rw [if_pos c, if_pos c, List.cons_append, segs, segs_spl l r (k + 1) (k + 1) (Nat.le_refl _) hd2 hk2]
      dsimp only
      rw [List.append_nil]
      cases hs : splB e r with
      | nil => exact absurd hs (splB_ne e r)
      | cons d ds =>
        dsimp only
        rw [Nat.sub_self, List.take_zero, List.nil_append]
    · rw [if_neg c, if_neg c, segs_spl l r a (k + 1) (by omega) hd2 hk2]
      cases hs : splB e r with
      | nil => exact absurd hs (splB_ne e r)
      | cons d ds =>
        dsimp only
        rw [hx, List.append_assoc]
        rfl
theorem segs_rows (e : Int) (l : List Int) : segs l 0 (posE e 0 l ++ [l.length]) = rowsB e l := by
  rw [segs_spl l l 0 0 (Nat.le_refl _) rfl (Nat.zero_add _), ← splB_rows]
  cases hs : splB e l with
  | nil => exact absurd hs (splB_ne e l)
  | cons d ds => rfl
theorem segs_len (l : List Int) : ∀ (cs : List Nat) (a : Nat), (segs l a cs).length = cs.length
  | [], _ => rfl
  | c :: cs, a => congrArg (· + 1) (segs_len l cs (c + 1))
/-- by their places: the cut ahead of the first is -1 -/
theorem segs_get (l : List Int) : ∀ (cs : List Nat) (a k : Nat) (c : Nat), cs[k]? = some c → ∃ b, (if k = 0 then b = a else ∃ c', cs[k - 1]? = some c' ∧ b = c' + 1) ∧ (segs l a cs)[k]? = some ((l.drop b).take (c - b))
  | [], _, _, _, h => by simp at h
  | c :: cs, a, 0, c', h => by
    cases h
    exact ⟨a, by rw [if_pos rfl], rfl⟩
  | c :: cs, a, k + 1, c', h => by
    have h : cs[k]? = some c' := h
    obtain ⟨b, hb, e⟩ := segs_get l cs (c + 1) k c' h
    refine ⟨b, ?_, e⟩
    rw [if_neg (by omega)]
    cases k with
    | zero =>
      rw [if_pos rfl] at hb
      exact ⟨c, rfl, hb⟩
    | succ k =>
      rw [if_neg (by omega)] at hb
      exact hb
theorem posE_filter (e : Int) (l : List Int) : posE e 0 l = (List.range l.length).filter fun i => decide (l[i]? = some e) := by
  have : ∀ (r : List Int) (k : Nat), l.drop k = r → posE e k r = (List.range' k r.length).filter fun i => decide (l[i]? = some e) := fun r => by
    induction r with
    | nil => intro k _; rfl
    | cons x r ih =>
      intro k hd
      have g : l[k]? = some x := by
        have z := congrArg List.head? hd
        rw [List.head?_drop] at z
        exact z
      have hd2 : l.drop (k + 1) = r := by
        rw [← List.drop_drop, hd]
        rfl
      rw [posE, ih (k + 1) hd2, List.length_cons, List.range'_succ, List.filter_cons, g]
      by_cases c : x = e
      · rw [if_pos c, c, if_pos (by simp)]
      · rw [if_neg c, if_neg (by simp [c])]
  rw [this l 0 rfl, List.range_eq_range']
section
variable {P : Program} {w : World} {K : PySem.W.Frag} {mg : Str → Option Value} {base : Heap}
def spLRows (K : PySem.W.Frag) : Sp := fun vs H Q _ => ∃ (b : Addr) (e : Int) (body : List Int), vs = [.ref b, .int e] ∧ SqL K H b (body.map V.int) ∧ body.length ≤ 1000 ∧
  ∀ r as H', H r = none → Same H H' → H' r = some (.lst (as.map V.ref)) → LstsAt H' as (rowsB e body) → Fr H as → Q (.ref r) H'
theorem fm_filter {α β : Type} (p : α → Bool) (f : α → β) : ∀ l : List α, l.filterMap (fun x => if p x = true then some (f x) else none) = (l.filter p).map f
  | [] => rfl
  | x :: l => by
    rw [List.filterMap_cons, List.filter_cons]
    by_cases c : p x = true
    · rw [if_pos c, if_pos c, fm_filter p f l]
      rfl
    · rw [if_neg c, if_neg c, fm_filter p f l]
theorem c_law_rows (Z : Blt mg) (d : Dd K mg "_law_rows" s__law_rows P__law_rows) : C8.Cal P w K mg base 1 "_law_rows" (spLRows K) [] := by
  refine d.cal sc__law_rows (fun vs H Q E h => ?_) (fun f cdv A outer s H vs Q E hr h => ?_)
  · obtain ⟨b, e, body, rfl, _⟩ := h
    rfl
  · obtain ⟨b, e, body, rfl, hb, hlen, q⟩ := h
    have nd := sc__law_rows.nd
    refine ⟨_, (pss_cons (ps_set (i := 2) nd rfl (Or.inr rfl) (pe_op op_cat (pe_op op_cat (pe_lst (pa_cons (pe_un un_neg pe_int) pa_nil)) (pe_lc (own := [("_law_k", 3)]) (g := gName 3) rfl nd (pi_range1 rfl Z.range_ (pa_cons (pe_callB k_len (by rfl) Z.len_ (by decide +kernel) (pa_cons (pv 0) pa_nil)) pa_nil)) (blkOk_by (N := N__law_rows) (sc := C8.fnScope s__law_rows) (own := [("_law_k", 3)]) (by decide +kernel)) (fun _ _ _ _ _ => (pg_name (i := 3) nd rfl (Or.inl rfl))) (fun _ _ _ _ _ => pts_one (pt_cmpR op_eq (pe_ix (show IxR _ (rIxL K) from ix_list) (pv 0) (pv 3) (fun _ _ => rfl)) (pv 1) (nomark _))) (fun _ _ _ _ _ => (pv 3)))) (pe_lst (pa_cons (pe_callB k_len (by rfl) Z.len_ (by decide +kernel) (pa_cons (pv 0) pa_nil)) pa_nil))))
  (pss_one (ps_ret (pe_lc (own := [("_law_k", 3)]) (g := gName 3) (tt := tYes) rfl nd (pi_range1 rfl Z.range_ (pa_cons (pe_op op_sub (pe_callB k_len (by rfl) Z.len_ (by decide +kernel) (pa_cons (pv 2) pa_nil)) pe_int) pa_nil)) (blkOk_by (N := N__law_rows) (sc := C8.fnScope s__law_rows) (own := [("_law_k", 3)]) (by decide +kernel)) (fun _ _ _ _ _ => (pg_name (i := 3) nd rfl (Or.inl rfl))) (fun _ _ _ _ _ => pts_nil) (fun _ _ _ _ _ => (pe_slice (show SlR _ (rSlL K) from sl_list) (pv 0) (po_some (pe_op op_add (pe_ix (show IxR _ (rIxL K) from ix_list) (pv 2) (pv 3) (fun _ _ => rfl)) pe_int)) (po_some (pe_ix (show IxR _ (rIxL K) from ix_list) (pv 2) (pe_op op_add (pv 3) pe_int) (fun _ _ => rfl))))))))), ?_⟩
    refine i_start (σ' := [some (.ref b), some (.int e), none, none]) rfl ?_
    walk_at "go"
    walk_at "r"
    refine i_lst (by show 1 ≤ sizeLine; decide) (fun p1 H1 hp1 s1 e1 => ?_)
    have hb1 := s1.seq hb
    walk_at "r"
    refine i_lcR (F := fun (i : Nat) => if decide (body[i]? = some e) = true then some (V.int (i : Int)) else none) ⟨by omega, by omega⟩ (fun i hi H2 s2 QN QY hN hY => ?_) (fun p2 H2 hp2 s2 e2 => ?_)
    · have hi2 : i < body.length := by omega
      have g := List.getElem?_eq_getElem hi2
      have hb2 := s2.seq hb1
      have hat : atI (body.map V.int) (i : Int) = some (.int body[i]) := atI_nat (by rw [List.getElem?_map, g]; rfl)
      walk_at "r"
      refine i_br (fun c => ?_) (fun c => ?_)
      · walk_at "r"
        exact hY _ (by rw [g, c, decide_eq_true rfl, if_pos rfl]) _ (Same.refl _)
      · walk_at "r"
        exact hN (by rw [g, decide_eq_false (fun z => c (Option.some.inj z)), if_neg Bool.false_ne_true]) _ (Same.refl _)
    · rw [fm_filter, Int.toNat_natCast, ← posE_filter] at e2
      have pl : (posE e 0 body).length ≤ body.length := by
        rw [posE_filter]
        refine Nat.le_trans (List.length_filter_le _ _) ?_
        rw [List.length_range]
        exact Nat.le_refl _
      have hb2 := s2.seq hb1
      have e12 := s2 _ _ e1
      walk_at "r"
      refine i_cat e12 e2 (sz (by rw [List.length_map]; show 1 + _ ≤ _; omega)) (fun p3 H3 hp3 s3 e3 => ?_)
      have hb3 := s3.seq hb2
      walk_at "r"
      refine i_lst (by show 1 ≤ sizeLine; decide) (fun p4 H4 hp4 s4 e4 => ?_)
      have e34 := s4 _ _ e3
      walk_at "r"
      refine i_cat e34 e4 (sz (by rw [List.length_append, List.length_map]; show 1 + _ + 1 ≤ _; omega)) (fun p5 H5 hp5 s5 e5 => ?_)
      have ecut : [V.int (-1)] ++ (posE e 0 body).map (fun (i : Nat) => V.int (i : Int)) ++ [V.int ((body.length : Nat) : Int)] = V.int (-1) :: (posE e 0 body ++ [body.length]).map (fun (i : Nat) => V.int (i : Int)) := by
        rw [List.map_append]
        rfl
      rw [ecut] at e5
      have s05 := (((s1.trans s2).trans s3).trans s4).trans s5
      have hb5 := s05.seq hb
      have lc : (V.int (-1) :: (posE e 0 body ++ [body.length]).map (fun (i : Nat) => V.int (i : Int))).length = (posE e 0 body ++ [body.length]).length + 1 := by
        rw [List.length_cons, List.length_map]
      have sr := segs_rows e body
      generalize hcs : posE e 0 body ++ [body.length] = cs at e5 lc sr
      have lcs : cs.length ≤ 1001 := by
        rw [← hcs, List.length_append, List.length_singleton]
        omega
      have lsg := segs_len body cs 0
      walk_at "r"
      rw [lc]
      refine i_lcRI (fun D k acc H' => ∃ ds : List Addr, acc = ds.map V.ref ∧ ds.length = k ∧ Same H5 H' ∧ H' D = some (.lst acc) ∧ LstsAt H' ds ((segs body 0 cs).take k) ∧ (∀ a ∈ ds, a ≠ D) ∧ Fr H ds) ⟨by omega, by omega⟩
        (fun D hD => ⟨[], rfl, rfl, same_new hD, upd_same, trivial, (fun a ha => by cases ha), fun a ha => by cases ha⟩) (fun D k acc H' hD hk hla pv => ?_) (fun D acc H' hD pv => ?_)
      · obtain ⟨ds, rfl, lds, s6, eD, hld, hnD, fd⟩ := pv
        have hk2 : k < cs.length := by omega
        have gk : cs[k]? = some cs[k] := List.getElem?_eq_getElem hk2
        obtain ⟨b0, hb0, hseg⟩ := segs_get body cs 0 k cs[k] gk
        have e56 := s6 _ _ e5
        have hb6 := s6.seq hb5
        have at1 : atI (V.int (-1) :: cs.map (fun (i : Nat) => V.int (i : Int))) (k : Int) = some (.int ((b0 : Int) - 1)) := by
          refine atI_nat ?_
          cases k with
          | zero =>
            rw [if_pos rfl] at hb0
            rw [hb0]
            rfl
          | succ k =>
            rw [if_neg (by omega)] at hb0
            obtain ⟨c', hc', rfl⟩ := hb0
            show (cs.map fun (i : Nat) => V.int (i : Int))[k]? = _
            rw [List.getElem?_map, show k = k + 1 - 1 by omega, hc']
            show some (V.int (c' : Int)) = _
            congr 2
            omega
        have at2 : atI (V.int (-1) :: cs.map (fun (i : Nat) => V.int (i : Int))) ((k : Int) + 1) = some (.int ((cs[k] : Nat) : Int)) := by
          rw [show (k : Int) + 1 = ((k + 1 : Nat) : Int) by omega]
          refine atI_nat ?_
          show (cs.map fun (i : Nat) => V.int (i : Int))[k]? = _
          rw [List.getElem?_map, gk]
          rfl
        walk_at "r"
        rw [show (b0 : Int) - 1 + 1 = (b0 : Int) by omega]
        refine i_slL hb6 (fun p7 H7 hp7 s7 e7 => ?_)
        have e7 : H7 p7 = some (.lst (((body.drop b0).take (cs[k] - b0)).map V.int)) := by
          rw [e7]
          by_cases z : b0 ≤ cs[k]
          · rw [cut_mid _ _ _ z, ← List.map_drop, ← List.map_take]
          · rw [show cs[k] - b0 = 0 by omega, List.take_zero]
            unfold cutV
            rw [HT.sIx_nat, HT.sIx_nat, show min cs[k] (body.map V.int).length - min b0 (body.map V.int).length = 0 by omega, List.take_zero]
            rfl
        have eD7 := s7 _ _ eD
        have n7D : p7 ≠ D := (ne_of_none eD hp7).symm
        refine kY_of eD7 hla (by omega) ⟨ds ++ [p7], by rw [List.map_append]; rfl, by rw [List.length_append, lds]; rfl, smut (s6.trans s7) hD, upd_same, ?_, fun a ha => ?_, fd.app fun a ha => by rw [List.mem_singleton.mp ha]; exact s05.free (s6.free hp7)⟩
        · rw [take_succ' hseg]
          refine LstsAt.put (fun m => ?_) (LstsAt.app (hld.same s7) ⟨e7, trivial⟩)
          rcases List.mem_append.mp m with m | m
          · exact hnD D m rfl
          · exact n7D (List.mem_singleton.mp m).symm
        · rcases List.mem_append.mp ha with m | m
          · exact hnD a m
          · rw [List.mem_singleton.mp m]
            exact n7D
      · obtain ⟨ds, rfl, lds, s6, eD, hld, hnD, fd⟩ := pv
        rw [show (((cs.length + 1 : Nat) : Int) - 1).toNat = (segs body 0 cs).length by omega, List.take_length, sr] at hld
        exact q D ds H' (s05.free hD) (s05.trans s6) eD hld fd
end
end Esc

namespace Esc
open PySem PySem.Spec PyProof.Rows L2
/-! ### whole groups -/
def grpI (x : Int) (w : Nat) (row : List Int) : Nat → List Int
  | 0 => []
  | i + 1 => grpI x w row i ++ (x :: (row.drop (i * w)).take w)
theorem grpI_len (x : Int) (w : Nat) (row : List Int) : ∀ i : Nat, (grpI x w row i).length ≤ i * (w + 1)
  | 0 => Nat.zero_le _
  | i + 1 => by
    have ih := grpI_len x w row i
    rw [grpI, List.length_append, List.length_cons, List.length_take, Nat.add_mul, Nat.one_mul]
    have z := Nat.min_le_left w ((row.drop (i * w)).length)
    omega
theorem groupB_grp {cn : List Int} {w : Nat} (h0 : 0 < w) (row : List Int) : ∀ i : Nat, i * w ≤ row.length → groupB cn w row = grpI (cn.getD w 0) w row i ++ groupB cn w (row.drop (i * w))
  | 0, _ => by
    rw [Nat.zero_mul, List.drop_zero]
    rfl
  | i + 1, h => by
    have hi : i * w + w ≤ row.length := by
      rw [Nat.add_mul, Nat.one_mul] at h
      exact h
    rw [groupB_grp h0 row i (by omega), groupB_more h0 (by rw [List.length_drop]; omega), grpI, List.drop_drop, List.append_assoc, Nat.add_mul, Nat.one_mul]
    rfl
theorem groupB_all {cn : List Int} {w : Nat} (h0 : 0 < w) (row : List Int) : groupB cn w row = grpI (cn.getD w 0) w row (row.length / w) ++ (cn.getD (row.length % w) 0 :: row.drop (row.length / w * w)) := by
  have m := Nat.div_mul_le_self row.length w
  have l : (row.drop (row.length / w * w)).length = row.length % w := by
    rw [List.length_drop]
    have := Nat.div_add_mod' row.length w
    omega
  rw [groupB_grp h0 row (row.length / w) m, groupB_last (by rw [l]; exact Nat.mod_lt _ h0), l]
/-- what is told of the first rows -/
def cntI (t e l : Int) (body : List Int) (i : Nat) : List Int := if i = (rowsB e body).length then cntB t e l body else ((rowsB e body).take i).flatMap (groupB ((plainL t e).take l.toNat) (l.toNat - 1))
theorem flat_all {cn : List Int} {w : Nat} (h0 : 0 < w) (e : Int) (body : List Int) : ((rowsB e body).flatMap (groupB cn w)).length ≤ 2 * body.length + 1 := by
  have a := full_size (cn := cn) h0 (rowsB e body)
  have b := rows_size e body
  have c := flr_le h0 (rowsB e body)
  have d := Nat.div_le_self ((rowsB e body).map List.length).sum w
  have f : 1 ≤ (rowsB e body).length := by
    obtain ⟨rs, ls, h, _⟩ := rowsB_all e body
    rw [h, List.length_append, List.length_singleton]
    omega
  unfold full at a
  omega
theorem cntI_len {t e l : Int} (hl2 : 2 ≤ l) (body : List Int) (i : Nat) : (cntI t e l body i).length ≤ 2 * body.length + 1 := by
  unfold cntI
  split
  · exact cntB_len hl2 body
  · exact Nat.le_trans (flat_take _ i) (flat_all (by omega) e body)
theorem cntI_step {t e l : Int} (hl2 : 2 ≤ l) {body row : List Int} {i : Nat} (h : (rowsB e body)[i]? = some row) : cntI t e l body (i + 1) = cntI t e l body i ++
    (grpI (((plainL t e).take l.toNat).getD (l.toNat - 1) 0) (l.toNat - 1) row (row.length / (l.toNat - 1)) ++
      (if i + 1 < (rowsB e body).length ∨ row.length % (l.toNat - 1) ≠ 0 ∨ row = [] then ((plainL t e).take l.toNat).getD (row.length % (l.toNat - 1)) 0 :: row.drop (row.length / (l.toNat - 1) * (l.toNat - 1)) else [])) := by
  have w0 : 0 < l.toNat - 1 := by omega
  have hi := (List.getElem?_eq_some_iff.mp h).1
  have tk := take_succ' h
  have ne : i ≠ (rowsB e body).length := by omega
  unfold cntI
  rw [if_neg ne]
  by_cases c : i + 1 = (rowsB e body).length
  · rw [if_pos c]
    obtain ⟨rs, ls, hrows, _⟩ := rowsB_all e body
    have hr : ls = row := by
      have z : (rowsB e body)[(rowsB e body).length - 1]? = some row := by
        rw [← c, Nat.add_sub_cancel]
        exact h
      rw [hrows, List.length_append, List.length_singleton, Nat.add_sub_cancel, List.getElem?_append_right (Nat.le_refl _), Nat.sub_self] at z
      exact Option.some.inj z
    subst hr
    have htk : (rowsB e body).take i = rs := by
      rw [hrows] at c ⊢
      rw [List.length_append, List.length_singleton] at c
      have : i = rs.length := by omega
      rw [this, List.take_left]
    have hlast : (rowsB e body).getLastD [] = ls := by rw [hrows, List.getLastD_concat]
    have g := groupB_all (cn := (plainL t e).take l.toNat) w0 ls
    have fall : (rowsB e body).flatMap (groupB ((plainL t e).take l.toNat) (l.toNat - 1)) = rs.flatMap (groupB ((plainL t e).take l.toNat) (l.toNat - 1)) ++ groupB ((plainL t e).take l.toNat) (l.toNat - 1) ls := by
      rw [hrows, List.flatMap_append, List.flatMap_cons, List.flatMap_nil, List.append_nil]
    unfold cntB
    dsimp only
    rw [hlast, htk, fall, g]
    by_cases k : ls ≠ [] ∧ ls.length % (l.toNat - 1) = 0
    · have nk : ¬ (i + 1 < (rowsB e body).length ∨ ls.length % (l.toNat - 1) ≠ 0 ∨ ls = []) := fun z => by
        rcases z with z | z | z
        · omega
        · exact z k.2
        · exact k.1 z
      rw [if_pos k, if_neg nk]
      have d : ls.drop (ls.length / (l.toNat - 1) * (l.toNat - 1)) = [] := by
        rw [List.drop_eq_nil_iff]
        have := Nat.div_add_mod' ls.length (l.toNat - 1)
        omega
      rw [d, ← List.append_assoc, List.dropLast_concat, List.append_nil]
    · have yk : i + 1 < (rowsB e body).length ∨ ls.length % (l.toNat - 1) ≠ 0 ∨ ls = [] := by
        by_cases z : ls = []
        · exact .inr (.inr z)
        · exact .inr (.inl fun q => k ⟨z, q⟩)
      rw [if_neg k, if_pos yk]
  · rw [if_neg c, tk, List.flatMap_append, List.flatMap_cons, List.flatMap_nil, List.append_nil, groupB_all w0 row, if_pos (.inl (by omega))]
section
variable {P : Program} {w : World} {K : PySem.W.Frag} {mg : Str → Option Value} {base : Heap}
def spCounted (K : PySem.W.Frag) : Sp := fun vs H Q _ => ∃ (b c : Addr) (t e l : Int) (body : List Int), vs = [.ref b, .int e, .ref c, .int l] ∧ SqL K H b (body.map V.int) ∧ SqL K H c ((plainL t e).map V.int) ∧ 0 ≤ e ∧ e < t ∧ t ≤ 16 ∧ 2 ≤ l ∧ l < t ∧ body.length ≤ 1000 ∧
  ∀ r H', H r = none → Same H H' → H' r = some (.lst ((cntB t e l body).map V.int)) → Q (.ref r) H'
theorem c_law_counted (Z : Blt mg) (c__law_rows : C8.Cal P w K mg base 1 "_law_rows" (spLRows K) []) (d : Dd K mg "_law_counted" s__law_counted P__law_counted) : C8.Cal P w K mg base 2 "_law_counted" (spCounted K) [] := by
  refine d.cal sc__law_counted (fun vs H Q E h => ?_) (fun f cdv A outer s H vs Q E hr h => ?_)
  · obtain ⟨b, c, t, e, l, body, rfl, _⟩ := h
    rfl
  · obtain ⟨b, c, t, e, l, body, rfl, hb, hc, e0, e1, t16, l2, lt, hlen, q⟩ := h
    have nd := sc__law_counted.nd
    have np := plain_len e0 e1
    have w0 : 0 < l.toNat - 1 := by omega
    refine ⟨_, (pss_cons (ps_set (i := 4) nd rfl (Or.inl rfl) (C8.pe_c c__law_rows hr (by decide) (by rfl) (pa_cons (pv 0) (pa_cons (pv 1) pa_nil))))
  (pss_cons (ps_set (i := 5) nd rfl (Or.inl rfl) (pe_op op_sub (pv 3) pe_int))
  (pss_cons (ps_set (i := 6) nd rfl (Or.inl rfl) (pe_lst pa_nil))
  (pss_cons (ps_for PassesOwn.never rfl (pi_range1 rfl Z.range_ (pa_cons (pe_callB k_len (by rfl) Z.len_ (by decide +kernel) (pa_cons (pv 4) pa_nil)) pa_nil)) (pg_name (i := 7) nd rfl (Or.inl rfl))
    (pss_cons (ps_set (i := 8) nd rfl (Or.inl rfl) (pe_ix ix_list (pv 4) (pv 7) (fun _ _ => rfl)))
  (pss_cons (ps_for PassesOwn.never rfl (pi_range1 rfl Z.range_ (pa_cons (pe_op op_fdiv (pe_callB k_len (by rfl) Z.len_ (by decide +kernel) (pa_cons (pe_ix ix_list (pv 4) (pv 7) (fun _ _ => rfl)) pa_nil)) (pv 5)) pa_nil)) (pg_name (i := 9) nd rfl (Or.inl rfl))
    (pss_cons (ps_set (i := 6) nd rfl (Or.inl rfl) (pe_op op_cat (pe_op op_cat (pv 6) (pe_lst (pa_cons (pe_ix ix_list (pv 2) (pv 5) (fun _ _ => rfl)) pa_nil))) (pe_slice sl_list (pv 8) po_none (po_some (pv 5)))))
  (pss_one (ps_set (i := 8) nd rfl (Or.inl rfl) (pe_slice sl_list (pv 8) (po_some (pv 5)) po_none)))))
  (pss_one (ps_if (PW.pt (pw_or (pt_cmpR op_lt (pv 7) (pe_op op_sub (pe_callB k_len (by rfl) Z.len_ (by decide +kernel) (pa_cons (pv 4) pa_nil)) pe_int) (nomark _)) (pw_or (pt_cmpR (op_neD hr.units) (pv 8) (pe_lst pa_nil) (nomark _)) (pw_or1 (pt_cmpR (op_eqD hr.units) (pe_ix ix_list (pv 4) (pv 7) (fun _ _ => rfl)) (pe_lst pa_nil) (nomark _)))))) (pss_one (ps_set (i := 6) nd rfl (Or.inl rfl) (pe_op op_cat (pe_op op_cat (pv 6) (pe_lst (pa_cons (pe_ix ix_list (pv 2) (pe_callB k_len (by rfl) Z.len_ (by decide +kernel) (pa_cons (pv 8) pa_nil)) (fun _ _ => rfl)) pa_nil))) (pv 8)))) pss_nil)))))
  (pss_one (ps_ret (pv 6))))))), ?_⟩
    refine i_start (σ' := [some (.ref b), some (.int e), some (.ref c), some (.int l), none, none, none, none, none, none]) rfl ?_
    walk_at "go"
    walk_at "r"
    refine ⟨b, e, body, rfl, hb, hlen, fun r as H1 hr1 s1 er hla _ => ?_⟩
    have las := hla.len
    walk_at "r"
    refine i_lst (Nat.zero_le _) (fun f0 H2 hf0 s2 ef0 => ?_)
    have er2 := s2 _ _ er
    have s12 := s1.trans s2
    have rl : 1 ≤ (rowsB e body).length := by
      obtain ⟨rs, ls, h, _⟩ := rowsB_all e body
      rw [h, List.length_append, List.length_singleton]
      omega
    have rb : (rowsB e body).length ≤ body.length + 1 := by
      have z := rowsB_len e body body.length
      rw [List.take_length] at z
      exact z
    have gw : ∀ k : Nat, k < l.toNat → atI ((plainL t e).map V.int) (k : Int) = some (.int (((plainL t e).take l.toNat).getD k 0)) := fun k hk => by
      refine atI_nat ?_
      rw [List.getElem?_map, List.getD_eq_getElem?_getD, List.getElem?_take_of_lt hk, List.getElem?_eq_getElem (by omega)]
      rfl
    walk_at "r"
    refine i_rng ⟨by omega, by rw [List.length_map]; omega⟩ (fun i σ' H' => ∃ (f : Addr) (y1 y2 y3 : Option V), σ' = [some (.ref b), some (.int e), some (.ref c), some (.int l), some (.ref r), some (.int (l - 1)), some (.ref f), y1, y2, y3] ∧ Same H2 H' ∧ H f = none ∧ H' f = some (.lst ((cntI t e l body i).map V.int)))
      ⟨f0, none, none, none, rfl, Same.refl _, s1.free hf0, by unfold cntI; rw [if_neg (by omega)]; exact ef0⟩ (fun i σ' H' hi pv => ?_) (fun σ' H' pv => ?_)
    · obtain ⟨f, y1, y2, y3, rfl, s3, hf, ef⟩ := pv
      rw [List.length_map] at hi
      have hi2 : i < as.length := by omega
      have gi : as[i]? = some as[i] := List.getElem?_eq_getElem hi2
      obtain ⟨row, hrow, erow⟩ := hla.get gi
      have lrow := rowsB_row e body row (List.mem_of_getElem? hrow)
      have er3 := s3 _ _ er2
      have erow3 := s3 _ _ (s2 _ _ erow)
      have hat : atI (as.map V.ref) (i : Int) = some (.ref as[i]) := atI_nat (by rw [List.getElem?_map, gi]; rfl)
      have cst := cntI_step (t := t) l2 hrow
      have cl := cntI_len (t := t) (e := e) l2 body i
      generalize hx : ((plainL t e).take l.toNat).getD (l.toNat - 1) 0 = x at cst
      have gx := gw (l.toNat - 1) (by omega)
      rw [hx, show ((l.toNat - 1 : Nat) : Int) = l - 1 by omega] at gx
      generalize hw' : l.toNat - 1 = W at cst w0
      have hlW : l - 1 = (W : Int) := by omega
      rw [hlW] at gx
      have hdm := Nat.div_mul_le_self row.length W
      have hmod := Nat.div_add_mod' row.length W
      have hml := Nat.mod_lt row.length w0
      have hW1 : 0 < (W : Int) ∧ (W : Int) < 1073741824 := by omega
      have edv : ((row.length : Nat) : Int) / (W : Int) = ((row.length / W : Nat) : Int) := rfl
      rw [hlW]
      walk_at "r"
      rw [edv]
      have hdl := Nat.div_le_self row.length W
      clear edv
      generalize row.length / W = D at *
      refine i_rng ⟨by omega, by omega⟩ (fun j σ' H' => ∃ (f g : Addr) (y3 : Option V), σ' = [some (.ref b), some (.int e), some (.ref c), some (.int l), some (.ref r), some (.int (W : Int)), some (.ref f), some (.int (i : Int)), some (.ref g), y3] ∧ Same H2 H' ∧ H f = none ∧ H' f = some (.lst ((cntI t e l body i ++ grpI x W row j).map V.int)) ∧ H' g = some (.lst ((row.drop (j * W)).map V.int)))
        ⟨f, as[i], y3, rfl, s3, hf, by rw [grpI, List.append_nil]; exact ef, by rw [Nat.zero_mul, List.drop_zero]; exact erow3⟩ (fun j σ' H' hj pv => ?_) (fun σ' H' pv => ?_)
      · obtain ⟨f, g, y3, rfl, s4, hf, ef, eg⟩ := pv
        have hjW : j * W + W ≤ row.length := by
          have z : (j + 1) * W ≤ D * W := Nat.mul_le_mul_right _ (by omega)
          rw [Nat.add_mul, Nat.one_mul] at z
          omega
        have gl := grpI_len x W row j
        have gl2 : j * (W + 1) ≤ 2 * row.length := by
          rw [Nat.mul_add, Nat.mul_one]
          have z : j * 1 ≤ j * W := Nat.mul_le_mul_left _ w0
          omega
        have hc4 := (s12.trans s4).seq hc
        walk_at "r"
        refine i_lst (by show 1 ≤ sizeLine; decide) (fun o1 H5 ho1 s5 eo1 => ?_)
        have ef5 := s5 _ _ ef
        walk_at "r"
        refine i_cat ef5 eo1 (sz (by rw [List.length_map, List.length_append]; show _ + _ + 1 ≤ _; omega)) (fun o2 H6 ho2 s6 eo2 => ?_)
        have eg6 := s6 _ _ (s5 _ _ eg)
        walk_at "r"
        refine i_slL (sl_of eg6) (fun o3 H7 ho3 s7 eo3 => ?_)
        rw [cut_to, ← List.map_take] at eo3
        walk_at "r"
        refine i_cat (s7 _ _ eo2) eo3 (sz (by rw [List.length_append, List.length_map, List.length_append, List.length_map, List.length_take]; show _ + _ + 1 + _ ≤ _; omega)) (fun o4 H8 ho4 s8 eo4 => ?_)
        have eg8 := s8 _ _ (s7 _ _ eg6)
        walk_at "r"
        refine i_slL (sl_of eg8) (fun o5 H9 ho5 s9 eo5 => ?_)
        rw [cut_from, ← List.map_drop, List.drop_drop] at eo5
        walk_at "r"
        have s49 := (((s5.trans s6).trans s7).trans s8).trans s9
        refine ⟨o4, o5, _, rfl, s4.trans s49, (s12.trans s4).free ((((s5.trans s6).trans s7)).free ho4), ?_, ?_⟩
        · rw [s9 _ _ eo4, grpI]
          congr 2
          simp
        · rw [eo5, Nat.add_mul, Nat.one_mul]
      · obtain ⟨f, g, y3, rfl, s4, hf, ef, eg⟩ := pv
        rw [Int.toNat_natCast] at ef eg
        have gl := grpI_len x W row (D)
        have gl2 : D * (W + 1) ≤ 2 * row.length := by
          rw [Nat.mul_add, Nat.mul_one]
          omega
        have ldr : (row.drop (D * W)).length = row.length % W := by
          rw [List.length_drop]
          omega
        have gk := gw (row.length % W) (by omega)
        have hc4 := (s12.trans s4).seq hc
        have er4 := s4 _ _ er2
        have erow4 := s4 _ _ (s2 _ _ erow)
        walk_at "r"
        rw [List.length_map, las]
        refine i_br (fun c1 => ?_) (fun c1 => ?_)
        · have cc : i + 1 < (rowsB e body).length ∨ row.length % W ≠ 0 ∨ row = [] := .inl (by omega)
          have gka := gk
          have hca := (Same.refl H').seq hc4
          have ega := (Same.refl H') _ _ eg
          have efa := (Same.refl H') _ _ ef
          walk_at "r"
          rw [ldr]
          refine i_ixL hca gka ?_
          walk_at "r"
          refine i_lst (by show 1 ≤ sizeLine; decide) (fun o1 G1 ho1 t1 eo1 => ?_)
          have efg := t1 _ _ efa
          walk_at "r"
          refine i_cat efg eo1 (sz (by rw [List.length_map, List.length_append]; show _ + _ + 1 ≤ _; omega)) (fun o2 G2 ho2 t2 eo2 => ?_)
          have egg := t2 _ _ (t1 _ _ ega)
          walk_at "r"
          refine i_cat eo2 egg (sz (by rw [List.length_append, List.length_map, List.length_append, List.length_map, ldr]; show _ + _ + 1 + _ ≤ _; omega)) (fun o3 G3 ho3 t3 eo3 => ?_)
          have tt := (((Same.refl H').trans t1).trans t2).trans t3
          walk_at "r"
          refine ⟨o3, _, _, _, rfl, s4.trans tt, (s12.trans s4).free ((((Same.refl H').trans t1).trans t2).free ho3), ?_⟩
          rw [eo3, cst, if_pos cc]
          congr 2
          simp
        · walk_at "r"
          refine i_lst (Nat.zero_le _) (fun z1 H5 hz1 s5 ez1 => ?_)
          have eg5 := s5 _ _ eg
          walk_at "r"
          refine i_neL (ys := []) (sl_of eg5) (sl_of ez1) ?_
          walk_at "r"
          refine i_nbr (fun c2 => ?_) (fun c2 => ?_)
          · have r0 : row.length % W = 0 := by
              rw [← ldr, c2]
              rfl
            have er5 := s5 _ _ er4
            walk_at "r"
            refine i_lst (Nat.zero_le _) (fun z2 H6 hz2 s6 ez2 => ?_)
            have s56 := s5.trans s6
            have erow6 := s56 _ _ erow4
            walk_at "r"
            refine i_eqL (ys := []) (sl_of erow6) (sl_of ez2) ?_
            walk_at "r"
            refine i_br (fun c3 => ?_) (fun c3 => ?_)
            · have cc : i + 1 < (rowsB e body).length ∨ row.length % W ≠ 0 ∨ row = [] := .inr (.inr c3)
              have gkb := gk
              have hcb := s56.seq hc4
              have egb := s56 _ _ eg
              have efb := s56 _ _ ef
              walk_at "r"
              rw [ldr]
              refine i_ixL hcb gkb ?_
              walk_at "r"
              refine i_lst (by show 1 ≤ sizeLine; decide) (fun o1 G1 ho1 t1 eo1 => ?_)
              have efg := t1 _ _ efb
              walk_at "r"
              refine i_cat efg eo1 (sz (by rw [List.length_map, List.length_append]; show _ + _ + 1 ≤ _; omega)) (fun o2 G2 ho2 t2 eo2 => ?_)
              have egg := t2 _ _ (t1 _ _ egb)
              walk_at "r"
              refine i_cat eo2 egg (sz (by rw [List.length_append, List.length_map, List.length_append, List.length_map, ldr]; show _ + _ + 1 + _ ≤ _; omega)) (fun o3 G3 ho3 t3 eo3 => ?_)
              have tt := ((s56.trans t1).trans t2).trans t3
              walk_at "r"
              refine ⟨o3, _, _, _, rfl, s4.trans tt, (s12.trans s4).free (((s56.trans t1).trans t2).free ho3), ?_⟩
              rw [eo3, cst, if_pos cc]
              congr 2
              simp
            · have cc : ¬ (i + 1 < (rowsB e body).length ∨ row.length % W ≠ 0 ∨ row = []) := fun z => by
                rcases z with z | z | z
                · omega
                · exact z r0
                · exact c3 z
              walk_at "r"
              refine ⟨f, _, _, _, rfl, s4.trans s56, hf, ?_⟩
              rw [s56 _ _ ef, cst, if_neg cc, List.append_nil]
          · have cc : i + 1 < (rowsB e body).length ∨ row.length % W ≠ 0 ∨ row = [] := .inr (.inl fun q => c2 (List.length_eq_zero_iff.mp (by rw [ldr]; exact q)))
            have gkc := gk
            have hcc := s5.seq hc4
            have egc := s5 _ _ eg
            have efc := s5 _ _ ef
            walk_at "r"
            rw [ldr]
            refine i_ixL hcc gkc ?_
            walk_at "r"
            refine i_lst (by show 1 ≤ sizeLine; decide) (fun o1 G1 ho1 t1 eo1 => ?_)
            have efg := t1 _ _ efc
            walk_at "r"
            refine i_cat efg eo1 (sz (by rw [List.length_map, List.length_append]; show _ + _ + 1 ≤ _; omega)) (fun o2 G2 ho2 t2 eo2 => ?_)
            have egg := t2 _ _ (t1 _ _ egc)
            walk_at "r"
            refine i_cat eo2 egg (sz (by rw [List.length_append, List.length_map, List.length_append, List.length_map, ldr]; show _ + _ + 1 + _ ≤ _; omega)) (fun o3 G3 ho3 t3 eo3 => ?_)
            have tt := ((s5.trans t1).trans t2).trans t3
            walk_at "r"
            refine ⟨o3, _, _, _, rfl, s4.trans tt, (s12.trans s4).free (((s5.trans t1).trans t2).free ho3), ?_⟩
            rw [eo3, cst, if_pos cc]
            congr 2
            simp
    · obtain ⟨f, y1, y2, y3, rfl, s3, hf, ef⟩ := pv
      have ei : (((as.map V.ref).length : Nat) : Int).toNat = (rowsB e body).length := by
        rw [List.length_map, las]
        omega
      rw [ei] at ef
      unfold cntI at ef
      rw [if_pos rfl] at ef
      walk_at "r"
      exact q f H' hf (s12.trans s3) ef
end
end Esc

namespace Esc
open PySem PySem.Spec PyProof.Rows L2
theorem body_dg {t : Int} {ns : List Int} (h : ∀ x ∈ ns, 0 ≤ x ∧ x < t) : ns.map V.int = (digits (countL t) ns).map fun (d : Nat) => V.int (d : Int) := by
  unfold digits
  rw [List.map_map]
  refine List.map_congr_left fun x hx => ?_
  have z := h x hx
  have m : (countL t)[x.toNat]? = some x := by
    unfold countL
    rw [List.getElem?_map, List.getElem?_range (by omega)]
    show some ((x.toNat : Nat) : Int) = _
    rw [Int.toNat_of_nonneg z.1]
  obtain ⟨g1, g2⟩ := List.getElem?_eq_some_iff.mp m
  have e : (countL t).idxOf x = x.toNat := by
    conv => lhs; rw [← g2]
    exact List.Nodup.idxOf_getElem (count_nodup t) _ g1
  show V.int x = V.int (((countL t).idxOf x : Nat) : Int)
  rw [e, Int.toNat_of_nonneg z.1]
theorem look_filter {prs : List (Int × Int)} (hn : (prs.map (·.1)).Nodup) (x : Int) : (prs.filter fun c => decide (c.1 = x)).map (·.2) = (look prs x).toList := by
  induction prs with
  | nil => rfl
  | cons c prs ih =>
    obtain ⟨n1, n2⟩ := List.nodup_cons.mp hn
    by_cases e : c.1 = x
    · have l : look (c :: prs) x = some c.2 := by
        unfold look
        rw [List.find?_cons_of_pos (by simpa using e)]
        rfl
      have f : prs.filter (fun c => decide (c.1 = x)) = [] := by
        rw [List.filter_eq_nil_iff]
        intro d hd
        have : d.1 ≠ x := fun z => n1 (by show c.1 ∈ _; rw [e, ← z]; exact List.mem_map_of_mem (f := (·.1)) hd)
        simpa using this
      rw [l, List.filter_cons_of_pos (by simpa using e), f]
      rfl
    · have l : look (c :: prs) x = look prs x := by
        unfold look
        rw [List.find?_cons_of_neg (by simpa using e)]
      rw [l, List.filter_cons_of_neg (by simpa using e)]
      exact ih n2
theorem str_no {a b : Str} (h : a ≠ b) : ¬ (a = b) := h
section
variable {P : Program} {w : World} {K : PySem.W.Frag} {mg : Str → Option Value} {base : Heap}
def spLFramed (K : PySem.W.Frag) (n : Nat) : Sp := fun vs H Q _ => ∃ (v : V) (b : Addr) (wy : Way) (body : List Int), vs = [v, .ref b] ∧ WayAt K H v wy ∧ wy.Ok ∧ wy.ts.length ≤ n ∧ SqL K H b (body.map V.int) ∧ (∀ x ∈ body, 0 ≤ x ∧ x < wy.t) ∧ body.length ≤ 200 ∧
  ∀ q H', H q = none → Same H H' → H' q = some (.lst ((frameW wy body).map V.int)) → Q (.ref q) H'
theorem c_law_framedN (Z : Blt mg) (c__law_plain : C8.Cal P w K mg base 1 "_law_plain" spPlain []) (c__law_counted : C8.Cal P w K mg base 2 "_law_counted" (spCounted K) []) (c__law_number : C8.Cal P w K mg base 1 "_law_number" (spNumber K) []) (c__law_list : C8.Cal P w K mg base 1 "_law_list" spList [])
    (d : Dd K mg "_law_framed" s__law_framed P__law_framed) : ∀ n : Nat, C8.Cal P w K mg base (n + 3) "_law_framed" (spLFramed K n) [] := by
  have h1n : ∀ n : Nat, 1 ≤ n + 2 := fun n => by omega
  have h2n : ∀ n : Nat, 2 ≤ n + 2 := fun n => by omega
  have step : ∀ n : Nat, (C8.Cal P w K mg base (n + 2) "_law_framed" (fun vs H Q E => match n with | 0 => False | m + 1 => spLFramed K m vs H Q E) []) → C8.Cal P w K mg base (n + 3) "_law_framed" (spLFramed K n) [] := fun n c__law_framed => by
    refine d.cal sc__law_framed (fun vs H Q E h => ?_) (fun f cdv A outer s H vs Q E hr h => ?_)
    · obtain ⟨v, b, wy, body, rfl, _⟩ := h
      rfl
    · obtain ⟨v, b, ⟨ts, t, e, k⟩, body, rfl, ⟨tas, p, hts, hw, hk⟩, ok, hn, hb, hin, hlen, q⟩ := h
      have nd := sc__law_framed.nd
      have t3 : 3 ≤ t := ok.t3
      have t16 : t ≤ 16 := ok.t16
      have e0 : 0 ≤ e := ok.e0
      have e1 : e < t := ok.e1
      have hbd : ∀ x ∈ body, 0 ≤ x ∧ x < t := hin
      clear hin
      cases tas with
      | cons at_ r =>
        obtain ⟨a, tr⟩ := at_
        obtain ⟨p0, x, rfl, hp0, htd, htr⟩ := hw
        have hts : tr :: r.map (·.2) = ts := hts
        subst hts
        have hn : (tr :: r.map (·.2)).length ≤ n := hn
        cases n with
        | zero => exact absurd hn (by simp)
        | succ m =>
          have hpa : tr.Perm (countL t) := ok.perm tr List.mem_cons_self
          have lp := hpa.length_eq
          rw [count_len] at lp
          have hat := htd.st (K := K)
          refine ⟨_, (pss_cons (ps_if (pt_cmpR op_eq (pe_ix ix_tup (pv 0) pe_int (fun _ _ => rfl)) pe_str (nomark _)) (pss_one (ps_ret (C8.pe_c c__law_framed hr (Nat.le_refl _) (by rfl) (pa_cons (pe_ix ix_tup (pv 0) pe_int (fun _ _ => rfl)) (pa_cons (pe_lc (own := [("_law_sign", 5)]) (g := gName 5) (tt := tYes) rfl nd (pi_list (pv 1)) (blkOk_by (N := N__law_framed) (sc := C8.fnScope s__law_framed) (own := [("_law_sign", 5)]) (by decide +kernel)) (fun _ _ _ _ _ => (pg_name (i := 5) nd rfl (Or.inl rfl))) (fun _ _ _ _ _ => pts_nil) (fun _ _ _ _ _ => (pe_ix (show IxR _ (rIxT K) from ix_tup) (pe_ix (show IxR _ (rIxT K) from ix_tup) (pv 0) pe_int (fun _ _ => rfl)) (pv 5) (fun _ _ => rfl)))) pa_nil))))) pss_nil)
  (pss_cons (ps_set (i := 2) nd rfl (Or.inr rfl) (C8.pe_c c__law_plain hr (h1n _) (by rfl) (pa_cons (pe_ix ix_tup (pv 0) pe_int (fun _ _ => rfl)) (pa_cons (pe_ix ix_tup (pv 0) pe_int (fun _ _ => rfl)) pa_nil))))
  (pss_cons (ps_if (pt_cmpR op_eq (pe_ix ix_tup (pv 0) pe_int (fun _ _ => rfl)) pe_str (nomark _)) (pss_one (ps_ret (pe_op op_cat (C8.pe_c c__law_counted hr (h2n _) (by rfl) (pa_cons (pv 1) (pa_cons (pe_ix ix_tup (pv 0) pe_int (fun _ _ => rfl)) (pa_cons (pv 2) (pa_cons (pe_ix ix_tup (pv 0) pe_int (fun _ _ => rfl)) pa_nil))))) (pe_lst (pa_cons (pe_ix ix_tup (pv 0) pe_int (fun _ _ => rfl)) pa_nil))))) pss_nil)
  (pss_cons (ps_if (pt_cmpR op_eq (pe_ix ix_tup (pv 0) pe_int (fun _ _ => rfl)) pe_str (nomark _)) (pss_cons (ps_set (i := 3) nd rfl (Or.inl rfl) (C8.pe_c c__law_list hr (h1n _) (by rfl) (pa_cons (C8.pe_c c__law_number hr (h1n _) (by rfl) (pa_cons (pv 1) (pa_cons (pe_ix ix_tup (pv 0) pe_int (fun _ _ => rfl)) pa_nil))) (pa_cons (pe_op op_sub (pe_ix ix_tup (pv 0) pe_int (fun _ _ => rfl)) pe_int) pa_nil))))
  (pss_one (ps_ret (pe_op op_cat (pe_lc (own := [("_law_k", 7)]) (g := gName 7) (tt := tYes) rfl nd (pi_list (pv 3)) (blkOk_by (N := N__law_framed) (sc := C8.fnScope s__law_framed) (own := [("_law_k", 7)]) (by decide +kernel)) (fun _ _ _ _ _ => (pg_name (i := 7) nd rfl (Or.inl rfl))) (fun _ _ _ _ _ => pts_nil) (fun _ _ _ _ _ => (pe_ix (show IxR _ (rIxL K) from ix_list) (pv 2) (pv 7) (fun _ _ => rfl)))) (pe_lst (pa_cons (pe_ix ix_tup (pv 0) pe_int (fun _ _ => rfl)) pa_nil)))))) pss_nil)
  (pss_cons (ps_set (i := 4) nd rfl (Or.inl rfl) (pe_lst pa_nil))
  (pss_cons (ps_for PassesOwn.never rfl (pi_list (pv 1)) (pg_name (i := 5) nd rfl (Or.inr rfl))
    (pss_one (ps_if (pt_cmpR op_eq (pe_ix ix_tup (pv 0) pe_int (fun _ _ => rfl)) pe_str (nomark _)) (pss_one (ps_set (i := 4) nd rfl (Or.inl rfl) (pe_op op_cat (pv 4) (pe_callTy k_listOf (by rfl) Z.list_ (by decide +kernel) (pa_cons (pe_ix ix_list (pe_ix ix_tup (pv 0) pe_int (fun _ _ => rfl)) (pv 5) (fun _ _ => rfl)) pa_nil))))) (pss_cons (ps_setLc (i := 6) (own := [("_law_one_here", 9), ("_law_code", 8)]) (g := gTup K 2 (gCons (gName 9) (gCons (gName 8) gNil))) rfl nd rfl rfl (sw_true rfl rfl rfl (by decide +kernel)) (pi_list (pe_ix ix_tup (pv 0) pe_int (fun _ _ => rfl))) (blkOk_by (N := N__law_framed) (sc := C8.fnScope s__law_framed) (own := [("_law_one_here", 9), ("_law_code", 8)]) (by decide +kernel)) (fun _ _ _ _ _ => (pg_tup rfl (pgs_cons (pg_name (i := 9) nd rfl (Or.inl rfl)) (pgs_cons (pg_name (i := 8) nd rfl (Or.inl rfl)) pgs_nil)))) (fun _ _ _ _ _ => pts_one (pt_cmpR op_eq (pv 9) (pv 5) (nomark _))) (fun _ _ _ _ _ => (pv 8)))
  (pss_one (ps_set (i := 4) nd rfl (Or.inl rfl) (pe_op op_cat (pe_op op_cat (pv 4) (pe_lc (own := [("_law_code", 8)]) (g := gName 8) (tt := tYes) rfl nd (pi_list (pv 6)) (blkOk_by (N := N__law_framed) (sc := C8.fnScope s__law_framed) (own := [("_law_code", 8)]) (by decide +kernel)) (fun _ _ _ _ _ => (pg_name (i := 8) nd rfl (Or.inl rfl))) (fun _ _ _ _ _ => pts_nil) (fun _ _ _ _ _ => (pe_ix (show IxR _ (rIxT K) from ix_tup) (pv 0) pe_int (fun _ _ => rfl))))) (pe_slice sl_list (pe_op op_cat (pv 6) (pe_lst (pa_cons (pv 5) pa_nil))) po_none (po_some pe_int)))))))))
  (pss_one (ps_ret (pe_op op_cat (pv 4) (pe_lst (pa_cons (pe_ix ix_tup (pv 0) pe_int (fun _ _ => rfl)) pa_nil))))))))))), ?_⟩
          refine i_start (σ' := [some (.ref p0), some (.ref b), none, none, none, none, none, none, none, none]) rfl ?_
          walk_at "go"
          walk_at "r"
          refine i_yes rfl ?_
          walk_at "r"
          refine i_lcL (F := fun v => match v with | .int n => some (.int (tr.getD n.toNat 0)) | _ => none) hb (by rw [List.length_map]; omega) (fun v hv H3 s3 QN QY hN hY => ?_) (fun p3 H3 hp3 s3 e3 => ?_)
          · obtain ⟨n, hn, rfl⟩ := List.mem_map.mp hv
            have zn := hbd n hn
            have hp03 := stup s3 hp0
            have hat3 := stup s3 hat
            have hati : atI (tr.map V.int) n = some (.int (tr.getD n.toNat 0)) := by
              have z : ∀ (k : Nat) (v : V), n = (k : Int) → (tr.map V.int)[k]? = some v → atI (tr.map V.int) n = some v := fun k v z1 z2 => by
                rw [z1]
                exact atI_nat z2
              refine z n.toNat _ (by omega) ?_
              rw [List.getElem?_map, List.getD_eq_getElem?_getD, List.getElem?_eq_getElem (by omega)]
              rfl
            walk_at "r"
            exact hY _ rfl _ (Same.refl _)
          · have e5 : ∀ l : List Int, (l.map V.int).filterMap (fun v => match v with | .int n => some (V.int (tr.getD n.toNat 0)) | _ => none) = (turnS tr l).map V.int := fun l => by
              induction l with
              | nil => rfl
              | cons n r ih =>
                rw [List.map_cons, List.filterMap_cons, ih]
                rfl
            rw [e5] at e3
            have tin := turnS_in hpa hbd
            walk_at "r"
            refine ⟨x, p3, ⟨r.map (·.2), t, e, k⟩, _, rfl, ⟨r, p, rfl, htr.same s3, hk.same s3⟩, ⟨?_, t3, t16, e0, e1, ok.kind, fun p hp => ok.perm p (List.mem_cons_of_mem _ hp)⟩, by simpa using hn, sl_of e3, tin, by rw [turnS_len]; exact hlen, fun q4 H4 hq4 s4 e4 => ?_⟩
            · have z := ok.few
              rw [List.length_cons] at z
              show (r.map (·.2)).length ≤ 3
              omega
            · exact q q4 H4 (s3.free hq4) (s3.trans s4) e4
      | nil =>
        have hw : v = .ref p := hw
        subst hw
        have hts : [] = ts := hts
        subst hts
        have hk : KindAt K H p t e k := hk
        have kd : KindOk t e k := ok.kind
        have hfr : frameW ⟨[], t, e, k⟩ body = rowOf t e k body ++ [e] := rfl
        rw [hfr] at q
        cases k with
        | counts l =>
          have hk : SqT K H p [.str "counts", .int t, .int e, .int l] := hk
          obtain ⟨l2, lt⟩ := kd
          have hq : ∀ (r : Addr) (H' : Hp), H r = none → Same H H' → H' r = some (.lst ((cntB t e l body ++ [e]).map V.int)) → Q (.ref r) H' := q
          refine ⟨_, (pss_cons (ps_if (pt_cmpR op_eq (pe_ix ix_tup (pv 0) pe_int (fun _ _ => rfl)) pe_str (nomark _)) (pss_one (ps_ret (C8.pe_c c__law_framed hr (Nat.le_refl _) (by rfl) (pa_cons (pe_ix ix_tup (pv 0) pe_int (fun _ _ => rfl)) (pa_cons (pe_lc (own := [("_law_sign", 5)]) (g := gName 5) (tt := tYes) rfl nd (pi_list (pv 1)) (blkOk_by (N := N__law_framed) (sc := C8.fnScope s__law_framed) (own := [("_law_sign", 5)]) (by decide +kernel)) (fun _ _ _ _ _ => (pg_name (i := 5) nd rfl (Or.inl rfl))) (fun _ _ _ _ _ => pts_nil) (fun _ _ _ _ _ => (pe_ix (show IxR _ (rIxL K) from ix_list) (pe_ix (show IxR _ (rIxT K) from ix_tup) (pv 0) pe_int (fun _ _ => rfl)) (pv 5) (fun _ _ => rfl)))) pa_nil))))) pss_nil)
  (pss_cons (ps_set (i := 2) nd rfl (Or.inr rfl) (C8.pe_c c__law_plain hr (h1n _) (by rfl) (pa_cons (pe_ix ix_tup (pv 0) pe_int (fun _ _ => rfl)) (pa_cons (pe_ix ix_tup (pv 0) pe_int (fun _ _ => rfl)) pa_nil))))
  (pss_cons (ps_if (pt_cmpR op_eq (pe_ix ix_tup (pv 0) pe_int (fun _ _ => rfl)) pe_str (nomark _)) (pss_one (ps_ret (pe_op op_cat (C8.pe_c c__law_counted hr (h2n _) (by rfl) (pa_cons (pv 1) (pa_cons (pe_ix ix_tup (pv 0) pe_int (fun _ _ => rfl)) (pa_cons (pv 2) (pa_cons (pe_ix ix_tup (pv 0) pe_int (fun _ _ => rfl)) pa_nil))))) (pe_lst (pa_cons (pe_ix ix_tup (pv 0) pe_int (fun _ _ => rfl)) pa_nil))))) pss_nil)
  (pss_cons (ps_if (pt_cmpR op_eq (pe_ix ix_tup (pv 0) pe_int (fun _ _ => rfl)) pe_str (nomark _)) (pss_cons (ps_set (i := 3) nd rfl (Or.inl rfl) (C8.pe_c c__law_list hr (h1n _) (by rfl) (pa_cons (C8.pe_c c__law_number hr (h1n _) (by rfl) (pa_cons (pv 1) (pa_cons (pe_ix ix_tup (pv 0) pe_int (fun _ _ => rfl)) pa_nil))) (pa_cons (pe_op op_sub (pe_ix ix_tup (pv 0) pe_int (fun _ _ => rfl)) pe_int) pa_nil))))
  (pss_one (ps_ret (pe_op op_cat (pe_lc (own := [("_law_k", 7)]) (g := gName 7) (tt := tYes) rfl nd (pi_list (pv 3)) (blkOk_by (N := N__law_framed) (sc := C8.fnScope s__law_framed) (own := [("_law_k", 7)]) (by decide +kernel)) (fun _ _ _ _ _ => (pg_name (i := 7) nd rfl (Or.inl rfl))) (fun _ _ _ _ _ => pts_nil) (fun _ _ _ _ _ => (pe_ix (show IxR _ (rIxL K) from ix_list) (pv 2) (pv 7) (fun _ _ => rfl)))) (pe_lst (pa_cons (pe_ix ix_tup (pv 0) pe_int (fun _ _ => rfl)) pa_nil)))))) pss_nil)
  (pss_cons (ps_set (i := 4) nd rfl (Or.inl rfl) (pe_lst pa_nil))
  (pss_cons (ps_for PassesOwn.never rfl (pi_list (pv 1)) (pg_name (i := 5) nd rfl (Or.inr rfl))
    (pss_one (ps_if (pt_cmpR op_eq (pe_ix ix_tup (pv 0) pe_int (fun _ _ => rfl)) pe_str (nomark _)) (pss_one (ps_set (i := 4) nd rfl (Or.inl rfl) (pe_op op_cat (pv 4) (pe_callTy k_listOf (by rfl) Z.list_ (by decide +kernel) (pa_cons (pe_ix ix_list (pe_ix ix_tup (pv 0) pe_int (fun _ _ => rfl)) (pv 5) (fun _ _ => rfl)) pa_nil))))) (pss_cons (ps_setLc (i := 6) (own := [("_law_one_here", 9), ("_law_code", 8)]) (g := gTup K 2 (gCons (gName 9) (gCons (gName 8) gNil))) rfl nd rfl rfl (sw_true rfl rfl rfl (by decide +kernel)) (pi_list (pe_ix ix_tup (pv 0) pe_int (fun _ _ => rfl))) (blkOk_by (N := N__law_framed) (sc := C8.fnScope s__law_framed) (own := [("_law_one_here", 9), ("_law_code", 8)]) (by decide +kernel)) (fun _ _ _ _ _ => (pg_tup rfl (pgs_cons (pg_name (i := 9) nd rfl (Or.inl rfl)) (pgs_cons (pg_name (i := 8) nd rfl (Or.inl rfl)) pgs_nil)))) (fun _ _ _ _ _ => pts_one (pt_cmpR op_eq (pv 9) (pv 5) (nomark _))) (fun _ _ _ _ _ => (pv 8)))
  (pss_one (ps_set (i := 4) nd rfl (Or.inl rfl) (pe_op op_cat (pe_op op_cat (pv 4) (pe_lc (own := [("_law_code", 8)]) (g := gName 8) (tt := tYes) rfl nd (pi_list (pv 6)) (blkOk_by (N := N__law_framed) (sc := C8.fnScope s__law_framed) (own := [("_law_code", 8)]) (by decide +kernel)) (fun _ _ _ _ _ => (pg_name (i := 8) nd rfl (Or.inl rfl))) (fun _ _ _ _ _ => pts_nil) (fun _ _ _ _ _ => (pe_ix (show IxR _ (rIxT K) from ix_tup) (pv 0) pe_int (fun _ _ => rfl))))) (pe_slice sl_list (pe_op op_cat (pv 6) (pe_lst (pa_cons (pv 5) pa_nil))) po_none (po_some pe_int)))))))))
  (pss_one (ps_ret (pe_op op_cat (pv 4) (pe_lst (pa_cons (pe_ix ix_tup (pv 0) pe_int (fun _ _ => rfl)) pa_nil))))))))))), ?_⟩
          refine i_start (σ' := [some (.ref p), some (.ref b), none, none, none, none, none, none, none, none]) rfl ?_
          walk_at "go"
          walk_at "r"
          refine i_no (by decide +kernel) ?_
          walk_at "r"
          refine ⟨t, e, rfl, by omega, by omega, fun pl H1 _ s1 epl => ?_⟩
          have hk1 := stup s1 hk
          walk_at "r"
          refine i_yes rfl ?_
          walk_at "r"
          refine ⟨b, pl, t, e, l, body, rfl, s1.seq hb, sl_of epl, e0, e1, t16, l2, lt, by omega, fun r H2 hr2 s2 er => ?_⟩
          have hk2 := stup s2 hk1
          have cl := cntB_len (t := t) (e := e) l2 body
          walk_at "r"
          refine i_lst (by show 1 ≤ sizeLine; decide) (fun o H3 ho s3 eo => ?_)
          walk_at "r"
          refine i_cat (s3 _ _ er) eo (sz (by rw [List.length_map]; show _ + 1 ≤ _; omega)) (fun o2 H4 ho2 s4 eo2 => ?_)
          have s14 := ((s1.trans s2).trans s3).trans s4
          exact hq o2 H4 (((s1.trans s2).trans s3).free ho2) s14 (by rw [eo2, List.map_append]; rfl)
        | ranks =>
          have hk : SqT K H p [.str "ranks", .int t, .int e] := hk
          have hq : ∀ (r : Addr) (H' : Hp), H r = none → Same H H' → H' r = some (.lst ((rowR t e body ++ [e]).map V.int)) → Q (.ref r) H' := q
          have np := plain_len e0 e1
          have hrl := rowR_len t3 t16 e0 e1 hbd
          have tt : ((t.toNat : Nat) : Int) = t := Int.toNat_of_nonneg (by omega)
          refine ⟨_, (pss_cons (ps_if (pt_cmpR op_eq (pe_ix ix_tup (pv 0) pe_int (fun _ _ => rfl)) pe_str (nomark _)) (pss_one (ps_ret (C8.pe_c c__law_framed hr (Nat.le_refl _) (by rfl) (pa_cons (pe_ix ix_tup (pv 0) pe_int (fun _ _ => rfl)) (pa_cons (pe_lc (own := [("_law_sign", 5)]) (g := gName 5) (tt := tYes) rfl nd (pi_list (pv 1)) (blkOk_by (N := N__law_framed) (sc := C8.fnScope s__law_framed) (own := [("_law_sign", 5)]) (by decide +kernel)) (fun _ _ _ _ _ => (pg_name (i := 5) nd rfl (Or.inl rfl))) (fun _ _ _ _ _ => pts_nil) (fun _ _ _ _ _ => (pe_ix (show IxR _ (rIxL K) from ix_list) (pe_ix (show IxR _ (rIxT K) from ix_tup) (pv 0) pe_int (fun _ _ => rfl)) (pv 5) (fun _ _ => rfl)))) pa_nil))))) pss_nil)
  (pss_cons (ps_set (i := 2) nd rfl (Or.inr rfl) (C8.pe_c c__law_plain hr (h1n _) (by rfl) (pa_cons (pe_ix ix_tup (pv 0) pe_int (fun _ _ => rfl)) (pa_cons (pe_ix ix_tup (pv 0) pe_int (fun _ _ => rfl)) pa_nil))))
  (pss_cons (ps_if (pt_cmpR op_eq (pe_ix ix_tup (pv 0) pe_int (fun _ _ => rfl)) pe_str (nomark _)) (pss_one (ps_ret (pe_op op_cat (C8.pe_c c__law_counted hr (h2n _) (by rfl) (pa_cons (pv 1) (pa_cons (pe_ix ix_tup (pv 0) pe_int (fun _ _ => rfl)) (pa_cons (pv 2) (pa_cons (pe_ix ix_tup (pv 0) pe_int (fun _ _ => rfl)) pa_nil))))) (pe_lst (pa_cons (pe_ix ix_tup (pv 0) pe_int (fun _ _ => rfl)) pa_nil))))) pss_nil)
  (pss_cons (ps_if (pt_cmpR op_eq (pe_ix ix_tup (pv 0) pe_int (fun _ _ => rfl)) pe_str (nomark _)) (pss_cons (ps_set (i := 3) nd rfl (Or.inl rfl) (C8.pe_c c__law_list hr (h1n _) (by rfl) (pa_cons (C8.pe_c c__law_number hr (h1n _) (by rfl) (pa_cons (pv 1) (pa_cons (pe_ix ix_tup (pv 0) pe_int (fun _ _ => rfl)) pa_nil))) (pa_cons (pe_op op_sub (pe_ix ix_tup (pv 0) pe_int (fun _ _ => rfl)) pe_int) pa_nil))))
  (pss_one (ps_ret (pe_op op_cat (pe_lc (own := [("_law_k", 7)]) (g := gName 7) (tt := tYes) rfl nd (pi_list (pv 3)) (blkOk_by (N := N__law_framed) (sc := C8.fnScope s__law_framed) (own := [("_law_k", 7)]) (by decide +kernel)) (fun _ _ _ _ _ => (pg_name (i := 7) nd rfl (Or.inl rfl))) (fun _ _ _ _ _ => pts_nil) (fun _ _ _ _ _ => (pe_ix (show IxR _ (rIxL K) from ix_list) (pv 2) (pv 7) (fun _ _ => rfl)))) (pe_lst (pa_cons (pe_ix ix_tup (pv 0) pe_int (fun _ _ => rfl)) pa_nil)))))) pss_nil)
  (pss_cons (ps_set (i := 4) nd rfl (Or.inl rfl) (pe_lst pa_nil))
  (pss_cons (ps_for PassesOwn.never rfl (pi_list (pv 1)) (pg_name (i := 5) nd rfl (Or.inr rfl))
    (pss_one (ps_if (pt_cmpR op_eq (pe_ix ix_tup (pv 0) pe_int (fun _ _ => rfl)) pe_str (nomark _)) (pss_one (ps_set (i := 4) nd rfl (Or.inl rfl) (pe_op op_cat (pv 4) (pe_callTy k_listOf (by rfl) Z.list_ (by decide +kernel) (pa_cons (pe_ix ix_list (pe_ix ix_tup (pv 0) pe_int (fun _ _ => rfl)) (pv 5) (fun _ _ => rfl)) pa_nil))))) (pss_cons (ps_setLc (i := 6) (own := [("_law_one_here", 9), ("_law_code", 8)]) (g := gTup K 2 (gCons (gName 9) (gCons (gName 8) gNil))) rfl nd rfl rfl (sw_true rfl rfl rfl (by decide +kernel)) (pi_list (pe_ix ix_tup (pv 0) pe_int (fun _ _ => rfl))) (blkOk_by (N := N__law_framed) (sc := C8.fnScope s__law_framed) (own := [("_law_one_here", 9), ("_law_code", 8)]) (by decide +kernel)) (fun _ _ _ _ _ => (pg_tup rfl (pgs_cons (pg_name (i := 9) nd rfl (Or.inl rfl)) (pgs_cons (pg_name (i := 8) nd rfl (Or.inl rfl)) pgs_nil)))) (fun _ _ _ _ _ => pts_one (pt_cmpR op_eq (pv 9) (pv 5) (nomark _))) (fun _ _ _ _ _ => (pv 8)))
  (pss_one (ps_set (i := 4) nd rfl (Or.inl rfl) (pe_op op_cat (pe_op op_cat (pv 4) (pe_lc (own := [("_law_code", 8)]) (g := gName 8) (tt := tYes) rfl nd (pi_list (pv 6)) (blkOk_by (N := N__law_framed) (sc := C8.fnScope s__law_framed) (own := [("_law_code", 8)]) (by decide +kernel)) (fun _ _ _ _ _ => (pg_name (i := 8) nd rfl (Or.inl rfl))) (fun _ _ _ _ _ => pts_nil) (fun _ _ _ _ _ => (pe_ix (show IxR _ (rIxT K) from ix_tup) (pv 0) pe_int (fun _ _ => rfl))))) (pe_slice sl_list (pe_op op_cat (pv 6) (pe_lst (pa_cons (pv 5) pa_nil))) po_none (po_some pe_int)))))))))
  (pss_one (ps_ret (pe_op op_cat (pv 4) (pe_lst (pa_cons (pe_ix ix_tup (pv 0) pe_int (fun _ _ => rfl)) pa_nil))))))))))), ?_⟩
          refine i_start (σ' := [some (.ref p), some (.ref b), none, none, none, none, none, none, none, none]) rfl ?_
          walk_at "go"
          walk_at "r"
          refine i_no (by decide +kernel) ?_
          walk_at "r"
          refine ⟨t, e, rfl, by omega, by omega, fun pl H1 _ s1 epl => ?_⟩
          have hk1 := stup s1 hk
          walk_at "r"
          refine i_no (by decide +kernel) ?_
          walk_at "r"
          refine i_yes rfl ?_
          walk_at "r"
          refine ⟨b, digits (countL t) body, t.toNat, by rw [tt], by rw [← body_dg hbd]; exact s1.seq hb, by omega, by omega, fun H2 s2 => ?_⟩
          have hk2 := stup s2 hk1
          have lrd : (rowD (plainL t e).length (rankD t.toNat (digits (countL t) body))).length ≤ 1000 := by
            unfold rowR letters at hrl
            rw [List.length_map] at hrl
            omega
          have lrr : (rowR t e body).length = (rowD (plainL t e).length (rankD t.toNat (digits (countL t) body))).length := List.length_map _
          walk_at "r"
          refine ⟨rankD t.toNat (digits (countL t) body), (plainL t e).length, by rw [show t - 1 = (((plainL t e).length : Nat) : Int) by omega], by omega, by omega, lrd, fun rw_ H3 hrw s3 erw => ?_⟩
          have epl3 := s3 _ _ (s2 _ _ epl)
          walk_at "r"
          refine i_lcL (F := fun v => match v with | .int n => some (.int ((plainL t e).getD n.toNat 0)) | _ => none) (sl_of erw) (by rw [List.length_map]; omega) (fun v hv H4 s4 QN QY hN hY => ?_) (fun p4 H4 hp4 s4 e4 => ?_)
          · obtain ⟨n, hn, rfl⟩ := List.mem_map.mp hv
            have zn := row_lt (n := (plainL t e).length) (by omega) _ n hn
            have epl4 := s4 _ _ epl3
            have hati : atI ((plainL t e).map V.int) (n : Int) = some (.int ((plainL t e).getD ((n : Nat) : Int).toNat 0)) := by
              refine atI_nat ?_
              rw [List.getElem?_map, List.getD_eq_getElem?_getD, Int.toNat_natCast, List.getElem?_eq_getElem zn]
              rfl
            walk_at "r"
            exact hY _ rfl _ (Same.refl _)
          · have e5 : ∀ l : List Nat, (l.map fun (d : Nat) => V.int (d : Int)).filterMap (fun v => match v with | .int n => some (V.int ((plainL t e).getD n.toNat 0)) | _ => none) = (letters (plainL t e) l).map V.int := fun l => by
              induction l with
              | nil => rfl
              | cons n r ih =>
                rw [List.map_cons, List.filterMap_cons, ih]
                rfl
            rw [e5] at e4
            have e4 : H4 p4 = some (.lst ((rowR t e body).map V.int)) := e4
            have hk4 := stup (s3.trans s4) hk2
            walk_at "r"
            refine i_lst (by show 1 ≤ sizeLine; decide) (fun o H5 ho s5 eo => ?_)
            walk_at "r"
            refine i_cat (s5 _ _ e4) eo (sz (by rw [List.length_map]; show _ + 1 ≤ _; omega)) (fun o2 H6 ho2 s6 eo2 => ?_)
            have s15 := (((s1.trans s2).trans s3).trans s4).trans s5
            exact hq o2 H6 (s15.free ho2) (s15.trans s6) (by rw [eo2, List.map_append]; rfl)
        | codes cs =>
          obtain ⟨c, as, hp, hc, ht⟩ := hk
          obtain ⟨hl, hok, hap⟩ := kd
          have lcs := ht.len
          have hq : ∀ (r : Addr) (H' : Hp), H r = none → Same H H' → H' r = some (.lst ((codesB cs body ++ [e]).map V.int)) → Q (.ref r) H' := q
          refine ⟨_, (pss_cons (ps_if (pt_cmpR op_eq (pe_ix ix_tup (pv 0) pe_int (fun _ _ => rfl)) pe_str (nomark _)) (pss_one (ps_ret (C8.pe_c c__law_framed hr (Nat.le_refl _) (by rfl) (pa_cons (pe_ix ix_tup (pv 0) pe_int (fun _ _ => rfl)) (pa_cons (pe_lc (own := [("_law_sign", 5)]) (g := gName 5) (tt := tYes) rfl nd (pi_list (pv 1)) (blkOk_by (N := N__law_framed) (sc := C8.fnScope s__law_framed) (own := [("_law_sign", 5)]) (by decide +kernel)) (fun _ _ _ _ _ => (pg_name (i := 5) nd rfl (Or.inl rfl))) (fun _ _ _ _ _ => pts_nil) (fun _ _ _ _ _ => (pe_ix (show IxR _ (rIxL K) from ix_list) (pe_ix (show IxR _ (rIxT K) from ix_tup) (pv 0) pe_int (fun _ _ => rfl)) (pv 5) (fun _ _ => rfl)))) pa_nil))))) pss_nil)
  (pss_cons (ps_set (i := 2) nd rfl (Or.inr rfl) (C8.pe_c c__law_plain hr (h1n _) (by rfl) (pa_cons (pe_ix ix_tup (pv 0) pe_int (fun _ _ => rfl)) (pa_cons (pe_ix ix_tup (pv 0) pe_int (fun _ _ => rfl)) pa_nil))))
  (pss_cons (ps_if (pt_cmpR op_eq (pe_ix ix_tup (pv 0) pe_int (fun _ _ => rfl)) pe_str (nomark _)) (pss_one (ps_ret (pe_op op_cat (C8.pe_c c__law_counted hr (h2n _) (by rfl) (pa_cons (pv 1) (pa_cons (pe_ix ix_tup (pv 0) pe_int (fun _ _ => rfl)) (pa_cons (pv 2) (pa_cons (pe_ix ix_tup (pv 0) pe_int (fun _ _ => rfl)) pa_nil))))) (pe_lst (pa_cons (pe_ix ix_tup (pv 0) pe_int (fun _ _ => rfl)) pa_nil))))) pss_nil)
  (pss_cons (ps_if (pt_cmpR op_eq (pe_ix ix_tup (pv 0) pe_int (fun _ _ => rfl)) pe_str (nomark _)) (pss_cons (ps_set (i := 3) nd rfl (Or.inl rfl) (C8.pe_c c__law_list hr (h1n _) (by rfl) (pa_cons (C8.pe_c c__law_number hr (h1n _) (by rfl) (pa_cons (pv 1) (pa_cons (pe_ix ix_tup (pv 0) pe_int (fun _ _ => rfl)) pa_nil))) (pa_cons (pe_op op_sub (pe_ix ix_tup (pv 0) pe_int (fun _ _ => rfl)) pe_int) pa_nil))))
  (pss_one (ps_ret (pe_op op_cat (pe_lc (own := [("_law_k", 7)]) (g := gName 7) (tt := tYes) rfl nd (pi_list (pv 3)) (blkOk_by (N := N__law_framed) (sc := C8.fnScope s__law_framed) (own := [("_law_k", 7)]) (by decide +kernel)) (fun _ _ _ _ _ => (pg_name (i := 7) nd rfl (Or.inl rfl))) (fun _ _ _ _ _ => pts_nil) (fun _ _ _ _ _ => (pe_ix (show IxR _ (rIxL K) from ix_list) (pv 2) (pv 7) (fun _ _ => rfl)))) (pe_lst (pa_cons (pe_ix ix_tup (pv 0) pe_int (fun _ _ => rfl)) pa_nil)))))) pss_nil)
  (pss_cons (ps_set (i := 4) nd rfl (Or.inl rfl) (pe_lst pa_nil))
  (pss_cons (ps_for PassesOwn.never rfl (pi_list (pv 1)) (pg_name (i := 5) nd rfl (Or.inr rfl))
    (pss_one (ps_if (pt_cmpR op_eq (pe_ix ix_tup (pv 0) pe_int (fun _ _ => rfl)) pe_str (nomark _)) (pss_one (ps_set (i := 4) nd rfl (Or.inl rfl) (pe_op op_cat (pv 4) (pe_callTy k_listOf (by rfl) Z.list_ (by decide +kernel) (pa_cons (pe_ix ix_tup (pe_ix ix_tup (pv 0) pe_int (fun _ _ => rfl)) (pv 5) (fun _ _ => rfl)) pa_nil))))) (pss_cons (ps_setLc (i := 6) (own := [("_law_one_here", 9), ("_law_code", 8)]) (g := gTup K 2 (gCons (gName 9) (gCons (gName 8) gNil))) rfl nd rfl rfl (sw_true rfl rfl rfl (by decide +kernel)) (pi_list (pe_ix ix_tup (pv 0) pe_int (fun _ _ => rfl))) (blkOk_by (N := N__law_framed) (sc := C8.fnScope s__law_framed) (own := [("_law_one_here", 9), ("_law_code", 8)]) (by decide +kernel)) (fun _ _ _ _ _ => (pg_tup rfl (pgs_cons (pg_name (i := 9) nd rfl (Or.inl rfl)) (pgs_cons (pg_name (i := 8) nd rfl (Or.inl rfl)) pgs_nil)))) (fun _ _ _ _ _ => pts_one (pt_cmpR op_eq (pv 9) (pv 5) (nomark _))) (fun _ _ _ _ _ => (pv 8)))
  (pss_one (ps_set (i := 4) nd rfl (Or.inl rfl) (pe_op op_cat (pe_op op_cat (pv 4) (pe_lc (own := [("_law_code", 8)]) (g := gName 8) (tt := tYes) rfl nd (pi_list (pv 6)) (blkOk_by (N := N__law_framed) (sc := C8.fnScope s__law_framed) (own := [("_law_code", 8)]) (by decide +kernel)) (fun _ _ _ _ _ => (pg_name (i := 8) nd rfl (Or.inl rfl))) (fun _ _ _ _ _ => pts_nil) (fun _ _ _ _ _ => (pe_ix (show IxR _ (rIxT K) from ix_tup) (pv 0) pe_int (fun _ _ => rfl))))) (pe_slice sl_list (pe_op op_cat (pv 6) (pe_lst (pa_cons (pv 5) pa_nil))) po_none (po_some pe_int)))))))))
  (pss_one (ps_ret (pe_op op_cat (pv 4) (pe_lst (pa_cons (pe_ix ix_tup (pv 0) pe_int (fun _ _ => rfl)) pa_nil))))))))))), ?_⟩
          refine i_start (σ' := [some (.ref p), some (.ref b), none, none, none, none, none, none, none, none]) rfl ?_
          walk_at "go"
          walk_at "r"
          refine i_no (by decide +kernel) ?_
          walk_at "r"
          refine ⟨t, e, rfl, by omega, by omega, fun pl H1 _ s1 epl => ?_⟩
          have hp1 := stup s1 hp
          walk_at "r"
          refine i_no (by decide +kernel) ?_
          walk_at "r"
          refine i_no (by decide +kernel) ?_
          walk_at "r"
          refine i_lst (Nat.zero_le _) (fun f0 H2 hf0 s2 ef0 => ?_)
          have s12 := s1.trans s2
          walk_at "r"
          refine i_for (s12.seq hb) (fun i σ' H' => ∃ (f : Addr) (y : Option V), σ' = [some (.ref p), some (.ref b), some (.ref pl), none, some (.ref f), y, none, none, none, none] ∧ Same H H' ∧ H f = none ∧ H' f = some (.lst ((codesB cs (body.take i)).map V.int)))
            ⟨f0, none, rfl, s12, s1.free hf0, ef0⟩ (fun i σ' H' _ ⟨_, _, _, s3, _⟩ => s3.seq hb) (fun i x σ' H' hi pv => ?_) (fun σ' H' pv => ?_)
          · obtain ⟨f, y, rfl, s3, hf, ef⟩ := pv
            obtain ⟨n, hn, rfl⟩ := map_get hi
            have il := (List.getElem?_eq_some_iff.mp hn).1
            have bn := hbd n (List.mem_of_getElem? hn)
            have hna : n.toNat < as.length := by omega
            obtain ⟨cc, hcc, hac⟩ := ht.get (List.getElem?_eq_getElem hna)
            have lc4 := (hok cc (List.mem_of_getElem? hcc)).2.1
            have hp3 := stup s3 hp
            have hc3 := stup s3 hc
            have hac3 := stup s3 hac
            have hati : atI (as.map V.ref) n = some (.ref as[n.toNat]) := by
              have z : ∀ (k : Nat) (v : V), n = (k : Int) → (as.map V.ref)[k]? = some v → atI (as.map V.ref) n = some v := fun k v z1 z2 => by
                rw [z1]
                exact atI_nat z2
              refine z n.toNat _ (by omega) ?_
              rw [List.getElem?_map, List.getElem?_eq_getElem hna]
              rfl
            have l4 := codesB_len (fun c hc => (hok c hc).2.1) (body.take i)
            rw [List.length_take] at l4
            walk_at "r"
            refine i_yes rfl ?_
            walk_at "r"
            refine i_listOfT hac3 (fun o H4 ho s4 eo => ?_)
            have ef4 := s4 _ _ ef
            walk_at "r"
            refine i_cat ef4 eo (sz (by rw [List.length_map, List.length_map]; omega)) (fun o2 H5 ho2 s5 eo2 => ?_)
            walk_at "r"
            refine ⟨o2, _, rfl, (s3.trans s4).trans s5, (s3.trans s4).free ho2, ?_⟩
            rw [eo2, take_succ' hn, codesB_snoc, List.map_append, List.getD_eq_getElem?_getD, hcc]
            rfl
          · obtain ⟨f, y, rfl, s3, hf, ef⟩ := pv
            rw [List.length_map, List.take_length] at ef
            have hp3 := stup s3 hp
            have l4 := codesB_len (fun c hc => (hok c hc).2.1) body
            walk_at "r"
            refine i_lst (by show 1 ≤ sizeLine; decide) (fun o H5 ho s5 eo => ?_)
            walk_at "r"
            refine i_cat (s5 _ _ ef) eo (sz (by rw [List.length_map]; show _ + 1 ≤ _; omega)) (fun o2 H6 ho2 s6 eo2 => ?_)
            have s15 := s3.trans s5
            exact hq o2 H6 (s15.free ho2) (s15.trans s6) (by rw [eo2, List.map_append]; rfl)
        | escapes m prs =>
          obtain ⟨c, as, hp, hc, ht⟩ := hk
          obtain ⟨hm, hw, hr0, he1, hm1, hcp, hcn⟩ := kd
          have las := ht.len
          have hnf : (prs.map (·.1)).Nodup := hw.imp fun h => by omega
          have lprs : prs.length ≤ 16 := by
            have z := nodup_bound hcn hcp t16
            rw [List.length_map] at z
            exact z
          have hq : ∀ (r : Addr) (H' : Hp), H r = none → Same H H' → H' r = some (.lst ((escB m prs body ++ [e]).map V.int)) → Q (.ref r) H' := q
          refine ⟨_, (pss_cons (ps_if (pt_cmpR op_eq (pe_ix ix_tup (pv 0) pe_int (fun _ _ => rfl)) pe_str (nomark _)) (pss_one (ps_ret (C8.pe_c c__law_framed hr (Nat.le_refl _) (by rfl) (pa_cons (pe_ix ix_tup (pv 0) pe_int (fun _ _ => rfl)) (pa_cons (pe_lc (own := [("_law_sign", 5)]) (g := gName 5) (tt := tYes) rfl nd (pi_list (pv 1)) (blkOk_by (N := N__law_framed) (sc := C8.fnScope s__law_framed) (own := [("_law_sign", 5)]) (by decide +kernel)) (fun _ _ _ _ _ => (pg_name (i := 5) nd rfl (Or.inl rfl))) (fun _ _ _ _ _ => pts_nil) (fun _ _ _ _ _ => (pe_ix (show IxR _ (rIxL K) from ix_list) (pe_ix (show IxR _ (rIxT K) from ix_tup) (pv 0) pe_int (fun _ _ => rfl)) (pv 5) (fun _ _ => rfl)))) pa_nil))))) pss_nil)
  (pss_cons (ps_set (i := 2) nd rfl (Or.inr rfl) (C8.pe_c c__law_plain hr (h1n _) (by rfl) (pa_cons (pe_ix ix_tup (pv 0) pe_int (fun _ _ => rfl)) (pa_cons (pe_ix ix_tup (pv 0) pe_int (fun _ _ => rfl)) pa_nil))))
  (pss_cons (ps_if (pt_cmpR op_eq (pe_ix ix_tup (pv 0) pe_int (fun _ _ => rfl)) pe_str (nomark _)) (pss_one (ps_ret (pe_op op_cat (C8.pe_c c__law_counted hr (h2n _) (by rfl) (pa_cons (pv 1) (pa_cons (pe_ix ix_tup (pv 0) pe_int (fun _ _ => rfl)) (pa_cons (pv 2) (pa_cons (pe_ix ix_tup (pv 0) pe_int (fun _ _ => rfl)) pa_nil))))) (pe_lst (pa_cons (pe_ix ix_tup (pv 0) pe_int (fun _ _ => rfl)) pa_nil))))) pss_nil)
  (pss_cons (ps_if (pt_cmpR op_eq (pe_ix ix_tup (pv 0) pe_int (fun _ _ => rfl)) pe_str (nomark _)) (pss_cons (ps_set (i := 3) nd rfl (Or.inl rfl) (C8.pe_c c__law_list hr (h1n _) (by rfl) (pa_cons (C8.pe_c c__law_number hr (h1n _) (by rfl) (pa_cons (pv 1) (pa_cons (pe_ix ix_tup (pv 0) pe_int (fun _ _ => rfl)) pa_nil))) (pa_cons (pe_op op_sub (pe_ix ix_tup (pv 0) pe_int (fun _ _ => rfl)) pe_int) pa_nil))))
  (pss_one (ps_ret (pe_op op_cat (pe_lc (own := [("_law_k", 7)]) (g := gName 7) (tt := tYes) rfl nd (pi_list (pv 3)) (blkOk_by (N := N__law_framed) (sc := C8.fnScope s__law_framed) (own := [("_law_k", 7)]) (by decide +kernel)) (fun _ _ _ _ _ => (pg_name (i := 7) nd rfl (Or.inl rfl))) (fun _ _ _ _ _ => pts_nil) (fun _ _ _ _ _ => (pe_ix (show IxR _ (rIxL K) from ix_list) (pv 2) (pv 7) (fun _ _ => rfl)))) (pe_lst (pa_cons (pe_ix ix_tup (pv 0) pe_int (fun _ _ => rfl)) pa_nil)))))) pss_nil)
  (pss_cons (ps_set (i := 4) nd rfl (Or.inl rfl) (pe_lst pa_nil))
  (pss_cons (ps_for PassesOwn.never rfl (pi_list (pv 1)) (pg_name (i := 5) nd rfl (Or.inr rfl))
    (pss_one (ps_if (pt_cmpR op_eq (pe_ix ix_tup (pv 0) pe_int (fun _ _ => rfl)) pe_str (nomark _)) (pss_one (ps_set (i := 4) nd rfl (Or.inl rfl) (pe_op op_cat (pv 4) (pe_callTy k_listOf (by rfl) Z.list_ (by decide +kernel) (pa_cons (pe_ix ix_list (pe_ix ix_tup (pv 0) pe_int (fun _ _ => rfl)) (pv 5) (fun _ _ => rfl)) pa_nil))))) (pss_cons (ps_setLc (i := 6) (own := [("_law_one_here", 9), ("_law_code", 8)]) (g := gTup K 2 (gCons (gName 9) (gCons (gName 8) gNil))) rfl nd rfl rfl (sw_true rfl rfl rfl (by decide +kernel)) (pi_tup (pe_ix ix_tup (pv 0) pe_int (fun _ _ => rfl))) (blkOk_by (N := N__law_framed) (sc := C8.fnScope s__law_framed) (own := [("_law_one_here", 9), ("_law_code", 8)]) (by decide +kernel)) (fun _ _ _ _ _ => (pg_tup rfl (pgs_cons (pg_name (i := 9) nd rfl (Or.inl rfl)) (pgs_cons (pg_name (i := 8) nd rfl (Or.inl rfl)) pgs_nil)))) (fun _ _ _ _ _ => pts_one (pt_cmpR op_eq (pv 9) (pv 5) (nomark _))) (fun _ _ _ _ _ => (pv 8)))
  (pss_one (ps_set (i := 4) nd rfl (Or.inl rfl) (pe_op op_cat (pe_op op_cat (pv 4) (pe_lc (own := [("_law_code", 8)]) (g := gName 8) (tt := tYes) rfl nd (pi_list (pv 6)) (blkOk_by (N := N__law_framed) (sc := C8.fnScope s__law_framed) (own := [("_law_code", 8)]) (by decide +kernel)) (fun _ _ _ _ _ => (pg_name (i := 8) nd rfl (Or.inl rfl))) (fun _ _ _ _ _ => pts_nil) (fun _ _ _ _ _ => (pe_ix (show IxR _ (rIxT K) from ix_tup) (pv 0) pe_int (fun _ _ => rfl))))) (pe_slice sl_list (pe_op op_cat (pv 6) (pe_lst (pa_cons (pv 5) pa_nil))) po_none (po_some pe_int)))))))))
  (pss_one (ps_ret (pe_op op_cat (pv 4) (pe_lst (pa_cons (pe_ix ix_tup (pv 0) pe_int (fun _ _ => rfl)) pa_nil))))))))))), ?_⟩
          refine i_start (σ' := [some (.ref p), some (.ref b), none, none, none, none, none, none, none, none]) rfl ?_
          walk_at "go"
          walk_at "r"
          refine i_no (by decide +kernel) ?_
          walk_at "r"
          refine ⟨t, e, rfl, by omega, by omega, fun pl H1 _ s1 epl => ?_⟩
          have hp1 := stup s1 hp
          walk_at "r"
          refine i_no (by decide +kernel) ?_
          walk_at "r"
          refine i_no (by decide +kernel) ?_
          walk_at "r"
          refine i_lst (Nat.zero_le _) (fun f0 H2 hf0 s2 ef0 => ?_)
          have s12 := s1.trans s2
          walk_at "r"
          refine i_for (s12.seq hb) (fun i σ' H' => ∃ (f : Addr) (y y2 : Option V), σ' = [some (.ref p), some (.ref b), some (.ref pl), none, some (.ref f), y, y2, none, none, none] ∧ Same H H' ∧ H f = none ∧ H' f = some (.lst ((escB m prs (body.take i)).map V.int)))
            ⟨f0, none, none, rfl, s12, s1.free hf0, ef0⟩ (fun i σ' H' _ ⟨_, _, _, _, s3, _⟩ => s3.seq hb) (fun i x σ' H' hi pv => ?_) (fun σ' H' pv => ?_)
          · obtain ⟨f, y, y2, rfl, s3, hf, ef⟩ := pv
            obtain ⟨n, hn, rfl⟩ := map_get hi
            have il := (List.getElem?_eq_some_iff.mp hn).1
            have hp3 := stup s3 hp
            have hc3 := stup s3 hc
            have le := escB_len m prs (body.take i)
            rw [List.length_take] at le
            walk_at "r"
            refine i_no (by decide +kernel) ?_
            walk_at "r"
            refine i_lcTI (fun D j acc H' => acc = (((prs.take j).filter fun c => decide (c.1 = n)).map (·.2)).map V.int ∧ Same H H' ∧ H' D = some (.lst acc) ∧ H' f = some (.lst ((escB m prs (body.take i)).map V.int))) hc3
              (fun D hD => ⟨rfl, smut s3 (s3.free hD), upd_same, (upd_ne (ne_of_none ef hD)).trans ef⟩) (fun D j acc H' hD pv => stup pv.2.1 hc) (fun D j x acc H' hD hx hl pv => ?_) (fun p4 acc H4 hp4 pv => ?_)
            · obtain ⟨rfl, s4, e4, ef4⟩ := pv
              obtain ⟨a2, ha2, rfl⟩ := ref_get hx
              obtain ⟨pr, hpr, hbp⟩ := ht.get ha2
              have hbp4 := stup s4 hbp
              have hj : j < as.length := (List.getElem?_eq_some_iff.mp ha2).1
              have tk : prs.take (j + 1) = prs.take j ++ [pr] := take_succ' hpr
              walk_at "r"
              refine i_br (fun cq => ?_) (fun cq => ?_)
              · walk_at "r"
                refine kY_of e4 hl (by omega) ⟨?_, smut s4 (s3.free hD), upd_same, (upd_ne (ne_of_none ef hD)).trans ef4⟩
                rw [tk, List.filter_append, List.filter_cons_of_pos (by simpa using cq), List.filter_nil, List.map_append, List.map_append]
                rfl
              · walk_at "r"
                refine kN_of hl ⟨?_, s4, ?_, ef4⟩
                · rw [tk, List.filter_append, List.filter_cons_of_neg (by simpa using cq), List.filter_nil, List.append_nil]
                · exact e4
            · obtain ⟨rfl, s4, e4, ef4⟩ := pv
              rw [List.length_map, las, List.take_length, look_filter hnf] at e4
              have hp4x := stup s4 hp
              have lo : ((look prs n).toList).length ≤ 1 := by cases look prs n <;> simp
              walk_at "r"
              refine i_lcL (F := fun v => match v with | .int _ => some (.int m) | _ => none) (sl_of e4) (by rw [List.length_map]; omega) (fun v hv H5 s5 QN QY hN hY => ?_) (fun p5 H5 hp5 s5 e5 => ?_)
              · obtain ⟨n2, hn2, rfl⟩ := List.mem_map.mp hv
                have hp5 := stup s5 hp4x
                walk_at "r"
                exact hY _ rfl _ (Same.refl _)
              · have e6 : ∀ l : List Int, (l.map V.int).filterMap (fun v => match v with | .int _ => some (V.int m) | _ => none) = (l.map fun _ => m).map V.int := fun l => by
                  induction l with
                  | nil => rfl
                  | cons n r ih =>
                    rw [List.map_cons, List.filterMap_cons, ih]
                    rfl
                rw [e6] at e5
                have ef5 := s5 _ _ ef4
                have e45 := s5 _ _ e4
                walk_at "r"
                refine i_cat ef5 e5 (sz (by rw [List.length_map, List.length_map, List.length_map]; omega)) (fun o6 H6 ho6 s6 eo6 => ?_)
                walk_at "r"
                refine i_lst (by show 1 ≤ sizeLine; decide) (fun o7 H7 ho7 s7 eo7 => ?_)
                have e47 := s7 _ _ (s6 _ _ e45)
                walk_at "r"
                refine i_cat e47 eo7 (sz (by rw [List.length_map]; show _ + 1 ≤ _; omega)) (fun o8 H8 ho8 s8 eo8 => ?_)
                walk_at "r"
                refine i_slL (sl_of eo8) (fun o9 H9 ho9 s9 eo9 => ?_)
                have eo6' := s9 _ _ (s8 _ _ (s7 _ _ eo6))
                rw [show (1 : Int) = ((1 : Nat) : Int) from rfl, cut_to] at eo9
                walk_at "r"
                refine i_cat eo6' eo9 (sz (by rw [List.length_append, List.length_map, List.length_map, List.length_map, List.length_take]; have := Nat.min_le_left 1 ((((look prs n).toList).map V.int ++ [V.int n]).length); omega)) (fun o10 H10 ho10 s10 eo10 => ?_)
                have s59 := (((s5.trans s6).trans s7).trans s8).trans s9
                walk_at "r"
                refine ⟨o10, _, _, rfl, (s4.trans s59).trans s10, (s4.trans s59).free ho10, ?_⟩
                rw [eo10, take_succ' hn, escB_snoc]
                congr 2
                unfold escS
                cases look prs n with
                | none => simp
                | some cc => simp
          · obtain ⟨f, y, y2, rfl, s3, hf, ef⟩ := pv
            rw [List.length_map, List.take_length] at ef
            have hp3 := stup s3 hp
            have le := escB_len m prs body
            walk_at "r"
            refine i_lst (by show 1 ≤ sizeLine; decide) (fun o H5 ho s5 eo => ?_)
            walk_at "r"
            refine i_cat (s5 _ _ ef) eo (sz (by rw [List.length_map]; show _ + 1 ≤ _; omega)) (fun o2 H6 ho2 s6 eo2 => ?_)
            have s15 := s3.trans s5
            exact hq o2 H6 (s15.free ho2) (s15.trans s6) (by rw [eo2, List.map_append]; rfl)
  intro n
  induction n with
  | zero => exact step 0 (by
      have z := c_never (P := P) (w := w) (base := base) (k := 2) d
      exact z)
  | succ m ih => exact step (m + 1) ih
end
end Esc

namespace Esc
open PySem PySem.Spec PyProof.Rows L2
theorem set_in {t x : Int} {a : List Int} {k : Nat} (h : ∀ y ∈ a, 0 ≤ y ∧ y < t) (hx : 0 ≤ x ∧ x < t) : ∀ y ∈ a.set k x, 0 ≤ y ∧ y < t := fun y hy => by
  rcases List.mem_or_eq_of_mem_set hy with m | m
  · exact h y m
  · rw [m]
    exact hx
section
variable {P : Program} {w : World} {K : PySem.W.Frag} {mg : Str → Option Value} {base : Heap}
def spSigns (K : PySem.W.Frag) : Sp := fun vs H Q _ => ∃ (d : Addr) (v : V) (wy : Way) (m : Int), vs = [.ref d, v, .int m] ∧ DiceAt H d ∧ WayAt K (tp H) v wy ∧ wy.Ok ∧ 0 ≤ m ∧ m ≤ 1000 ∧
  ∀ (q : Addr) (H' : Hp) (ns : List Int), H q = none → Same (hide d H) H' → DiceAt H' d → H' q = some (.lst (ns.map V.int)) → (∀ x ∈ ns, 0 ≤ x ∧ x < wy.t) → (ns.length : Int) ≤ m → Q (.ref q) H'
theorem c_law_signs (Z : Blt mg) (c__law_top : C8.Cal P w K mg base 2 "_law_top" (spTopW K) []) (c__law_end : C8.Cal P w K mg base 2 "_law_end" (spEndW K) []) (c__law_off : C8.Cal P w K mg base 1 "_law_off" spOff []) (c__law_body : C8.Cal P w K mg base 2 "_law_body" spBody [])
    (c__law_framed : C8.Cal P w K mg base 6 "_law_framed" (spLFramed K 3) []) (d : Dd K mg "_law_signs" s__law_signs P__law_signs) : C8.Cal P w K mg base 7 "_law_signs" (spSigns K) [] := by
  refine d.cal sc__law_signs (fun vs H Q E h => ?_) (fun f cdv A outer s H vs Q E hr h => ?_)
  · obtain ⟨d, v, wy, m, rfl, _⟩ := h
    rfl
  · obtain ⟨d, v, wy, m, rfl, hd, hw, ok, m0, m1, q⟩ := h
    have nd := sc__law_signs.nd
    have t3 := ok.t3
    have t16 := ok.t16
    refine ⟨_, (pss_cons (ps_set (i := 3) nd rfl (Or.inr rfl) (C8.pe_c c__law_top hr (by decide) (by rfl) (pa_cons (pv 1) pa_nil)))
  (pss_cons (ps_set (i := 4) nd rfl (Or.inr rfl) (C8.pe_c c__law_end hr (by decide) (by rfl) (pa_cons (pv 1) pa_nil)))
  (pss_cons (ps_set (i := 5) nd rfl (Or.inl rfl) (pe_lst pa_nil))
  (pss_cons (ps_for PassesOwn.never rfl (pi_range1 rfl Z.range_ (pa_cons (C8.pe_c c__law_off hr (by decide) (by rfl) (pa_cons (pv 0) (pa_cons pe_int pa_nil))) pa_nil)) (pg_name (i := 6) nd rfl (Or.inl rfl))
    (pss_cons (ps_set (i := 5) nd rfl (Or.inl rfl) (pe_op op_cat (pv 5) (C8.pe_c c__law_framed hr (by decide) (by rfl) (pa_cons (pv 1) (pa_cons (C8.pe_c c__law_body hr (by decide) (by rfl) (pa_cons (pv 0) (pa_cons (pv 3) (pa_cons (pv 4) (pa_cons pe_int pa_nil))))) pa_nil)))))
  (C8.pss_cut (ps_if (pt_cmpR op_eq (C8.pe_c c__law_off hr (by decide) (by rfl) (pa_cons (pv 0) (pa_cons pe_int pa_nil))) pe_int (nomark _)) (pss_one (ps_asg (C8.pe_c c__law_off hr (by decide) (by rfl) (pa_cons (pv 0) (pa_cons (pv 3) pa_nil))) (pg_sub (pv 5) (C8.pe_c c__law_off hr (by decide) (by rfl) (pa_cons (pv 0) (pa_cons (pe_callB k_len (by rfl) Z.len_ (by decide +kernel) (pa_cons (pv 5) pa_nil)) pa_nil))) set_list))) pss_nil)
  (pss_one (ps_if (pt_cmpR op_eq (C8.pe_c c__law_off hr (by decide) (by rfl) (pa_cons (pv 0) (pa_cons pe_int pa_nil))) pe_int (nomark _)) (pss_one (ps_set (i := 5) nd rfl (Or.inl rfl) (pe_op op_cat (pv 5) (pe_lc (own := [("_law_k", 7)]) (g := gName 7) (tt := tYes) rfl nd (pi_range1 rfl Z.range_ (pa_cons (C8.pe_c c__law_off hr (by decide) (by rfl) (pa_cons (pv 0) (pa_cons pe_int pa_nil))) pa_nil)) (blkOk_by (N := N__law_signs) (sc := C8.fnScope s__law_signs) (own := [("_law_k", 7)]) (by decide +kernel)) (fun _ _ _ _ _ => (pg_name (i := 7) nd rfl (Or.inl rfl))) (fun _ _ _ _ _ => pts_nil) (fun _ _ _ _ _ => (pe_ix (show IxR _ (rIxL K) from ix_list) (pe_lst (pa_cons (pv 4) (pa_cons (C8.pe_c c__law_off hr (by decide) (by rfl) (pa_cons (pv 0) (pa_cons (pv 3) pa_nil))) pa_nil))) (C8.pe_c c__law_off hr (by decide) (by rfl) (pa_cons (pv 0) (pa_cons pe_int pa_nil))) (fun _ _ => rfl))))))) pss_nil)))))
  (pss_one (ps_ret (pe_slice sl_list (pv 5) po_none (po_some (pv 2))))))))), ?_⟩
    refine i_start (σ' := [some (.ref d), some v, some (.int m), none, none, none, none, none]) rfl ?_
    walk_at "go"
    walk_at "r"
    refine ⟨v, wy, rfl, hw.same tp_same, ?_⟩
    walk_at "r"
    refine ⟨v, wy, rfl, hw.same tp_same, ?_⟩
    walk_at "r"
    refine i_lst (Nat.zero_le _) (fun f0 H1 hf0 s1 ef0 => ?_)
    have d1 := hd.same s1
    walk_at "r"
    refine ⟨d, 7, rfl, by decide, by decide, d1, fun H2 k s2 d2 k0 k1 => ?_⟩
    have n0 := hd.ne hf0
    walk_at "r"
    refine i_rng ⟨k0, by omega⟩ (fun i σ' H' => ∃ (f : Addr) (us : List Int) (y : Option V), σ' = [some (.ref d), some v, some (.int m), some (.int wy.t), some (.int wy.e), some (.ref f), y, none] ∧ Same (hide d H) H' ∧ DiceAt H' d ∧ H f = none ∧ f ≠ d ∧ H' f = some (.lst (us.map V.int)) ∧ (∀ x ∈ us, 0 ≤ x ∧ x < wy.t) ∧ us.length ≤ 60 * i)
      ⟨f0, [], none, rfl, hide_tr (hide_pure s1) s2, d2, hf0, n0, hide_at s2 n0 ef0, (fun x hx => by cases hx), Nat.zero_le _⟩ (fun i σ' H' hi pv => ?_) (fun σ' H' pv => ?_)
    · obtain ⟨f, us, y, rfl, s3, d3, hf, nf, ef, hus, lus⟩ := pv
      have hi7 : i < 7 := by omega
      have hw3 := hw.same (tp_dice hd s3)
      walk_at "r"
      refine ⟨d, wy.t, wy.e, 8, rfl, d3, by omega, t16, ok.e0, ok.e1, by decide, by decide, fun p4 H4 ns4 hp4 s4 d4 e4 hn4 ln4 => ?_⟩
      have hw4 := hw3.same (tp_dice d3 s4)
      have few := ok.few
      walk_at "r"
      refine ⟨v, p4, wy, ns4, rfl, hw4.same tp_same, ok, few, sl_of e4, hn4, by omega, fun p5 H5 hp5 s5 e5 => ?_⟩
      have fin := frameW_in ok hn4
      have fln := frameW_len ok hn4
      have fps := frameW_pos wy ns4
      have ef5 := s5 _ _ (hide_at s4 nf ef)
      walk_at "r"
      refine i_cat ef5 e5 (sz (by rw [List.length_map, List.length_map]; omega)) (fun f6 H6 hf6 s6 e6 => ?_)
      rw [← List.map_append] at e6
      have s36 : Same (hide d H) H6 := hide_tr (hide_tr s3 s4) (hide_pure (s5.trans s6))
      have d5 := d4.same s5
      have d6 := d5.same s6
      have n6 := d5.ne hf6
      have hf6' : H f6 = none := by
        have z := (hide_tr (hide_tr s3 s4) (hide_pure s5)).free hf6
        rw [hide_ne n6] at z
        exact z
      have in6 := app_in hus fin
      have l6 : (us ++ frameW wy ns4).length ≤ 60 * i + 43 := by rw [List.length_append]; omega
      have l6p : 0 < (us ++ frameW wy ns4).length := by rw [List.length_append]; omega
      generalize us ++ frameW wy ns4 = ws at e6 in6 l6 l6p
      walk_at "r"
      refine i_cut (fun σ' H' => ∃ (us : List Int), σ' = [some (.ref d), some v, some (.int m), some (.int wy.t), some (.int wy.e), some (.ref f6), some (.int (i : Int)), none] ∧ Same (hide d H) H' ∧ DiceAt H' d ∧ H' f6 = some (.lst (us.map V.int)) ∧ (∀ x ∈ us, 0 ≤ x ∧ x < wy.t) ∧ us.length ≤ 60 * i + 43) ?_ (fun σ' H' pv => ?_)
      · walk_at "r"
        refine ⟨d, 3, rfl, by decide, by decide, d6, fun H7 c s7 d7 c0 c1 => ?_⟩
        have e7 := hide_at s7 n6 e6
        have s37 := hide_tr s36 s7
        walk_at "r"
        refine i_br (fun cc => ?_) (fun cc => ?_)
        · walk_at "r"
          refine ⟨d, wy.t, rfl, by omega, by omega, d7, fun H8 x s8 d8 x0 x1 => ?_⟩
          have e8 := hide_at s8 n6 e7
          walk_at "r"
          refine ⟨d, (ws.length : Nat), rfl, by omega, by omega, d8, fun H9 j s9 d9 j0 j1 => ?_⟩
          have e9 := hide_at s9 n6 e8
          walk_at "r"
          refine i_setL (j := j.toNat) e9 (ixN_of (by omega) (by rw [List.length_map]; omega)) ?_
          walk_at "r"
          refine ⟨ws.set j.toNat x, rfl, smut (hide_tr (hide_tr s37 s8) s9) (by rw [hide_ne n6]; exact hf6'), d9.put n6, ?_, set_in in6 ⟨x0, x1⟩, by rw [List.length_set]; exact l6⟩
          rw [upd_same, List.map_set]
        · walk_at "r"
          exact ⟨ws, rfl, s37, d7, e7, in6, l6⟩
      · obtain ⟨us, rfl, sA, dA, eA, inA, lA⟩ := pv
        walk_at "r"
        refine ⟨d, 4, rfl, by decide, by decide, dA, fun H7 c s7 d7 c0 c1 => ?_⟩
        have e7 := hide_at s7 n6 eA
        have s37 := hide_tr sA s7
        walk_at "r"
        refine i_br (fun cc => ?_) (fun cc => ?_)
        · walk_at "r"
          refine ⟨d, 4, rfl, by decide, by decide, d7, fun H8 x s8 d8 x0 x1 => ?_⟩
          have e8 := hide_at s8 n6 e7
          have s38 := hide_tr s37 s8
          walk_at "r"
          refine i_lcRI (fun D j acc H' => ∃ ds : List Int, acc = ds.map V.int ∧ ds.length = j ∧ Same (hide d H) H' ∧ DiceAt H' d ∧ H' D = some (.lst acc) ∧ H' f6 = some (.lst (us.map V.int)) ∧ (∀ x ∈ ds, 0 ≤ x ∧ x < wy.t) ∧ D ≠ d ∧ D ≠ f6 ∧ hide d H D = none) ⟨x0, by omega⟩
            (fun D hD => ⟨[], rfl, rfl, hide_tr s38 (hide_pure (same_new hD)), d8.same (same_new hD), upd_same, (upd_ne (ne_of_none e8 hD)).trans e8, (fun x hx => by cases hx), d8.ne hD, (ne_of_none e8 hD).symm, s38.free hD⟩) (fun D j acc H' hD hj hla pv => ?_) (fun D acc H' hD pv => ?_)
          · obtain ⟨ds, rfl, lds, s9, d9, eD, e9, inD, nDd, nDf, hDh⟩ := pv
            walk_at "r"
            refine ⟨d, wy.t, rfl, by omega, by omega, d9, fun H10 x s10 d10 y0 y1 => ?_⟩
            walk_at "r"
            refine i_lst (by show 2 ≤ sizeLine; decide) (fun o H11 ho s11 eo => ?_)
            have no := d10.ne ho
            walk_at "r"
            refine ⟨d, 2, rfl, by decide, by decide, d10.same s11, fun H12 z s12 d12 z0 z1 => ?_⟩
            have eo12 := hide_at s12 no eo
            have s9_12 : Same (hide d H') H12 := hide_tr (hide_tr s10 (hide_pure s11)) s12
            obtain ⟨u, hu, hu0⟩ : ∃ u : Int, atI [V.int wy.e, .int x] z = some (.int u) ∧ 0 ≤ u ∧ u < wy.t := by
              have hn : z = 0 ∨ z = 1 := by omega
              rcases hn with rfl | rfl
              · exact ⟨wy.e, atI_nat (j := 0) rfl, ok.e0, ok.e1⟩
              · exact ⟨x, atI_nat (j := 1) rfl, y0, y1⟩
            walk_at "r"
            have eD12 := hide_at s9_12 nDd eD
            refine kY_of eD12 hla (by omega) ⟨ds ++ [u], by rw [List.map_append]; rfl, by rw [List.length_append, lds]; rfl, smut (hide_tr s9 s9_12) hDh, d12.put nDd, upd_same, (upd_ne nDf.symm).trans (hide_at s9_12 n6 e9), app_in inD (one_in hu0), nDd, nDf, hDh⟩
          · obtain ⟨ds, rfl, lds, s9, d9, eD, e9, inD, nDd, nDf, hDh⟩ := pv
            have lds4 : ds.length ≤ 4 := by omega
            walk_at "r"
            refine i_cat e9 eD (sz (by rw [List.length_map, List.length_map]; omega)) (fun f10 H10 hf10 s10 e10 => ?_)
            rw [← List.map_append] at e10
            have n10 := d9.ne hf10
            walk_at "r"
            refine ⟨f10, us ++ ds, _, rfl, hide_tr s9 (hide_pure s10), d9.same s10, ?_, n10, e10, app_in inA inD, by rw [List.length_append]; omega⟩
            have z := s9.free hf10
            rw [hide_ne n10] at z
            exact z
        · walk_at "r"
          exact ⟨f6, us, _, rfl, s37, d7, hf6', n6, e7, inA, by omega⟩
    · obtain ⟨f, us, y, rfl, s3, d3, hf, nf, ef, hus, lus⟩ := pv
      obtain ⟨mn, rfl⟩ : ∃ n : Nat, m = (n : Int) := ⟨m.toNat, by omega⟩
      walk_at "r"
      refine i_slL (sl_of ef) (fun p4 H4 hp4 s4 e4 => ?_)
      rw [cut_to, ← List.map_take] at e4
      have n4 := d3.ne hp4
      refine q p4 H4 _ ?_ (hide_tr s3 (hide_pure s4)) (d3.same s4) e4 (take_in hus) ?_
      · have z := s3.free hp4
        rw [hide_ne n4] at z
        exact z
      · have z := List.length_take_le mn us
        omega
end
end Esc

namespace Esc
open PySem PySem.Spec PyProof.Rows L2
/-! ### how many -/
theorem pigeon {α : Type} [DecidableEq α] : ∀ (l m : List α), l.Nodup → (∀ x ∈ l, x ∈ m) → l.length ≤ m.length
  | [], _, _, _ => Nat.zero_le _
  | x :: l, m, hn, hs => by
    obtain ⟨nx, nl⟩ := List.nodup_cons.mp hn
    have mx := hs x List.mem_cons_self
    have ih := pigeon l (m.erase x) nl fun y hy => by
      have ne : y ≠ x := fun z => nx (by rw [← z]; exact hy)
      exact (List.mem_erase_of_ne ne).mpr (hs y (List.mem_cons_of_mem _ hy))
    have le := List.length_erase_of_mem mx
    have pos : 0 < m.length := List.length_pos_of_mem mx
    rw [List.length_cons]
    omega
theorem ahead_len (t : Int) : ∀ n : Nat, (aheadB t n).length = t.toNat ^ n
  | 0 => rfl
  | n + 1 => by
    show (longerB t (aheadB t n)).length = _
    rw [longerB_len, ahead_len t n, Nat.pow_succ, Nat.mul_comm]
def plainsL (t e : Int) (n : Nat) : List (List Int) := (aheadB (t - 1) n).map fun b => b.map fun x => (plainL t e).getD x.toNat 0
theorem plains_len (t e : Int) (n : Nat) : (plainsL t e n).length = (t - 1).toNat ^ n := by
  unfold plainsL
  rw [List.length_map, ahead_len]
theorem plains_mem {t e : Int} (h0 : 0 ≤ e) (h1 : e < t) {p : List Int} (hp : ∀ x ∈ p, x ∈ plainL t e) : p ∈ plainsL t e p.length := by
  have np := plain_len h0 h1
  refine List.mem_map.mpr ⟨p.map fun x => (((plainL t e).idxOf x : Nat) : Int), aheadB_mem.mpr ⟨List.length_map _, fun y hy => ?_⟩, ?_⟩
  · obtain ⟨x, hx, rfl⟩ := List.mem_map.mp hy
    have := List.idxOf_lt_length_of_mem (hp x hx)
    omega
  · rw [List.map_map]
    conv => rhs; rw [← List.map_id p]
    refine List.map_congr_left fun x hx => ?_
    have l := List.idxOf_lt_length_of_mem (hp x hx)
    show (plainL t e).getD (((plainL t e).idxOf x : Nat) : Int).toNat 0 = x
    rw [show ((((plainL t e).idxOf x : Nat) : Int)).toNat = (plainL t e).idxOf x from rfl, List.getD_eq_getElem?_getD, List.getElem?_eq_getElem l, Option.getD_some, List.getElem_idxOf l]
/-- the bodies whose frames have n signs -/
def ofSize (wy : Way) (n : Nat) : List (List Int) := (bodiesB wy.t 60).filter fun b => decide ((frameW wy b).length = n)
theorem ofSize_mem {wy : Way} {n : Nat} {b : List Int} : b ∈ ofSize wy n ↔ (b.length ≤ 60 ∧ ∀ x ∈ b, 0 ≤ x ∧ x < wy.t) ∧ (frameW wy b).length = n := by
  unfold ofSize
  rw [List.mem_filter, bodiesB_mem, decide_eq_true_eq]
theorem nodup_map {α β : Type} {f : α → β} {l : List α} (h : l.Nodup) (hf : ∀ a ∈ l, ∀ b ∈ l, f a = f b → a = b) : (l.map f).Nodup := by
  unfold List.Nodup
  rw [List.pairwise_map]
  refine List.Pairwise.imp_of_mem ?_ h
  intro a b ha hb ne e
  exact ne (hf a ha b hb e)
theorem frame_butlast (wy : Way) (b : List Int) : (frameW wy b).dropLast = rowOf wy.t wy.e wy.k (turnL wy.ts b) := List.dropLast_concat
theorem ofSize_le {wy : Way} (ok : wy.Ok) (n : Nat) : (ofSize wy (n + 1)).length ≤ (wy.t - 1).toNat ^ n := by
  rw [← plains_len wy.t wy.e n]
  have nd : ((ofSize wy (n + 1)).map fun b => (frameW wy b).dropLast).Nodup := nodup_map ((bodiesB_nodup _ _).sublist List.filter_sublist) (fun a ha b hb e => by
    have ia := (ofSize_mem.mp ha).1.2
    have ib := (ofSize_mem.mp hb).1.2
    rw [frame_butlast, frame_butlast] at e
    refine frameW_inj ok ia ib ?_
    unfold frameW
    rw [e])
  have z := pigeon _ (plainsL wy.t wy.e n) nd fun p hp => by
    obtain ⟨b, hb, rfl⟩ := List.mem_map.mp hp
    obtain ⟨⟨_, ib⟩, lb⟩ := ofSize_mem.mp hb
    have pl := rowOf_plain ok.kind ok.t3 ok.t16 ok.e0 ok.e1 (turnL_ok wy.ts ok.perm b ib).1
    have len : ((frameW wy b).dropLast).length = n := by
      rw [List.length_dropLast]
      omega
    have m := plains_mem ok.e0 ok.e1 (p := (frameW wy b).dropLast) fun x hx => by
      rw [frame_butlast] at hx
      exact plain_mem.mpr (pl x hx)
    rw [len] at m
    exact m
  rw [List.length_map] at z
  exact z
theorem ofSize_zero (wy : Way) : ofSize wy 0 = [] := by
  unfold ofSize
  rw [List.filter_eq_nil_iff]
  intro b _
  have := frameW_pos wy b
  simp only [decide_eq_true_eq]
  omega
/-- how many of all rooms up to r -/
theorem sum_sizes {α : Type} (l : List α) (f : α → Nat) : ∀ r : Nat, ((List.range (r + 1)).map fun n => (l.filter fun b => decide (f b = n)).length).sum = (l.filter fun b => decide (f b ≤ r)).length
  | 0 => by
    show (l.filter fun b => decide (f b = 0)).length + 0 = _
    rw [Nat.add_zero]
    congr 2
    funext b
    congr 1
    simp
  | r + 1 => by
    rw [List.range_succ, List.map_append, List.sum_append, sum_sizes l f r, List.map_cons, List.map_nil, List.sum_cons, List.sum_nil, Nat.add_zero]
    induction l with
    | nil => rfl
    | cons a l ih =>
      by_cases c1 : f a ≤ r
      · have f1 : decide (f a ≤ r) = true := decide_eq_true c1
        have f2 : decide (f a = r + 1) = false := decide_eq_false (by omega)
        have f3 : decide (f a ≤ r + 1) = true := decide_eq_true (by omega)
        simp only [List.filter_cons, f1, f2, f3, if_true, Bool.false_eq_true, if_false, List.length_cons]
        omega
      · by_cases c2 : f a = r + 1
        · have f1 : decide (f a ≤ r) = false := decide_eq_false c1
          have f2 : decide (f a = r + 1) = true := decide_eq_true c2
          have f3 : decide (f a ≤ r + 1) = true := decide_eq_true (by omega)
          simp only [List.filter_cons, f1, f2, f3, if_true, Bool.false_eq_true, if_false, List.length_cons]
          omega
        · have f1 : decide (f a ≤ r) = false := decide_eq_false c1
          have f2 : decide (f a = r + 1) = false := decide_eq_false c2
          have f3 : decide (f a ≤ r + 1) = false := decide_eq_false (by omega)
          simp only [List.filter_cons, f1, f2, f3, Bool.false_eq_true, if_false]
          omega
theorem sum_ge {wy : Way} {many room : Nat} (h60 : many ≤ 60) (h : ∀ b ∈ bodiesB wy.t many, (frameW wy b).length ≤ room) : (bodiesB wy.t many).length ≤ ((List.range (room + 1)).map fun n => (ofSize wy n).length).sum := by
  unfold ofSize
  rw [sum_sizes (bodiesB wy.t 60) (fun b => (frameW wy b).length) room]
  refine pigeon _ _ (bodiesB_nodup _ _) fun b hb => List.mem_filter.mpr ⟨bodiesB_mem.mpr ?_, decide_eq_true (h b hb)⟩
  obtain ⟨a1, a2⟩ := bodiesB_mem.mp hb
  exact ⟨by omega, a2⟩
theorem sum_le {wy : Way} (ok : wy.Ok) (many : Nat) : ((List.range (many + 2)).map fun n => (ofSize wy n).length).sum ≤ (bodiesB wy.t many).length := by
  unfold ofSize
  rw [sum_sizes (bodiesB wy.t 60) (fun b => (frameW wy b).length) (many + 1)]
  refine pigeon _ _ ((bodiesB_nodup _ _).sublist List.filter_sublist) fun b hb => ?_
  obtain ⟨m, d⟩ := List.mem_filter.mp hb
  obtain ⟨a1, a2⟩ := bodiesB_mem.mp m
  have := frameW_ge ok a2
  have := of_decide_eq_true d
  exact bodiesB_mem.mpr ⟨by omega, a2⟩
/-- by ranks each list of plain signs is a row -/
theorem ofSize_ranks {wy : Way} (ok : wy.Ok) (hk : wy.k = .ranks) {n : Nat} (hn : n ≤ 60) : (wy.t - 1).toNat ^ n ≤ (ofSize wy (n + 1)).length := by
  have np := plain_len ok.e0 ok.e1
  have t3 := ok.t3
  have lp : (plainL wy.t wy.e).length = (wy.t - 1).toNat := by omega
  rw [← ahead_len (wy.t - 1) n]
  have dec : ∀ b ∈ aheadB (wy.t - 1) n, (∀ x ∈ b.map fun x => (plainL wy.t wy.e).getD x.toNat 0, x ∈ plainL wy.t wy.e) ∧ (b.map fun x => (plainL wy.t wy.e).getD x.toNat 0).length = n := fun b hb => by
    obtain ⟨lb, ib⟩ := aheadB_mem.mp hb
    refine ⟨fun x hx => ?_, by rw [List.length_map, lb]⟩
    obtain ⟨y, hy, rfl⟩ := List.mem_map.mp hx
    have iy := ib y hy
    rw [List.getD_eq_getElem?_getD, List.getElem?_eq_getElem (by omega), Option.getD_some]
    exact List.getElem_mem _
  have key : ∀ p : List Int, (∀ x ∈ p, x ∈ plainL wy.t wy.e) → frameW wy (backL wy.ts (bodyR wy.t wy.e p)) = p ++ [wy.e] := fun p hp => by
    unfold frameW
    rw [turnL_backL wy.ts ok.perm _ (bodyR_mem t3 p), hk]
    show rowR wy.t wy.e (bodyR wy.t wy.e p) ++ _ = _
    rw [rowR_bodyR t3 ok.e0 ok.e1 hp]
  have nd : ((aheadB (wy.t - 1) n).map fun b => backL wy.ts (bodyR wy.t wy.e (b.map fun x => (plainL wy.t wy.e).getD x.toNat 0))).Nodup := nodup_map (aheadB_nodup _ _) fun a ha b hb e => by
    have z := congrArg (frameW wy) e
    rw [key _ (dec a ha).1, key _ (dec b hb).1] at z
    have z2 := List.append_cancel_right z
    obtain ⟨la, ia⟩ := aheadB_mem.mp ha
    obtain ⟨lb, ib⟩ := aheadB_mem.mp hb
    refine List.ext_getElem (by omega) fun i h1 h2 => ?_
    have g := congrArg (fun l => l[i]?) z2
    simp only [List.getElem?_map] at g
    rw [List.getElem?_eq_getElem h1, List.getElem?_eq_getElem h2] at g
    have ga := ia a[i] (List.getElem_mem h1)
    have gb := ib b[i] (List.getElem_mem h2)
    have g2 : (plainL wy.t wy.e).getD a[i].toNat 0 = (plainL wy.t wy.e).getD b[i].toNat 0 := Option.some.inj g
    rw [List.getD_eq_getElem?_getD, List.getD_eq_getElem?_getD, List.getElem?_eq_getElem (by omega), List.getElem?_eq_getElem (by omega), Option.getD_some, Option.getD_some] at g2
    have g3 := (List.getElem_inj (plain_nodup wy.t wy.e)).mp g2
    omega
  have z := pigeon _ (ofSize wy (n + 1)) nd fun p hp => by
    obtain ⟨b, hb, rfl⟩ := List.mem_map.mp hp
    obtain ⟨d1, d2⟩ := dec b hb
    have bk := backL_ok wy.ts ok.perm (bodyR wy.t wy.e (b.map fun x => (plainL wy.t wy.e).getD x.toNat 0)) (bodyR_mem t3 _)
    have bl := bodyR_len t3 ok.e0 ok.e1 d1
    refine ofSize_mem.mpr ⟨⟨by rw [bk.2]; omega, bk.1⟩, ?_⟩
    rw [key _ d1, List.length_append, d2]
    rfl
  rw [List.length_map] at z
  exact z
end Esc

namespace Esc
open PySem PySem.Spec PyProof.Rows L2
/-! ### counting by state and room -/
abbrev Sk := Int × Int
def cntL (key : List Int → Sk) (l : List (List Int)) (k : Sk) : Nat := (l.filter fun b => decide (key b = k)).length
theorem cntL_app (key : List Int → Sk) (a b : List (List Int)) (k : Sk) : cntL key (a ++ b) k = cntL key a k + cntL key b k := by
  unfold cntL
  rw [List.filter_append, List.length_append]
theorem cntL_cons (key : List Int → Sk) (a : List Int) (l : List (List Int)) (k : Sk) : cntL key (a :: l) k = (if key a = k then 1 else 0) + cntL key l k := by
  unfold cntL
  rw [List.filter_cons]
  by_cases c : key a = k
  · rw [if_pos c, decide_eq_true c, if_pos rfl, List.length_cons]
    omega
  · rw [if_neg c, decide_eq_false c, if_neg (by simp)]
    omega
/-- over distinct places one alone counts -/
theorem sum_one (f : Sk → Nat) (x : Sk) : ∀ ks : List Sk, ks.Nodup → (x ∈ ks ∨ f x = 0) → (ks.map fun k => (if x = k then 1 else 0) * f k).sum = f x
  | [], _, h => by
    rcases h with h | h
    · cases h
    · rw [h]
      rfl
  | k :: ks, hn, h => by
    obtain ⟨nk, nks⟩ := List.nodup_cons.mp hn
    rw [List.map_cons, List.sum_cons]
    by_cases c : x = k
    · rw [if_pos c, Nat.one_mul]
      have z : (ks.map fun k => (if x = k then 1 else 0) * f k).sum = 0 := by
        have all : ∀ y ∈ ks, (if x = y then 1 else 0) * f y = 0 := fun y hy => by
          rw [if_neg (fun e => nk (by rw [← c, e]; exact hy)), Nat.zero_mul]
        clear hn nks h nk
        induction ks with
        | nil => rfl
        | cons y ks ih =>
          rw [List.map_cons, List.sum_cons, all y List.mem_cons_self, ih fun z hz => all z (List.mem_cons_of_mem _ hz)]
      rw [z, c]
      rfl
    · rw [if_neg c, Nat.zero_mul, Nat.zero_add]
      refine sum_one f x ks nks ?_
      rcases h with h | h
      · rcases List.mem_cons.mp h with e | m
        · exact absurd e c
        · exact .inl m
      · exact .inr h
theorem sum_add {α : Type} (f g : α → Nat) : ∀ l : List α, (l.map fun x => f x + g x).sum = (l.map f).sum + (l.map g).sum
  | [] => rfl
  | x :: l => by
    rw [List.map_cons, List.sum_cons, List.map_cons, List.sum_cons, List.map_cons, List.sum_cons, sum_add f g l]
    omega
/-- what all bodies bring, told by their places -/
theorem sum_by (key : List Int → Sk) (f : Sk → Nat) (ks : List Sk) (hn : ks.Nodup) : ∀ l : List (List Int), (∀ b ∈ l, key b ∈ ks ∨ f (key b) = 0) → (l.map fun b => f (key b)).sum = (ks.map fun k => cntL key l k * f k).sum
  | [], _ => by
    show 0 = _
    clear hn
    induction ks with
    | nil => rfl
    | cons k ks ih =>
      rw [List.map_cons, List.sum_cons, ← ih (fun b hb => by cases hb)]
      show 0 = 0 * f k + 0
      omega
  | b :: l, h => by
    have e : (fun k => cntL key (b :: l) k * f k) = fun k => (if key b = k then 1 else 0) * f k + cntL key l k * f k := by
      funext k
      rw [cntL_cons, Nat.add_mul]
    rw [List.map_cons, List.sum_cons, e, sum_add, sum_one f (key b) ks hn (h b List.mem_cons_self), sum_by key f ks hn l fun c hc => h c (List.mem_cons_of_mem _ hc)]
/-- one sign more -/
theorem cnt_longer (key : List Int → Sk) (t : Int) (f : Sk → Nat) (k : Sk) : ∀ l : List (List Int), (∀ b ∈ l, cntL key ((countL t).map fun s => b ++ [s]) k = f (key b)) → cntL key (longerB t l) k = (l.map fun b => f (key b)).sum
  | [], _ => rfl
  | b :: l, h => by
    have e : longerB t (b :: l) = ((countL t).map fun s => b ++ [s]) ++ longerB t l := by
      unfold longerB
      rw [List.flatMap_cons]
    rw [e, cntL_app, h b List.mem_cons_self, cnt_longer key t f k l fun c hc => h c (List.mem_cons_of_mem _ hc), List.map_cons, List.sum_cons]
/-! ### what the steps bring -/
structure Stp where
  to : Int
  more : Int
  many : Nat
def brings (steps : Int → List Stp) (x k : Sk) : Nat := ((steps x.1).map fun s => if (s.to, x.2 + s.more) = k then s.many else 0).sum
/-- the steps tell where one sign more leads -/
def StepsOk (key : List Int → Sk) (t : Int) (steps : Int → List Stp) : Prop := ∀ b : List Int, (∀ x ∈ b, 0 ≤ x ∧ x < t) → ∀ k, cntL key ((countL t).map fun s => b ++ [s]) k = brings steps (key b) k
/-- what is held of the bodies of n signs: the places under size -/
structure Tells (key : List Int → Sk) (t size : Int) (n : Nat) (D : List (Sk × Nat)) : Prop where
  nodup : (D.map (·.1)).Nodup
  val : ∀ c ∈ D, c.2 = cntL key (aheadB t n) c.1
  all : ∀ b ∈ aheadB t n, (key b).2 < size → key b ∈ D.map (·.1)
theorem Tells.next {key : List Int → Sk} {t size : Int} {n : Nat} {D : List (Sk × Nat)} {steps : Int → List Stp} (T : Tells key t size n D) (ok : StepsOk key t steps) (grow : ∀ b ∈ aheadB t n, ∀ s ∈ steps (key b).1, 0 ≤ s.more) {k : Sk} (hk : k.2 < size) :
    cntL key (aheadB t (n + 1)) k = (D.map fun c => c.2 * brings steps c.1 k).sum := by
  have e1 : (D.map fun c => c.2 * brings steps c.1 k) = (D.map (·.1)).map fun x => cntL key (aheadB t n) x * brings steps x k := by
    rw [List.map_map]
    refine List.map_congr_left fun c hc => ?_
    show c.2 * _ = _
    rw [T.val c hc]
    rfl
  rw [e1, ← sum_by key (fun x => brings steps x k) _ T.nodup (aheadB t n)]
  · exact cnt_longer key t (fun x => brings steps x k) k (aheadB t n) fun b hb => ok b (aheadB_mem.mp hb).2 k
  · intro b hb
    by_cases c : (key b).2 < size
    · exact .inl (T.all b hb c)
    · right
      show ((steps (key b).1).map fun s => if (s.to, (key b).2 + s.more) = k then s.many else 0).sum = 0
      have all : ∀ s ∈ steps (key b).1, (if (s.to, (key b).2 + s.more) = k then s.many else 0) = 0 := fun s hs => by
        rw [if_neg]
        intro z
        have g := grow b hb s hs
        have : k.2 = (key b).2 + s.more := by rw [← z]
        omega
      generalize steps (key b).1 = l at all
      induction l with
      | nil => rfl
      | cons s l ih =>
        rw [List.map_cons, List.sum_cons, all s List.mem_cons_self, ih fun z hz => all z (List.mem_cons_of_mem _ hz)]
/-- found: the bodies of n signs whose frame has size signs -/
theorem found_at {key : List Int → Sk} {t size : Int} {n : Nat} {D : List (Sk × Nat)} (T : Tells key t size n D) {k : Sk} (hk : k.2 < size) : (D.find? fun c => decide (c.1 = k)).elim 0 (·.2) = cntL key (aheadB t n) k := by
  cases e : D.find? fun c => decide (c.1 = k) with
  | some c =>
    have m := List.mem_of_find?_eq_some e
    have p0 : decide (c.1 = k) = true := List.find?_some (p := fun (c : Sk × Nat) => decide (c.1 = k)) e
    have p := of_decide_eq_true p0
    show c.2 = _
    rw [T.val c m, p]
  | none =>
    show 0 = _
    have no := List.find?_eq_none.mp e
    unfold cntL
    symm
    rw [List.length_eq_zero_iff, List.filter_eq_nil_iff]
    intro b hb z
    have z := of_decide_eq_true z
    have m := T.all b hb (by rw [z]; exact hk)
    obtain ⟨c, hc, ec⟩ := List.mem_map.mp m
    exact no c hc (decide_eq_true (ec.trans z))
end Esc

namespace Esc
open PySem PySem.Spec PyProof.Rows L2
theorem i_rngZ {g : TG} {tb : TS} {nx : L2.St → Hp → Prop} {rt : VK} {bk ct : L2.St → Hp → Prop} {σ : L2.St} {H : Hp} {n : Int} (hn : -1000 ≤ n ∧ n ≤ 1000000) (Pv : Nat → L2.St → Hp → Prop) (h0 : Pv 0 σ H)
    (hs : ∀ (i : Nat) σ H, (i : Int) < n → Pv i σ H → g (.int (i : Int)) σ H (tb ⟨Pv (i + 1), rt, nx, Pv (i + 1)⟩)) (hd : ∀ σ H, Pv n.toNat σ H → nx σ H) : kRng g tb ⟨nx, rt, bk, ct⟩ σ [.int n] H :=
  ⟨n, rfl, by omega, by omega, for_range (D := ⟨nx, rt, bk, ct⟩) (lo := 0) (n := n.toNat) Pv h0 (fun i σ' H' hi p => by
    have e0 : (0 : Int) + (i : Int) = (i : Int) := Int.zero_add _
    rw [e0]
    exact hs i σ' H' (by omega) p) hd⟩
section
variable {P : Program} {w : World} {K : PySem.W.Frag} {mg : Str → Option Value} {base : Heap}
def spUpTo : Sp := fun vs H Q _ => ∃ (l : Int) (m : Nat), vs = [.int l, .int (m : Int)] ∧ -100 ≤ l ∧ l ≤ 1000 ∧ m ≤ 1000 ∧ Q (.int ((aheadD m (l + 1).toNat : Nat) : Int)) H
theorem c_rows_up_to (Z : Blt mg) (d : Dd K mg "rows_up_to" s_rows_up_to P_rows_up_to) : C8.Cal P w K mg base 1 "rows_up_to" spUpTo [] := by
  refine d.cal sc_rows_up_to (fun vs H Q E h => ?_) (fun f cdv A outer s H vs Q E hr h => ?_)
  · obtain ⟨l, m, rfl, _⟩ := h
    rfl
  · obtain ⟨l, m, rfl, l0, l1, m1, q⟩ := h
    have nd := sc_rows_up_to.nd
    refine ⟨_, (pss_cons (ps_set (i := 2) nd rfl (Or.inl rfl) pe_int)
  (pss_cons (ps_for PassesOwn.never rfl (pi_range1 rfl Z.range_ (pa_cons (pe_op op_add (pv 0) pe_int) pa_nil)) (pg_name (i := 3) nd rfl (Or.inl rfl))
    (pss_one (ps_set (i := 2) nd rfl (Or.inl rfl) (pe_op op_add (pe_op op_mul (pv 2) (pv 1)) pe_int))))
  (pss_one (ps_ret (pv 2))))), ?_⟩
    refine i_start (σ' := [some (.int l), some (.int (m : Int)), none, none]) rfl ?_
    walk_at "go"
    walk_at "r"
    refine i_rngZ ⟨by omega, by omega⟩ (fun i σ' H' => ∃ y : Option V, σ' = [some (.int l), some (.int (m : Int)), some (.int ((aheadD m i : Nat) : Int)), y] ∧ H' = H) ⟨none, rfl, rfl⟩ (fun i σ' H' hi pv => ?_) (fun σ' H' pv => ?_)
    · obtain ⟨y, rfl, rfl⟩ := pv
      walk_at "r"
      have e : ((aheadD m i : Nat) : Int) * (m : Int) + 1 = ((aheadD m (i + 1) : Nat) : Int) := by
        have z := ahead_mul m i
        rw [show aheadD m (i + 1) = aheadD m i + m ^ i from rfl, ← z]
        simp
      rw [e]
      exact ⟨_, rfl, rfl⟩
    · obtain ⟨y, rfl, rfl⟩ := pv
      walk_at "r"
      exact q
/-- how many frames of a room there are by ranks -/
def spRanksN (K : PySem.W.Frag) : Sp := fun vs H Q _ => ∃ (p : Addr) (t e : Int) (size : Nat), vs = [.ref p, .int (size : Int)] ∧ SqT K H p [.str "ranks", .int t, .int e] ∧ 3 ≤ t ∧ t ≤ 16 ∧ size ≤ 61 ∧ Q (.int ((if size = 0 then 0 else (t - 1).toNat ^ (size - 1) : Nat) : Int)) H
theorem ahead_le2 (a b : Nat) (h : a ≤ b) : ∀ k : Nat, aheadD a k ≤ aheadD b k
  | 0 => Nat.le_refl _
  | k + 1 => Nat.add_le_add (ahead_le2 a b h k) (Nat.pow_le_pow_left h k)
theorem c_ranks_of_size (Z : Blt mg) (m_MOST_BODY : GI mg "MOST_BODY" 60) (c_rows_up_to : C8.Cal P w K mg base 1 "rows_up_to" spUpTo []) (d : Dd K mg "ranks_of_size" s_ranks_of_size P_ranks_of_size) : C8.Cal P w K mg base 2 "ranks_of_size" (spRanksN K) [] := by
  refine d.cal sc_ranks_of_size (fun vs H Q E h => ?_) (fun f cdv A outer s H vs Q E hr h => ?_)
  · obtain ⟨p, t, e, size, rfl, _⟩ := h
    rfl
  · obtain ⟨p, t, e, size, rfl, hp, t3, t16, hs, q⟩ := h
    have nd := sc_ranks_of_size.nd
    refine ⟨_, (pss_cons (ps_set (i := 2) nd rfl (Or.inl rfl) (pe_ix ix_tup (pv 0) pe_int (fun _ _ => rfl)))
  (pss_cons (ps_set (i := 3) nd rfl (Or.inl rfl) (C8.pe_c c_rows_up_to hr (by decide) (by rfl) (pa_cons (pe_op op_sub (pv 1) pe_int) (pa_cons (pe_op op_sub (pv 2) pe_int) pa_nil))))
  (pss_cons (ps_set (i := 4) nd rfl (Or.inl rfl) (C8.pe_c c_rows_up_to hr (by decide) (by rfl) (pa_cons (pe_op op_sub (pv 1) pe_int) (pa_cons (pe_op op_sub (pv 2) pe_int) pa_nil))))
  (pss_one (ps_ret (pe_callB (k_max2 rfl) (by rfl) Z.max_ (by decide +kernel) (pa_cons pe_int (pa_cons (pe_op op_sub (pe_callB (k_min2 rfl) (by rfl) Z.min_ (by decide +kernel) (pa_cons (pv 4) (pa_cons (C8.pe_c c_rows_up_to hr (by decide) (by rfl) (pa_cons (C8.pe_gc rfl m_MOST_BODY) (pa_cons (pv 2) pa_nil))) pa_nil))) (pv 3)) pa_nil)))))))), ?_⟩
    refine i_start (σ' := [some (.ref p), some (.int (size : Int)), none, none, none]) rfl ?_
    walk_at "go"
    walk_at "r"
    have et : t - 1 = (((t - 1).toNat : Nat) : Int) := by omega
    rw [et]
    refine ⟨_, _, rfl, by omega, by omega, by omega, ?_⟩
    walk_at "r"
    rw [et]
    refine ⟨_, _, rfl, by omega, by omega, by omega, ?_⟩
    walk_at "r"
    refine ⟨60, t.toNat, by rw [show ((t.toNat : Nat) : Int) = t by omega], by omega, by omega, by omega, ?_⟩
    walk_at "r"
    have a1 : ((60 : Int) + 1).toNat = 61 := rfl
    have a2 : ((size : Int) - 1 + 1).toNat = size := by omega
    have a3 : ((size : Int) - 2 + 1).toNat = size - 1 := by omega
    have a4 : (((t - 1).toNat : Nat) : Int).toNat = (t - 1).toNat := rfl
    have le : aheadD (t - 1).toNat size ≤ aheadD t.toNat 61 := Nat.le_trans (ahead_le2 _ _ (by omega) size) (ahead_mono _ hs)
    have stp : size ≠ 0 → aheadD (t - 1).toNat size = aheadD (t - 1).toNat (size - 1) + (t - 1).toNat ^ (size - 1) := fun h => by
      obtain ⟨k, rfl⟩ : ∃ k, size = k + 1 := ⟨size - 1, by omega⟩
      rfl
    have pos : 0 < (t - 1).toNat ^ (size - 1) := Nat.pow_pos (by omega)
    simp only [a1, a2, a3, a4]
    have c1 : ¬ ((aheadD t.toNat 61 : Nat) : Int) < ((aheadD (t - 1).toNat size : Nat) : Int) := by omega
    simp only [if_neg c1]
    by_cases c : size = 0
    · subst c
      rw [if_pos rfl] at q
      exact q
    · rw [if_neg c] at q
      have st := stp c
      rw [if_pos (by omega), show ((aheadD (t - 1).toNat size : Nat) : Int) - ((aheadD (t - 1).toNat (size - 1) : Nat) : Int) = (((t - 1).toNat ^ (size - 1) : Nat) : Int) by omega]
      exact q
end
end Esc

namespace Esc
open PySem PySem.Spec PyProof.Rows L2
/-! ### places, and how long frames are -/
def InT (t : Int) (b : List Int) : Prop := ∀ x ∈ b, 0 ≤ x ∧ x < t
/-- the state closes with cl -/
def AutoOk (key : List Int → Sk) (t : Int) (cl : List Int) (len : List Int → Nat) : Prop := ∀ b, InT t b → ∃ st : Nat, st < cl.length ∧ (key b).1 = (st : Int) ∧ (len b : Int) = (key b).2 + cl.getD st 0
theorem one_state (x : Sk) (st : Nat) (e : x.1 = (st : Int)) (g : Nat → Int) : ∀ n : Nat, ((List.range n).map fun (j : Nat) => if x = ((j : Int), g j) then 1 else 0).sum = if st < n ∧ x.2 = g st then 1 else 0
  | 0 => by rw [if_neg (by omega)]; rfl
  | n + 1 => by
    rw [List.range_succ, List.map_append, List.sum_append, one_state x st e g n, List.map_cons, List.map_nil, List.sum_cons, List.sum_nil, Nat.add_zero]
    by_cases c : st = n
    · subst c
      rw [if_neg (by omega)]
      by_cases c2 : x.2 = g st
      · rw [if_pos (by rw [← e, ← c2]), if_pos ⟨by omega, c2⟩]
      · rw [if_neg (fun z => c2 (by rw [z])), if_neg (fun z => c2 z.2)]
    · have ne : x ≠ ((n : Int), g n) := fun z => by
        rw [z] at e
        have : (n : Int) = (st : Int) := e
        omega
      rw [if_neg ne, Nat.add_zero]
      by_cases c2 : st < n ∧ x.2 = g st
      · rw [if_pos c2, if_pos ⟨by omega, c2.2⟩]
      · rw [if_neg c2, if_neg (fun z => c2 ⟨by omega, z.2⟩)]
theorem sizes_cnt {key : List Int → Sk} {t : Int} {cl : List Int} {len : List Int → Nat} (A : AutoOk key t cl len) (size : Int) : ∀ l : List (List Int), (∀ b ∈ l, InT t b) → (l.filter fun b => decide ((len b : Int) = size)).length = ((List.range cl.length).map fun (j : Nat) => cntL key l ((j : Int), size - cl.getD j 0)).sum
  | [], _ => by
    show 0 = _
    have all : ∀ n : Nat, ((List.range n).map fun (j : Nat) => cntL key [] ((j : Int), size - cl.getD j 0)).sum = 0 := fun n => by
      induction n with
      | zero => rfl
      | succ n ih =>
        rw [List.range_succ, List.map_append, List.sum_append, ih]
        rfl
    rw [all]
  | b :: l, h => by
    have e : (fun (j : Nat) => cntL key (b :: l) ((j : Int), size - cl.getD j 0)) = fun (j : Nat) => (if key b = ((j : Int), size - cl.getD j 0) then 1 else 0) + cntL key l ((j : Int), size - cl.getD j 0) := by
      funext j
      rw [cntL_cons]
    rw [e, sum_add, ← sizes_cnt A size l fun c hc => h c (List.mem_cons_of_mem _ hc), List.filter_cons]
    obtain ⟨st, s1, s2, s3⟩ := A b (h b List.mem_cons_self)
    rw [one_state (key b) st s2 (fun j => size - cl.getD j 0) cl.length]
    by_cases c : (len b : Int) = size
    · rw [decide_eq_true c, if_pos rfl, List.length_cons, if_pos ⟨s1, by omega⟩]
      omega
    · rw [decide_eq_false c, if_neg (by simp), if_neg (fun z => c (by have := z.2; omega))]
      omega
/-- what is found: of the bodies of up to n signs, those whose frame has size signs -/
def foundT (key : List Int → Sk) (t : Int) (cl : List Int) (size : Int) (n : Nat) : Nat := ((List.range n).map fun i => ((List.range cl.length).map fun (j : Nat) => cntL key (aheadB t i) ((j : Int), size - cl.getD j 0)).sum).sum
theorem foundT_all {key : List Int → Sk} {t : Int} {cl : List Int} {len : List Int → Nat} (A : AutoOk key t cl len) (size : Int) : ∀ n : Nat, foundT key t cl size (n + 1) = ((bodiesB t n).filter fun b => decide ((len b : Int) = size)).length
  | 0 => by
    have z := sizes_cnt A size (aheadB t 0) (fun b hb => (aheadB_mem.mp hb).2)
    exact z.symm
  | n + 1 => by
    have z := sizes_cnt A size (aheadB t (n + 1)) (fun b hb => (aheadB_mem.mp hb).2)
    have ih := foundT_all A size n
    unfold foundT at ih ⊢
    rw [List.range_succ, List.map_append, List.sum_append, ih, List.map_cons, List.map_nil, List.sum_cons, List.sum_nil, Nat.add_zero, ← z]
    show _ = ((bodiesB t n ++ aheadB t (n + 1)).filter _).length
    rw [List.filter_append, List.length_append]
/-- exchanging changes no number -/
theorem turned_cnt {wy : Way} (ok : wy.Ok) (size : Nat) : ((bodiesB wy.t 60).filter fun b => decide ((((rowOf wy.t wy.e wy.k b).length + 1 : Nat) : Int) = (size : Int))).length = (ofSize wy size).length := by
  have lenE : ∀ b, (frameW wy b).length = (rowOf wy.t wy.e wy.k (turnL wy.ts b)).length + 1 := fun b => by
    unfold frameW
    rw [List.length_append]
    rfl
  refine Nat.le_antisymm ?_ ?_
  · have z := pigeon (((bodiesB wy.t 60).filter fun b => decide ((((rowOf wy.t wy.e wy.k b).length + 1 : Nat) : Int) = (size : Int))).map (backL wy.ts)) (ofSize wy size) (nodup_map ((bodiesB_nodup _ _).sublist List.filter_sublist) fun a ha b hb e => by
        have ia := (bodiesB_mem.mp (List.mem_filter.mp ha).1).2
        have ib := (bodiesB_mem.mp (List.mem_filter.mp hb).1).2
        rw [← turnL_backL wy.ts ok.perm a ia, e, turnL_backL wy.ts ok.perm b ib]) fun p hp => by
      obtain ⟨b, hb, rfl⟩ := List.mem_map.mp hp
      obtain ⟨m, d⟩ := List.mem_filter.mp hb
      obtain ⟨l60, ib⟩ := bodiesB_mem.mp m
      have bk := backL_ok wy.ts ok.perm b ib
      have d := of_decide_eq_true d
      refine ofSize_mem.mpr ⟨⟨by rw [bk.2]; exact l60, bk.1⟩, ?_⟩
      rw [lenE, turnL_backL wy.ts ok.perm b ib]
      omega
    rw [List.length_map] at z
    exact z
  · have z := pigeon ((ofSize wy size).map (turnL wy.ts)) ((bodiesB wy.t 60).filter fun b => decide ((((rowOf wy.t wy.e wy.k b).length + 1 : Nat) : Int) = (size : Int))) (nodup_map ((bodiesB_nodup _ _).sublist List.filter_sublist) fun a ha b hb e => by
        have ia := (ofSize_mem.mp ha).1.2
        have ib := (ofSize_mem.mp hb).1.2
        rw [← backL_turnL wy.ts ok.perm a ia, e, backL_turnL wy.ts ok.perm b ib]) fun p hp => by
      obtain ⟨b, hb, rfl⟩ := List.mem_map.mp hp
      obtain ⟨⟨l60, ib⟩, le⟩ := ofSize_mem.mp hb
      have tk := turnL_ok wy.ts ok.perm b ib
      refine List.mem_filter.mpr ⟨bodiesB_mem.mpr ⟨by rw [tk.2]; exact l60, tk.1⟩, decide_eq_true ?_⟩
      rw [lenE] at le
      omega
    rw [List.length_map] at z
    exact z
theorem cntL_map {α : Type} (key : List Int → Sk) (f : α → List Int) (k : Sk) : ∀ l : List α, cntL key (l.map f) k = (l.map fun a => if key (f a) = k then 1 else 0).sum
  | [] => rfl
  | a :: l => by
    rw [List.map_cons, cntL_cons, cntL_map key f k l, List.map_cons, List.sum_cons]
end Esc

namespace Esc
open PySem PySem.Spec PyProof.Rows L2
/-! ### the two counters' places -/
def keyP (row : List Int → List Int) (b : List Int) : Sk := (0, ((row b).length : Int))
def stepP (t : Int) (row : List Int → List Int) : Int → List Stp := fun _ => (countL t).map fun s => ⟨0, ((row [s]).length : Int), 1⟩
theorem stepP_ok {t : Int} {row : List Int → List Int} (h : ∀ b s, row (b ++ [s]) = row b ++ row [s]) : StepsOk (keyP row) t (stepP t row) := fun b _ k => by
  rw [cntL_map]
  unfold brings stepP
  rw [List.map_map]
  congr 1
  refine List.map_congr_left fun s _ => ?_
  show (if ((0 : Int), ((row (b ++ [s])).length : Int)) = k then 1 else 0) = if ((0 : Int), ((row b).length : Int) + ((row [s]).length : Int)) = k then 1 else 0
  rw [h, List.length_append]
  norm_cast
theorem autoP_ok {t : Int} {row : List Int → List Int} : AutoOk (keyP row) t [1] fun b => (row b).length + 1 := fun b _ => ⟨0, by decide, rfl, by show (((row b).length + 1 : Nat) : Int) = ((row b).length : Int) + 1; omega⟩
def lastR (e : Int) (b : List Int) : List Int := (rowsB e b).getLastD []
def stC (w n : Nat) : Nat := if n = 0 then 0 else (n - 1) % w + 1
def closedC (t e l : Int) (b : List Int) : Nat := (((rowsB e b).dropLast).flatMap (groupB ((plainL t e).take l.toNat) (l.toNat - 1))).length
def keyC (t e l : Int) (b : List Int) : Sk := ((stC (l.toNat - 1) (lastR e b).length : Nat), ((closedC t e l b + (lastR e b).length + (lastR e b).length / (l.toNat - 1) : Nat) : Int))
theorem div_more (n w : Nat) (h : 0 < w) : (n + 1) / w = n / w + if n % w + 1 = w then 1 else 0 := by
  have z := Nat.div_add_mod n w
  have m := Nat.mod_lt n h
  by_cases c : n % w + 1 = w
  · rw [if_pos c]
    have e : n + 1 = w * (n / w + 1) := by
      rw [Nat.mul_add]
      omega
    rw [e, Nat.mul_div_cancel_left _ h]
  · rw [if_neg c]
    have e : n + 1 = (n % w + 1) + w * (n / w) := by omega
    rw [e, Nat.add_mul_div_left _ _ h, Nat.div_eq_of_lt (by omega)]
    omega
theorem st_mod (n w : Nat) (h : 0 < w) : stC w n % w = n % w := by
  unfold stC
  by_cases c : n = 0
  · rw [if_pos c, c]
  · rw [if_neg c]
    obtain ⟨k, rfl⟩ : ∃ k, n = k + 1 := ⟨n - 1, by omega⟩
    rw [Nat.add_sub_cancel, Nat.mod_add_mod]
theorem st_next (n w : Nat) (h : 0 < w) : stC w (n + 1) = stC w n % w + 1 := by
  rw [st_mod n w h]
  unfold stC
  rw [if_neg (by omega), Nat.add_sub_cancel]
theorem st_le (n w : Nat) (h : 0 < w) : stC w n ≤ w := by
  unfold stC
  split
  · omega
  · have := Nat.mod_lt (n - 1) h
    omega
theorem keyC_nil (t e l : Int) : keyC t e l [] = (0, 0) := by
  unfold keyC closedC lastR
  show (((0 : Nat) : Int), ((0 + 0 + 0 / (l.toNat - 1) : Nat) : Int)) = (0, 0)
  rw [Nat.zero_div]
  rfl
theorem keyC_end {t e l : Int} (hl : 2 ≤ l) (b : List Int) : keyC t e l (b ++ [e]) = (0, (keyC t e l b).2 + 1) := by
  have w0 : 0 < l.toNat - 1 := by omega
  obtain ⟨rs, ls, h, _⟩ := rowsB_all e b
  have h' : rowsB e (b ++ [e]) = (rs ++ [ls]) ++ [[]] := by rw [rowsB_snoc, h, stepR_end]
  unfold keyC closedC lastR
  rw [h', h, List.getLastD_concat, List.getLastD_concat, List.dropLast_concat, List.dropLast_concat, List.flatMap_append, List.length_append, List.flatMap_cons, List.flatMap_nil, List.append_nil, groupB_size w0 _ ls rfl]
  refine Prod.ext rfl ?_
  show ((_ : Nat) : Int) = ((_ : Nat) : Int) + 1
  rw [List.length_nil, Nat.zero_div]
  omega
theorem keyC_in {t e l x : Int} (hl : 2 ≤ l) (hx : x ≠ e) (b : List Int) : keyC t e l (b ++ [x]) = (((stC (l.toNat - 1) (lastR e b).length % (l.toNat - 1) + 1 : Nat) : Int), (keyC t e l b).2 + if stC (l.toNat - 1) (lastR e b).length % (l.toNat - 1) + 1 = l.toNat - 1 then 2 else 1) := by
  have w0 : 0 < l.toNat - 1 := by omega
  obtain ⟨rs, ls, h, _⟩ := rowsB_all e b
  have h' : rowsB e (b ++ [x]) = rs ++ [ls ++ [x]] := by rw [rowsB_snoc, h, stepR_in hx]
  unfold keyC closedC lastR
  rw [h', h, List.getLastD_concat, List.getLastD_concat, List.dropLast_concat, List.dropLast_concat, List.length_append, List.length_singleton, st_next _ _ w0, div_more _ _ w0, st_mod _ _ w0]
  refine Prod.ext rfl ?_
  show ((_ : Nat) : Int) = ((_ : Nat) : Int) + _
  split <;> omega
theorem sum_split (e : Int) (A B : Nat) : ∀ l : List Int, l.Nodup → (l.map fun s => if s = e then A else B).sum = if e ∈ l then A + (l.length - 1) * B else l.length * B
  | [], _ => by rw [if_neg (by simp)]; show 0 = 0 * B; omega
  | s :: l, hn => by
    obtain ⟨ns, nl⟩ := List.nodup_cons.mp hn
    rw [List.map_cons, List.sum_cons, sum_split e A B l nl]
    by_cases c : s = e
    · subst c
      rw [if_pos rfl, if_neg ns, if_pos List.mem_cons_self, List.length_cons, Nat.add_sub_cancel]
    · rw [if_neg c]
      by_cases m : e ∈ l
      · have pos := List.length_pos_of_mem m
        rw [if_pos m, if_pos (List.mem_cons_of_mem _ m), List.length_cons, Nat.add_sub_cancel]
        obtain ⟨k, hk⟩ : ∃ k, l.length = k + 1 := ⟨l.length - 1, by omega⟩
        rw [hk, Nat.add_sub_cancel, Nat.add_mul]
        omega
      · rw [if_neg m, if_neg (fun z => (List.mem_cons.mp z).elim (fun q => c q.symm) m), List.length_cons, Nat.add_mul]
        omega
def stepC (t l : Int) : Int → List Stp := fun st => [⟨0, 1, 1⟩, ⟨st % (l - 1) + 1, if st % (l - 1) + 1 = l - 1 then 2 else 1, (t - 1).toNat⟩]
theorem times_if (p : Prop) [Decidable p] (n : Nat) : n * (if p then 1 else 0) = (if p then n else 0) + 0 := by
  split
  · omega
  · omega
theorem stepC_ok {t e l : Int} (hl : 2 ≤ l) (h0 : 0 ≤ e) (h1 : e < t) : StepsOk (keyC t e l) t (stepC t l) := fun b _ k => by
  have w0 : 0 < l.toNat - 1 := by omega
  have wl : l - 1 = ((l.toNat - 1 : Nat) : Int) := by omega
  have em : (((stC (l.toNat - 1) (lastR e b).length : Nat) : Int) % (l - 1) + 1) = ((stC (l.toNat - 1) (lastR e b).length % (l.toNat - 1) + 1 : Nat) : Int) := by
    rw [wl, ← Int.natCast_emod]
    omega
  rw [cntL_map]
  have pt : ((countL t).map fun s => if keyC t e l (b ++ [s]) = k then 1 else 0) = (countL t).map fun s => if s = e then (if ((0 : Int), (keyC t e l b).2 + 1) = k then 1 else 0) else (if (((stC (l.toNat - 1) (lastR e b).length % (l.toNat - 1) + 1 : Nat) : Int), (keyC t e l b).2 + if stC (l.toNat - 1) (lastR e b).length % (l.toNat - 1) + 1 = l.toNat - 1 then 2 else 1) = k then 1 else 0) := by
    refine List.map_congr_left fun s _ => ?_
    by_cases c : s = e
    · rw [if_pos c, c, keyC_end hl]
    · rw [if_neg c, keyC_in hl c]
  rw [pt, sum_split e _ _ _ (count_nodup t), if_pos (count_mem.mpr ⟨h0, h1⟩), count_len]
  unfold brings stepC
  rw [List.map_cons, List.map_cons, List.map_nil, List.sum_cons, List.sum_cons, List.sum_nil, Nat.add_zero]
  have ek : (keyC t e l b).1 = ((stC (l.toNat - 1) (lastR e b).length : Nat) : Int) := rfl
  dsimp only
  rw [ek, em]
  have ec : (if (((stC (l.toNat - 1) (lastR e b).length % (l.toNat - 1) + 1 : Nat) : Int)) = l - 1 then (2 : Int) else 1) = if stC (l.toNat - 1) (lastR e b).length % (l.toNat - 1) + 1 = l.toNat - 1 then 2 else 1 := by
    by_cases c : stC (l.toNat - 1) (lastR e b).length % (l.toNat - 1) + 1 = l.toNat - 1
    · rw [if_pos c, if_pos (by omega)]
    · rw [if_neg c, if_neg (by omega)]
  rw [ec, show (t - 1).toNat = t.toNat - 1 by omega]
  congr 1
  exact times_if _ _
def closeC (l : Int) : List Int := List.replicate (l.toNat - 1) 2 ++ [1]
theorem autoC_ok {t e l : Int} (hl : 2 ≤ l) : AutoOk (keyC t e l) t (closeC l) fun b => (cntB t e l b).length + 1 := fun b _ => by
  have w0 : 0 < l.toNat - 1 := by omega
  obtain ⟨rs, ls, h, _⟩ := rowsB_all e b
  have lc : (closeC l).length = l.toNat - 1 + 1 := by
    unfold closeC
    rw [List.length_append, List.length_replicate]
    rfl
  have sl := st_le (lastR e b).length (l.toNat - 1) w0
  refine ⟨stC (l.toNat - 1) (lastR e b).length, by omega, rfl, ?_⟩
  have el : lastR e b = ls := by unfold lastR; rw [h, List.getLastD_concat]
  have gsz := groupB_size (cn := (plainL t e).take l.toNat) w0 _ ls rfl
  have gcl : closedC t e l b = (rs.flatMap (groupB ((plainL t e).take l.toNat) (l.toNat - 1))).length := by
    unfold closedC
    rw [h, List.dropLast_concat]
  have flat : ((rowsB e b).flatMap (groupB ((plainL t e).take l.toNat) (l.toNat - 1))).length = closedC t e l b + (ls.length + ls.length / (l.toNat - 1) + 1) := by
    rw [gcl, h, List.flatMap_append, List.length_append, List.flatMap_cons, List.flatMap_nil, List.append_nil, gsz]
  have hcl : (closeC l).getD (stC (l.toNat - 1) ls.length) 0 = if ls ≠ [] ∧ ls.length % (l.toNat - 1) = 0 then 1 else 2 := by
    unfold closeC stC
    by_cases c0 : ls.length = 0
    · have e0 := List.length_eq_zero_iff.mp c0
      rw [if_pos c0, if_neg (fun z => z.1 e0), List.getD_eq_getElem?_getD, List.getElem?_append_left (by rw [List.length_replicate]; omega), List.getElem?_replicate, if_pos w0]
      rfl
    · have ne : ls ≠ [] := fun z => c0 (by rw [z]; rfl)
      obtain ⟨k, hk⟩ : ∃ k, ls.length = k + 1 := ⟨ls.length - 1, by omega⟩
      rw [if_neg c0, hk, Nat.add_sub_cancel]
      have m := Nat.mod_lt k w0
      have dm := div_more k (l.toNat - 1) w0
      have z1 := Nat.div_add_mod k (l.toNat - 1)
      have z2 := Nat.div_add_mod (k + 1) (l.toNat - 1)
      have m2 := Nat.mod_lt (k + 1) w0
      by_cases c : k % (l.toNat - 1) + 1 = l.toNat - 1
      · have mz : (k + 1) % (l.toNat - 1) = 0 := by
          rw [dm, if_pos c, Nat.mul_add] at z2
          omega
        rw [if_pos ⟨ne, mz⟩, c, List.getD_eq_getElem?_getD, List.getElem?_append_right (by rw [List.length_replicate]; exact Nat.le_refl _), List.length_replicate, Nat.sub_self]
        rfl
      · have mz : ¬ (k + 1) % (l.toNat - 1) = 0 := by
          rw [dm, if_neg c, Nat.add_zero] at z2
          omega
        rw [if_neg (fun z => mz z.2), List.getD_eq_getElem?_getD, List.getElem?_append_left (by rw [List.length_replicate]; omega), List.getElem?_replicate, if_pos (by omega)]
        rfl
  show (((cntB t e l b).length + 1 : Nat) : Int) = ((closedC t e l b + (lastR e b).length + (lastR e b).length / (l.toNat - 1) : Nat) : Int) + _
  rw [el, hcl]
  unfold cntB
  dsimp only
  rw [show (rowsB e b).getLastD [] = ls from el]
  generalize ls.length / (l.toNat - 1) = dv at *
  split
  · rw [List.length_dropLast, flat]
    omega
  · rw [flat]
    omega
end Esc

namespace Esc
open PySem PySem.Spec PyProof.Rows L2
/-! ### each counter tells how many bodies have frames of the room -/
theorem found_pieces {wy : Way} (ok : wy.Ok) (size : Nat) : foundT (keyP (rowOf wy.t wy.e wy.k)) wy.t [1] (size : Int) 61 = (ofSize wy size).length := by
  rw [foundT_all (autoP_ok (row := rowOf wy.t wy.e wy.k)) (size : Int) 60]
  exact turned_cnt ok size
theorem found_counts {wy : Way} (ok : wy.Ok) {l : Int} (hk : wy.k = .counts l) (size : Nat) : foundT (keyC wy.t wy.e l) wy.t (closeC l) (size : Int) 61 = (ofSize wy size).length := by
  have kind := ok.kind
  rw [hk] at kind
  rw [foundT_all (autoC_ok kind.1) (size : Int) 60, ← turned_cnt ok size, hk]
  rfl
theorem found_ranks {wy : Way} (ok : wy.Ok) (hk : wy.k = .ranks) {size : Nat} (hs : size ≤ 61) : (if size = 0 then 0 else (wy.t - 1).toNat ^ (size - 1)) = (ofSize wy size).length := by
  by_cases c : size = 0
  · rw [if_pos c, c, ofSize_zero]
    rfl
  · obtain ⟨k, rfl⟩ : ∃ k, size = k + 1 := ⟨size - 1, by omega⟩
    rw [if_neg c, Nat.add_sub_cancel]
    exact Nat.le_antisymm (ofSize_ranks ok hk (by omega)) (ofSize_le ok k)
theorem pieces_snoc (t e : Int) (k : Kind) (h : (∃ cs, k = .codes cs) ∨ ∃ m prs, k = .escapes m prs) (b : List Int) (s : Int) : rowOf t e k (b ++ [s]) = rowOf t e k b ++ rowOf t e k [s] := by
  rcases h with ⟨cs, rfl⟩ | ⟨m, prs, rfl⟩
  · exact List.flatMap_append
  · exact List.flatMap_append
/-! ### a dict of places, as the counting goes -/
/-- what stands at the place k -/
def lkS (L : List (Sk × Nat)) (k : Sk) : Nat := (L.find? fun c => decide (c.1 = k)).elim 0 (·.2)
def putS : List (Sk × Nat) → Sk → Nat → List (Sk × Nat)
  | [], k, v => [(k, v)]
  | c :: L, k, v => if c.1 = k then (k, v) :: L else c :: putS L k v
theorem lkS_put : ∀ (L : List (Sk × Nat)) (k : Sk) (v : Nat) (k' : Sk), lkS (putS L k v) k' = if k' = k then v else lkS L k'
  | [], k, v, k' => by
    unfold lkS putS
    by_cases c : k' = k
    · rw [if_pos c, List.find?_cons_of_pos (by simp [c])]
      rfl
    · rw [if_neg c, List.find?_cons_of_neg (by simpa using fun z => c z.symm)]
  | c :: L, k, v, k' => by
    have ih := lkS_put L k v k'
    unfold putS
    by_cases e : c.1 = k
    · rw [if_pos e]
      unfold lkS
      by_cases c1 : k' = k
      · rw [if_pos c1, List.find?_cons_of_pos (by simp [c1])]
        rfl
      · rw [if_neg c1, List.find?_cons_of_neg (by simpa using fun z => c1 z.symm), List.find?_cons_of_neg (by simpa using fun z => c1 (z.symm.trans e))]
    · rw [if_neg e]
      unfold lkS at ih ⊢
      by_cases c1 : c.1 = k'
      · rw [List.find?_cons_of_pos (by simp [c1]), if_neg (fun z => e (c1.trans z)), List.find?_cons_of_pos (by simp [c1])]
      · rw [List.find?_cons_of_neg (by simpa using c1), List.find?_cons_of_neg (by simpa using c1), ih]
theorem putS_keys : ∀ (L : List (Sk × Nat)) (k : Sk) (v : Nat) (x : Sk), x ∈ (putS L k v).map (·.1) ↔ x = k ∨ x ∈ L.map (·.1)
  | [], k, v, x => by simp [putS]
  | c :: L, k, v, x => by
    unfold putS
    by_cases e : c.1 = k
    · rw [if_pos e, List.map_cons, List.map_cons, List.mem_cons, List.mem_cons, e]
      constructor
      · rintro (h | h)
        · exact .inl h
        · exact .inr (.inr h)
      · rintro (h | h | h)
        · exact .inl h
        · exact .inl h
        · exact .inr h
    · rw [if_neg e, List.map_cons, List.map_cons, List.mem_cons, List.mem_cons, putS_keys L k v x]
      constructor
      · rintro (h | h | h)
        · exact .inr (.inl h)
        · exact .inl h
        · exact .inr (.inr h)
      · rintro (h | h | h)
        · exact .inr (.inl h)
        · exact .inl h
        · exact .inr (.inr h)
theorem putS_nodup : ∀ (L : List (Sk × Nat)) (k : Sk) (v : Nat), (L.map (·.1)).Nodup → ((putS L k v).map (·.1)).Nodup
  | [], _, _, _ => by simp [putS]
  | c :: L, k, v, h => by
    obtain ⟨nc, nl⟩ := List.nodup_cons.mp h
    unfold putS
    by_cases e : c.1 = k
    · rw [if_pos e, List.map_cons]
      exact List.nodup_cons.mpr ⟨by rw [← e]; exact nc, nl⟩
    · rw [if_neg e, List.map_cons]
      refine List.nodup_cons.mpr ⟨fun m => ?_, putS_nodup L k v nl⟩
      rcases (putS_keys L k v c.1).mp m with z | z
      · exact e z
      · exact nc z
theorem lkS_mem {L : List (Sk × Nat)} (hn : (L.map (·.1)).Nodup) {c : Sk × Nat} (hc : c ∈ L) : lkS L c.1 = c.2 := by
  induction L with
  | nil => cases hc
  | cons a L ih =>
    obtain ⟨na, nl⟩ := List.nodup_cons.mp hn
    unfold lkS at ih ⊢
    rcases List.mem_cons.mp hc with rfl | m
    · rw [List.find?_cons_of_pos (by simp)]
      rfl
    · have ne : ¬ a.1 = c.1 := fun z => na (by show a.1 ∈ L.map (·.1); rw [z]; exact List.mem_map.mpr ⟨c, m, rfl⟩)
      rw [List.find?_cons_of_neg (by simpa using ne)]
      exact ih nl m
end Esc

namespace Esc
open PySem PySem.Spec PyProof.Rows L2
/-! ### places in a dict -/
def eK (k : Sk) : List Key := ks [k.1, k.2]
theorem eK_inj {a b : Sk} (h : eK a = eK b) : a = b := by
  have z := ks_inj h
  have z1 := (List.cons.inj z).1
  have z2 := (List.cons.inj (List.cons.inj z).2).1
  exact Prod.ext z1 z2
def eD (L : List (Sk × Nat)) : List (List Key × V) := L.map fun c => (eK c.1, V.int (c.2 : Int))
theorem eD_len (L : List (Sk × Nat)) : (eD L).length = L.length := List.length_map _
theorem eD_val : ∀ (L : List (Sk × Nat)) (k : Sk), (valV (eD L) (eK k)).getD (.int 0) = .int ((lkS L k : Nat) : Int)
  | [], _ => rfl
  | c :: L, k => by
    have ih := eD_val L k
    unfold valV eD lkS at ih ⊢
    rw [List.map_cons]
    by_cases e : c.1 = k
    · rw [List.find?_cons_of_pos (by simp [e]), List.find?_cons_of_pos (by simp [e])]
      rfl
    · rw [List.find?_cons_of_neg (by simpa using fun z => e (eK_inj z)), List.find?_cons_of_neg (by simpa using e)]
      exact ih
theorem putK_ne {a : List Key × V} {l : List (List Key × V)} {k : List Key} {v : V} (h : a.1 ≠ k) : putK (a :: l) k v = a :: putK l k v := by
  unfold putK
  rw [List.any_cons, decide_eq_false h, Bool.false_or]
  split
  · rw [List.map_cons, if_neg h]
  · rfl
theorem map_same {l : List (List Key × V)} {k : List Key} {v : V} (h : ∀ a ∈ l, a.1 ≠ k) : l.map (fun kv => if kv.1 = k then (kv.1, v) else kv) = l := by
  conv => rhs; rw [← List.map_id l]
  refine List.map_congr_left fun a ha => ?_
  rw [if_neg (h a ha)]
  rfl
theorem eD_put : ∀ (L : List (Sk × Nat)) (k : Sk) (v : Nat), (L.map (·.1)).Nodup → putK (eD L) (eK k) (.int (v : Int)) = eD (putS L k v)
  | [], k, v, _ => rfl
  | c :: L, k, v, hn => by
    obtain ⟨nc, nl⟩ := List.nodup_cons.mp hn
    have ed : eD (c :: L) = (eK c.1, V.int (c.2 : Int)) :: eD L := rfl
    unfold putS
    by_cases e : c.1 = k
    · rw [if_pos e, ed]
      unfold putK
      rw [List.any_cons, decide_eq_true (show (eK c.1, V.int (c.2 : Int)).1 = eK k by rw [e]), Bool.true_or, if_pos rfl, List.map_cons, if_pos (show (eK c.1, V.int (c.2 : Int)).1 = eK k by rw [e])]
      rw [map_same fun a ha => ?_]
      · rw [e]
        rfl
      · obtain ⟨b, hb, rfl⟩ := List.mem_map.mp ha
        intro z
        have z2 := eK_inj z
        exact nc (by show c.1 ∈ L.map (·.1); rw [e, ← z2]; exact List.mem_map.mpr ⟨b, hb, rfl⟩)
    · rw [if_neg e, ed, putK_ne (fun z => e (eK_inj z)), eD_put L k v nl]
      rfl
/-- places under a bound are few -/
theorem few_places {L : List (Sk × Nat)} {n m : Nat} (hn : (L.map (·.1)).Nodup) (h : ∀ c ∈ L, (0 ≤ c.1.1 ∧ c.1.1 < (n : Int)) ∧ 0 ≤ c.1.2 ∧ c.1.2 < (m : Int)) : L.length ≤ n * m := by
  have z := pigeon (L.map (·.1)) ((List.range n).flatMap fun (i : Nat) => (List.range m).map fun (j : Nat) => (((i : Int), (j : Int)) : Sk)) hn fun x hx => by
    obtain ⟨c, hc, rfl⟩ := List.mem_map.mp hx
    obtain ⟨⟨a1, a2⟩, a3, a4⟩ := h c hc
    refine List.mem_flatMap.mpr ⟨c.1.1.toNat, List.mem_range.mpr (by omega), List.mem_map.mpr ⟨c.1.2.toNat, List.mem_range.mpr (by omega), Prod.ext ?_ ?_⟩⟩
    · show ((c.1.1.toNat : Nat) : Int) = c.1.1
      omega
    · show ((c.1.2.toNat : Nat) : Int) = c.1.2
      omega
  rw [List.length_map] at z
  have len : ((List.range n).flatMap fun (i : Nat) => (List.range m).map fun (j : Nat) => (((i : Int), (j : Int)) : Sk)).length = n * m := by
    rw [List.length_flatMap, show (List.range n).map (fun (i : Nat) => ((List.range m).map fun (j : Nat) => (((i : Int), (j : Int)) : Sk)).length) = (List.range n).map fun _ => m from List.map_congr_left fun i _ => by rw [List.length_map, List.length_range]]
    clear z hn h
    induction n with
    | zero => rw [Nat.zero_mul]; rfl
    | succ n ih => rw [List.range_succ, List.map_append, List.sum_append, ih, Nat.add_mul]; simp
  omega
/-! ### what one more sign puts there -/
/-- one step of one place -/
def addS (size : Int) (x : Sk) (c : Nat) (L : List (Sk × Nat)) (s : Stp) : List (Sk × Nat) := if x.2 + s.more < size then putS L (s.to, x.2 + s.more) (lkS L (s.to, x.2 + s.more) + c * s.many) else L
def addP (steps : Int → List Stp) (size : Int) (L : List (Sk × Nat)) (c : Sk × Nat) : List (Sk × Nat) := (steps c.1.1).foldl (addS size c.1 c.2) L
def nextS (steps : Int → List Stp) (size : Int) (D : List (Sk × Nat)) : List (Sk × Nat) := D.foldl (addP steps size) []
theorem addS_nodup {size : Int} {x : Sk} {c : Nat} {L : List (Sk × Nat)} {s : Stp} (h : (L.map (·.1)).Nodup) : ((addS size x c L s).map (·.1)).Nodup := by
  unfold addS
  split
  · exact putS_nodup _ _ _ h
  · exact h
theorem addS_lk {size : Int} {x : Sk} {c : Nat} {L : List (Sk × Nat)} {s : Stp} {k : Sk} (hk : k.2 < size) : lkS (addS size x c L s) k = lkS L k + c * (if (s.to, x.2 + s.more) = k then s.many else 0) := by
  unfold addS
  by_cases e : (s.to, x.2 + s.more) = k
  · rw [if_pos e]
    have : x.2 + s.more = k.2 := by rw [← e]
    rw [if_pos (by omega), lkS_put, if_pos e.symm, e]
  · rw [if_neg e, Nat.mul_zero, Nat.add_zero]
    split
    · rw [lkS_put, if_neg (fun z => e z.symm)]
    · rfl
theorem addS_keys {size : Int} {x : Sk} {c : Nat} {L : List (Sk × Nat)} {s : Stp} {k : Sk} : k ∈ (addS size x c L s).map (·.1) ↔ ((s.to, x.2 + s.more) = k ∧ k.2 < size) ∨ k ∈ L.map (·.1) := by
  unfold addS
  by_cases g : x.2 + s.more < size
  · rw [if_pos g, putS_keys]
    constructor
    · rintro (h | h)
      · exact .inl ⟨h.symm, by rw [h]; exact g⟩
      · exact .inr h
    · rintro (h | h)
      · exact .inl h.1.symm
      · exact .inr h
  · rw [if_neg g]
    constructor
    · exact .inr
    · rintro (h | h)
      · exact absurd (by have := h.2; rw [← h.1] at this; exact this) g
      · exact h
theorem foldS {size : Int} {x : Sk} {c : Nat} : ∀ (l : List Stp) (L : List (Sk × Nat)), (L.map (·.1)).Nodup → ((l.foldl (addS size x c) L).map (·.1)).Nodup ∧
    (∀ k : Sk, k.2 < size → lkS (l.foldl (addS size x c) L) k = lkS L k + c * (l.map fun s => if (s.to, x.2 + s.more) = k then s.many else 0).sum) ∧
    (∀ k : Sk, k ∈ (l.foldl (addS size x c) L).map (·.1) ↔ (∃ s ∈ l, (s.to, x.2 + s.more) = k ∧ k.2 < size) ∨ k ∈ L.map (·.1))
  | [], L, h => ⟨h, fun k _ => by show lkS L k = lkS L k + c * 0; omega, fun k => ⟨.inr, fun z => z.elim (fun ⟨s, hs, _⟩ => by cases hs) id⟩⟩
  | s :: l, L, h => by
    obtain ⟨a1, a2, a3⟩ := foldS (x := x) (c := c) (size := size) l (addS size x c L s) (addS_nodup h)
    rw [List.foldl_cons]
    refine ⟨a1, fun k hk => ?_, fun k => ?_⟩
    · rw [a2 k hk, addS_lk hk, List.map_cons, List.sum_cons, Nat.mul_add]
      omega
    · rw [a3 k, addS_keys]
      constructor
      · rintro (⟨z, hz, e⟩ | e | e)
        · exact .inl ⟨z, List.mem_cons_of_mem _ hz, e⟩
        · exact .inl ⟨s, List.mem_cons_self, e⟩
        · exact .inr e
      · rintro (⟨z, hz, e⟩ | e)
        · rcases List.mem_cons.mp hz with rfl | m
          · exact .inr (.inl e)
          · exact .inl ⟨z, m, e⟩
        · exact .inr (.inr e)
theorem foldP {steps : Int → List Stp} {size : Int} : ∀ (D L : List (Sk × Nat)), (L.map (·.1)).Nodup → ((D.foldl (addP steps size) L).map (·.1)).Nodup ∧
    (∀ k : Sk, k.2 < size → lkS (D.foldl (addP steps size) L) k = lkS L k + (D.map fun c => c.2 * brings steps c.1 k).sum) ∧
    (∀ k : Sk, k ∈ (D.foldl (addP steps size) L).map (·.1) ↔ (∃ c ∈ D, ∃ s ∈ steps c.1.1, (s.to, c.1.2 + s.more) = k ∧ k.2 < size) ∨ k ∈ L.map (·.1))
  | [], L, h => ⟨h, fun k _ => rfl, fun k => ⟨.inr, fun z => z.elim (fun ⟨s, hs, _⟩ => by cases hs) id⟩⟩
  | c :: D, L, h => by
    obtain ⟨b1, b2, b3⟩ := foldS (size := size) (x := c.1) (c := c.2) (steps c.1.1) L h
    obtain ⟨a1, a2, a3⟩ := foldP (steps := steps) (size := size) D (addP steps size L c) b1
    rw [List.foldl_cons]
    refine ⟨a1, fun k hk => ?_, fun k => ?_⟩
    · rw [a2 k hk, show lkS (addP steps size L c) k = _ from b2 k hk, List.map_cons, List.sum_cons]
      show lkS L k + c.2 * brings steps c.1 k + _ = _
      omega
    · rw [a3 k, show k ∈ (addP steps size L c).map (·.1) ↔ _ from b3 k]
      constructor
      · rintro (⟨z, hz, e⟩ | ⟨s, hs, e⟩ | e)
        · exact .inl ⟨z, List.mem_cons_of_mem _ hz, e⟩
        · exact .inl ⟨c, List.mem_cons_self, s, hs, e⟩
        · exact .inr e
      · rintro (⟨z, hz, e⟩ | e)
        · rcases List.mem_cons.mp hz with rfl | m
          · exact .inr (.inl e)
          · exact .inl ⟨z, m, e⟩
        · exact .inr (.inr e)
theorem sum_zero {α : Type} (f : α → Nat) : ∀ l : List α, (∀ a ∈ l, f a = 0) → (l.map f).sum = 0
  | [], _ => rfl
  | a :: l, h => by rw [List.map_cons, List.sum_cons, h a List.mem_cons_self, sum_zero f l fun z hz => h z (List.mem_cons_of_mem _ hz)]
/-- the dict of the next round tells of the bodies with one sign more -/
theorem Tells.goes {key : List Int → Sk} {t size : Int} {n : Nat} {D : List (Sk × Nat)} {steps : Int → List Stp} (T : Tells key t size n D) (ok : StepsOk key t steps) (grow : ∀ b ∈ aheadB t n, ∀ s ∈ steps (key b).1, 0 ≤ s.more) : Tells key t size (n + 1) (nextS steps size D) := by
  obtain ⟨a1, a2, a3⟩ := foldP (steps := steps) (size := size) D [] List.nodup_nil
  have a3 : ∀ k : Sk, k ∈ (nextS steps size D).map (·.1) ↔ (∃ c ∈ D, ∃ s ∈ steps c.1.1, (s.to, c.1.2 + s.more) = k ∧ k.2 < size) ∨ k ∈ ([] : List (Sk × Nat)).map (·.1) := a3
  refine ⟨a1, fun c hc => ?_, fun b hb hs => ?_⟩
  · have hk : c.1.2 < size := by
      rcases (a3 c.1).mp (List.mem_map.mpr ⟨c, hc, rfl⟩) with ⟨_, _, _, _, _, h⟩ | h
      · exact h
      · cases h
    rw [T.next ok grow hk, ← lkS_mem a1 hc]
    have z := a2 c.1 hk
    rw [show lkS [] c.1 = 0 from rfl, Nat.zero_add] at z
    exact z
  · have pos : 0 < cntL key (aheadB t (n + 1)) (key b) := by
      unfold cntL
      exact List.length_pos_of_mem (List.mem_filter.mpr ⟨hb, decide_eq_true rfl⟩)
    rw [T.next ok grow hs] at pos
    refine (a3 (key b)).mpr (.inl ?_)
    refine Classical.byContradiction fun non => ?_
    have zero : (D.map fun c => c.2 * brings steps c.1 (key b)).sum = 0 := by
      have all : ∀ c ∈ D, c.2 * brings steps c.1 (key b) = 0 := fun c hc => by
        have bz : brings steps c.1 (key b) = 0 := by
          unfold brings
          have al : ∀ s ∈ steps c.1.1, (if (s.to, c.1.2 + s.more) = key b then s.many else 0) = 0 := fun s hs' => if_neg fun e => non ⟨c, hc, s, hs', e, hs⟩
          generalize steps c.1.1 = l at al
          induction l with
          | nil => rfl
          | cons s l ih => rw [List.map_cons, List.sum_cons, al s List.mem_cons_self, ih fun z hz => al z (List.mem_cons_of_mem _ hz)]
        rw [bz, Nat.mul_zero]
      exact sum_zero _ _ all
    omega
end Esc

namespace Esc
open PySem PySem.Spec PyProof.Rows L2
/-! ### comprehensions over enumerate; the pairs of a dict with tuple keys, one after another -/
def kLcE (K : PySem.W.Frag) (g : TG) (tt : TT) (te : TE) (vs : List Nat) (σ : L2.St) (Q : VK) : List V → Hp → Prop := fun us H1 => ∃ a xs, us = [.ref a] ∧ SqL K H1 a xs ∧ LcLoop (Ite K a) g tt te vs σ Q H1
def kItm (g : TG) (tb : TS) (D : Ends) (σ : L2.St) : VK := fun x H1 => ∃ d o kvs, x = .ref d ∧ H1 d = some (.frz o (.dT kvs)) ∧ Loop (ItiT d o kvs) g tb D σ H1
section
variable {K : PySem.W.Frag} {H : Hp} {g : TG} {tt : TT} {te td : TE} {ta : TA} {tb : TS} {vs : List Nat} {σ σ0 : L2.St} {Q : VK} {a d : Addr} {xs : List V} {D : Ends} {nx : L2.St → Hp → Prop} {rt : VK} {bk ct : L2.St → Hp → Prop}
instance : Step (tLc (iEnum K ta) g tt te vs σ H Q) (ta σ H (kLcE K g tt te vs σ Q)) := ⟨fun h => h⟩
instance : Step (tFor (iItemsT td) g tb D σ H) (td σ H (kItm g tb D σ)) := ⟨fun h => h⟩
theorem i_lcEI [w : Wp vs σ σ0] (Pv : Addr → Nat → List V → Hp → Prop) (hx0 : SqL K H a xs) (h0 : ∀ D, H D = none → Pv D 0 [] (upd H D (.lst []))) (hx : ∀ D i acc H', H D = none → Pv D i acc H' → SqL K H' a xs)
    (hs : ∀ D i x T acc H0, H D = none → xs[i]? = some x → acc.length ≤ i → Pv D i acc H0 → H0 T = none → g (.ref T) σ0 (upd H0 T (.tup [.int (i : Nat), x])) (kLcB σ0 vs tt te (kN Pv D i) (kY Pv D i)))
    (q : ∀ D acc H', H D = none → Pv D xs.length acc H' → Q (.ref D) H') : kLcE K g tt te vs σ Q [.ref a] H := by
  have w' := w.h
  subst w'
  refine ⟨a, xs, rfl, hx0, fun D hD => ⟨fun i m H' => m = xs.length - i ∧ i ≤ xs.length ∧ ∃ acc, acc.length ≤ i ∧ Pv D i acc H', ⟨xs.length, by simp, Nat.zero_le _, [], Nat.le_refl _, h0 D hD⟩, ?_⟩⟩
  rintro i m H' ⟨rfl, hi, acc, hl, p⟩
  have hq := hx D i acc H' hD p
  by_cases hlt : i < xs.length
  · refine .inr ⟨⟨xs, xs[i], hq, by simp [hlt]⟩, kN Pv D i, fun H2 p' => ⟨xs.length - (i + 1), by omega, rfl, hlt, p'⟩, fun x H2 y => ?_⟩
    obtain ⟨T, x, rfl, nT, rfl, y⟩ := y
    exact hs D i x T acc H' hD (y xs hq) hl p nT
  · have ei : i = xs.length := by omega
    subst ei
    exact .inl ⟨⟨xs, hq, Nat.le_refl _⟩, q D acc H' hD p⟩
theorem i_items {od : Obj} {kvs : List (List Key × V)} (hd0 : H d = some (.frz od (.dT kvs))) (Pv : Nat → L2.St → Hp → Prop) (h0 : Pv 0 σ H) (hl : ∀ i σ H, Pv i σ H → H d = some (.frz od (.dT kvs)))
    (hs : ∀ i k v q T σ H0, kvs[i]? = some (k, v) → Pv i σ H0 → H0 T = none → H0 q = some (.tup (k.map kV)) → g (.ref T) σ (upd H0 T (.tup [.ref q, v])) (tb ⟨Pv (i + 1), rt, nx, Pv (i + 1)⟩))
    (hd : ∀ σ H, Pv kvs.length σ H → nx σ H) : kItm g tb ⟨nx, rt, bk, ct⟩ σ (.ref d) H := by
  refine ⟨d, od, kvs, rfl, hd0, fun i m σ H => m = kvs.length - i ∧ i ≤ kvs.length ∧ Pv i σ H, ⟨kvs.length, by simp, Nat.zero_le _, h0⟩, ?_⟩
  rintro i m σ H ⟨rfl, hi, p⟩
  have e := hl i σ H p
  by_cases hlt : i < kvs.length
  · refine .inr ⟨⟨e, hlt⟩, Pv (i + 1), fun σ' H' p' => ⟨kvs.length - (i + 1), by omega, rfl, hlt, p'⟩, fun x H' y => ?_⟩
    obtain ⟨T, k, v, q, hk, rfl, nT, hq, rfl⟩ := y
    exact hs i k v q T σ H hk p nT hq
  · have ei : i = kvs.length := by omega
    subst ei
    exact .inl ⟨⟨e, Nat.le_refl _⟩, hd σ H p⟩
end
end Esc

namespace Esc
open PySem PySem.Spec PyProof.Rows L2
section
variable {P : Program} {w : World} {K : PySem.W.Frag} {mg : Str → Option Value} {base : Heap}
def StpsAt (K : PySem.W.Frag) (H : Hp) (tas : List Addr) (l : List Stp) : Prop := tas.length = l.length ∧ ∀ (j : Nat) (T : Addr) (s : Stp), tas[j]? = some T → l[j]? = some s → SqT K H T [.int s.to, .int s.more, .int (s.many : Int)]
def StepsAt (K : PySem.W.Frag) (H : Hp) (sa : List Addr) (ss : List (List Stp)) : Prop := sa.length = ss.length ∧ ∀ (i : Nat) (a : Addr) (l : List Stp), sa[i]? = some a → ss[i]? = some l → ∃ tas, SqL K H a (tas.map V.ref) ∧ StpsAt K H tas l
theorem StpsAt.same {H H' : Hp} (s : Same H H') {tas : List Addr} {l : List Stp} (h : StpsAt K H tas l) : StpsAt K H' tas l := ⟨h.1, fun j T x a b => stup s (h.2 j T x a b)⟩
theorem StepsAt.same {H H' : Hp} (s : Same H H') {sa : List Addr} {ss : List (List Stp)} (h : StepsAt K H sa ss) : StepsAt K H' sa ss := ⟨h.1, fun i a l e1 e2 => let ⟨tas, x, y⟩ := h.2 i a l e1 e2; ⟨tas, s.seq x, y.same s⟩⟩
theorem in_steps {ss : List (List Stp)} {n : Nat} {s : Stp} (h : s ∈ ss.getD n []) : ∃ l ∈ ss, s ∈ l := by
  rw [List.getD_eq_getElem?_getD] at h
  cases e : ss[n]? with
  | none => rw [e] at h; cases h
  | some l => rw [e] at h; exact ⟨l, List.mem_of_getElem? e, h⟩
theorem next_keys {steps : Int → List Stp} {size : Int} {D : List (Sk × Nat)} {c : Sk × Nat} (hc : c ∈ D.foldl (addP steps size) []) : ∃ c0 ∈ D, ∃ s ∈ steps c0.1.1, (s.to, c0.1.2 + s.more) = c.1 ∧ c.1.2 < size := by
  have z := (foldP (steps := steps) (size := size) D [] List.nodup_nil).2.2 c.1
  rcases z.mp (List.mem_map.mpr ⟨c, hc, rfl⟩) with h | h
  · exact h
  · cases h
theorem sum_cast {α : Type} (f : α → Nat) : ∀ l : List α, (l.map fun j => ((f j : Nat) : Int)).sum = (((l.map f).sum : Nat) : Int)
  | [] => rfl
  | a :: l => by rw [List.map_cons, List.sum_cons, List.map_cons, List.sum_cons, sum_cast f l]; omega
/-- what the walk of places asks -/
structure Walks (key : List Int → Sk) (t : Int) (ss : List (List Stp)) (cs : List Int) : Prop where
  ok : StepsOk key t fun i => ss.getD i.toNat []
  nil : key [] = (0, 0)
  st : ∀ b, InT t b → ∃ st : Nat, st < ss.length ∧ (key b).1 = (st : Int)
  step : ∀ l ∈ ss, ∀ s ∈ l, (0 ≤ s.more ∧ s.more ≤ 1000) ∧ (0 ≤ s.to ∧ s.to < (ss.length : Int)) ∧ s.many ≤ 1000
  few : ss.length ≤ 20
  short : ∀ l ∈ ss, l.length ≤ 20
  closes : ∀ c ∈ cs, 1 ≤ c ∧ c ≤ 1000
  cfew : cs.length ≤ 20
def spBodiesN (K : PySem.W.Frag) : Sp := fun vs H Q _ => ∃ (st cl : Addr) (sa : List Addr) (ss : List (List Stp)) (cs : List Int) (size : Nat) (key : List Int → Sk) (t : Int), vs = [.ref st, .ref cl, .int (size : Int)] ∧ SqL K H st (sa.map V.ref) ∧ StepsAt K H sa ss ∧ SqL K H cl (cs.map V.int) ∧ Walks key t ss cs ∧ size ≤ 100 ∧
  ∀ H', Same H H' → Q (.int ((foundT key t cs (size : Int) 61 : Nat) : Int)) H'
theorem c_bodies_of_size (Z : Blt mg) (m_MOST_BODY : GI mg "MOST_BODY" 60) (d : Dd K mg "bodies_of_size" s_bodies_of_size P_bodies_of_size) : C8.Cal P w K mg base 1 "bodies_of_size" (spBodiesN K) [] := by
  refine d.cal sc_bodies_of_size (fun vs H Q E h => ?_) (fun f cdv A outer s H vs Q E hr h => ?_)
  · obtain ⟨st, cl, sa, ss, cs, size, key, t, rfl, _⟩ := h
    rfl
  · obtain ⟨st, cl, sa, ss, cs, size, key, t, rfl, hst, hsa, hcl, W, h100, q⟩ := h
    have nd := sc_bodies_of_size.nd
    have w0 : 0 < ss.length := by
      obtain ⟨x, hx, _⟩ := W.st [] (fun y hy => by cases hy)
      omega
    refine ⟨_, (pss_cons (ps_set (i := 3) nd rfl (Or.inl rfl) pe_int)
  (pss_cons (ps_set (i := 4) nd rfl (Or.inr rfl) (pe_dispT (hu_of hr) (pe_tup (pa_cons pe_int (pa_cons pe_int pa_nil))) pe_int))
  (pss_cons (ps_for PassesOwn.never rfl (pi_range1 rfl Z.range_ (pa_cons (pe_op op_add (C8.pe_gc rfl m_MOST_BODY) pe_int) pa_nil)) (pg_name (i := 5) nd rfl (Or.inl rfl))
    (pss_cons (ps_aug (i := 3) nd rfl (Or.inl rfl) (pe_callB (cr_sum rfl) (by rfl) Z.sum_ (by decide +kernel) (pa_cons (pe_lc (own := [("last", 15), ("closing", 14)]) (g := gTup K 2 (gCons (gName 15) (gCons (gName 14) gNil))) (tt := tYes) rfl nd (pi_enum rfl Z.enumerate_ (pa_cons (pv 1) pa_nil)) (blkOk_by (N := N_bodies_of_size) (sc := C8.fnScope s_bodies_of_size) (own := [("last", 15), ("closing", 14)]) (by decide +kernel)) (fun _ _ _ _ _ => (pg_tup rfl (pgs_cons (pg_name (i := 15) nd rfl (Or.inl rfl)) (pgs_cons (pg_name (i := 14) nd rfl (Or.inl rfl)) pgs_nil)))) (fun _ _ _ _ _ => pts_nil) (fun _ _ _ _ _ => (pe_dget2 (hu_of hr) (pv 4) (pe_tup (pa_cons (pv 15) (pa_cons (pe_op op_sub (pv 2) (pv 14)) pa_nil))) pe_int ⟨rfl, rfl, rfl, rfl⟩))) pa_nil)) ip_add)
  (pss_cons (ps_set (i := 6) nd rfl (Or.inl rfl) pe_dnewT)
  (pss_cons (ps_lock (ps_for PassesOwn.never rfl (pi_itemsT (pv 4)) (pg_tup rfl (pgs_cons (pg_tup rfl (pgs_cons (pg_name (i := 7) nd rfl (Or.inl rfl)) (pgs_cons (pg_name (i := 8) nd rfl (Or.inl rfl)) pgs_nil))) (pgs_cons (pg_name (i := 9) nd rfl (Or.inl rfl)) pgs_nil)))
    (pss_one (ps_for PassesOwn.never rfl (pi_list (pe_ix ix_list (pv 0) (pv 7) (fun _ _ => rfl))) (pg_tup rfl (pgs_cons (pg_name (i := 10) nd rfl (Or.inl rfl)) (pgs_cons (pg_name (i := 11) nd rfl (Or.inl rfl)) (pgs_cons (pg_name (i := 12) nd rfl (Or.inl rfl)) pgs_nil))))
    (pss_one (ps_if (pt_cmpR op_lt (pe_op op_add (pv 8) (pv 11)) (pv 2) (nomark _)) (pss_cons (ps_set (i := 13) nd rfl (Or.inl rfl) (pe_tup (pa_cons (pv 10) (pa_cons (pe_op op_add (pv 8) (pv 11)) pa_nil))))
  (pss_one (ps_dput (hu_of hr) (pv 6) (pv 13) (pe_op op_add (pe_dget2 (hu_of hr) (pv 6) (pv 13) pe_int ⟨rfl, rfl, rfl, rfl⟩) (pe_op op_mul (pv 9) (pv 12))) rfl))) pss_nil))))))
  (pss_one (ps_set (i := 4) nd rfl (Or.inr rfl) (pv 6)))))))
  (pss_one (ps_ret (pv 3)))))), ?_⟩
    refine i_start (σ' := [some (.ref st), some (.ref cl), some (.int (size : Int)), none, none, none, none, none, none, none, none, none, none, none, none, none]) rfl ?_
    walk_at "go"
    walk_at "r"
    refine fun Bd hBd => ?_
    walk_at "r"
    refine i_tup (by show 2 ≤ sizeLine; decide) (fun T0 H1 hT0 s1 e1 => ?_)
    walk_at "r"
    refine ⟨s1 _ _ upd_same, eK (0, 0), T0, rfl, e1, ?_⟩
    have sB : Same H (upd H1 Bd (.dT [(eK (0, 0), V.int 1)])) := smut ((same_new hBd).trans s1) hBd
    have eB : upd H1 Bd (.dT [(eK (0, 0), V.int 1)]) Bd = some (.dT (eD [((0, 0), 1)])) := upd_same
    generalize upd H1 Bd (.dT [(eK (0, 0), V.int 1)]) = H2 at *
    have T0' : Tells key t (size : Int) 0 [((0, 0), 1)] := by
      refine ⟨by simp, fun c hc => ?_, fun b hb _ => ?_⟩
      · rw [List.mem_singleton.mp hc]
        show 1 = cntL key [[]] (0, 0)
        rw [cntL_cons, if_pos W.nil]
        rfl
      · have e : b = [] := List.mem_singleton.mp hb
        rw [e, W.nil]
        exact List.mem_singleton_self _
    walk_at "r"
    refine i_rng ⟨by decide, by decide⟩ (fun i σ' H' => ∃ (Bd : Addr) (D : List (Sk × Nat)) (y5 y6 y7 y8 y9 y10 y11 y12 y13 : Option V), σ' = [some (.ref st), some (.ref cl), some (.int (size : Int)), some (.int ((foundT key t cs (size : Int) i : Nat) : Int)), some (.ref Bd), y5, y6, y7, y8, y9, y10, y11, y12, y13, none, none] ∧ Same H H' ∧ H Bd = none ∧ H' Bd = some (.dT (eD D)) ∧ Tells key t (size : Int) i D ∧ ∀ c ∈ D, (0 ≤ c.1.1 ∧ c.1.1 < (ss.length : Int)) ∧ 0 ≤ c.1.2 ∧ c.1.2 < 101)
      ⟨Bd, [((0, 0), 1)], none, none, none, none, none, none, none, none, none, rfl, sB, hBd, eB, T0', fun c hc => by rw [List.mem_singleton.mp hc]; exact ⟨⟨Int.le_refl _, by show (0 : Int) < _; omega⟩, Int.le_refl _, by decide⟩⟩ (fun i σ' H' hi pv => ?_) (fun σ' H' pv => ?_)
    · obtain ⟨Bd, D, y5, y6, y7, y8, y9, y10, y11, y12, y13, rfl, s3, hBd, eB, TD, bD⟩ := pv
      have fD : D.length ≤ 2020 := Nat.le_trans (few_places (m := 101) TD.nodup bD) (by have := W.few; omega)
      walk_at "r"
      refine i_lcEI (fun D0 j acc H'' => Same H' H'' ∧ H'' D0 = some (.lst acc) ∧ acc = ((List.range j).map fun (j : Nat) => ((cntL key (aheadB t i) ((j : Int), (size : Int) - cs.getD j 0) : Nat) : Int)).map V.int) (s3.seq hcl) (fun D0 hD0 => ⟨same_new hD0, upd_same, rfl⟩) (fun D0 j acc H'' hD0 pv => pv.1.seq (s3.seq hcl)) (fun D0 j x T acc H0 hD0 hx hla pv hT => ?_) (fun D0 acc H4 hD0 pv => ?_)
      · obtain ⟨s4, eD0, eacc⟩ := pv
        obtain ⟨c, hc, rfl⟩ := map_get hx
        have sT := same_new (o := .tup [.int (j : Int), .int c]) hT
        have eT : upd H0 T (.tup [.int (j : Int), .int c]) T = some (.tup [.int (j : Int), .int c]) := upd_same
        have eD1 := sT _ _ eD0
        have eB1 := sT _ _ (s4 _ _ eB)
        generalize upd H0 T (.tup [.int (j : Int), .int c]) = H5 at *
        have s45 := s4.trans sT
        walk_at "r"
        refine i_getA (isD_T eB1) ?_
        walk_at "r"
        refine i_tup (by show 2 ≤ sizeLine; decide) (fun T1 H6 hT1 s6 e6 => ?_)
        walk_at "r"
        have hg := DGet.t (k := eK ((j : Int), (size : Int) - c)) (s6 _ _ eB1) e6
        refine i_getC hg ?_
        rw [eD_val]
        have cm := W.closes c (List.mem_of_getElem? hc)
        have fa : lkS D ((j : Int), (size : Int) - c) = _ := found_at TD (k := ((j : Int), (size : Int) - c)) (by show (size : Int) - c < size; omega)
        rw [fa]
        have jl := (List.getElem?_eq_some_iff.mp hc).1
        have cf := W.cfew
        refine kY_of (s6 _ _ eD1) hla (by omega) ⟨smut (s45.trans s6) hD0, upd_same, ?_⟩
        rw [eacc, List.range_succ, List.map_append, List.map_append, List.map_cons, List.map_cons, List.map_nil, List.map_nil, List.getD_eq_getElem?_getD, hc]
        rfl
      · obtain ⟨s4, eD0, eacc⟩ := pv
        rw [List.length_map] at eacc
        rw [eacc] at eD0
        walk_at "r"
        refine ⟨D0, _, rfl, sl_of eD0, ?_⟩
        have efd : ((foundT key t cs (size : Int) i : Nat) : Int) + (List.map (fun (j : Nat) => ((cntL key (aheadB t i) ((j : Int), (size : Int) - cs.getD j 0) : Nat) : Int)) (List.range cs.length)).sum = ((foundT key t cs (size : Int) (i + 1) : Nat) : Int) := by
          rw [sum_cast]
          unfold foundT
          rw [List.range_succ, List.map_append, List.sum_append, List.map_cons, List.map_nil, List.sum_cons, List.sum_nil, Nat.add_zero]
          rfl
        walk_at "r"
        rw [efd]
        refine i_newT (fun Lg H5 hLg s5 eL => ?_)
        have s35 := (s3.trans s4).trans s5
        have hLg0 := (s3.trans s4).free hLg
        have eB5 := s5 _ _ (s4 _ _ eB)
        have nLB : Lg ≠ Bd := (ne_of_none (s4 _ _ eB) hLg).symm
        walk_at "r"
        refine ⟨Bd, .dT (eD D), eB5, trivial, fun od => ?_⟩
        have sF : Same H (upd H5 Bd (.frz od (.dT (eD D)))) := smut s35 hBd
        have eF : upd H5 Bd (.frz od (.dT (eD D))) Bd = some (.frz od (.dT (eD D))) := upd_same
        have eLF : upd H5 Bd (.frz od (.dT (eD D))) Lg = some (.dT (eD [])) := (upd_ne nLB).trans eL
        generalize upd H5 Bd (.frz od (.dT (eD D))) = H6 at *
        walk_at "r"
        refine i_items eF (fun j σ'' H'' => ∃ (y7 y8 y9 y10 y11 y12 y13 : Option V), σ'' = [some (.ref st), some (.ref cl), some (.int (size : Int)), some (.int ((foundT key t cs (size : Int) (i + 1) : Nat) : Int)), some (.ref Bd), some (.int (i : Int)), some (.ref Lg), y7, y8, y9, y10, y11, y12, y13, none, none] ∧ Same H H'' ∧ H'' Bd = some (.frz od (.dT (eD D))) ∧ H'' Lg = some (.dT (eD ((D.take j).foldl (addP (fun i => ss.getD i.toNat []) (size : Int)) []))))
          ⟨_, _, _, _, _, _, _, rfl, sF, eF, eLF⟩ (fun j σ'' H'' ⟨_, _, _, _, _, _, _, _, _, z, _⟩ => z) (fun j k v kq T σ'' H0 hk pv hT hkq => ?_) (fun σ'' H'' pv => ?_)
        · obtain ⟨y7, y8, y9, y10, y11, y12, y13, rfl, s7, eF7, eL7⟩ := pv
          obtain ⟨c, hc, rfl, rfl⟩ : ∃ c, D[j]? = some c ∧ k = eK c.1 ∧ v = .int (c.2 : Int) := by
            unfold eD at hk
            rw [List.getElem?_map] at hk
            cases e : D[j]? with
            | none => rw [e] at hk; cases hk
            | some c => rw [e] at hk; cases hk; exact ⟨c, rfl, rfl, rfl⟩
          have bc := bD c (List.mem_of_getElem? hc)
          obtain ⟨n, hn⟩ : ∃ n : Nat, c.1.1 = (n : Int) := ⟨c.1.1.toNat, by omega⟩
          have nl : n < ss.length := by omega
          have lsa : sa.length = ss.length := hsa.1
          have ga : sa[n]? = some (sa[n]'(by omega)) := List.getElem?_eq_getElem (by omega)
          obtain ⟨an, ga⟩ : ∃ an, sa[n]? = some an := ⟨_, ga⟩
          obtain ⟨ln, gs⟩ : ∃ ln, ss[n]? = some ln := ⟨_, List.getElem?_eq_getElem nl⟩
          obtain ⟨tas, htas, hsp⟩ := hsa.2 n an ln ga gs
          have ltas := hsp.1
          have lnm := List.mem_of_getElem? gs
          have lnl := W.short ln lnm
          have esn : ss.getD c.1.1.toNat [] = ln := by rw [hn, show ((n : Nat) : Int).toNat = n from rfl, List.getD_eq_getElem?_getD, gs]; rfl
          have hat : atI (sa.map V.ref) c.1.1 = some (.ref an) := by
            rw [hn]
            exact atI_nat (by rw [List.getElem?_map, ga]; rfl)
          generalize hL0 : (D.take j).foldl (addP (fun i => ss.getD i.toNat []) (size : Int)) [] = L0 at *
          have p0 := foldP (steps := fun i => ss.getD i.toNat []) (size := (size : Int)) (D.take j) [] List.nodup_nil
          rw [hL0] at p0
          have bnd : ∀ x : Sk, ∀ y : Stp, ∀ c0 : Sk × Nat, c0 ∈ D → (∃ l ∈ ss, y ∈ l) → (y.to, c0.1.2 + y.more) = x → x.2 < (size : Int) → (0 ≤ x.1 ∧ x.1 < (ss.length : Int)) ∧ 0 ≤ x.2 ∧ x.2 < ((101 : Nat) : Int) := fun x y c0 hc0 ⟨l, hl, hy⟩ e lt => by
            obtain ⟨⟨m0, _⟩, ⟨t0, t1⟩, _⟩ := W.step l hl y hy
            have b0 := (bD c0 hc0).2.1
            have e1 : y.to = x.1 := congrArg Prod.fst e
            have e2 : c0.1.2 + y.more = x.2 := congrArg Prod.snd e
            exact ⟨⟨by omega, by omega⟩, by omega, by omega⟩
          have few : ∀ m, ((ln.take m).foldl (addS (size : Int) c.1 c.2) L0).length ≤ 2020 ∧ (((ln.take m).foldl (addS (size : Int) c.1 c.2) L0).map (·.1)).Nodup := fun m => by
            have f0 := foldS (size := (size : Int)) (x := c.1) (c := c.2) (ln.take m) L0 p0.1
            refine ⟨Nat.le_trans (few_places (n := ss.length) (m := 101) f0.1 fun x hx => ?_) (by have := W.few; omega), f0.1⟩
            rcases (f0.2.2 x.1).mp (List.mem_map.mpr ⟨x, hx, rfl⟩) with ⟨y, hy, e, lt⟩ | h
            · exact bnd x.1 y c (List.mem_of_getElem? hc) ⟨ln, lnm, List.mem_of_mem_take hy⟩ e lt
            · rcases (p0.2.2 x.1).mp h with ⟨c0, hc0, y, hy, e, lt⟩ | h
              · exact bnd x.1 y c0 (List.mem_of_mem_take hc0) (in_steps hy) e lt
              · cases h
          have hkq2 : H0 kq = some (.tup [.int c.1.1, .int c.1.2]) := by
            rw [hkq]
            rfl
          have nq : kq ≠ T := ne_of_none hkq hT
          have sT := same_new (o := .tup [.ref kq, .int (c.2 : Int)]) hT
          have eT : upd H0 T (.tup [.ref kq, .int (c.2 : Int)]) T = some (.tup [.ref kq, .int (c.2 : Int)]) := upd_same
          have ekq := sT _ _ hkq2
          have s8 := s7.trans sT
          have eF8 := sT _ _ eF7
          have eL8 := sT _ _ eL7
          generalize upd H0 T (.tup [.ref kq, .int (c.2 : Int)]) = H7 at *
          have hst8 := s8.seq hst
          walk_at "r"
          refine i_for (s8.seq htas) (fun m σ'' H'' => ∃ (y10 y11 y12 y13 : Option V), σ'' = [some (.ref st), some (.ref cl), some (.int (size : Int)), some (.int ((foundT key t cs (size : Int) (i + 1) : Nat) : Int)), some (.ref Bd), some (.int (i : Int)), some (.ref Lg), some (.int c.1.1), some (.int c.1.2), some (.int (c.2 : Int)), y10, y11, y12, y13, none, none] ∧ Same H H'' ∧ H'' Bd = some (.frz od (.dT (eD D))) ∧ H'' Lg = some (.dT (eD ((ln.take m).foldl (addS (size : Int) c.1 c.2) L0))))
            ⟨_, _, _, _, rfl, s8, eF8, eL8⟩ (fun m σ'' H'' _ ⟨_, _, _, _, _, z, _⟩ => z.seq htas) (fun m x σ'' H'' hx pv => ?_) (fun σ'' H'' pv => ?_)
          · obtain ⟨y10, y11, y12, y13, rfl, s9, eF9, eL9⟩ := pv
            obtain ⟨T2, hT2, rfl⟩ := ref_get hx
            have ml : m < ln.length := by
              have := (List.getElem?_eq_some_iff.mp hT2).1
              omega
            obtain ⟨sx, hsx⟩ : ∃ sx, ln[m]? = some sx := ⟨_, List.getElem?_eq_getElem ml⟩
            have et := stup s9 (hsp.2 m T2 sx hT2 hsx)
            obtain ⟨_, _, hm1000⟩ := W.step ln lnm sx (List.mem_of_getElem? hsx)
            obtain ⟨fl, fn⟩ := few m
            have stp : (ln.take (m + 1)).foldl (addS (size : Int) c.1 c.2) L0 = addS (size : Int) c.1 c.2 ((ln.take m).foldl (addS (size : Int) c.1 c.2) L0) sx := by rw [take_succ' hsx, List.foldl_append]; rfl
            generalize (ln.take m).foldl (addS (size : Int) c.1 c.2) L0 = Lm at *
            walk_at "r"
            refine i_br (fun lt => ?_) (fun lt => ?_)
            · walk_at "r"
              refine i_tup (by show 2 ≤ sizeLine; decide) (fun T3 H10 hT3 s10 e10 => ?_)
              have eL10 := s10 _ _ eL9
              walk_at "r"
              refine i_getA (isD_T eL10) ?_
              walk_at "r"
              have hg := DGet.t (k := eK (sx.to, c.1.2 + sx.more)) eL10 e10
              refine i_getC hg ?_
              rw [eD_val]
              walk_at "r"
              refine i_putT (k := eK (sx.to, c.1.2 + sx.more)) eL10 e10 (szl (by rw [eD_len]; omega)) ?_
              rw [show ((lkS Lm (sx.to, c.1.2 + sx.more) : Nat) : Int) + (c.2 : Int) * (sx.many : Int) = ((lkS Lm (sx.to, c.1.2 + sx.more) + c.2 * sx.many : Nat) : Int) by rw [Int.natCast_add, Int.natCast_mul], eD_put _ _ _ fn]
              walk_at "r"
              refine ⟨_, _, _, _, rfl, smut (s9.trans s10) hLg0, (upd_ne nLB.symm).trans (s10 _ _ eF9), ?_⟩
              rw [upd_same, stp]
              unfold addS
              rw [if_pos lt]
            · walk_at "r"
              refine ⟨_, _, _, _, rfl, s9, eF9, ?_⟩
              rw [stp]
              unfold addS
              rw [if_neg lt]
              exact eL9
          · obtain ⟨y10, y11, y12, y13, rfl, s9, eF9, eL9⟩ := pv
            rw [List.length_map, ltas, List.take_length] at eL9
            refine ⟨_, _, _, _, _, _, _, rfl, s9, eF9, ?_⟩
            rw [eL9, take_succ' hc, List.foldl_append, hL0]
            have ez : addP (fun i => ss.getD i.toNat []) (size : Int) L0 c = ln.foldl (addS (size : Int) c.1 c.2) L0 := by
              show (ss.getD c.1.1.toNat []).foldl (addS (size : Int) c.1 c.2) L0 = _
              rw [esn]
            rw [List.foldl_cons, List.foldl_nil, ez]
        · obtain ⟨y7, y8, y9, y10, y11, y12, y13, rfl, s7, eF7, eL7⟩ := pv
          rw [eD_len, List.take_length] at eL7
          refine ⟨eF7, ?_⟩
          have sG := smut (o := .dT (eD D)) s7 hBd
          have eG := (upd_ne (H := H'') (o := .dT (eD D)) nLB).trans eL7
          generalize upd H'' Bd (.dT (eD D)) = H8 at *
          walk_at "r"
          refine ⟨Lg, _, _, _, _, _, _, _, _, _, _, rfl, sG, hLg0, eG, TD.goes W.ok (fun b _ s hs => ?_), fun c hc => ?_⟩
          · obtain ⟨l, hl, hs⟩ := in_steps hs
            exact (W.step l hl s hs).1.1
          · obtain ⟨c0, hc0, s, hs, e, lt⟩ := next_keys hc
            obtain ⟨l, hl, hs⟩ := in_steps hs
            obtain ⟨⟨m0, _⟩, ⟨t0, t1⟩, _⟩ := W.step l hl s hs
            have b0 := (bD c0 hc0).2.1
            have e1 : s.to = c.1.1 := congrArg Prod.fst e
            have e2 : c0.1.2 + s.more = c.1.2 := congrArg Prod.snd e
            exact ⟨⟨by omega, by omega⟩, by omega, by omega⟩
    · obtain ⟨Bd, D, y5, y6, y7, y8, y9, y10, y11, y12, y13, rfl, s3, _⟩ := pv
      walk_at "r"
      exact q _ s3
end
end Esc

namespace Esc
open PySem PySem.Spec PyProof.Rows L2
section
variable {P : Program} {w : World} {K : PySem.W.Frag} {mg : Str → Option Value} {base : Heap}
/-- how many bodies have frames of so many signs, told by a way without exchanges -/
def spCountK (K : PySem.W.Frag) (good : Int → Int → Kind → Prop) : Sp := fun vs H Q _ => ∃ (p : Addr) (t e : Int) (k : Kind) (size : Nat), vs = [.ref p, .int (size : Int)] ∧ good t e k ∧ KindAt K H p t e k ∧ KindOk t e k ∧ 3 ≤ t ∧ t ≤ 16 ∧ 0 ≤ e ∧ e < t ∧ size ≤ 61 ∧
  ∀ H', Same H H' → Q (.int (((ofSize ⟨[], t, e, k⟩ size).length : Nat) : Int)) H'
theorem plainOk {t e : Int} {k : Kind} (hk : KindOk t e k) (h3 : 3 ≤ t) (h16 : t ≤ 16) (h0 : 0 ≤ e) (h1 : e < t) : Way.Ok ⟨[], t, e, k⟩ := ⟨Nat.zero_le _, h3, h16, h0, h1, hk, fun p m => by cases m⟩
/-- the steps by counts, as they stand in the list -/
def stepsC (t l : Int) (n : Nat) : List (List Stp) := (List.range n).map fun (i : Nat) => stepC t l (i : Int)
theorem stepsC_get {t l : Int} {n i : Nat} (h : i < n) : (stepsC t l n).getD i [] = stepC t l (i : Int) := by
  unfold stepsC
  rw [List.getD_eq_getElem?_getD, List.getElem?_map, List.getElem?_range h]
  rfl
theorem walksC {t e l : Int} (hl : 2 ≤ l) (hlt : l < t) (h16 : t ≤ 16) (h0 : 0 ≤ e) (h1 : e < t) : Walks (keyC t e l) t (stepsC t l l.toNat) (closeC l) := by
  have w0 : 0 < l.toNat - 1 := by omega
  have len : (stepsC t l l.toNat).length = l.toNat := by
    unfold stepsC
    rw [List.length_map, List.length_range]
  have stt : ∀ b : List Int, ∃ st : Nat, st < l.toNat ∧ (keyC t e l b).1 = (st : Int) := fun b => ⟨stC (l.toNat - 1) (lastR e b).length, by have := st_le (lastR e b).length (l.toNat - 1) w0; omega, rfl⟩
  refine ⟨fun b hb k => ?_, keyC_nil t e l, fun b _ => by rw [len]; exact stt b, fun l1 hl1 s hs => ?_, by rw [len]; omega, fun l1 hl1 => ?_, fun c hc => ?_, ?_⟩
  · rw [stepC_ok hl h0 h1 b hb k]
    obtain ⟨st, s1, s2⟩ := stt b
    unfold brings
    rw [s2, show (fun (i : Int) => (stepsC t l l.toNat).getD i.toNat []) ((st : Nat) : Int) = stepC t l (st : Int) from stepsC_get s1]
  · rw [len]
    obtain ⟨i, hi, rfl⟩ := List.mem_map.mp hl1
    have m := List.mem_range.mp hi
    have e0 := Int.emod_nonneg (i : Int) (show l - 1 ≠ 0 by omega)
    have e1 := Int.emod_lt_of_pos (i : Int) (show 0 < l - 1 by omega)
    rcases List.mem_cons.mp hs with rfl | hs
    · exact ⟨⟨by decide, by decide⟩, ⟨by decide, by show (0 : Int) < _; omega⟩, by decide⟩
    · rw [List.mem_singleton.mp hs]
      refine ⟨?_, ⟨by show 0 ≤ (i : Int) % (l - 1) + 1; omega, by show (i : Int) % (l - 1) + 1 < _; omega⟩, by show (t - 1).toNat ≤ 1000; omega⟩
      show 0 ≤ (if (i : Int) % (l - 1) + 1 = l - 1 then (2 : Int) else 1) ∧ (if (i : Int) % (l - 1) + 1 = l - 1 then (2 : Int) else 1) ≤ 1000
      split <;> decide
  · obtain ⟨i, hi, rfl⟩ := List.mem_map.mp hl1
    show 2 ≤ 20
    decide
  · rcases List.mem_append.mp hc with m | m
    · rw [(List.mem_replicate.mp m).2]
      decide
    · rw [List.mem_singleton.mp m]
      decide
  · unfold closeC
    rw [List.length_append, List.length_replicate]
    show l.toNat - 1 + 1 ≤ 20
    omega
end
end Esc

namespace Esc
open PySem PySem.Spec PyProof.Rows L2
section
variable {P : Program} {w : World} {K : PySem.W.Frag} {mg : Str → Option Value} {base : Heap}
theorem stepsC_succ (t l : Int) (n : Nat) : stepsC t l (n + 1) = stepsC t l n ++ [stepC t l (n : Int)] := by
  unfold stepsC
  rw [List.range_succ, List.map_append]
  rfl
theorem StepsAt.app {H : Hp} {sa : List Addr} {ss : List (List Stp)} {a : Addr} {l : List Stp} {tas : List Addr} (h : StepsAt K H sa ss) (h1 : SqL K H a (tas.map V.ref)) (h2 : StpsAt K H tas l) : StepsAt K H (sa ++ [a]) (ss ++ [l]) := by
  refine ⟨by rw [List.length_append, List.length_append, h.1]; rfl, fun i b m e1 e2 => ?_⟩
  by_cases c : i < sa.length
  · rw [List.getElem?_append_left c] at e1
    rw [List.getElem?_append_left (by rw [← h.1]; exact c)] at e2
    exact h.2 i b m e1 e2
  · have li : i = sa.length := by
      have := (List.getElem?_eq_some_iff.mp e1).1
      rw [List.length_append, List.length_singleton] at this
      omega
    subst li
    rw [List.getElem?_append_right (Nat.le_refl _), Nat.sub_self] at e1
    rw [h.1, List.getElem?_append_right (Nat.le_refl _), Nat.sub_self] at e2
    cases e1
    cases e2
    exact ⟨tas, h1, h2⟩
theorem c_groups_of_size (Z : Blt mg) (c_bodies_of_size : C8.Cal P w K mg base 1 "bodies_of_size" (spBodiesN K) []) (d : Dd K mg "groups_of_size" s_groups_of_size P_groups_of_size) : C8.Cal P w K mg base 2 "groups_of_size" (spCountK K isCounts) [] := by
  refine d.cal sc_groups_of_size (fun vs H Q E h => ?_) (fun f cdv A outer s H vs Q E hr h => ?_)
  · obtain ⟨p, t, e, k, size, rfl, _⟩ := h
    rfl
  · obtain ⟨p, t, e, k, size, rfl, ⟨l, rfl⟩, hp, hk, h3, h16, h0, h1, hs, q⟩ := h
    have ok := plainOk hk h3 h16 h0 h1
    obtain ⟨hl2, hlt⟩ := hk
    have hp : SqT K H p [.str "counts", .int t, .int e, .int l] := hp
    have nd := sc_groups_of_size.nd
    refine ⟨_, (pss_cons (ps_set (i := 2) nd rfl (Or.inl rfl) (pe_ix ix_tup (pv 0) pe_int (fun _ _ => rfl)))
  (pss_cons (ps_set (i := 3) nd rfl (Or.inl rfl) (pe_ix ix_tup (pv 0) pe_int (fun _ _ => rfl)))
  (pss_cons (ps_set (i := 4) nd rfl (Or.inl rfl) (pe_op op_sub (pv 3) pe_int))
  (pss_cons (ps_set (i := 5) nd rfl (Or.inl rfl) (pe_lst pa_nil))
  (pss_cons (ps_for PassesOwn.never rfl (pi_range1 rfl Z.range_ (pa_cons (pv 3) pa_nil)) (pg_name (i := 6) nd rfl (Or.inl rfl))
    (pss_cons (ps_set (i := 7) nd rfl (Or.inl rfl) (pe_op op_add (pe_op op_mod (pv 6) (pv 4)) pe_int))
  (pss_one (ps_expr (pe_bm PySem.F.plainAttrs_list PySem.F.slot_list_append PySem.F.type_list_append mt_append (pv 5) (pa_cons (pe_lst (pa_cons (pe_tup (pa_cons pe_int (pa_cons pe_int (pa_cons pe_int pa_nil)))) (pa_cons (pe_tup (pa_cons (pv 7) (pa_cons (pe_ifExp (pt_cmpR op_eq (pv 7) (pv 4) (nomark _)) pe_int pe_int) (pa_cons (pe_op op_sub (pv 2) pe_int) pa_nil)))) pa_nil))) pa_nil))))))
  (pss_cons (ps_set (i := 8) nd rfl (Or.inl rfl) (pe_op op_cat (pe_op op_rep (pe_lst (pa_cons pe_int pa_nil)) (pv 4)) (pe_lst (pa_cons pe_int pa_nil))))
  (pss_one (ps_ret (C8.pe_c c_bodies_of_size hr (by decide) (by rfl) (pa_cons (pv 5) (pa_cons (pv 8) (pa_cons (pv 1) pa_nil)))))))))))), ?_⟩
    refine i_start (σ' := [some (.ref p), some (.int (size : Int)), none, none, none, none, none, none, none]) rfl ?_
    walk_at "go"
    walk_at "r"
    refine i_lst (Nat.zero_le _) (fun S H1 hS s1 eS => ?_)
    walk_at "r"
    refine i_rng ⟨by omega, by omega⟩ (fun i σ' H' => ∃ (sa : List Addr) (y6 y7 : Option V), σ' = [some (.ref p), some (.int (size : Int)), some (.int t), some (.int l), some (.int (l - 1)), some (.ref S), y6, y7, none] ∧ Same H H' ∧ H' S = some (.lst (sa.map V.ref)) ∧ StepsAt K (hid [S] H') sa (stepsC t l i))
      ⟨[], none, none, rfl, s1, eS, rfl, fun i a l1 z _ => by cases z⟩ (fun i σ' H' hi pv => ?_) (fun σ' H' pv => ?_)
    · obtain ⟨sa, y6, y7, rfl, s2, eS2, hsa⟩ := pv
      have lsa := hsa.1
      have ls2 : (stepsC t l i).length = i := by unfold stepsC; rw [List.length_map, List.length_range]
      have w1 : (0 : Int) < l - 1 := by omega
      walk_at "r"
      refine i_tup (by show 3 ≤ sizeLine; decide) (fun T1 H3 hT1 s3 e3 => ?_)
      have tt : (((t - 1).toNat : Nat) : Int) = t - 1 := by omega
      walk_at "r"
      refine i_br (fun c => ?_) (fun c => ?_)
      all_goals
        walk_at "r"
        refine i_tup (by show 3 ≤ sizeLine; decide) (fun T2 H4 hT2 s4 e4 => ?_)
        walk_at "r"
        refine i_lst (by show 2 ≤ sizeLine; decide) (fun A H5 hA s5 e5 => ?_)
        have s35 := (s3.trans s4).trans s5
        have eS5 := s35 _ _ eS2
        have nA : A ≠ S := (ne_of_none (s4 _ _ (s3 _ _ eS2)) hA).symm
        have n1 : T1 ≠ S := (ne_of_none eS2 hT1).symm
        have n2 : T2 ≠ S := (ne_of_none (s3 _ _ eS2) hT2).symm
        have lz : (sa.map V.ref).length < sizeLine := szl (by rw [List.length_map, lsa, ls2]; omega)
        have e3' := s5 _ _ (s4 _ _ e3)
        have e4' := s5 _ _ e4
        walk_at "r"
        refine ⟨sa ++ [A], _, _, rfl, smut (s2.trans s35) hS, by rw [upd_same, List.map_append]; rfl, ?_⟩
        rw [stepsC_succ]
        refine (hsa.same (hid_tr (hid_pure s35) (hid_up (hid_put List.mem_cons_self)))).app (tas := [T1, T2]) (sl_of (hid_at (by simpa using nA) ((upd_ne nA).trans e5))) ⟨rfl, fun j T s h1' h2' => ?_⟩
        match j with
        | 0 =>
          cases h1'
          cases h2'
          exact st_of (hid_at (by simpa using n1) ((upd_ne n1).trans e3'))
        | 1 =>
          cases h1'
          cases h2'
          show SqT K _ T2 [.int ((i : Int) % (l - 1) + 1), .int (if (i : Int) % (l - 1) + 1 = l - 1 then 2 else 1), .int (((t - 1).toNat : Nat) : Int)]
          first | rw [if_pos c, tt] | rw [if_neg c, tt]
          exact st_of (hid_at (by simpa using n2) ((upd_ne n2).trans e4'))
        | j + 2 => cases h1'
    · obtain ⟨sa, y6, y7, rfl, s2, eS2, hsa⟩ := pv
      walk_at "r"
      refine i_lst (by show 1 ≤ sizeLine; decide) (fun p3 H3 hp3 s3 e3 => ?_)
      walk_at "r"
      refine i_rep1 e3 ⟨by omega, by omega⟩ (fun p4 H4 hp4 s4 e4 => ?_)
      walk_at "r"
      refine i_lst (by show 1 ≤ sizeLine; decide) (fun p5 H5 hp5 s5 e5 => ?_)
      walk_at "r"
      refine i_cat (s5 _ _ e4) e5 (sz (by rw [List.length_map, List.length_replicate, List.length_singleton]; omega)) (fun p6 H6 hp6 s6 e6 => ?_)
      have s26 := ((s3.trans s4).trans s5).trans s6
      have ecl : (List.replicate (l - 1).toNat (2 : Int)).map V.int ++ [V.int 1] = (closeC l).map V.int := by
        unfold closeC
        rw [List.map_append, show (l - 1).toNat = l.toNat - 1 by omega]
        rfl
      rw [ecl] at e6
      walk_at "r"
      refine ⟨S, p6, sa, stepsC t l l.toNat, closeC l, size, keyC t e l, t, rfl, sl_of (s26 _ _ eS2), (hsa.same hid_same).same s26, sl_of e6, walksC hl2 hlt h16 h0 h1, by omega, fun H7 s7 => ?_⟩
      rw [found_counts (wy := ⟨[], t, e, .counts l⟩) ok rfl size]
      exact q _ ((s2.trans s26).trans s7)
end
end Esc

namespace Esc
open PySem PySem.Spec PyProof.Rows L2
section
variable {P : Program} {w : World} {K : PySem.W.Frag} {mg : Str → Option Value} {base : Heap}
def isPieces : Int → Int → Kind → Prop := fun _ _ k => (∃ cs, k = .codes cs) ∨ ∃ m prs, k = .escapes m prs
theorem walksP {t e : Int} {k : Kind} (hg : isPieces t e k) (hk : KindOk t e k) (h3 : 3 ≤ t) (h16 : t ≤ 16) (h0 : 0 ≤ e) (h1 : e < t) : Walks (keyP (rowOf t e k)) t [stepP t (rowOf t e k) 0] [1] := by
  refine ⟨fun b hb x => ?_, ?_, fun b _ => ⟨0, Nat.zero_lt_one, rfl⟩, fun l hl s hs => ?_, by show 1 ≤ 20; decide, fun l hl => ?_, fun c hc => ?_, by decide⟩
  · rw [stepP_ok (pieces_snoc t e k hg) b hb x]
    rfl
  · have : rowOf t e k [] = [] := by
      rcases hg with ⟨cs, rfl⟩ | ⟨m, prs, rfl⟩ <;> rfl
    unfold keyP
    rw [this]
    rfl
  · rw [List.mem_singleton.mp hl] at hs
    obtain ⟨y, hy, rfl⟩ := List.mem_map.mp hs
    have z := rowOf_len hk h3 h16 h0 h1 (body := [y]) fun x hx => by rw [List.mem_singleton.mp hx]; exact count_mem.mp hy
    refine ⟨⟨by show (0 : Int) ≤ ((rowOf t e k [y]).length : Int); omega, by show ((rowOf t e k [y]).length : Int) ≤ 1000; rw [List.length_singleton] at z; omega⟩, ⟨Int.le_refl _, by show (0 : Int) < 1; decide⟩, by show 1 ≤ 1000; decide⟩
  · rw [List.mem_singleton.mp hl]
    unfold stepP
    rw [List.length_map, count_len]
    omega
  · rw [List.mem_singleton.mp hc]
    decide
end
end Esc

namespace Esc
open PySem PySem.Spec PyProof.Rows L2
section
variable {P : Program} {w : World} {K : PySem.W.Frag} {mg : Str → Option Value} {base : Heap}
theorem frameW_plain {t e : Int} {k : Kind} {body : List Int} : frameW ⟨[], t, e, k⟩ body = rowOf t e k body ++ [e] := rfl
def stepsP (t e : Int) (k : Kind) (n : Nat) : List Stp := (List.range n).map fun (i : Nat) => ⟨0, ((rowOf t e k [(i : Int)]).length : Int), 1⟩
theorem stepsP_eq (t e : Int) (k : Kind) : stepP t (rowOf t e k) 0 = stepsP t e k t.toNat := by
  unfold stepP stepsP countL
  rw [List.map_map]
  rfl
theorem StpsAt.app {H : Hp} {tas : List Addr} {l : List Stp} {T : Addr} {s : Stp} (h : StpsAt K H tas l) (h1 : SqT K H T [.int s.to, .int s.more, .int (s.many : Int)]) : StpsAt K H (tas ++ [T]) (l ++ [s]) := by
  refine ⟨by rw [List.length_append, List.length_append, h.1]; rfl, fun i b m e1 e2 => ?_⟩
  by_cases c : i < tas.length
  · rw [List.getElem?_append_left c] at e1
    rw [List.getElem?_append_left (by rw [← h.1]; exact c)] at e2
    exact h.2 i b m e1 e2
  · have li : i = tas.length := by
      have := (List.getElem?_eq_some_iff.mp e1).1
      rw [List.length_append, List.length_singleton] at this
      omega
    subst li
    rw [List.getElem?_append_right (Nat.le_refl _), Nat.sub_self] at e1
    rw [h.1, List.getElem?_append_right (Nat.le_refl _), Nat.sub_self] at e2
    cases e1
    cases e2
    exact h1
theorem c_pieces_of_size (Z : Blt mg) (c_frame_of : C8.Cal P w K mg base 3 "frame_of" (spFrameW K) []) (c_bodies_of_size : C8.Cal P w K mg base 1 "bodies_of_size" (spBodiesN K) []) (d : Dd K mg "pieces_of_size" s_pieces_of_size P_pieces_of_size) : C8.Cal P w K mg base 4 "pieces_of_size" (spCountK K isPieces) [] := by
  refine d.cal sc_pieces_of_size (fun vs H Q E h => ?_) (fun f cdv A outer s H vs Q E hr h => ?_)
  · obtain ⟨p, t, e, k, size, rfl, _⟩ := h
    rfl
  · obtain ⟨p, t, e, k, size, rfl, hg, hp, hk, h3, h16, h0, h1, hs, q⟩ := h
    have ok := plainOk hk h3 h16 h0 h1
    obtain ⟨xs, hx⟩ := hp.head
    have nl : rowOf t e k [] = [] := by
      rcases hg with ⟨cs, rfl⟩ | ⟨m, prs, rfl⟩ <;> rfl
    have nd := sc_pieces_of_size.nd
    refine ⟨_, (pss_cons (ps_set (i := 2) nd rfl (Or.inr rfl) (C8.pe_c c_frame_of hr (by decide) (by rfl) (pa_cons (pv 0) (pa_cons (pe_lst pa_nil) pa_nil))))
  (pss_cons (ps_setLc (i := 3) (own := [("sign", 4)]) (g := gName 4) (tt := tYes) rfl nd rfl rfl (sw_true rfl rfl rfl (by decide +kernel)) (pi_range1 rfl Z.range_ (pa_cons (pe_ix ix_tup (pv 0) pe_int (fun _ _ => rfl)) pa_nil)) (blkOk_by (N := N_pieces_of_size) (sc := C8.fnScope s_pieces_of_size) (own := [("sign", 4)]) (by decide +kernel)) (fun _ _ _ _ _ => (pg_name (i := 4) nd rfl (Or.inl rfl))) (fun _ _ _ _ _ => pts_nil) (fun _ _ _ _ _ => (pe_tup (pa_cons pe_int (pa_cons (pe_op op_sub (pe_callB (show CallR _ _ (rLen K) from k_len) (by rfl) Z.len_ (by decide +kernel) (pa_cons (C8.pe_c c_frame_of hr (by decide) (by rfl) (pa_cons (pv 0) (pa_cons (pe_lst (pa_cons (pv 4) pa_nil)) pa_nil))) pa_nil)) (pe_callB (show CallR _ _ (rLen K) from k_len) (by rfl) Z.len_ (by decide +kernel) (pa_cons (pv 2) pa_nil))) (pa_cons pe_int pa_nil))))))
  (pss_one (ps_ret (C8.pe_c c_bodies_of_size hr (by decide) (by rfl) (pa_cons (pe_lst (pa_cons (pv 3) pa_nil)) (pa_cons (pe_lst (pa_cons (pe_callB k_len (by rfl) Z.len_ (by decide +kernel) (pa_cons (pv 2) pa_nil)) pa_nil)) (pa_cons (pv 1) pa_nil)))))))), ?_⟩
    refine i_start (σ' := [some (.ref p), some (.int (size : Int)), none, none, none]) rfl ?_
    walk_at "go"
    walk_at "r"
    refine i_lst (Nat.zero_le _) (fun b H1 hb s1 e1 => ?_)
    walk_at "r"
    refine ⟨.ref p, b, ⟨[], t, e, k⟩, [], rfl, ⟨[], p, rfl, rfl, hp.same s1⟩, ok, sl_of e1, (fun x m => by cases m), by decide, fun ea H2 hea s2 e2 => ?_⟩
    rw [frameW_plain, nl, List.nil_append] at e2
    have s02 := s1.trans s2
    have hx2 := stup s02 hx
    walk_at "r"
    refine i_lcRI (fun D j acc H'' => ∃ tas : List Addr, acc = tas.map V.ref ∧ Same H2 H'' ∧ H'' D = some (.lst acc) ∧ StpsAt K (hid [D] H'') tas (stepsP t e k j)) ⟨by omega, by omega⟩ (fun D hD => ⟨[], rfl, same_new hD, upd_same, rfl, fun i a l1 z _ => by cases z⟩) (fun D j acc H'' hD hj hla pv => ?_) (fun S acc H3 hS pv => ?_)
    · obtain ⟨tas, rfl, s3, eD, hst⟩ := pv
      walk_at "r"
      refine i_lst (by show 1 ≤ sizeLine; decide) (fun b4 H4 hb4 s4 e4 => ?_)
      have e4' : H4 b4 = some (.lst ([(j : Int)].map V.int)) := e4
      walk_at "r"
      refine ⟨.ref p, b4, ⟨[], t, e, k⟩, [(j : Int)], rfl, ⟨[], p, rfl, rfl, hp.same ((s02.trans s3).trans s4)⟩, ok, sl_of e4', (fun x m => by rw [List.mem_singleton.mp m]; exact ⟨by omega, hj⟩), by show 1 ≤ 200; decide, fun fr H5 hfr s5 e5 => ?_⟩
      rw [frameW_plain] at e5
      have e25 := s5 _ _ (s4 _ _ (s3 _ _ e2))
      walk_at "r"
      refine i_tup (by show 3 ≤ sizeLine; decide) (fun T H6 hT s6 e6 => ?_)
      rw [show (((rowOf t e k [(j : Int)] ++ [e]).length : Nat) : Int) - (([e].length : Nat) : Int) = ((rowOf t e k [(j : Int)]).length : Int) by rw [List.length_append, List.length_singleton]; omega] at e6
      have s36 := (s4.trans s5).trans s6
      have nT : T ≠ D := (ne_of_none (s5 _ _ (s4 _ _ eD)) hT).symm
      refine kY_of (s36 _ _ eD) hla (by omega) ⟨tas ++ [T], by rw [List.map_append]; rfl, smut (s3.trans s36) hD, upd_same, ?_⟩
      rw [show stepsP t e k (j + 1) = stepsP t e k j ++ [⟨0, ((rowOf t e k [(j : Int)]).length : Int), 1⟩] by unfold stepsP; rw [List.range_succ, List.map_append]; rfl]
      exact (hst.same (hid_tr (hid_pure s36) (hid_up (hid_put List.mem_cons_self)))).app (st_of (hid_at (by simpa using nT) ((upd_ne nT).trans e6)))
    · obtain ⟨tas, rfl, s3, eS, hst⟩ := pv
      have e23 := s3 _ _ e2
      walk_at "r"
      refine i_lst (by show 1 ≤ sizeLine; decide) (fun p4 H4 hp4 s4 e4 => ?_)
      walk_at "r"
      refine i_lst (by show 1 ≤ sizeLine; decide) (fun p5 H5 hp5 s5 e5 => ?_)
      have s35 := s4.trans s5
      walk_at "r"
      refine ⟨p4, p5, [S], [stepsP t e k t.toNat], [1], size, keyP (rowOf t e k), t, rfl, sl_of (s5 _ _ e4), ⟨rfl, fun i a l1 z1 z2 => ?_⟩, sl_of e5, stepsP_eq t e k ▸ walksP hg hk h3 h16 h0 h1, by omega, fun H7 s7 => ?_⟩
      · match i with
        | 0 =>
          cases z1
          cases z2
          exact ⟨tas, sl_of (s35 _ _ eS), (hst.same hid_same).same s35⟩
        | i + 1 => cases z1
      · rw [found_pieces (wy := ⟨[], t, e, k⟩) ok size]
        exact q _ (((s02.trans s3).trans s35).trans s7)
end
end Esc

namespace Esc
open PySem PySem.Spec PyProof.Rows L2
theorem plain_count {wy : Way} (ok : wy.Ok) (size : Nat) : (ofSize ⟨[], wy.t, wy.e, wy.k⟩ size).length = (ofSize wy size).length := by
  rw [← found_pieces ok size, ← found_pieces (plainOk ok.kind ok.t3 ok.t16 ok.e0 ok.e1) size]
/-- frames are short -/
theorem frame_len4 {wy : Way} (ok : wy.Ok) {body : List Int} (h : ∀ x ∈ body, 0 ≤ x ∧ x < wy.t) : (frameW wy body).length ≤ 4 * body.length + 2 := by
  obtain ⟨tin, tlen⟩ := turnL_ok wy.ts ok.perm body h
  have kind := ok.kind
  unfold frameW
  rw [List.length_append, List.length_singleton, ← tlen]
  generalize turnL wy.ts body = b at tin
  generalize wy.k = k at kind
  cases k with
  | codes cs =>
    have z := codesB_len (fun c hc => (kind.2.1 c hc).2.1) b
    show (codesB cs b).length + 1 ≤ _
    omega
  | escapes m prs =>
    have z := escB_len m prs b
    show (escB m prs b).length + 1 ≤ _
    omega
  | counts l =>
    have z := cntB_len (t := wy.t) (e := wy.e) kind.1 b
    show (cntB wy.t wy.e l b).length + 1 ≤ _
    omega
  | ranks =>
    have z := rowR_len4 ok.t3 ok.t16 ok.e0 ok.e1 tin
    show (rowR wy.t wy.e b).length + 1 ≤ _
    omega
section
variable {P : Program} {w : World} {K : PySem.W.Frag} {mg : Str → Option Value} {base : Heap}
/-- the counters, where COUNTERS has them -/
structure Counters (P : Program) (w : World) (K : PySem.W.Frag) (mg : Str → Option Value) (base : Heap) (pF : Addr) : Prop where
  codes : ∃ f, mg "pieces_of_size" = some (.ref f) ∧ KDct K w pF "codes" (.ref f) ∧ C8.Cal P w K mg base 4 "pieces_of_size" (spCountK K isPieces) []
  escapes : ∃ f, mg "pieces_of_size" = some (.ref f) ∧ KDct K w pF "escapes" (.ref f) ∧ C8.Cal P w K mg base 4 "pieces_of_size" (spCountK K isPieces) []
  counts : ∃ f, mg "groups_of_size" = some (.ref f) ∧ KDct K w pF "counts" (.ref f) ∧ C8.Cal P w K mg base 2 "groups_of_size" (spCountK K isCounts) []
  ranks : ∃ f, mg "ranks_of_size" = some (.ref f) ∧ KDct K w pF "ranks" (.ref f) ∧ C8.Cal P w K mg base 2 "ranks_of_size" (spRanksN K) []
theorem Counters.of {pF : Addr} (F : Counters P w K mg base pF) (k : Kind) : ∃ (fa : Addr) (sp : Sp), Held P w K mg base 7 fa sp ∧ KDct K w pF k.name (.ref fa) ∧
    ∀ (p : Addr) (t e : Int) (size : Nat) H Q E, KindAt K H p t e k → KindOk t e k → 3 ≤ t → t ≤ 16 → 0 ≤ e → e < t → size ≤ 61 →
      (∀ H', Same H H' → Q (.int (((ofSize ⟨[], t, e, k⟩ size).length : Nat) : Int)) H') → sp [.ref p, .int (size : Int)] H Q E := by
  cases k with
  | codes cs =>
    obtain ⟨f, h1, h2, c⟩ := F.codes
    exact ⟨f, _, held_of c h1 (by decide), h2, fun p t e size H Q E a1 a2 a3 a4 a5 a6 a7 q => ⟨p, t, e, _, size, rfl, .inl ⟨cs, rfl⟩, a1, a2, a3, a4, a5, a6, a7, q⟩⟩
  | escapes m prs =>
    obtain ⟨f, h1, h2, c⟩ := F.escapes
    exact ⟨f, _, held_of c h1 (by decide), h2, fun p t e size H Q E a1 a2 a3 a4 a5 a6 a7 q => ⟨p, t, e, _, size, rfl, .inr ⟨m, prs, rfl⟩, a1, a2, a3, a4, a5, a6, a7, q⟩⟩
  | counts l =>
    obtain ⟨f, h1, h2, c⟩ := F.counts
    exact ⟨f, _, held_of c h1 (by decide), h2, fun p t e size H Q E a1 a2 a3 a4 a5 a6 a7 q => ⟨p, t, e, _, size, rfl, ⟨l, rfl⟩, a1, a2, a3, a4, a5, a6, a7, q⟩⟩
  | ranks =>
    obtain ⟨f, h1, h2, c⟩ := F.ranks
    refine ⟨f, _, held_of c h1 (by decide), h2, fun p t e size H Q E a1 a2 a3 a4 a5 a6 a7 q => ⟨p, t, e, size, rfl, a1, a3, a4, a7, ?_⟩⟩
    have z := found_ranks (wy := ⟨[], t, e, .ranks⟩) (plainOk a2 a3 a4 a5 a6) rfl a7
    have z2 : (if size = 0 then 0 else (t - 1).toNat ^ (size - 1)) = (ofSize ⟨[], t, e, .ranks⟩ size).length := z
    rw [z2]
    exact q H (Same.refl H)
/-- how many bodies have a frame of just so many signs -/
def spFramesN (K : PySem.W.Frag) : Sp := fun vs H Q _ => ∃ (v : V) (wy : Way) (size : Nat), vs = [v, .int (size : Int)] ∧ WayAt K H v wy ∧ wy.Ok ∧ size ≤ 61 ∧ ∀ H', Same H H' → Q (.int (((ofSize wy size).length : Nat) : Int)) H'
theorem c_frames_of {pF : Addr} (m_COUNTERS : GR mg "COUNTERS" pF) (F : Counters P w K mg base pF) (c_need_way : C8.Cal P w K mg base 7 "need_way" (spNeedW K) []) (c_unturned : C8.Cal P w K mg base 1 "unturned" (spUnturned K) []) (d : Dd K mg "frames_of" s_frames_of P_frames_of) : C8.Cal P w K mg base 8 "frames_of" (spFramesN K) [] := by
  refine d.cal sc_frames_of (fun vs H Q E h => ?_) (fun f cdv A outer s H vs Q E hr h => ?_)
  · obtain ⟨v, wy, size, rfl, _⟩ := h
    rfl
  · obtain ⟨v, wy, size, rfl, hw, ok, hs, q⟩ := h
    have nd := sc_frames_of.nd
    obtain ⟨fa, sp, held, hF, hsp⟩ := F.of wy.k
    have A_count := S1_held held
    refine ⟨_, (pss_cons (ps_expr (C8.pe_c c_need_way hr (by decide) (by rfl) (pa_cons (pv 0) pa_nil)))
  (pss_cons (ps_asg (C8.pe_c c_unturned hr (by decide) (by rfl) (pa_cons (pv 0) pa_nil)) (pg_tup rfl (pgs_cons (pg_name (i := 2) nd rfl (Or.inl rfl)) (pgs_cons (pg_name (i := 3) nd rfl (Or.inl rfl)) pgs_nil))))
  (pss_cons (ps_set (i := 4) nd rfl (Or.inl rfl) (pe_ix ix_kdict (C8.pe_gc rfl m_COUNTERS) (pe_ix ix_tup (pv 3) pe_int (fun _ _ => rfl)) (fun _ _ => rfl)))
  (pss_one (ps_ret (pe_callA A_count hr (x := "count") (i := 4) rfl (by first | exact Or.inl rfl | exact Or.inr (Or.inl rfl) | exact Or.inr (Or.inr rfl)) (pa_cons (pv 3) (pa_cons (pv 1) pa_nil)))))))), ?_⟩
    refine i_start (σ' := [some v, some (.int (size : Int)), none, none, none]) rfl ?_
    walk_at "go"
    walk_at "r"
    refine ⟨v, wy, rfl, hw, ok, fun H1 s1 => ?_⟩
    have hw1 := hw.same s1
    obtain ⟨tas, p, hts, hw2, hk⟩ := hw1
    obtain ⟨xs, hx⟩ := hk.head
    have ltas : tas.length ≤ 3 := by
      have z := ok.few
      rw [← hts, List.length_map] at z
      exact z
    walk_at "r"
    refine ⟨v, tas, p, wy.k.name, _, rfl, hw2, hx, wy.k.name_ne, by omega, fun q1 l H2 _ _ s2 e1 el => ?_⟩
    have hx2 := stup s2 hx
    walk_at "r"
    refine i_kd hF ?_
    walk_at "r"
    refine i_callA S1_self ?_
    walk_at "r"
    refine hsp _ _ _ _ _ _ _ (hk.same s2) ok.kind ok.t3 ok.t16 ok.e0 ok.e1 hs (fun H3 s3 => ?_)
    rw [plain_count ok size]
    exact q _ ((s1.trans s2).trans s3)
end
end Esc

namespace Esc
open PySem PySem.Spec PyProof.Rows L2
/-! ### lists or none, compared -/
def optD : Option (List Int) → PyData
  | none => .none
  | some l => intsD l
theorem OptAt.dp {K : PySem.W.Frag} {H : Hp} {v : V} : ∀ {o : Option (List Int)}, OptAt H v o → Dp K H v (optD o)
  | none, h => by
    have h : v = .non := h
    subst h
    exact .non
  | some l, h => by
    obtain ⟨a, rfl, h⟩ : ∃ a, v = V.ref a ∧ H a = some (HO.lst (l.map V.int)) := h
    exact dp_ints (sl_of h)
theorem shaped_opt : ∀ o : Option (List Int), SeqAt.shaped (optD o) = true
  | none => by decide +kernel
  | some l => shaped_ints l
theorem eqv_opt : ∀ o u : Option (List Int), PyData.eqv (optD o) (optD u) = decide (o = u)
  | none, none => by decide +kernel
  | none, some l => by
    rw [decide_eq_false (by intro h; cases h)]
    unfold optD intsD
    simp [PyData.eqv]
  | some l, none => by
    rw [decide_eq_false (by intro h; cases h)]
    unfold optD intsD
    simp [PyData.eqv]
  | some l, some m => by
    show PyData.eqv (intsD l) (intsD m) = _
    rw [eqv_ints]
    by_cases c : l = m
    · rw [decide_eq_true c, decide_eq_true (congrArg some c)]
    · rw [decide_eq_false c, decide_eq_false fun z => c (Option.some.inj z)]
theorem i_neO {K : PySem.W.Frag} {H : Hp} {Q : VK} {u v : V} {o p : Option (List Int)} (h : OptAt H u o) (h' : OptAt H v p) (q : Q (.bl (!decide (o = p))) H) : rNeD K u v H Q :=
  ⟨_, _, h.dp, h'.dp, shaped_opt o, shaped_opt p, by rw [eqv_opt]; exact q⟩
theorem i_neI {K : PySem.W.Frag} {H : Hp} {Q : VK} {a b : Int} (q : Q (.bl (!decide (a = b))) H) : rNeD K (.int a) (.int b) H Q :=
  ⟨_, _, .int a, .int b, by simp [SeqAt.shaped, PyData.canLay0, PyData.depth], by simp [SeqAt.shaped, PyData.canLay0, PyData.depth], by
    have e : PyData.eqv (.int a) (.int b) = decide (a = b) := by
      simp only [PyData.eqv]
      rfl
    rw [e]
    exact q⟩
theorem tellO_opt {H : Hp} {o : Option (List Int)} {Q : VK} (q : ∀ v H', Same H H' → OptAt H' v o → Q v H') : TellO H o Q :=
  ⟨fun b e p H' hp s h => q _ _ s (by subst e; exact ⟨p, rfl, h⟩), fun e H' s => q _ _ s (by subst e; exact rfl)⟩
/-! ### the telling lists -/
def oneToo (t e l : Int) : List Int := [(plainL t e).getD (l - 1).toNat 0] ++ List.replicate (l - 1).toNat ((plainL t e).getD 0 0) ++ [(plainL t e).getD 0 0, e]
def moreL (t e : Int) : Kind → List (List Int)
  | .counts l => [oneToo t e l]
  | _ => []
def oneSigns (wy : Way) (n : Nat) : List (List Int) := (List.range n).map fun (i : Nat) => frameW wy [(i : Int)]
def tellL (wy : Way) : List (List Int) := ([frameW wy []] ++ oneSigns wy wy.t.toNat) ++ moreL wy.t wy.e wy.k
theorem oneSigns_succ (wy : Way) (n : Nat) : oneSigns wy (n + 1) = oneSigns wy n ++ [frameW wy [(n : Int)]] := by
  unfold oneSigns
  rw [List.range_succ, List.map_append]
  rfl
theorem getD_plain {t e : Int} {n : Nat} (h : n < (plainL t e).length) : (plainL t e).getD n 0 ∈ plainL t e := by
  rw [List.getD_eq_getElem?_getD, List.getElem?_eq_getElem h]
  exact List.getElem_mem h
theorem tellL_in {wy : Way} (ok : wy.Ok) : ∀ l ∈ tellL wy, (∀ x ∈ l, 0 ≤ x ∧ x < wy.t) ∧ l.length ≤ 60 := fun l hl => by
  have t3 := ok.t3
  have t16 := ok.t16
  have np := plain_len ok.e0 ok.e1
  have fr : ∀ b : List Int, (∀ x ∈ b, 0 ≤ x ∧ x < wy.t) → b.length ≤ 1 → (∀ x ∈ frameW wy b, 0 ≤ x ∧ x < wy.t) ∧ (frameW wy b).length ≤ 60 := fun b hb lb => ⟨frameW_in ok hb, by
    have := frameW_len ok hb
    omega⟩
  unfold tellL at hl
  rcases List.mem_append.mp hl with m | m
  · rcases List.mem_append.mp m with m | m
    · rw [List.mem_singleton.mp m]
      exact fr [] (fun x h => by cases h) (by decide)
    · obtain ⟨i, hi, rfl⟩ := List.mem_map.mp m
      have := List.mem_range.mp hi
      exact fr _ (fun x h => by rw [List.mem_singleton.mp h]; omega) (Nat.le_refl 1)
  · have kind := ok.kind
    generalize wy.k = k at m kind
    cases k with
    | counts l2 =>
      obtain ⟨k1, k2⟩ := kind
      rw [List.mem_singleton.mp m]
      have p0 := getD_plain (t := wy.t) (e := wy.e) (n := 0) (by omega)
      have pl := getD_plain (t := wy.t) (e := wy.e) (n := (l2 - 1).toNat) (by omega)
      have hp : ∀ x, x ∈ plainL wy.t wy.e → 0 ≤ x ∧ x < wy.t := fun x h => ⟨(plain_mem.mp h).1, (plain_mem.mp h).2.1⟩
      unfold oneToo
      refine ⟨fun x hx => ?_, by simp only [List.length_append, List.length_replicate, List.length_cons, List.length_nil]; omega⟩
      rcases List.mem_append.mp hx with h | h
      · rcases List.mem_append.mp h with h | h
        · rw [List.mem_singleton.mp h]
          exact hp _ pl
        · rw [(List.mem_replicate.mp h).2]
          exact hp _ p0
      · rcases List.mem_cons.mp h with rfl | h
        · exact hp _ p0
        · rw [List.mem_singleton.mp h]
          exact ⟨ok.e0, ok.e1⟩
    | codes cs => cases m
    | escapes mk prs => cases m
    | ranks => cases m
/-! ### in order -/
def leLL (x y : List Int) : Bool := leTL (0, (x.length : Int), x) (0, (y.length : Int), y)
theorem sort_lists {bs : List (Addr × Int × List Int)} (h : ∀ b ∈ bs, b.2.1 = (b.2.2.length : Int)) : (bs.mergeSort leTL).map (fun b => b.2.2) = (bs.map fun b => b.2.2).mergeSort leLL := List.map_mergeSort fun a ha b hb => by
  unfold leLL leTL PySem.W.dataLe PySem.W.sortLe
  have e : ∀ c ∈ bs, enTL (0, (c.2.2.length : Int), c.2.2) = enTL c := fun c hc => by
    unfold enTL
    rw [h c hc]
  simp only [e a ha, e b hb]
def partW (w1 w2 : Way) : Option (List Int) := ((tellL w1 ++ tellL w2).mergeSort leLL).find? fun l => !decide (readW w1 l = readW w2 l)
end Esc

namespace Esc
open PySem PySem.Spec PyProof.Rows L2
theorem lsts_hid {S : List Addr} {H : Hp} : ∀ {as : List Addr} {cs : List (List Int)}, (∀ a ∈ as, a ∉ S) → LstsAt H as cs → LstsAt (hid S H) as cs
  | [], [], _, _ => trivial
  | _ :: _, _ :: _, n, ⟨h, r⟩ => ⟨hid_at (n _ List.mem_cons_self) h, lsts_hid (fun a m => n a (List.mem_cons_of_mem _ m)) r⟩
section
variable {P : Program} {w : World} {K : PySem.W.Frag} {mg : Str → Option Value} {base : Heap}
def spOneToo (K : PySem.W.Frag) : Sp := fun vs H Q _ => ∃ (p : Addr) (t e l : Int), vs = [.ref p] ∧ SqT K H p [.str "counts", .int t, .int e, .int l] ∧ 2 ≤ l ∧ l < t ∧ t ≤ 16 ∧ 0 ≤ e ∧ e < t ∧ ∀ q H', H q = none → Same H H' → H' q = some (.lst ((oneToo t e l).map V.int)) → Q (.ref q) H'
theorem c_one_too_many (c_plain_signs : C8.Cal P w K mg base 1 "plain_signs" spPlain []) (d : Dd K mg "one_too_many" s_one_too_many P_one_too_many) : C8.Cal P w K mg base 2 "one_too_many" (spOneToo K) [] := by
  refine d.cal sc_one_too_many (fun vs H Q E h => ?_) (fun f cdv A outer s H vs Q E hr h => ?_)
  · obtain ⟨p, t, e, l, rfl, _⟩ := h
    rfl
  · obtain ⟨p, t, e, l, rfl, hp, l2, lt, t16, e0, e1, q⟩ := h
    have nd := sc_one_too_many.nd
    have np := plain_len e0 e1
    refine ⟨_, (pss_cons (ps_asg (pv 0) (pg_tup rfl (pgs_cons (pg_name (i := 1) nd rfl (Or.inl rfl)) (pgs_cons (pg_name (i := 2) nd rfl (Or.inl rfl)) (pgs_cons (pg_name (i := 3) nd rfl (Or.inl rfl)) (pgs_cons (pg_name (i := 4) nd rfl (Or.inl rfl)) pgs_nil))))))
  (pss_cons (ps_set (i := 5) nd rfl (Or.inl rfl) (C8.pe_c c_plain_signs hr (by decide) (by rfl) (pa_cons (pv 2) (pa_cons (pv 3) pa_nil))))
  (pss_one (ps_ret (pe_op op_cat (pe_op op_cat (pe_lst (pa_cons (pe_ix ix_list (pv 5) (pe_op op_sub (pv 4) pe_int) (fun _ _ => rfl)) pa_nil)) (pe_op op_rep (pe_lst (pa_cons (pe_ix ix_list (pv 5) pe_int (fun _ _ => rfl)) pa_nil)) (pe_op op_sub (pv 4) pe_int))) (pe_lst (pa_cons (pe_ix ix_list (pv 5) pe_int (fun _ _ => rfl)) (pa_cons (pv 3) pa_nil)))))))), ?_⟩
    refine i_start (σ' := [some (.ref p), none, none, none, none, none]) rfl ?_
    walk_at "go"
    walk_at "r"
    refine ⟨t, e, rfl, by omega, by omega, fun pl H1 hpl s1 e1 => ?_⟩
    have get : ∀ n : Nat, n < (plainL t e).length → ((plainL t e).map V.int)[n]? = some (.int ((plainL t e).getD n 0)) := fun n hn => by
      rw [List.getElem?_map, List.getD_eq_getElem?_getD, List.getElem?_eq_getElem hn]
      rfl
    have g1 : atI ((plainL t e).map V.int) (l - 1) = some (.int ((plainL t e).getD (l - 1).toNat 0)) := by
      have z : ∀ (k : Nat) (v : V), l - 1 = (k : Int) → ((plainL t e).map V.int)[k]? = some v → atI ((plainL t e).map V.int) (l - 1) = some v := fun k v z1 z2 => by
        rw [z1]
        exact atI_nat z2
      exact z _ _ (by omega) (get _ (by omega))
    have g0 : atI ((plainL t e).map V.int) 0 = some (.int ((plainL t e).getD 0 0)) := atI_nat (j := 0) (get 0 (by omega))
    walk_at "r"
    refine i_lst (by show 1 ≤ sizeLine; decide) (fun p2 H2 hp2 s2 e2 => ?_)
    have e12 := s2 _ _ e1
    have hp2' := stup (s1.trans s2) hp
    walk_at "r"
    refine i_lst (by show 1 ≤ sizeLine; decide) (fun p3 H3 hp3 s3 e3 => ?_)
    have e13 := s3 _ _ e12
    walk_at "r"
    refine i_rep1 e3 ⟨by omega, by omega⟩ (fun p4 H4 hp4 s4 e4 => ?_)
    have e24 := s4 _ _ (s3 _ _ e2)
    have e14 := s4 _ _ e13
    have e24' : H4 p2 = some (.lst ([(plainL t e).getD (l - 1).toNat 0].map V.int)) := e24
    walk_at "r"
    refine i_cat e24' e4 (sz (by rw [List.length_map, List.length_map, List.length_replicate, List.length_singleton]; omega)) (fun p5 H5 hp5 s5 e5 => ?_)
    have e15 := s5 _ _ e14
    rw [← List.map_append] at e5
    walk_at "r"
    refine i_lst (by show 2 ≤ sizeLine; decide) (fun p6 H6 hp6 s6 e6 => ?_)
    have e56 := s6 _ _ e5
    have e6' : H6 p6 = some (.lst ([(plainL t e).getD 0 0, e].map V.int)) := e6
    walk_at "r"
    refine i_cat e56 e6' (sz (by simp only [List.length_map, List.length_append, List.length_replicate, List.length_cons, List.length_nil]; omega)) (fun p7 H7 hp7 s7 e7 => ?_)
    rw [← List.map_append] at e7
    have s16 := ((((s1.trans s2).trans s3).trans s4).trans s5).trans s6
    exact q p7 H7 (s16.free hp7) (s16.trans s7) e7
def spTelling (K : PySem.W.Frag) : Sp := fun vs H Q _ => ∃ (v : V) (wy : Way), vs = [v] ∧ WayAt K H v wy ∧ wy.Ok ∧ ∀ q as H', H q = none → Same H H' → H' q = some (.lst (as.map V.ref)) → LstsAt H' as (tellL wy) → Q (.ref q) H'
theorem c_telling_lists (Z : Blt mg) (c_unturned : C8.Cal P w K mg base 1 "unturned" (spUnturned K) []) (c_frame_of : C8.Cal P w K mg base 3 "frame_of" (spFrameW K) []) (c_top_of : C8.Cal P w K mg base 2 "top_of" (spTopOf K) []) (c_one_too_many : C8.Cal P w K mg base 2 "one_too_many" (spOneToo K) [])
    (d : Dd K mg "telling_lists" s_telling_lists P_telling_lists) : C8.Cal P w K mg base 4 "telling_lists" (spTelling K) [] := by
  refine d.cal sc_telling_lists (fun vs H Q E h => ?_) (fun f cdv A outer s H vs Q E hr h => ?_)
  · obtain ⟨v, wy, rfl, _⟩ := h
    rfl
  · obtain ⟨v, wy, rfl, hw, ok, q⟩ := h
    have nd := sc_telling_lists.nd
    have t3 := ok.t3
    have t16 := ok.t16
    obtain ⟨tas, p, hts, hwt, hk⟩ := id hw
    obtain ⟨xs, hx⟩ := hk.head
    have ltas : tas.length ≤ 3 := by
      have z := ok.few
      rw [← hts, List.length_map] at z
      exact z
    refine ⟨_, (pss_cons (ps_asg (C8.pe_c c_unturned hr (by decide) (by rfl) (pa_cons (pv 0) pa_nil)) (pg_tup rfl (pgs_cons (pg_name (i := 1) nd rfl (Or.inl rfl)) (pgs_cons (pg_name (i := 2) nd rfl (Or.inl rfl)) pgs_nil))))
  (pss_cons (ps_set (i := 3) nd rfl (Or.inl rfl) (pe_op op_cat (pe_lst (pa_cons (C8.pe_c c_frame_of hr (by decide) (by rfl) (pa_cons (pv 0) (pa_cons (pe_lst pa_nil) pa_nil))) pa_nil)) (pe_lc (own := [("sign", 4)]) (g := gName 4) (tt := tYes) rfl nd (pi_range1 rfl Z.range_ (pa_cons (C8.pe_c c_top_of hr (by decide) (by rfl) (pa_cons (pv 0) pa_nil)) pa_nil)) (blkOk_by (N := N_telling_lists) (sc := C8.fnScope s_telling_lists) (own := [("sign", 4)]) (by decide +kernel)) (fun _ _ _ _ _ => (pg_name (i := 4) nd rfl (Or.inl rfl))) (fun _ _ _ _ _ => pts_nil) (fun _ _ _ _ _ => (C8.pe_c c_frame_of hr (by decide) (by rfl) (pa_cons (pv 0) (pa_cons (pe_lst (pa_cons (pv 4) pa_nil)) pa_nil)))))))
  (C8.pss_cut (ps_if (pt_cmpR op_eq (pe_ix ix_tup (pv 2) pe_int (fun _ _ => rfl)) pe_str (nomark _)) (pss_one (ps_expr (pe_bm PySem.F.plainAttrs_list PySem.F.slot_list_append PySem.F.type_list_append mt_append (pv 3) (pa_cons (C8.pe_c c_one_too_many hr (by decide) (by rfl) (pa_cons (pv 2) pa_nil)) pa_nil)))) pss_nil)
  (pss_one (ps_ret (pv 3)))))), ?_⟩
    refine i_start (σ' := [some v, none, none, none, none]) rfl ?_
    walk_at "go"
    walk_at "r"
    refine ⟨v, tas, p, wy.k.name, _, rfl, hwt, hx, wy.k.name_ne, by omega, fun q1 l0 H1 _ _ s1 e1 el => ?_⟩
    walk_at "r"
    refine i_lst (Nat.zero_le _) (fun b0 H2 hb0 s2 e2 => ?_)
    have s02 := s1.trans s2
    walk_at "r"
    refine ⟨v, b0, wy, [], rfl, hw.same s02, ok, sl_of e2, (fun x m => by cases m), by decide, fun f0 H3 hf0 s3 e3 => ?_⟩
    have s03 := s02.trans s3
    walk_at "r"
    refine i_lst (by show 1 ≤ sizeLine; decide) (fun L0 H4 hL0 s4 e4 => ?_)
    have s04 := s03.trans s4
    have e34 := s4 _ _ e3
    walk_at "r"
    refine ⟨v, wy, rfl, hw.same s04, ok, fun H5 s5 => ?_⟩
    have s05 := s04.trans s5
    have e35 := s5 _ _ e34
    have e45 := s5 _ _ e4
    walk_at "r"
    refine i_lcRI (fun D j acc H' => ∃ as : List Addr, acc = as.map V.ref ∧ as.length = j ∧ Same H5 H' ∧ H' D = some (.lst acc) ∧ LstsAt (hid [D] H') as (oneSigns wy j)) ⟨by omega, by omega⟩
      (fun D hD => ⟨[], rfl, rfl, same_new hD, upd_same, trivial⟩) (fun D j acc H' hD hj hl pv => ?_) (fun D acc H6 hD pv => ?_)
    · obtain ⟨as, rfl, la, s6, eD, hla⟩ := pv
      walk_at "r"
      refine i_lst (by show 1 ≤ sizeLine; decide) (fun b7 H7 hb7 s7 e7 => ?_)
      have e7' : H7 b7 = some (.lst ([(j : Int)].map V.int)) := e7
      walk_at "r"
      refine ⟨v, b7, wy, [(j : Int)], rfl, hw.same ((s05.trans s6).trans s7), ok, sl_of e7', (fun x m => by rw [List.mem_singleton.mp m]; exact ⟨by omega, hj⟩), by show 1 ≤ 200; decide, fun f8 H8 hf8 s8 e8 => ?_⟩
      have s68 := s7.trans s8
      have nf : f8 ≠ D := (ne_of_none (s7 _ _ eD) hf8).symm
      refine kY_of (s68 _ _ eD) hl (by omega) ⟨as ++ [f8], by rw [List.map_append]; rfl, by rw [List.length_append, la]; rfl, smut (s6.trans s68) hD, upd_same, ?_⟩
      rw [oneSigns_succ]
      exact LstsAt.app (hla.same (hid_tr (hid_pure s68) (hid_up (hid_put List.mem_cons_self)))) ⟨hid_at (by simpa using nf) ((upd_ne nf).trans e8), trivial⟩
    · obtain ⟨as, rfl, la, s6, eD, hla⟩ := pv
      have hla6 := hla.same hid_same
      have e36 := s6 _ _ e35
      have e46 := s6 _ _ e45
      walk_at "r"
      refine i_cat e46 eD (sz (by rw [List.length_map, List.length_singleton]; omega)) (fun L H7 hL s7 eL => ?_)
      have e37 := s7 _ _ e36
      have s07 := (s05.trans s6).trans s7
      have hL0' : H L = none := (s05.trans s6).free hL
      have eL' : H7 L = some (.lst ((f0 :: as).map V.ref)) := eL
      have nf0 : f0 ≠ L := ne_of_none e36 hL
      have hla7 : LstsAt (hid [L] H7) (f0 :: as) ([frameW wy []] ++ oneSigns wy wy.t.toNat) := by
        have z : LstsAt H7 (f0 :: as) ([frameW wy []] ++ oneSigns wy wy.t.toNat) := ⟨e37, hla6.same s7⟩
        have nw := LstsAt.new (H := H6) (as := f0 :: as) (cs := [frameW wy []] ++ oneSigns wy wy.t.toNat) ⟨e36, hla6⟩ hL
        exact lsts_hid (fun a m q => nw (by rw [List.mem_singleton] at q; rw [← q]; exact m)) z
      have lLa : (f0 :: as).length ≤ 20 := by rw [List.length_cons]; omega
      generalize f0 :: as = al at eL' hla7 lLa
      have hk7 := hk.same s07
      have hx7 := stup s07 hx
      walk_at "r"
      refine i_cut (fun σ' H' => ∃ al : List Addr, σ' = [some v, some (.ref l0), some (.ref p), some (.ref L), none] ∧ Same H H' ∧ H' L = some (.lst (al.map V.ref)) ∧ LstsAt H' al (tellL wy)) ?_ (fun σ' H' pv => ?_)
      · cases hkk : wy.k with
        | counts l =>
          rw [hkk] at hk7
          have hk7 : SqT K H7 p [.str "counts", .int wy.t, .int wy.e, .int l] := hk7
          have kind := ok.kind
          rw [hkk] at kind
          walk_at "r"
          refine i_yes rfl ?_
          walk_at "r"
          refine ⟨p, wy.t, wy.e, l, rfl, hk7, kind.1, kind.2, t16, ok.e0, ok.e1, fun o8 H8 ho8 s8 e8 => ?_⟩
          have eL8 := s8 _ _ eL'
          have no : o8 ≠ L := (ne_of_none eL' ho8).symm
          walk_at "r"
          refine ⟨al ++ [o8], rfl, smut (s07.trans s8) hL0', by rw [upd_same, List.map_append]; rfl, ?_⟩
          have z : LstsAt (hid [L] (upd H8 L (.lst (al.map V.ref ++ [.ref o8])))) (al ++ [o8]) (([frameW wy []] ++ oneSigns wy wy.t.toNat) ++ [oneToo wy.t wy.e l]) :=
            LstsAt.app (hla7.same (hid_tr (hid_pure s8) (hid_up (hid_put List.mem_cons_self)))) ⟨hid_at (by simpa using no) ((upd_ne no).trans e8), trivial⟩
          unfold tellL
          rw [hkk]
          exact z.same hid_same
        | codes cs =>
          rw [hkk] at hk7
          obtain ⟨c, as2, hk7, _⟩ := hk7
          walk_at "r"
          refine i_no (by decide +kernel) ?_
          walk_at "r"
          refine ⟨al, rfl, s07, eL', ?_⟩
          unfold tellL
          rw [hkk]
          exact (List.append_nil _).symm ▸ hla7.same hid_same
        | escapes m prs =>
          rw [hkk] at hk7
          obtain ⟨c, as2, hk7, _⟩ := hk7
          walk_at "r"
          refine i_no (by decide +kernel) ?_
          walk_at "r"
          refine ⟨al, rfl, s07, eL', ?_⟩
          unfold tellL
          rw [hkk]
          exact (List.append_nil _).symm ▸ hla7.same hid_same
        | ranks =>
          rw [hkk] at hk7
          have hk7 : SqT K H7 p [.str "ranks", .int wy.t, .int wy.e] := hk7
          walk_at "r"
          refine i_no (by decide +kernel) ?_
          walk_at "r"
          refine ⟨al, rfl, s07, eL', ?_⟩
          unfold tellL
          rw [hkk]
          exact (List.append_nil _).symm ▸ hla7.same hid_same
      · obtain ⟨al, rfl, s8, e8, hla8⟩ := pv
        walk_at "r"
        exact q L al H' hL0' s8 e8 hla8
end
end Esc

namespace Esc
open PySem PySem.Spec PyProof.Rows L2
/-- tuples (how many signs, the list), the lists as they stood at H0 -/
def TLs (H0 H : Hp) (bs : List (Addr × Int × List Int)) : Prop := ∀ b ∈ bs, ∃ l, H b.1 = some (.tup [.int b.2.1, .ref l]) ∧ H0 l = some (.lst (b.2.2.map V.int)) ∧ b.2.1 = (b.2.2.length : Int)
theorem TLs.same {H0 H H' : Hp} {bs : List (Addr × Int × List Int)} (s : Same H H') (h : TLs H0 H bs) : TLs H0 H' bs := fun b m => by
  obtain ⟨l, h1, h2, h3⟩ := h b m
  exact ⟨l, s _ _ h1, h2, h3⟩
theorem dp_TL {K : PySem.W.Frag} {H0 H : Hp} {bs : List (Addr × Int × List Int)} (s : Same H0 H) (h : TLs H0 H bs) : ∀ b ∈ bs, Dp K H (.ref b.1) (enTL b) := fun b m => by
  obtain ⟨l, h1, h2, h3⟩ := h b m
  exact .tup (st_of h1) (.cons (.int _) (.cons (dp_ints (sl_of (s _ _ h2))) .nil))
section
variable {P : Program} {w : World} {K : PySem.W.Frag} {mg : Str → Option Value} {base : Heap}
def spInOrder (K : PySem.W.Frag) : Sp := fun vs H Q _ => ∃ (a : Addr) (as : List Addr) (bl : List (List Int)), vs = [.ref a] ∧ SqL K H a (as.map V.ref) ∧ LstsAt H as bl ∧ bl.length ≤ 1000 ∧
  ∀ q as' H', H q = none → Same H H' → H' q = some (.lst (as'.map V.ref)) → LstsAt H' as' (bl.mergeSort leLL) → Q (.ref q) H'
theorem c_in_order (Z : Blt mg) (d : Dd K mg "in_order" s_in_order P_in_order) : C8.Cal P w K mg base 1 "in_order" (spInOrder K) [] := by
  refine d.cal sc_in_order (fun vs H Q E h => ?_) (fun f cdv A outer s H vs Q E hr h => ?_)
  · obtain ⟨a, as, bl, rfl, _⟩ := h
    rfl
  · obtain ⟨a, as, bl, rfl, ha, hla, lb, q⟩ := h
    have nd := sc_in_order.nd
    have las := hla.len
    refine ⟨_, (pss_cons (ps_set (i := 1) nd rfl (Or.inl rfl) (pe_callB (cr_sortedTL hr.units) (by rfl) Z.sorted_ (by decide +kernel) (pa_cons (pe_lc (own := [("signs", 2)]) (g := gName 2) (tt := tYes) rfl nd (pi_list (pv 0)) (blkOk_by (N := N_in_order) (sc := C8.fnScope s_in_order) (own := [("signs", 2)]) (by decide +kernel)) (fun _ _ _ _ _ => (pg_name (i := 2) nd rfl (Or.inl rfl))) (fun _ _ _ _ _ => pts_nil) (fun _ _ _ _ _ => (pe_tup (pa_cons (pe_callB (show CallR _ _ (rLen K) from k_len) (by rfl) Z.len_ (by decide +kernel) (pa_cons (pv 2) pa_nil)) (pa_cons (pv 2) pa_nil))))) pa_nil)))
  (pss_one (ps_ret (pe_lc (own := [("size", 4), ("row", 3)]) (g := gTup K 2 (gCons (gName 4) (gCons (gName 3) gNil))) (tt := tYes) rfl nd (pi_list (pv 1)) (blkOk_by (N := N_in_order) (sc := C8.fnScope s_in_order) (own := [("size", 4), ("row", 3)]) (by decide +kernel)) (fun _ _ _ _ _ => (pg_tup rfl (pgs_cons (pg_name (i := 4) nd rfl (Or.inl rfl)) (pgs_cons (pg_name (i := 3) nd rfl (Or.inl rfl)) pgs_nil)))) (fun _ _ _ _ _ => pts_nil) (fun _ _ _ _ _ => (pv 3)))))), ?_⟩
    refine i_start (σ' := [some (.ref a), none, none, none, none]) rfl ?_
    walk_at "go"
    walk_at "r"
    refine i_lcLI (fun D j acc H' => ∃ bs : List (Addr × Int × List Int), acc = bs.map (fun b => V.ref b.1) ∧ bs.map (fun b => b.2.2) = bl.take j ∧ TLs H (tp H') bs ∧ Same H H' ∧ H' D = some (.lst acc)) ha
      (fun D hD => ⟨[], rfl, by rw [List.take_zero]; rfl, fun b m => (by cases m), same_new hD, upd_same⟩) (fun D j acc H' hD pv => ?_) (fun D j x acc H' hD hx hl pv => ?_) (fun D acc H1 hD pv => ?_)
    · obtain ⟨bs, _, _, _, s1, _⟩ := pv
      exact s1.seq ha
    · obtain ⟨bs, rfl, hb, ht, s1, eD⟩ := pv
      rw [List.getElem?_map] at hx
      obtain ⟨l, hl2, rfl⟩ : ∃ l, as[j]? = some l ∧ x = .ref l := by
        cases e : as[j]? with
        | none =>
          rw [e] at hx
          cases hx
        | some l =>
          rw [e] at hx
          exact ⟨l, rfl, (Option.some.inj hx).symm⟩
      obtain ⟨c, hc, el⟩ := hla.get hl2
      have el1 := s1 _ _ el
      have jl := (List.getElem?_eq_some_iff.mp hc).1
      walk_at "r"
      refine i_tup (by show 2 ≤ sizeLine; decide) (fun T H2 hT s2 eT => ?_)
      have eD2 := s2 _ _ eD
      refine kY_of eD2 hl (by omega) ⟨bs ++ [(T, (c.length : Int), c)], by rw [List.map_append]; rfl, by rw [List.map_append, hb, take_succ' hc]; rfl, fun b m => ?_, smut (s1.trans s2) hD, upd_same⟩
      rcases List.mem_append.mp m with m | m
      · exact ((ht.same (tp_pure s2)).same (tp_put eD2)) b m
      · rw [List.mem_singleton.mp m]
        exact ⟨l, tp_put eD2 _ _ (tp_at eT), el, rfl⟩
    · obtain ⟨bs, rfl, hb, ht, s1, eD⟩ := pv
      rw [List.length_map, las, List.take_length] at hb
      have lbs : bs.length = bl.length := by rw [← hb, List.length_map]
      walk_at "r"
      refine ⟨D, bs, rfl, sl_of eD, dp_TL s1 (ht.same tp_same), fun S hS => ?_⟩
      have s2 : Same H1 (upd H1 S (.lst ((bs.mergeSort leTL).map fun b => V.ref b.1))) := same_new hS
      have eS : upd H1 S (.lst ((bs.mergeSort leTL).map fun b => V.ref b.1)) S = some (.lst ((bs.mergeSort leTL).map fun b => V.ref b.1)) := upd_same
      generalize upd H1 S (.lst ((bs.mergeSort leTL).map fun b => V.ref b.1)) = H2 at s2 eS
      have ht2 : TLs H H2 (bs.mergeSort leTL) := fun b m => (ht.same (tp_same.trans s2)) b ((perm_TL bs).mem_iff.mp m)
      have es : (bs.mergeSort leTL).map (fun b => b.2.2) = bl.mergeSort leLL := by
        rw [sort_lists (fun b m => by obtain ⟨_, _, _, z⟩ := ht b m; exact z), hb]
      have ln : (bs.mergeSort leTL).length ≤ 1000 := by rw [List.length_mergeSort]; omega
      generalize bs.mergeSort leTL = cs at eS ht2 es ln
      have s02 := s1.trans s2
      walk_at "r"
      refine i_lcLI (fun D j acc H' => ∃ as' : List Addr, acc = as'.map V.ref ∧ LstsAt H as' ((cs.take j).map fun b => b.2.2) ∧ Same H2 H' ∧ H' D = some (.lst acc)) (sl_of eS)
        (fun D hD => ⟨[], rfl, by rw [List.take_zero]; trivial, same_new hD, upd_same⟩) (fun D j acc H' hD pv => ?_) (fun D j x acc H' hD hx hl pv => ?_) (fun R acc H3 hR pv => ?_)
      · obtain ⟨_, _, _, s3, _⟩ := pv
        exact s3.seq (sl_of eS)
      · obtain ⟨as', rfl, hla', s3, eD⟩ := pv
        rw [List.getElem?_map] at hx
        obtain ⟨b, hb2, rfl⟩ : ∃ b, cs[j]? = some b ∧ x = .ref b.1 := by
          cases e : cs[j]? with
          | none =>
            rw [e] at hx
            cases hx
          | some b =>
            rw [e] at hx
            exact ⟨b, rfl, (Option.some.inj hx).symm⟩
        obtain ⟨l, h1, h2, h3⟩ := ht2 b (List.mem_of_getElem? hb2)
        have jl := (List.getElem?_eq_some_iff.mp hb2).1
        have h13 := st_of (K := K) (s3 _ _ h1)
        walk_at "r"
        refine kY_of eD hl (by omega) ⟨as' ++ [l], by rw [List.map_append]; rfl, ?_, smut s3 hD, upd_same⟩
        rw [take_succ' hb2, List.map_append]
        exact LstsAt.app hla' ⟨h2, trivial⟩
      · obtain ⟨as', rfl, hla', s3, eR⟩ := pv
        rw [List.length_map, List.take_length, es] at hla'
        exact q R as' H3 (s02.free hR) (s02.trans s3) eR (hla'.same (s02.trans s3))
/-- what the reading of two ways tells apart -/
def spParted (K : PySem.W.Frag) : Sp := fun vs H Q _ => ∃ (v1 v2 : V) (w1 w2 : Way), vs = [v1, v2] ∧ WayAt K H v1 w1 ∧ WayAt K H v2 w2 ∧ w1.Ok ∧ w2.Ok ∧ w1.t = w2.t ∧ ∀ v H', Same H H' → OptAt H' v (partW w1 w2) → Q v H'
theorem find_step {α : Type} {f : α → Bool} {l : List α} {i : Nat} {x : α} (h : l[i]? = some x) (n : (l.take i).find? f = none) : (l.take (i + 1)).find? f = if f x = true then some x else none := by
  rw [take_succ' h, List.find?_append, n, Option.none_or]
  by_cases c : f x = true
  · rw [if_pos c]
    simp [List.find?, c]
  · rw [if_neg c]
    have c : f x = false := by simpa using c
    simp [List.find?, c]
theorem find_first {α : Type} {f : α → Bool} {l : List α} {i : Nat} {x : α} (h : (l.take (i + 1)).find? f = some x) : l.find? f = some x := by
  rw [← List.take_append_drop (i + 1) l, List.find?_append, h]
  rfl
theorem c_parted (Z : Blt mg) (c_need_way : C8.Cal P w K mg base 7 "need_way" (spNeedW K) []) (c_top_of : C8.Cal P w K mg base 2 "top_of" (spTopOf K) []) (c_in_order : C8.Cal P w K mg base 1 "in_order" (spInOrder K) []) (c_telling_lists : C8.Cal P w K mg base 4 "telling_lists" (spTelling K) [])
    (c_taken_out : C8.Cal P w K mg base 4 "taken_out" (spTakenR K) []) (d : Dd K mg "parted" s_parted P_parted) : C8.Cal P w K mg base 8 "parted" (spParted K) [] := by
  refine d.cal sc_parted (fun vs H Q E h => ?_) (fun f cdv A outer s H vs Q E hr h => ?_)
  · obtain ⟨v1, v2, w1, w2, rfl, _⟩ := h
    rfl
  · obtain ⟨v1, v2, w1, w2, rfl, hw1, hw2, ok1, ok2, et, q⟩ := h
    have nd := sc_parted.nd
    refine ⟨_, (pss_cons (ps_expr (C8.pe_c c_need_way hr (by decide) (by rfl) (pa_cons (pv 0) pa_nil)))
  (pss_cons (ps_expr (C8.pe_c c_need_way hr (by decide) (by rfl) (pa_cons (pv 1) pa_nil)))
  (pss_cons (ps_if (pt_cmpR (op_neD hr.units) (C8.pe_c c_top_of hr (by decide) (by rfl) (pa_cons (pv 0) pa_nil)) (C8.pe_c c_top_of hr (by decide) (by rfl) (pa_cons (pv 1) pa_nil)) (nomark _)) (pss_one ps_never) pss_nil)
  (pss_cons (ps_for PassesOwn.never rfl (pi_list (C8.pe_c c_in_order hr (by decide) (by rfl) (pa_cons (pe_op op_cat (C8.pe_c c_telling_lists hr (by decide) (by rfl) (pa_cons (pv 0) pa_nil)) (C8.pe_c c_telling_lists hr (by decide) (by rfl) (pa_cons (pv 1) pa_nil))) pa_nil))) (pg_name (i := 2) nd rfl (Or.inl rfl))
    (pss_one (ps_if (pt_cmpR (op_neD hr.units) (C8.pe_c c_taken_out hr (by decide) (by rfl) (pa_cons (pv 0) (pa_cons (pv 2) pa_nil))) (C8.pe_c c_taken_out hr (by decide) (by rfl) (pa_cons (pv 1) (pa_cons (pv 2) pa_nil))) (nomark _)) (pss_one (ps_ret (pv 2))) pss_nil)))
  (pss_one (ps_ret pe_non)))))), ?_⟩
    refine i_start (σ' := [some v1, some v2, none]) rfl ?_
    walk_at "go"
    walk_at "r"
    refine ⟨v1, w1, rfl, hw1, ok1, fun H1 s1 => ?_⟩
    walk_at "r"
    refine ⟨v2, w2, rfl, hw2.same s1, ok2, fun H2 s2 => ?_⟩
    have s02 := s1.trans s2
    walk_at "r"
    refine ⟨v1, w1, rfl, hw1.same s02, ok1, fun H3 s3 => ?_⟩
    have s03 := s02.trans s3
    walk_at "r"
    refine ⟨v2, w2, rfl, hw2.same s03, ok2, fun H4 s4 => ?_⟩
    have s04 := s03.trans s4
    walk_at "r"
    refine i_neI ?_
    walk_at "r"
    refine i_nyes et ?_
    walk_at "r"
    refine ⟨v1, w1, rfl, hw1.same s04, ok1, fun q5 as1 H5 hq5 s5 e5 hla1 => ?_⟩
    have s05 := s04.trans s5
    walk_at "r"
    refine ⟨v2, w2, rfl, hw2.same s05, ok2, fun q6 as2 H6 hq6 s6 e6 hla2 => ?_⟩
    have s06 := s05.trans s6
    have e56 := s6 _ _ e5
    have l1 := hla1.len
    have l2 := hla2.len
    have tl : ∀ wy : Way, wy.Ok → (tellL wy).length ≤ 18 := fun wy ok => by
      have := ok.t16
      have m1 : (moreL wy.t wy.e wy.k).length ≤ 1 := by
        generalize wy.k = k
        cases k <;> simp [moreL]
      unfold tellL oneSigns
      rw [List.length_append, List.length_append, List.length_map, List.length_range, List.length_singleton]
      omega
    have tl1 := tl w1 ok1
    have tl2 := tl w2 ok2
    walk_at "r"
    refine i_cat e56 e6 (sz (by rw [List.length_map, List.length_map]; omega)) (fun q7 H7 hq7 s7 e7 => ?_)
    rw [← List.map_append] at e7
    have s07 := s06.trans s7
    walk_at "r"
    refine ⟨q7, as1 ++ as2, tellL w1 ++ tellL w2, rfl, sl_of e7, LstsAt.app (hla1.same (s6.trans s7)) (hla2.same s7), by rw [List.length_append]; omega, fun q8 as H8 hq8 s8 e8 hla => ?_⟩
    have s08 := s07.trans s8
    have inn : ∀ l ∈ (tellL w1 ++ tellL w2).mergeSort leLL, (∀ x ∈ l, 0 ≤ x ∧ x < w1.t) ∧ l.length ≤ 60 := fun l m => by
      rcases List.mem_append.mp ((List.mergeSort_perm _ _).mem_iff.mp m) with m | m
      · exact tellL_in ok1 l m
      · have z := tellL_in ok2 l m
        rw [← et] at z
        exact z
    have las := hla.len
    have q' : ∀ v H', Same H H' → OptAt H' v (((tellL w1 ++ tellL w2).mergeSort leLL).find? fun l => !decide (readW w1 l = readW w2 l)) → Q v H' := q
    generalize (tellL w1 ++ tellL w2).mergeSort leLL = bl at hla inn las q'
    walk_at "r"
    refine i_for (sl_of e8) (fun i σ' H' => ∃ y, σ' = [some v1, some v2, y] ∧ Same H8 H' ∧ (bl.take i).find? (fun l => !decide (readW w1 l = readW w2 l)) = none) ⟨_, rfl, Same.refl _, by rw [List.take_zero]; rfl⟩ (fun i σ' H' _ ⟨_, _, s9, _⟩ => s9.seq (sl_of e8)) (fun i x σ' H' hi pv => ?_) (fun σ' H' pv => ?_)
    · obtain ⟨y, rfl, s9, hn⟩ := pv
      rw [List.getElem?_map] at hi
      obtain ⟨la, hla2, rfl⟩ : ∃ l, as[i]? = some l ∧ x = .ref l := by
        cases e : as[i]? with
        | none =>
          rw [e] at hi
          cases hi
        | some l =>
          rw [e] at hi
          exact ⟨l, rfl, (Option.some.inj hi).symm⟩
      obtain ⟨l, hl, el⟩ := hla.get hla2
      obtain ⟨in1, ln1⟩ := inn l (List.mem_of_getElem? hl)
      have el9 := s9 _ _ el
      have s09 := s08.trans s9
      walk_at "r"
      refine ⟨v1, la, w1, l, rfl, hw1.same s09, ok1, sl_of el9, in1, by omega, tellO_opt fun u1 H10 s10 o1 => ?_⟩
      have s010 := s09.trans s10
      walk_at "r"
      refine ⟨v2, la, w2, l, rfl, hw2.same s010, ok2, sl_of (s10 _ _ el9), by rw [← et]; exact in1, by omega, tellO_opt fun u2 H11 s11 o2 => ?_⟩
      have s011 := s010.trans s11
      have el11 := s11 _ _ (s10 _ _ el9)
      walk_at "r"
      refine i_neO (o1.same s11) o2 ?_
      walk_at "r"
      have st := find_step hl hn
      refine i_nbr (fun c => ?_) (fun c => ?_)
      · walk_at "r"
        rw [if_neg (by rw [decide_eq_true c]; exact Bool.false_ne_true)] at st
        exact ⟨_, rfl, (s9.trans s10).trans s11, st⟩
      · walk_at "r"
        rw [if_pos (by rw [decide_eq_false c]; rfl)] at st
        refine q' (.ref la) H11 s011 ?_
        rw [find_first st]
        exact ⟨la, rfl, el11⟩
    · obtain ⟨y, rfl, s9, hn⟩ := pv
      rw [List.length_map, las, List.take_length] at hn
      walk_at "r"
      refine q' .non H' (s08.trans s9) ?_
      rw [hn]
      exact rfl
end
end Esc

namespace Esc
open PySem PySem.Spec PyProof.Rows L2
/-- what stands for each sign by escapes -/
def escCs (t m : Int) (prs : List (Int × Int)) : List (List Int) := (countL t).map (escS m prs)
theorem TupsAt.set {K : PySem.W.Frag} {H : Hp} {a : Addr} {c : List Int} (h2 : H a = some (.tup (c.map V.int))) : ∀ {as : List Addr} {cs : List (List Int)} (i : Nat), TupsAt K H as cs → TupsAt K H (as.set i a) (cs.set i c)
  | [], [], _, h => h
  | _ :: _, _ :: _, 0, ⟨_, r⟩ => ⟨h2, r⟩
  | _ :: _, _ :: _, i + 1, ⟨h, r⟩ => ⟨h, TupsAt.set h2 i r⟩
theorem look_snoc (l : List (Int × Int)) (p : Int × Int) (x : Int) : look (l ++ [p]) x = (look l x).or (if p.1 = x then some p.2 else none) := by
  unfold look
  rw [List.find?_append]
  cases List.find? (fun c => decide (c.1 = x)) l with
  | some q => rfl
  | none =>
    by_cases c : p.1 = x
    · rw [if_pos c]
      simp [List.find?, c]
    · rw [if_neg c]
      simp [List.find?, c]
theorem look_no {l : List (Int × Int)} {x : Int} (h : ∀ c ∈ l, c.1 ≠ x) : look l x = none := by
  unfold look
  rw [List.find?_eq_none.mpr fun c m => by simpa using h c m]
  rfl
theorem escCs_step {t m : Int} {prs : List (Int × Int)} (pw : (prs.map (·.1)).Pairwise (· < ·)) {i : Nat} {p : Int × Int} (hi : prs[i]? = some p) (h0 : 0 ≤ p.1) (h1 : p.1 < t) : escCs t m (prs.take (i + 1)) = (escCs t m (prs.take i)).set p.1.toNat [m, p.2] := by
  have no : ∀ c ∈ prs.take i, c.1 ≠ p.1 := fun c hc e => by
    obtain ⟨j, hj, rfl⟩ := List.getElem_of_mem hc
    rw [List.length_take] at hj
    rw [List.getElem_take] at e
    obtain ⟨hi2, rfl⟩ := List.getElem?_eq_some_iff.mp hi
    have z := List.pairwise_iff_getElem.mp pw j i (by rw [List.length_map]; omega) (by rw [List.length_map]; omega) (by omega)
    rw [List.getElem_map, List.getElem_map] at z
    omega
  rw [take_succ' hi]
  refine List.ext_getElem? fun j => ?_
  rw [List.getElem?_set]
  unfold escCs countL
  rw [List.length_map, List.length_map, List.length_range]
  rw [List.getElem?_map, List.getElem?_map, List.getElem?_map, List.getElem?_map]
  by_cases hj : j < t.toNat
  · rw [List.getElem?_range hj, Option.map_some, Option.map_some, Option.map_some]
    by_cases c : p.1.toNat = j
    · rw [if_pos c, if_pos (by omega)]
      have e : p.1 = (j : Int) := by omega
      unfold escS
      rw [look_snoc, look_no (e ▸ no), if_pos e]
      rfl
    · rw [if_neg c]
      have e : ¬ p.1 = (j : Int) := by omega
      unfold escS
      rw [look_snoc, if_neg e, Option.or_none]
  · rw [List.getElem?_eq_none (by rw [List.length_range]; omega), Option.map_none, Option.map_none, Option.map_none]
    by_cases c : p.1.toNat = j
    · rw [if_pos c, if_neg (by omega)]
    · rw [if_neg c]
section
variable {P : Program} {w : World} {K : PySem.W.Frag} {mg : Str → Option Value} {base : Heap}
def spEscC (K : PySem.W.Frag) : Sp := fun vs H Q _ => ∃ (p : Addr) (t e m : Int) (prs : List (Int × Int)), vs = [.ref p] ∧ KindAt K H p t e (.escapes m prs) ∧ KindOk t e (.escapes m prs) ∧ 3 ≤ t ∧ t ≤ 16 ∧
  ∀ q as H', Same H H' → SqT K H' q (as.map V.ref) → TupsAt K H' as (escCs t m prs) → Q (.ref q) H'
theorem c__law_escape_codes (Z : Blt mg) (d : Dd K mg "_law_escape_codes" s__law_escape_codes P__law_escape_codes) : C8.Cal P w K mg base 1 "_law_escape_codes" (spEscC K) [] := by
  refine d.cal sc__law_escape_codes (fun vs H Q E h => ?_) (fun f cdv A outer s H vs Q E hr h => ?_)
  · obtain ⟨p, t, e, m, prs, rfl, _⟩ := h
    rfl
  · obtain ⟨p, t, e, m, prs, rfl, ⟨c, pas, hp, hc, hps⟩, hk, h3, h16, q⟩ := h
    obtain ⟨k1, k2, k3, k4, k5, k6, k7⟩ := hk
    have lps := hps.len
    have nd := sc__law_escape_codes.nd
    have lpr : prs.length ≤ 16 := by
      have nd1 : (prs.map (·.1)).Nodup := k2.imp fun {a b} h => Int.ne_of_lt h
      have z := pigeon (prs.map (·.1)) (countL t) nd1 (fun x hx => count_mem.mpr (k3 x hx))
      rw [count_len, List.length_map] at z
      omega
    refine ⟨_, (pss_cons (ps_setLc (i := 1) (own := [("_law_sign", 2)]) (g := gName 2) (tt := tYes) rfl nd rfl rfl (sw_true rfl rfl rfl (by decide +kernel)) (pi_range1 rfl Z.range_ (pa_cons (pe_ix ix_tup (pv 0) pe_int (fun _ _ => rfl)) pa_nil)) (blkOk_by (N := N__law_escape_codes) (sc := C8.fnScope s__law_escape_codes) (own := [("_law_sign", 2)]) (by decide +kernel)) (fun _ _ _ _ _ => (pg_name (i := 2) nd rfl (Or.inl rfl))) (fun _ _ _ _ _ => pts_nil) (fun _ _ _ _ _ => (pe_tup (pa_cons (pv 2) pa_nil))))
  (pss_cons (ps_for PassesOwn.never rfl (pi_tup (pe_ix ix_tup (pv 0) pe_int (fun _ _ => rfl))) (pg_tup rfl (pgs_cons (pg_name (i := 2) nd rfl (Or.inl rfl)) (pgs_cons (pg_name (i := 3) nd rfl (Or.inl rfl)) pgs_nil)))
    (pss_one (ps_asg (pe_tup (pa_cons (pe_ix ix_tup (pv 0) pe_int (fun _ _ => rfl)) (pa_cons (pv 3) pa_nil))) (pg_sub (pv 1) (pv 2) set_list))))
  (pss_one (ps_ret (pe_callTy k_tupOf (by rfl) Z.tuple_ (by decide +kernel) (pa_cons (pv 1) pa_nil)))))), ?_⟩
    refine i_start (σ' := [some (.ref p), none, none, none]) rfl ?_
    walk_at "go"
    walk_at "r"
    refine i_lcRI (fun D j acc H' => ∃ as : List Addr, acc = as.map V.ref ∧ TupsAt K (tp H') as (((countL t).take j).map fun s => [s]) ∧ Same H H' ∧ H' D = some (.lst acc)) ⟨by omega, by omega⟩
      (fun D hD => ⟨[], rfl, by rw [List.take_zero]; trivial, same_new hD, upd_same⟩) (fun D j acc H' hD hj hl pv => ?_) (fun lv acc H1 hlv pv => ?_)
    · obtain ⟨as, rfl, ht, s2, e2⟩ := pv
      walk_at "r"
      refine i_tup (by show 1 ≤ sizeLine; decide) (fun a H3 ha s3 e3 => ?_)
      have e4 := s3 _ _ e2
      have zz : (countL t)[j]? = some (j : Int) := by
        unfold countL
        rw [List.getElem?_map, List.getElem?_range (by omega)]
        rfl
      refine kY_of e4 hl (by omega) ⟨as ++ [a], by rw [List.map_append]; rfl, ?_, smut (s2.trans s3) hD, upd_same⟩
      rw [take_succ' zz, List.map_append]
      exact TupsAt.snoc ((ht.same (tp_pure s3)).same (tp_put e4)) (tp_put e4 _ _ (tp_at e3))
    · obtain ⟨as, rfl, ht, s1, e1⟩ := pv
      have lt : t.toNat = (countL t).length := count_len.symm
      rw [lt, List.take_length] at ht
      have ht0 : TupsAt K (tp H1) as (escCs t m (prs.take 0)) := ht
      have hp1 := stup s1 hp
      have hc1 := stup s1 hc
      walk_at "r"
      refine i_forT hc1 (fun i σ' H' => ∃ y z as, σ' = [some (.ref p), some (.ref lv), y, z] ∧ Same H H' ∧ H' lv = some (.lst (as.map V.ref)) ∧ TupsAt K (tp H') as (escCs t m (prs.take i))) ⟨none, none, as, rfl, s1, e1, ht0⟩ (fun i σ' H' _ ⟨_, _, _, _, s2, _⟩ => stup s2 hc) (fun i x σ' H2 hi pv => ?_) (fun σ' H2 pv => ?_)
      · obtain ⟨y, z, as, rfl, s2, e2, ht⟩ := pv
        rw [List.getElem?_map] at hi
        obtain ⟨pa, ha, rfl⟩ : ∃ a, pas[i]? = some a ∧ x = .ref a := by
          cases e : pas[i]? with
          | none =>
            rw [e] at hi
            cases hi
          | some a =>
            rw [e] at hi
            exact ⟨a, rfl, (Option.some.inj hi).symm⟩
        obtain ⟨pr, hpr, epr⟩ := hps.get ha
        have epr2 := stup s2 epr
        have hp2 := stup s2 hp
        have h12 := k3 pr.1 (List.mem_map.mpr ⟨pr, List.mem_of_getElem? hpr, rfl⟩)
        have las := ht.len
        unfold escCs at las
        rw [List.length_map, count_len] at las
        walk_at "r"
        refine i_tup (by show 2 ≤ sizeLine; decide) (fun a H3 ha s3 e3 => ?_)
        have e23 := s3 _ _ e2
        walk_at "r"
        refine i_setL (j := pr.1.toNat) e23 (ixN_of (by omega) (by rw [List.length_map]; omega)) ?_
        refine ⟨_, _, as.set pr.1.toNat a, rfl, smut (s2.trans s3) hlv, ?_, ?_⟩
        · rw [upd_same, List.map_set]
        · rw [escCs_step k2 hpr h12.1 h12.2]
          exact TupsAt.set (tp_put e23 _ _ (tp_at e3)) _ ((ht.same (tp_pure s3)).same (tp_put e23))
      · obtain ⟨y, z, as, rfl, s2, e2, ht⟩ := pv
        rw [List.length_map, lps, List.take_length] at ht
        walk_at "r"
        refine i_tupOf (sl_of e2) (fun q3 H3 hq3 s3 e3 => ?_)
        exact q q3 as H3 (s2.trans s3) (st_of e3) ((ht.same tp_same).same s3)
end
end Esc

namespace Esc
open PySem PySem.Spec PyProof.Rows L2
/-- two ways that frame alike -/
structure AlikeW (w1 w2 : Way) : Prop where
  t : w1.t = w2.t
  e : w1.e = w2.e
  fr : ∀ b : List Int, (∀ x ∈ b, 0 ≤ x ∧ x < w1.t) → frameW w1 b = frameW w2 b
theorem AlikeW.refl (w : Way) : AlikeW w w := ⟨rfl, rfl, fun _ _ => rfl⟩
theorem AlikeW.symm {w1 w2 : Way} (a : AlikeW w1 w2) : AlikeW w2 w1 := ⟨a.t.symm, a.e.symm, fun b h => (a.fr b (by rw [a.t]; exact h)).symm⟩
theorem AlikeW.trans {w1 w2 w3 : Way} (a : AlikeW w1 w2) (b : AlikeW w2 w3) : AlikeW w1 w3 := ⟨a.t.trans b.t, a.e.trans b.e, fun c h => (a.fr c h).trans (b.fr c (by rw [← a.t]; exact h))⟩
theorem read_alike {w1 w2 : Way} (a : AlikeW w1 w2) (o1 : w1.Ok) (o2 : w2.Ok) {ns : List Int} (hn : ∀ x ∈ ns, 0 ≤ x ∧ x < w1.t) : readW w1 ns = readW w2 ns := by
  have go : ∀ {u v : Way}, AlikeW u v → u.Ok → v.Ok → (∀ x ∈ ns, 0 ≤ x ∧ x < u.t) → ∀ b, readW u ns = some b → readW v ns = some b := fun {u v} a o1 o2 hn b h => by
    obtain ⟨f, hb, hl⟩ := readW_some o1 hn h
    rw [← f, a.fr b hb]
    exact readW_frame o2 (by rw [← a.t]; exact hb) hl
  cases h1 : readW w1 ns with
  | some b => exact (go a o1 o2 hn b h1).symm
  | none =>
    cases h2 : readW w2 ns with
    | none => rfl
    | some b =>
      have z := go a.symm o2 o1 (by rw [← a.t]; exact hn) b h2
      rw [h1] at z
      cases z
theorem part_alike {w1 w2 : Way} (a : AlikeW w1 w2) (o1 : w1.Ok) (o2 : w2.Ok) : partW w1 w2 = none := by
  unfold partW
  refine List.find?_eq_none.mpr fun l hl => ?_
  have m := (List.mergeSort_perm _ _).mem_iff.mp hl
  have inn : ∀ x ∈ l, 0 ≤ x ∧ x < w1.t := by
    rcases List.mem_append.mp m with m | m
    · exact (tellL_in o1 l m).1
    · rw [a.t]
      exact (tellL_in o2 l m).1
  rw [decide_eq_true (read_alike a o1 o2 inn)]
  exact Bool.false_ne_true
theorem worst_alike {w1 w2 : Way} (a : AlikeW w1 w2) (o1 : w1.Ok) (o2 : w2.Ok) (n : Nat) : worstR w1 n = worstR w2 n := by
  have go : ∀ {u v : Way}, AlikeW u v → u.Ok → v.Ok → worstR u n ≤ worstR v n := fun {u v} a o1 o2 => by
    obtain ⟨l1, i1, f1, _⟩ := worst_ok o1 n
    obtain ⟨_, _, _, m2⟩ := worst_ok o2 n
    rw [← f1, a.fr _ i1]
    exact m2 _ (by rw [← a.t]; exact i1) (by omega)
  exact Nat.le_antisymm (go a o1 o2) (go a.symm o2 o1)
theorem size_alike {w1 w2 : Way} (a : AlikeW w1 w2) (n : Nat) : ofSize w1 n = ofSize w2 n := by
  unfold ofSize
  rw [← a.t]
  refine List.filter_congr fun b hb => ?_
  rw [a.fr b (bodiesB_mem.mp hb).2]
/-! ### by escapes, told by codes -/
theorem look_memP {l : List (Int × Int)} {x c : Int} (h : look l x = some c) : (x, c) ∈ l := by
  unfold look at h
  cases e : l.find? fun c => decide (c.1 = x) with
  | none =>
    rw [e] at h
    cases h
  | some p =>
    rw [e] at h
    have e1 := List.mem_of_find?_eq_some e
    have e2 := List.find?_some e
    have e3 : p.1 = x := by simpa using e2
    cases h
    rw [← e3]
    exact e1
theorem look_has {l : List (Int × Int)} {x : Int} (h : x ∈ l.map (·.1)) : ∃ c, look l x = some c := by
  obtain ⟨p, hp, rfl⟩ := List.mem_map.mp h
  unfold look
  cases e : l.find? fun c => decide (c.1 = p.1) with
  | some q => exact ⟨q.2, rfl⟩
  | none => exact absurd (decide_eq_true rfl) (List.find?_eq_none.mp e p hp)
theorem count_get {t : Int} {j : Nat} (h : j < t.toNat) : (countL t)[j]? = some (j : Int) := by
  unfold countL
  rw [List.getElem?_map, List.getElem?_range h]
  rfl
theorem getD_count {α : Type} (f : Int → List α) {t x : Int} (h : 0 ≤ x ∧ x < t) : ((countL t).map f).getD x.toNat [] = f x := by
  rw [List.getD_eq_getElem?_getD, List.getElem?_map, count_get (by omega)]
  show f ((x.toNat : Nat) : Int) = f x
  rw [Int.toNat_of_nonneg h.1]
theorem kind_escaped {t e m : Int} {prs : List (Int × Int)} (h : KindOk t e (.escapes m prs)) : KindOk t e (.codes (escCs t m prs)) := by
  obtain ⟨k1, k2, k3, k4, k5, k6, k7⟩ := h
  have lk : ∀ {s c : Int}, look prs s = some c → Plain t e c := fun {s c} hl => k6 c (List.mem_map.mpr ⟨_, look_memP hl, rfl⟩)
  have uniq : ∀ {s s' c : Int}, look prs s = some c → look prs s' = some c → s = s' := fun {s s' c} h1 h2 => by
    have m1 := look_memP h1
    have m2 := look_memP h2
    obtain ⟨i, hi, e1⟩ := List.getElem_of_mem m1
    obtain ⟨j, hj, e2⟩ := List.getElem_of_mem m2
    have eij : i = j := by
      refine (List.getElem_inj (h₀ := by rw [List.length_map]; exact hi) (h₁ := by rw [List.length_map]; exact hj) k7).mp ?_
      rw [List.getElem_map, List.getElem_map, e1, e2]
    subst eij
    rw [e1] at e2
    exact congrArg Prod.fst e2
  have esc : ∀ s, (∃ c, look prs s = some c ∧ escS m prs s = [m, c]) ∨ (look prs s = none ∧ escS m prs s = [s]) := fun s => by
    unfold escS
    cases look prs s with
    | some c => exact .inl ⟨c, rfl, rfl⟩
    | none => exact .inr ⟨rfl, rfl⟩
  have mk : ∃ c, look prs m = some c := look_has k5
  have ek : ∃ c, look prs e = some c := look_has k4
  refine ⟨by unfold escCs; rw [List.length_map, count_len], fun c hc => ?_, ?_⟩
  · obtain ⟨s, hs, rfl⟩ := List.mem_map.mp hc
    have hs := count_mem.mp hs
    rcases esc s with ⟨c, h1, h2⟩ | ⟨h1, h2⟩
    · rw [h2]
      refine ⟨by show 1 ≤ 2; decide, by show 2 ≤ 4; decide, fun x hx => ?_⟩
      rcases List.mem_cons.mp hx with rfl | hx
      · exact k1
      · rw [List.mem_singleton.mp hx]
        exact lk h1
    · rw [h2]
      refine ⟨by show 1 ≤ 1; decide, by show 1 ≤ 4; decide, fun x hx => ?_⟩
      rw [List.mem_singleton.mp hx]
      refine ⟨hs.1, hs.2, fun z => ?_⟩
      obtain ⟨c, hc⟩ := ek
      rw [z, hc] at h1
      cases h1
  · unfold escCs
    refine List.pairwise_map.mpr ((count_nodup t).imp fun {a b} hab => ?_)
    have go : ∀ {a b : Int}, a ≠ b → ¬ escS m prs a <+: escS m prs b := fun {a b} hab hp => by
      rcases esc a with ⟨c, h1, h2⟩ | ⟨h1, h2⟩
      · rcases esc b with ⟨c', h1', h2'⟩ | ⟨h1', h2'⟩
        · rw [h2, h2'] at hp
          have := hp.eq_of_length rfl
          have ec : c = c' := (List.cons.inj (List.cons.inj this).2).1
          exact hab (uniq h1 (ec ▸ h1'))
        · rw [h2, h2'] at hp
          have := hp.length_le
          revert this
          show ¬ 2 ≤ 1
          decide
      · rcases esc b with ⟨c', h1', h2'⟩ | ⟨h1', h2'⟩
        · rw [h2, h2'] at hp
          obtain ⟨r, hr⟩ := hp
          have em : a = m := (List.cons.inj hr).1
          obtain ⟨c, hc⟩ := mk
          rw [em, hc] at h1
          cases h1
        · rw [h2, h2'] at hp
          have := hp.eq_of_length rfl
          exact hab (List.cons.inj this).1
    exact ⟨go hab, go (Ne.symm hab)⟩
theorem alike_escaped {ts : List (List Int)} {t e m : Int} {prs : List (Int × Int)} (hp : ∀ p ∈ ts, p.Perm (countL t)) : AlikeW ⟨ts, t, e, .escapes m prs⟩ ⟨ts, t, e, .codes (escCs t m prs)⟩ := ⟨rfl, rfl, fun b hb => by
  obtain ⟨tin, _⟩ := turnL_ok ts hp b hb
  unfold frameW
  show escB m prs (turnL ts b) ++ [e] = codesB (escCs t m prs) (turnL ts b) ++ [e]
  congr 1
  generalize turnL ts b = c at tin
  unfold escB codesB escCs
  induction c with
  | nil => rfl
  | cons x c ih =>
    rw [List.flatMap_cons, List.flatMap_cons, ih fun y m => tin y (List.mem_cons_of_mem _ m), getD_count _ (tin x List.mem_cons_self)]⟩
/-! ### exchanges folded -/
theorem turnS_comp {t : Int} {s p : List Int} (hs : s.Perm (countL t)) {body : List Int} (hb : ∀ x ∈ body, 0 ≤ x ∧ x < t) : turnS (turnS p s) body = turnS p (turnS s body) := by
  unfold turnS
  rw [List.map_map]
  refine List.map_congr_left fun x hx => ?_
  have zx := hb x hx
  have ls := hs.length_eq
  rw [count_len] at ls
  have h1 : x.toNat < s.length := by omega
  rw [List.getD_eq_getElem?_getD, List.getElem?_map, List.getElem?_eq_getElem h1]
  show p.getD (s[x.toNat]).toNat 0 = p.getD (s.getD x.toNat 0).toNat 0
  rw [List.getD_eq_getElem?_getD (l := s), List.getElem?_eq_getElem h1]
  rfl
theorem map_count {α : Type} {t : Int} {l : List α} (d : α) (h : l.length = t.toNat) : (countL t).map (fun s => l.getD s.toNat d) = l := by
  refine List.ext_getElem? fun j => ?_
  rw [List.getElem?_map]
  by_cases hj : j < t.toNat
  · rw [count_get hj, List.getElem?_eq_getElem (by omega)]
    show some (l.getD ((j : Int)).toNat d) = _
    rw [Int.toNat_natCast, List.getD_eq_getElem?_getD, List.getElem?_eq_getElem (by omega)]
    rfl
  · rw [List.getElem?_eq_none (by rw [count_len]; omega), List.getElem?_eq_none (by omega)]
    rfl
theorem turn_perm {t : Int} {s p : List Int} (hs : s.Perm (countL t)) (hp : p.Perm (countL t)) : (turnS p s).Perm (countL t) := by
  have lp := hp.length_eq
  rw [count_len] at lp
  have z : (turnS p s).Perm ((countL t).map fun x => p.getD x.toNat 0) := hs.map _
  rw [map_count 0 lp] at z
  exact z.trans hp
theorem alike_folded {s p : List Int} {ts : List (List Int)} {t e : Int} {k : Kind} (hs : s.Perm (countL t)) : AlikeW ⟨s :: p :: ts, t, e, k⟩ ⟨turnS p s :: ts, t, e, k⟩ := ⟨rfl, rfl, fun b hb => by
  unfold frameW
  show rowOf t e k (turnL ts (turnS p (turnS s b))) ++ [e] = rowOf t e k (turnL ts (turnS (turnS p s) b)) ++ [e]
  rw [turnS_comp hs hb]⟩
/-- the codes behind an exchange -/
def turnC (cs : List (List Int)) (s : List Int) : List (List Int) := s.map fun x => cs.getD x.toNat []
theorem kind_turnC {t e : Int} {cs : List (List Int)} {s : List Int} (hs : s.Perm (countL t)) (h : KindOk t e (.codes cs)) : KindOk t e (.codes (turnC cs s)) := by
  obtain ⟨h1, h2, h3⟩ := h
  have pm : (turnC cs s).Perm cs := by
    have z : (turnC cs s).Perm ((countL t).map fun x => cs.getD x.toNat []) := hs.map _
    rw [map_count [] h1] at z
    exact z
  exact ⟨by rw [pm.length_eq]; exact h1, fun c hc => h2 c (pm.mem_iff.mp hc), (pm.pairwise_iff fun {a b} z => ⟨z.2, z.1⟩).mpr h3⟩
theorem alike_codes {s : List Int} {t e : Int} {cs : List (List Int)} (hs : s.Perm (countL t)) : AlikeW ⟨[s], t, e, .codes cs⟩ ⟨[], t, e, .codes (turnC cs s)⟩ := ⟨rfl, rfl, fun b hb => by
  unfold frameW
  show codesB cs (turnS s b) ++ [e] = codesB (turnC cs s) b ++ [e]
  congr 1
  have ls := hs.length_eq
  rw [count_len] at ls
  unfold codesB turnS turnC
  induction b with
  | nil => rfl
  | cons x c ih =>
    rw [List.map_cons, List.flatMap_cons, List.flatMap_cons, ih fun y m => hb y (List.mem_cons_of_mem _ m)]
    congr 1
    have zx : 0 ≤ x ∧ x < t := hb x List.mem_cons_self
    have h1 : x.toNat < s.length := by omega
    rw [List.getD_eq_getElem?_getD (l := s), List.getElem?_eq_getElem h1, List.getD_eq_getElem?_getD (l := s.map _), List.getElem?_map, List.getElem?_eq_getElem h1]
    rfl⟩
/-- the exchange that changes nothing -/
theorem turn_id {t : Int} {body : List Int} (hb : ∀ x ∈ body, 0 ≤ x ∧ x < t) : turnS (countL t) body = body := by
  unfold turnS
  have z : ∀ x ∈ body, (countL t).getD x.toNat 0 = x := fun x hx => by
    have zx := hb x hx
    rw [List.getD_eq_getElem?_getD, count_get (by omega)]
    show ((x.toNat : Nat) : Int) = x
    omega
  rw [List.map_congr_left z, List.map_id'' (fun _ => rfl)]
theorem alike_id {ts : List (List Int)} {t e : Int} {k : Kind} : AlikeW ⟨ts, t, e, k⟩ ⟨countL t :: ts, t, e, k⟩ := ⟨rfl, rfl, fun b hb => by
  unfold frameW
  show rowOf t e k (turnL ts b) ++ [e] = rowOf t e k (turnL ts (turnS (countL t) b)) ++ [e]
  rw [turn_id hb]⟩
/-- the codes put where an exchange finds them -/
def backC (cs : List (List Int)) (s : List Int) (t : Int) : List (List Int) := (countL t).map fun x => cs.getD (s.idxOf x) []
theorem turn_backC {t : Int} {cs : List (List Int)} {s : List Int} (hs : s.Perm (countL t)) (hc : cs.length = t.toNat) : turnC (backC cs s t) s = cs := by
  have ls := hs.length_eq
  rw [count_len] at ls
  have ns : s.Nodup := hs.nodup_iff.mpr (count_nodup t)
  refine List.ext_getElem? fun j => ?_
  unfold turnC
  rw [List.getElem?_map]
  by_cases hj : j < t.toNat
  · have h1 : j < s.length := by omega
    have m := count_mem.mp (hs.subset (List.getElem_mem h1))
    rw [List.getElem?_eq_getElem h1, List.getElem?_eq_getElem (by omega)]
    show some ((backC cs s t).getD (s[j]).toNat []) = some cs[j]
    unfold backC
    rw [getD_count _ m, List.Nodup.idxOf_getElem ns, List.getD_eq_getElem?_getD, List.getElem?_eq_getElem (by omega)]
    rfl
  · rw [List.getElem?_eq_none (by omega), List.getElem?_eq_none (by omega)]
    rfl
theorem back_perm {t : Int} {cs : List (List Int)} {s : List Int} (hs : s.Perm (countL t)) (hc : cs.length = t.toNat) : (backC cs s t).Perm cs := by
  have z : (turnC (backC cs s t) s).Perm ((countL t).map fun x => (backC cs s t).getD x.toNat []) := hs.map _
  have lb : (backC cs s t).length = t.toNat := by unfold backC; rw [List.length_map, count_len]
  rw [map_count [] lb, turn_backC hs hc] at z
  exact z.symm
theorem kind_backC {t e : Int} {cs : List (List Int)} {s : List Int} (hs : s.Perm (countL t)) (h : KindOk t e (.codes cs)) : KindOk t e (.codes (backC cs s t)) := by
  obtain ⟨h1, h2, h3⟩ := h
  have pm := back_perm hs h1
  exact ⟨by rw [pm.length_eq]; exact h1, fun c hc => h2 c (pm.mem_iff.mp hc), (pm.pairwise_iff fun {a b} z => ⟨z.2, z.1⟩).mpr h3⟩
theorem alike_back {s : List Int} {t e : Int} {cs : List (List Int)} (hs : s.Perm (countL t)) (hc : cs.length = t.toNat) : AlikeW ⟨[], t, e, .codes cs⟩ ⟨[s], t, e, .codes (backC cs s t)⟩ := by
  have z := (alike_codes (e := e) (cs := backC cs s t) hs).symm
  rw [turn_backC hs hc] at z
  exact z
end Esc

namespace Esc
open PySem PySem.Spec PyProof.Rows L2
theorem cutTo3_ne (a b c d : V) (xs : List V) : ¬ (HT.sIx (a :: b :: c :: d :: xs).length 0 none = 0 ∧ HT.sIx (a :: b :: c :: d :: xs).length (a :: b :: c :: d :: xs).length (some 3) = (a :: b :: c :: d :: xs).length) := fun z => by
  have q := z.2
  rw [show (3 : Int) = ((3 : Nat) : Int) from rfl, HT.sIx_nat, List.length_cons, List.length_cons, List.length_cons, List.length_cons, Nat.min_eq_left (by omega)] at q
  omega
theorem tups_turn {K : PySem.W.Frag} {H : Hp} {as : List Addr} {cs : List (List Int)} (h : TupsAt K H as cs) : ∀ s : List Int, (∀ n ∈ s, n.toNat < as.length) → TupsAt K H (s.map fun n => as.getD n.toNat 0) (turnC cs s)
  | [], _ => trivial
  | n :: s, hs => by
    have hn := hs n List.mem_cons_self
    obtain ⟨c, h1, h2⟩ := h.getS (i := n.toNat) (a := as[n.toNat]) (by rw [List.getElem?_eq_getElem hn])
    refine ⟨?_, tups_turn h s fun x m => hs x (List.mem_cons_of_mem _ m)⟩
    show H (as.getD n.toNat 0) = some (.tup ((cs.getD n.toNat []).map V.int))
    rw [List.getD_eq_getElem?_getD, List.getElem?_eq_getElem hn, List.getD_eq_getElem?_getD, h1]
    exact h2
/-! ### ways as data -/
def codesD (t e : Int) (cs : List (List Int)) : PyData := .tuple [.str "codes", .int t, .int e, .tuple (cs.map intsT)]
def wayD : List (List Int) → PyData → PyData
  | [], d => d
  | s :: r, d => .tuple [.str "turned", intsT s, wayD r d]
theorem lay_tups : ∀ cs : List (List Int), PyData.canLayAll0 (cs.map intsT) = true
  | [] => by simp [PyData.canLayAll0]
  | c :: cs => by
    rw [List.map_cons, PyData.canLayAll0, lay_tups cs]
    simp [intsT, PyData.canLay0, lay_ints]
theorem depth_tups : ∀ cs : List (List Int), PyData.depthAll (cs.map intsT) ≤ 1
  | [] => by simp [PyData.depthAll]
  | c :: cs => by
    have ih := depth_tups cs
    rw [List.map_cons, PyData.depthAll]
    have z : (intsT c).depth ≤ 1 := by
      unfold intsT
      rw [PyData.depth, depth_ints]
      exact Nat.le_refl _
    omega
theorem lay_codes (t e : Int) (cs : List (List Int)) : (codesD t e cs).canLay0 = true := by
  unfold codesD
  simp [PyData.canLay0, PyData.canLayAll0, lay_tups]
  decide +kernel
theorem depth_codes (t e : Int) (cs : List (List Int)) : (codesD t e cs).depth ≤ 10 := by
  have z := depth_tups cs
  unfold codesD
  simp only [PyData.depth, PyData.depthAll]
  omega
theorem lay_way : ∀ (ts : List (List Int)) (d : PyData), d.canLay0 = true → (wayD ts d).canLay0 = true
  | [], _, h => h
  | s :: r, d, h => by
    have ih := lay_way r d h
    unfold wayD intsT
    simp [PyData.canLay0, PyData.canLayAll0, lay_ints, ih]
    decide +kernel
theorem depth_way : ∀ (ts : List (List Int)) (d : PyData), (wayD ts d).depth ≤ d.depth + 3 * ts.length
  | [], _ => Nat.le_refl _
  | s :: r, d => by
    have ih := depth_way r d
    unfold wayD intsT
    simp only [PyData.depth, PyData.depthAll, depth_ints, List.length_cons]
    omega
theorem dp_tups {K : PySem.W.Frag} {H : Hp} : ∀ {as : List Addr} {cs : List (List Int)}, TupsAt K H as cs → DpAll K H (as.map V.ref) (cs.map intsT)
  | [], [], _ => .nil
  | _ :: _, _ :: _, ⟨h, r⟩ => .cons (dp_intsT (st_of h)) (dp_tups r)
theorem dp_codes {K : PySem.W.Frag} {H : Hp} {p : Addr} {t e : Int} {cs : List (List Int)} (h : KindAt K H p t e (.codes cs)) : Dp K H (.ref p) (codesD t e cs) := by
  obtain ⟨c, as, h1, h2, h3⟩ := h
  exact .tup h1 (.cons (.str _) (.cons (.int _) (.cons (.int _) (.cons (.tup h2 (dp_tups h3)) .nil))))
theorem dp_way {K : PySem.W.Frag} {H : Hp} {u : V} {d : PyData} (hd : Dp K H u d) : ∀ {tas : List (Addr × List Int)} {v : V}, TurnAt K H tas v u → Dp K H v (wayD (tas.map (·.2)) d)
  | [], _, h => by
    cases h
    exact hd
  | (a, s) :: r, _, h => by
    obtain ⟨p, x, rfl, h1, h2, h3⟩ := h
    exact .tup h1 (.cons (.str _) (.cons (dp_intsT h2.st) (.cons (dp_way hd h3) .nil)))
theorem shaped_of {d : PyData} (h1 : d.canLay0 = true) (h2 : d.depth ≤ 64) : SeqAt.shaped d = true := by
  unfold SeqAt.shaped
  rw [h1, decide_eq_true h2]
  rfl
section
variable {P : Program} {w : World} {K : PySem.W.Frag} {mg : Str → Option Value} {base : Heap}
def spEscaped (K : PySem.W.Frag) : Sp := fun vs H Q _ => ∃ (p : Addr) (t e m : Int) (prs : List (Int × Int)), vs = [.ref p] ∧ KindAt K H p t e (.escapes m prs) ∧ KindOk t e (.escapes m prs) ∧ 3 ≤ t ∧ t ≤ 16 ∧
  ∀ q H', Same H H' → KindAt K H' q t e (.codes (escCs t m prs)) → Q (.ref q) H'
theorem c__law_escaped (c__law_escape_codes : C8.Cal P w K mg base 1 "_law_escape_codes" (spEscC K) []) (d : Dd K mg "_law_escaped" s__law_escaped P__law_escaped) : C8.Cal P w K mg base 2 "_law_escaped" (spEscaped K) [] := by
  refine d.cal sc__law_escaped (fun vs H Q E h => ?_) (fun f cdv A outer s H vs Q E hr h => ?_)
  · obtain ⟨p, t, e, m, prs, rfl, _⟩ := h
    rfl
  · obtain ⟨p, t, e, m, prs, rfl, hp, hk, h3, h16, q⟩ := h
    have nd := sc__law_escaped.nd
    have hp' := hp
    obtain ⟨c, pas, hp1, _⟩ := hp'
    refine ⟨_, (pss_one (ps_ret (pe_tup (pa_cons pe_str (pa_cons (pe_ix ix_tup (pv 0) pe_int (fun _ _ => rfl)) (pa_cons (pe_ix ix_tup (pv 0) pe_int (fun _ _ => rfl)) (pa_cons (C8.pe_c c__law_escape_codes hr (by decide) (by rfl) (pa_cons (pv 0) pa_nil)) pa_nil))))))), ?_⟩
    refine i_start (σ' := [some (.ref p)]) rfl ?_
    walk_at "go"
    walk_at "r"
    refine ⟨p, t, e, m, prs, rfl, hp, hk, h3, h16, fun c2 as H1 s1 e1 ht => ?_⟩
    walk_at "r"
    refine i_tup (by show 4 ≤ sizeLine; decide) (fun q2 H2 hq2 s2 e2 => ?_)
    exact q q2 H2 (s1.trans s2) ⟨c2, as, st_of e2, stup s2 e1, ht.same s2⟩
def spTurnsL (K : PySem.W.Frag) : Sp := fun vs H Q _ => ∃ (v : V) (ts : List (Addr × List Int)) (p : Addr) (k : Str) (xs : List V), vs = [v] ∧ TurnAt K H ts v (.ref p) ∧ SqT K H p (.str k :: xs) ∧ k ≠ "turned" ∧ ts.length ≤ 1000 ∧
  ∀ l H', H l = none → Same H H' → H' l = some (.lst (ts.map fun t => V.ref t.1)) → Q (.ref l) H'
theorem c__law_turns (d : Dd K mg "_law_turns" s__law_turns P__law_turns) : C8.Cal P w K mg base 1 "_law_turns" (spTurnsL K) [] := by
  refine d.cal sc__law_turns (fun vs H Q E h => ?_) (fun f cdv A outer s H vs Q E hr h => ?_)
  · obtain ⟨v, ts, p, k, xs, rfl, _⟩ := h
    rfl
  · obtain ⟨v, ts, pi, k, xs, rfl, ht, hk, hne, hlen, q⟩ := h
    have nd := sc__law_turns.nd
    refine ⟨_, (pss_cons (ps_set (i := 1) nd rfl (Or.inl rfl) (pe_lst pa_nil))
  (pss_cons (ps_while PassesOwn.never (pt_cmpR op_eq (pe_ix ix_tup (pv 0) pe_int (fun _ _ => rfl)) pe_str (nomark _))
    (pss_cons (ps_expr (pe_bm PySem.F.plainAttrs_list PySem.F.slot_list_append PySem.F.type_list_append mt_append (pv 1) (pa_cons (pe_ix ix_tup (pv 0) pe_int (fun _ _ => rfl)) pa_nil)))
  (pss_one (ps_set (i := 0) nd rfl (Or.inl rfl) (pe_ix ix_tup (pv 0) pe_int (fun _ _ => rfl))))))
  (pss_one (ps_ret (pv 1))))), ?_⟩
    refine i_start (σ' := [some v, none]) rfl ?_
    walk_at "go"
    walk_at "r"
    refine i_lst (Nat.zero_le _) (fun p H1 hp s1 e1 => ?_)
    walk_at "r"
    refine i_while (fun m σ' H' => ∃ ds r x, ts = ds ++ r ∧ m = r.length ∧ σ' = [some x, some (.ref p)] ∧ Same H H' ∧ H' p = some (.lst (ds.map fun t => V.ref t.1)) ∧ TurnAt K H r x (.ref pi)) ts.length ⟨[], ts, v, rfl, rfl, rfl, s1, e1, ht⟩ (fun m σ' H' pv => ?_)
    obtain ⟨ds, r, x, rfl, rfl, rfl, s2, e2, hr2⟩ := pv
    cases r with
    | nil =>
      cases hr2
      have hk2 := stup s2 hk
      walk_at "r"
      refine i_no hne ?_
      walk_at "r"
      rw [List.append_nil] at q
      exact q p H' hp s2 e2
    | cons t r =>
      obtain ⟨a, t⟩ := t
      obtain ⟨p2, y, rfl, h1, h2, h3⟩ := hr2
      have h1' := stup s2 h1
      rw [List.length_append, List.length_cons] at hlen
      walk_at "r"
      refine i_yes rfl ?_
      walk_at "r"
      refine ⟨r.length, by show r.length < r.length + 1; omega, ds ++ [(a, t)], r, y, by rw [List.append_assoc]; rfl, rfl, rfl, smut s2 hp, ?_, h3⟩
      rw [upd_same, List.map_append]
      rfl
def spFolded (K : PySem.W.Frag) : Sp := fun vs H Q _ => ∃ (v : V) (wy : Way), vs = [v] ∧ WayAt K H v wy ∧ wy.Ok ∧ wy.ts ≠ [] ∧ ∀ u wy' H', Same H H' → WayAt K H' u wy' → wy'.Ok → AlikeW wy wy' → Q u H'
theorem c__law_folded (Z : Blt mg) (c__law_escaped : C8.Cal P w K mg base 2 "_law_escaped" (spEscaped K) []) (d : Dd K mg "_law_folded" s__law_folded P__law_folded) : C8.Cal P w K mg base 3 "_law_folded" (spFolded K) [] := by
  refine d.cal sc__law_folded (fun vs H Q E h => ?_) (fun f cdv A outer s H vs Q E hr h => ?_)
  · obtain ⟨v, wy, rfl, _⟩ := h
    rfl
  · obtain ⟨v, ⟨ts, t, e, k⟩, rfl, hw, ok, hne, q⟩ := h
    have nd := sc__law_folded.nd
    have t3 : 3 ≤ t := ok.t3
    have t16 : t ≤ 16 := ok.t16
    obtain ⟨tas, p, hts, hwt, hk⟩ := id hw
    have hts : tas.map (·.2) = ts := hts
    subst hts
    match tas, hne, hwt, ok, hw, q with
    | [], hne, _, _, _, _ => exact absurd rfl hne
    | (a, s2) :: r, _, hwt, ok, hw, q =>
      obtain ⟨pw, x, rfl, h1, h2, h3⟩ := hwt
      have hs2 : s2.Perm (countL t) := ok.perm s2 List.mem_cons_self
      have ls2 := hs2.length_eq
      rw [count_len] at ls2
      have in2 : ∀ n ∈ s2, 0 ≤ n ∧ n < t := fun n m => count_mem.mp (hs2.subset m)
      have e2 := h2.st (K := K)
      refine ⟨_, (pss_cons (ps_asg (pe_tup (pa_cons (pe_ix ix_tup (pv 0) pe_int (fun _ _ => rfl)) (pa_cons (pe_ix ix_tup (pv 0) pe_int (fun _ _ => rfl)) pa_nil))) (pg_tup rfl (pgs_cons (pg_name (i := 1) nd rfl (Or.inl rfl)) (pgs_cons (pg_name (i := 2) nd rfl (Or.inr rfl)) pgs_nil))))
  (pss_cons (ps_if (pt_cmpR op_eq (pe_ix ix_tup (pv 2) pe_int (fun _ _ => rfl)) pe_str (nomark _)) (pss_one (ps_ret (pe_tup (pa_cons pe_str (pa_cons (pe_callTy k_tupOfF (by rfl) Z.tuple_ (by decide +kernel) (pa_cons (pe_lc (own := [("_law_sign", 3)]) (g := gName 3) (tt := tYes) rfl nd (pi_tup (pv 1)) (blkOk_by (N := N__law_folded) (sc := C8.fnScope s__law_folded) (own := [("_law_sign", 3)]) (by decide +kernel)) (fun _ _ _ _ _ => (pg_name (i := 3) nd rfl (Or.inl rfl))) (fun _ _ _ _ _ => pts_nil) (fun _ _ _ _ _ => (pe_ix (show IxR _ (rIxT K) from ix_tup) (pe_ix (show IxR _ (rIxT K) from ix_tup) (pv 2) pe_int (fun _ _ => rfl)) (pv 3) (fun _ _ => rfl)))) pa_nil)) (pa_cons (pe_ix ix_tup (pv 2) pe_int (fun _ _ => rfl)) pa_nil)))))) pss_nil)
  (C8.pss_cut (ps_if (pt_cmpR op_eq (pe_ix ix_tup (pv 2) pe_int (fun _ _ => rfl)) pe_str (nomark _)) (pss_one (ps_set (i := 2) nd rfl (Or.inr rfl) (C8.pe_c c__law_escaped hr (by decide) (by rfl) (pa_cons (pv 2) pa_nil)))) pss_nil)
  (pss_cons (ps_if (pt_cmpR op_eq (pe_ix ix_tup (pv 2) pe_int (fun _ _ => rfl)) pe_str (nomark _)) (pss_one (ps_ret (pe_op op_catT (pe_slice sl_tup (pv 2) po_none (po_some pe_int)) (pe_tup (pa_cons (pe_callTy k_tupOfF (by rfl) Z.tuple_ (by decide +kernel) (pa_cons (pe_lc (own := [("_law_sign", 3)]) (g := gName 3) (tt := tYes) rfl nd (pi_tup (pv 1)) (blkOk_by (N := N__law_folded) (sc := C8.fnScope s__law_folded) (own := [("_law_sign", 3)]) (by decide +kernel)) (fun _ _ _ _ _ => (pg_name (i := 3) nd rfl (Or.inl rfl))) (fun _ _ _ _ _ => pts_nil) (fun _ _ _ _ _ => (pe_ix (show IxR _ (rIxT K) from ix_tup) (pe_ix (show IxR _ (rIxT K) from ix_tup) (pv 2) pe_int (fun _ _ => rfl)) (pv 3) (fun _ _ => rfl)))) pa_nil)) pa_nil))))) pss_nil)
  (pss_one (ps_ret (pv 0))))))), ?_⟩
      refine i_start (σ' := [some (.ref pw), none, none, none]) rfl ?_
      walk_at "go"
      walk_at "r"
      refine i_tup (by show 2 ≤ sizeLine; decide) (fun q1 H1 hq1 s1 e1 => ?_)
      have e1' := st_of (K := K) e1
      have e21 := stup s1 e2
      walk_at "r"
      match r, h3, ok, hw, q with
      | (a4, s4) :: r, h3, ok, hw, q =>
        obtain ⟨p4, y, rfl, h41, h42, h43⟩ := h3
        have h411 := stup s1 h41
        have hs4 : s4.Perm (countL t) := ok.perm s4 (List.mem_cons_of_mem _ List.mem_cons_self)
        have ls4 := hs4.length_eq
        rw [count_len] at ls4
        walk_at "r"
        refine i_yes rfl ?_
        walk_at "r"
        refine i_lcT (F := fun v => match v with | .int n => some (.int (s4.getD n.toNat 0)) | _ => none) e21 (by rw [List.length_map]; omega) (fun v hv H3 s3 QN QY hN hY => ?_) (fun D H3 hD s3 e3 => ?_)
        · obtain ⟨n, hn, rfl⟩ := List.mem_map.mp hv
          have zn := in2 n hn
          have h413 := stup s3 h411
          have h423 := stup s3 (stup s1 (h42.st (K := K)))
          have hat : atI (s4.map V.int) n = some (.int (s4.getD n.toNat 0)) := by
            have z : ∀ (k : Nat) (v : V), n = (k : Int) → (s4.map V.int)[k]? = some v → atI (s4.map V.int) n = some v := fun k v z1 z2 => by
              rw [z1]
              exact atI_nat z2
            refine z n.toNat _ (by omega) ?_
            rw [List.getElem?_map, List.getD_eq_getElem?_getD, List.getElem?_eq_getElem (by omega)]
            rfl
          walk_at "r"
          exact hY _ rfl _ (Same.refl _)
        · have e5 : ∀ l : List Int, (l.map V.int).filterMap (fun v => match v with | .int n => some (V.int (s4.getD n.toNat 0)) | _ => none) = (turnS s4 l).map V.int := fun l => by
            induction l with
            | nil => rfl
            | cons n r ih =>
              rw [List.map_cons, List.filterMap_cons, ih]
              rfl
          rw [e5] at e3
          have h4113 := stup s3 h411
          walk_at "r"
          refine i_tupOfF (sl_of e3) (fun p5 H5 hp5 s5 e5 => ?_)
          have h4115 := stup s5 h4113
          walk_at "r"
          refine i_tup (by show 3 ≤ sizeLine; decide) (fun T H6 hT s6 e6 => ?_)
          have s06 := ((s1.trans s3).trans s5).trans s6
          have few := ok.few
          have al : AlikeW ⟨((a, s2) :: (a4, s4) :: r).map (fun z : Addr × List Int => z.2), t, e, k⟩ ⟨turnS s4 s2 :: r.map (fun z : Addr × List Int => z.2), t, e, k⟩ := alike_folded hs2
          refine q (.ref T) ⟨turnS s4 s2 :: r.map (fun z : Addr × List Int => z.2), t, e, k⟩ H6 s06 ⟨(p5, turnS s4 s2) :: r, p, rfl, ⟨T, y, rfl, st_of e6, e5.same s6, h43.same s06⟩, hk.same s06⟩ ⟨?_, t3, t16, ok.e0, ok.e1, ok.kind, fun z hz => ?_⟩ al
          · have z : ((a, s2) :: (a4, s4) :: r).map (·.2) = s2 :: s4 :: r.map (·.2) := rfl
            have few : (((a, s2) :: (a4, s4) :: r).map (·.2)).length ≤ 3 := few
            rw [z] at few
            simp only [List.length_cons] at few ⊢
            omega
          · rcases List.mem_cons.mp hz with rfl | hz
            · exact turn_perm hs2 hs4
            · exact ok.perm z (List.mem_cons_of_mem _ (List.mem_cons_of_mem _ hz))
      | [], h3, ok, hw, q =>
        cases h3
        have hk1 := hk.same s1
        obtain ⟨xs, hx⟩ := hk1.head
        have kind : KindOk t e k := ok.kind
        walk_at "r"
        refine i_no k.name_ne ?_
        walk_at "r"
        have okp : ∀ k' : Kind, KindOk t e k' → Way.Ok ⟨[], t, e, k'⟩ := fun k' h => ⟨Nat.zero_le _, t3, t16, ok.e0, ok.e1, h, fun z m => by cases m⟩
        refine i_cut (fun σ' H' => ∃ (pi : Addr) (k' : Kind), σ' = [some (.ref pw), some (.ref a), some (.ref pi), none] ∧ Same H H' ∧ KindAt K H' pi t e k' ∧ KindOk t e k' ∧ AlikeW ⟨[s2], t, e, k⟩ ⟨[s2], t, e, k'⟩) ?_ (fun σ' H' pv => ?_)
        · cases k with
          | escapes m prs =>
            have hkE := hk1
            obtain ⟨c, pas, hkc, hc, hps⟩ := hk1
            walk_at "r"
            refine i_yes rfl ?_
            walk_at "r"
            refine ⟨p, t, e, m, prs, rfl, hkE, kind, t3, t16, fun q2 H2 s2' hq2 => ?_⟩
            walk_at "r"
            exact ⟨q2, _, rfl, s1.trans s2', hq2, kind_escaped kind, alike_escaped fun z hz => by rw [List.mem_singleton.mp hz]; exact hs2⟩
          | codes cs =>
            have hkE := hk1
            obtain ⟨c, as, hkc, hc, hcs⟩ := hk1
            walk_at "r"
            refine i_no (by decide +kernel) ?_
            walk_at "r"
            exact ⟨p, _, rfl, s1, hkE, kind, AlikeW.refl _⟩
          | counts l =>
            have hk1' : SqT K H1 p [.str "counts", .int t, .int e, .int l] := hk1
            walk_at "r"
            refine i_no (by decide +kernel) ?_
            walk_at "r"
            exact ⟨p, _, rfl, s1, hk1, kind, AlikeW.refl _⟩
          | ranks =>
            have hk1' : SqT K H1 p [.str "ranks", .int t, .int e] := hk1
            walk_at "r"
            refine i_no (by decide +kernel) ?_
            walk_at "r"
            exact ⟨p, _, rfl, s1, hk1, kind, AlikeW.refl _⟩
        · obtain ⟨pi, k', rfl, s3, hk3, kind3, al⟩ := pv
          have e23 := stup s3 e2
          cases k' with
          | codes cs =>
            obtain ⟨c, as, hkc, hc, hcs⟩ := hk3
            have las := hcs.len
            have lcs := kind3.1
            walk_at "r"
            refine i_yes rfl ?_
            walk_at "r"
            refine i_slT hkc (cutTo3_ne _ _ _ _ _) (fun q4 H4 hq4 s4 e4 => ?_)
            rw [show (3 : Int) = ((3 : Nat) : Int) from rfl, cut_to] at e4
            have e24 := stup s4 e23
            have hkc4 := stup s4 hkc
            have hc4 := stup s4 hc
            walk_at "r"
            refine i_lcT (F := fun v => match v with | .int n => some (.ref (as.getD n.toNat 0)) | _ => none) e24 (by rw [List.length_map]; omega) (fun v hv H5 s5 QN QY hN hY => ?_) (fun D H5 hD s5 e5 => ?_)
            · obtain ⟨n, hn, rfl⟩ := List.mem_map.mp hv
              have zn := in2 n hn
              have hkc5 := stup s5 hkc4
              have hc5 := stup s5 hc4
              have hat : atI (as.map V.ref) n = some (.ref (as.getD n.toNat 0)) := by
                have z : ∀ (k : Nat) (v : V), n = (k : Int) → (as.map V.ref)[k]? = some v → atI (as.map V.ref) n = some v := fun k v z1 z2 => by
                  rw [z1]
                  exact atI_nat z2
                refine z n.toNat _ (by omega) ?_
                rw [List.getElem?_map, List.getD_eq_getElem?_getD, List.getElem?_eq_getElem (by omega)]
                rfl
              walk_at "r"
              exact hY _ rfl _ (Same.refl _)
            · have e6 : ∀ l : List Int, (l.map V.int).filterMap (fun v => match v with | .int n => some (V.ref (as.getD n.toNat 0)) | _ => none) = (l.map fun n => as.getD n.toNat 0).map V.ref := fun l => by
                induction l with
                | nil => rfl
                | cons n r ih =>
                  rw [List.map_cons, List.filterMap_cons, ih]
                  rfl
              rw [e6] at e5
              have e45 := st_of (K := K) (s5 _ _ e4)
              walk_at "r"
              refine i_tupOfF (sl_of e5) (fun p6 H6 hp6 s6 e6 => ?_)
              have e46 := stup s6 e45
              walk_at "r"
              refine i_tup (by show 1 ≤ sizeLine; decide) (fun p7 H7 hp7 s7 e7 => ?_)
              have e47 := stup s7 e46
              walk_at "r"
              refine i_catT e47 (st_of e7) (by show [V.str "codes", V.int t, V.int e] ≠ []; intro h; cases h) (by intro h; cases h) (by show 3 + 1 ≤ sizeLine; decide) (fun p8 H8 hp8 s8 e8 => ?_)
              have s48 := (((s4.trans s5).trans s6).trans s7).trans s8
              refine q (.ref p8) ⟨[], t, e, .codes (turnC cs s2)⟩ H8 (s3.trans s48) ⟨[], p8, rfl, rfl, p6, _, st_of e8, stup (s7.trans s8) e6.st, tups_turn (hcs.same s48) s2 fun n hn => ?_⟩ (okp _ (kind_turnC hs2 kind3)) (al.trans (alike_codes hs2))
              have zn := in2 n hn
              omega
          | escapes m prs =>
            obtain ⟨c, pas, hkc, hc, hps⟩ := hk3
            walk_at "r"
            refine i_no (by decide +kernel) ?_
            walk_at "r"
            exact q _ _ H' s3 (hw.same s3) ok (AlikeW.refl _)
          | counts l =>
            have hk3' : SqT K H' pi [.str "counts", .int t, .int e, .int l] := hk3
            walk_at "r"
            refine i_no (by decide +kernel) ?_
            walk_at "r"
            exact q _ _ H' s3 (hw.same s3) ok (AlikeW.refl _)
          | ranks =>
            have hk3' : SqT K H' pi [.str "ranks", .int t, .int e] := hk3
            walk_at "r"
            refine i_no (by decide +kernel) ?_
            walk_at "r"
            exact q _ _ H' s3 (hw.same s3) ok (AlikeW.refl _)
end
end Esc

namespace Esc
open PySem PySem.Spec PyProof.Rows L2
theorem eqv_way_codes (s : List Int) (r : List (List Int)) (d : PyData) (t e : Int) (cs : List (List Int)) : PyData.eqv (wayD (s :: r) d) (codesD t e cs) = false := by
  unfold wayD codesD
  rw [PyData.eqv, PyData.eqvAll, PyData.eqv]
  have z : (("turned" : Str) == "codes") = false := by decide +kernel
  rw [z]
  rfl
theorem refs_range (g : Int → Addr) (t : Int) : (List.range t.toNat).filterMap (fun (i : Nat) => some (V.ref (g (i : Int)))) = ((countL t).map g).map V.ref := by
  unfold countL
  rw [List.map_map, List.map_map, ← List.filterMap_eq_map]
  rfl
def isC : Kind → Bool
  | .codes _ => true
  | _ => false
theorem isC_name : ∀ k : Kind, decide (k.name = "codes") = isC k
  | .codes _ => (by decide +kernel : decide (("codes" : Str) = "codes") = true)
  | .escapes _ _ => (by decide +kernel : decide (("escapes" : Str) = "codes") = false)
  | .counts _ => (by decide +kernel : decide (("counts" : Str) = "codes") = false)
  | .ranks => (by decide +kernel : decide (("ranks" : Str) = "codes") = false)
theorem isC_true : ∀ {k : Kind}, isC k = true → ∃ cs, k = .codes cs
  | .codes cs, _ => ⟨cs, rfl⟩
  | .escapes _ _, h => by cases h
  | .counts _, h => by cases h
  | .ranks, h => by cases h
section
variable {P : Program} {w : World} {K : PySem.W.Frag} {mg : Str → Option Value} {base : Heap}
def spOtherwise (K : PySem.W.Frag) : Sp := fun vs H Q _ => ∃ (d : Addr) (v : V) (wy : Way), vs = [.ref d, v] ∧ DiceAt H d ∧ WayAt K (tp H) v wy ∧ wy.Ok ∧ ∀ u wy' H', Same (hide d H) H' → DiceAt H' d → WayAt K (tp H') u wy' → wy'.Ok → AlikeW wy wy' → Q u H'
theorem c__law_otherwise (Z : Blt mg) (c__law_top : C8.Cal P w K mg base 2 "_law_top" (spTopW K) []) (c__law_escaped : C8.Cal P w K mg base 2 "_law_escaped" (spEscaped K) []) (c__law_folded : C8.Cal P w K mg base 3 "_law_folded" (spFolded K) []) (c__law_off : C8.Cal P w K mg base 1 "_law_off" spOff []) (c__law_turns : C8.Cal P w K mg base 1 "_law_turns" (spTurnsL K) [])
    (c__law_core : C8.Cal P w K mg base 1 "_law_core" (spCore K) []) (c__law_mixed : C8.Cal P w K mg base 2 "_law_mixed" (spMixed K) []) (d : Dd K mg "_law_otherwise" s__law_otherwise P__law_otherwise) : C8.Cal P w K mg base 4 "_law_otherwise" (spOtherwise K) [] := by
  refine d.cal sc__law_otherwise (fun vs H Q E h => ?_) (fun f cdv A outer s H vs Q E hr h => ?_)
  · obtain ⟨d, v, wy, rfl, _⟩ := h
    rfl
  · obtain ⟨d, v, ⟨ts, t, e, k⟩, rfl, hd, hw, ok, q⟩ := h
    have nd := sc__law_otherwise.nd
    have t3 : 3 ≤ t := ok.t3
    have t16 : t ≤ 16 := ok.t16
    have hwH := hw.same tp_same
    obtain ⟨tas, p, hts, hwt, hk⟩ := id hwH
    have hts : tas.map (·.2) = ts := hts
    subst hts
    have few : tas.length ≤ 3 := by
      have z : (tas.map (·.2)).length ≤ 3 := ok.few
      rw [List.length_map] at z
      exact z
    have ndl : ∀ {c : Addr} {H' : Hp}, DiceAt H' d → H' c = none → c ≠ d := fun h hc => h.ne hc
    -- the exchange that changes nothing, put around
    have ident : ∀ (H' : Hp), tas.length ≤ 2 → Same (hide d H) H' → DiceAt H' d → ∀ (p1 : Addr) (H1 : Hp), Same H' H1 → TupD H1 p1 (rgV 0 t) → ∀ (T : Addr) (H2 : Hp), Same H1 H2 → H2 T = some (.tup [.str "turned", .ref p1, v]) → Q (.ref T) H2 := fun H' l2 s' d' p1 H1 s1 e1 T H2 s2 e2 => by
      have w2 : WayAt K (tp H2) v ⟨tas.map (fun z : Addr × List Int => z.2), t, e, k⟩ := ((hw.same (tp_dice hd s')).same (tp_pure s1)).same (tp_pure s2)
      obtain ⟨tas2, pi, z1, z2, z3⟩ := w2
      rw [rg_count] at e1
      refine q (.ref T) ⟨countL t :: tas.map (fun z : Addr × List Int => z.2), t, e, k⟩ H2 ((s'.trans s1).trans s2) ((d'.same s1).same s2) ⟨(p1, countL t) :: tas2, pi, by rw [List.map_cons, z1], ⟨T, v, rfl, tp_sqt e2, tp_tupd (e1.same s2), z2⟩, z3⟩ ⟨by simp only [List.length_cons, List.length_map]; omega, t3, t16, ok.e0, ok.e1, ok.kind, fun z hz => ?_⟩ alike_id
      rcases List.mem_cons.mp hz with rfl | hz
      · exact List.Perm.refl _
      · exact ok.perm z hz
    -- folded
    have fold : ∀ (H' : Hp), tas ≠ [] → Same (hide d H) H' → DiceAt H' d → ∀ E', spFolded K [v] H' Q E' := fun H' hne s' d' E' => by
      have w2 := (hw.same (tp_dice hd s')).same tp_same
      refine ⟨v, _, rfl, w2, ok, fun z => hne (List.map_eq_nil_iff.mp z), fun u wy' H2 s2 hw2 ok2 al => ?_⟩
      exact q u wy' H2 (s'.trans s2) (d'.same s2) hw2.tp ok2 al
    refine ⟨_, (pss_cons (ps_set (i := 2) nd rfl (Or.inl rfl) (C8.pe_c c__law_top hr (by decide) (by rfl) (pa_cons (pv 1) pa_nil)))
  (pss_cons (ps_if (pt_cmpR op_eq (pe_ix ix_tup (pv 1) pe_int (fun _ _ => rfl)) pe_str (nomark _)) (pss_one (ps_ret (C8.pe_c c__law_escaped hr (by decide) (by rfl) (pa_cons (pv 1) pa_nil)))) pss_nil)
  (pss_cons (ps_if (PW.pt (pw_and (pt_cmpR op_eq (pe_ix ix_tup (pv 1) pe_int (fun _ _ => rfl)) pe_str (nomark _)) (pw_and1 (pt_cmpR op_gt (C8.pe_c c__law_off hr (by decide) (by rfl) (pa_cons (pv 0) (pa_cons pe_int pa_nil))) pe_int (nomark _))))) (pss_one (ps_ret (C8.pe_c c__law_folded hr (by decide) (by rfl) (pa_cons (pv 1) pa_nil)))) pss_nil)
  (pss_cons (ps_if (pt_cmpR op_eq (pe_callB k_len (by rfl) Z.len_ (by decide +kernel) (pa_cons (C8.pe_c c__law_turns hr (by decide) (by rfl) (pa_cons (pv 1) pa_nil)) pa_nil)) pe_int (nomark _)) (pss_one (ps_ret (C8.pe_c c__law_folded hr (by decide) (by rfl) (pa_cons (pv 1) pa_nil)))) pss_nil)
  (pss_cons (ps_if (PW.pt (pw_or (pt_cmpR op_ne (pe_ix ix_tup (C8.pe_c c__law_core hr (by decide) (by rfl) (pa_cons (pv 1) pa_nil)) pe_int (fun _ _ => rfl)) pe_str (nomark _)) (pw_or1 (pt_cmpR op_eq (C8.pe_c c__law_off hr (by decide) (by rfl) (pa_cons (pv 0) (pa_cons pe_int pa_nil))) pe_int (nomark _))))) (pss_one (ps_ret (pe_tup (pa_cons pe_str (pa_cons (pe_tupRgF rfl rfl Z.tuple_ (prg_1 rfl Z.range_ (pv 2))) (pa_cons (pv 1) pa_nil)))))) pss_nil)
  (pss_cons (ps_set (i := 3) nd rfl (Or.inr rfl) (C8.pe_c c__law_mixed hr (by decide) (by rfl) (pa_cons (pv 0) (pa_cons (pe_listRg rfl rfl Z.list_ (prg_1 rfl Z.range_ (pv 2))) pa_nil))))
  (pss_cons (ps_set (i := 4) nd rfl (Or.inr rfl) (C8.pe_c c__law_core hr (by decide) (by rfl) (pa_cons (pv 1) pa_nil)))
  (pss_cons (ps_if (pt_cmpR (op_neD hr.units) (pv 1) (pv 4) (nomark _)) (pss_one (ps_ret (C8.pe_c c__law_folded hr (by decide) (by rfl) (pa_cons (pv 1) pa_nil)))) pss_nil)
  (pss_one (ps_ret (pe_tup (pa_cons pe_str (pa_cons (pe_callTy k_tupOfF (by rfl) Z.tuple_ (by decide +kernel) (pa_cons (pv 3) pa_nil)) (pa_cons (pe_op op_catT (pe_slice sl_tup (pv 4) po_none (po_some pe_int)) (pe_tup (pa_cons (pe_callTy k_tupOfF (by rfl) Z.tuple_ (by decide +kernel) (pa_cons (pe_lc (own := [("_law_sign", 5)]) (g := gName 5) (tt := tYes) rfl nd (pi_range1 rfl Z.range_ (pa_cons (pv 2) pa_nil)) (blkOk_by (N := N__law_otherwise) (sc := C8.fnScope s__law_otherwise) (own := [("_law_sign", 5)]) (by decide +kernel)) (fun _ _ _ _ _ => (pg_name (i := 5) nd rfl (Or.inl rfl))) (fun _ _ _ _ _ => pts_nil) (fun _ _ _ _ _ => (pe_ix (show IxR _ (rIxT K) from ix_tup) (pe_ix (show IxR _ (rIxT K) from ix_tup) (pv 4) pe_int (fun _ _ => rfl)) (show PE _ _ (tBM K _ _ _ _) from (pe_bm PySem.F.plainAttrs_list PySem.F.slot_list_index PySem.F.type_list_index (show MtR _ _ (rIndex K) from mt_index) (pv 3) (pa_cons (pv 5) pa_nil))) (fun _ _ => rfl)))) pa_nil)) pa_nil))) pa_nil)))))))))))))), ?_⟩
    refine i_start (σ' := [some (.ref d), some v, none, none, none, none]) rfl ?_
    walk_at "go"
    walk_at "r"
    refine ⟨v, _, rfl, hwH, ?_⟩
    have sH : Same (hide d H) H := fun b o e => by
      by_cases c : b = d
      · rw [c, hide_d] at e
        cases e
      · exact (hide_ne c).symm.trans e
    match tas, hwt, few, ok, hw, hwH, q, ident, fold with
    | [], hwt, few, ok, hw, hwH, q, ident, fold =>
      cases hwt
      cases k with
      | escapes m prs =>
        have hkE := hk
        have kind : KindOk t e (.escapes m prs) := ok.kind
        obtain ⟨c, pas, hkc, hc, hps⟩ := hk
        walk_at "r"
        refine i_yes rfl ?_
        walk_at "r"
        refine ⟨p, t, e, m, prs, rfl, hkE, kind, t3, t16, fun q2 H2 s2 hq2 => ?_⟩
        exact q (.ref q2) ⟨[], t, e, .codes (escCs t m prs)⟩ H2 (sH.trans s2) (hd.same s2) ⟨[], q2, rfl, rfl, hq2.tp⟩ ⟨Nat.zero_le _, t3, t16, ok.e0, ok.e1, kind_escaped kind, fun z m => by cases m⟩ (alike_escaped fun z hz => by cases hz)
      | counts l =>
        have hk' : SqT K H p [.str "counts", .int t, .int e, .int l] := hk
        walk_at "r"
        refine i_no (by decide +kernel) ?_
        walk_at "r"
        refine i_no (by decide +kernel) ?_
        walk_at "r"
        refine ⟨.ref p, [], p, _, _, rfl, rfl, hk', by decide +kernel, by decide, fun l1 H1 hl1 s1 e1 => ?_⟩
        have hk1 := stup s1 hk'
        walk_at "r"
        refine i_no (by decide) ?_
        walk_at "r"
        refine ⟨.ref p, [], p, _, _, rfl, rfl, hk1, by decide +kernel, ?_⟩
        walk_at "r"
        refine i_nbr (fun z => absurd z (by decide +kernel)) (fun _ => ?_)
        walk_at "r"
        refine i_tupRgF ⟨by show 0 ≤ t; omega, by show t ≤ _; omega⟩ (fun p2 H2 hp2 s2 e2 => ?_)
        walk_at "r"
        refine i_tup (by show 3 ≤ sizeLine; decide) (fun T H3 hT s3 e3 => ?_)
        exact ident H1 (Nat.zero_le _) (sH.trans s1) (hd.same s1) p2 H2 s2 e2 T H3 s3 e3
      | ranks =>
        have hk' : SqT K H p [.str "ranks", .int t, .int e] := hk
        walk_at "r"
        refine i_no (by decide +kernel) ?_
        walk_at "r"
        refine i_no (by decide +kernel) ?_
        walk_at "r"
        refine ⟨.ref p, [], p, _, _, rfl, rfl, hk', by decide +kernel, by decide, fun l1 H1 hl1 s1 e1 => ?_⟩
        have hk1 := stup s1 hk'
        walk_at "r"
        refine i_no (by decide) ?_
        walk_at "r"
        refine ⟨.ref p, [], p, _, _, rfl, rfl, hk1, by decide +kernel, ?_⟩
        walk_at "r"
        refine i_nbr (fun z => absurd z (by decide +kernel)) (fun _ => ?_)
        walk_at "r"
        refine i_tupRgF ⟨by show 0 ≤ t; omega, by show t ≤ _; omega⟩ (fun p2 H2 hp2 s2 e2 => ?_)
        walk_at "r"
        refine i_tup (by show 3 ≤ sizeLine; decide) (fun T H3 hT s3 e3 => ?_)
        exact ident H1 (Nat.zero_le _) (sH.trans s1) (hd.same s1) p2 H2 s2 e2 T H3 s3 e3
      | codes cs =>
        have hkE := hk
        have kind : KindOk t e (.codes cs) := ok.kind
        obtain ⟨c, as, hkc, hc, hcs⟩ := hk
        have las := hcs.len
        have lcs := kind.1
        walk_at "r"
        refine i_no (by decide +kernel) ?_
        walk_at "r"
        refine i_no (by decide +kernel) ?_
        walk_at "r"
        refine ⟨.ref p, [], p, _, _, rfl, rfl, hkc, by decide +kernel, by decide, fun l1 H1 hl1 s1 e1 => ?_⟩
        have hk1 := stup s1 hkc
        walk_at "r"
        refine i_no (by decide) ?_
        walk_at "r"
        refine ⟨.ref p, [], p, _, _, rfl, rfl, hk1, by decide +kernel, ?_⟩
        walk_at "r"
        refine i_nbr (fun _ => ?_) (fun z => absurd rfl z)
        walk_at "r"
        refine ⟨d, 2, rfl, by decide, by decide, hd.same s1, fun H3 n s3 d3 n0 n1 => ?_⟩
        have s03 : Same (hide d H) H3 := hide_tr (sH.trans s1) s3
        have w3 := hw.same (tp_dice hd s03)
        have hkE3 : KindAt K (tp H3) p t e (.codes cs) := (hkE.tp).same (tp_dice hd s03)
        walk_at "r"
        refine i_br (fun _ => ?_) (fun _ => ?_)
        · walk_at "r"
          refine i_tupRgF ⟨by show 0 ≤ t; omega, by show t ≤ _; omega⟩ (fun p4 H4 hp4 s4 e4 => ?_)
          walk_at "r"
          refine i_tup (by show 3 ≤ sizeLine; decide) (fun T H5 hT s5 e5 => ?_)
          exact ident H3 (Nat.zero_le _) s03 d3 p4 H4 s4 e4 T H5 s5 e5
        · walk_at "r"
          refine i_lstRg ⟨by show 0 ≤ t; omega, by show t ≤ _; omega⟩ (fun c4 H4 hc4 s4 e4 => ?_)
          have d4 := d3.same s4
          have e4 : H4 c4 = some (.lst (rgV 0 t)) := e4
          rw [rg_count] at e4
          walk_at "r"
          refine ⟨d, c4, _, rfl, d4, sl_of e4, fun y hy => ?_, by rw [List.length_map, count_len]; omega, fun p5 H5 ys hp5 s5 d5 e5 pp => ?_⟩
          · obtain ⟨z, _, rfl⟩ := List.mem_map.mp hy
            exact fl_int z
          obtain ⟨sg, rfl, psg⟩ := perm_map_inv pp _ rfl
          have s05 : Same (hide d H) H5 := hide_tr (s03.trans s4) s5
          have hkE5 : KindAt K H5 p t e (.codes cs) := ((hkE.tp).same (tp_dice hd s05)).same tp_same
          have hkE5' := hkE5
          obtain ⟨c5, as5, hkc5, hc5, hcs5⟩ := hkE5'
          have las5 := hcs5.len
          walk_at "r"
          refine ⟨.ref p, [], p, _, _, rfl, rfl, hkc5, by decide +kernel, ?_⟩
          walk_at "r"
          have sh : SeqAt.shaped (codesD t e cs) = true := shaped_of (lay_codes t e cs) (by have := depth_codes t e cs; omega)
          refine ⟨_, _, dp_codes hkE5, dp_codes hkE5, sh, sh, ?_⟩
          rw [SeqAt.eqv_refl _ (lay_codes t e cs), Bool.not_true]
          walk_at "r"
          refine i_tupOfF (sl_of e5) (fun p6 H6 hp6 s6 e6 => ?_)
          have hkc6 := stup s6 hkc5
          have hc6 := stup s6 hc5
          have e56 := s6 _ _ e5
          walk_at "r"
          refine i_slT hkc6 (cutTo3_ne _ _ _ _ _) (fun p7 H7 hp7 s7 e7 => ?_)
          rw [show (3 : Int) = ((3 : Nat) : Int) from rfl, cut_to] at e7
          have hkc7 := stup s7 hkc6
          have hc7 := stup s7 hc6
          have e57 := s7 _ _ e56
          walk_at "r"
          refine i_lcR (F := fun i => some (.ref (as5.getD (sg.idxOf (i : Int)) 0))) ⟨by show 0 ≤ t; omega, by show t < 100000; omega⟩ (fun i hi H8 s8 QN QY hN hY => ?_) (fun D H8 hD s8 e8 => ?_)
          · have hi : (i : Int) < t := hi
            have mi : (i : Int) ∈ sg := psg.mem_iff.mpr (count_mem.mpr ⟨by omega, hi⟩)
            have li := List.idxOf_lt_length_of_mem mi
            have lsg := psg.length_eq
            rw [count_len] at lsg
            have hkc8 := stup s8 hkc7
            have hc8 := stup s8 hc7
            have e58 := s8 _ _ e57
            have hat : atI (as5.map V.ref) ((sg.idxOf (i : Int) : Nat) : Int) = some (.ref (as5.getD (sg.idxOf (i : Int)) 0)) := atI_nat (by
              rw [List.getElem?_map, List.getD_eq_getElem?_getD, List.getElem?_eq_getElem (by omega)]
              rfl)
            walk_at "r"
            refine i_indexI (sl_of e58) mi ?_
            walk_at "r"
            exact hY _ rfl _ (Same.refl _)
          · have e8' : H8 D = some (.lst (((countL t).map fun x => as5.getD (sg.idxOf x) 0).map V.ref)) := e8.trans (congrArg (fun l => some (HO.lst l)) (refs_range (fun x => as5.getD (sg.idxOf x) 0) t))
            have e78 := st_of (K := K) (s8 _ _ e7)
            walk_at "r"
            refine i_tupOfF (sl_of e8') (fun p9 H9 hp9 s9 e9 => ?_)
            have e79 := stup s9 e78
            walk_at "r"
            refine i_tup (by show 1 ≤ sizeLine; decide) (fun p10 H10 hp10 s10 e10 => ?_)
            have e710 := stup s10 e79
            walk_at "r"
            refine i_catT e710 (st_of e10) (by show [V.str "codes", V.int t, V.int e] ≠ []; intro h; cases h) (by intro h; cases h) (by show 3 + 1 ≤ sizeLine; decide) (fun p11 H11 hp11 s11 e11 => ?_)
            walk_at "r"
            refine i_tup (by show 3 ≤ sizeLine; decide) (fun T H12 hT s12 e12 => ?_)
            have s6c := (((((s6.trans s7).trans s8).trans s9).trans s10).trans s11).trans s12
            have s7c := ((((s7.trans s8).trans s9).trans s10).trans s11).trans s12
            have s9c := (s10.trans s11).trans s12
            have hcsB : TupsAt K H12 ((countL t).map fun x => as5.getD (sg.idxOf x) 0) (backC cs sg t) := by
              have z := tups_turn (hcs5.same s6c) ((countL t).map fun x => ((sg.idxOf x : Nat) : Int)) fun n hn => by
                obtain ⟨x, hx, rfl⟩ := List.mem_map.mp hn
                have mi : x ∈ sg := psg.mem_iff.mpr hx
                have li := List.idxOf_lt_length_of_mem mi
                have lsg := psg.length_eq
                rw [count_len] at lsg
                rw [Int.toNat_natCast]
                omega
              unfold turnC at z
              rw [List.map_map, List.map_map] at z
              exact z
            refine q (.ref T) ⟨[sg], t, e, .codes (backC cs sg t)⟩ H12 (s05.trans s6c) (d5.same s6c) ⟨[(p6, sg)], p11, rfl, ⟨T, .ref p11, rfl, tp_sqt e12, tp_tupd (e6.same s7c), rfl⟩, p9, _, tp_sqt (s12 _ _ e11), sqt_tp (stup s9c e9.st), hcsB.tp⟩ ⟨by show 1 ≤ 3; decide, t3, t16, ok.e0, ok.e1, kind_backC psg kind, fun z hz => by rw [List.mem_singleton.mp hz]; exact psg⟩ (alike_back psg lcs)
    | (a, s2) :: r, hwt, few, ok, hw, hwH, q, ident, fold =>
      have hwt0 := hwt
      obtain ⟨pw, x, rfl, h1, h2, h3⟩ := hwt
      have nn : ((a, s2) :: r) ≠ [] := by intro z; cases z
      walk_at "r"
      refine i_no (by decide +kernel) ?_
      walk_at "r"
      refine i_yes rfl ?_
      walk_at "r"
      refine ⟨d, 3, rfl, by decide, by decide, hd, fun H1 n s1 d1 n0 n1 => ?_⟩
      walk_at "r"
      refine i_br (fun _ => ?_) (fun _ => ?_)
      · walk_at "r"
        exact fold H1 nn s1 d1 _
      · have hw1 := (hw.same (tp_dice hd s1)).same tp_same
        have tw1 : TurnAt K H1 ((a, s2) :: r) (.ref pw) (.ref p) := ((hwt0.tp).same (tp_dice hd s1)).same tp_same
        have hkE1 : KindAt K H1 p t e k := ((hk.tp).same (tp_dice hd s1)).same tp_same
        obtain ⟨xs1, hx1⟩ := hkE1.head
        walk_at "r"
        refine ⟨.ref pw, (a, s2) :: r, p, k.name, _, rfl, tw1, hx1, k.name_ne, by omega, fun l2 H2 hl2 s22 e2 => ?_⟩
        have hx2 := stup s22 hx1
        have tw2 := tw1.same s22
        have s02 := s1.trans s22
        walk_at "r"
        refine i_br (fun _ => ?_) (fun c3 => ?_)
        · walk_at "r"
          exact fold H2 nn s02 (d1.same s22) _
        · have few2 : ((a, s2) :: r).length ≤ 2 := by
            rw [List.length_map] at c3
            omega
          walk_at "r"
          refine ⟨.ref pw, (a, s2) :: r, p, k.name, _, rfl, tw2, hx2, k.name_ne, ?_⟩
          walk_at "r"
          rw [isC_name]
          cases hb : isC k with
          | false =>
            rw [Bool.not_false]
            walk_at "r"
            refine i_tupRgF ⟨by show 0 ≤ t; omega, by show t ≤ _; omega⟩ (fun p4 H4 hp4 s4 e4 => ?_)
            walk_at "r"
            refine i_tup (by show 3 ≤ sizeLine; decide) (fun T H5 hT s5 e5 => ?_)
            exact ident H2 few2 s02 (d1.same s22) p4 H4 s4 e4 T H5 s5 e5
          | true =>
            obtain ⟨cs, rfl⟩ := isC_true hb
            rw [Bool.not_true]
            walk_at "r"
            refine ⟨d, 2, rfl, by decide, by decide, d1.same s22, fun H3 n2 s3 d3 n20 n21 => ?_⟩
            have s03 : Same (hide d H) H3 := hide_tr s02 s3
            walk_at "r"
            refine i_br (fun _ => ?_) (fun _ => ?_)
            · walk_at "r"
              refine i_tupRgF ⟨by show 0 ≤ t; omega, by show t ≤ _; omega⟩ (fun p4 H4 hp4 s4 e4 => ?_)
              walk_at "r"
              refine i_tup (by show 3 ≤ sizeLine; decide) (fun T H5 hT s5 e5 => ?_)
              exact ident H3 few2 s03 d3 p4 H4 s4 e4 T H5 s5 e5
            · walk_at "r"
              refine i_lstRg ⟨by show 0 ≤ t; omega, by show t ≤ _; omega⟩ (fun c4 H4 hc4 s4 e4 => ?_)
              have d4 := d3.same s4
              have e4 : H4 c4 = some (.lst (rgV 0 t)) := e4
              rw [rg_count] at e4
              walk_at "r"
              refine ⟨d, c4, _, rfl, d4, sl_of e4, fun y hy => ?_, by rw [List.length_map, count_len]; omega, fun p5 H5 ys hp5 s5 d5 e5 pp => ?_⟩
              · obtain ⟨z, _, rfl⟩ := List.mem_map.mp hy
                exact fl_int z
              have s05 : Same (hide d H) H5 := hide_tr (s03.trans s4) s5
              have tw5 : TurnAt K H5 ((a, s2) :: r) (.ref pw) (.ref p) := ((hwt0.tp).same (tp_dice hd s05)).same tp_same
              have hkE5 : KindAt K H5 p t e (.codes cs) := ((hk.tp).same (tp_dice hd s05)).same tp_same
              obtain ⟨xs5, hx5⟩ := hkE5.head
              walk_at "r"
              refine ⟨.ref pw, (a, s2) :: r, p, _, _, rfl, tw5, hx5, (Kind.codes cs).name_ne, ?_⟩
              walk_at "r"
              have dw := depth_way (((a, s2) :: r).map (fun z : Addr × List Int => z.2)) (codesD t e cs)
              have dc := depth_codes t e cs
              refine ⟨_, _, dp_way (dp_codes hkE5) tw5, dp_codes hkE5, shaped_of (lay_way _ _ (lay_codes t e cs)) (by rw [List.length_map] at dw; omega), shaped_of (lay_codes t e cs) (by omega), ?_⟩
              rw [show PyData.eqv (wayD (((a, s2) :: r).map (fun z : Addr × List Int => z.2)) (codesD t e cs)) (codesD t e cs) = false from eqv_way_codes _ _ _ _ _ _, Bool.not_false]
              walk_at "r"
              exact fold H5 nn s05 d5 _
end
end Esc

namespace Esc
open PySem PySem.Spec PyProof.Rows L2
theorem nodict_intsU : ∀ ns : List Int, NoDictA (ns.map PyData.int)
  | [] => trivial
  | _ :: ns => ⟨trivial, nodict_intsU ns⟩
theorem alk_opt {H : Hp} {Q : VK} {u v : V} {E : XK} : ∀ {o : Option (List Int)}, OptAt H u o → OptAt H v o → (∀ b, o = some b → b.length ≤ 50000) → (∀ H', Same H H' → Q (.bl true) H') → spAlikeD 3 [u, v] H Q E
  | none, h1, h2, _, q => by
    have h1 : u = .non := h1
    have h2 : v = .non := h2
    subst h1
    subst h2
    refine ⟨_, _, .none, .none, rfl, .non, .non, trivial, by simp [PyData.depth], fun H' s => ?_⟩
    rw [show sameD PyData.none PyData.none = true from sameD_refl .none trivial]
    exact q H' s
  | some b, h1, h2, hl, q => by
    obtain ⟨a1, rfl, e1⟩ : ∃ a, u = V.ref a ∧ H a = some (HO.lst (b.map V.int)) := h1
    obtain ⟨a2, rfl, e2⟩ : ∃ a, v = V.ref a ∧ H a = some (HO.lst (b.map V.int)) := h2
    exact alk_ints e1 e2 (hl b rfl) (by decide) fun H' s => by
      rw [decide_eq_true rfl]
      exact q H' s
section
variable {P : Program} {w : World} {K : PySem.W.Frag} {mg : Str → Option Value} {base : Heap}
def spOne (K : PySem.W.Frag) : Sp := fun vs H Q _ => ∃ (d : Addr) (v1 v2 : V) (w1 w2 : Way), vs = [.ref d, v1, v2] ∧ DiceAt H d ∧ WayAt K (tp H) v1 w1 ∧ WayAt K (tp H) v2 w2 ∧ w1.Ok ∧ w2.Ok ∧ AlikeW w1 w2 ∧ ∀ H', Same (hide d H) H' → DiceAt H' d → Q (.bl true) H'
theorem c__law_one (Z : Blt mg) (c__law_top : C8.Cal P w K mg base 2 "_law_top" (spTopW K) []) (c_parted : C8.Cal P w K mg base 8 "parted" (spParted K) []) (c__law_body : C8.Cal P w K mg base 2 "_law_body" spBody []) (c__law_end : C8.Cal P w K mg base 2 "_law_end" (spEndW K) []) (c__law_signs : C8.Cal P w K mg base 7 "_law_signs" (spSigns K) [])
    (c__law_alike : C8.Cal P w K mg base 4 "_law_alike" (spAlikeD 3) []) (c_framed : C8.Cal P w K mg base 8 "framed" (spFramed K) []) (c_body_of : C8.Cal P w K mg base 8 "body_of" (spTakenB K) []) (c__law_off : C8.Cal P w K mg base 1 "_law_off" spOff []) (c_worst : C8.Cal P w K mg base 8 "worst" (spWorst K) []) (c_frames_of : C8.Cal P w K mg base 8 "frames_of" (spFramesN K) [])
    (d : Dd K mg "_law_one" s__law_one P__law_one) : C8.Cal P w K mg base 9 "_law_one" (spOne K) [] := by
  refine d.cal sc__law_one (fun vs H Q E h => ?_) (fun f cdv A outer s H vs Q E hr h => ?_)
  · obtain ⟨d, v1, v2, w1, w2, rfl, _⟩ := h
    rfl
  · obtain ⟨d, v1, v2, w1, w2, rfl, hd, hw1, hw2, ok1, ok2, al, q⟩ := h
    have nd := sc__law_one.nd
    have t3 := ok1.t3
    have t16 := ok1.t16
    have e0 := ok1.e0
    have e1 := ok1.e1
    have et := al.t
    have sH : Same (hide d H) H := fun b o e => by
      by_cases c : b = d
      · rw [c, hide_d] at e
        cases e
      · exact (hide_ne c).symm.trans e
    refine ⟨_, (pss_cons (ps_set (i := 3) nd rfl (Or.inl rfl) (C8.pe_c c__law_top hr (by decide) (by rfl) (pa_cons (pv 1) pa_nil)))
  (pss_cons (ps_if (PW.pt (pw_or (pt_cmpR k_notN (C8.pe_c c_parted hr (by decide) (by rfl) (pa_cons (pv 1) (pa_cons (pv 2) pa_nil))) pe_non (nomark _)) (pw_or1 (pt_cmpR k_notN (C8.pe_c c_parted hr (by decide) (by rfl) (pa_cons (pv 2) (pa_cons (pv 1) pa_nil))) pe_non (nomark _))))) (pss_one (ps_ret pe_bl)) pss_nil)
  (pss_cons (ps_for PassesOwn.never rfl (pi_range1 rfl Z.range_ (pa_cons pe_int pa_nil)) (pg_name (i := 4) nd rfl (Or.inl rfl))
    (pss_cons (ps_set (i := 5) nd rfl (Or.inl rfl) (C8.pe_c c__law_body hr (by decide) (by rfl) (pa_cons (pv 0) (pa_cons (pv 3) (pa_cons (C8.pe_c c__law_end hr (by decide) (by rfl) (pa_cons (pv 1) pa_nil)) (pa_cons pe_int pa_nil))))))
  (pss_cons (ps_set (i := 6) nd rfl (Or.inl rfl) (C8.pe_c c__law_signs hr (by decide) (by rfl) (pa_cons (pv 0) (pa_cons (pv 1) (pa_cons pe_int pa_nil)))))
  (pss_cons (ps_if (pt_not (pt_val (C8.pe_c c__law_alike hr (by decide) (by rfl) (pa_cons (C8.pe_c c_framed hr (by decide) (by rfl) (pa_cons (pv 2) (pa_cons (pv 5) pa_nil))) (pa_cons (C8.pe_c c_framed hr (by decide) (by rfl) (pa_cons (pv 1) (pa_cons (pv 5) pa_nil))) pa_nil))))) (pss_one (ps_ret pe_bl)) pss_nil)
  (pss_one (ps_if (pt_not (pt_val (C8.pe_c c__law_alike hr (by decide) (by rfl) (pa_cons (C8.pe_c c_body_of hr (by decide) (by rfl) (pa_cons (pv 2) (pa_cons (pv 6) pa_nil))) (pa_cons (C8.pe_c c_body_of hr (by decide) (by rfl) (pa_cons (pv 1) (pa_cons (pv 6) pa_nil))) pa_nil))))) (pss_one (ps_ret pe_bl)) pss_nil))))))
  (pss_cons (ps_set (i := 7) nd rfl (Or.inl rfl) (C8.pe_c c__law_off hr (by decide) (by rfl) (pa_cons (pv 0) (pa_cons pe_int pa_nil))))
  (pss_one (ps_ret (pe_and (pe_cmpR op_eq (pe_ix ix_tup (C8.pe_c c_worst hr (by decide) (by rfl) (pa_cons (pv 1) (pa_cons (pv 7) pa_nil))) pe_int (fun _ _ => rfl)) (pe_ix ix_tup (C8.pe_c c_worst hr (by decide) (by rfl) (pa_cons (pv 2) (pa_cons (pv 7) pa_nil))) pe_int (fun _ _ => rfl)) (nomark _)) (pe_one (pe_cmpR op_eq (C8.pe_c c_frames_of hr (by decide) (by rfl) (pa_cons (pv 1) (pa_cons (pv 7) pa_nil))) (C8.pe_c c_frames_of hr (by decide) (by rfl) (pa_cons (pv 2) (pa_cons (pv 7) pa_nil))) (nomark _)))))))))), ?_⟩
    refine i_start (σ' := [some (.ref d), some v1, some v2, none, none, none, none, none]) rfl ?_
    walk_at "go"
    walk_at "r"
    refine ⟨v1, w1, rfl, hw1.same tp_same, ?_⟩
    walk_at "r"
    refine ⟨v1, v2, w1, w2, rfl, hw1.same tp_same, hw2.same tp_same, ok1, ok2, et, fun u H1 s1 o1 => ?_⟩
    rw [part_alike al ok1 ok2] at o1
    have o1 : u = .non := o1
    subst o1
    walk_at "r"
    refine i_nyes rfl ?_
    walk_at "r"
    refine ⟨v2, v1, w2, w1, rfl, (hw2.same tp_same).same s1, (hw1.same tp_same).same s1, ok2, ok1, et.symm, fun u H2 s2 o2 => ?_⟩
    rw [part_alike al.symm ok2 ok1] at o2
    have o2 : u = .non := o2
    subst o2
    have s02 := s1.trans s2
    walk_at "r"
    refine i_nyes rfl ?_
    walk_at "r"
    refine i_rng ⟨by decide, by decide⟩ (fun i σ' H' => ∃ y4 y5 y6, σ' = [some (.ref d), some v1, some v2, some (.int w1.t), y4, y5, y6, none] ∧ Same (hide d H) H' ∧ DiceAt H' d) ⟨_, _, _, rfl, sH.trans s02, hd.same s02⟩ (fun i σ' H' hi pv => ?_) (fun σ' H' pv => ?_)
    · obtain ⟨y4, y5, y6, rfl, s3, d3⟩ := pv
      have hw13 := hw1.same (tp_dice hd s3)
      have hw23 := hw2.same (tp_dice hd s3)
      walk_at "r"
      refine ⟨v1, w1, rfl, hw13.same tp_same, ?_⟩
      walk_at "r"
      refine ⟨d, w1.t, w1.e, 30, rfl, d3, by omega, t16, e0, e1, by decide, by decide, fun b H4 ns hb s4 d4 e4 hin hlen => ?_⟩
      have nb : b ≠ d := d3.ne hb
      have hw14 := hw13.same (tp_dice d3 s4)
      walk_at "r"
      refine ⟨d, v1, w1, 30, rfl, d4, hw14, ok1, by decide, by decide, fun r H5 rs hr5 s5 d5 e5 rin rlen => ?_⟩
      have s35 : Same (hide d H) H5 := hide_tr (hide_tr s3 s4) s5
      have hw15 := hw1.same (tp_dice hd s35)
      have hw25 := hw2.same (tp_dice hd s35)
      have e45 := hide_at s5 nb e4
      walk_at "r"
      refine ⟨v2, b, w2, ns, rfl, hw25.same tp_same, ok2, sl_of e45, by rw [← et]; exact hin, by omega, fun f6 H6 hf6 s6 e6 => ?_⟩
      have e46 := s6 _ _ e45
      walk_at "r"
      refine ⟨v1, b, w1, ns, rfl, (hw15.same tp_same).same s6, ok1, sl_of e46, hin, by omega, fun f7 H7 hf7 s7 e7 => ?_⟩
      have fl := frameW_len ok1 hin
      rw [← al.fr ns hin] at e6
      walk_at "r"
      refine alk_ints (s7 _ _ e6) e7 (by omega) (by decide) fun H8 s8 => ?_
      rw [decide_eq_true rfl]
      have s58 := (s6.trans s7).trans s8
      have e58 := s58 _ _ e5
      walk_at "r"
      have bl : ∀ b, readW w1 rs = some b → b.length ≤ 50000 := fun b h => by
        have := (readW_some ok1 rin h).2.2
        omega
      refine ⟨v2, r, w2, rs, rfl, (hw25.same tp_same).same s58, ok2, sl_of e58, by rw [← et]; exact rin, by omega, tellO_opt fun u1 H9 s9 o9 => ?_⟩
      rw [← read_alike al ok1 ok2 rin] at o9
      have e59 := s9 _ _ e58
      walk_at "r"
      refine ⟨v1, r, w1, rs, rfl, (hw15.same tp_same).same (s58.trans s9), ok1, sl_of e59, rin, by omega, tellO_opt fun u2 H10 s10 o10 => ?_⟩
      walk_at "r"
      refine alk_opt (o9.same s10) o10 bl fun H11 s11 => ?_
      walk_at "r"
      have s511 := ((s58.trans s9).trans s10).trans s11
      exact ⟨_, _, _, rfl, s35.trans s511, d5.same s511⟩
    · obtain ⟨y4, y5, y6, rfl, s3, d3⟩ := pv
      walk_at "r"
      refine ⟨d, 61, rfl, by decide, by decide, d3, fun H4 n s4 d4 n0 n1 => ?_⟩
      obtain ⟨m, rfl⟩ := Int.eq_ofNat_of_zero_le n0
      have s04 : Same (hide d H) H4 := hide_tr s3 s4
      have hw14 := (hw1.same (tp_dice hd s04)).same tp_same
      have hw24 := (hw2.same (tp_dice hd s04)).same tp_same
      walk_at "r"
      refine ⟨v1, (m : Int), w1, rfl, hw14, ok1, by omega, by omega, fun q5 b5 H5 hq5 hb5 s5 e5 eb5 => ?_⟩
      rw [Int.toNat_natCast] at e5
      walk_at "r"
      refine ⟨v2, (m : Int), w2, rfl, hw24.same s5, ok2, by omega, by omega, fun q6 b6 H6 hq6 hb6 s6 e6 eb6 => ?_⟩
      rw [Int.toNat_natCast, ← worst_alike al ok1 ok2 m] at e6
      have s46 := s5.trans s6
      walk_at "r"
      rw [decide_eq_true rfl]
      walk_at "r"
      refine ⟨v1, w1, m, rfl, hw14.same s46, ok1, by omega, fun H7 s7 => ?_⟩
      walk_at "r"
      refine ⟨v2, w2, m, rfl, hw24.same (s46.trans s7), ok2, by omega, fun H8 s8 => ?_⟩
      rw [size_alike al m]
      walk_at "r"
      rw [decide_eq_true rfl]
      have s48 := (s46.trans s7).trans s8
      exact q H8 (s04.trans s48) (d4.same s48)
end
end Esc

namespace Esc
open PySem PySem.Spec PyProof.Rows L2
/-- an exchange is told from none unless it changes nothing -/
theorem part_turn {t e : Int} {k : Kind} {s : List Int} (ok : Way.Ok ⟨[], t, e, k⟩) (hs : s.Perm (countL t)) : partW ⟨[s], t, e, k⟩ ⟨[], t, e, k⟩ = none ↔ s = countL t := by
  have ok1 : Way.Ok ⟨[s], t, e, k⟩ := ⟨by show 1 ≤ 3; decide, ok.t3, ok.t16, ok.e0, ok.e1, ok.kind, fun z hz => by rw [List.mem_singleton.mp hz]; exact hs⟩
  have t3 : 3 ≤ t := ok.t3
  have ls := hs.length_eq
  rw [count_len] at ls
  constructor
  · intro h
    unfold partW at h
    have al := List.find?_eq_none.mp h
    refine List.ext_getElem? fun j => ?_
    by_cases hj : j < t.toNat
    · have hjs : j < s.length := by omega
      have hin : ∀ x ∈ [(j : Int)], 0 ≤ x ∧ x < t := fun x hx => by rw [List.mem_singleton.mp hx]; omega
      have hin2 : ∀ x ∈ [s[j]], 0 ≤ x ∧ x < t := fun x hx => by
        rw [List.mem_singleton.mp hx]
        exact count_mem.mp (hs.subset (List.getElem_mem hjs))
      have m : frameW ⟨[s], t, e, k⟩ [(j : Int)] ∈ tellL ⟨[s], t, e, k⟩ ++ tellL ⟨[], t, e, k⟩ := by
        refine List.mem_append_left _ ?_
        unfold tellL oneSigns
        exact List.mem_append_left _ (List.mem_append_right _ (List.mem_map.mpr ⟨j, List.mem_range.mpr hj, rfl⟩))
      have z := al _ ((List.mergeSort_perm _ _).mem_iff.mpr m)
      have r1 := readW_frame ok1 (b := [(j : Int)]) hin (by show 1 ≤ 60; decide)
      have ef : frameW ⟨[s], t, e, k⟩ [(j : Int)] = frameW ⟨[], t, e, k⟩ [s[j]] := by
        unfold frameW
        show rowOf t e k [s.getD ((j : Int)).toNat 0] ++ [e] = rowOf t e k [s[j]] ++ [e]
        rw [Int.toNat_natCast, List.getD_eq_getElem?_getD, List.getElem?_eq_getElem hjs]
        rfl
      have r2 := readW_frame ok (b := [s[j]]) hin2 (by show 1 ≤ 60; decide)
      rw [r1, ef, r2] at z
      have z2 : some [(j : Int)] = some [s[j]] := by
        refine Classical.byContradiction fun ne => z ?_
        rw [decide_eq_false ne]
        rfl
      rw [List.getElem?_eq_getElem hjs, count_get hj]
      exact congrArg some (List.cons.inj (Option.some.inj z2)).1.symm
    · rw [List.getElem?_eq_none (by omega), List.getElem?_eq_none (by rw [count_len]; omega)]
  · rintro rfl
    exact part_alike (alike_id (ts := [])).symm ok1 ok
section
variable {P : Program} {w : World} {K : PySem.W.Frag} {mg : Str → Option Value} {base : Heap}
def spLaw (K : PySem.W.Frag) : Sp := fun vs H Q _ => ∃ (a : Addr) (ns : List Int), vs = [.ref a] ∧ SqL K H a (ns.map V.int) ∧ ns.length ≤ 63 ∧ ∀ H', Q (.bl true) H'
theorem c_law (Z : Blt mg) (c__law_dice : C8.Cal P w K mg base 1 "_law_dice" (spDice K) []) (c__law_way : C8.Cal P w K mg base 5 "_law_way" (spWay K) []) (c__law_top : C8.Cal P w K mg base 2 "_law_top" (spTopW K) []) (c__law_otherwise : C8.Cal P w K mg base 4 "_law_otherwise" (spOtherwise K) []) (c__law_one : C8.Cal P w K mg base 9 "_law_one" (spOne K) [])
    (c__law_mixed : C8.Cal P w K mg base 2 "_law_mixed" (spMixed K) []) (c__law_core : C8.Cal P w K mg base 1 "_law_core" (spCore K) []) (c_parted : C8.Cal P w K mg base 8 "parted" (spParted K) [])
    {f : Addr} {fd : FuncData} (F : C8.Def K mg "law" s_law f fd) : FnOk P w K mg base C8.CX0 10 f fd P_law (spLaw K) := by
  refine C8.fn0 F.fn sc_law (fun vs H Q E h => ?_) (fun cdv A outer s H vs Q E hr h => ?_)
  · obtain ⟨a, ns, rfl, _⟩ := h
    rfl
  · obtain ⟨a, ns, rfl, ha, hl, q⟩ := h
    have nd := sc_law.nd
    refine ⟨_, (pss_cons (ps_set (i := 1) nd rfl (Or.inl rfl) (C8.pe_c c__law_dice hr (by decide) (by rfl) (pa_cons (pv 0) (pa_cons pe_int pa_nil))))
  (pss_cons (ps_for PassesOwn.never rfl (pi_range1 rfl Z.range_ (pa_cons pe_int pa_nil)) (pg_name (i := 2) nd rfl (Or.inl rfl))
    (pss_cons (ps_set (i := 3) nd rfl (Or.inl rfl) (C8.pe_c c__law_way hr (by decide) (by rfl) (pa_cons (pv 1) pa_nil)))
  (pss_cons (ps_set (i := 4) nd rfl (Or.inl rfl) (C8.pe_c c__law_otherwise hr (by decide) (by rfl) (pa_cons (pv 1) (pa_cons (pv 3) pa_nil))))
  (pss_cons (ps_set (i := 5) nd rfl (Or.inl rfl) (C8.pe_c c__law_otherwise hr (by decide) (by rfl) (pa_cons (pv 1) (pa_cons (pv 4) pa_nil))))
  (pss_cons (ps_if (PW.pt (pw_or (pt_not (pt_val (C8.pe_c c__law_one hr (by decide) (by rfl) (pa_cons (pv 1) (pa_cons (pv 3) (pa_cons (pv 4) pa_nil)))))) (pw_or1 (pt_not (pt_val (C8.pe_c c__law_one hr (by decide) (by rfl) (pa_cons (pv 1) (pa_cons (pv 3) (pa_cons (pv 5) pa_nil))))))))) (pss_one (ps_ret pe_bl)) pss_nil)
  (pss_cons (ps_set (i := 6) nd rfl (Or.inl rfl) (pe_callTy k_tupOfF (by rfl) Z.tuple_ (by decide +kernel) (pa_cons (C8.pe_c c__law_mixed hr (by decide) (by rfl) (pa_cons (pv 1) (pa_cons (pe_listRg rfl rfl Z.list_ (prg_1 rfl Z.range_ (C8.pe_c c__law_top hr (by decide) (by rfl) (pa_cons (pv 3) pa_nil)))) pa_nil))) pa_nil)))
  (pss_cons (ps_set (i := 7) nd rfl (Or.inl rfl) (C8.pe_c c__law_core hr (by decide) (by rfl) (pa_cons (pv 3) pa_nil)))
  (pss_cons (ps_set (i := 8) nd rfl (Or.inl rfl) (C8.pe_c c_parted hr (by decide) (by rfl) (pa_cons (pe_tup (pa_cons pe_str (pa_cons (pv 6) (pa_cons (pv 7) pa_nil)))) (pa_cons (pv 7) pa_nil))))
  (pss_one (ps_if (PW.pt (pw_and (pt_cmpR op_in_seq (pe_ix ix_tup (pv 7) pe_int (fun _ _ => rfl)) (pe_tup (pa_cons pe_str (pa_cons pe_str pa_nil))) (by rfl)) (pw_and1 (pt_cmpR op_ne (pe_cmpR k_isN (pv 8) pe_non (nomark _)) (pe_cmpR (op_eqD hr.units) (pe_callB cr_sortedIT (by rfl) Z.sorted_ (by decide +kernel) (pa_cons (pv 6) pa_nil)) (pe_callTy k_listOf (by rfl) Z.list_ (by decide +kernel) (pa_cons (pv 6) pa_nil)) (nomark _)) (nomark _))))) (pss_one (ps_ret pe_bl)) pss_nil))))))))))
  (pss_one (ps_ret pe_bl)))), ?_⟩
    refine i_start (σ' := [some (.ref a), none, none, none, none, none, none, none, none]) rfl ?_
    walk_at "go"
    walk_at "r"
    refine ⟨a, ns, 0, rfl, ha, by decide, by decide, hl, fun d H1 hd1 s1 d1 => ?_⟩
    walk_at "r"
    refine i_rng ⟨by decide, by decide⟩ (fun i σ' H' => ∃ y2 y3 y4 y5 y6 y7 y8, σ' = [some (.ref a), some (.ref d), y2, y3, y4, y5, y6, y7, y8] ∧ DiceAt H' d) ⟨_, _, _, _, _, _, _, rfl, d1⟩ (fun i σ' H' hi pv => ?_) (fun σ' H' pv => ?_)
    · obtain ⟨y2, y3, y4, y5, y6, y7, y8, rfl, dh⟩ := pv
      walk_at "r"
      refine ⟨d, rfl, dh, fun H2 v wy ok s2 d2 hw => ?_⟩
      have t3 := ok.t3
      have t16 := ok.t16
      walk_at "r"
      refine ⟨d, v, wy, rfl, d2, hw, ok, fun v3 w3 H3 s3 d3 hw3 ok3 al3 => ?_⟩
      have hw13 := hw.same (tp_dice d2 s3)
      walk_at "r"
      refine ⟨d, v3, w3, rfl, d3, hw3, ok3, fun v4 w4 H4 s4 d4 hw4 ok4 al4 => ?_⟩
      have hw14 := hw13.same (tp_dice d3 s4)
      have hw34 := hw3.same (tp_dice d3 s4)
      walk_at "r"
      refine ⟨d, v, v3, wy, w3, rfl, d4, hw14, hw34, ok, ok3, al3, fun H5 s5 d5 => ?_⟩
      have hw15 := hw14.same (tp_dice d4 s5)
      have hw45 := hw4.same (tp_dice d4 s5)
      walk_at "r"
      refine ⟨d, v, v4, wy, w4, rfl, d5, hw15, hw45, ok, ok4, al3.trans al4, fun H6 s6 d6 => ?_⟩
      have hw16 := hw15.same (tp_dice d5 s6)
      walk_at "r"
      refine ⟨v, wy, rfl, hw16.same tp_same, ?_⟩
      walk_at "r"
      refine i_lstRg ⟨by omega, by omega⟩ (fun c7 H7 hc7 s7 e7 => ?_)
      have d7 := d6.same s7
      rw [rg_count] at e7
      walk_at "r"
      refine ⟨d, c7, _, rfl, d7, sl_of e7, fun y hy => ?_, by rw [List.length_map, count_len]; omega, fun p8 H8 ys hp8 s8 d8 e8 pp => ?_⟩
      · obtain ⟨z, _, rfl⟩ := List.mem_map.mp hy
        exact fl_int z
      obtain ⟨sg, rfl, psg⟩ := perm_map_inv pp _ rfl
      have hw18 := (hw16.same (tp_pure s7)).same (tp_dice d7 s8)
      walk_at "r"
      refine i_tupOfF (sl_of e8) (fun p9 H9 hp9 s9 e9 => ?_)
      have hw19 := (hw18.same (tp_pure s9)).same tp_same
      obtain ⟨tas, p, hts, hwt, hk⟩ := id hw19
      obtain ⟨xs, hx⟩ := hk.head
      have d9 := d8.same s9
      walk_at "r"
      refine ⟨v, tas, p, wy.k.name, _, rfl, hwt, hx, wy.k.name_ne, ?_⟩
      walk_at "r"
      refine i_tup (by show 3 ≤ sizeLine; decide) (fun T H10 hT s10 e10 => ?_)
      have okc : Way.Ok ⟨[], wy.t, wy.e, wy.k⟩ := plainOk ok.kind ok.t3 ok.t16 ok.e0 ok.e1
      have okt : Way.Ok ⟨[sg], wy.t, wy.e, wy.k⟩ := ⟨by show 1 ≤ 3; decide, ok.t3, ok.t16, ok.e0, ok.e1, ok.kind, fun z hz => by rw [List.mem_singleton.mp hz]; exact psg⟩
      have hk10 := hk.same s10
      have e910 := e9.same s10
      walk_at "r"
      refine ⟨.ref T, .ref p, ⟨[sg], wy.t, wy.e, wy.k⟩, ⟨[], wy.t, wy.e, wy.k⟩, rfl, ⟨[(p9, sg)], p, rfl, ⟨T, .ref p, rfl, st_of e10, e910, rfl⟩, hk10⟩, ⟨[], p, rfl, rfl, hk10⟩, okt, okc, rfl, fun u H11 s11 o11 => ?_⟩
      have hx11 := stup (s10.trans s11) hx
      have e911 := e910.same s11
      have d11 := (d9.same s10).same s11
      have key := part_turn okc psg
      generalize partW ⟨[sg], wy.t, wy.e, wy.k⟩ ⟨[], wy.t, wy.e, wy.k⟩ = o at o11 key
      have hu : decide (u = .non) = decide (o = none) := by
        cases o with
        | none =>
          have o11 : u = .non := o11
          rw [o11, decide_eq_true rfl, decide_eq_true rfl]
        | some l =>
          obtain ⟨z, zu, _⟩ : ∃ a, u = V.ref a ∧ H11 a = some (HO.lst (l.map V.int)) := o11
          rw [zu, decide_eq_false (by intro h; cases h), decide_eq_false (by intro h; cases h)]
      walk_at "r"
      refine i_tup (by show 2 ≤ sizeLine; decide) (fun p12 H12 hp12 s12 e12 => ?_)
      have d12 := d11.same s12
      have e912 := e911.same s12
      walk_at "r"
      refine ⟨p12, _, rfl, .inr (st_of e12), rfl, rfl, ?_⟩
      rw [if_neg Bool.false_ne_true]
      generalize inV (V.str wy.k.name) [V.str "counts", V.str "ranks"] = b
      cases b with
      | false =>
        walk_at "r"
        exact ⟨_, _, _, _, _, _, _, rfl, d12⟩
      | true =>
        walk_at "r"
        refine i_sortedIT (e912.st) (fun ms p13 H13 hms hpw hp13 s13 e13 => ?_)
        have e913 := e912.same s13
        walk_at "r"
        refine i_listOfT (e913.st) (fun p14 H14 hp14 s14 e14 => ?_)
        walk_at "r"
        refine i_eqL (sl_of (s14 _ _ e13)) (sl_of e14) ?_
        walk_at "r"
        have em : ms = countL wy.t := perm_count psg hms hpw
        rw [hu]
        have eb : decide (o = none) = decide (ms = sg) := by
          by_cases c : sg = countL wy.t
          · rw [decide_eq_true (key.mpr c), decide_eq_true (em.trans c.symm)]
          · rw [decide_eq_false fun z => c (key.mp z), decide_eq_false fun z => c (z.symm.trans em)]
        rw [eb]
        refine i_nyes rfl ?_
        walk_at "r"
        exact ⟨_, _, _, _, _, _, _, rfl, (d12.same s13).same s14⟩
    · obtain ⟨y2, y3, y4, y5, y6, y7, y8, rfl, dh⟩ := pv
      walk_at "r"
      exact q _
end
end Esc

namespace Esc
open PySem PySem.Spec PyProof.Rows L2
theorem dd_mk {K : PySem.W.Frag} {h : Heap} {mg : Str → Option Value} {x : Str} {st : Stmt} {ps : List Str} {f : Addr} {oc : Value} {od an : Option Addr} {sl : Array (Option Value)} {kV doc pm cdv ct : Value} (X : K.In h) (G : h.Ns mainGlobals mg)
    (a : PySem.W.nsIn K mainGlobals x = some (some (.ref f))) (l : K.lookup f = some ⟨oc, od, .func (PySem.W.fnOf x x (C8.fnArgs st) (C8.fnBody st) (C8.fnScope st) .none kV doc pm an cdv ct), sl⟩) (c : PySem.W.codeIn K cdv x = true) (k : PySem.W.keepIn K (.ref f) = true)
    (hb : ∀ (kV doc pm : Value) (an : Option Addr) (cdv ct : Value) (us : List Value), us.length = ps.length → bindArgs (PySem.W.fnOf x x (C8.fnArgs st) (C8.fnBody st) (C8.fnScope st) .none kV doc pm an cdv ct) ⟨us, []⟩ = pure (ps.zip us)) :
    ∃ fd, C8.Def K mg x st f fd ∧ Binds K fd ps [] :=
  ⟨_, ⟨⟨oc, od, .none, kV, doc, pm, an, cdv, ct, sl, rfl, l, c⟩, PySem.W.mg_of X G a, k⟩, C8.Fun.binds (F := ⟨oc, od, .none, kV, doc, pm, an, cdv, ct, sl, rfl, l, c⟩) rfl hb⟩
theorem kd_mk {K : PySem.W.Frag} {w : World} {a f : Addr} {x : Str} {es : Array DictEntry} {n : Nat} (l : K.lookup a = some ⟨.type "dict", none, .dict es n, #[]⟩) (kl : PySem.W.KeysLit w.params es.toList) (e : PySem.W.nsIn K a x = some (some (.ref f))) : KDct K w a x (.ref f) :=
  ⟨es, n, .ref f, l, kl, e, rfl⟩
theorem ki_mk {K : PySem.W.Frag} {w : World} {a : Addr} {x : Str} {i : Int} {u : Tok} {es : Array DictEntry} {n : Nat} (l : K.lookup a = some ⟨.type "dict", none, .dict es n, #[]⟩) (kl : PySem.W.KeysLit w.params es.toList) (e : PySem.W.nsIn K a x = some (some (.int i u))) : KDct K w a x (.int i) :=
  ⟨es, n, .int i u, l, kl, e, ⟨_, rfl⟩⟩
theorem gi_mk {K : PySem.W.Frag} {h : Heap} {mg : Str → Option Value} {x : Str} {i : Int} {t : Tok} (X : K.In h) (G : h.Ns mainGlobals mg) (a : PySem.W.nsIn K mainGlobals x = some (some (.int i t))) : GI mg x i := ⟨_, PySem.W.mg_of X G a, ⟨_, rfl⟩⟩
theorem gr_mk {K : PySem.W.Frag} {h : Heap} {mg : Str → Option Value} {x : Str} {b : Addr} (X : K.In h) (G : h.Ns mainGlobals mg) (a : PySem.W.nsIn K mainGlobals x = some (some (.ref b))) : GR mg x b := ⟨_, PySem.W.mg_of X G a, rfl⟩
/-- what the top leaves, all together -/
structure Top (K : PySem.W.Frag) (w : World) (mg : Str → Option Value) : Prop where
  Z : Blt mg
  Z2 : Blt2 mg
  d_rank_of : Dd K mg "rank_of" s_rank_of P_rank_of
  d_row_of : Dd K mg "row_of" s_row_of P_row_of
  d_rows_up_to : Dd K mg "rows_up_to" s_rows_up_to P_rows_up_to
  d_need_way : Dd K mg "need_way" s_need_way P_need_way
  d_fault_of : Dd K mg "fault_of" s_fault_of P_fault_of
  d_unturned : Dd K mg "unturned" s_unturned P_unturned
  d_plain_signs : Dd K mg "plain_signs" s_plain_signs P_plain_signs
  d_first_unsigned : Dd K mg "first_unsigned" s_first_unsigned P_first_unsigned
  d_is_whole : Dd K mg "is_whole" s_is_whole P_is_whole
  d_is_top : Dd K mg "is_top" s_is_top P_is_top
  d_is_sign : Dd K mg "is_sign" s_is_sign P_is_sign
  d_is_plain : Dd K mg "is_plain" s_is_plain P_is_plain
  d_is_turning : Dd K mg "is_turning" s_is_turning P_is_turning
  d_codes_fault : Dd K mg "codes_fault" s_codes_fault P_codes_fault
  d_is_code : Dd K mg "is_code" s_is_code P_is_code
  d_stand_apart : Dd K mg "stand_apart" s_stand_apart P_stand_apart
  d_escapes_fault : Dd K mg "escapes_fault" s_escapes_fault P_escapes_fault
  d_counts_fault : Dd K mg "counts_fault" s_counts_fault P_counts_fault
  d_ranks_fault : Dd K mg "ranks_fault" s_ranks_fault P_ranks_fault
  d_framed : Dd K mg "framed" s_framed P_framed
  d_body_of : Dd K mg "body_of" s_body_of P_body_of
  d_need_body : Dd K mg "need_body" s_need_body P_need_body
  d_need_signs : Dd K mg "need_signs" s_need_signs P_need_signs
  d_top_of : Dd K mg "top_of" s_top_of P_top_of
  d_frame_of : Dd K mg "frame_of" s_frame_of P_frame_of
  d_exchanged : Dd K mg "exchanged" s_exchanged P_exchanged
  d_taken_out : Dd K mg "taken_out" s_taken_out P_taken_out
  d_by_codes : Dd K mg "by_codes" s_by_codes P_by_codes
  d_from_codes : Dd K mg "from_codes" s_from_codes P_from_codes
  d_by_escapes : Dd K mg "by_escapes" s_by_escapes P_by_escapes
  d_from_escapes : Dd K mg "from_escapes" s_from_escapes P_from_escapes
  d_by_counts : Dd K mg "by_counts" s_by_counts P_by_counts
  d_rows_between : Dd K mg "rows_between" s_rows_between P_rows_between
  d_grouped : Dd K mg "grouped" s_grouped P_grouped
  d_from_counts : Dd K mg "from_counts" s_from_counts P_from_counts
  d_by_ranks : Dd K mg "by_ranks" s_by_ranks P_by_ranks
  d_from_ranks : Dd K mg "from_ranks" s_from_ranks P_from_ranks
  d_parted : Dd K mg "parted" s_parted P_parted
  d_in_order : Dd K mg "in_order" s_in_order P_in_order
  d_telling_lists : Dd K mg "telling_lists" s_telling_lists P_telling_lists
  d_one_too_many : Dd K mg "one_too_many" s_one_too_many P_one_too_many
  d_worst : Dd K mg "worst" s_worst P_worst
  d_frames_of : Dd K mg "frames_of" s_frames_of P_frames_of
  d_ranks_of_size : Dd K mg "ranks_of_size" s_ranks_of_size P_ranks_of_size
  d_pieces_of_size : Dd K mg "pieces_of_size" s_pieces_of_size P_pieces_of_size
  d_groups_of_size : Dd K mg "groups_of_size" s_groups_of_size P_groups_of_size
  d_bodies_of_size : Dd K mg "bodies_of_size" s_bodies_of_size P_bodies_of_size
  d__law_dice : Dd K mg "_law_dice" s__law_dice P__law_dice
  d__law_off : Dd K mg "_law_off" s__law_off P__law_off
  d__law_alike : Dd K mg "_law_alike" s__law_alike P__law_alike
  d__law_mixed : Dd K mg "_law_mixed" s__law_mixed P__law_mixed
  d__law_plain : Dd K mg "_law_plain" s__law_plain P__law_plain
  d__law_codes : Dd K mg "_law_codes" s__law_codes P__law_codes
  d__law_escapes : Dd K mg "_law_escapes" s__law_escapes P__law_escapes
  d__law_base : Dd K mg "_law_base" s__law_base P__law_base
  d__law_turned : Dd K mg "_law_turned" s__law_turned P__law_turned
  d__law_core : Dd K mg "_law_core" s__law_core P__law_core
  d__law_top : Dd K mg "_law_top" s__law_top P__law_top
  d__law_end : Dd K mg "_law_end" s__law_end P__law_end
  d__law_size : Dd K mg "_law_size" s__law_size P__law_size
  d__law_way : Dd K mg "_law_way" s__law_way P__law_way
  d__law_body : Dd K mg "_law_body" s__law_body P__law_body
  d__law_number : Dd K mg "_law_number" s__law_number P__law_number
  d__law_list : Dd K mg "_law_list" s__law_list P__law_list
  d__law_rows : Dd K mg "_law_rows" s__law_rows P__law_rows
  d__law_counted : Dd K mg "_law_counted" s__law_counted P__law_counted
  d__law_framed : Dd K mg "_law_framed" s__law_framed P__law_framed
  d__law_turns : Dd K mg "_law_turns" s__law_turns P__law_turns
  d__law_escape_codes : Dd K mg "_law_escape_codes" s__law_escape_codes P__law_escape_codes
  d__law_signs : Dd K mg "_law_signs" s__law_signs P__law_signs
  d__law_escaped : Dd K mg "_law_escaped" s__law_escaped P__law_escaped
  d__law_folded : Dd K mg "_law_folded" s__law_folded P__law_folded
  d__law_otherwise : Dd K mg "_law_otherwise" s__law_otherwise P__law_otherwise
  d__law_one : Dd K mg "_law_one" s__law_one P__law_one
  LEAST_TOP : GI mg "LEAST_TOP" 3
  MOST_TOP : GI mg "MOST_TOP" 16
  LONGEST_CODE : GI mg "LONGEST_CODE" 4
  MOST_TURNED : GI mg "MOST_TURNED" 3
  MOST_BODY : GI mg "MOST_BODY" 60
  MOST_SIGNS : GI mg "MOST_SIGNS" 400
  LONGEST_FRAME : GI mg "LONGEST_FRAME" 241
  tb_FAULTS : ∃ p, GR mg "FAULTS" p ∧ (∃ f, mg "codes_fault" = some (.ref f) ∧ KDct K w p "codes" (.ref f)) ∧ (∃ f, mg "escapes_fault" = some (.ref f) ∧ KDct K w p "escapes" (.ref f)) ∧ (∃ f, mg "counts_fault" = some (.ref f) ∧ KDct K w p "counts" (.ref f)) ∧ (∃ f, mg "ranks_fault" = some (.ref f) ∧ KDct K w p "ranks" (.ref f))
  tb_FRAMERS : ∃ p, GR mg "FRAMERS" p ∧ (∃ f, mg "by_codes" = some (.ref f) ∧ KDct K w p "codes" (.ref f)) ∧ (∃ f, mg "by_escapes" = some (.ref f) ∧ KDct K w p "escapes" (.ref f)) ∧ (∃ f, mg "by_counts" = some (.ref f) ∧ KDct K w p "counts" (.ref f)) ∧ (∃ f, mg "by_ranks" = some (.ref f) ∧ KDct K w p "ranks" (.ref f))
  tb_READERS : ∃ p, GR mg "READERS" p ∧ (∃ f, mg "from_codes" = some (.ref f) ∧ KDct K w p "codes" (.ref f)) ∧ (∃ f, mg "from_escapes" = some (.ref f) ∧ KDct K w p "escapes" (.ref f)) ∧ (∃ f, mg "from_counts" = some (.ref f) ∧ KDct K w p "counts" (.ref f)) ∧ (∃ f, mg "from_ranks" = some (.ref f) ∧ KDct K w p "ranks" (.ref f))
  tb_COUNTERS : ∃ p, GR mg "COUNTERS" p ∧ (∃ f, mg "pieces_of_size" = some (.ref f) ∧ KDct K w p "codes" (.ref f)) ∧ (∃ f, mg "pieces_of_size" = some (.ref f) ∧ KDct K w p "escapes" (.ref f)) ∧ (∃ f, mg "groups_of_size" = some (.ref f) ∧ KDct K w p "counts" (.ref f)) ∧ (∃ f, mg "ranks_of_size" = some (.ref f) ∧ KDct K w p "ranks" (.ref f))
set_option maxHeartbeats 0 in
theorem lawT {P : Program} {w : World} {K : PySem.W.Frag} {mg : Str → Option Value} {base : Heap} (T : Top K w mg) {f : Addr} {fd : FuncData} (F : C8.Def K mg "law" s_law f fd) : FnOk P w K mg base C8.CX0 10 f fd P_law (spLaw K) := by
  obtain ⟨p_FAULTS, g_FAULTS, ⟨f_FAULTS_codes, m_FAULTS_codes, n_FAULTS_codes⟩, ⟨f_FAULTS_escapes, m_FAULTS_escapes, n_FAULTS_escapes⟩, ⟨f_FAULTS_counts, m_FAULTS_counts, n_FAULTS_counts⟩, ⟨f_FAULTS_ranks, m_FAULTS_ranks, n_FAULTS_ranks⟩⟩ := T.tb_FAULTS
  obtain ⟨p_FRAMERS, g_FRAMERS, ⟨f_FRAMERS_codes, m_FRAMERS_codes, n_FRAMERS_codes⟩, ⟨f_FRAMERS_escapes, m_FRAMERS_escapes, n_FRAMERS_escapes⟩, ⟨f_FRAMERS_counts, m_FRAMERS_counts, n_FRAMERS_counts⟩, ⟨f_FRAMERS_ranks, m_FRAMERS_ranks, n_FRAMERS_ranks⟩⟩ := T.tb_FRAMERS
  obtain ⟨p_READERS, g_READERS, ⟨f_READERS_codes, m_READERS_codes, n_READERS_codes⟩, ⟨f_READERS_escapes, m_READERS_escapes, n_READERS_escapes⟩, ⟨f_READERS_counts, m_READERS_counts, n_READERS_counts⟩, ⟨f_READERS_ranks, m_READERS_ranks, n_READERS_ranks⟩⟩ := T.tb_READERS
  obtain ⟨p_COUNTERS, g_COUNTERS, ⟨f_COUNTERS_codes, m_COUNTERS_codes, n_COUNTERS_codes⟩, ⟨f_COUNTERS_escapes, m_COUNTERS_escapes, n_COUNTERS_escapes⟩, ⟨f_COUNTERS_counts, m_COUNTERS_counts, n_COUNTERS_counts⟩, ⟨f_COUNTERS_ranks, m_COUNTERS_ranks, n_COUNTERS_ranks⟩⟩ := T.tb_COUNTERS
  have h0 : C8.Cal P w K mg base 1 "is_whole" spWholeI [] := c_is_whole T.Z T.d_is_whole
  have h1 : C8.Cal P w K mg base 2 "is_sign" spSignI [] := c_is_sign T.Z h0 T.d_is_sign
  have h2 : C8.Cal P w K mg base 2 "is_top" spTopI [] := c_is_top T.Z h0 T.LEAST_TOP T.MOST_TOP T.d_is_top
  have h3 : C8.Cal P w K mg base 1 "plain_signs" spPlain [] := c_plain_signs T.Z T.d_plain_signs
  have h4 : C8.Cal P w K mg base 3 "first_unsigned" (spFirst K) [] := c_first_unsigned T.Z h1 T.d_first_unsigned
  have h5 : C8.Cal P w K mg base 1 "ranks_fault" spRanksFault [] := c_ranks_fault T.d_ranks_fault
  have h6 : C8.Cal P w K mg base 1 "rank_of" (spRankOf K) [] := c_rank_of T.Z T.d_rank_of
  have h7 : C8.Cal P w K mg base 1 "row_of" (spRowOf K) [] := c_row_of T.Z T.d_row_of
  have h8 : C8.Cal P w K mg base 1 "unturned" (spUnturned K) [] := c_unturned T.d_unturned
  have h9 : C8.Cal P w K mg base 1 "_law_off" spOff [] := c_off T.Z T.d__law_off
  have h10 : C8.Cal P w K mg base 1 "_law_dice" (spDice K) [] := c_dice T.Z T.d__law_dice
  have h11 : C8.Cal P w K mg base 1 "_law_plain" spPlain [] := c_law_plain T.Z T.d__law_plain
  have h12 : C8.Cal P w K mg base 2 "_law_size" spSize [] := c_law_size h9 T.d__law_size
  have h13 : C8.Cal P w K mg base 2 "_law_body" spBody [] := c_law_body T.Z h9 T.d__law_body
  have h14 : C8.Cal P w K mg base 2 "_law_mixed" (spMixed K) [] := c_mixed T.Z h9 T.d__law_mixed
  have h15 : C8.Cal P w K mg base 1 "_law_core" (spCore K) [] := c_core T.d__law_core
  have h16 : C8.Cal P w K mg base 2 "_law_top" (spTopW K) [] := c_top h15 T.d__law_top
  have h17 : C8.Cal P w K mg base 2 "_law_end" (spEndW K) [] := c_end h15 T.d__law_end
  have h18 : C8.Cal P w K mg base 3 "_law_turned" (spTurned K) [] := c_turned T.Z h9 h14 h16 T.d__law_turned
  have h19 : C8.Cal P w K mg base 3 "_law_codes" (spBase K) [] := c_codes T.Z h9 h11 h14 T.d__law_codes
  have h20 : C8.Cal P w K mg base 3 "_law_escapes" (spBase K) [] := c_escapes T.Z h9 h11 h14 T.d__law_escapes
  have h21 : C8.Cal P w K mg base 4 "_law_base" (spBaseT K) [] := c_base T.Z h9 h19 h20 T.d__law_base
  have h22 : C8.Cal P w K mg base 5 "_law_way" (spWay K) [] := c_way h12 h21 h18 T.d__law_way
  have h23 : C8.Cal P w K mg base 3 "is_plain" spPlainI [] := c_is_plain h1 T.d_is_plain
  have h24 : C8.Cal P w K mg base 2 "counts_fault" (spCountsF K) [] := c_counts_fault h0 T.d_counts_fault
  have h25 : C8.Cal P w K mg base 3 "first_unsigned" (spFirstT K) [] := c_first_unsignedT T.Z h1 T.d_first_unsigned
  have h26 : C8.Cal P w K mg base 4 "is_turning" (spTurnT K) [] := c_is_turning T.Z h25 T.d_is_turning
  have h27 : C8.Cal P w K mg base 4 "is_code" (spCodeI K) [] := c_is_code T.Z h23 T.LONGEST_CODE T.d_is_code
  have h28 : C8.Cal P w K mg base 1 "stand_apart" (spApart K) [] := c_stand_apart T.Z T.d_stand_apart
  have h29 : C8.Cal P w K mg base 5 "codes_fault" (spCodesF K) [] := c_codes_fault T.Z h27 h28 T.d_codes_fault
  have h30 : C8.Cal P w K mg base 4 "escapes_fault" (spEscF K) [] := c_escapes_fault T.Z h23 h4 T.d_escapes_fault
  have h31 : C8.Cal P w K mg base 6 "fault_of" (spNeedW K) [] := c_fault_of T.Z T.MOST_TURNED g_FAULTS ⟨⟨f_FAULTS_codes, m_FAULTS_codes, n_FAULTS_codes, h29⟩, ⟨f_FAULTS_escapes, m_FAULTS_escapes, n_FAULTS_escapes, h30⟩, ⟨f_FAULTS_counts, m_FAULTS_counts, n_FAULTS_counts, h24⟩, ⟨f_FAULTS_ranks, m_FAULTS_ranks, n_FAULTS_ranks, h5⟩⟩ h8 h2 h1 h26 T.d_fault_of
  have h32 : C8.Cal P w K mg base 7 "need_way" (spNeedW K) [] := c_need_way h31 T.d_need_way
  have h33 : C8.Cal P w K mg base 1 "by_codes" (spByK K isCodes rowOf) [] := c_by_codes T.d_by_codes
  have h34 : C8.Cal P w K mg base 1 "by_escapes" (spByK K isEscapes rowOf) [] := c_by_escapes T.d_by_escapes
  have h35 : C8.Cal P w K mg base 1 "rows_between" (spRows K) [] := c_rows_between T.d_rows_between
  have h36 : C8.Cal P w K mg base 1 "grouped" (spGroup K) [] := c_grouped T.Z T.d_grouped
  have h37 : C8.Cal P w K mg base 2 "by_counts" (spByK K isCounts rowOf) [] := c_by_counts T.Z h3 h35 h36 T.d_by_counts
  have h38 : C8.Cal P w K mg base 2 "by_ranks" (spByK K isRanks rowOf) [] := c_by_ranks T.Z h7 h6 h3 T.d_by_ranks
  have h39 : C8.Cal P w K mg base 1 "exchanged" (spExch K) [] := c_exchanged T.d_exchanged
  have h40 : C8.Cal P w K mg base 3 "frame_of" (spFrameW K) [] := c_frame_of g_FRAMERS ⟨⟨f_FRAMERS_codes, m_FRAMERS_codes, n_FRAMERS_codes, h33⟩, ⟨f_FRAMERS_escapes, m_FRAMERS_escapes, n_FRAMERS_escapes, h34⟩, ⟨f_FRAMERS_counts, m_FRAMERS_counts, n_FRAMERS_counts, h37⟩, ⟨f_FRAMERS_ranks, m_FRAMERS_ranks, n_FRAMERS_ranks, h38⟩⟩ h8 h39 T.d_frame_of
  have h41 : C8.Cal P w K mg base 0 "_law_alike" spNever [] := c_never T.d__law_alike
  have h42 : C8.Cal P w K mg base 4 "_law_alike" (spAlikeD 3) [] := c_alikeD T.Z T.Z2 T.d__law_alike 3
  have h43 : C8.Cal P w K mg base 1 "from_escapes" (spFromR K isEscapes) [] := c_from_escapes T.d_from_escapes
  have h44 : C8.Cal P w K mg base 2 "from_counts" (spFromR K isCounts) [] := c_from_counts T.Z h3 T.d_from_counts
  have h45 : C8.Cal P w K mg base 1 "from_codes" (spFromR K isCodes) [] := c_from_codes T.Z T.d_from_codes
  have h46 : C8.Cal P w K mg base 2 "from_ranks" (spFromR K isRanks) [] := c_from_ranks T.Z h7 h6 h3 T.d_from_ranks
  have h47 : C8.Cal P w K mg base 2 "top_of" (spTopOf K) [] := c_top_of h8 T.d_top_of
  have h48 : C8.Cal P w K mg base 4 "need_body" (spBodyN K 60) [] := c_need_body T.Z T.MOST_BODY h47 h4 T.d_need_body
  have h49 : C8.Cal P w K mg base 4 "need_signs" (spBodyN K 400) [] := c_need_signs T.Z T.MOST_SIGNS h47 h4 T.d_need_signs
  have h50 : C8.Cal P w K mg base 4 "taken_out" (spTakenR K) [] := c_taken_out T.Z g_READERS ⟨⟨f_READERS_codes, m_READERS_codes, n_READERS_codes, h45⟩, ⟨f_READERS_escapes, m_READERS_escapes, n_READERS_escapes, h43⟩, ⟨f_READERS_counts, m_READERS_counts, n_READERS_counts, h44⟩, ⟨f_READERS_ranks, m_READERS_ranks, n_READERS_ranks, h46⟩⟩ T.MOST_BODY T.LONGEST_FRAME h40 h8 T.d_taken_out
  have h51 : C8.Cal P w K mg base 8 "framed" (spFramed K) [] := c_framed h32 h48 h40 T.d_framed
  have h52 : C8.Cal P w K mg base 8 "body_of" (spTakenB K) [] := c_body_of h32 h49 h50 T.d_body_of
  have h53 : C8.Cal P w K mg base 8 "worst" (spWorst K) [] := c_worst T.Z h32 h47 h40 T.d_worst
  have h54 : C8.Cal P w K mg base 1 "_law_number" (spNumber K) [] := c_law_number T.d__law_number
  have h55 : C8.Cal P w K mg base 1 "_law_list" spList [] := c_law_list T.Z T.d__law_list
  have h56 : C8.Cal P w K mg base 1 "_law_rows" (spLRows K) [] := c_law_rows T.Z T.d__law_rows
  have h57 : C8.Cal P w K mg base 2 "_law_counted" (spCounted K) [] := c_law_counted T.Z h56 T.d__law_counted
  have h58 : C8.Cal P w K mg base 6 "_law_framed" (spLFramed K 3) [] := c_law_framedN T.Z h11 h57 h54 h55 T.d__law_framed 3
  have h59 : C8.Cal P w K mg base 7 "_law_signs" (spSigns K) [] := c_law_signs T.Z h16 h17 h9 h13 h58 T.d__law_signs
  have h60 : C8.Cal P w K mg base 1 "rows_up_to" spUpTo [] := c_rows_up_to T.Z T.d_rows_up_to
  have h61 : C8.Cal P w K mg base 2 "ranks_of_size" (spRanksN K) [] := c_ranks_of_size T.Z T.MOST_BODY h60 T.d_ranks_of_size
  have h62 : C8.Cal P w K mg base 1 "bodies_of_size" (spBodiesN K) [] := c_bodies_of_size T.Z T.MOST_BODY T.d_bodies_of_size
  have h63 : C8.Cal P w K mg base 2 "groups_of_size" (spCountK K isCounts) [] := c_groups_of_size T.Z h62 T.d_groups_of_size
  have h64 : C8.Cal P w K mg base 4 "pieces_of_size" (spCountK K isPieces) [] := c_pieces_of_size T.Z h40 h62 T.d_pieces_of_size
  have h65 : C8.Cal P w K mg base 8 "frames_of" (spFramesN K) [] := c_frames_of g_COUNTERS ⟨⟨f_COUNTERS_codes, m_COUNTERS_codes, n_COUNTERS_codes, h64⟩, ⟨f_COUNTERS_escapes, m_COUNTERS_escapes, n_COUNTERS_escapes, h64⟩, ⟨f_COUNTERS_counts, m_COUNTERS_counts, n_COUNTERS_counts, h63⟩, ⟨f_COUNTERS_ranks, m_COUNTERS_ranks, n_COUNTERS_ranks, h61⟩⟩ h32 h8 T.d_frames_of
  have h66 : C8.Cal P w K mg base 2 "one_too_many" (spOneToo K) [] := c_one_too_many h3 T.d_one_too_many
  have h67 : C8.Cal P w K mg base 4 "telling_lists" (spTelling K) [] := c_telling_lists T.Z h8 h40 h47 h66 T.d_telling_lists
  have h68 : C8.Cal P w K mg base 1 "in_order" (spInOrder K) [] := c_in_order T.Z T.d_in_order
  have h69 : C8.Cal P w K mg base 8 "parted" (spParted K) [] := c_parted T.Z h32 h47 h68 h67 h50 T.d_parted
  have h70 : C8.Cal P w K mg base 1 "_law_escape_codes" (spEscC K) [] := c__law_escape_codes T.Z T.d__law_escape_codes
  have h71 : C8.Cal P w K mg base 2 "_law_escaped" (spEscaped K) [] := c__law_escaped h70 T.d__law_escaped
  have h72 : C8.Cal P w K mg base 1 "_law_turns" (spTurnsL K) [] := c__law_turns T.d__law_turns
  have h73 : C8.Cal P w K mg base 3 "_law_folded" (spFolded K) [] := c__law_folded T.Z h71 T.d__law_folded
  have h74 : C8.Cal P w K mg base 4 "_law_otherwise" (spOtherwise K) [] := c__law_otherwise T.Z h16 h71 h73 h9 h72 h15 h14 T.d__law_otherwise
  have h75 : C8.Cal P w K mg base 9 "_law_one" (spOne K) [] := c__law_one T.Z h16 h69 h13 h17 h59 h42 h51 h52 h9 h53 h65 T.d__law_one
  exact c_law T.Z h10 h22 h16 h74 h75 h14 h15 h69 F
theorem law_mk {l : PySem.W.OpenLaw} {w : World} {K : PySem.W.Frag} {h : Heap} {mg : Str → Option Value} {fa f : Addr} {oc : Value} {od an : Option Addr} {sl : Array (Option Value)} {kV doc pm cdv ct : Value} (X : K.In h) (G : h.Ns mainGlobals mg) (hfa : mg "law" = some (.ref fa))
    (a : PySem.W.nsIn K mainGlobals "law" = some (some (.ref f))) (lk : K.lookup f = some ⟨oc, od, .func (PySem.W.fnOf "law" "law" (C8.fnArgs s_law) (C8.fnBody s_law) (C8.fnScope s_law) .none kV doc pm an cdv ct), sl⟩) (c : PySem.W.codeIn K cdv "law" = true) (k : PySem.W.keepIn K (.ref f) = true)
    (T : Top K w mg) : ∃ fd : FuncData, (∀ (s : Shared) (v : Value), BindsTo s fd ⟨[v], []⟩ [("_law_script", v)]) ∧ ∀ base : Heap, K.In base → base.Ns mainGlobals mg → FnOk l.prog w K mg base C8.CX0 10 fa fd ["_law_script"] (spLaw K) := by
  have e := hfa.symm.trans (PySem.W.mg_of X G a)
  cases e
  exact ⟨PySem.W.fnOf "law" "law" (C8.fnArgs s_law) (C8.fnBody s_law) (C8.fnScope s_law) .none kV doc pm an cdv ct, fun s v => .of_eq rfl, fun base _ _ => lawT T ⟨⟨oc, od, .none, kV, doc, pm, an, cdv, ct, sl, rfl, lk, c⟩, hfa, k⟩⟩
set_option maxHeartbeats 0 in
theorem all_mk {l : PySem.W.OpenLaw} {w : World} {K : PySem.W.Frag} {h : Heap} {mg : Str → Option Value} {fa : Addr} (X : K.In h) (G : h.Ns mainGlobals mg) (hfa : mg "law" = some (.ref fa))
    {f_rank_of : Addr} {oc_rank_of : Value} {od_rank_of an_rank_of : Option Addr} {sl_rank_of : Array (Option Value)} {kV_rank_of dc_rank_of pm_rank_of cd_rank_of ct_rank_of : Value}
    {f_row_of : Addr} {oc_row_of : Value} {od_row_of an_row_of : Option Addr} {sl_row_of : Array (Option Value)} {kV_row_of dc_row_of pm_row_of cd_row_of ct_row_of : Value}
    {f_rows_up_to : Addr} {oc_rows_up_to : Value} {od_rows_up_to an_rows_up_to : Option Addr} {sl_rows_up_to : Array (Option Value)} {kV_rows_up_to dc_rows_up_to pm_rows_up_to cd_rows_up_to ct_rows_up_to : Value}
    {f_need_way : Addr} {oc_need_way : Value} {od_need_way an_need_way : Option Addr} {sl_need_way : Array (Option Value)} {kV_need_way dc_need_way pm_need_way cd_need_way ct_need_way : Value}
    {f_fault_of : Addr} {oc_fault_of : Value} {od_fault_of an_fault_of : Option Addr} {sl_fault_of : Array (Option Value)} {kV_fault_of dc_fault_of pm_fault_of cd_fault_of ct_fault_of : Value}
    {f_unturned : Addr} {oc_unturned : Value} {od_unturned an_unturned : Option Addr} {sl_unturned : Array (Option Value)} {kV_unturned dc_unturned pm_unturned cd_unturned ct_unturned : Value}
    {f_plain_signs : Addr} {oc_plain_signs : Value} {od_plain_signs an_plain_signs : Option Addr} {sl_plain_signs : Array (Option Value)} {kV_plain_signs dc_plain_signs pm_plain_signs cd_plain_signs ct_plain_signs : Value}
    {f_first_unsigned : Addr} {oc_first_unsigned : Value} {od_first_unsigned an_first_unsigned : Option Addr} {sl_first_unsigned : Array (Option Value)} {kV_first_unsigned dc_first_unsigned pm_first_unsigned cd_first_unsigned ct_first_unsigned : Value}
    {f_is_whole : Addr} {oc_is_whole : Value} {od_is_whole an_is_whole : Option Addr} {sl_is_whole : Array (Option Value)} {kV_is_whole dc_is_whole pm_is_whole cd_is_whole ct_is_whole : Value}
    {f_is_top : Addr} {oc_is_top : Value} {od_is_top an_is_top : Option Addr} {sl_is_top : Array (Option Value)} {kV_is_top dc_is_top pm_is_top cd_is_top ct_is_top : Value}
    {f_is_sign : Addr} {oc_is_sign : Value} {od_is_sign an_is_sign : Option Addr} {sl_is_sign : Array (Option Value)} {kV_is_sign dc_is_sign pm_is_sign cd_is_sign ct_is_sign : Value}
    {f_is_plain : Addr} {oc_is_plain : Value} {od_is_plain an_is_plain : Option Addr} {sl_is_plain : Array (Option Value)} {kV_is_plain dc_is_plain pm_is_plain cd_is_plain ct_is_plain : Value}
    {f_is_turning : Addr} {oc_is_turning : Value} {od_is_turning an_is_turning : Option Addr} {sl_is_turning : Array (Option Value)} {kV_is_turning dc_is_turning pm_is_turning cd_is_turning ct_is_turning : Value}
    {f_codes_fault : Addr} {oc_codes_fault : Value} {od_codes_fault an_codes_fault : Option Addr} {sl_codes_fault : Array (Option Value)} {kV_codes_fault dc_codes_fault pm_codes_fault cd_codes_fault ct_codes_fault : Value}
    {f_is_code : Addr} {oc_is_code : Value} {od_is_code an_is_code : Option Addr} {sl_is_code : Array (Option Value)} {kV_is_code dc_is_code pm_is_code cd_is_code ct_is_code : Value}
    {f_stand_apart : Addr} {oc_stand_apart : Value} {od_stand_apart an_stand_apart : Option Addr} {sl_stand_apart : Array (Option Value)} {kV_stand_apart dc_stand_apart pm_stand_apart cd_stand_apart ct_stand_apart : Value}
    {f_escapes_fault : Addr} {oc_escapes_fault : Value} {od_escapes_fault an_escapes_fault : Option Addr} {sl_escapes_fault : Array (Option Value)} {kV_escapes_fault dc_escapes_fault pm_escapes_fault cd_escapes_fault ct_escapes_fault : Value}
    {f_counts_fault : Addr} {oc_counts_fault : Value} {od_counts_fault an_counts_fault : Option Addr} {sl_counts_fault : Array (Option Value)} {kV_counts_fault dc_counts_fault pm_counts_fault cd_counts_fault ct_counts_fault : Value}
    {f_ranks_fault : Addr} {oc_ranks_fault : Value} {od_ranks_fault an_ranks_fault : Option Addr} {sl_ranks_fault : Array (Option Value)} {kV_ranks_fault dc_ranks_fault pm_ranks_fault cd_ranks_fault ct_ranks_fault : Value}
    {f_framed : Addr} {oc_framed : Value} {od_framed an_framed : Option Addr} {sl_framed : Array (Option Value)} {kV_framed dc_framed pm_framed cd_framed ct_framed : Value}
    {f_body_of : Addr} {oc_body_of : Value} {od_body_of an_body_of : Option Addr} {sl_body_of : Array (Option Value)} {kV_body_of dc_body_of pm_body_of cd_body_of ct_body_of : Value}
    {f_need_body : Addr} {oc_need_body : Value} {od_need_body an_need_body : Option Addr} {sl_need_body : Array (Option Value)} {kV_need_body dc_need_body pm_need_body cd_need_body ct_need_body : Value}
    {f_need_signs : Addr} {oc_need_signs : Value} {od_need_signs an_need_signs : Option Addr} {sl_need_signs : Array (Option Value)} {kV_need_signs dc_need_signs pm_need_signs cd_need_signs ct_need_signs : Value}
    {f_top_of : Addr} {oc_top_of : Value} {od_top_of an_top_of : Option Addr} {sl_top_of : Array (Option Value)} {kV_top_of dc_top_of pm_top_of cd_top_of ct_top_of : Value}
    {f_frame_of : Addr} {oc_frame_of : Value} {od_frame_of an_frame_of : Option Addr} {sl_frame_of : Array (Option Value)} {kV_frame_of dc_frame_of pm_frame_of cd_frame_of ct_frame_of : Value}
    {f_exchanged : Addr} {oc_exchanged : Value} {od_exchanged an_exchanged : Option Addr} {sl_exchanged : Array (Option Value)} {kV_exchanged dc_exchanged pm_exchanged cd_exchanged ct_exchanged : Value}
    {f_taken_out : Addr} {oc_taken_out : Value} {od_taken_out an_taken_out : Option Addr} {sl_taken_out : Array (Option Value)} {kV_taken_out dc_taken_out pm_taken_out cd_taken_out ct_taken_out : Value}
    {f_by_codes : Addr} {oc_by_codes : Value} {od_by_codes an_by_codes : Option Addr} {sl_by_codes : Array (Option Value)} {kV_by_codes dc_by_codes pm_by_codes cd_by_codes ct_by_codes : Value}
    {f_from_codes : Addr} {oc_from_codes : Value} {od_from_codes an_from_codes : Option Addr} {sl_from_codes : Array (Option Value)} {kV_from_codes dc_from_codes pm_from_codes cd_from_codes ct_from_codes : Value}
    {f_by_escapes : Addr} {oc_by_escapes : Value} {od_by_escapes an_by_escapes : Option Addr} {sl_by_escapes : Array (Option Value)} {kV_by_escapes dc_by_escapes pm_by_escapes cd_by_escapes ct_by_escapes : Value}
    {f_from_escapes : Addr} {oc_from_escapes : Value} {od_from_escapes an_from_escapes : Option Addr} {sl_from_escapes : Array (Option Value)} {kV_from_escapes dc_from_escapes pm_from_escapes cd_from_escapes ct_from_escapes : Value}
    {f_by_counts : Addr} {oc_by_counts : Value} {od_by_counts an_by_counts : Option Addr} {sl_by_counts : Array (Option Value)} {kV_by_counts dc_by_counts pm_by_counts cd_by_counts ct_by_counts : Value}
    {f_rows_between : Addr} {oc_rows_between : Value} {od_rows_between an_rows_between : Option Addr} {sl_rows_between : Array (Option Value)} {kV_rows_between dc_rows_between pm_rows_between cd_rows_between ct_rows_between : Value}
    {f_grouped : Addr} {oc_grouped : Value} {od_grouped an_grouped : Option Addr} {sl_grouped : Array (Option Value)} {kV_grouped dc_grouped pm_grouped cd_grouped ct_grouped : Value}
    {f_from_counts : Addr} {oc_from_counts : Value} {od_from_counts an_from_counts : Option Addr} {sl_from_counts : Array (Option Value)} {kV_from_counts dc_from_counts pm_from_counts cd_from_counts ct_from_counts : Value}
    {f_by_ranks : Addr} {oc_by_ranks : Value} {od_by_ranks an_by_ranks : Option Addr} {sl_by_ranks : Array (Option Value)} {kV_by_ranks dc_by_ranks pm_by_ranks cd_by_ranks ct_by_ranks : Value}
    {f_from_ranks : Addr} {oc_from_ranks : Value} {od_from_ranks an_from_ranks : Option Addr} {sl_from_ranks : Array (Option Value)} {kV_from_ranks dc_from_ranks pm_from_ranks cd_from_ranks ct_from_ranks : Value}
    {f_parted : Addr} {oc_parted : Value} {od_parted an_parted : Option Addr} {sl_parted : Array (Option Value)} {kV_parted dc_parted pm_parted cd_parted ct_parted : Value}
    {f_in_order : Addr} {oc_in_order : Value} {od_in_order an_in_order : Option Addr} {sl_in_order : Array (Option Value)} {kV_in_order dc_in_order pm_in_order cd_in_order ct_in_order : Value}
    {f_telling_lists : Addr} {oc_telling_lists : Value} {od_telling_lists an_telling_lists : Option Addr} {sl_telling_lists : Array (Option Value)} {kV_telling_lists dc_telling_lists pm_telling_lists cd_telling_lists ct_telling_lists : Value}
    {f_one_too_many : Addr} {oc_one_too_many : Value} {od_one_too_many an_one_too_many : Option Addr} {sl_one_too_many : Array (Option Value)} {kV_one_too_many dc_one_too_many pm_one_too_many cd_one_too_many ct_one_too_many : Value}
    {f_worst : Addr} {oc_worst : Value} {od_worst an_worst : Option Addr} {sl_worst : Array (Option Value)} {kV_worst dc_worst pm_worst cd_worst ct_worst : Value}
    {f_frames_of : Addr} {oc_frames_of : Value} {od_frames_of an_frames_of : Option Addr} {sl_frames_of : Array (Option Value)} {kV_frames_of dc_frames_of pm_frames_of cd_frames_of ct_frames_of : Value}
    {f_ranks_of_size : Addr} {oc_ranks_of_size : Value} {od_ranks_of_size an_ranks_of_size : Option Addr} {sl_ranks_of_size : Array (Option Value)} {kV_ranks_of_size dc_ranks_of_size pm_ranks_of_size cd_ranks_of_size ct_ranks_of_size : Value}
    {f_pieces_of_size : Addr} {oc_pieces_of_size : Value} {od_pieces_of_size an_pieces_of_size : Option Addr} {sl_pieces_of_size : Array (Option Value)} {kV_pieces_of_size dc_pieces_of_size pm_pieces_of_size cd_pieces_of_size ct_pieces_of_size : Value}
    {f_groups_of_size : Addr} {oc_groups_of_size : Value} {od_groups_of_size an_groups_of_size : Option Addr} {sl_groups_of_size : Array (Option Value)} {kV_groups_of_size dc_groups_of_size pm_groups_of_size cd_groups_of_size ct_groups_of_size : Value}
    {f_bodies_of_size : Addr} {oc_bodies_of_size : Value} {od_bodies_of_size an_bodies_of_size : Option Addr} {sl_bodies_of_size : Array (Option Value)} {kV_bodies_of_size dc_bodies_of_size pm_bodies_of_size cd_bodies_of_size ct_bodies_of_size : Value}
    {f__law_dice : Addr} {oc__law_dice : Value} {od__law_dice an__law_dice : Option Addr} {sl__law_dice : Array (Option Value)} {kV__law_dice dc__law_dice pm__law_dice cd__law_dice ct__law_dice : Value}
    {f__law_off : Addr} {oc__law_off : Value} {od__law_off an__law_off : Option Addr} {sl__law_off : Array (Option Value)} {kV__law_off dc__law_off pm__law_off cd__law_off ct__law_off : Value}
    {f__law_alike : Addr} {oc__law_alike : Value} {od__law_alike an__law_alike : Option Addr} {sl__law_alike : Array (Option Value)} {kV__law_alike dc__law_alike pm__law_alike cd__law_alike ct__law_alike : Value}
    {f__law_mixed : Addr} {oc__law_mixed : Value} {od__law_mixed an__law_mixed : Option Addr} {sl__law_mixed : Array (Option Value)} {kV__law_mixed dc__law_mixed pm__law_mixed cd__law_mixed ct__law_mixed : Value}
    {f__law_plain : Addr} {oc__law_plain : Value} {od__law_plain an__law_plain : Option Addr} {sl__law_plain : Array (Option Value)} {kV__law_plain dc__law_plain pm__law_plain cd__law_plain ct__law_plain : Value}
    {f__law_codes : Addr} {oc__law_codes : Value} {od__law_codes an__law_codes : Option Addr} {sl__law_codes : Array (Option Value)} {kV__law_codes dc__law_codes pm__law_codes cd__law_codes ct__law_codes : Value}
    {f__law_escapes : Addr} {oc__law_escapes : Value} {od__law_escapes an__law_escapes : Option Addr} {sl__law_escapes : Array (Option Value)} {kV__law_escapes dc__law_escapes pm__law_escapes cd__law_escapes ct__law_escapes : Value}
    {f__law_base : Addr} {oc__law_base : Value} {od__law_base an__law_base : Option Addr} {sl__law_base : Array (Option Value)} {kV__law_base dc__law_base pm__law_base cd__law_base ct__law_base : Value}
    {f__law_turned : Addr} {oc__law_turned : Value} {od__law_turned an__law_turned : Option Addr} {sl__law_turned : Array (Option Value)} {kV__law_turned dc__law_turned pm__law_turned cd__law_turned ct__law_turned : Value}
    {f__law_core : Addr} {oc__law_core : Value} {od__law_core an__law_core : Option Addr} {sl__law_core : Array (Option Value)} {kV__law_core dc__law_core pm__law_core cd__law_core ct__law_core : Value}
    {f__law_top : Addr} {oc__law_top : Value} {od__law_top an__law_top : Option Addr} {sl__law_top : Array (Option Value)} {kV__law_top dc__law_top pm__law_top cd__law_top ct__law_top : Value}
    {f__law_end : Addr} {oc__law_end : Value} {od__law_end an__law_end : Option Addr} {sl__law_end : Array (Option Value)} {kV__law_end dc__law_end pm__law_end cd__law_end ct__law_end : Value}
    {f__law_size : Addr} {oc__law_size : Value} {od__law_size an__law_size : Option Addr} {sl__law_size : Array (Option Value)} {kV__law_size dc__law_size pm__law_size cd__law_size ct__law_size : Value}
    {f__law_way : Addr} {oc__law_way : Value} {od__law_way an__law_way : Option Addr} {sl__law_way : Array (Option Value)} {kV__law_way dc__law_way pm__law_way cd__law_way ct__law_way : Value}
    {f__law_body : Addr} {oc__law_body : Value} {od__law_body an__law_body : Option Addr} {sl__law_body : Array (Option Value)} {kV__law_body dc__law_body pm__law_body cd__law_body ct__law_body : Value}
    {f__law_number : Addr} {oc__law_number : Value} {od__law_number an__law_number : Option Addr} {sl__law_number : Array (Option Value)} {kV__law_number dc__law_number pm__law_number cd__law_number ct__law_number : Value}
    {f__law_list : Addr} {oc__law_list : Value} {od__law_list an__law_list : Option Addr} {sl__law_list : Array (Option Value)} {kV__law_list dc__law_list pm__law_list cd__law_list ct__law_list : Value}
    {f__law_rows : Addr} {oc__law_rows : Value} {od__law_rows an__law_rows : Option Addr} {sl__law_rows : Array (Option Value)} {kV__law_rows dc__law_rows pm__law_rows cd__law_rows ct__law_rows : Value}
    {f__law_counted : Addr} {oc__law_counted : Value} {od__law_counted an__law_counted : Option Addr} {sl__law_counted : Array (Option Value)} {kV__law_counted dc__law_counted pm__law_counted cd__law_counted ct__law_counted : Value}
    {f__law_framed : Addr} {oc__law_framed : Value} {od__law_framed an__law_framed : Option Addr} {sl__law_framed : Array (Option Value)} {kV__law_framed dc__law_framed pm__law_framed cd__law_framed ct__law_framed : Value}
    {f__law_turns : Addr} {oc__law_turns : Value} {od__law_turns an__law_turns : Option Addr} {sl__law_turns : Array (Option Value)} {kV__law_turns dc__law_turns pm__law_turns cd__law_turns ct__law_turns : Value}
    {f__law_escape_codes : Addr} {oc__law_escape_codes : Value} {od__law_escape_codes an__law_escape_codes : Option Addr} {sl__law_escape_codes : Array (Option Value)} {kV__law_escape_codes dc__law_escape_codes pm__law_escape_codes cd__law_escape_codes ct__law_escape_codes : Value}
    {f__law_signs : Addr} {oc__law_signs : Value} {od__law_signs an__law_signs : Option Addr} {sl__law_signs : Array (Option Value)} {kV__law_signs dc__law_signs pm__law_signs cd__law_signs ct__law_signs : Value}
    {f__law_escaped : Addr} {oc__law_escaped : Value} {od__law_escaped an__law_escaped : Option Addr} {sl__law_escaped : Array (Option Value)} {kV__law_escaped dc__law_escaped pm__law_escaped cd__law_escaped ct__law_escaped : Value}
    {f__law_folded : Addr} {oc__law_folded : Value} {od__law_folded an__law_folded : Option Addr} {sl__law_folded : Array (Option Value)} {kV__law_folded dc__law_folded pm__law_folded cd__law_folded ct__law_folded : Value}
    {f__law_otherwise : Addr} {oc__law_otherwise : Value} {od__law_otherwise an__law_otherwise : Option Addr} {sl__law_otherwise : Array (Option Value)} {kV__law_otherwise dc__law_otherwise pm__law_otherwise cd__law_otherwise ct__law_otherwise : Value}
    {f__law_one : Addr} {oc__law_one : Value} {od__law_one an__law_one : Option Addr} {sl__law_one : Array (Option Value)} {kV__law_one dc__law_one pm__law_one cd__law_one ct__law_one : Value}
    {f_law : Addr} {oc_law : Value} {od_law an_law : Option Addr} {sl_law : Array (Option Value)} {kV_law dc_law pm_law cd_law ct_law : Value}
    {t_LEAST_TOP : Tok}
    {t_MOST_TOP : Tok}
    {t_LONGEST_CODE : Tok}
    {t_MOST_TURNED : Tok}
    {t_MOST_BODY : Tok}
    {t_MOST_SIGNS : Tok}
    {t_LONGEST_FRAME : Tok}
    {p_FAULTS : Addr} {es_FAULTS : Array DictEntry} {n_FAULTS : Nat}
    {p_FRAMERS : Addr} {es_FRAMERS : Array DictEntry} {n_FRAMERS : Nat}
    {p_READERS : Addr} {es_READERS : Array DictEntry} {n_READERS : Nat}
    {p_COUNTERS : Addr} {es_COUNTERS : Array DictEntry} {n_COUNTERS : Nat}
    (z_abs : PySem.W.nsIn K mainGlobals "abs" = some none)
    (z_all : PySem.W.nsIn K mainGlobals "all" = some none)
    (z_enumerate : PySem.W.nsIn K mainGlobals "enumerate" = some none)
    (z_int : PySem.W.nsIn K mainGlobals "int" = some none)
    (z_isinstance : PySem.W.nsIn K mainGlobals "isinstance" = some none)
    (z_len : PySem.W.nsIn K mainGlobals "len" = some none)
    (z_list : PySem.W.nsIn K mainGlobals "list" = some none)
    (z_max : PySem.W.nsIn K mainGlobals "max" = some none)
    (z_min : PySem.W.nsIn K mainGlobals "min" = some none)
    (z_range : PySem.W.nsIn K mainGlobals "range" = some none)
    (z_reversed : PySem.W.nsIn K mainGlobals "reversed" = some none)
    (z_set : PySem.W.nsIn K mainGlobals "set" = some none)
    (z_sorted : PySem.W.nsIn K mainGlobals "sorted" = some none)
    (z_sum : PySem.W.nsIn K mainGlobals "sum" = some none)
    (z_tuple : PySem.W.nsIn K mainGlobals "tuple" = some none)
    (z_type : PySem.W.nsIn K mainGlobals "type" = some none)
    (z_bool : PySem.W.nsIn K mainGlobals "bool" = some none)
    (z_str : PySem.W.nsIn K mainGlobals "str" = some none)
    (a_rank_of : PySem.W.nsIn K mainGlobals "rank_of" = some (some (.ref f_rank_of))) (l_rank_of : K.lookup f_rank_of = some ⟨oc_rank_of, od_rank_of, .func (PySem.W.fnOf "rank_of" "rank_of" (C8.fnArgs s_rank_of) (C8.fnBody s_rank_of) (C8.fnScope s_rank_of) .none kV_rank_of dc_rank_of pm_rank_of an_rank_of cd_rank_of ct_rank_of), sl_rank_of⟩) (c_rank_of : PySem.W.codeIn K cd_rank_of "rank_of" = true) (k_rank_of : PySem.W.keepIn K (.ref f_rank_of) = true)
    (a_row_of : PySem.W.nsIn K mainGlobals "row_of" = some (some (.ref f_row_of))) (l_row_of : K.lookup f_row_of = some ⟨oc_row_of, od_row_of, .func (PySem.W.fnOf "row_of" "row_of" (C8.fnArgs s_row_of) (C8.fnBody s_row_of) (C8.fnScope s_row_of) .none kV_row_of dc_row_of pm_row_of an_row_of cd_row_of ct_row_of), sl_row_of⟩) (c_row_of : PySem.W.codeIn K cd_row_of "row_of" = true) (k_row_of : PySem.W.keepIn K (.ref f_row_of) = true)
    (a_rows_up_to : PySem.W.nsIn K mainGlobals "rows_up_to" = some (some (.ref f_rows_up_to))) (l_rows_up_to : K.lookup f_rows_up_to = some ⟨oc_rows_up_to, od_rows_up_to, .func (PySem.W.fnOf "rows_up_to" "rows_up_to" (C8.fnArgs s_rows_up_to) (C8.fnBody s_rows_up_to) (C8.fnScope s_rows_up_to) .none kV_rows_up_to dc_rows_up_to pm_rows_up_to an_rows_up_to cd_rows_up_to ct_rows_up_to), sl_rows_up_to⟩) (c_rows_up_to : PySem.W.codeIn K cd_rows_up_to "rows_up_to" = true) (k_rows_up_to : PySem.W.keepIn K (.ref f_rows_up_to) = true)
    (a_need_way : PySem.W.nsIn K mainGlobals "need_way" = some (some (.ref f_need_way))) (l_need_way : K.lookup f_need_way = some ⟨oc_need_way, od_need_way, .func (PySem.W.fnOf "need_way" "need_way" (C8.fnArgs s_need_way) (C8.fnBody s_need_way) (C8.fnScope s_need_way) .none kV_need_way dc_need_way pm_need_way an_need_way cd_need_way ct_need_way), sl_need_way⟩) (c_need_way : PySem.W.codeIn K cd_need_way "need_way" = true) (k_need_way : PySem.W.keepIn K (.ref f_need_way) = true)
    (a_fault_of : PySem.W.nsIn K mainGlobals "fault_of" = some (some (.ref f_fault_of))) (l_fault_of : K.lookup f_fault_of = some ⟨oc_fault_of, od_fault_of, .func (PySem.W.fnOf "fault_of" "fault_of" (C8.fnArgs s_fault_of) (C8.fnBody s_fault_of) (C8.fnScope s_fault_of) .none kV_fault_of dc_fault_of pm_fault_of an_fault_of cd_fault_of ct_fault_of), sl_fault_of⟩) (c_fault_of : PySem.W.codeIn K cd_fault_of "fault_of" = true) (k_fault_of : PySem.W.keepIn K (.ref f_fault_of) = true)
    (a_unturned : PySem.W.nsIn K mainGlobals "unturned" = some (some (.ref f_unturned))) (l_unturned : K.lookup f_unturned = some ⟨oc_unturned, od_unturned, .func (PySem.W.fnOf "unturned" "unturned" (C8.fnArgs s_unturned) (C8.fnBody s_unturned) (C8.fnScope s_unturned) .none kV_unturned dc_unturned pm_unturned an_unturned cd_unturned ct_unturned), sl_unturned⟩) (c_unturned : PySem.W.codeIn K cd_unturned "unturned" = true) (k_unturned : PySem.W.keepIn K (.ref f_unturned) = true)
    (a_plain_signs : PySem.W.nsIn K mainGlobals "plain_signs" = some (some (.ref f_plain_signs))) (l_plain_signs : K.lookup f_plain_signs = some ⟨oc_plain_signs, od_plain_signs, .func (PySem.W.fnOf "plain_signs" "plain_signs" (C8.fnArgs s_plain_signs) (C8.fnBody s_plain_signs) (C8.fnScope s_plain_signs) .none kV_plain_signs dc_plain_signs pm_plain_signs an_plain_signs cd_plain_signs ct_plain_signs), sl_plain_signs⟩) (c_plain_signs : PySem.W.codeIn K cd_plain_signs "plain_signs" = true) (k_plain_signs : PySem.W.keepIn K (.ref f_plain_signs) = true)
    (a_first_unsigned : PySem.W.nsIn K mainGlobals "first_unsigned" = some (some (.ref f_first_unsigned))) (l_first_unsigned : K.lookup f_first_unsigned = some ⟨oc_first_unsigned, od_first_unsigned, .func (PySem.W.fnOf "first_unsigned" "first_unsigned" (C8.fnArgs s_first_unsigned) (C8.fnBody s_first_unsigned) (C8.fnScope s_first_unsigned) .none kV_first_unsigned dc_first_unsigned pm_first_unsigned an_first_unsigned cd_first_unsigned ct_first_unsigned), sl_first_unsigned⟩) (c_first_unsigned : PySem.W.codeIn K cd_first_unsigned "first_unsigned" = true) (k_first_unsigned : PySem.W.keepIn K (.ref f_first_unsigned) = true)
    (a_is_whole : PySem.W.nsIn K mainGlobals "is_whole" = some (some (.ref f_is_whole))) (l_is_whole : K.lookup f_is_whole = some ⟨oc_is_whole, od_is_whole, .func (PySem.W.fnOf "is_whole" "is_whole" (C8.fnArgs s_is_whole) (C8.fnBody s_is_whole) (C8.fnScope s_is_whole) .none kV_is_whole dc_is_whole pm_is_whole an_is_whole cd_is_whole ct_is_whole), sl_is_whole⟩) (c_is_whole : PySem.W.codeIn K cd_is_whole "is_whole" = true) (k_is_whole : PySem.W.keepIn K (.ref f_is_whole) = true)
    (a_is_top : PySem.W.nsIn K mainGlobals "is_top" = some (some (.ref f_is_top))) (l_is_top : K.lookup f_is_top = some ⟨oc_is_top, od_is_top, .func (PySem.W.fnOf "is_top" "is_top" (C8.fnArgs s_is_top) (C8.fnBody s_is_top) (C8.fnScope s_is_top) .none kV_is_top dc_is_top pm_is_top an_is_top cd_is_top ct_is_top), sl_is_top⟩) (c_is_top : PySem.W.codeIn K cd_is_top "is_top" = true) (k_is_top : PySem.W.keepIn K (.ref f_is_top) = true)
    (a_is_sign : PySem.W.nsIn K mainGlobals "is_sign" = some (some (.ref f_is_sign))) (l_is_sign : K.lookup f_is_sign = some ⟨oc_is_sign, od_is_sign, .func (PySem.W.fnOf "is_sign" "is_sign" (C8.fnArgs s_is_sign) (C8.fnBody s_is_sign) (C8.fnScope s_is_sign) .none kV_is_sign dc_is_sign pm_is_sign an_is_sign cd_is_sign ct_is_sign), sl_is_sign⟩) (c_is_sign : PySem.W.codeIn K cd_is_sign "is_sign" = true) (k_is_sign : PySem.W.keepIn K (.ref f_is_sign) = true)
    (a_is_plain : PySem.W.nsIn K mainGlobals "is_plain" = some (some (.ref f_is_plain))) (l_is_plain : K.lookup f_is_plain = some ⟨oc_is_plain, od_is_plain, .func (PySem.W.fnOf "is_plain" "is_plain" (C8.fnArgs s_is_plain) (C8.fnBody s_is_plain) (C8.fnScope s_is_plain) .none kV_is_plain dc_is_plain pm_is_plain an_is_plain cd_is_plain ct_is_plain), sl_is_plain⟩) (c_is_plain : PySem.W.codeIn K cd_is_plain "is_plain" = true) (k_is_plain : PySem.W.keepIn K (.ref f_is_plain) = true)
    (a_is_turning : PySem.W.nsIn K mainGlobals "is_turning" = some (some (.ref f_is_turning))) (l_is_turning : K.lookup f_is_turning = some ⟨oc_is_turning, od_is_turning, .func (PySem.W.fnOf "is_turning" "is_turning" (C8.fnArgs s_is_turning) (C8.fnBody s_is_turning) (C8.fnScope s_is_turning) .none kV_is_turning dc_is_turning pm_is_turning an_is_turning cd_is_turning ct_is_turning), sl_is_turning⟩) (c_is_turning : PySem.W.codeIn K cd_is_turning "is_turning" = true) (k_is_turning : PySem.W.keepIn K (.ref f_is_turning) = true)
    (a_codes_fault : PySem.W.nsIn K mainGlobals "codes_fault" = some (some (.ref f_codes_fault))) (l_codes_fault : K.lookup f_codes_fault = some ⟨oc_codes_fault, od_codes_fault, .func (PySem.W.fnOf "codes_fault" "codes_fault" (C8.fnArgs s_codes_fault) (C8.fnBody s_codes_fault) (C8.fnScope s_codes_fault) .none kV_codes_fault dc_codes_fault pm_codes_fault an_codes_fault cd_codes_fault ct_codes_fault), sl_codes_fault⟩) (c_codes_fault : PySem.W.codeIn K cd_codes_fault "codes_fault" = true) (k_codes_fault : PySem.W.keepIn K (.ref f_codes_fault) = true)
    (a_is_code : PySem.W.nsIn K mainGlobals "is_code" = some (some (.ref f_is_code))) (l_is_code : K.lookup f_is_code = some ⟨oc_is_code, od_is_code, .func (PySem.W.fnOf "is_code" "is_code" (C8.fnArgs s_is_code) (C8.fnBody s_is_code) (C8.fnScope s_is_code) .none kV_is_code dc_is_code pm_is_code an_is_code cd_is_code ct_is_code), sl_is_code⟩) (c_is_code : PySem.W.codeIn K cd_is_code "is_code" = true) (k_is_code : PySem.W.keepIn K (.ref f_is_code) = true)
    (a_stand_apart : PySem.W.nsIn K mainGlobals "stand_apart" = some (some (.ref f_stand_apart))) (l_stand_apart : K.lookup f_stand_apart = some ⟨oc_stand_apart, od_stand_apart, .func (PySem.W.fnOf "stand_apart" "stand_apart" (C8.fnArgs s_stand_apart) (C8.fnBody s_stand_apart) (C8.fnScope s_stand_apart) .none kV_stand_apart dc_stand_apart pm_stand_apart an_stand_apart cd_stand_apart ct_stand_apart), sl_stand_apart⟩) (c_stand_apart : PySem.W.codeIn K cd_stand_apart "stand_apart" = true) (k_stand_apart : PySem.W.keepIn K (.ref f_stand_apart) = true)
    (a_escapes_fault : PySem.W.nsIn K mainGlobals "escapes_fault" = some (some (.ref f_escapes_fault))) (l_escapes_fault : K.lookup f_escapes_fault = some ⟨oc_escapes_fault, od_escapes_fault, .func (PySem.W.fnOf "escapes_fault" "escapes_fault" (C8.fnArgs s_escapes_fault) (C8.fnBody s_escapes_fault) (C8.fnScope s_escapes_fault) .none kV_escapes_fault dc_escapes_fault pm_escapes_fault an_escapes_fault cd_escapes_fault ct_escapes_fault), sl_escapes_fault⟩) (c_escapes_fault : PySem.W.codeIn K cd_escapes_fault "escapes_fault" = true) (k_escapes_fault : PySem.W.keepIn K (.ref f_escapes_fault) = true)
    (a_counts_fault : PySem.W.nsIn K mainGlobals "counts_fault" = some (some (.ref f_counts_fault))) (l_counts_fault : K.lookup f_counts_fault = some ⟨oc_counts_fault, od_counts_fault, .func (PySem.W.fnOf "counts_fault" "counts_fault" (C8.fnArgs s_counts_fault) (C8.fnBody s_counts_fault) (C8.fnScope s_counts_fault) .none kV_counts_fault dc_counts_fault pm_counts_fault an_counts_fault cd_counts_fault ct_counts_fault), sl_counts_fault⟩) (c_counts_fault : PySem.W.codeIn K cd_counts_fault "counts_fault" = true) (k_counts_fault : PySem.W.keepIn K (.ref f_counts_fault) = true)
    (a_ranks_fault : PySem.W.nsIn K mainGlobals "ranks_fault" = some (some (.ref f_ranks_fault))) (l_ranks_fault : K.lookup f_ranks_fault = some ⟨oc_ranks_fault, od_ranks_fault, .func (PySem.W.fnOf "ranks_fault" "ranks_fault" (C8.fnArgs s_ranks_fault) (C8.fnBody s_ranks_fault) (C8.fnScope s_ranks_fault) .none kV_ranks_fault dc_ranks_fault pm_ranks_fault an_ranks_fault cd_ranks_fault ct_ranks_fault), sl_ranks_fault⟩) (c_ranks_fault : PySem.W.codeIn K cd_ranks_fault "ranks_fault" = true) (k_ranks_fault : PySem.W.keepIn K (.ref f_ranks_fault) = true)
    (a_framed : PySem.W.nsIn K mainGlobals "framed" = some (some (.ref f_framed))) (l_framed : K.lookup f_framed = some ⟨oc_framed, od_framed, .func (PySem.W.fnOf "framed" "framed" (C8.fnArgs s_framed) (C8.fnBody s_framed) (C8.fnScope s_framed) .none kV_framed dc_framed pm_framed an_framed cd_framed ct_framed), sl_framed⟩) (c_framed : PySem.W.codeIn K cd_framed "framed" = true) (k_framed : PySem.W.keepIn K (.ref f_framed) = true)
    (a_body_of : PySem.W.nsIn K mainGlobals "body_of" = some (some (.ref f_body_of))) (l_body_of : K.lookup f_body_of = some ⟨oc_body_of, od_body_of, .func (PySem.W.fnOf "body_of" "body_of" (C8.fnArgs s_body_of) (C8.fnBody s_body_of) (C8.fnScope s_body_of) .none kV_body_of dc_body_of pm_body_of an_body_of cd_body_of ct_body_of), sl_body_of⟩) (c_body_of : PySem.W.codeIn K cd_body_of "body_of" = true) (k_body_of : PySem.W.keepIn K (.ref f_body_of) = true)
    (a_need_body : PySem.W.nsIn K mainGlobals "need_body" = some (some (.ref f_need_body))) (l_need_body : K.lookup f_need_body = some ⟨oc_need_body, od_need_body, .func (PySem.W.fnOf "need_body" "need_body" (C8.fnArgs s_need_body) (C8.fnBody s_need_body) (C8.fnScope s_need_body) .none kV_need_body dc_need_body pm_need_body an_need_body cd_need_body ct_need_body), sl_need_body⟩) (c_need_body : PySem.W.codeIn K cd_need_body "need_body" = true) (k_need_body : PySem.W.keepIn K (.ref f_need_body) = true)
    (a_need_signs : PySem.W.nsIn K mainGlobals "need_signs" = some (some (.ref f_need_signs))) (l_need_signs : K.lookup f_need_signs = some ⟨oc_need_signs, od_need_signs, .func (PySem.W.fnOf "need_signs" "need_signs" (C8.fnArgs s_need_signs) (C8.fnBody s_need_signs) (C8.fnScope s_need_signs) .none kV_need_signs dc_need_signs pm_need_signs an_need_signs cd_need_signs ct_need_signs), sl_need_signs⟩) (c_need_signs : PySem.W.codeIn K cd_need_signs "need_signs" = true) (k_need_signs : PySem.W.keepIn K (.ref f_need_signs) = true)
    (a_top_of : PySem.W.nsIn K mainGlobals "top_of" = some (some (.ref f_top_of))) (l_top_of : K.lookup f_top_of = some ⟨oc_top_of, od_top_of, .func (PySem.W.fnOf "top_of" "top_of" (C8.fnArgs s_top_of) (C8.fnBody s_top_of) (C8.fnScope s_top_of) .none kV_top_of dc_top_of pm_top_of an_top_of cd_top_of ct_top_of), sl_top_of⟩) (c_top_of : PySem.W.codeIn K cd_top_of "top_of" = true) (k_top_of : PySem.W.keepIn K (.ref f_top_of) = true)
    (a_frame_of : PySem.W.nsIn K mainGlobals "frame_of" = some (some (.ref f_frame_of))) (l_frame_of : K.lookup f_frame_of = some ⟨oc_frame_of, od_frame_of, .func (PySem.W.fnOf "frame_of" "frame_of" (C8.fnArgs s_frame_of) (C8.fnBody s_frame_of) (C8.fnScope s_frame_of) .none kV_frame_of dc_frame_of pm_frame_of an_frame_of cd_frame_of ct_frame_of), sl_frame_of⟩) (c_frame_of : PySem.W.codeIn K cd_frame_of "frame_of" = true) (k_frame_of : PySem.W.keepIn K (.ref f_frame_of) = true)
    (a_exchanged : PySem.W.nsIn K mainGlobals "exchanged" = some (some (.ref f_exchanged))) (l_exchanged : K.lookup f_exchanged = some ⟨oc_exchanged, od_exchanged, .func (PySem.W.fnOf "exchanged" "exchanged" (C8.fnArgs s_exchanged) (C8.fnBody s_exchanged) (C8.fnScope s_exchanged) .none kV_exchanged dc_exchanged pm_exchanged an_exchanged cd_exchanged ct_exchanged), sl_exchanged⟩) (c_exchanged : PySem.W.codeIn K cd_exchanged "exchanged" = true) (k_exchanged : PySem.W.keepIn K (.ref f_exchanged) = true)
    (a_taken_out : PySem.W.nsIn K mainGlobals "taken_out" = some (some (.ref f_taken_out))) (l_taken_out : K.lookup f_taken_out = some ⟨oc_taken_out, od_taken_out, .func (PySem.W.fnOf "taken_out" "taken_out" (C8.fnArgs s_taken_out) (C8.fnBody s_taken_out) (C8.fnScope s_taken_out) .none kV_taken_out dc_taken_out pm_taken_out an_taken_out cd_taken_out ct_taken_out), sl_taken_out⟩) (c_taken_out : PySem.W.codeIn K cd_taken_out "taken_out" = true) (k_taken_out : PySem.W.keepIn K (.ref f_taken_out) = true)
    (a_by_codes : PySem.W.nsIn K mainGlobals "by_codes" = some (some (.ref f_by_codes))) (l_by_codes : K.lookup f_by_codes = some ⟨oc_by_codes, od_by_codes, .func (PySem.W.fnOf "by_codes" "by_codes" (C8.fnArgs s_by_codes) (C8.fnBody s_by_codes) (C8.fnScope s_by_codes) .none kV_by_codes dc_by_codes pm_by_codes an_by_codes cd_by_codes ct_by_codes), sl_by_codes⟩) (c_by_codes : PySem.W.codeIn K cd_by_codes "by_codes" = true) (k_by_codes : PySem.W.keepIn K (.ref f_by_codes) = true)
    (a_from_codes : PySem.W.nsIn K mainGlobals "from_codes" = some (some (.ref f_from_codes))) (l_from_codes : K.lookup f_from_codes = some ⟨oc_from_codes, od_from_codes, .func (PySem.W.fnOf "from_codes" "from_codes" (C8.fnArgs s_from_codes) (C8.fnBody s_from_codes) (C8.fnScope s_from_codes) .none kV_from_codes dc_from_codes pm_from_codes an_from_codes cd_from_codes ct_from_codes), sl_from_codes⟩) (c_from_codes : PySem.W.codeIn K cd_from_codes "from_codes" = true) (k_from_codes : PySem.W.keepIn K (.ref f_from_codes) = true)
    (a_by_escapes : PySem.W.nsIn K mainGlobals "by_escapes" = some (some (.ref f_by_escapes))) (l_by_escapes : K.lookup f_by_escapes = some ⟨oc_by_escapes, od_by_escapes, .func (PySem.W.fnOf "by_escapes" "by_escapes" (C8.fnArgs s_by_escapes) (C8.fnBody s_by_escapes) (C8.fnScope s_by_escapes) .none kV_by_escapes dc_by_escapes pm_by_escapes an_by_escapes cd_by_escapes ct_by_escapes), sl_by_escapes⟩) (c_by_escapes : PySem.W.codeIn K cd_by_escapes "by_escapes" = true) (k_by_escapes : PySem.W.keepIn K (.ref f_by_escapes) = true)
    (a_from_escapes : PySem.W.nsIn K mainGlobals "from_escapes" = some (some (.ref f_from_escapes))) (l_from_escapes : K.lookup f_from_escapes = some ⟨oc_from_escapes, od_from_escapes, .func (PySem.W.fnOf "from_escapes" "from_escapes" (C8.fnArgs s_from_escapes) (C8.fnBody s_from_escapes) (C8.fnScope s_from_escapes) .none kV_from_escapes dc_from_escapes pm_from_escapes an_from_escapes cd_from_escapes ct_from_escapes), sl_from_escapes⟩) (c_from_escapes : PySem.W.codeIn K cd_from_escapes "from_escapes" = true) (k_from_escapes : PySem.W.keepIn K (.ref f_from_escapes) = true)
    (a_by_counts : PySem.W.nsIn K mainGlobals "by_counts" = some (some (.ref f_by_counts))) (l_by_counts : K.lookup f_by_counts = some ⟨oc_by_counts, od_by_counts, .func (PySem.W.fnOf "by_counts" "by_counts" (C8.fnArgs s_by_counts) (C8.fnBody s_by_counts) (C8.fnScope s_by_counts) .none kV_by_counts dc_by_counts pm_by_counts an_by_counts cd_by_counts ct_by_counts), sl_by_counts⟩) (c_by_counts : PySem.W.codeIn K cd_by_counts "by_counts" = true) (k_by_counts : PySem.W.keepIn K (.ref f_by_counts) = true)
    (a_rows_between : PySem.W.nsIn K mainGlobals "rows_between" = some (some (.ref f_rows_between))) (l_rows_between : K.lookup f_rows_between = some ⟨oc_rows_between, od_rows_between, .func (PySem.W.fnOf "rows_between" "rows_between" (C8.fnArgs s_rows_between) (C8.fnBody s_rows_between) (C8.fnScope s_rows_between) .none kV_rows_between dc_rows_between pm_rows_between an_rows_between cd_rows_between ct_rows_between), sl_rows_between⟩) (c_rows_between : PySem.W.codeIn K cd_rows_between "rows_between" = true) (k_rows_between : PySem.W.keepIn K (.ref f_rows_between) = true)
    (a_grouped : PySem.W.nsIn K mainGlobals "grouped" = some (some (.ref f_grouped))) (l_grouped : K.lookup f_grouped = some ⟨oc_grouped, od_grouped, .func (PySem.W.fnOf "grouped" "grouped" (C8.fnArgs s_grouped) (C8.fnBody s_grouped) (C8.fnScope s_grouped) .none kV_grouped dc_grouped pm_grouped an_grouped cd_grouped ct_grouped), sl_grouped⟩) (c_grouped : PySem.W.codeIn K cd_grouped "grouped" = true) (k_grouped : PySem.W.keepIn K (.ref f_grouped) = true)
    (a_from_counts : PySem.W.nsIn K mainGlobals "from_counts" = some (some (.ref f_from_counts))) (l_from_counts : K.lookup f_from_counts = some ⟨oc_from_counts, od_from_counts, .func (PySem.W.fnOf "from_counts" "from_counts" (C8.fnArgs s_from_counts) (C8.fnBody s_from_counts) (C8.fnScope s_from_counts) .none kV_from_counts dc_from_counts pm_from_counts an_from_counts cd_from_counts ct_from_counts), sl_from_counts⟩) (c_from_counts : PySem.W.codeIn K cd_from_counts "from_counts" = true) (k_from_counts : PySem.W.keepIn K (.ref f_from_counts) = true)
    (a_by_ranks : PySem.W.nsIn K mainGlobals "by_ranks" = some (some (.ref f_by_ranks))) (l_by_ranks : K.lookup f_by_ranks = some ⟨oc_by_ranks, od_by_ranks, .func (PySem.W.fnOf "by_ranks" "by_ranks" (C8.fnArgs s_by_ranks) (C8.fnBody s_by_ranks) (C8.fnScope s_by_ranks) .none kV_by_ranks dc_by_ranks pm_by_ranks an_by_ranks cd_by_ranks ct_by_ranks), sl_by_ranks⟩) (c_by_ranks : PySem.W.codeIn K cd_by_ranks "by_ranks" = true) (k_by_ranks : PySem.W.keepIn K (.ref f_by_ranks) = true)
    (a_from_ranks : PySem.W.nsIn K mainGlobals "from_ranks" = some (some (.ref f_from_ranks))) (l_from_ranks : K.lookup f_from_ranks = some ⟨oc_from_ranks, od_from_ranks, .func (PySem.W.fnOf "from_ranks" "from_ranks" (C8.fnArgs s_from_ranks) (C8.fnBody s_from_ranks) (C8.fnScope s_from_ranks) .none kV_from_ranks dc_from_ranks pm_from_ranks an_from_ranks cd_from_ranks ct_from_ranks), sl_from_ranks⟩) (c_from_ranks : PySem.W.codeIn K cd_from_ranks "from_ranks" = true) (k_from_ranks : PySem.W.keepIn K (.ref f_from_ranks) = true)
    (a_parted : PySem.W.nsIn K mainGlobals "parted" = some (some (.ref f_parted))) (l_parted : K.lookup f_parted = some ⟨oc_parted, od_parted, .func (PySem.W.fnOf "parted" "parted" (C8.fnArgs s_parted) (C8.fnBody s_parted) (C8.fnScope s_parted) .none kV_parted dc_parted pm_parted an_parted cd_parted ct_parted), sl_parted⟩) (c_parted : PySem.W.codeIn K cd_parted "parted" = true) (k_parted : PySem.W.keepIn K (.ref f_parted) = true)
    (a_in_order : PySem.W.nsIn K mainGlobals "in_order" = some (some (.ref f_in_order))) (l_in_order : K.lookup f_in_order = some ⟨oc_in_order, od_in_order, .func (PySem.W.fnOf "in_order" "in_order" (C8.fnArgs s_in_order) (C8.fnBody s_in_order) (C8.fnScope s_in_order) .none kV_in_order dc_in_order pm_in_order an_in_order cd_in_order ct_in_order), sl_in_order⟩) (c_in_order : PySem.W.codeIn K cd_in_order "in_order" = true) (k_in_order : PySem.W.keepIn K (.ref f_in_order) = true)
    (a_telling_lists : PySem.W.nsIn K mainGlobals "telling_lists" = some (some (.ref f_telling_lists))) (l_telling_lists : K.lookup f_telling_lists = some ⟨oc_telling_lists, od_telling_lists, .func (PySem.W.fnOf "telling_lists" "telling_lists" (C8.fnArgs s_telling_lists) (C8.fnBody s_telling_lists) (C8.fnScope s_telling_lists) .none kV_telling_lists dc_telling_lists pm_telling_lists an_telling_lists cd_telling_lists ct_telling_lists), sl_telling_lists⟩) (c_telling_lists : PySem.W.codeIn K cd_telling_lists "telling_lists" = true) (k_telling_lists : PySem.W.keepIn K (.ref f_telling_lists) = true)
    (a_one_too_many : PySem.W.nsIn K mainGlobals "one_too_many" = some (some (.ref f_one_too_many))) (l_one_too_many : K.lookup f_one_too_many = some ⟨oc_one_too_many, od_one_too_many, .func (PySem.W.fnOf "one_too_many" "one_too_many" (C8.fnArgs s_one_too_many) (C8.fnBody s_one_too_many) (C8.fnScope s_one_too_many) .none kV_one_too_many dc_one_too_many pm_one_too_many an_one_too_many cd_one_too_many ct_one_too_many), sl_one_too_many⟩) (c_one_too_many : PySem.W.codeIn K cd_one_too_many "one_too_many" = true) (k_one_too_many : PySem.W.keepIn K (.ref f_one_too_many) = true)
    (a_worst : PySem.W.nsIn K mainGlobals "worst" = some (some (.ref f_worst))) (l_worst : K.lookup f_worst = some ⟨oc_worst, od_worst, .func (PySem.W.fnOf "worst" "worst" (C8.fnArgs s_worst) (C8.fnBody s_worst) (C8.fnScope s_worst) .none kV_worst dc_worst pm_worst an_worst cd_worst ct_worst), sl_worst⟩) (c_worst : PySem.W.codeIn K cd_worst "worst" = true) (k_worst : PySem.W.keepIn K (.ref f_worst) = true)
    (a_frames_of : PySem.W.nsIn K mainGlobals "frames_of" = some (some (.ref f_frames_of))) (l_frames_of : K.lookup f_frames_of = some ⟨oc_frames_of, od_frames_of, .func (PySem.W.fnOf "frames_of" "frames_of" (C8.fnArgs s_frames_of) (C8.fnBody s_frames_of) (C8.fnScope s_frames_of) .none kV_frames_of dc_frames_of pm_frames_of an_frames_of cd_frames_of ct_frames_of), sl_frames_of⟩) (c_frames_of : PySem.W.codeIn K cd_frames_of "frames_of" = true) (k_frames_of : PySem.W.keepIn K (.ref f_frames_of) = true)
    (a_ranks_of_size : PySem.W.nsIn K mainGlobals "ranks_of_size" = some (some (.ref f_ranks_of_size))) (l_ranks_of_size : K.lookup f_ranks_of_size = some ⟨oc_ranks_of_size, od_ranks_of_size, .func (PySem.W.fnOf "ranks_of_size" "ranks_of_size" (C8.fnArgs s_ranks_of_size) (C8.fnBody s_ranks_of_size) (C8.fnScope s_ranks_of_size) .none kV_ranks_of_size dc_ranks_of_size pm_ranks_of_size an_ranks_of_size cd_ranks_of_size ct_ranks_of_size), sl_ranks_of_size⟩) (c_ranks_of_size : PySem.W.codeIn K cd_ranks_of_size "ranks_of_size" = true) (k_ranks_of_size : PySem.W.keepIn K (.ref f_ranks_of_size) = true)
    (a_pieces_of_size : PySem.W.nsIn K mainGlobals "pieces_of_size" = some (some (.ref f_pieces_of_size))) (l_pieces_of_size : K.lookup f_pieces_of_size = some ⟨oc_pieces_of_size, od_pieces_of_size, .func (PySem.W.fnOf "pieces_of_size" "pieces_of_size" (C8.fnArgs s_pieces_of_size) (C8.fnBody s_pieces_of_size) (C8.fnScope s_pieces_of_size) .none kV_pieces_of_size dc_pieces_of_size pm_pieces_of_size an_pieces_of_size cd_pieces_of_size ct_pieces_of_size), sl_pieces_of_size⟩) (c_pieces_of_size : PySem.W.codeIn K cd_pieces_of_size "pieces_of_size" = true) (k_pieces_of_size : PySem.W.keepIn K (.ref f_pieces_of_size) = true)
    (a_groups_of_size : PySem.W.nsIn K mainGlobals "groups_of_size" = some (some (.ref f_groups_of_size))) (l_groups_of_size : K.lookup f_groups_of_size = some ⟨oc_groups_of_size, od_groups_of_size, .func (PySem.W.fnOf "groups_of_size" "groups_of_size" (C8.fnArgs s_groups_of_size) (C8.fnBody s_groups_of_size) (C8.fnScope s_groups_of_size) .none kV_groups_of_size dc_groups_of_size pm_groups_of_size an_groups_of_size cd_groups_of_size ct_groups_of_size), sl_groups_of_size⟩) (c_groups_of_size : PySem.W.codeIn K cd_groups_of_size "groups_of_size" = true) (k_groups_of_size : PySem.W.keepIn K (.ref f_groups_of_size) = true)
    (a_bodies_of_size : PySem.W.nsIn K mainGlobals "bodies_of_size" = some (some (.ref f_bodies_of_size))) (l_bodies_of_size : K.lookup f_bodies_of_size = some ⟨oc_bodies_of_size, od_bodies_of_size, .func (PySem.W.fnOf "bodies_of_size" "bodies_of_size" (C8.fnArgs s_bodies_of_size) (C8.fnBody s_bodies_of_size) (C8.fnScope s_bodies_of_size) .none kV_bodies_of_size dc_bodies_of_size pm_bodies_of_size an_bodies_of_size cd_bodies_of_size ct_bodies_of_size), sl_bodies_of_size⟩) (c_bodies_of_size : PySem.W.codeIn K cd_bodies_of_size "bodies_of_size" = true) (k_bodies_of_size : PySem.W.keepIn K (.ref f_bodies_of_size) = true)
    (a__law_dice : PySem.W.nsIn K mainGlobals "_law_dice" = some (some (.ref f__law_dice))) (l__law_dice : K.lookup f__law_dice = some ⟨oc__law_dice, od__law_dice, .func (PySem.W.fnOf "_law_dice" "_law_dice" (C8.fnArgs s__law_dice) (C8.fnBody s__law_dice) (C8.fnScope s__law_dice) .none kV__law_dice dc__law_dice pm__law_dice an__law_dice cd__law_dice ct__law_dice), sl__law_dice⟩) (c__law_dice : PySem.W.codeIn K cd__law_dice "_law_dice" = true) (k__law_dice : PySem.W.keepIn K (.ref f__law_dice) = true)
    (a__law_off : PySem.W.nsIn K mainGlobals "_law_off" = some (some (.ref f__law_off))) (l__law_off : K.lookup f__law_off = some ⟨oc__law_off, od__law_off, .func (PySem.W.fnOf "_law_off" "_law_off" (C8.fnArgs s__law_off) (C8.fnBody s__law_off) (C8.fnScope s__law_off) .none kV__law_off dc__law_off pm__law_off an__law_off cd__law_off ct__law_off), sl__law_off⟩) (c__law_off : PySem.W.codeIn K cd__law_off "_law_off" = true) (k__law_off : PySem.W.keepIn K (.ref f__law_off) = true)
    (a__law_alike : PySem.W.nsIn K mainGlobals "_law_alike" = some (some (.ref f__law_alike))) (l__law_alike : K.lookup f__law_alike = some ⟨oc__law_alike, od__law_alike, .func (PySem.W.fnOf "_law_alike" "_law_alike" (C8.fnArgs s__law_alike) (C8.fnBody s__law_alike) (C8.fnScope s__law_alike) .none kV__law_alike dc__law_alike pm__law_alike an__law_alike cd__law_alike ct__law_alike), sl__law_alike⟩) (c__law_alike : PySem.W.codeIn K cd__law_alike "_law_alike" = true) (k__law_alike : PySem.W.keepIn K (.ref f__law_alike) = true)
    (a__law_mixed : PySem.W.nsIn K mainGlobals "_law_mixed" = some (some (.ref f__law_mixed))) (l__law_mixed : K.lookup f__law_mixed = some ⟨oc__law_mixed, od__law_mixed, .func (PySem.W.fnOf "_law_mixed" "_law_mixed" (C8.fnArgs s__law_mixed) (C8.fnBody s__law_mixed) (C8.fnScope s__law_mixed) .none kV__law_mixed dc__law_mixed pm__law_mixed an__law_mixed cd__law_mixed ct__law_mixed), sl__law_mixed⟩) (c__law_mixed : PySem.W.codeIn K cd__law_mixed "_law_mixed" = true) (k__law_mixed : PySem.W.keepIn K (.ref f__law_mixed) = true)
    (a__law_plain : PySem.W.nsIn K mainGlobals "_law_plain" = some (some (.ref f__law_plain))) (l__law_plain : K.lookup f__law_plain = some ⟨oc__law_plain, od__law_plain, .func (PySem.W.fnOf "_law_plain" "_law_plain" (C8.fnArgs s__law_plain) (C8.fnBody s__law_plain) (C8.fnScope s__law_plain) .none kV__law_plain dc__law_plain pm__law_plain an__law_plain cd__law_plain ct__law_plain), sl__law_plain⟩) (c__law_plain : PySem.W.codeIn K cd__law_plain "_law_plain" = true) (k__law_plain : PySem.W.keepIn K (.ref f__law_plain) = true)
    (a__law_codes : PySem.W.nsIn K mainGlobals "_law_codes" = some (some (.ref f__law_codes))) (l__law_codes : K.lookup f__law_codes = some ⟨oc__law_codes, od__law_codes, .func (PySem.W.fnOf "_law_codes" "_law_codes" (C8.fnArgs s__law_codes) (C8.fnBody s__law_codes) (C8.fnScope s__law_codes) .none kV__law_codes dc__law_codes pm__law_codes an__law_codes cd__law_codes ct__law_codes), sl__law_codes⟩) (c__law_codes : PySem.W.codeIn K cd__law_codes "_law_codes" = true) (k__law_codes : PySem.W.keepIn K (.ref f__law_codes) = true)
    (a__law_escapes : PySem.W.nsIn K mainGlobals "_law_escapes" = some (some (.ref f__law_escapes))) (l__law_escapes : K.lookup f__law_escapes = some ⟨oc__law_escapes, od__law_escapes, .func (PySem.W.fnOf "_law_escapes" "_law_escapes" (C8.fnArgs s__law_escapes) (C8.fnBody s__law_escapes) (C8.fnScope s__law_escapes) .none kV__law_escapes dc__law_escapes pm__law_escapes an__law_escapes cd__law_escapes ct__law_escapes), sl__law_escapes⟩) (c__law_escapes : PySem.W.codeIn K cd__law_escapes "_law_escapes" = true) (k__law_escapes : PySem.W.keepIn K (.ref f__law_escapes) = true)
    (a__law_base : PySem.W.nsIn K mainGlobals "_law_base" = some (some (.ref f__law_base))) (l__law_base : K.lookup f__law_base = some ⟨oc__law_base, od__law_base, .func (PySem.W.fnOf "_law_base" "_law_base" (C8.fnArgs s__law_base) (C8.fnBody s__law_base) (C8.fnScope s__law_base) .none kV__law_base dc__law_base pm__law_base an__law_base cd__law_base ct__law_base), sl__law_base⟩) (c__law_base : PySem.W.codeIn K cd__law_base "_law_base" = true) (k__law_base : PySem.W.keepIn K (.ref f__law_base) = true)
    (a__law_turned : PySem.W.nsIn K mainGlobals "_law_turned" = some (some (.ref f__law_turned))) (l__law_turned : K.lookup f__law_turned = some ⟨oc__law_turned, od__law_turned, .func (PySem.W.fnOf "_law_turned" "_law_turned" (C8.fnArgs s__law_turned) (C8.fnBody s__law_turned) (C8.fnScope s__law_turned) .none kV__law_turned dc__law_turned pm__law_turned an__law_turned cd__law_turned ct__law_turned), sl__law_turned⟩) (c__law_turned : PySem.W.codeIn K cd__law_turned "_law_turned" = true) (k__law_turned : PySem.W.keepIn K (.ref f__law_turned) = true)
    (a__law_core : PySem.W.nsIn K mainGlobals "_law_core" = some (some (.ref f__law_core))) (l__law_core : K.lookup f__law_core = some ⟨oc__law_core, od__law_core, .func (PySem.W.fnOf "_law_core" "_law_core" (C8.fnArgs s__law_core) (C8.fnBody s__law_core) (C8.fnScope s__law_core) .none kV__law_core dc__law_core pm__law_core an__law_core cd__law_core ct__law_core), sl__law_core⟩) (c__law_core : PySem.W.codeIn K cd__law_core "_law_core" = true) (k__law_core : PySem.W.keepIn K (.ref f__law_core) = true)
    (a__law_top : PySem.W.nsIn K mainGlobals "_law_top" = some (some (.ref f__law_top))) (l__law_top : K.lookup f__law_top = some ⟨oc__law_top, od__law_top, .func (PySem.W.fnOf "_law_top" "_law_top" (C8.fnArgs s__law_top) (C8.fnBody s__law_top) (C8.fnScope s__law_top) .none kV__law_top dc__law_top pm__law_top an__law_top cd__law_top ct__law_top), sl__law_top⟩) (c__law_top : PySem.W.codeIn K cd__law_top "_law_top" = true) (k__law_top : PySem.W.keepIn K (.ref f__law_top) = true)
    (a__law_end : PySem.W.nsIn K mainGlobals "_law_end" = some (some (.ref f__law_end))) (l__law_end : K.lookup f__law_end = some ⟨oc__law_end, od__law_end, .func (PySem.W.fnOf "_law_end" "_law_end" (C8.fnArgs s__law_end) (C8.fnBody s__law_end) (C8.fnScope s__law_end) .none kV__law_end dc__law_end pm__law_end an__law_end cd__law_end ct__law_end), sl__law_end⟩) (c__law_end : PySem.W.codeIn K cd__law_end "_law_end" = true) (k__law_end : PySem.W.keepIn K (.ref f__law_end) = true)
    (a__law_size : PySem.W.nsIn K mainGlobals "_law_size" = some (some (.ref f__law_size))) (l__law_size : K.lookup f__law_size = some ⟨oc__law_size, od__law_size, .func (PySem.W.fnOf "_law_size" "_law_size" (C8.fnArgs s__law_size) (C8.fnBody s__law_size) (C8.fnScope s__law_size) .none kV__law_size dc__law_size pm__law_size an__law_size cd__law_size ct__law_size), sl__law_size⟩) (c__law_size : PySem.W.codeIn K cd__law_size "_law_size" = true) (k__law_size : PySem.W.keepIn K (.ref f__law_size) = true)
    (a__law_way : PySem.W.nsIn K mainGlobals "_law_way" = some (some (.ref f__law_way))) (l__law_way : K.lookup f__law_way = some ⟨oc__law_way, od__law_way, .func (PySem.W.fnOf "_law_way" "_law_way" (C8.fnArgs s__law_way) (C8.fnBody s__law_way) (C8.fnScope s__law_way) .none kV__law_way dc__law_way pm__law_way an__law_way cd__law_way ct__law_way), sl__law_way⟩) (c__law_way : PySem.W.codeIn K cd__law_way "_law_way" = true) (k__law_way : PySem.W.keepIn K (.ref f__law_way) = true)
    (a__law_body : PySem.W.nsIn K mainGlobals "_law_body" = some (some (.ref f__law_body))) (l__law_body : K.lookup f__law_body = some ⟨oc__law_body, od__law_body, .func (PySem.W.fnOf "_law_body" "_law_body" (C8.fnArgs s__law_body) (C8.fnBody s__law_body) (C8.fnScope s__law_body) .none kV__law_body dc__law_body pm__law_body an__law_body cd__law_body ct__law_body), sl__law_body⟩) (c__law_body : PySem.W.codeIn K cd__law_body "_law_body" = true) (k__law_body : PySem.W.keepIn K (.ref f__law_body) = true)
    (a__law_number : PySem.W.nsIn K mainGlobals "_law_number" = some (some (.ref f__law_number))) (l__law_number : K.lookup f__law_number = some ⟨oc__law_number, od__law_number, .func (PySem.W.fnOf "_law_number" "_law_number" (C8.fnArgs s__law_number) (C8.fnBody s__law_number) (C8.fnScope s__law_number) .none kV__law_number dc__law_number pm__law_number an__law_number cd__law_number ct__law_number), sl__law_number⟩) (c__law_number : PySem.W.codeIn K cd__law_number "_law_number" = true) (k__law_number : PySem.W.keepIn K (.ref f__law_number) = true)
    (a__law_list : PySem.W.nsIn K mainGlobals "_law_list" = some (some (.ref f__law_list))) (l__law_list : K.lookup f__law_list = some ⟨oc__law_list, od__law_list, .func (PySem.W.fnOf "_law_list" "_law_list" (C8.fnArgs s__law_list) (C8.fnBody s__law_list) (C8.fnScope s__law_list) .none kV__law_list dc__law_list pm__law_list an__law_list cd__law_list ct__law_list), sl__law_list⟩) (c__law_list : PySem.W.codeIn K cd__law_list "_law_list" = true) (k__law_list : PySem.W.keepIn K (.ref f__law_list) = true)
    (a__law_rows : PySem.W.nsIn K mainGlobals "_law_rows" = some (some (.ref f__law_rows))) (l__law_rows : K.lookup f__law_rows = some ⟨oc__law_rows, od__law_rows, .func (PySem.W.fnOf "_law_rows" "_law_rows" (C8.fnArgs s__law_rows) (C8.fnBody s__law_rows) (C8.fnScope s__law_rows) .none kV__law_rows dc__law_rows pm__law_rows an__law_rows cd__law_rows ct__law_rows), sl__law_rows⟩) (c__law_rows : PySem.W.codeIn K cd__law_rows "_law_rows" = true) (k__law_rows : PySem.W.keepIn K (.ref f__law_rows) = true)
    (a__law_counted : PySem.W.nsIn K mainGlobals "_law_counted" = some (some (.ref f__law_counted))) (l__law_counted : K.lookup f__law_counted = some ⟨oc__law_counted, od__law_counted, .func (PySem.W.fnOf "_law_counted" "_law_counted" (C8.fnArgs s__law_counted) (C8.fnBody s__law_counted) (C8.fnScope s__law_counted) .none kV__law_counted dc__law_counted pm__law_counted an__law_counted cd__law_counted ct__law_counted), sl__law_counted⟩) (c__law_counted : PySem.W.codeIn K cd__law_counted "_law_counted" = true) (k__law_counted : PySem.W.keepIn K (.ref f__law_counted) = true)
    (a__law_framed : PySem.W.nsIn K mainGlobals "_law_framed" = some (some (.ref f__law_framed))) (l__law_framed : K.lookup f__law_framed = some ⟨oc__law_framed, od__law_framed, .func (PySem.W.fnOf "_law_framed" "_law_framed" (C8.fnArgs s__law_framed) (C8.fnBody s__law_framed) (C8.fnScope s__law_framed) .none kV__law_framed dc__law_framed pm__law_framed an__law_framed cd__law_framed ct__law_framed), sl__law_framed⟩) (c__law_framed : PySem.W.codeIn K cd__law_framed "_law_framed" = true) (k__law_framed : PySem.W.keepIn K (.ref f__law_framed) = true)
    (a__law_turns : PySem.W.nsIn K mainGlobals "_law_turns" = some (some (.ref f__law_turns))) (l__law_turns : K.lookup f__law_turns = some ⟨oc__law_turns, od__law_turns, .func (PySem.W.fnOf "_law_turns" "_law_turns" (C8.fnArgs s__law_turns) (C8.fnBody s__law_turns) (C8.fnScope s__law_turns) .none kV__law_turns dc__law_turns pm__law_turns an__law_turns cd__law_turns ct__law_turns), sl__law_turns⟩) (c__law_turns : PySem.W.codeIn K cd__law_turns "_law_turns" = true) (k__law_turns : PySem.W.keepIn K (.ref f__law_turns) = true)
    (a__law_escape_codes : PySem.W.nsIn K mainGlobals "_law_escape_codes" = some (some (.ref f__law_escape_codes))) (l__law_escape_codes : K.lookup f__law_escape_codes = some ⟨oc__law_escape_codes, od__law_escape_codes, .func (PySem.W.fnOf "_law_escape_codes" "_law_escape_codes" (C8.fnArgs s__law_escape_codes) (C8.fnBody s__law_escape_codes) (C8.fnScope s__law_escape_codes) .none kV__law_escape_codes dc__law_escape_codes pm__law_escape_codes an__law_escape_codes cd__law_escape_codes ct__law_escape_codes), sl__law_escape_codes⟩) (c__law_escape_codes : PySem.W.codeIn K cd__law_escape_codes "_law_escape_codes" = true) (k__law_escape_codes : PySem.W.keepIn K (.ref f__law_escape_codes) = true)
    (a__law_signs : PySem.W.nsIn K mainGlobals "_law_signs" = some (some (.ref f__law_signs))) (l__law_signs : K.lookup f__law_signs = some ⟨oc__law_signs, od__law_signs, .func (PySem.W.fnOf "_law_signs" "_law_signs" (C8.fnArgs s__law_signs) (C8.fnBody s__law_signs) (C8.fnScope s__law_signs) .none kV__law_signs dc__law_signs pm__law_signs an__law_signs cd__law_signs ct__law_signs), sl__law_signs⟩) (c__law_signs : PySem.W.codeIn K cd__law_signs "_law_signs" = true) (k__law_signs : PySem.W.keepIn K (.ref f__law_signs) = true)
    (a__law_escaped : PySem.W.nsIn K mainGlobals "_law_escaped" = some (some (.ref f__law_escaped))) (l__law_escaped : K.lookup f__law_escaped = some ⟨oc__law_escaped, od__law_escaped, .func (PySem.W.fnOf "_law_escaped" "_law_escaped" (C8.fnArgs s__law_escaped) (C8.fnBody s__law_escaped) (C8.fnScope s__law_escaped) .none kV__law_escaped dc__law_escaped pm__law_escaped an__law_escaped cd__law_escaped ct__law_escaped), sl__law_escaped⟩) (c__law_escaped : PySem.W.codeIn K cd__law_escaped "_law_escaped" = true) (k__law_escaped : PySem.W.keepIn K (.ref f__law_escaped) = true)
    (a__law_folded : PySem.W.nsIn K mainGlobals "_law_folded" = some (some (.ref f__law_folded))) (l__law_folded : K.lookup f__law_folded = some ⟨oc__law_folded, od__law_folded, .func (PySem.W.fnOf "_law_folded" "_law_folded" (C8.fnArgs s__law_folded) (C8.fnBody s__law_folded) (C8.fnScope s__law_folded) .none kV__law_folded dc__law_folded pm__law_folded an__law_folded cd__law_folded ct__law_folded), sl__law_folded⟩) (c__law_folded : PySem.W.codeIn K cd__law_folded "_law_folded" = true) (k__law_folded : PySem.W.keepIn K (.ref f__law_folded) = true)
    (a__law_otherwise : PySem.W.nsIn K mainGlobals "_law_otherwise" = some (some (.ref f__law_otherwise))) (l__law_otherwise : K.lookup f__law_otherwise = some ⟨oc__law_otherwise, od__law_otherwise, .func (PySem.W.fnOf "_law_otherwise" "_law_otherwise" (C8.fnArgs s__law_otherwise) (C8.fnBody s__law_otherwise) (C8.fnScope s__law_otherwise) .none kV__law_otherwise dc__law_otherwise pm__law_otherwise an__law_otherwise cd__law_otherwise ct__law_otherwise), sl__law_otherwise⟩) (c__law_otherwise : PySem.W.codeIn K cd__law_otherwise "_law_otherwise" = true) (k__law_otherwise : PySem.W.keepIn K (.ref f__law_otherwise) = true)
    (a__law_one : PySem.W.nsIn K mainGlobals "_law_one" = some (some (.ref f__law_one))) (l__law_one : K.lookup f__law_one = some ⟨oc__law_one, od__law_one, .func (PySem.W.fnOf "_law_one" "_law_one" (C8.fnArgs s__law_one) (C8.fnBody s__law_one) (C8.fnScope s__law_one) .none kV__law_one dc__law_one pm__law_one an__law_one cd__law_one ct__law_one), sl__law_one⟩) (c__law_one : PySem.W.codeIn K cd__law_one "_law_one" = true) (k__law_one : PySem.W.keepIn K (.ref f__law_one) = true)
    (a_law : PySem.W.nsIn K mainGlobals "law" = some (some (.ref f_law))) (l_law : K.lookup f_law = some ⟨oc_law, od_law, .func (PySem.W.fnOf "law" "law" (C8.fnArgs s_law) (C8.fnBody s_law) (C8.fnScope s_law) .none kV_law dc_law pm_law an_law cd_law ct_law), sl_law⟩) (c_law : PySem.W.codeIn K cd_law "law" = true) (k_law : PySem.W.keepIn K (.ref f_law) = true)
    (g_LEAST_TOP : PySem.W.nsIn K mainGlobals "LEAST_TOP" = some (some (.int 3 t_LEAST_TOP)))
    (g_MOST_TOP : PySem.W.nsIn K mainGlobals "MOST_TOP" = some (some (.int 16 t_MOST_TOP)))
    (g_LONGEST_CODE : PySem.W.nsIn K mainGlobals "LONGEST_CODE" = some (some (.int 4 t_LONGEST_CODE)))
    (g_MOST_TURNED : PySem.W.nsIn K mainGlobals "MOST_TURNED" = some (some (.int 3 t_MOST_TURNED)))
    (g_MOST_BODY : PySem.W.nsIn K mainGlobals "MOST_BODY" = some (some (.int 60 t_MOST_BODY)))
    (g_MOST_SIGNS : PySem.W.nsIn K mainGlobals "MOST_SIGNS" = some (some (.int 400 t_MOST_SIGNS)))
    (g_LONGEST_FRAME : PySem.W.nsIn K mainGlobals "LONGEST_FRAME" = some (some (.int 241 t_LONGEST_FRAME)))
    (g_FAULTS : PySem.W.nsIn K mainGlobals "FAULTS" = some (some (.ref p_FAULTS))) (m_FAULTS : K.lookup p_FAULTS = some ⟨.type "dict", none, .dict es_FAULTS n_FAULTS, #[]⟩) (e_FAULTS : PySem.W.KeysLit w.params es_FAULTS.toList)
    (h_FAULTS_codes : PySem.W.nsIn K p_FAULTS "codes" = some (some (.ref f_codes_fault)))
    (h_FAULTS_escapes : PySem.W.nsIn K p_FAULTS "escapes" = some (some (.ref f_escapes_fault)))
    (h_FAULTS_counts : PySem.W.nsIn K p_FAULTS "counts" = some (some (.ref f_counts_fault)))
    (h_FAULTS_ranks : PySem.W.nsIn K p_FAULTS "ranks" = some (some (.ref f_ranks_fault)))
    (g_FRAMERS : PySem.W.nsIn K mainGlobals "FRAMERS" = some (some (.ref p_FRAMERS))) (m_FRAMERS : K.lookup p_FRAMERS = some ⟨.type "dict", none, .dict es_FRAMERS n_FRAMERS, #[]⟩) (e_FRAMERS : PySem.W.KeysLit w.params es_FRAMERS.toList)
    (h_FRAMERS_codes : PySem.W.nsIn K p_FRAMERS "codes" = some (some (.ref f_by_codes)))
    (h_FRAMERS_escapes : PySem.W.nsIn K p_FRAMERS "escapes" = some (some (.ref f_by_escapes)))
    (h_FRAMERS_counts : PySem.W.nsIn K p_FRAMERS "counts" = some (some (.ref f_by_counts)))
    (h_FRAMERS_ranks : PySem.W.nsIn K p_FRAMERS "ranks" = some (some (.ref f_by_ranks)))
    (g_READERS : PySem.W.nsIn K mainGlobals "READERS" = some (some (.ref p_READERS))) (m_READERS : K.lookup p_READERS = some ⟨.type "dict", none, .dict es_READERS n_READERS, #[]⟩) (e_READERS : PySem.W.KeysLit w.params es_READERS.toList)
    (h_READERS_codes : PySem.W.nsIn K p_READERS "codes" = some (some (.ref f_from_codes)))
    (h_READERS_escapes : PySem.W.nsIn K p_READERS "escapes" = some (some (.ref f_from_escapes)))
    (h_READERS_counts : PySem.W.nsIn K p_READERS "counts" = some (some (.ref f_from_counts)))
    (h_READERS_ranks : PySem.W.nsIn K p_READERS "ranks" = some (some (.ref f_from_ranks)))
    (g_COUNTERS : PySem.W.nsIn K mainGlobals "COUNTERS" = some (some (.ref p_COUNTERS))) (m_COUNTERS : K.lookup p_COUNTERS = some ⟨.type "dict", none, .dict es_COUNTERS n_COUNTERS, #[]⟩) (e_COUNTERS : PySem.W.KeysLit w.params es_COUNTERS.toList)
    (h_COUNTERS_codes : PySem.W.nsIn K p_COUNTERS "codes" = some (some (.ref f_pieces_of_size)))
    (h_COUNTERS_escapes : PySem.W.nsIn K p_COUNTERS "escapes" = some (some (.ref f_pieces_of_size)))
    (h_COUNTERS_counts : PySem.W.nsIn K p_COUNTERS "counts" = some (some (.ref f_groups_of_size)))
    (h_COUNTERS_ranks : PySem.W.nsIn K p_COUNTERS "ranks" = some (some (.ref f_ranks_of_size))) :
    ∃ fd : FuncData, (∀ (s : Shared) (v : Value), BindsTo s fd ⟨[v], []⟩ [("_law_script", v)]) ∧ ∀ base : Heap, K.In base → base.Ns mainGlobals mg → FnOk l.prog w K mg base C8.CX0 10 fa fd ["_law_script"] (spLaw K) := by
  have T : Top K w mg := ⟨⟨PySem.W.mg_none_of X G z_abs, PySem.W.mg_none_of X G z_all, PySem.W.mg_none_of X G z_enumerate, PySem.W.mg_none_of X G z_int, PySem.W.mg_none_of X G z_isinstance, PySem.W.mg_none_of X G z_len, PySem.W.mg_none_of X G z_list, PySem.W.mg_none_of X G z_max, PySem.W.mg_none_of X G z_min, PySem.W.mg_none_of X G z_range, PySem.W.mg_none_of X G z_reversed, PySem.W.mg_none_of X G z_set, PySem.W.mg_none_of X G z_sorted, PySem.W.mg_none_of X G z_sum, PySem.W.mg_none_of X G z_tuple, PySem.W.mg_none_of X G z_type⟩, ⟨PySem.W.mg_none_of X G z_bool, PySem.W.mg_none_of X G z_str⟩, ⟨⟨f_rank_of, dd_mk X G a_rank_of l_rank_of c_rank_of k_rank_of fun _ _ _ _ _ _ us hl => match us, hl with | [_, _], _ => rfl⟩⟩, ⟨⟨f_row_of, dd_mk X G a_row_of l_row_of c_row_of k_row_of fun _ _ _ _ _ _ us hl => match us, hl with | [_, _], _ => rfl⟩⟩, ⟨⟨f_rows_up_to, dd_mk X G a_rows_up_to l_rows_up_to c_rows_up_to k_rows_up_to fun _ _ _ _ _ _ us hl => match us, hl with | [_, _], _ => rfl⟩⟩, ⟨⟨f_need_way, dd_mk X G a_need_way l_need_way c_need_way k_need_way fun _ _ _ _ _ _ us hl => match us, hl with | [_], _ => rfl⟩⟩, ⟨⟨f_fault_of, dd_mk X G a_fault_of l_fault_of c_fault_of k_fault_of fun _ _ _ _ _ _ us hl => match us, hl with | [_], _ => rfl⟩⟩, ⟨⟨f_unturned, dd_mk X G a_unturned l_unturned c_unturned k_unturned fun _ _ _ _ _ _ us hl => match us, hl with | [_], _ => rfl⟩⟩, ⟨⟨f_plain_signs, dd_mk X G a_plain_signs l_plain_signs c_plain_signs k_plain_signs fun _ _ _ _ _ _ us hl => match us, hl with | [_, _], _ => rfl⟩⟩, ⟨⟨f_first_unsigned, dd_mk X G a_first_unsigned l_first_unsigned c_first_unsigned k_first_unsigned fun _ _ _ _ _ _ us hl => match us, hl with | [_, _], _ => rfl⟩⟩, ⟨⟨f_is_whole, dd_mk X G a_is_whole l_is_whole c_is_whole k_is_whole fun _ _ _ _ _ _ us hl => match us, hl with | [_], _ => rfl⟩⟩, ⟨⟨f_is_top, dd_mk X G a_is_top l_is_top c_is_top k_is_top fun _ _ _ _ _ _ us hl => match us, hl with | [_], _ => rfl⟩⟩, ⟨⟨f_is_sign, dd_mk X G a_is_sign l_is_sign c_is_sign k_is_sign fun _ _ _ _ _ _ us hl => match us, hl with | [_, _], _ => rfl⟩⟩, ⟨⟨f_is_plain, dd_mk X G a_is_plain l_is_plain c_is_plain k_is_plain fun _ _ _ _ _ _ us hl => match us, hl with | [_, _, _], _ => rfl⟩⟩, ⟨⟨f_is_turning, dd_mk X G a_is_turning l_is_turning c_is_turning k_is_turning fun _ _ _ _ _ _ us hl => match us, hl with | [_, _], _ => rfl⟩⟩, ⟨⟨f_codes_fault, dd_mk X G a_codes_fault l_codes_fault c_codes_fault k_codes_fault fun _ _ _ _ _ _ us hl => match us, hl with | [_], _ => rfl⟩⟩, ⟨⟨f_is_code, dd_mk X G a_is_code l_is_code c_is_code k_is_code fun _ _ _ _ _ _ us hl => match us, hl with | [_, _, _], _ => rfl⟩⟩, ⟨⟨f_stand_apart, dd_mk X G a_stand_apart l_stand_apart c_stand_apart k_stand_apart fun _ _ _ _ _ _ us hl => match us, hl with | [_], _ => rfl⟩⟩, ⟨⟨f_escapes_fault, dd_mk X G a_escapes_fault l_escapes_fault c_escapes_fault k_escapes_fault fun _ _ _ _ _ _ us hl => match us, hl with | [_], _ => rfl⟩⟩, ⟨⟨f_counts_fault, dd_mk X G a_counts_fault l_counts_fault c_counts_fault k_counts_fault fun _ _ _ _ _ _ us hl => match us, hl with | [_], _ => rfl⟩⟩, ⟨⟨f_ranks_fault, dd_mk X G a_ranks_fault l_ranks_fault c_ranks_fault k_ranks_fault fun _ _ _ _ _ _ us hl => match us, hl with | [_], _ => rfl⟩⟩, ⟨⟨f_framed, dd_mk X G a_framed l_framed c_framed k_framed fun _ _ _ _ _ _ us hl => match us, hl with | [_, _], _ => rfl⟩⟩, ⟨⟨f_body_of, dd_mk X G a_body_of l_body_of c_body_of k_body_of fun _ _ _ _ _ _ us hl => match us, hl with | [_, _], _ => rfl⟩⟩, ⟨⟨f_need_body, dd_mk X G a_need_body l_need_body c_need_body k_need_body fun _ _ _ _ _ _ us hl => match us, hl with | [_, _], _ => rfl⟩⟩, ⟨⟨f_need_signs, dd_mk X G a_need_signs l_need_signs c_need_signs k_need_signs fun _ _ _ _ _ _ us hl => match us, hl with | [_, _], _ => rfl⟩⟩, ⟨⟨f_top_of, dd_mk X G a_top_of l_top_of c_top_of k_top_of fun _ _ _ _ _ _ us hl => match us, hl with | [_], _ => rfl⟩⟩, ⟨⟨f_frame_of, dd_mk X G a_frame_of l_frame_of c_frame_of k_frame_of fun _ _ _ _ _ _ us hl => match us, hl with | [_, _], _ => rfl⟩⟩, ⟨⟨f_exchanged, dd_mk X G a_exchanged l_exchanged c_exchanged k_exchanged fun _ _ _ _ _ _ us hl => match us, hl with | [_, _], _ => rfl⟩⟩, ⟨⟨f_taken_out, dd_mk X G a_taken_out l_taken_out c_taken_out k_taken_out fun _ _ _ _ _ _ us hl => match us, hl with | [_, _], _ => rfl⟩⟩, ⟨⟨f_by_codes, dd_mk X G a_by_codes l_by_codes c_by_codes k_by_codes fun _ _ _ _ _ _ us hl => match us, hl with | [_, _], _ => rfl⟩⟩, ⟨⟨f_from_codes, dd_mk X G a_from_codes l_from_codes c_from_codes k_from_codes fun _ _ _ _ _ _ us hl => match us, hl with | [_, _], _ => rfl⟩⟩, ⟨⟨f_by_escapes, dd_mk X G a_by_escapes l_by_escapes c_by_escapes k_by_escapes fun _ _ _ _ _ _ us hl => match us, hl with | [_, _], _ => rfl⟩⟩, ⟨⟨f_from_escapes, dd_mk X G a_from_escapes l_from_escapes c_from_escapes k_from_escapes fun _ _ _ _ _ _ us hl => match us, hl with | [_, _], _ => rfl⟩⟩, ⟨⟨f_by_counts, dd_mk X G a_by_counts l_by_counts c_by_counts k_by_counts fun _ _ _ _ _ _ us hl => match us, hl with | [_, _], _ => rfl⟩⟩, ⟨⟨f_rows_between, dd_mk X G a_rows_between l_rows_between c_rows_between k_rows_between fun _ _ _ _ _ _ us hl => match us, hl with | [_, _], _ => rfl⟩⟩, ⟨⟨f_grouped, dd_mk X G a_grouped l_grouped c_grouped k_grouped fun _ _ _ _ _ _ us hl => match us, hl with | [_, _], _ => rfl⟩⟩, ⟨⟨f_from_counts, dd_mk X G a_from_counts l_from_counts c_from_counts k_from_counts fun _ _ _ _ _ _ us hl => match us, hl with | [_, _], _ => rfl⟩⟩, ⟨⟨f_by_ranks, dd_mk X G a_by_ranks l_by_ranks c_by_ranks k_by_ranks fun _ _ _ _ _ _ us hl => match us, hl with | [_, _], _ => rfl⟩⟩, ⟨⟨f_from_ranks, dd_mk X G a_from_ranks l_from_ranks c_from_ranks k_from_ranks fun _ _ _ _ _ _ us hl => match us, hl with | [_, _], _ => rfl⟩⟩, ⟨⟨f_parted, dd_mk X G a_parted l_parted c_parted k_parted fun _ _ _ _ _ _ us hl => match us, hl with | [_, _], _ => rfl⟩⟩, ⟨⟨f_in_order, dd_mk X G a_in_order l_in_order c_in_order k_in_order fun _ _ _ _ _ _ us hl => match us, hl with | [_], _ => rfl⟩⟩, ⟨⟨f_telling_lists, dd_mk X G a_telling_lists l_telling_lists c_telling_lists k_telling_lists fun _ _ _ _ _ _ us hl => match us, hl with | [_], _ => rfl⟩⟩, ⟨⟨f_one_too_many, dd_mk X G a_one_too_many l_one_too_many c_one_too_many k_one_too_many fun _ _ _ _ _ _ us hl => match us, hl with | [_], _ => rfl⟩⟩, ⟨⟨f_worst, dd_mk X G a_worst l_worst c_worst k_worst fun _ _ _ _ _ _ us hl => match us, hl with | [_, _], _ => rfl⟩⟩, ⟨⟨f_frames_of, dd_mk X G a_frames_of l_frames_of c_frames_of k_frames_of fun _ _ _ _ _ _ us hl => match us, hl with | [_, _], _ => rfl⟩⟩, ⟨⟨f_ranks_of_size, dd_mk X G a_ranks_of_size l_ranks_of_size c_ranks_of_size k_ranks_of_size fun _ _ _ _ _ _ us hl => match us, hl with | [_, _], _ => rfl⟩⟩, ⟨⟨f_pieces_of_size, dd_mk X G a_pieces_of_size l_pieces_of_size c_pieces_of_size k_pieces_of_size fun _ _ _ _ _ _ us hl => match us, hl with | [_, _], _ => rfl⟩⟩, ⟨⟨f_groups_of_size, dd_mk X G a_groups_of_size l_groups_of_size c_groups_of_size k_groups_of_size fun _ _ _ _ _ _ us hl => match us, hl with | [_, _], _ => rfl⟩⟩, ⟨⟨f_bodies_of_size, dd_mk X G a_bodies_of_size l_bodies_of_size c_bodies_of_size k_bodies_of_size fun _ _ _ _ _ _ us hl => match us, hl with | [_, _, _], _ => rfl⟩⟩, ⟨⟨f__law_dice, dd_mk X G a__law_dice l__law_dice c__law_dice k__law_dice fun _ _ _ _ _ _ us hl => match us, hl with | [_, _], _ => rfl⟩⟩, ⟨⟨f__law_off, dd_mk X G a__law_off l__law_off c__law_off k__law_off fun _ _ _ _ _ _ us hl => match us, hl with | [_, _], _ => rfl⟩⟩, ⟨⟨f__law_alike, dd_mk X G a__law_alike l__law_alike c__law_alike k__law_alike fun _ _ _ _ _ _ us hl => match us, hl with | [_, _], _ => rfl⟩⟩, ⟨⟨f__law_mixed, dd_mk X G a__law_mixed l__law_mixed c__law_mixed k__law_mixed fun _ _ _ _ _ _ us hl => match us, hl with | [_, _], _ => rfl⟩⟩, ⟨⟨f__law_plain, dd_mk X G a__law_plain l__law_plain c__law_plain k__law_plain fun _ _ _ _ _ _ us hl => match us, hl with | [_, _], _ => rfl⟩⟩, ⟨⟨f__law_codes, dd_mk X G a__law_codes l__law_codes c__law_codes k__law_codes fun _ _ _ _ _ _ us hl => match us, hl with | [_, _, _], _ => rfl⟩⟩, ⟨⟨f__law_escapes, dd_mk X G a__law_escapes l__law_escapes c__law_escapes k__law_escapes fun _ _ _ _ _ _ us hl => match us, hl with | [_, _, _], _ => rfl⟩⟩, ⟨⟨f__law_base, dd_mk X G a__law_base l__law_base c__law_base k__law_base fun _ _ _ _ _ _ us hl => match us, hl with | [_, _], _ => rfl⟩⟩, ⟨⟨f__law_turned, dd_mk X G a__law_turned l__law_turned c__law_turned k__law_turned fun _ _ _ _ _ _ us hl => match us, hl with | [_, _, _], _ => rfl⟩⟩, ⟨⟨f__law_core, dd_mk X G a__law_core l__law_core c__law_core k__law_core fun _ _ _ _ _ _ us hl => match us, hl with | [_], _ => rfl⟩⟩, ⟨⟨f__law_top, dd_mk X G a__law_top l__law_top c__law_top k__law_top fun _ _ _ _ _ _ us hl => match us, hl with | [_], _ => rfl⟩⟩, ⟨⟨f__law_end, dd_mk X G a__law_end l__law_end c__law_end k__law_end fun _ _ _ _ _ _ us hl => match us, hl with | [_], _ => rfl⟩⟩, ⟨⟨f__law_size, dd_mk X G a__law_size l__law_size c__law_size k__law_size fun _ _ _ _ _ _ us hl => match us, hl with | [_], _ => rfl⟩⟩, ⟨⟨f__law_way, dd_mk X G a__law_way l__law_way c__law_way k__law_way fun _ _ _ _ _ _ us hl => match us, hl with | [_], _ => rfl⟩⟩, ⟨⟨f__law_body, dd_mk X G a__law_body l__law_body c__law_body k__law_body fun _ _ _ _ _ _ us hl => match us, hl with | [_, _, _, _], _ => rfl⟩⟩, ⟨⟨f__law_number, dd_mk X G a__law_number l__law_number c__law_number k__law_number fun _ _ _ _ _ _ us hl => match us, hl with | [_, _], _ => rfl⟩⟩, ⟨⟨f__law_list, dd_mk X G a__law_list l__law_list c__law_list k__law_list fun _ _ _ _ _ _ us hl => match us, hl with | [_, _], _ => rfl⟩⟩, ⟨⟨f__law_rows, dd_mk X G a__law_rows l__law_rows c__law_rows k__law_rows fun _ _ _ _ _ _ us hl => match us, hl with | [_, _], _ => rfl⟩⟩, ⟨⟨f__law_counted, dd_mk X G a__law_counted l__law_counted c__law_counted k__law_counted fun _ _ _ _ _ _ us hl => match us, hl with | [_, _, _, _], _ => rfl⟩⟩, ⟨⟨f__law_framed, dd_mk X G a__law_framed l__law_framed c__law_framed k__law_framed fun _ _ _ _ _ _ us hl => match us, hl with | [_, _], _ => rfl⟩⟩, ⟨⟨f__law_turns, dd_mk X G a__law_turns l__law_turns c__law_turns k__law_turns fun _ _ _ _ _ _ us hl => match us, hl with | [_], _ => rfl⟩⟩, ⟨⟨f__law_escape_codes, dd_mk X G a__law_escape_codes l__law_escape_codes c__law_escape_codes k__law_escape_codes fun _ _ _ _ _ _ us hl => match us, hl with | [_], _ => rfl⟩⟩, ⟨⟨f__law_signs, dd_mk X G a__law_signs l__law_signs c__law_signs k__law_signs fun _ _ _ _ _ _ us hl => match us, hl with | [_, _, _], _ => rfl⟩⟩, ⟨⟨f__law_escaped, dd_mk X G a__law_escaped l__law_escaped c__law_escaped k__law_escaped fun _ _ _ _ _ _ us hl => match us, hl with | [_], _ => rfl⟩⟩, ⟨⟨f__law_folded, dd_mk X G a__law_folded l__law_folded c__law_folded k__law_folded fun _ _ _ _ _ _ us hl => match us, hl with | [_], _ => rfl⟩⟩, ⟨⟨f__law_otherwise, dd_mk X G a__law_otherwise l__law_otherwise c__law_otherwise k__law_otherwise fun _ _ _ _ _ _ us hl => match us, hl with | [_, _], _ => rfl⟩⟩, ⟨⟨f__law_one, dd_mk X G a__law_one l__law_one c__law_one k__law_one fun _ _ _ _ _ _ us hl => match us, hl with | [_, _, _], _ => rfl⟩⟩, gi_mk X G g_LEAST_TOP, gi_mk X G g_MOST_TOP, gi_mk X G g_LONGEST_CODE, gi_mk X G g_MOST_TURNED, gi_mk X G g_MOST_BODY, gi_mk X G g_MOST_SIGNS, gi_mk X G g_LONGEST_FRAME, ⟨p_FAULTS, gr_mk X G g_FAULTS, ⟨f_codes_fault, PySem.W.mg_of X G a_codes_fault, kd_mk m_FAULTS e_FAULTS h_FAULTS_codes⟩, ⟨f_escapes_fault, PySem.W.mg_of X G a_escapes_fault, kd_mk m_FAULTS e_FAULTS h_FAULTS_escapes⟩, ⟨f_counts_fault, PySem.W.mg_of X G a_counts_fault, kd_mk m_FAULTS e_FAULTS h_FAULTS_counts⟩, ⟨f_ranks_fault, PySem.W.mg_of X G a_ranks_fault, kd_mk m_FAULTS e_FAULTS h_FAULTS_ranks⟩⟩, ⟨p_FRAMERS, gr_mk X G g_FRAMERS, ⟨f_by_codes, PySem.W.mg_of X G a_by_codes, kd_mk m_FRAMERS e_FRAMERS h_FRAMERS_codes⟩, ⟨f_by_escapes, PySem.W.mg_of X G a_by_escapes, kd_mk m_FRAMERS e_FRAMERS h_FRAMERS_escapes⟩, ⟨f_by_counts, PySem.W.mg_of X G a_by_counts, kd_mk m_FRAMERS e_FRAMERS h_FRAMERS_counts⟩, ⟨f_by_ranks, PySem.W.mg_of X G a_by_ranks, kd_mk m_FRAMERS e_FRAMERS h_FRAMERS_ranks⟩⟩, ⟨p_READERS, gr_mk X G g_READERS, ⟨f_from_codes, PySem.W.mg_of X G a_from_codes, kd_mk m_READERS e_READERS h_READERS_codes⟩, ⟨f_from_escapes, PySem.W.mg_of X G a_from_escapes, kd_mk m_READERS e_READERS h_READERS_escapes⟩, ⟨f_from_counts, PySem.W.mg_of X G a_from_counts, kd_mk m_READERS e_READERS h_READERS_counts⟩, ⟨f_from_ranks, PySem.W.mg_of X G a_from_ranks, kd_mk m_READERS e_READERS h_READERS_ranks⟩⟩, ⟨p_COUNTERS, gr_mk X G g_COUNTERS, ⟨f_pieces_of_size, PySem.W.mg_of X G a_pieces_of_size, kd_mk m_COUNTERS e_COUNTERS h_COUNTERS_codes⟩, ⟨f_pieces_of_size, PySem.W.mg_of X G a_pieces_of_size, kd_mk m_COUNTERS e_COUNTERS h_COUNTERS_escapes⟩, ⟨f_groups_of_size, PySem.W.mg_of X G a_groups_of_size, kd_mk m_COUNTERS e_COUNTERS h_COUNTERS_counts⟩, ⟨f_ranks_of_size, PySem.W.mg_of X G a_ranks_of_size, kd_mk m_COUNTERS e_COUNTERS h_COUNTERS_ranks⟩⟩⟩
  exact law_mk X G hfa a_law l_law c_law k_law T
end Esc

open PySem PySem.W PyProof.Rows
set_option maxHeartbeats 0 in
theorem PySem.Challenge.cw_escaperow_k17_whole_told_otherwise_holds : PySem.Challenge.rw_escaperow_k17_whole_told_otherwise.Holds := by
  w_on; o_law; k_head; (case hw => w_witness2)
  k_fill
  refine L2.walk_of (l := PySem.Challenge.rw_escaperow_k17_whole_told_otherwise) (n := 63) (k := 10) (x := "_law_script") (CX := fun _ => C8.CX0) (sp := fun w => Esc.spLaw _) rfl (by decide) rfl ⟨rfl, by decide, by decide⟩ (fun w h Y => PySem.W.kIn_of Y) ?F (fun _ _ a ns hl _ hS => ⟨a, ns, rfl, hS, hl, fun _ => rfl⟩) (fun _ _ _ _ _ h => h)
  case F =>
    intro w mg fa h KX G hmg
    refine' Esc.all_mk KX G hmg ?z_abs ?z_all ?z_enumerate ?z_int ?z_isinstance ?z_len ?z_list ?z_max ?z_min ?z_range ?z_reversed ?z_set ?z_sorted ?z_sum ?z_tuple ?z_type ?z_bool ?z_str ?a_rank_of ?l_rank_of ?c_rank_of ?k_rank_of ?a_row_of ?l_row_of ?c_row_of ?k_row_of ?a_rows_up_to ?l_rows_up_to ?c_rows_up_to ?k_rows_up_to ?a_need_way ?l_need_way ?c_need_way ?k_need_way ?a_fault_of ?l_fault_of ?c_fault_of ?k_fault_of ?a_unturned ?l_unturned ?c_unturned ?k_unturned ?a_plain_signs ?l_plain_signs ?c_plain_signs ?k_plain_signs ?a_first_unsigned ?l_first_unsigned ?c_first_unsigned ?k_first_unsigned ?a_is_whole ?l_is_whole ?c_is_whole ?k_is_whole ?a_is_top ?l_is_top ?c_is_top ?k_is_top ?a_is_sign ?l_is_sign ?c_is_sign ?k_is_sign ?a_is_plain ?l_is_plain ?c_is_plain ?k_is_plain ?a_is_turning ?l_is_turning ?c_is_turning ?k_is_turning ?a_codes_fault ?l_codes_fault ?c_codes_fault ?k_codes_fault ?a_is_code ?l_is_code ?c_is_code ?k_is_code ?a_stand_apart ?l_stand_apart ?c_stand_apart ?k_stand_apart ?a_escapes_fault ?l_escapes_fault ?c_escapes_fault ?k_escapes_fault ?a_counts_fault ?l_counts_fault ?c_counts_fault ?k_counts_fault ?a_ranks_fault ?l_ranks_fault ?c_ranks_fault ?k_ranks_fault ?a_framed ?l_framed ?c_framed ?k_framed ?a_body_of ?l_body_of ?c_body_of ?k_body_of ?a_need_body ?l_need_body ?c_need_body ?k_need_body ?a_need_signs ?l_need_signs ?c_need_signs ?k_need_signs ?a_top_of ?l_top_of ?c_top_of ?k_top_of ?a_frame_of ?l_frame_of ?c_frame_of ?k_frame_of ?a_exchanged ?l_exchanged ?c_exchanged ?k_exchanged ?a_taken_out ?l_taken_out ?c_taken_out ?k_taken_out ?a_by_codes ?l_by_codes ?c_by_codes ?k_by_codes ?a_from_codes ?l_from_codes ?c_from_codes ?k_from_codes ?a_by_escapes ?l_by_escapes ?c_by_escapes ?k_by_escapes ?a_from_escapes ?l_from_escapes ?c_from_escapes ?k_from_escapes ?a_by_counts ?l_by_counts ?c_by_counts ?k_by_counts ?a_rows_between ?l_rows_between ?c_rows_between ?k_rows_between ?a_grouped ?l_grouped ?c_grouped ?k_grouped ?a_from_counts ?l_from_counts ?c_from_counts ?k_from_counts ?a_by_ranks ?l_by_ranks ?c_by_ranks ?k_by_ranks ?a_from_ranks ?l_from_ranks ?c_from_ranks ?k_from_ranks ?a_parted ?l_parted ?c_parted ?k_parted ?a_in_order ?l_in_order ?c_in_order ?k_in_order ?a_telling_lists ?l_telling_lists ?c_telling_lists ?k_telling_lists ?a_one_too_many ?l_one_too_many ?c_one_too_many ?k_one_too_many ?a_worst ?l_worst ?c_worst ?k_worst ?a_frames_of ?l_frames_of ?c_frames_of ?k_frames_of ?a_ranks_of_size ?l_ranks_of_size ?c_ranks_of_size ?k_ranks_of_size ?a_pieces_of_size ?l_pieces_of_size ?c_pieces_of_size ?k_pieces_of_size ?a_groups_of_size ?l_groups_of_size ?c_groups_of_size ?k_groups_of_size ?a_bodies_of_size ?l_bodies_of_size ?c_bodies_of_size ?k_bodies_of_size ?a__law_dice ?l__law_dice ?c__law_dice ?k__law_dice ?a__law_off ?l__law_off ?c__law_off ?k__law_off ?a__law_alike ?l__law_alike ?c__law_alike ?k__law_alike ?a__law_mixed ?l__law_mixed ?c__law_mixed ?k__law_mixed ?a__law_plain ?l__law_plain ?c__law_plain ?k__law_plain ?a__law_codes ?l__law_codes ?c__law_codes ?k__law_codes ?a__law_escapes ?l__law_escapes ?c__law_escapes ?k__law_escapes ?a__law_base ?l__law_base ?c__law_base ?k__law_base ?a__law_turned ?l__law_turned ?c__law_turned ?k__law_turned ?a__law_core ?l__law_core ?c__law_core ?k__law_core ?a__law_top ?l__law_top ?c__law_top ?k__law_top ?a__law_end ?l__law_end ?c__law_end ?k__law_end ?a__law_size ?l__law_size ?c__law_size ?k__law_size ?a__law_way ?l__law_way ?c__law_way ?k__law_way ?a__law_body ?l__law_body ?c__law_body ?k__law_body ?a__law_number ?l__law_number ?c__law_number ?k__law_number ?a__law_list ?l__law_list ?c__law_list ?k__law_list ?a__law_rows ?l__law_rows ?c__law_rows ?k__law_rows ?a__law_counted ?l__law_counted ?c__law_counted ?k__law_counted ?a__law_framed ?l__law_framed ?c__law_framed ?k__law_framed ?a__law_turns ?l__law_turns ?c__law_turns ?k__law_turns ?a__law_escape_codes ?l__law_escape_codes ?c__law_escape_codes ?k__law_escape_codes ?a__law_signs ?l__law_signs ?c__law_signs ?k__law_signs ?a__law_escaped ?l__law_escaped ?c__law_escaped ?k__law_escaped ?a__law_folded ?l__law_folded ?c__law_folded ?k__law_folded ?a__law_otherwise ?l__law_otherwise ?c__law_otherwise ?k__law_otherwise ?a__law_one ?l__law_one ?c__law_one ?k__law_one ?a_law ?l_law ?c_law ?k_law ?g_LEAST_TOP ?g_MOST_TOP ?g_LONGEST_CODE ?g_MOST_TURNED ?g_MOST_BODY ?g_MOST_SIGNS ?g_LONGEST_FRAME ?g_FAULTS ?m_FAULTS ?e_FAULTS ?h_FAULTS_codes ?h_FAULTS_escapes ?h_FAULTS_counts ?h_FAULTS_ranks ?g_FRAMERS ?m_FRAMERS ?e_FRAMERS ?h_FRAMERS_codes ?h_FRAMERS_escapes ?h_FRAMERS_counts ?h_FRAMERS_ranks ?g_READERS ?m_READERS ?e_READERS ?h_READERS_codes ?h_READERS_escapes ?h_READERS_counts ?h_READERS_ranks ?g_COUNTERS ?m_COUNTERS ?e_COUNTERS ?h_COUNTERS_codes ?h_COUNTERS_escapes ?h_COUNTERS_counts ?h_COUNTERS_ranks
    (case z_abs => k_is)
    (case z_all => k_is)
    (case z_enumerate => k_is)
    (case z_int => k_is)
    (case z_isinstance => k_is)
    (case z_len => k_is)
    (case z_list => k_is)
    (case z_max => k_is)
    (case z_min => k_is)
    (case z_range => k_is)
    (case z_reversed => k_is)
    (case z_set => k_is)
    (case z_sorted => k_is)
    (case z_sum => k_is)
    (case z_tuple => k_is)
    (case z_type => k_is)
    (case z_bool => k_is)
    (case z_str => k_is)
    (case a_rank_of => k_is)
    (case l_rank_of => k_is)
    (case c_rank_of => k_is)
    (case k_rank_of => k_is)
    (case a_row_of => k_is)
    (case l_row_of => k_is)
    (case c_row_of => k_is)
    (case k_row_of => k_is)
    (case a_rows_up_to => k_is)
    (case l_rows_up_to => k_is)
    (case c_rows_up_to => k_is)
    (case k_rows_up_to => k_is)
    (case a_need_way => k_is)
    (case l_need_way => k_is)
    (case c_need_way => k_is)
    (case k_need_way => k_is)
    (case a_fault_of => k_is)
    (case l_fault_of => k_is)
    (case c_fault_of => k_is)
    (case k_fault_of => k_is)
    (case a_unturned => k_is)
    (case l_unturned => k_is)
    (case c_unturned => k_is)
    (case k_unturned => k_is)
    (case a_plain_signs => k_is)
    (case l_plain_signs => k_is)
    (case c_plain_signs => k_is)
    (case k_plain_signs => k_is)
    (case a_first_unsigned => k_is)
    (case l_first_unsigned => k_is)
    (case c_first_unsigned => k_is)
    (case k_first_unsigned => k_is)
    (case a_is_whole => k_is)
    (case l_is_whole => k_is)
    (case c_is_whole => k_is)
    (case k_is_whole => k_is)
    (case a_is_top => k_is)
    (case l_is_top => k_is)
    (case c_is_top => k_is)
    (case k_is_top => k_is)
    (case a_is_sign => k_is)
    (case l_is_sign => k_is)
    (case c_is_sign => k_is)
    (case k_is_sign => k_is)
    (case a_is_plain => k_is)
    (case l_is_plain => k_is)
    (case c_is_plain => k_is)
    (case k_is_plain => k_is)
    (case a_is_turning => k_is)
    (case l_is_turning => k_is)
    (case c_is_turning => k_is)
    (case k_is_turning => k_is)
    (case a_codes_fault => k_is)
    (case l_codes_fault => k_is)
    (case c_codes_fault => k_is)
    (case k_codes_fault => k_is)
    (case a_is_code => k_is)
    (case l_is_code => k_is)
    (case c_is_code => k_is)
    (case k_is_code => k_is)
    (case a_stand_apart => k_is)
    (case l_stand_apart => k_is)
    (case c_stand_apart => k_is)
    (case k_stand_apart => k_is)
    (case a_escapes_fault => k_is)
    (case l_escapes_fault => k_is)
    (case c_escapes_fault => k_is)
    (case k_escapes_fault => k_is)
    (case a_counts_fault => k_is)
    (case l_counts_fault => k_is)
    (case c_counts_fault => k_is)
    (case k_counts_fault => k_is)
    (case a_ranks_fault => k_is)
    (case l_ranks_fault => k_is)
    (case c_ranks_fault => k_is)
    (case k_ranks_fault => k_is)
    (case a_framed => k_is)
    (case l_framed => k_is)
    (case c_framed => k_is)
    (case k_framed => k_is)
    (case a_body_of => k_is)
    (case l_body_of => k_is)
    (case c_body_of => k_is)
    (case k_body_of => k_is)
    (case a_need_body => k_is)
    (case l_need_body => k_is)
    (case c_need_body => k_is)
    (case k_need_body => k_is)
    (case a_need_signs => k_is)
    (case l_need_signs => k_is)
    (case c_need_signs => k_is)
    (case k_need_signs => k_is)
    (case a_top_of => k_is)
    (case l_top_of => k_is)
    (case c_top_of => k_is)
    (case k_top_of => k_is)
    (case a_frame_of => k_is)
    (case l_frame_of => k_is)
    (case c_frame_of => k_is)
    (case k_frame_of => k_is)
    (case a_exchanged => k_is)
    (case l_exchanged => k_is)
    (case c_exchanged => k_is)
    (case k_exchanged => k_is)
    (case a_taken_out => k_is)
    (case l_taken_out => k_is)
    (case c_taken_out => k_is)
    (case k_taken_out => k_is)
    (case a_by_codes => k_is)
    (case l_by_codes => k_is)
    (case c_by_codes => k_is)
    (case k_by_codes => k_is)
    (case a_from_codes => k_is)
    (case l_from_codes => k_is)
    (case c_from_codes => k_is)
    (case k_from_codes => k_is)
    (case a_by_escapes => k_is)
    (case l_by_escapes => k_is)
    (case c_by_escapes => k_is)
    (case k_by_escapes => k_is)
    (case a_from_escapes => k_is)
    (case l_from_escapes => k_is)
    (case c_from_escapes => k_is)
    (case k_from_escapes => k_is)
    (case a_by_counts => k_is)
    (case l_by_counts => k_is)
    (case c_by_counts => k_is)
    (case k_by_counts => k_is)
    (case a_rows_between => k_is)
    (case l_rows_between => k_is)
    (case c_rows_between => k_is)
    (case k_rows_between => k_is)
    (case a_grouped => k_is)
    (case l_grouped => k_is)
    (case c_grouped => k_is)
    (case k_grouped => k_is)
    (case a_from_counts => k_is)
    (case l_from_counts => k_is)
    (case c_from_counts => k_is)
    (case k_from_counts => k_is)
    (case a_by_ranks => k_is)
    (case l_by_ranks => k_is)
    (case c_by_ranks => k_is)
    (case k_by_ranks => k_is)
    (case a_from_ranks => k_is)
    (case l_from_ranks => k_is)
    (case c_from_ranks => k_is)
    (case k_from_ranks => k_is)
    (case a_parted => k_is)
    (case l_parted => k_is)
    (case c_parted => k_is)
    (case k_parted => k_is)
    (case a_in_order => k_is)
    (case l_in_order => k_is)
    (case c_in_order => k_is)
    (case k_in_order => k_is)
    (case a_telling_lists => k_is)
    (case l_telling_lists => k_is)
    (case c_telling_lists => k_is)
    (case k_telling_lists => k_is)
    (case a_one_too_many => k_is)
    (case l_one_too_many => k_is)
    (case c_one_too_many => k_is)
    (case k_one_too_many => k_is)
    (case a_worst => k_is)
    (case l_worst => k_is)
    (case c_worst => k_is)
    (case k_worst => k_is)
    (case a_frames_of => k_is)
    (case l_frames_of => k_is)
    (case c_frames_of => k_is)
    (case k_frames_of => k_is)
    (case a_ranks_of_size => k_is)
    (case l_ranks_of_size => k_is)
    (case c_ranks_of_size => k_is)
    (case k_ranks_of_size => k_is)
    (case a_pieces_of_size => k_is)
    (case l_pieces_of_size => k_is)
    (case c_pieces_of_size => k_is)
    (case k_pieces_of_size => k_is)
    (case a_groups_of_size => k_is)
    (case l_groups_of_size => k_is)
    (case c_groups_of_size => k_is)
    (case k_groups_of_size => k_is)
    (case a_bodies_of_size => k_is)
    (case l_bodies_of_size => k_is)
    (case c_bodies_of_size => k_is)
    (case k_bodies_of_size => k_is)
    (case a__law_dice => k_is)
    (case l__law_dice => k_is)
    (case c__law_dice => k_is)
    (case k__law_dice => k_is)
    (case a__law_off => k_is)
    (case l__law_off => k_is)
    (case c__law_off => k_is)
    (case k__law_off => k_is)
    (case a__law_alike => k_is)
    (case l__law_alike => k_is)
    (case c__law_alike => k_is)
    (case k__law_alike => k_is)
    (case a__law_mixed => k_is)
    (case l__law_mixed => k_is)
    (case c__law_mixed => k_is)
    (case k__law_mixed => k_is)
    (case a__law_plain => k_is)
    (case l__law_plain => k_is)
    (case c__law_plain => k_is)
    (case k__law_plain => k_is)
    (case a__law_codes => k_is)
    (case l__law_codes => k_is)
    (case c__law_codes => k_is)
    (case k__law_codes => k_is)
    (case a__law_escapes => k_is)
    (case l__law_escapes => k_is)
    (case c__law_escapes => k_is)
    (case k__law_escapes => k_is)
    (case a__law_base => k_is)
    (case l__law_base => k_is)
    (case c__law_base => k_is)
    (case k__law_base => k_is)
    (case a__law_turned => k_is)
    (case l__law_turned => k_is)
    (case c__law_turned => k_is)
    (case k__law_turned => k_is)
    (case a__law_core => k_is)
    (case l__law_core => k_is)
    (case c__law_core => k_is)
    (case k__law_core => k_is)
    (case a__law_top => k_is)
    (case l__law_top => k_is)
    (case c__law_top => k_is)
    (case k__law_top => k_is)
    (case a__law_end => k_is)
    (case l__law_end => k_is)
    (case c__law_end => k_is)
    (case k__law_end => k_is)
    (case a__law_size => k_is)
    (case l__law_size => k_is)
    (case c__law_size => k_is)
    (case k__law_size => k_is)
    (case a__law_way => k_is)
    (case l__law_way => k_is)
    (case c__law_way => k_is)
    (case k__law_way => k_is)
    (case a__law_body => k_is)
    (case l__law_body => k_is)
    (case c__law_body => k_is)
    (case k__law_body => k_is)
    (case a__law_number => k_is)
    (case l__law_number => k_is)
    (case c__law_number => k_is)
    (case k__law_number => k_is)
    (case a__law_list => k_is)
    (case l__law_list => k_is)
    (case c__law_list => k_is)
    (case k__law_list => k_is)
    (case a__law_rows => k_is)
    (case l__law_rows => k_is)
    (case c__law_rows => k_is)
    (case k__law_rows => k_is)
    (case a__law_counted => k_is)
    (case l__law_counted => k_is)
    (case c__law_counted => k_is)
    (case k__law_counted => k_is)
    (case a__law_framed => k_is)
    (case l__law_framed => k_is)
    (case c__law_framed => k_is)
    (case k__law_framed => k_is)
    (case a__law_turns => k_is)
    (case l__law_turns => k_is)
    (case c__law_turns => k_is)
    (case k__law_turns => k_is)
    (case a__law_escape_codes => k_is)
    (case l__law_escape_codes => k_is)
    (case c__law_escape_codes => k_is)
    (case k__law_escape_codes => k_is)
    (case a__law_signs => k_is)
    (case l__law_signs => k_is)
    (case c__law_signs => k_is)
    (case k__law_signs => k_is)
    (case a__law_escaped => k_is)
    (case l__law_escaped => k_is)
    (case c__law_escaped => k_is)
    (case k__law_escaped => k_is)
    (case a__law_folded => k_is)
    (case l__law_folded => k_is)
    (case c__law_folded => k_is)
    (case k__law_folded => k_is)
    (case a__law_otherwise => k_is)
    (case l__law_otherwise => k_is)
    (case c__law_otherwise => k_is)
    (case k__law_otherwise => k_is)
    (case a__law_one => k_is)
    (case l__law_one => k_is)
    (case c__law_one => k_is)
    (case k__law_one => k_is)
    (case a_law => k_is)
    (case l_law => k_is)
    (case c_law => k_is)
    (case k_law => k_is)
    (case g_LEAST_TOP => k_is)
    (case g_MOST_TOP => k_is)
    (case g_LONGEST_CODE => k_is)
    (case g_MOST_TURNED => k_is)
    (case g_MOST_BODY => k_is)
    (case g_MOST_SIGNS => k_is)
    (case g_LONGEST_FRAME => k_is)
    (case g_FAULTS => k_is)
    (case m_FAULTS => k_is)
    (case e_FAULTS => exact ⟨⟨_, _, rfl, rfl⟩, ⟨_, _, rfl, rfl⟩, ⟨_, _, rfl, rfl⟩, ⟨_, _, rfl, rfl⟩, trivial⟩)
    (case h_FAULTS_codes => k_is)
    (case h_FAULTS_escapes => k_is)
    (case h_FAULTS_counts => k_is)
    (case h_FAULTS_ranks => k_is)
    (case g_FRAMERS => k_is)
    (case m_FRAMERS => k_is)
    (case e_FRAMERS => exact ⟨⟨_, _, rfl, rfl⟩, ⟨_, _, rfl, rfl⟩, ⟨_, _, rfl, rfl⟩, ⟨_, _, rfl, rfl⟩, trivial⟩)
    (case h_FRAMERS_codes => k_is)
    (case h_FRAMERS_escapes => k_is)
    (case h_FRAMERS_counts => k_is)
    (case h_FRAMERS_ranks => k_is)
    (case g_READERS => k_is)
    (case m_READERS => k_is)
    (case e_READERS => exact ⟨⟨_, _, rfl, rfl⟩, ⟨_, _, rfl, rfl⟩, ⟨_, _, rfl, rfl⟩, ⟨_, _, rfl, rfl⟩, trivial⟩)
    (case h_READERS_codes => k_is)
    (case h_READERS_escapes => k_is)
    (case h_READERS_counts => k_is)
    (case h_READERS_ranks => k_is)
    (case g_COUNTERS => k_is)
    (case m_COUNTERS => k_is)
    (case e_COUNTERS => exact ⟨⟨_, _, rfl, rfl⟩, ⟨_, _, rfl, rfl⟩, ⟨_, _, rfl, rfl⟩, ⟨_, _, rfl, rfl⟩, trivial⟩)
    (case h_COUNTERS_codes => k_is)
    (case h_COUNTERS_escapes => k_is)
    (case h_COUNTERS_counts => k_is)
    (case h_COUNTERS_ranks => k_is)
