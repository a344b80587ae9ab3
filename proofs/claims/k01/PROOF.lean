import PyProof.Rows.All
import Wide.All
import OpenK.AllK
import Wide.FinOn
import HandS.ForMost
import HandS.Exc
import HandS.TryOnly
import HandS.ExcOwn
import HandS.WordsExc
import HandS.Star
import HandS.OwnEq
import HandS.SlotsOwn
import HandS.Property
import HandS.TryMany
import HandS.Wide
import HandS.IsInst
import HandS.Zip
import PyProof.WalksMore
import HandS.Walk
import HandS.ClsMeth
import KE.GoesMore
import KE.GoesEnum
import HandS.TupAny
import HandS.Conv
import HandS.Gcd
import HandS.Style
import HandS.Nested
import KE.KDflt
import HandS.EndTab
import KE.KNestM
import PyProof.NeKinds
import HandS.Dict
import HandS.Small
import PyProof.Rows.TupMore
import HandS.Text
import HandS.StrMore
import HandS.TupMul
import HandS.SortKw
import KE.DataMinKey
import KE.LtSeq
import HandS.SortInts
import HandS.SetBool
import HandS.Strs
import PyProof.Rows.TupDisplay
import HandS.SetFor
import HandS.Deep
import HandS.TupSets
import HandS.WideBits
import KE.KDictKeyed
import PyProof.StrOps2
import KE.KxField
import HandS.FStr
import HandS.Replace
import PyProof.StrLawsReplace
import HandS.Defaults
import HandS.MakeKwOnly
import HandS.ExcIs
import PyProof.Rows.CountFlat
import HandS.ExcInit
import KE.KExcSuper
import HandS.ExcField
import HandS.MethStar
import HandS.Flow
import KE.KWithOwn
import KE.KTab
import KE.KExcIs
import HandS.Head0
import HandS.Head1
import HandS.Head2
import HandS.HeadWalk
import KE.GoesRaise
import HandS.Head3
import PySem.Challenge.RW_oddcents_k01_invalid_bills_and_evenings
set_option Elab.async false
set_option linter.all false
set_option maxRecDepth 100000
set_option maxHeartbeats 20000000
namespace Odd
open PySem PySem.Spec PyProof.Rows L2

/-! ### own operators of plain instances -/
section
variable {X : Cx} {CX : CXT} {pins : List (Addr × Obj)} {σ : L2.St} {H : Hp} {s : Shared} {a C dx g : Addr} {fs : List (Str × V)} {n : Nat} {sp : Sp} {E : XK}

theorem inst_at (I : Inv X pins σ H s) (e : H a = some (.ins C dx fs)) : ∃ ox od, PySem.W.InstAt s.heap a ox C (some od) := by
  obtain ⟨mA, O, _⟩ := ins_get I.hok e
  obtain ⟨od, J, _⟩ := O.look
  exact ⟨_, _, J⟩

theorem call_ref {Q : VK} {us : List Value} {vs : List V} (F : FnR X.prog X.w X.K X.mg X.base CX n g sp) (hr : Room n X.A) (hx : Passes CX X E) (I : Inv X pins σ H s) (r : Vals vs us) (h : sp vs H Q E) :
    wpAny (model X.prog X.w) X.A (call (.ref g) us) (EP X pins σ Q) X.xe s := wpAny_call (run_fnR F hr hx I r h)
theorem call_in1 {Q : VK} {us : List Value} {vs : List V} (F : FnR X.prog X.w X.K X.mg X.base CX n g sp) (hr : Room (n + 1) X.A) (hx : Passes CX X E) (I : Inv X pins σ H s) (r : Vals vs us) (h : sp vs H Q E) :
    wpAny (model X.prog X.w) X.A.in1 (call (.ref g) us) (EP X pins σ Q) X.xe s := wpAny_call (SlX.run_at F hr.in1 I.env0.in1 hx I r h)

/-- x op y, both instances of the class at C, whose def is at g -/
def rOpSame (C : Addr) (sp : Sp) (E : XK) : R2 := fun x y H Q => ∃ a b dx dy fs gs, x = .ref a ∧ y = .ref b ∧ H a = some (.ins C dx fs) ∧ H b = some (.ins C dy gs) ∧ sp [x, y] H Q E
theorem op_same {op : Operator} (hc : PySem.W.selfFirst X.K C = true) (hs : PySem.W.findIn X.K (.ref C) (PySem.dunder op.info.2) = some (some (.ref g))) (hf : PySem.W.isFn X.K (.ref g) = true)
    (F : FnR X.prog X.w X.K X.mg X.base CX n g sp) (hr : Room n X.A) (hx : Passes CX X E) : OpR X (binaryOp op) (rOpSame C sp E) := by
  intro pins s σ H x y v u Q I rx ry h
  obtain ⟨a, b, dx, dy, fs, gs, rfl, rfl, ha, hb, q⟩ := h
  cases (show v = Value.ref a from rx)
  cases (show u = Value.ref b from ry)
  obtain ⟨ox, od, J⟩ := inst_at I ha
  obtain ⟨oy, od', J'⟩ := inst_at I hb
  obtain ⟨m, hF⟩ := I.fr
  refine PySem.W.binop_K hF I.ok.mod.kin J J'.type hc hs hf (wpAny_mono (call_ref (vs := [.ref a, .ref b]) F hr hx I (.cons rfl (.cons rfl .nil)) q) (fun w s' z => ?_) fun _ _ x => x)
  obtain ⟨z', H', I', rz, qz⟩ := z
  exact SlX.cmpback rz ⟨z', H', I', rz, qz⟩

/-- x op n, n an int -/
def rOpInt (C : Addr) (sp : Sp) (E : XK) : R2 := fun x y H Q => ∃ a i dx fs, x = .ref a ∧ y = .int i ∧ H a = some (.ins C dx fs) ∧ sp [x, y] H Q E
theorem op_int {op : Operator} {fo ro rc : Option Value} (hc : PySem.W.selfFirst X.K C = true) (hs : PySem.W.findIn X.K (.ref C) (PySem.dunder op.info.2) = some (some (.ref g))) (hf : PySem.W.isFn X.K (.ref g) = true)
    (hrc : PySem.W.findIn X.K (.ref C) (dunderR op.info.2) = some rc) (hp : rc = none ∨ ∃ g : Addr, rc = some (.ref g)) (h1 : PySem.W.findIn X.K (.type "int") (PySem.dunder op.info.2) = some fo) (h2 : PySem.W.findIn X.K (.type "int") (dunderR op.info.2) = some ro)
    (hsub : PySem.W.subIn X.K (.type "int") (.ref C) = some false)
    (F : FnR X.prog X.w X.K X.mg X.base CX n g sp) (hr : Room n X.A) (hx : Passes CX X E) : OpR X (binaryOp op) (rOpInt C sp E) := by
  intro pins s σ H x y v u Q I rx ry h
  obtain ⟨a, i, dx, fs, rfl, rfl, ha, q⟩ := h
  cases (show v = Value.ref a from rx)
  obtain ⟨t, e⟩ := (show ∃ t, u = Value.int i t from ry)
  cases e
  obtain ⟨ox, od, J⟩ := inst_at I ha
  obtain ⟨m, hF⟩ := I.fr
  refine PySem.W.ksp_binT (T := "int") hF I.ok.mod.kin J (by first | rfl | kernel_rfl) hc hs hf hrc hp h1 h2 hsub (wpAny_mono (call_ref (vs := [.ref a, .int i]) F hr hx I (.cons rfl (.cons ⟨t, rfl⟩ .nil)) q) (fun w s' z => ?_) fun _ _ x => x)
  obtain ⟨z', H', I', rz, qz⟩ := z
  exact SlX.cmpback rz ⟨z', H', I', rz, qz⟩

/-- -x -/
def rNeg (C : Addr) (sp : Sp) (E : XK) : V → Hp → VK → Prop := fun x H Q => ∃ a dx fs, x = .ref a ∧ H a = some (.ins C dx fs) ∧ sp [x] H Q E
theorem un_ins (hs : PySem.W.findIn X.K (.ref C) "__neg__" = some (some (.ref g))) (hf : PySem.W.isFn X.K (.ref g) = true)
    (F : FnR X.prog X.w X.K X.mg X.base CX n g sp) (hr : Room n X.A) (hx : Passes CX X E) : UnR X (unaryOp .USub) (rNeg C sp E) := by
  intro pins s σ H x v Q I rx h
  obtain ⟨a, dx, fs, rfl, ha, q⟩ := h
  cases (show v = Value.ref a from rx)
  obtain ⟨ox, od, J⟩ := inst_at I ha
  obtain ⟨m, hF⟩ := I.fr
  exact PySem.W.ksp_neg hF I.ok.mod.kin J hs hf (call_ref (vs := [.ref a]) F hr hx I (.cons rfl .nil) q)

/-- len(x) -/
def rLenI (C : Addr) (sp : Sp) (E : XK) : List V → Hp → VK → Prop := fun vs H Q => ∃ a dx fs, vs = [.ref a] ∧ H a = some (.ins C dx fs) ∧ sp [.ref a] H (fun z H' => ∃ i, z = .int i ∧ 0 ≤ i ∧ i < 2 ^ 63 ∧ Q z H') E
theorem call_lenI (hs : PySem.W.findIn X.K (.ref C) "__len__" = some (some (.ref g))) (hf : PySem.W.isFn X.K (.ref g) = true)
    (F : FnR X.prog X.w X.K X.mg X.base CX n g sp) (hr : Room (n + 1) X.A) (hx : Passes CX X E) : CallR X (.builtin "len") (rLenI C sp E) := by
  intro pins s σ H xs us Q I r h
  obtain ⟨a, dx, fs, rfl, ha, q⟩ := h
  obtain ⟨u, rfl, ru⟩ := vals1 r
  cases (show u = Value.ref a from ru)
  obtain ⟨ox, od, J⟩ := inst_at I ha
  obtain ⟨m, hF⟩ := I.fr
  refine PySem.W.len_K hF I.ok.mod.kin J hs hf (wpAny_mono (call_in1 (vs := [.ref a]) F hr hx I (.cons rfl .nil) q) (fun w s' z => ?_) fun _ _ x => x)
  obtain ⟨z', H', I', rz, i, ei, h0, h1, qz⟩ := z
  subst ei
  obtain ⟨t, e⟩ := (show ∃ t, w = Value.int i t from rz)
  cases e
  exact ⟨⟨h0, h1⟩, .int i, H', I'.tok _, ⟨_, rfl⟩, qz⟩

/-- abs(x) -/
def rAbsI (C : Addr) (sp : Sp) (E : XK) : List V → Hp → VK → Prop := fun vs H Q => ∃ a dx fs, vs = [.ref a] ∧ H a = some (.ins C dx fs) ∧ sp [.ref a] H Q E
theorem call_absI (hs : PySem.W.findIn X.K (.ref C) "__abs__" = some (some (.ref g))) (hf : PySem.W.isFn X.K (.ref g) = true)
    (F : FnR X.prog X.w X.K X.mg X.base CX n g sp) (hr : Room (n + 1) X.A) (hx : Passes CX X E) : CallR X (.builtin "abs") (rAbsI C sp E) := by
  intro pins s σ H xs us Q I r h
  obtain ⟨a, dx, fs, rfl, ha, q⟩ := h
  obtain ⟨u, rfl, ru⟩ := vals1 r
  cases (show u = Value.ref a from ru)
  obtain ⟨ox, od, J⟩ := inst_at I ha
  refine Calls.call_function_entry kind_abs plain_abs entry_abs (args_abs _) ?_
  unfold Builtin.«abs»
  refine wpAny_bind (m := oneArg "abs" _) (wpAny_pure ?_)
  refine wpAny_bind (m := callSpecial? (.ref a) (Str.ofString "__abs__")) (PySem.W.special_fn I.kIn J hs (beq_iff_eq.mp hf) (wpAny_mono (call_in1 (vs := [.ref a]) F hr hx I (.cons rfl .nil) q) (fun w s' z => ?_) fun _ _ x => x))
  exact wpAny_pure ⟨_, rfl, z⟩
end
end Odd

namespace Odd
open PySem PySem.Spec PyProof.Rows L2

/-! ### rules that leave the choice to the reading -/
/-- X runs the body of X0: itself, or a comprehension's block in it -/
structure Like (X0 X : Cx) : Prop where
  prog : X.prog = X0.prog
  w : X.w = X0.w
  K : X.K = X0.K
  mg : X.mg = X0.mg
  base : X.base = X0.base
  A : X.A = X0.A
  calm : X.calm = X0.calm
theorem Like.refl {X : Cx} : Like X X := ⟨rfl, rfl, rfl, rfl, rfl, rfl, rfl⟩
abbrev Pas (X : Cx) (E : XK) : Prop := Passes (L2.CX X.prog X.w) X E
abbrev Fn (X : Cx) (k : Nat) (f : Addr) (sp : Sp) : Prop := FnR X.prog X.w X.K X.mg X.base (L2.CX X.prog X.w) k f sp
section
variable {X0 X : Cx} {E : XK}
theorem Like.fn {k : Nat} {f : Addr} {sp : Sp} (l : Like X0 X) (F : Fn X0 k f sp) : Fn X k f sp := by
  unfold Fn at F ⊢
  rw [l.prog, l.w, l.K, l.mg, l.base]
  exact F
theorem Like.room {k : Nat} (l : Like X0 X) (r : Room k X0.A) : Room k X.A := by rw [l.A]; exact r

/-! what may be chosen -/
def OpD (X0 : Cx) (E : XK) (f : Value → Value → Sem Value) (r : R2) : Prop := ∀ X, Like X0 X → Pas X E → OpR X f r
def UnD (X0 : Cx) (E : XK) (f : Value → Sem Value) (r : V → Hp → VK → Prop) : Prop := ∀ X, Like X0 X → Pas X E → UnR X f r
def CaD (X0 : Cx) (E : XK) (u : Value) (r : List V → Hp → VK → Prop) : Prop := ∀ X, Like X0 X → Pas X E → CallR X u r
def TrD (X0 : Cx) (E : XK) (r : V → Hp → (Bool → Hp → Prop) → Prop) : Prop := ∀ X, Like X0 X → Pas X E → TruR X r
def AtR (X : Cx) (f : Str) (r : V → Hp → VK → Prop) : Prop :=
  ∀ (b : Bool) (pins : List (Addr × Obj)) (s : Shared) (σ : L2.St) (H : Hp) (x : V) (v : Value) (Q : VK), Inv X pins σ H s → RelV x v → r x H Q → wpAny (model X.prog X.w) X.A (getAttr v f b) (EP X pins σ Q) X.xe s
def AtD (X0 : Cx) (E : XK) (f : Str) (r : V → Hp → VK → Prop) : Prop := ∀ X, Like X0 X → Pas X E → AtR X f r
/-- a subscript, also of an own class's instance -/
def IxO (X : Cx) (r : R2) : Prop :=
  ∀ (value slice : Expr) (pins : List (Addr × Obj)) (s : Shared) (σ : L2.St) (H : Hp) (x y : V) (v u : Value) (Q : VK), Inv X pins σ H s → RelV x v → RelV y u → r x y H Q →
    subscripted slice false v u = operate [v, u] (getItem v u) → subscripted slice true v u = runValue (.builtin "lifetime.subscript" ⟨[v, u], []⟩) → wpAny (model X.prog X.w) X.A (subscriptTail value slice v u) (EP X pins σ Q) X.xe s
def IxD (X0 : Cx) (E : XK) (r : R2) : Prop := ∀ X, Like X0 X → Pas X E → IxO X r

/-! the readings -/
def tOpA (X0 : Cx) (E : XK) (f : Value → Value → Sem Value) (ta tb : TE) : TE := fun σ H Q => ta σ H fun x H1 => tb σ H1 fun y H2 => ∃ r, OpD X0 E f r ∧ r x y H2 Q
def tUnA (X0 : Cx) (E : XK) (f : Value → Sem Value) (ta : TE) : TE := fun σ H Q => ta σ H fun x H1 => ∃ r, UnD X0 E f r ∧ r x H1 Q
def tAtA (X0 : Cx) (E : XK) (f : Str) (ta : TE) : TE := fun σ H Q => ta σ H fun x H1 => ∃ r, AtD X0 E f r ∧ r x H1 Q
def tIxA (X0 : Cx) (E : XK) (ta tb : TE) : TE := fun σ H Q => ta σ H fun x H1 => tb σ H1 fun y H2 => ∃ r, IxD X0 E r ∧ r x y H2 Q
def tTrA (X0 : Cx) (E : XK) (ta : TE) : TT := fun σ H Q => ta σ H fun x H1 => ∃ r, TrD X0 E r ∧ r x H1 Q
def tChA (X0 : Cx) (E : XK) (f g : Value → Value → Sem Value) (ta tb tc : TE) : TE := fun σ H Q => ta σ H fun x H1 => tb σ H1 fun y H2 => ∃ r, OpD X0 E f r ∧ r x y H2 fun z H3 => ∃ k, z = .bl k ∧
  (if k = true then tc σ H3 fun w' H4 => ∃ r', OpD X0 E g r' ∧ r' y w' H4 Q else Q (.bl false) H3)
/-- a built-in function or type by its name -/
def tBiA (X0 : Cx) (E : XK) (x : Str) (u : Value) (t : TA) : TE := fun σ H Q => X0.mg x = none ∧ t σ H fun vs H1 => ∃ r, CaD X0 E u r ∧ r vs H1 Q
/-- a def or class of the module by its name -/
def tGlA (X0 : Cx) (E : XK) (x : Str) (t : TA) : TE := fun σ H Q => ∃ f, X0.mg x = some (.ref f) ∧ PySem.W.keepIn X0.K (.ref f) = true ∧ t σ H fun vs H1 => ∃ r, CaD X0 E (.ref f) r ∧ r vs H1 Q
/-- own methods -/
def tMeA (X0 : Cx) (E : XK) (m : Str) (ta : TE) (t : TA) : TE := fun σ H Q => ta σ H fun x H1 => ∃ a C dx fs g, x = .ref a ∧ H1 a = some (.ins C dx fs) ∧ Cls X0.K C ∧ Meth X0.K C m g ∧ PySem.W.keepIn X0.K (.ref g) = true ∧ fs.lookup m = none ∧
  t σ H1 fun vs H2 => ∃ r, CaD X0 E (.ref g) r ∧ r (x :: vs) H2 Q
/-- what a for walks: a list, a tuple -/
def iSeq (K : PySem.W.Frag) (tl : TE) : TI := fun σ H R => tl σ H fun x H1 => ∃ a, x = .ref a ∧ (((∃ xs, SqL K H1 a xs) ∧ R (Itl K a) H1) ∨ ((∃ xs, SqT K H1 a xs) ∧ R (Itt K a) H1))

variable {a b c e o : Expr} {es : List Expr} {ta tb tc te : TE} {t : TA} {pos p apos sp_ : Pos} {x m : Str}
theorem pe_opA {op : Operator} (l : Like X0 X) (h : Pas X E) (ha : PE X a ta) (hb : PE X b tb) : PE X (.BinOp a op b pos) (tOpA X0 E (binaryOp op) ta tb) := by
  refine ⟨fun pins s σ H Q I q => ?_⟩
  exact wpAny_BinOp (binT ha hb I q fun v u s2 x y H2 I2 rx ry q => let ⟨r, hr, q⟩ := q; hr X l h pins s2 σ H2 x y v u Q I2 rx ry q)
theorem pe_unA {op : UnaryOp} (l : Like X0 X) (h : Pas X E) (ha : PE X a ta) : PE X (.UnaryOp op a pos) (tUnA X0 E (unaryOp op) ta) := by
  refine ⟨fun pins s σ H Q I q => ?_⟩
  exact UnaryOp_ (thn (ha.run pins s σ H _ I q) fun v s1 ⟨x, H1, I1, r1, r, hr, q1⟩ => hr X l h pins s1 σ H1 x v Q I1 r1 q1)
theorem pe_cmpA {op : CmpOp} (l : Like X0 X) (h : Pas X E) (ha : PE X a ta) (hb : PE X b tb) (hm : behindInMarks op b = false) : PE X (.Compare a [op] [b] pos) (tOpA X0 E (compareOp op) ta tb) := by
  refine ⟨fun pins s σ H Q I q => ?_⟩
  exact wpAny_Compare1 (binT ha hb I q fun v u s2 x y H2 I2 rx ry q => let ⟨r, hr, q⟩ := q; hr X l h pins s2 σ H2 x y v u Q I2 rx ry q) hm
theorem pt_cmpA {op : CmpOp} (l : Like X0 X) (h : Pas X E) (ha : PE X a ta) (hb : PE X b tb) (hm : behindInMarks op b = false) : PT X (.Compare a [op] [b] pos) (tTest (tOpA X0 E (compareOp op) ta tb)) := by
  refine ⟨fun pins s σ H Q I q => ?_⟩
  refine wpAny_isTrue_Compare1 (thn (ha.run pins s σ H _ I q) fun v s1 ⟨x, H1, I1, r1, q1⟩ => thn (hb.run pins s1 σ H1 _ I1 q1) fun u s2 ⟨y, H2, I2, r2, r, hr, q2⟩ =>
    thn (hr X l h pins s2 σ H2 x y v u _ I2 r1 r2 q2) fun c s3 ⟨z, H3, I3, r3, k, e, q3⟩ => ?_) hm
  subst e
  cases r3
  exact wpAny_truthy_bool ⟨H3, I3, q3⟩
theorem pe_chA {op op' : CmpOp} (l : Like X0 X) (h : Pas X E) (ha : PE X a ta) (hb : PE X b tb) (hc : PE X c tc) (hm : lastMarks [op, op'] [b, c] = false := by with_unfolding_all rfl) :
    PE X (.Compare a [op, op'] [b, c] pos) (tChA X0 E (compareOp op) (compareOp op') ta tb tc) := by
  refine ⟨fun pins s σ H Q I q => ?_⟩
  refine Compare_chain (thn (ha.run pins s σ H _ I q) fun v s1 ⟨x, H1, I1, r1, q1⟩ => chain_link (thn (hb.run pins s1 σ H1 _ I1 q1) fun u s2 ⟨y, H2, I2, r2, r, hr, q2⟩ =>
    thn (hr X l h pins s2 σ H2 x y v u _ I2 r1 r2 q2) fun d s3 ⟨z, H3, I3, r3, k, e, q3⟩ => ?_)) hm
  subst e
  cases r3
  refine wpAny_truthy_bool ?_
  cases k with
  | false => exact ite_ff ⟨.bl false, H3, I3, rfl, q3⟩
  | true => exact ite_tt (chain_last (thn (hc.run pins s3 σ H3 _ I3 q3) fun w' s4 ⟨z', H4, I4, r4, r', hr', q4⟩ => hr' X l h pins s4 σ H4 y z' u w' Q I4 r2 r4 q4))
theorem pt_chA {op op' : CmpOp} (l : Like X0 X) (h : Pas X E) (ha : PE X a ta) (hb : PE X b tb) (hc : PE X c tc) (hm : lastMarks [op, op'] [b, c] = false := by with_unfolding_all rfl) :
    PT X (.Compare a [op, op'] [b, c] pos) (tTest (tChA X0 E (compareOp op) (compareOp op') ta tb tc)) := by
  refine ⟨fun pins s σ H Q I q => ?_⟩
  refine isTrue_chain (thn (ha.run pins s σ H _ I q) fun v s1 ⟨x, H1, I1, r1, q1⟩ => test_link (thn (hb.run pins s1 σ H1 _ I1 q1) fun u s2 ⟨y, H2, I2, r2, r, hr, q2⟩ =>
    thn (hr X l h pins s2 σ H2 x y v u _ I2 r1 r2 q2) fun d s3 ⟨z, H3, I3, r3, k, e, q3⟩ => ?_)) hm
  subst e
  cases r3
  refine wpAny_truthy_bool ?_
  cases k with
  | false =>
    obtain ⟨k, e, q4⟩ := q3
    cases e
    exact ite_ff ⟨H3, I3, q4⟩
  | true =>
    refine ite_tt (test_last (thn (hc.run pins s3 σ H3 _ I3 q3) fun w' s4 ⟨z', H4, I4, r4, r', hr', q4⟩ => thn (hr' X l h pins s4 σ H4 y z' u w' _ I4 r2 r4 q4) fun d s5 ⟨z5, H5, I5, r5, k, e, q5⟩ => ?_))
    subst e
    cases r5
    exact wpAny_truthy_bool ⟨H5, I5, q5⟩
theorem pt_trA (l : Like X0 X) (h : Pas X E) (ha : PE X a ta) (he : ∀ whole, isTrue a X.env whole = (do let v ← whole; standAt a.pos; holding [v] (truthy v)) := by intro _; rfl) : PT X a (tTrA X0 E ta) := by
  refine ⟨fun pins s σ H Q I q => ?_⟩
  exact isTrue_plain (thn (ha.run pins s σ H _ I q) fun v s1 ⟨x, H1, I1, r1, r, hr, q1⟩ => hr X l h pins s1 σ H1 x v Q I1 r1 q1) (he _)
theorem pe_atA (l : Like X0 X) (h : Pas X E) {f : Str} (he : PE X e te) (hb : attributeBase e f X.env (eval e X.env) = eval e X.env := by rfl) : PE X (.Attribute e f pos) (tAtA X0 E f te) := by
  refine ⟨fun pins s σ H Q I q => ?_⟩
  refine attr_of hb (thn (he.run pins s σ H _ I q) fun u s1 ⟨x, H1, I1, rx, r, hr, q⟩ => hr X l h _ pins s1 σ H1 x u Q I1 rx q)
theorem pe_ixA (l : Like X0 X) (h : Pas X E) (ha : PE X a ta) (hb : PE X b tb) (hs : ∀ o i, subscripted b false o i = operate [o, i] (getItem o i) := by exact fun _ _ => rfl)
    (hs2 : ∀ o i, subscripted b true o i = runValue (.builtin "lifetime.subscript" ⟨[o, i], []⟩) := by exact fun _ _ => rfl) : PE X (.Subscript a b pos) (tIxA X0 E ta tb) := by
  refine ⟨fun pins s σ H Q I q => ?_⟩
  exact Subscript_ (binT ha hb I q fun v u s2 x y H2 I2 rx ry q => let ⟨r, hr, q⟩ := q; hr X l h a b pins s2 σ H2 x y v u Q I2 rx ry q (hs _ _) (hs2 _ _))
theorem pe_biA {id : String} (l : Like X0 X) (h : Pas X E) (hg : Gl X x) (hv : bootBuiltins x = some (.builtin id)) (ha : PA X (e :: es) t) (hn : x ≠ "__name__" := by decide) (hdb : (x == ("__debug__" : Str)) = false := by decide)
    (he : starEach (e :: es) X.env = (false, eval e X.env) :: starEach es X.env := by rfl) (hpl : (backTo pos (starEach es X.env)).any (·.1) = false := by rfl) : PE X (.Call (.Name x p) (e :: es) [] pos) (tBiA X0 E x (.builtin id) t) := by
  refine ⟨fun pins s σ H Q I ⟨hm, q⟩ => ?_⟩
  rw [← l.mg] at hm
  refine wpAny_Call_Name_kw (ld_blt I hg hm hv ?_ hn hdb)
  exact PyProof.Rows.callWith_builtin1 (thn (ha.run pos pins s σ H _ I q) fun us s1 ⟨vs, H1, I1, r1, r, hr, q1⟩ => hr X l h pins s1 σ H1 vs us Q I1 r1 q1) he hpl
theorem pe_tyA {T : String} (l : Like X0 X) (h : Pas X E) (hg : Gl X x) (hv : bootBuiltins x = some (.type T)) (ha : PA X (e :: es) t) (hn : x ≠ "__name__" := by decide) (hdb : (x == ("__debug__" : Str)) = false := by decide)
    (he : starEach (e :: es) X.env = (false, eval e X.env) :: starEach es X.env := by rfl) (hpl : (backTo pos (starEach es X.env)).any (·.1) = false := by rfl) : PE X (.Call (.Name x p) (e :: es) [] pos) (tBiA X0 E x (.type T) t) := by
  refine ⟨fun pins s σ H Q I ⟨hm, q⟩ => ?_⟩
  rw [← l.mg] at hm
  refine wpAny_Call_Name_kw (ld_blt I hg hm hv ?_ hn hdb)
  exact PyProof.Rows.callWith_type1 (thn (ha.run pos pins s σ H _ I q) fun us s1 ⟨vs, H1, I1, r1, r, hr, q1⟩ => hr X l h pins s1 σ H1 vs us Q I1 r1 q1) he hpl
theorem pe_glA (l : Like X0 X) (h : Pas X E) (hg : Gl X x) (ha : PA X (e :: es) t) (hdb : (x == ("__debug__" : Str)) = false := by decide) (he : starEach (e :: es) X.env = (false, eval e X.env) :: starEach es X.env := by rfl)
    (hpl : (backTo pos (starEach es X.env)).any (·.1) = false := by rfl) : PE X (.Call (.Name x p) (e :: es) [] pos) (tGlA X0 E x t) := by
  refine ⟨fun pins s σ H Q I ⟨f, hm, hk, q⟩ => ?_⟩
  rw [← l.mg] at hm
  rw [← l.K] at hk
  refine wpAny_Call_Name_kw (ld_glob I hg hm ?_ hdb)
  exact PySem.W.callWith_K (h₀ := X.base) I.ok.mod.kin hk (thn (ha.run pos pins s σ H _ I q) fun us s1 ⟨vs, H1, I1, r1, r, hr, q1⟩ => ⟨I1.kIn, hr X l h pins s1 σ H1 vs us Q I1 r1 q1⟩) he hpl
theorem pe_gl0 (l : Like X0 X) (h : Pas X E) (hg : Gl X x) (hdb : (x == ("__debug__" : Str)) = false := by decide) : PE X (.Call (.Name x p) [] [] pos) (tGlA X0 E x tNil) := by
  refine ⟨fun pins s σ H Q I ⟨f, hm, hk, r, hr, q⟩ => ?_⟩
  rw [← l.mg] at hm
  rw [← l.K] at hk
  refine wpAny_Call_Name_kw (ld_glob I hg hm ?_ hdb)
  exact PySem.W.callWith_K0 I.kIn hk (hr X l h pins s σ H [] [] Q I .nil q)
/-- x(*y) -/
def tGlS (X0 : Cx) (E : XK) (x : Str) (te : TE) : TE := fun σ H Q => ∃ f, X0.mg x = some (.ref f) ∧ PySem.W.keepIn X0.K (.ref f) = true ∧ te σ H fun y H1 => ∃ a xs, y = V.ref a ∧ (SqT X0.K H1 a xs ∨ SqL X0.K H1 a xs) ∧ ∃ r, CaD X0 E (.ref f) r ∧ r xs H1 Q
theorem pe_glS (l : Like X0 X) (h : Pas X E) (hg : Gl X x) (he : PE X e te) (hd : (x == ("__debug__" : Str)) = false := by decide) (hst : starEach [.Starred e sp_] X.env = [(true, eval e X.env)] := by rfl) :
    PE X (.Call (.Name x p) [.Starred e sp_] [] pos) (tGlS X0 E x te) := by
  refine ⟨fun pins s σ H Q I ⟨f, hm, hk, q⟩ => ?_⟩
  rw [← l.mg] at hm
  rw [← l.K] at hk
  refine wpAny_Call_Name_kw (ld_glob I hg hm ?_ hd)
  refine PySem.W.callWith_S (h₀ := X.base) I.ok.mod.kin hk (thn (he.run pins s σ H _ I q) fun v s1 ⟨y, H1, I1, ry, a, xs, ey, hxs, r, hr, q⟩ => ?_) hst
  subst ey
  obtain rfl : v = Value.ref a := ry
  rw [← l.K] at hxs
  exact StX.star_any I1 hxs fun us s2 I2 rv => ⟨I2.kIn, hr X l h pins s2 σ H1 xs us Q I2 rv q⟩
/-- x(e, .., *y) -/
theorem pe_glS2 (l : Like X0 X) (h : Pas X E) (hg : Gl X x) (ha : PA X (e :: es) t) (hd : (x == ("__debug__" : Str)) = false := by decide)
    (he : starEach (e :: es) X.env = (false, eval e X.env) :: starEach es X.env := by rfl) (hst : (backTo pos (starEach es X.env)).any (·.1) = true := by rfl) :
    PE X (.Call (.Name x p) (e :: es) [] pos) (tGlA X0 E x t) := by
  refine ⟨fun pins s σ H Q I ⟨f, hm, hk, q⟩ => ?_⟩
  rw [← l.mg] at hm
  rw [← l.K] at hk
  refine wpAny_Call_Name_kw (ld_glob I hg hm ?_ hd)
  exact PySem.W.callWith_S2 (h₀ := X.base) I.ok.mod.kin hk (thn (ha.run pos pins s σ H _ I q) fun us s1 ⟨vs, H1, I1, r1, r, hr, q1⟩ => ⟨I1.kIn, hr X l h pins s1 σ H1 vs us Q I1 r1 q1⟩) he hst
theorem pi_seq {tg e : Expr} (he : PE X e te) : PI X tg e (iSeq X.K te) := by
  refine ⟨fun pins s σ H R I q => ?_⟩
  refine thn (he.run pins s σ H _ I q) fun v s1 ⟨x, H1, I1, r1, a, ex, q1⟩ => ?_
  subst ex
  cases r1
  rcases q1 with ⟨⟨xs, hq⟩, q⟩ | ⟨⟨xs, hq⟩, q⟩
  · obtain ⟨its, rv, p, hz⟩ := I1.list hq
    refine wpAny_pyIter_list p.isList ?_
    refine ⟨s1.heap.objs.size, [s1.heap.objs.size], _, _, H1, rfl, I1.kept (t' := s1.toks) fun b o e => Heap.get?_push_of_some _ e, turn_list a _, ⟨_, Heap.get?_push_size _ rfl, rfl, rfl⟩, fun b hb => ?_, q⟩
    have e : b = s1.heap.objs.size := by simpa using hb
    subst e
    exact I1.fpOk (Nat.le_refl _) (I1.hok.fresh (Nat.le_refl _))
  · obtain ⟨its, rv, p, hz⟩ := I1.tuple hq
    refine wpAny_pyIter_tuple (show s1.heap.IsTuple a its.toArray from p) ?_
    refine ⟨s1.heap.objs.size, [s1.heap.objs.size], _, _, H1, rfl, I1.kept (t' := s1.toks) fun b o e => Heap.get?_push_of_some _ e, turn_tuple a _, ⟨_, Heap.get?_push_size _ rfl, rfl, rfl⟩, fun b hb => ?_, q⟩
    have e : b = s1.heap.objs.size := by simpa using hb
    subst e
    exact I1.fpOk (Nat.le_refl _) (I1.hok.fresh (Nat.le_refl _))
end
end Odd

namespace Odd
open PySem PySem.Spec PyProof.Rows L2

/-! ### more rules -/
section
variable {X0 X : Cx} {E : XK} {a b e : Expr} {rest : List Expr} {ta tb te : TE} {pos p p2 : Pos} {x m : Str}
/-- not e as a value, by any truth -/
def tNotA (X0 : Cx) (E : XK) (ta : TE) : TE := fun σ H Q => ta σ H fun x H1 => ∃ r, TrD X0 E r ∧ r x H1 fun c H2 => Q (.bl (!c)) H2
theorem pe_notA (l : Like X0 X) (h : Pas X E) (ha : PE X a ta) : PE X (.UnaryOp .Not a pos) (tNotA X0 E ta) := by
  refine ⟨fun pins s σ H Q I q => ?_⟩
  refine UnaryOp_ (thn (ha.run pins s σ H _ I q) fun v s1 ⟨x, H1, I1, r1, r, hr, q1⟩ => ?_)
  exact not_of (thn (hr X l h pins s1 σ H1 x v (fun c H2 => Q (.bl (!c)) H2) I1 r1 q1) fun c s2 ⟨H2, I2, q2⟩ => ⟨.bl (!c), H2, I2, rfl, q2⟩)
/-- a built-in class as a value; a class or def of the module as a value -/
def tBvA (X0 : Cx) (x : Str) (v : V) : TE := fun σ H Q => X0.mg x = none ∧ Q v H
theorem pe_bvA {v : V} {u : Value} (l : Like X0 X) (hg : Gl X x) (hv : bootBuiltins x = some u) (r : RelV v u) (hn : x ≠ "__name__" := by decide) (hd : (x == ("__debug__" : Str)) = false := by decide) : PE X (.Name x pos) (tBvA X0 x v) :=
  ⟨fun pins s σ H Q I ⟨hm, q⟩ => ld_blt I hg (by rw [l.mg]; exact hm) hv ⟨v, H, I, r, q⟩ hn hd⟩
def tGvA (X0 : Cx) (x : Str) : TE := fun σ H Q => ∃ f, X0.mg x = some (.ref f) ∧ Q (.ref f) H
theorem pe_gvA (l : Like X0 X) (hg : Gl X x) (hd : (x == ("__debug__" : Str)) = false := by decide) : PE X (.Name x pos) (tGvA X0 x) :=
  ⟨fun pins s σ H Q I ⟨f, hm, q⟩ => ld_glob I hg (by rw [l.mg]; exact hm) ⟨.ref f, H, I, rfl, q⟩ hd⟩
/-- x op= e -/
def tAugA (X0 : Cx) (E : XK) (i : Nat) (f : Value → Value → Sem Value) (te : TE) : TS := tAug i te (fun x y H Q => ∃ r, OpD X0 E f r ∧ r x y H Q)
theorem ps_augA {op : Operator} {i : Nat} {pos' : Pos} (l : Like X0 X) (h : Pas X E) (hN : X.N.Nodup) (hi : X.N[i]? = some x) (hx : Loc X.env.scope x) (he : PE X e te) (hf : X.fn x = true ∨ X.env.scope.names.lookup x = some .local := by first | exact .inl rfl | exact .inr rfl | assumption) :
    PS X (.AugAssign (.Name x pos') op e pos) (tAugA X0 E i (inplaceOp op) te) :=
  ps_aug hN hi hx he (fun pins s σ H x y v u Q I rx ry ⟨r, hr, q⟩ => hr X l h pins s σ H x y v u Q I rx ry q) hf
/-- an own exception class without an __init__ -/
structure ExcC (K : PySem.W.Frag) (mg : Str → Option Value) (x : Str) (C : Addr) : Prop where
  mg : mg x = some (.ref C)
  exc : PySem.W.excIn K C [.type "ValueError", .type "Exception", .type "BaseException", .type "object"] "ValueError.__new__" = true
  kp : PySem.W.keepIn K (.ref C) = true
  sub : PySem.W.subIn K (.ref C) (.type "BaseException") = some true
  ty : PySem.W.typeIn K (.ref C) = some (.type "type")
/-- raise x('..') -/
def tRaA (X0 : Cx) (W : WX) (x : Str) : TS := fun _ σ H => ∃ C, ExcC X0.K X0.mg x C ∧ W (.ref C) none σ H
theorem ps_raA {W : WX} {j : Nat} {pos' : Pos} (hc : X.calm = true) (tk : Takes X W) (hg : Gl X x) (hdb : (x == ("__debug__" : Str)) = false := by decide) :
    PS X (.Raise (some (.Call (.Name x p) [.Constant (.str m) j p2] [] pos')) none pos) (tRaA X W x) := by
  refine ⟨fun pins s σ H D I ⟨C, c, q⟩ => ?_⟩
  exact (ps_raise hc tk (pmk_own PySem.F.excBase_ValueError c.exc c.mg c.kp (raises_own c.sub c.ty) hg hdb)).run pins s σ H D I q
end
section
variable {P : Program} {w : World} {K : PySem.W.Frag} {mg : Str → Option Value} {base : Heap} {N : List Str} {qual : Str} {sc : Scope} {f : Addr} {cd : Value} {A : Around} {outer : List Env} {s : Shared} {H : Hp} {E : XK}
theorem tk_main : Takes (cxOf (L2.CX P w) P w K mg base N qual sc f cd A outer s H E) (fun cls d _ H => E cls d H) := takes_of rfl rfl rfl rfl
theorem pas_main : Pas (cxOf (L2.CX P w) P w K mg base N qual sc f cd A outer s H E) E := passes_call tk_main fun _ _ _ _ h => h
theorem own_main : PassesOwn (model P w) (cxOf (L2.CX P w) P w K mg base N qual sc f cd A outer s H E).A (cxOf (L2.CX P w) P w K mg base N qual sc f cd A outer s H E).env (cxOf (L2.CX P w) P w K mg base N qual sc f cd A outer s H E).xe := passes_of rfl
end

/-! ### the steps of a reading -/
section
variable {X0 : Cx} {E : XK} {σ : L2.St} {H : Hp} {Q : VK} {QB : Bool → Hp → Prop} {QA : List V → Hp → Prop} {D : Ends} {ta tb tc te : TE} {t u : TT} {tr : TA} {ts tz : TS} {v : V} {i : Nat} {g : TG} {f : Value → Value → Sem Value} {f1 : Value → Sem Value} {x : Str} {uu : Value}
theorem w_var (h : σ[i]? = some (some v)) (q : Q v H) : tVar i σ H Q := ⟨v, h, q⟩
theorem w_c (q : Q v H) : tC v σ H Q := q
theorem w_op (h : ta σ H fun x H1 => tb σ H1 fun y H2 => ∃ r, OpD X0 E f r ∧ r x y H2 Q) : tOpA X0 E f ta tb σ H Q := h
theorem w_un (h : ta σ H fun x H1 => ∃ r, UnD X0 E f1 r ∧ r x H1 Q) : tUnA X0 E f1 ta σ H Q := h
theorem w_at (h : ta σ H fun y H1 => ∃ r, AtD X0 E x r ∧ r y H1 Q) : tAtA X0 E x ta σ H Q := h
theorem w_ix (h : ta σ H fun x H1 => tb σ H1 fun y H2 => ∃ r, IxD X0 E r ∧ r x y H2 Q) : tIxA X0 E ta tb σ H Q := h
theorem w_tr (h : ta σ H fun x H1 => ∃ r, TrD X0 E r ∧ r x H1 QB) : tTrA X0 E ta σ H QB := h
theorem w_notA (h : ta σ H fun x H1 => ∃ r, TrD X0 E r ∧ r x H1 fun c H2 => Q (.bl (!c)) H2) : tNotA X0 E ta σ H Q := h
theorem w_ch {f2 : Value → Value → Sem Value} (h : ta σ H fun x H1 => tb σ H1 fun y H2 => ∃ r, OpD X0 E f r ∧ r x y H2 fun z H3 => ∃ k, z = .bl k ∧ (if k = true then tc σ H3 fun w' H4 => ∃ r', OpD X0 E f2 r' ∧ r' y w' H4 Q else Q (.bl false) H3)) :
    tChA X0 E f f2 ta tb tc σ H Q := h
theorem w_bi (hm : X0.mg x = none) (h : tr σ H fun vs H1 => ∃ r, CaD X0 E uu r ∧ r vs H1 Q) : tBiA X0 E x uu tr σ H Q := ⟨hm, h⟩
theorem w_gl {a : Addr} (hm : X0.mg x = some (.ref a)) (hk : PySem.W.keepIn X0.K (.ref a) = true) (h : tr σ H fun vs H1 => ∃ r, CaD X0 E (.ref a) r ∧ r vs H1 Q) : tGlA X0 E x tr σ H Q := ⟨a, hm, hk, h⟩
theorem w_glS {a : Addr} (hm : X0.mg x = some (.ref a)) (hk : PySem.W.keepIn X0.K (.ref a) = true) (h : te σ H fun y H1 => ∃ b xs, y = V.ref b ∧ (SqT X0.K H1 b xs ∨ SqL X0.K H1 b xs) ∧ ∃ r, CaD X0 E (.ref a) r ∧ r xs H1 Q) : tGlS X0 E x te σ H Q := ⟨a, hm, hk, h⟩
theorem w_bv (hm : X0.mg x = none) (q : Q v H) : tBvA X0 x v σ H Q := ⟨hm, q⟩
theorem w_gv {a : Addr} (hm : X0.mg x = some (.ref a)) (q : Q (.ref a) H) : tGvA X0 x σ H Q := ⟨a, hm, q⟩
theorem w_nil (q : QA [] H) : tNil σ H QA := q
theorem w_cons (h : ta σ H fun x H1 => tr σ H1 fun xs H2 => QA (x :: xs) H2) : tCons ta tr σ H QA := h
theorem w_tup (h : tr σ H fun xs H1 => xs.length ≤ sizeLine ∧ ∀ p, H1 p = none → Q (.ref p) (upd H1 p (.tup xs))) : tTup tr σ H Q := h
theorem w_lst (h : tr σ H fun xs H1 => xs.length ≤ sizeLine ∧ ∀ p, H1 p = none → Q (.ref p) (upd H1 p (.lst xs))) : tLst tr σ H Q := h
theorem w_test (h : ta σ H fun x H' => ∃ k, x = .bl k ∧ QB k H') : tTest ta σ H QB := h
theorem w_and (h : t σ H fun c H1 => if c = true then u σ H1 QB else QB false H1) : tAnd t u σ H QB := h
theorem w_or (h : t σ H fun c H1 => if c = true then QB true H1 else u σ H1 QB) : tOr t u σ H QB := h
theorem w_not (h : t σ H fun c H1 => QB (!c) H1) : tNot t σ H QB := h
theorem w_andV (h : ta σ H fun x H1 => ∃ c, x = .bl c ∧ if c = true then tb σ H1 Q else Q (.bl false) H1) : tAndV ta tb σ H Q := h
theorem w_orV (h : ta σ H fun x H1 => ∃ c, x = .bl c ∧ if c = true then Q (.bl true) H1 else tb σ H1 Q) : tOrV ta tb σ H Q := h
theorem w_ifx (h : t σ H fun c H1 => if c = true then ta σ H1 Q else tb σ H1 Q) : tIf t ta tb σ H Q := h
theorem w_seq (h : ts { D with nx := tz D } σ H) : tSeq ts tz D σ H := h
theorem w_asg (h : te σ H fun x H1 => g x σ H1 D.nx) : tAsg te g D σ H := h
theorem w_name {R : L2.St → Hp → Prop} (h : R (σ.set i (some v)) H) : gName i v σ H R := h
theorem w_ret (h : te σ H D.rt) : tRet te D σ H := h
theorem w_retN (h : D.rt .non H) : tRetN D σ H := h
theorem w_next (h : D.nx σ H) : tNext D σ H := h
theorem w_drop (h : te σ H fun _ H1 => D.nx σ H1) : tDrop te D σ H := h
theorem w_if (h : t σ H fun b H1 => if b = true then ts D σ H1 else tz D σ H1) : tIfS t ts tz D σ H := h
theorem w_fld {K : PySem.W.Frag} {fl : Str} (h : tb σ H fun y H1 => ta σ H1 fun x H2 => ∃ a C dx fs, x = .ref a ∧ H2 a = some (.ins C dx fs) ∧ Cls K C ∧ NoAttr K C fl ∧ fs.length < 1000 ∧ D.nx σ (upd H2 a (.ins C dx (putF fl y fs)))) : sFld K ta tb fl D σ H := h
theorem ite_d {p : Prop} [Decidable p] {A B : Prop} (h1 : p → A) (h2 : ¬ p → B) : if decide p = true then A else B := by
  by_cases h : p
  · rw [decide_eq_true h]; exact iteT (h1 h)
  · rw [decide_eq_false h]; exact iteF (h2 h)
theorem ite_n {p : Prop} [Decidable p] {A B : Prop} (h1 : ¬ p → A) (h2 : p → B) : if (!decide p) = true then A else B := by
  by_cases h : p
  · rw [decide_eq_true h]; exact iteF (h2 h)
  · rw [decide_eq_false h]; exact iteT (h1 h)
theorem ite_nf {A B : Prop} (h : A) : if (!false) = true then A else B := iteT h
theorem ite_nt {A B : Prop} (h : B) : if (!true) = true then A else B := iteF h
theorem bl_ex {k : Bool} {R : Bool → Prop} (h : R k) : ∃ c, V.bl k = V.bl c ∧ R c := ⟨k, rfl, h⟩
end
/-! ### what may be chosen: ints -/
section
variable {X0 : Cx} {E : XK} {H : Hp} {Q : VK} {i j : Int} {QB : Bool → Hp → Prop}
theorem s_add (q : Q (.int (i + j)) H) : ∃ r, OpD X0 E (binaryOp .Add) r ∧ r (.int i) (.int j) H Q := ⟨_, fun _ _ _ => op_add, i, j, rfl, rfl, q⟩
theorem s_sub (q : Q (.int (i - j)) H) : ∃ r, OpD X0 E (binaryOp .Sub) r ∧ r (.int i) (.int j) H Q := ⟨_, fun _ _ _ => op_sub, i, j, rfl, rfl, q⟩
theorem s_lt (q : Q (.bl (decide (i < j))) H) : ∃ r, OpD X0 E (compareOp .Lt) r ∧ r (.int i) (.int j) H Q := ⟨_, fun _ _ _ => op_lt, i, j, rfl, rfl, q⟩
theorem s_le (q : Q (.bl (decide (i ≤ j))) H) : ∃ r, OpD X0 E (compareOp .LtE) r ∧ r (.int i) (.int j) H Q := ⟨_, fun _ _ _ => op_le, i, j, rfl, rfl, q⟩
theorem s_gt (q : Q (.bl (decide (j < i))) H) : ∃ r, OpD X0 E (compareOp .Gt) r ∧ r (.int i) (.int j) H Q := ⟨_, fun _ _ _ => op_gt, i, j, rfl, rfl, q⟩
theorem s_ge (q : Q (.bl (decide (j ≤ i))) H) : ∃ r, OpD X0 E (compareOp .GtE) r ∧ r (.int i) (.int j) H Q := ⟨_, fun _ _ _ => op_ge, i, j, rfl, rfl, q⟩
theorem s_eqI (q : Q (.bl (decide (i = j))) H) : ∃ r, OpD X0 E (compareOp .Eq) r ∧ r (.int i) (.int j) H Q := ⟨_, fun _ _ _ => op_eq, rfl, by rw [dec_int, Bool.beq_eq_decide_eq]; exact q⟩
theorem s_neI (q : Q (.bl (!decide (i = j))) H) : ∃ r, OpD X0 E (compareOp .NotEq) r ∧ r (.int i) (.int j) H Q := ⟨_, fun _ _ _ => op_ne, rfl, by rw [dec_int, Bool.beq_eq_decide_eq]; exact q⟩
theorem s_eqB {b c : Bool} (q : Q (.bl (decide (b = c))) H) : ∃ r, OpD X0 E (compareOp .Eq) r ∧ r (.bl b) (.bl c) H Q := ⟨_, fun _ _ _ => op_eq, rfl, by rw [dec_bl, Bool.beq_eq_decide_eq]; exact q⟩
theorem s_neB {b c : Bool} (q : Q (.bl (!decide (b = c))) H) : ∃ r, OpD X0 E (compareOp .NotEq) r ∧ r (.bl b) (.bl c) H Q := ⟨_, fun _ _ _ => op_ne, rfl, by rw [dec_bl, Bool.beq_eq_decide_eq]; exact q⟩
theorem s_mul (h : CMul i j) (q : Q (.int (i * j)) H) : ∃ r, OpD X0 E (binaryOp .Mult) r ∧ r (.int i) (.int j) H Q := ⟨_, fun _ _ _ => op_mul, i, j, rfl, rfl, h, q⟩
theorem s_mod (h : 0 < j) (q : Q (.int (i % j)) H) : ∃ r, OpD X0 E (binaryOp .Mod) r ∧ r (.int i) (.int j) H Q := ⟨_, fun _ _ _ => op_mod, i, j, rfl, rfl, h, q⟩
theorem s_fdiv (h : CDiv i j) (q : Q (.int (i / j)) H) : ∃ r, OpD X0 E (binaryOp .FloorDiv) r ∧ r (.int i) (.int j) H Q := ⟨_, fun _ _ _ => op_fdiv, i, j, rfl, rfl, h, q⟩
theorem s_pow (h : CPow i j) (q : Q (.int (i ^ j.toNat)) H) : ∃ r, OpD X0 E (binaryOp .Pow) r ∧ r (.int i) (.int j) H Q := ⟨_, fun _ _ _ => op_pow, i, j, rfl, rfl, h, q⟩
theorem s_neg (q : Q (.int (-i)) H) : ∃ r, UnD X0 E (unaryOp .USub) r ∧ r (.int i) H Q := ⟨_, fun _ _ _ => un_neg, i, rfl, q⟩
theorem s_truB {b : Bool} (q : QB b H) : ∃ r, TrD X0 E r ∧ r (.bl b) H QB := ⟨fun x H Q => ∃ k, TruV X0.K x H k ∧ Q k H, fun X l _ => by rw [← l.K]; exact tru_ok, b, rfl, q⟩
theorem s_truI (q : QB (i != 0) H) : ∃ r, TrD X0 E r ∧ r (.int i) H QB := ⟨fun x H Q => ∃ k, TruV X0.K x H k ∧ Q k H, fun X l _ => by rw [← l.K]; exact tru_ok, _, rfl, q⟩
/-- isinstance(x, T), a built-in T -/
theorem s_isi {x : V} {t : Value} {n : String} {b : Bool} (ty : TyX X0.K H x t) (hk : PySem.W.kitOne X0.K t (.type n) = some b) (q : Q (.bl b) H) : ∃ r, CaD X0 E (.builtin "isinstance") r ∧ r [x, .ty n] H Q :=
  ⟨rIsi X0.K, fun X l _ => by rw [← l.K]; exact call_isi, x, .ty n, t, .type n, b, rfl, .ty n, ty, hk, q⟩
theorem s_isiI {n : String} {b : Bool} (hk : kitB "int" n = some b) (q : Q (.bl b) H) : ∃ r, CaD X0 E (.builtin "isinstance") r ∧ r [.int i, .ty n] H Q := s_isi (.base (.int i)) (kit_ty hk) q
/-- a def -/
theorem s_fn {k : Nat} {f : Addr} {sp : Sp} {vs : List V} (F : Fn X0 k f sp) (hr : Room k X0.A) (q : sp vs H Q E) : ∃ r, CaD X0 E (.ref f) r ∧ r vs H Q :=
  ⟨fun vs H Q => sp vs H Q E, fun X l h pins s σ H xs us Q I r q => call_ref (l.fn F) (l.room hr) h I r q, q⟩
/-- a class with an __init__ -/
theorem s_mk {k : Nat} {C f : Addr} {sp : Sp} {vs : List V} (M : Mk X0.K C f) (F : Fn X0 k f sp) (hr : Room (k + 1) X0.A)
    (q : ∀ x dx, H x = none → H dx = none → dx ≠ x → sp (V.ref x :: vs) (upd (upd H dx (.own x)) x (.ins C dx [])) (fun v H2 => v = .non ∧ Q (.ref x) H2) E) : ∃ r, CaD X0 E (.ref C) r ∧ r vs H Q :=
  ⟨fun vs H Q => ∀ x dx, H x = none → H dx = none → dx ≠ x → sp (V.ref x :: vs) (upd (upd H dx (.own x)) x (.ins C dx [])) (fun v H2 => v = .non ∧ Q (.ref x) H2) E,
    fun X l h pins s σ H xs us Q I r q => StX.run_makeR (by rw [l.K]; exact M) (l.fn F) (l.room hr) h I r q, q⟩
/-- x.f, an attribute of the instance -/
theorem s_fld {a C dx : Addr} {fs : List (Str × V)} {f : Str} {v : V} (e : H a = some (.ins C dx fs)) (c : Cls X0.K C) (n : NoAttr X0.K C f) (lk : fs.lookup f = some v) (q : Q v H) : ∃ r, AtD X0 E f r ∧ r (.ref a) H Q :=
  ⟨fun x H Q => ∃ a C dx fs v, x = .ref a ∧ H a = some (.ins C dx fs) ∧ Cls X0.K C ∧ NoAttr X0.K C f ∧ fs.lookup f = some v ∧ Q v H,
    fun X l h b pins s σ H x u Q I rx ⟨a, C, dx, fs, v, ex, e, c, n, lk, q⟩ => by
      subst ex
      obtain rfl : u = Value.ref a := rx
      rw [← l.K] at c n
      exact getattr_ok I e c n lk fun u' s2 I2 ru => ⟨v, H, I2, ru, q⟩, a, C, dx, fs, v, rfl, e, c, n, lk, q⟩
end
end Odd

namespace Odd
open PySem PySem.Spec PyProof.Rows L2

/-- x op n with n an int: neither side's type meddles -/
structure OpInt (K : PySem.W.Frag) (C : Addr) (m r : Str) : Prop where
  rr : PySem.W.findIn K (.ref C) r = some none
  h1 : ∃ fo, PySem.W.findIn K (.type "int") m = some fo
  h2 : ∃ ro, PySem.W.findIn K (.type "int") r = some ro
  sb : PySem.W.subIn K (.type "int") (.ref C) = some false
/-- x != y by the own == -/
structure OwnNe (K : PySem.W.Frag) (C : Addr) : Prop where
  ne : PySem.W.findIn K (.ref C) "__ne__" = some (some (.builtin "object.__ne__"))
  own : PySem.W.notFirst K C (.ref C) = true
  tup : PySem.W.notFirst K C (.type "tuple") = true

section
variable {X : Cx} {CX : CXT} {pins : List (Addr × Obj)} {σ : L2.St} {H : Hp} {s : Shared} {a C dx g : Addr} {fs : List (Str × V)} {n : Nat} {sp : Sp} {E : XK}

/-- x == y (and <, ..), x an instance of the class at C, y of a type that does not go first -/
def rCmpI (K : PySem.W.Frag) (C : Addr) (sp : Sp) (E : XK) : R2 := fun x y H Q => ∃ a dx fs t, x = .ref a ∧ H a = some (.ins C dx fs) ∧ TyX K H y t ∧ PySem.W.notFirst K C t = true ∧ sp [x, y] H Q E
theorem op_cmpI {op : CmpOp} (hop : ∀ a b, compareOp op a b = richCompare op a b) (hs : PySem.W.findIn X.K (.ref C) (cmpInfo op).2.1 = some (some (.ref g))) (hf : PySem.W.isFn X.K (.ref g) = true) (F : FnR X.prog X.w X.K X.mg X.base CX n g sp)
    (hr : Room n X.A) (hx : Passes CX X E) : OpR X (compareOp op) (rCmpI X.K C sp E) := by
  intro pins s σ H x y v u Q I rx ry h
  obtain ⟨a, dx, fs, t, rfl, ha, ty, hn, q⟩ := h
  cases (show v = Value.ref a from rx)
  obtain ⟨ox, od, J⟩ := inst_at I ha
  obtain ⟨PP, Z, hz, _⟩ := kit_of I ry ty
  obtain ⟨m, hF⟩ := I.fr
  rw [hop]
  refine PySem.W.cmp_K (op := op) (tb := t) hr.units0 hF I.ok.mod.kin J (Z.ty _ _ I.kIn hz) hn hs hf (wpAny_mono (call_ref (vs := [.ref a, y]) F hr hx I (.cons rfl (.cons ry .nil)) q) (fun w s' z => ?_) fun _ _ x => x)
  obtain ⟨z', H', I', rz, qz⟩ := z
  exact SlX.cmpback rz ⟨z', H', I', rz, qz⟩

/-- x[i] -/
def rIxI (C : Addr) (sp : Sp) (E : XK) : R2 := fun x y H Q => ∃ a dx fs, x = .ref a ∧ H a = some (.ins C dx fs) ∧ sp [x, y] H Q E
theorem fnIn_fun {K : PySem.W.Frag} {x qual : Str} {st : Stmt} {f : Addr} {fd : FuncData} (F : Fun K x qual st f fd) : PySem.W.fnIn K f = true := by
  obtain ⟨oc, od, kV, doc, pm, an, cdv, ct, osl, rfl, lk, hcd⟩ := F.ex
  unfold PySem.W.fnIn
  rw [lk]
theorem ix_ins (hs : PySem.W.findIn X.K (.ref C) "__getitem__" = some (some (.ref g))) (hf : PySem.W.fnIn X.K g = true) (hfn : PySem.W.isFn X.K (.ref g) = true) (F : FnR X.prog X.w X.K X.mg X.base CX n g sp)
    (hr : Room (n + 1) X.A) (hx : Passes CX X E) : IxO X (rIxI C sp E) := by
  intro value slice pins s σ H x y v u Q I rx ry h _ hsl
  obtain ⟨a, dx, fs, rfl, ha, q⟩ := h
  cases (show v = Value.ref a from rx)
  obtain ⟨ox, od, J⟩ := inst_at I ha
  obtain ⟨m, hF⟩ := I.fr
  exact PySem.W.sub_K hF I.ok.mod.kin J hs hf hfn (call_in1 (vs := [.ref a, y]) F hr hx I (.cons rfl (.cons ry .nil)) q) hsl
theorem ix_plain {r : R2} (h : IxR X r) : IxO X r := fun value slice pins s σ H x y v u Q I rx ry q h1 _ => h value slice pins s σ H x y v u Q I rx ry q h1

/-- a property that raises nothing -/
def rPropI (C : Addr) (sp : Sp) : V → Hp → VK → Prop := fun x H Q => ∃ a dx fs, x = .ref a ∧ H a = some (.ins C dx fs) ∧ sp [x] H Q E0
theorem at_prop {f : Str} {p : Addr} (c : Cls X.K C) (hp : PropOf X.K C f p g) (F : FnR X.prog X.w X.K X.mg X.base (L2.CX X.prog X.w) n g sp) (hr : Room (n + 1) X.A) : AtR X f (rPropI C sp) := by
  intro b pins s σ H x v Q I rx h
  obtain ⟨a, dx, fs, rfl, ha, q⟩ := h
  cases (show v = Value.ref a from rx)
  obtain ⟨ox, od, J⟩ := inst_at I ha
  obtain ⟨rest, hrec⟩ := hp.rec_
  have I1 : Inv X pins σ H { s with toks := s.toks + 1 } := I.tok (s.toks + 1)
  have hc : (PySem.W.clsIn X.K C).isSome = true := by
    obtain ⟨cd, hc, _⟩ := PySem.W.any_some c.hd
    rw [hc]
    rfl
  refine PySem.W.get_bind I.kIn J (PySem.W.plainGet_of (c.get f)).1 (PySem.W.findObj_data hc hp.at_ hp.get hp.tak) (PySem.W.plainGet_of (c.get f)).2 (wpAny_call (PySem.W.prop_get (s := { s with toks := s.toks + 1 }) I.kIn hrec ?_))
  refine codeAny_mono (F X.A.in1 X.stack { s with toks := s.toks + 1 } H [.ref a] [.ref a] Q E0 hr.in1 I1.env0.in1 (.cons rfl .nil) q) fun r s' hq => ?_
  cases r with
  | error er =>
    obtain ⟨_, _, _, _, _, _, _, _, _, _, _, _, z⟩ := hq
    exact z.elim
  | ok fl =>
    cases fl with
    | ret u =>
      obtain ⟨v, H', I3, rv, q3⟩ := I1.after hq
      exact wpAny_of_eq (PySem.W.handedOut_of (handed_of rv)) ⟨v, H', I3, rv, q3⟩
    | next => exact False.elim hq
    | brk => exact False.elim hq
    | cont => exact False.elim hq
end

section
variable {X0 : Cx} {E : XK} {H : Hp} {Q : VK} {k : Nat} {C g a b dx dy : Addr} {fs gs : List (Str × V)} {sp : Sp} {m f : Str} {y : V}
/-- both instances of one class -/
theorem s_opSame {op : Operator} (hc : PySem.W.selfFirst X0.K C = true) (M : Meth X0.K C m g) (hm : PySem.dunder op.info.2 = m) (F : Fn X0 k g sp) (hr : Room k X0.A) (ha : H a = some (.ins C dx fs)) (hb : H b = some (.ins C dy gs)) (q : sp [.ref a, .ref b] H Q E) :
    ∃ r, OpD X0 E (binaryOp op) r ∧ r (.ref a) (.ref b) H Q := by
  subst hm
  exact ⟨rOpSame C sp E, fun X l h => op_same (by rw [l.K]; exact hc) (by rw [l.K]; exact M.at_) (by rw [l.K]; exact M.fn) (l.fn F) (l.room hr) h, a, b, dx, dy, fs, gs, rfl, rfl, ha, hb, q⟩
theorem s_opInt {op : Operator} {r' : Str} {i : Int} (hc : PySem.W.selfFirst X0.K C = true) (M : Meth X0.K C m g) (O : OpInt X0.K C m r') (hm : PySem.dunder op.info.2 = m) (hr' : dunderR op.info.2 = r') (F : Fn X0 k g sp) (hr : Room k X0.A) (ha : H a = some (.ins C dx fs))
    (q : sp [.ref a, .int i] H Q E) : ∃ r, OpD X0 E (binaryOp op) r ∧ r (.ref a) (.int i) H Q := by
  subst hm hr'
  obtain ⟨fo, h1⟩ := O.h1
  obtain ⟨ro, h2⟩ := O.h2
  exact ⟨rOpInt C sp E, fun X l h => op_int (by rw [l.K]; exact hc) (by rw [l.K]; exact M.at_) (by rw [l.K]; exact M.fn) (by rw [l.K]; exact O.rr) (.inl rfl) (by rw [l.K]; exact h1) (by rw [l.K]; exact h2) (by rw [l.K]; exact O.sb) (l.fn F) (l.room hr) h,
    a, i, dx, fs, rfl, rfl, ha, q⟩
theorem s_negI (M : Meth X0.K C "__neg__" g) (F : Fn X0 k g sp) (hr : Room k X0.A) (ha : H a = some (.ins C dx fs)) (q : sp [.ref a] H Q E) : ∃ r, UnD X0 E (unaryOp .USub) r ∧ r (.ref a) H Q :=
  ⟨rNeg C sp E, fun X l h => un_ins (by rw [l.K]; exact M.at_) (by rw [l.K]; exact M.fn) (l.fn F) (l.room hr) h, a, dx, fs, rfl, ha, q⟩
theorem s_absI (M : Meth X0.K C "__abs__" g) (F : Fn X0 k g sp) (hr : Room (k + 1) X0.A) (ha : H a = some (.ins C dx fs)) (q : sp [.ref a] H Q E) : ∃ r, CaD X0 E (.builtin "abs") r ∧ r [.ref a] H Q :=
  ⟨rAbsI C sp E, fun X l h => call_absI (by rw [l.K]; exact M.at_) (by rw [l.K]; exact M.fn) (l.fn F) (l.room hr) h, a, dx, fs, rfl, ha, q⟩
theorem s_lenI (M : Meth X0.K C "__len__" g) (F : Fn X0 k g sp) (hr : Room (k + 1) X0.A) (ha : H a = some (.ins C dx fs)) (q : sp [.ref a] H (fun z H' => ∃ i, z = .int i ∧ 0 ≤ i ∧ i < 2 ^ 63 ∧ Q z H') E) : ∃ r, CaD X0 E (.builtin "len") r ∧ r [.ref a] H Q :=
  ⟨rLenI C sp E, fun X l h => call_lenI (by rw [l.K]; exact M.at_) (by rw [l.K]; exact M.fn) (l.fn F) (l.room hr) h, a, dx, fs, rfl, ha, q⟩
theorem s_ixI {x qual : Str} {st : Stmt} {fd : FuncData} (M : Meth X0.K C "__getitem__" g) (U : Fun X0.K x qual st g fd) (F : Fn X0 k g sp) (hr : Room (k + 1) X0.A) (ha : H a = some (.ins C dx fs)) (q : sp [.ref a, y] H Q E) :
    ∃ r, IxD X0 E r ∧ r (.ref a) y H Q :=
  ⟨rIxI C sp E, fun X l h => ix_ins (by rw [l.K]; exact M.at_) (by rw [l.K]; exact fnIn_fun U) (by rw [l.K]; exact M.fn) (l.fn F) (l.room hr) h, a, dx, fs, rfl, ha, q⟩
theorem s_prop {p : Addr} (c : Cls X0.K C) (hp : PropOf X0.K C f p g) (F : Fn X0 k g sp) (hr : Room (k + 1) X0.A) (ha : H a = some (.ins C dx fs)) (q : sp [.ref a] H Q E0) : ∃ r, AtD X0 E f r ∧ r (.ref a) H Q :=
  ⟨rPropI C sp, fun X l h => at_prop (by rw [l.K]; exact c) (by rw [l.K]; exact hp) (l.fn F) (l.room hr), a, dx, fs, rfl, ha, q⟩
theorem s_eqOwn {t : Value} (M : Meth X0.K C "__eq__" g) (F : Fn X0 k g sp) (hr : Room k X0.A) (ha : H a = some (.ins C dx fs)) (ty : TyX X0.K H y t) (hn : PySem.W.notFirst X0.K C t = true) (q : sp [.ref a, y] H Q E) :
    ∃ r, OpD X0 E (compareOp .Eq) r ∧ r (.ref a) y H Q :=
  ⟨rCmpI X0.K C sp E, fun X l h => by rw [← l.K]; exact op_cmpI (op := .Eq) (fun _ _ => rfl) (by rw [l.K]; exact M.at_) (by rw [l.K]; exact M.fn) (l.fn F) (l.room hr) h, a, dx, fs, t, rfl, ha, ty, hn, q⟩
theorem s_ixL {xs : List V} {i : Int} {v : V} (h : SqL X0.K H a xs) (ha : atI xs i = some v) (q : Q v H) : ∃ r, IxD X0 E r ∧ r (.ref a) (.int i) H Q :=
  ⟨rIxL X0.K, fun X l _ => by rw [← l.K]; exact ix_plain ix_list, a, xs, i, v, rfl, rfl, h, ha, q⟩
theorem s_ixT {xs : List V} {i : Int} {v : V} (h : SqT X0.K H a xs) (ha : atI xs i = some v) (q : Q v H) : ∃ r, IxD X0 E r ∧ r (.ref a) (.int i) H Q :=
  ⟨rIxT X0.K, fun X l _ => by rw [← l.K]; exact ix_plain ix_tup, a, xs, i, v, rfl, rfl, h, ha, q⟩
/-- len of a list, of a tuple -/
theorem s_lenL {xs : List V} (h : SqL X0.K H a xs) (q : Q (.int xs.length) H) : ∃ r, CaD X0 E (.builtin "len") r ∧ r [.ref a] H Q :=
  ⟨fun vs H Q => ∃ x n, vs = [x] ∧ LenV X0.K x H n ∧ Q (.int n) H, fun X l _ => by rw [← l.K]; exact call_len, .ref a, xs.length, rfl, .inl ⟨xs, h, rfl⟩, q⟩
theorem s_lenT {xs : List V} (h : SqT X0.K H a xs) (q : Q (.int xs.length) H) : ∃ r, CaD X0 E (.builtin "len") r ∧ r [.ref a] H Q :=
  ⟨fun vs H Q => ∃ x n, vs = [x] ∧ LenV X0.K x H n ∧ Q (.int n) H, fun X l _ => by rw [← l.K]; exact call_len, .ref a, xs.length, rfl, .inr ⟨xs, h, rfl⟩, q⟩
end

/-! ### a def's promise by positional values -/
section
variable {P : Program} {w : World} {K : PySem.W.Frag} {mg : Str → Option Value} {base : Heap}
theorem fnr_ok {x qual : Str} {st : Stmt} {f : Addr} {fd : FuncData} {N ps : List Str} {k : Nat} {sp : Sp} (F : Fun K x qual st f fd) (S : FnScope N ps (defScope st)) (hb : Binds K fd ps []) (len : ∀ vs H Q E, sp vs H Q E → vs.length = ps.length)
    (hbody : ∀ (cdv : Value) (A : Around) (outer : List Env) (s : Shared) (H : Hp) (vs : List V) (Q : VK) (E : XK), Room k (A.deeper (envOfC qual (defScope st) s.heap.objs.size f cdv)) → sp vs H Q E →
      ∃ t, PSs (cxOf (L2.CX P w) P w K mg base N qual (defScope st) f cdv A outer s H E) (defBody st) t ∧ t { nx := fun _ H' => Q .non H', rt := Q } (start N vs) H) : FnR P w K mg base (L2.CX P w) (k + 1) f sp :=
  ((F.okX S len hbody).raw hb .nil).imp fun vs H Q E h => by rw [List.append_nil]; exact h
theorem fnr_star {x qual pv : Str} {st : Stmt} {f : Addr} {fd : FuncData} {N ps : List Str} {k : Nat} {sp : Sp} (F : Fun K x qual st f fd) (S : FnScope N (ps ++ [pv]) (defScope st))
    (hb : ∀ (kV doc pm : Value) (an : Option Addr) (cdv ct : Value) (us rest : List Value), us.length = ps.length → bindArgs (PySem.W.fnOf x qual (defArgs st) (defBody st) (defScope st) .none kV doc pm an cdv ct) ⟨us ++ rest, []⟩ = (newTuple rest >>= fun t => pure (ps.zip us ++ [(pv, t)])))
    (hbody : ∀ (cdv : Value) (A : Around) (outer : List Env) (s : Shared) (H : Hp) (vs : List V) (Q : VK) (E : XK), Room k (A.deeper (envOfC qual (defScope st) s.heap.objs.size f cdv)) → sp vs H Q E →
      ∃ t, PSs (cxOf (L2.CX P w) P w K mg base N qual (defScope st) f cdv A outer s H E) (defBody st) t ∧ t { nx := fun _ H' => Q .non H', rt := Q } (start N vs) H) :
    FnR P w K mg base (L2.CX P w) (k + 1) f (fun vs H Q E => ∃ ws rest, vs = ws ++ rest ∧ ws.length = ps.length ∧ rest.length ≤ sizeLine ∧ ∀ p, H p = Option.none → sp (ws ++ [V.ref p]) (upd H p (.tup rest)) Q E) := by
  obtain ⟨oc, od, kV, doc, pm, an, cdv, ct, osl, rfl, lk, hcd⟩ := F.ex
  exact StX.fn_star lk hcd S StX.cxUp (hb kV doc pm an cdv ct) fun A outer s H vs Q E hr hsp => hbody cdv A outer s H vs Q E hr hsp
theorem fnr_star1 {x qual p1 pv : Str} {st : Stmt} {f : Addr} {fd : FuncData} {N : List Str} {k : Nat} {sp : Sp} (F : Fun K x qual st f fd) (S : FnScope N ([p1] ++ [pv]) (defScope st))
    (h0 : ∀ (kV doc pm : Value) (an : Option Addr) (cdv ct a : Value), bindArgs (PySem.W.fnOf x qual (defArgs st) (defBody st) (defScope st) .none kV doc pm an cdv ct) ⟨[a], []⟩ = (newTuple [] >>= fun t => pure [(p1, a), (pv, t)]))
    (h1 : ∀ (kV doc pm : Value) (an : Option Addr) (cdv ct a r : Value) (rs : List Value), bindArgs (PySem.W.fnOf x qual (defArgs st) (defBody st) (defScope st) .none kV doc pm an cdv ct) ⟨a :: r :: rs, []⟩ = (newTuple (r :: rs) >>= fun t => pure [(p1, a), (pv, t)]))
    (hbody : ∀ (cdv : Value) (A : Around) (outer : List Env) (s : Shared) (H : Hp) (vs : List V) (Q : VK) (E : XK), Room k (A.deeper (envOfC qual (defScope st) s.heap.objs.size f cdv)) → sp vs H Q E →
      ∃ t, PSs (cxOf (L2.CX P w) P w K mg base N qual (defScope st) f cdv A outer s H E) (defBody st) t ∧ t { nx := fun _ H' => Q .non H', rt := Q } (start N vs) H) :
    FnR P w K mg base (L2.CX P w) (k + 1) f (fun vs H Q E => ∃ ws rest, vs = ws ++ rest ∧ ws.length = [p1].length ∧ rest.length ≤ sizeLine ∧ ∀ p, H p = Option.none → sp (ws ++ [V.ref p]) (upd H p (.tup rest)) Q E) :=
  fnr_star F S (fun kV doc pm an cdv ct us rest hl => StX.bind_star1 (B := fun l => bindArgs (PySem.W.fnOf x qual (defArgs st) (defBody st) (defScope st) .none kV doc pm an cdv ct) ⟨l, []⟩) (h0 kV doc pm an cdv ct) (h1 kV doc pm an cdv ct) us rest hl) hbody
end
end Odd

namespace Odd
open PySem PySem.Spec PyProof.Rows L2
/-! ### sum, max, min of a tuple of ints -/
section
variable {prog : Program} {w : World} {A : Around} {E : Value → Shared → Prop} {s : Shared} {l : Addr} {its : List Value} {ns : List Int} {Q : Value → Shared → Prop}
theorem tup_walk {xs : Array (Int × Tok)} {items : Array Value} {R : Value → Shared → Prop} (hl : s.heap.IsTuple l items)
    (h : ∀ s₂ : Shared, s₂ = { s with heap := s₂.heap } → (∀ b o, s.heap.get? b = some o → s₂.heap.get? b = some o) → (s₂.heap.IsTupleIter s.heap.objs.size l 0 ∧ s₂.heap.IsTuple l items) → (∀ b ∈ [s.heap.objs.size, l], b < s₂.heap.objs.size) → l ≠ s.heap.objs.size → R (.ref s.heap.objs.size) s₂) :
    wpAny (model prog w) A (pyIter (.ref l)) R E s := by
  have hlt : l < s.heap.objs.size := by
    obtain ⟨o, ho, _⟩ := hl
    exact Heap.lt_size ho
  refine wpAny_pyIter_tuple hl (h _ rfl (fun b o e => Heap.get?_push_of_some _ e) ⟨⟨_, Heap.get?_push_size _ rfl, rfl, rfl⟩, hl.at fun o e => Heap.get?_push_of_some _ e⟩ (fun b hb => ?_) (Nat.ne_of_lt hlt))
  show b < (s.heap.push _).objs.size
  rw [Heap.size_push]
  simp only [List.mem_cons, List.not_mem_nil, or_false] at hb
  rcases hb with rfl | rfl
  · exact Nat.lt_succ_self _
  · exact Nat.lt_succ_of_lt hlt
theorem old_of {s s₂ : Shared} {h' : Heap} (k : ∀ b o, s.heap.get? b = some o → s₂.heap.get? b = some o) (hk : ∀ b o, b ∉ [s.heap.objs.size] → s₂.heap.get? b = some o → h'.get? b = some o) : ∀ b o, s.heap.get? b = some o → h'.get? b = some o := fun b o e =>
  hk b o (fun z => by rw [List.mem_singleton] at z; subst z; exact absurd (Heap.lt_size e) (Nat.lt_irrefl _)) (k b o e)
theorem sumT_raw (hh : A.handled = none) (hl : s.heap.IsTuple l its.toArray) (hi : IntsAre its ns)
    (h : ∀ h' tk t', (∀ b o, s.heap.get? b = some o → h'.get? b = some o) → Q (.int ns.sum t') { s with heap := h', toks := tk }) : wpAny (model prog w) A (call (.builtin "sum") [.ref l]) Q E s := by
  obtain ⟨xs, e⟩ := hi.allInts.items
  have hn : numsOf (intItems xs).toList = ns := by rw [← e]; exact hi.numsOf
  rw [nums_intItems] at hn
  rw [e] at hl
  refine call_sum_walkG (tup_walk (xs := xs) hl fun s₂ e2 k st hfp hne => ?_)
  refine ⟨_, _, _, _, _, _, numAt xs, rfl, Walks.tuple (A := A.in1) hh _ l hne (intItems xs), st, hfp, (fun _ _ => intItems_at), fun h' tk t' hk => ?_⟩
  have z := h h' tk t' (old_of k hk)
  have e3 : (intItems xs).size = xs.size := by simp [intItems]
  rw [e3, preSum_eq, List.take_of_length_le (by simp), hn]
  rw [e2]
  exact z
theorem maxT_raw (hh : A.handled = none) (hl : s.heap.IsTuple l its.toArray) (hi : IntsAre its ns) (hne : 0 < ns.length)
    (h : ∀ h' tk M t', (∀ b o, s.heap.get? b = some o → h'.get? b = some o) → M ∈ ns → (∀ a, a ∈ ns → a ≤ M) → Q (.int M t') { s with heap := h', toks := tk }) : wpAny (model prog w) A (call (.builtin "max") [.ref l]) Q E s := by
  obtain ⟨xs, e⟩ := hi.allInts.items
  have hn : numsOf (intItems xs).toList = ns := by rw [← e]; exact hi.numsOf
  rw [nums_intItems] at hn
  subst hn
  rw [e] at hl
  have hsz : 0 < xs.size := by simpa using hne
  refine call_max_walk (tup_walk (xs := xs) hl fun s₂ e2 k st hfp hne => ?_)
  refine ⟨_, _, _, _, _, _, _, rfl, Walks.tuple (A := A.in1) hh _ l hne (intItems xs), st, hfp, by simpa [intItems] using hsz, CmpOf.ints_gt (numAt xs) (fun _ _ => intItems_at), fun v h' tk hP hk => ?_⟩
  have hP' : (intItems xs)[argBest (fun i j => decide (numAt xs i > numAt xs j)) (xs.size - 1)]? = some v := by simpa [intItems] using hP
  obtain ⟨t, rfl⟩ := intItems_at hP'
  obtain ⟨h1, h2⟩ := argBest_gt (numAt xs) (xs.size - 1)
  rw [e2]
  refine h h' tk _ t (old_of k hk) ?_ fun a ha => ?_
  · rw [numAt_eq]; exact PySem.getD_mem (by rw [List.length_map, Array.length_toList]; omega)
  · obtain ⟨j, hj, rfl⟩ := mem_getD ha
    rw [List.length_map, Array.length_toList] at hj
    rw [← numAt_eq]; exact h2 j (by omega)
theorem minT_raw (hh : A.handled = none) (hl : s.heap.IsTuple l its.toArray) (hi : IntsAre its ns) (hne : 0 < ns.length)
    (h : ∀ h' tk M t', (∀ b o, s.heap.get? b = some o → h'.get? b = some o) → M ∈ ns → (∀ a, a ∈ ns → M ≤ a) → Q (.int M t') { s with heap := h', toks := tk }) : wpAny (model prog w) A (call (.builtin "min") [.ref l]) Q E s := by
  obtain ⟨xs, e⟩ := hi.allInts.items
  have hn : numsOf (intItems xs).toList = ns := by rw [← e]; exact hi.numsOf
  rw [nums_intItems] at hn
  subst hn
  rw [e] at hl
  have hsz : 0 < xs.size := by simpa using hne
  refine call_min_walk (tup_walk (xs := xs) hl fun s₂ e2 k st hfp hne => ?_)
  refine ⟨_, _, _, _, _, _, _, rfl, Walks.tuple (A := A.in1) hh _ l hne (intItems xs), st, hfp, by simpa [intItems] using hsz, CmpOf.ints_lt (numAt xs) (fun _ _ => intItems_at), fun v h' tk hP hk => ?_⟩
  have hP' : (intItems xs)[argBest (fun i j => decide (numAt xs i < numAt xs j)) (xs.size - 1)]? = some v := by simpa [intItems] using hP
  obtain ⟨t, rfl⟩ := intItems_at hP'
  obtain ⟨h1, h2⟩ := argBest_lt (numAt xs) (xs.size - 1)
  rw [e2]
  refine h h' tk _ t (old_of k hk) ?_ fun a ha => ?_
  · rw [numAt_eq]; exact PySem.getD_mem (by rw [List.length_map, Array.length_toList]; omega)
  · obtain ⟨j, hj, rfl⟩ := mem_getD ha
    rw [List.length_map, Array.length_toList] at hj
    rw [← numAt_eq]; exact h2 j (by omega)
end
def rSumT (K : PySem.W.Frag) : List V → Hp → VK → Prop := fun vs H Q => ∃ (a : Addr) (ns : List Int), vs = [V.ref a] ∧ SqT K H a (ns.map V.int) ∧ Q (.int ns.sum) H
def rMaxT (K : PySem.W.Frag) : List V → Hp → VK → Prop := fun vs H Q => ∃ (a : Addr) (ns : List Int), vs = [V.ref a] ∧ SqT K H a (ns.map V.int) ∧ 0 < ns.length ∧ ∀ m, m ∈ ns → (∀ y, y ∈ ns → y ≤ m) → Q (.int m) H
def rMinT (K : PySem.W.Frag) : List V → Hp → VK → Prop := fun vs H Q => ∃ (a : Addr) (ns : List Int), vs = [V.ref a] ∧ SqT K H a (ns.map V.int) ∧ 0 < ns.length ∧ ∀ m, m ∈ ns → (∀ y, y ∈ ns → m ≤ y) → Q (.int m) H
section
variable {X : Cx}
theorem cr_sumT (hc : X.calm = true) : CallR X (.builtin "sum") (rSumT X.K) := by
  intro pins s σ H vs us Q I r h
  obtain ⟨a, ns, rfl, hs, q⟩ := h
  obtain ⟨its, rv, hl, _⟩ := I.tuple hs
  rw [Vals.ref1 r]
  exact sumT_raw (I.ok.hd hc) hl rv.ints fun h' tk t' hk => ⟨.int _, H, I.kept hk, ⟨_, rfl⟩, q⟩
theorem cr_maxT (hc : X.calm = true) : CallR X (.builtin "max") (rMaxT X.K) := by
  intro pins s σ H vs us Q I r h
  obtain ⟨a, ns, rfl, hs, hne, q⟩ := h
  obtain ⟨its, rv, hl, _⟩ := I.tuple hs
  rw [Vals.ref1 r]
  exact maxT_raw (I.ok.hd hc) hl rv.ints hne fun h' tk m t' hk h1 h2 => ⟨.int _, H, I.kept hk, ⟨_, rfl⟩, q m h1 h2⟩
theorem cr_minT (hc : X.calm = true) : CallR X (.builtin "min") (rMinT X.K) := by
  intro pins s σ H vs us Q I r h
  obtain ⟨a, ns, rfl, hs, hne, q⟩ := h
  obtain ⟨its, rv, hl, _⟩ := I.tuple hs
  rw [Vals.ref1 r]
  exact minT_raw (I.ok.hd hc) hl rv.ints hne fun h' tk m t' hk h1 h2 => ⟨.int _, H, I.kept hk, ⟨_, rfl⟩, q m h1 h2⟩
end
/-- the greatest, the least of ints (0 of none) -/
def maxI : List Int → Int
  | [] => 0
  | [a] => a
  | a :: b :: r => max a (maxI (b :: r))
def minI : List Int → Int
  | [] => 0
  | [a] => a
  | a :: b :: r => min a (minI (b :: r))
theorem maxI_spec : ∀ (l : List Int), l ≠ [] → maxI l ∈ l ∧ ∀ y ∈ l, y ≤ maxI l
  | [], h => absurd rfl h
  | [a], _ => ⟨List.mem_singleton.mpr rfl, fun y hy => by rw [List.mem_singleton] at hy; subst hy; exact Int.le_refl _⟩
  | a :: b :: r, _ => by
    obtain ⟨h1, h2⟩ := maxI_spec (b :: r) (by simp)
    refine ⟨?_, fun y hy => ?_⟩
    · show max a (maxI (b :: r)) ∈ _
      rcases Int.le_total a (maxI (b :: r)) with q | q
      · rw [Int.max_eq_right q]; exact List.mem_cons_of_mem _ h1
      · rw [Int.max_eq_left q]; exact List.mem_cons_self
    · show y ≤ max a (maxI (b :: r))
      rcases List.mem_cons.mp hy with rfl | hy
      · exact Int.le_max_left _ _
      · exact Int.le_trans (h2 y hy) (Int.le_max_right _ _)
theorem minI_spec : ∀ (l : List Int), l ≠ [] → minI l ∈ l ∧ ∀ y ∈ l, minI l ≤ y
  | [], h => absurd rfl h
  | [a], _ => ⟨List.mem_singleton.mpr rfl, fun y hy => by rw [List.mem_singleton] at hy; subst hy; exact Int.le_refl _⟩
  | a :: b :: r, _ => by
    obtain ⟨h1, h2⟩ := minI_spec (b :: r) (by simp)
    refine ⟨?_, fun y hy => ?_⟩
    · show min a (minI (b :: r)) ∈ _
      rcases Int.le_total a (minI (b :: r)) with q | q
      · rw [Int.min_eq_left q]; exact List.mem_cons_self
      · rw [Int.min_eq_right q]; exact List.mem_cons_of_mem _ h1
    · show min a (minI (b :: r)) ≤ y
      rcases List.mem_cons.mp hy with rfl | hy
      · exact Int.min_le_left _ _
      · exact Int.le_trans (Int.min_le_right _ _) (h2 y hy)
theorem max_one {l : List Int} {m : Int} (h1 : m ∈ l) (h2 : ∀ y ∈ l, y ≤ m) : m = maxI l := by
  obtain ⟨a, b⟩ := maxI_spec l (fun e => by subst e; cases h1)
  have := h2 _ a
  have := b _ h1
  omega
theorem min_one {l : List Int} {m : Int} (h1 : m ∈ l) (h2 : ∀ y ∈ l, m ≤ y) : m = minI l := by
  obtain ⟨a, b⟩ := minI_spec l (fun e => by subst e; cases h1)
  have := h2 _ a
  have := b _ h1
  omega
section
variable {X0 : Cx} {E : XK} {H : Hp} {Q : VK} {a : Addr} {ns : List Int}
theorem s_sumT (hc : X0.calm = true) (h : SqT X0.K H a (ns.map V.int)) (q : Q (.int ns.sum) H) : ∃ r, CaD X0 E (.builtin "sum") r ∧ r [.ref a] H Q :=
  ⟨rSumT X0.K, fun X l _ => by rw [← l.K]; exact cr_sumT (l.calm.trans hc), a, ns, rfl, h, q⟩
theorem s_sumL (hc : X0.calm = true) (h : SqL X0.K H a (ns.map V.int)) (q : Q (.int ns.sum) H) : ∃ r, CaD X0 E (.builtin "sum") r ∧ r [.ref a] H Q :=
  ⟨rSum X0.K, fun X l _ => by rw [← l.K]; exact cr_sum (l.calm.trans hc), a, ns, rfl, h, q⟩
theorem s_maxT (hc : X0.calm = true) (h : SqT X0.K H a (ns.map V.int)) (hn : ns ≠ []) (q : Q (.int (maxI ns)) H) : ∃ r, CaD X0 E (.builtin "max") r ∧ r [.ref a] H Q :=
  ⟨rMaxT X0.K, fun X l _ => by rw [← l.K]; exact cr_maxT (l.calm.trans hc), a, ns, rfl, h, List.length_pos_iff.mpr hn, fun m h1 h2 => by rw [max_one h1 h2]; exact q⟩
theorem s_minT (hc : X0.calm = true) (h : SqT X0.K H a (ns.map V.int)) (hn : ns ≠ []) (q : Q (.int (minI ns)) H) : ∃ r, CaD X0 E (.builtin "min") r ∧ r [.ref a] H Q :=
  ⟨rMinT X0.K, fun X l _ => by rw [← l.K]; exact cr_minT (l.calm.trans hc), a, ns, rfl, h, List.length_pos_iff.mpr hn, fun m h1 h2 => by rw [min_one h1 h2]; exact q⟩
theorem s_maxL (hc : X0.calm = true) (h : SqL X0.K H a (ns.map V.int)) (hn : ns ≠ []) (q : Q (.int (maxI ns)) H) : ∃ r, CaD X0 E (.builtin "max") r ∧ r [.ref a] H Q :=
  ⟨rMax X0.K, fun X l _ => by rw [← l.K]; exact cr_max (l.calm.trans hc), a, ns, rfl, h, List.length_pos_iff.mpr hn, fun m h1 h2 => by rw [max_one h1 h2]; exact q⟩
theorem s_minL (hc : X0.calm = true) (h : SqL X0.K H a (ns.map V.int)) (hn : ns ≠ []) (q : Q (.int (minI ns)) H) : ∃ r, CaD X0 E (.builtin "min") r ∧ r [.ref a] H Q :=
  ⟨rMin X0.K, fun X l _ => by rw [← l.K]; exact cr_min (l.calm.trans hc), a, ns, rfl, h, List.length_pos_iff.mpr hn, fun m h1 h2 => by rw [min_one h1 h2]; exact q⟩
/-- tuple(xs), list(xs) -/
theorem s_tupleL {xs : List V} (h : SqL X0.K H a xs) (q : ∀ l, H l = none → Q (.ref l) (upd H l (.tup xs))) : ∃ r, CaD X0 E (.type "tuple") r ∧ r [.ref a] H Q :=
  ⟨fun vs H Q => ∃ p ys, vs = [.ref p] ∧ ((SqL X0.K H p ys ∧ ∀ l, H l = none → Q (.ref l) (upd H l (.tup ys))) ∨ (SqT X0.K H p ys ∧ Q (.ref p) H)), fun X l _ => by rw [← l.K]; exact call_tuple_of, a, xs, rfl, .inl ⟨h, q⟩⟩
theorem s_listOf {xs : List V} (h : SqL X0.K H a xs ∨ SqT X0.K H a xs) (q : ∀ l, H l = none → Q (.ref l) (upd H l (.lst xs))) : ∃ r, CaD X0 E (.type "list") r ∧ r [.ref a] H Q :=
  ⟨fun vs H Q => ∃ p ys, vs = [.ref p] ∧ (SqL X0.K H p ys ∨ SqT X0.K H p ys) ∧ ∀ l, H l = none → Q (.ref l) (upd H l (.lst ys)), fun X l _ => by rw [← l.K]; exact call_list_of, a, xs, rfl, h, q⟩
end
end Odd

namespace Odd
open PySem PySem.Spec PyProof.Rows L2 RZ
/-! ### comprehensions whose turns only make objects -/
theorem same_new {H : Hp} {p : Addr} {o : HO} (h : H p = none) : Same H (upd H p o) := fun b u e => by rw [upd_ne (ne_of_none e h)]; exact e
theorem same_mut {H H' : Hp} {p : Addr} {o : HO} (s : Same H H') (h : H p = none) : Same H (upd H' p o) := fun b u e => by rw [upd_ne (ne_of_none e h)]; exact s b u e
theorem same_t {K : PySem.W.Frag} {H H' : Hp} {a : Addr} {xs : List V} (e : Same H H') (h : SqT K H a xs) : SqT K H' a xs := by
  rcases h with (h | ⟨o, h⟩) | h
  · exact .inl (.inl (e _ _ h))
  · exact .inl (.inr ⟨o, e _ _ h⟩)
  · exact .inr h
theorem sz5 {n : Nat} (h : n ≤ 100000) : n ≤ sizeLine := Nat.le_trans h (by decide)
/-- one turn: what the test and the element give -/
def Turn1 (tt : TT) (te : TE) (σ2 : L2.St) (H' : Hp) (o o' : List V) : Prop :=
  ∀ (K1 : VK) (K0 : Hp → Prop), (∀ y H4, Same H' H4 → o' = o ++ [y] → K1 y H4) → (∀ H3, Same H' H3 → o' = o → K0 H3) → tt σ2 H' fun b H3 => if b = true then te σ2 H3 K1 else K0 H3
theorem turn1_map {te : TE} {σ2 : L2.St} {H' : Hp} {o : List V} {y : V} (h : ∀ R : VK, (∀ H4, Same H' H4 → R y H4) → te σ2 H' R) : Turn1 tYes te σ2 H' o (o ++ [y]) := fun K1 K0 k1 _ => by
  show (if true = true then te σ2 H' K1 else K0 H')
  rw [if_pos rfl]
  exact h K1 fun H4 s => k1 y H4 s rfl
section
variable {K : PySem.W.Frag} {J : It} {n : Nat} {G : Hp → Prop} {Y : Nat → Hp → V → Hp → Prop} {g : TG} {tt : TT} {te : TE} {vs : List Nat} {σ : L2.St} {H : Hp} {Q : VK}
theorem c_walk (w : Walk J n G Y) (out : Nat → List V) (h0 : out 0 = []) (hz : ∀ i, i < n → (out i).length < 100000) (hG : ∀ H', Same H H' → G H')
    (turn : ∀ i x H1 H', i < n → Same H H1 → Y i H1 x H' → Same H1 H' ∧ ∀ R : L2.St → Hp → Prop, (∀ σ2 H2, Same H' H2 → wipe σ2 vs = wipe σ vs → Turn1 tt te σ2 H2 (out i) (out (i + 1)) → R σ2 H2) → g x (wipe σ vs) H' R)
    (q : ∀ p H', H p = none → Same H H' → H' p = some (.lst (out n)) → Q (.ref p) H') :
    ∀ D, H D = none → ∃ W : Nat → Nat → Hp → Prop, (∃ m, W 0 m (upd H D (.lst []))) ∧ ∀ i m H, W i m H →
      (J.stop i H ∧ Q (.ref D) H) ∨ (J.go i H ∧ ∃ Nx : Hp → Prop, (∀ H', Nx H' → ∃ m', m' < m ∧ W (i + 1) m' H') ∧ ∀ x H', J.yld i H x H' → g x (wipe σ vs) H' fun σ2 H2 => wipe σ2 vs = wipe σ vs ∧ tt σ2 H2 fun b H3 =>
        if b = true then te σ2 H3 fun y H4 => ∃ acc, H4 D = some (.lst acc) ∧ acc.length < sizeLine ∧ Nx (upd H4 D (.lst (acc ++ [y]))) else Nx H3) := fun D hD =>
  lc_it w (Qd := fun H' => Q (.ref D) H') (fun i H' => Same H H' ∧ H' D = some (.lst (out i))) ⟨same_new hD, by rw [upd_same, h0]⟩ (fun i H' _ p => hG H' p.1) (fun i x H1 H' hi p y => by
      obtain ⟨s1, tn⟩ := turn i x H1 H' hi p.1 y
      refine tn _ fun σ2 H2 s2 ew t => ⟨ew, ?_⟩
      have sD : H2 D = some (.lst (out i)) := s2 _ _ (s1 _ _ p.2)
      have sH : Same H H2 := (p.1.trans s1).trans s2
      exact t _ _ (fun y H4 s4 eo => ⟨out i, s4 _ _ sD, Nat.lt_of_lt_of_le (hz i hi) (by decide), same_mut (sH.trans s4) hD, by rw [upd_same, eo]⟩) fun H3 s3 eo => ⟨sH.trans s3, by rw [eo]; exact s3 _ _ sD⟩)
    fun H' p => q D H' hD p.1 p.2
variable {a b : Addr} {xs ys : List V} {j : Nat}
theorem walk_listS : Walk (Itl K a) xs.length (fun H => SqL K H a xs) (YAt xs) :=
  ⟨fun i _ hi q => ⟨xs, xs[i], q, by simp [hi]⟩, fun _ q => ⟨xs, q, Nat.le_refl _⟩, fun i H x H' _ q y => ⟨y.1, y.2 xs q⟩⟩
theorem walk_tupS : Walk (Itt K a) xs.length (fun H => SqT K H a xs) (YAt xs) :=
  ⟨fun i _ hi q => ⟨xs, xs[i], q, by simp [hi]⟩, fun _ q => ⟨xs, q, Nat.le_refl _⟩, fun i H x H' _ q y => ⟨y.1, y.2 xs q⟩⟩
theorem walk_zipTS (hn : n = min xs.length ys.length) : Walk (ItzT K a b) n (fun H => SqT K H a xs ∧ SqT K H b ys) (YPair (fun i => xs[i]?) (fun i => ys[i]?)) := by
  subst hn
  refine ⟨fun i _ hi q => ?_, fun _ q => ⟨xs, ys, q.1, q.2, by omega⟩, fun i H v H' _ q y => ?_⟩
  · have h1 : i < xs.length := by omega
    have h2 : i < ys.length := by omega
    exact ⟨xs, ys, xs[i], ys[i], q.1, q.2, by simp [h1], by simp [h2]⟩
  · obtain ⟨T, x, z, h1, h2, h3, h4, h5⟩ := y
    exact ⟨T, x, z, h1, h2, h3, h4 xs q.1, h5 ys q.2⟩
/-- over a tuple, a list: the target a name -/
theorem c_tup (out : Nat → List V) (h0 : out 0 = []) (hz : ∀ i, i < xs.length → (out i).length < 100000) (hx : SqT K H a xs) (hw : ∀ x, wipe ((wipe σ vs).set j (some x)) vs = wipe σ vs)
    (turn : ∀ i x H', xs[i]? = some x → Same H H' → Turn1 tt te ((wipe σ vs).set j (some x)) H' (out i) (out (i + 1))) (q : ∀ p H', H p = none → Same H H' → H' p = some (.lst (out xs.length)) → Q (.ref p) H')
    {tl : TE} (ht : ∀ R : VK, R (.ref a) H → tl σ H R) : tLc (iSeq K tl) (gName j) tt te vs σ H Q :=
  ht _ ⟨a, rfl, .inr ⟨⟨xs, hx⟩, c_walk walk_tupS out h0 hz (fun H' s => same_t s hx) (fun i x H1 H' hi s y => by
    obtain ⟨e1, e2⟩ := y
    subst e1
    exact ⟨Same.refl _, fun R k => k _ _ (Same.refl _) (hw x) (turn i x _ e2 s)⟩) q⟩⟩
theorem c_list (out : Nat → List V) (h0 : out 0 = []) (hz : ∀ i, i < xs.length → (out i).length < 100000) (hx : SqL K H a xs) (hw : ∀ x, wipe ((wipe σ vs).set j (some x)) vs = wipe σ vs)
    (turn : ∀ i x H', xs[i]? = some x → Same H H' → Turn1 tt te ((wipe σ vs).set j (some x)) H' (out i) (out (i + 1))) (q : ∀ p H', H p = none → Same H H' → H' p = some (.lst (out xs.length)) → Q (.ref p) H')
    {tl : TE} (ht : ∀ R : VK, R (.ref a) H → tl σ H R) : tLc (iSeq K tl) (gName j) tt te vs σ H Q :=
  ht _ ⟨a, rfl, .inl ⟨⟨xs, hx⟩, c_walk walk_listS out h0 hz (fun H' s => s.seq hx) (fun i x H1 H' hi s y => by
    obtain ⟨e1, e2⟩ := y
    subst e1
    exact ⟨Same.refl _, fun R k => k _ _ (Same.refl _) (hw x) (turn i x _ e2 s)⟩) q⟩⟩
/-- over range(n) -/
theorem c_rng {ta : TA} {n : Nat} (out : Nat → List V) (h0 : out 0 = []) (hn : n < 100000) (hz : ∀ i, i < n → (out i).length < 100000) (hw : ∀ x, wipe ((wipe σ vs).set j (some x)) vs = wipe σ vs)
    (turn : ∀ (i : Nat) H', i < n → Same H H' → Turn1 tt te ((wipe σ vs).set j (some (.int i))) H' (out i) (out (i + 1))) (q : ∀ p H', H p = none → Same H H' → H' p = some (.lst (out n)) → Q (.ref p) H')
    (ht : ∀ R : List V → Hp → Prop, R [.int n] H → ta σ H R) : tLc (iRng1 ta) (gName j) tt te vs σ H Q :=
  ht _ ⟨n, rfl, by omega, by omega, by
    rw [Int.toNat_natCast]
    exact c_walk (Y := YFn fun i => .int (0 + (i : Int))) (G := fun _ => True) ⟨fun i _ hi _ => hi, fun _ _ => Nat.le_refl _, fun i H x H' _ _ y => y⟩ out h0 hz (fun _ _ => True.intro) (fun i x H1 H' hi s y => by
      obtain ⟨e1, e2⟩ := y
      subst e1 e2
      refine ⟨Same.refl _, fun R k => k _ _ (Same.refl _) (hw _) ?_⟩
      show Turn1 tt te ((wipe σ vs).set j (some (.int ((0 : Int) + (i : Int))))) _ _ _
      rw [Int.zero_add]
      exact turn i _ hi s) q⟩
/-- over zip of two tuples: the target two names -/
theorem c_zipT {ta : TA} {j2 : Nat} (out : Nat → List V) (h0 : out 0 = []) (hz : ∀ i, i < min xs.length ys.length → (out i).length < 100000) (hx : SqT K H a xs) (hy : SqT K H b ys)
    (hw : ∀ x y, wipe (((wipe σ vs).set j (some x)).set j2 (some y)) vs = wipe σ vs)
    (turn : ∀ i x y H', xs[i]? = some x → ys[i]? = some y → Same H H' → Turn1 tt te (((wipe σ vs).set j (some x)).set j2 (some y)) H' (out i) (out (i + 1)))
    (q : ∀ p H', H p = none → Same H H' → H' p = some (.lst (out (min xs.length ys.length))) → Q (.ref p) H') (ht : ∀ R : List V → Hp → Prop, R [.ref a, .ref b] H → ta σ H R) :
    tLc (iZipA K ta) (gTup K 2 (gCons (gName j) (gCons (gName j2) gNil))) tt te vs σ H Q :=
  ht _ ⟨a, b, xs, ys, rfl, .inr ⟨hx, hy, c_walk (walk_zipTS rfl) out h0 hz (fun H' s => ⟨same_t s hx, same_t s hy⟩) (fun i x H1 H' hi s y => by
    obtain ⟨T, x, z, e1, e2, e3, e4, e5⟩ := y
    subst e1 e3
    exact ⟨same_new e2, fun R k => ⟨T, [x, z], rfl, SqT.of upd_same, rfl, x, [z], rfl, z, [], rfl, rfl, k _ _ (Same.refl _) (hw x z) (turn i x z _ e4 e5 (s.trans (same_new e2)))⟩⟩) q⟩⟩
end
end Odd

namespace Odd
open PySem PySem.Spec PyProof.Rows L2
/-! ### data in the heap -/
section
variable {K : PySem.W.Frag} {H H' : Hp}
mutual
theorem dp_same (s : Same H H') : ∀ {v : V} {d : PyData}, Dp K H v d → Dp K H' v d
  | _, _, .non => .non
  | _, _, .bl b => .bl b
  | _, _, .int i => .int i
  | _, _, .str x => .str x
  | _, _, .lst h hs => .lst (s.seq h) (dpAll_same s hs)
  | _, _, .tup h hs => .tup (same_t s h) (dpAll_same s hs)
theorem dpAll_same (s : Same H H') : ∀ {vs : List V} {ds : List PyData}, DpAll K H vs ds → DpAll K H' vs ds
  | _, _, .nil => .nil
  | _, _, .cons h hs => .cons (dp_same s h) (dpAll_same s hs)
end
theorem dp_ints : ∀ (cs : List Int), DpAll K H (cs.map V.int) (cs.map PyData.int)
  | [] => .nil
  | c :: cs => .cons (.int c) (dp_ints cs)
theorem dpAll_len : ∀ {vs : List V} {ds : List PyData}, DpAll K H vs ds → vs.length = ds.length
  | _, _, .nil => rfl
  | _, _, .cons _ hs => congrArg (· + 1) (dpAll_len hs)
theorem dpAll_get : ∀ {vs : List V} {ds : List PyData} {i : Nat} {d : PyData}, DpAll K H vs ds → ds[i]? = some d → ∃ v, vs[i]? = some v ∧ Dp K H v d
  | _, _, _, _, .nil, e => by simp at e
  | _, _, 0, _, .cons h _, e => by simp at e; subst e; exact ⟨_, rfl, h⟩
  | _, _, i + 1, _, .cons _ hs, e => by
    obtain ⟨v, h1, h2⟩ := dpAll_get (i := i) hs (by simpa using e)
    exact ⟨v, by simpa using h1, h2⟩
theorem dpAll_map {α : Type} {f : α → V} {g : α → PyData} (h : ∀ x, Dp K H (f x) (g x)) : ∀ l : List α, DpAll K H (l.map f) (l.map g)
  | [] => .nil
  | x :: l => .cons (h x) (dpAll_map h l)
end
/-- data without a bool among its parts -/
def nb : PyData → Bool
  | .none => true
  | .bool _ => false
  | .int _ => true
  | .str _ => true
  | .list xs => nbAll xs
  | .tuple xs => nbAll xs
  | .dict _ => false
where nbAll : List PyData → Bool
  | [] => true
  | x :: xs => nb x && nbAll xs
mutual
theorem eqv_iff : ∀ {d e : PyData}, nb d = true → nb e = true → (PyData.eqv d e = true ↔ d = e)
  | .none, e, _, he => by cases e <;> simp_all [PyData.eqv, nb]
  | .bool b, _, h, _ => by simp [nb] at h
  | .int i, e, _, he => by cases e <;> simp_all [PyData.eqv, nb]
  | .str x, e, _, he => by cases e <;> simp_all [PyData.eqv, nb]
  | .list xs, e, h, he => by
    cases e with
    | list ys =>
      have := eqvAll_iff (xs := xs) (ys := ys) (by simpa [nb] using h) (by simpa [nb] using he)
      simpa [PyData.eqv] using this
    | _ => simp_all [PyData.eqv, nb]
  | .tuple xs, e, h, he => by
    cases e with
    | tuple ys =>
      have := eqvAll_iff (xs := xs) (ys := ys) (by simpa [nb] using h) (by simpa [nb] using he)
      simpa [PyData.eqv] using this
    | _ => simp_all [PyData.eqv, nb]
  | .dict _, _, h, _ => by simp [nb] at h
theorem eqvAll_iff : ∀ {xs ys : List PyData}, nb.nbAll xs = true → nb.nbAll ys = true → (PyData.eqvAll xs ys = true ↔ xs = ys)
  | [], [], _, _ => by simp [PyData.eqvAll]
  | [], _ :: _, _, _ => by simp [PyData.eqvAll]
  | _ :: _, [], _, _ => by simp [PyData.eqvAll]
  | x :: xs, y :: ys, h, h' => by
    have h1 : nb x = true ∧ nb.nbAll xs = true := by simpa [nb.nbAll] using h
    have h2 : nb y = true ∧ nb.nbAll ys = true := by simpa [nb.nbAll] using h'
    have a := eqv_iff (d := x) (e := y) h1.1 h2.1
    have b := eqvAll_iff (xs := xs) (ys := ys) h1.2 h2.2
    simp only [PyData.eqvAll, Bool.and_eq_true, a, b, List.cons.injEq]
end
theorem eqv_dec {d e : PyData} {p : Prop} [Decidable p] (h : nb d = true) (h' : nb e = true) (q : d = e ↔ p) : PyData.eqv d e = decide p := by
  rw [Bool.eq_iff_iff, eqv_iff h h', decide_eq_true_iff, q]
theorem nb_ints : ∀ cs : List Int, nb.nbAll (cs.map PyData.int) = true
  | [] => rfl
  | _ :: cs => by simp [nb.nbAll, nb, nb_ints cs]
theorem lay_ints : ∀ cs : List Int, PyData.canLayAll0 (cs.map PyData.int) = true
  | [] => by simp [PyData.canLayAll0]
  | _ :: cs => by simp [PyData.canLayAll0, PyData.canLay0, lay_ints cs]
theorem dep_ints : ∀ cs : List Int, PyData.depthAll (cs.map PyData.int) = 0
  | [] => by simp [PyData.depthAll]
  | _ :: cs => by simp [PyData.depthAll, PyData.depth, dep_ints cs]
theorem shaped_tup (cs : List Int) : SeqAt.shaped (.tuple (cs.map PyData.int)) = true := by
  simp [SeqAt.shaped, PyData.canLay0, PyData.depth, lay_ints, dep_ints]
theorem shaped_lst (cs : List Int) : SeqAt.shaped (.list (cs.map PyData.int)) = true := by
  simp [SeqAt.shaped, PyData.canLay0, PyData.depth, lay_ints, dep_ints]
theorem map_int_inj {cs ds : List Int} : cs.map PyData.int = ds.map PyData.int ↔ cs = ds := by
  constructor
  · intro h
    have := congrArg (List.map fun d => match d with | PyData.int i => i | _ => 0) h
    simpa [List.map_map, Function.comp_def] using this
  · rintro rfl; rfl
theorem eqv_tups (cs ds : List Int) : PyData.eqv (.tuple (cs.map PyData.int)) (.tuple (ds.map PyData.int)) = decide (cs = ds) :=
  eqv_dec (by simp [nb, nb_ints]) (by simp [nb, nb_ints]) (by rw [PyData.tuple.injEq]; exact map_int_inj)
theorem eqv_lsts (cs ds : List Int) : PyData.eqv (.list (cs.map PyData.int)) (.list (ds.map PyData.int)) = decide (cs = ds) :=
  eqv_dec (by simp [nb, nb_ints]) (by simp [nb, nb_ints]) (by rw [PyData.list.injEq]; exact map_int_inj)
section
variable {X0 : Cx} {E : XK} {H : Hp} {Q : VK} {x y : V} {d e : PyData} {a b : Addr} {cs ds : List Int}
theorem s_eqD (hu : X0.A.units + 64 < cLine) (hx : Dp X0.K H x d) (hy : Dp X0.K H y e) (h1 : SeqAt.shaped d = true) (h2 : SeqAt.shaped e = true) (q : Q (.bl (PyData.eqv d e)) H) : ∃ r, OpD X0 E (compareOp .Eq) r ∧ r x y H Q :=
  ⟨rEqD X0.K, fun X l _ => by rw [← l.K]; exact op_eqD (by rw [l.A]; exact hu), d, e, hx, hy, h1, h2, q⟩
theorem s_neD (hu : X0.A.units + 64 < cLine) (hx : Dp X0.K H x d) (hy : Dp X0.K H y e) (h1 : SeqAt.shaped d = true) (h2 : SeqAt.shaped e = true) (q : Q (.bl (!PyData.eqv d e)) H) : ∃ r, OpD X0 E (compareOp .NotEq) r ∧ r x y H Q :=
  ⟨rNeD X0.K, fun X l _ => by rw [← l.K]; exact op_neD (by rw [l.A]; exact hu), d, e, hx, hy, h1, h2, q⟩
theorem s_eqTups (hu : X0.A.units + 64 < cLine) (ha : SqT X0.K H a (cs.map V.int)) (hb : SqT X0.K H b (ds.map V.int)) (q : Q (.bl (decide (cs = ds))) H) : ∃ r, OpD X0 E (compareOp .Eq) r ∧ r (.ref a) (.ref b) H Q :=
  s_eqD hu (.tup ha (dp_ints _)) (.tup hb (dp_ints _)) (shaped_tup _) (shaped_tup _) (by rw [eqv_tups]; exact q)
theorem s_neTups (hu : X0.A.units + 64 < cLine) (ha : SqT X0.K H a (cs.map V.int)) (hb : SqT X0.K H b (ds.map V.int)) (q : Q (.bl (!decide (cs = ds))) H) : ∃ r, OpD X0 E (compareOp .NotEq) r ∧ r (.ref a) (.ref b) H Q :=
  s_neD hu (.tup ha (dp_ints _)) (.tup hb (dp_ints _)) (shaped_tup _) (shaped_tup _) (by rw [eqv_tups]; exact q)
theorem s_eqLsts (hu : X0.A.units + 64 < cLine) (ha : SqL X0.K H a (cs.map V.int)) (hb : SqL X0.K H b (ds.map V.int)) (q : Q (.bl (decide (cs = ds))) H) : ∃ r, OpD X0 E (compareOp .Eq) r ∧ r (.ref a) (.ref b) H Q :=
  s_eqD hu (.lst ha (dp_ints _)) (.lst hb (dp_ints _)) (shaped_lst _) (shaped_lst _) (by rw [eqv_lsts]; exact q)
theorem s_neLsts (hu : X0.A.units + 64 < cLine) (ha : SqL X0.K H a (cs.map V.int)) (hb : SqL X0.K H b (ds.map V.int)) (q : Q (.bl (!decide (cs = ds))) H) : ∃ r, OpD X0 E (compareOp .NotEq) r ∧ r (.ref a) (.ref b) H Q :=
  s_neD hu (.lst ha (dp_ints _)) (.lst hb (dp_ints _)) (shaped_lst _) (shaped_lst _) (by rw [eqv_lsts]; exact q)
/-- isinstance of an own class -/
theorem s_isiC {C : Addr} {t : Value} {b : Bool} (ty : TyX X0.K H x t) (hk : PySem.W.kitOne X0.K t (.ref C) = some b) (q : Q (.bl b) H) : ∃ r, CaD X0 E (.builtin "isinstance") r ∧ r [x, .ref C] H Q :=
  ⟨rIsi X0.K, fun X l _ => by rw [← l.K]; exact call_isi, x, .ref C, t, .ref C, b, rfl, .own C, ty, hk, q⟩
theorem tyx_ins {K : PySem.W.Frag} {C dx : Addr} {fs : List (Str × V)} (h : H a = some (.ins C dx fs)) (c : Cls K C) (si : SlX.SIsi K C) : TyX K H (.ref a) (.ref C) := .base (.ins h c si.ca si.cn si.ct si.cm)
theorem kit_self {K : PySem.W.Frag} {t : Value} : PySem.W.kitOne K t t = some true := by
  unfold PySem.W.kitOne
  rw [if_pos (by exact beq_self_eq_true t)]
theorem s_truT {xs : List V} {QB : Bool → Hp → Prop} (h : SqT X0.K H a xs) (q : QB (!xs.isEmpty) H) : ∃ r, TrD X0 E r ∧ r (.ref a) H QB :=
  ⟨fun x H Q => ∃ k, TruV X0.K x H k ∧ Q k H, fun X l _ => by rw [← l.K]; exact tru_ok, _, .inr (.inl ⟨xs, h, rfl⟩), q⟩
theorem s_truL {xs : List V} {QB : Bool → Hp → Prop} (h : SqL X0.K H a xs) (q : QB (!xs.isEmpty) H) : ∃ r, TrD X0 E r ∧ r (.ref a) H QB :=
  ⟨fun x H Q => ∃ k, TruV X0.K x H k ∧ Q k H, fun X l _ => by rw [← l.K]; exact tru_ok, _, .inl ⟨xs, h, rfl⟩, q⟩
/-- great numbers -/
theorem s_mulW {i j : Int} (h : CMulW i j) (q : Q (.int (i * j)) H) : ∃ r, OpD X0 E (binaryOp .Mult) r ∧ r (.int i) (.int j) H Q := ⟨_, fun _ _ _ => op_mulW, i, j, rfl, rfl, h, q⟩
theorem s_fdivW {i j : Int} (h : CDivW i j) (q : Q (.int (i / j)) H) : ∃ r, OpD X0 E (binaryOp .FloorDiv) r ∧ r (.int i) (.int j) H Q := ⟨_, fun _ _ _ => op_fdivW, i, j, rfl, rfl, h, q⟩
end
theorem kit_own {K : PySem.W.Frag} {C : Addr} {T : String} {b : Bool} (hd : PySem.W.hasDictIn K C = true) (h1 : PySem.W.typeIn K (.ref C) = some (.type "type")) (h2 : PySem.W.subIn K (.type T) (.ref C) = some b) : PySem.W.kitOne K (.type T) (.ref C) = some b := by
  have hc : (PySem.W.clsIn K C).isSome = true := by
    obtain ⟨cd, hc, _⟩ := PySem.W.any_some hd
    rw [hc]
    rfl
  unfold PySem.W.kitOne PySem.W.kitCls
  rw [if_neg (by simp)]
  show (if ((PySem.W.clsIn K C).isSome && PySem.W.typeIn K (.ref C) == some (.type "type")) = true then PySem.W.subIn K (.type T) (.ref C) else none) = some b
  rw [hc, h1]
  exact h2
end Odd

namespace Odd
open PySem PySem.Spec PyProof.Rows L2
/-- all tracked but what stands at S is as it was -/
def SameB (S : Addr → Prop) (H H' : Hp) : Prop := ∀ b o, ¬ S b → H b = some o → H' b = some o
theorem SameB.refl {S : Addr → Prop} (H : Hp) : SameB S H H := fun _ _ _ h => h
theorem SameB.trans {S : Addr → Prop} {H H1 H2 : Hp} (a : SameB S H H1) (b : SameB S H1 H2) : SameB S H H2 := fun c o n h => b c o n (a c o n h)
theorem Same.b {S : Addr → Prop} {H H' : Hp} (s : Same H H') : SameB S H H' := fun b o _ h => s b o h
theorem turn1_filter {tt : TT} {te : TE} {σ2 : L2.St} {H' : Hp} {o : List V} {y : V} {b : Bool} (ht : ∀ R : Bool → Hp → Prop, (∀ H3, Same H' H3 → R b H3) → tt σ2 H' R)
    (he : b = true → ∀ H3, Same H' H3 → ∀ R : VK, (∀ H4, Same H3 H4 → R y H4) → te σ2 H3 R) : Turn1 tt te σ2 H' o (if b = true then o ++ [y] else o) := fun K1 K0 k1 k0 => ht _ fun H3 s3 => by
  cases b with
  | true => exact iteT (he rfl H3 s3 K1 fun H4 s4 => k1 y H4 (s3.trans s4) (by rw [if_pos rfl]))
  | false => exact iteF (k0 H3 s3 (by rw [if_neg Bool.false_ne_true]))
section
variable {K : PySem.W.Frag} {H : Hp} {Q : VK} {σ : L2.St} {to ti : TE} {v : V} {t : TSet} {R : L2.St → Hp → Prop}
theorem w_gsub (h : to σ H fun o H1 => ti σ H1 fun i H2 => t o i v H2 fun H3 => R σ H3) : gSub to ti t v σ H R := h
theorem s_setL {p : Addr} {xs : List V} {k : Int} {j : Nat} {RH : Hp → Prop} (h : H p = some (.lst xs)) (hj : ixN xs.length k = some j) (q : RH (upd H p (.lst (xs.set j v)))) : rSetL (.ref p) (.int k) v H RH := ⟨p, xs, k, j, rfl, rfl, h, hj, q⟩
/-- the type of a datum -/
def tyn : PyData → String
  | .none => "NoneType"
  | .bool _ => "bool"
  | .int _ => "int"
  | .str _ => "str"
  | .list _ => "list"
  | .tuple _ => "tuple"
  | .dict _ => "dict"
theorem tyx_l {a : Addr} {xs : List V} (h : SqL K H a xs) : TyX K H (.ref a) (.type "list") := by
  rcases h with (h | ⟨o, h⟩) | ⟨o, its, n, hk, hc, _⟩
  · exact .base (.lst h)
  · exact .base (.frz h)
  · exact .kList hk hc
theorem tyx_t {a : Addr} {xs : List V} (h : SqT K H a xs) : TyX K H (.ref a) (.type "tuple") := by
  rcases h with (h | ⟨o, h⟩) | ⟨o, its, n, hk, hc, _⟩
  · exact .base (.tup h)
  · exact .fTuple h
  · exact .kTuple hk hc
theorem tyx_dp {d : PyData} (h : Dp K H v d) : TyX K H v (.type (tyn d)) := by
  cases h with
  | non => exact .base .non
  | bl b => exact .base (.bl b)
  | int i => exact .base (.int i)
  | str x => exact .base (.str x)
  | lst h _ => exact tyx_l h
  | tup h _ => exact tyx_t h
end
section
variable {X0 : Cx} {E : XK} {H : Hp} {Q : VK} {x : V}
/-- isinstance(x, (tuple, list)) -/
theorem s_isiTL {d : PyData} {tp : Addr} {n m : String} {b : Bool} (h : Dp X0.K H x d) (ht : H tp = some (.tup [.ty n, .ty m])) (hk : PySem.W.kitAny X0.K (.type (tyn d)) [.type n, .type m] = some b) (q : Q (.bl b) H) :
    ∃ r, CaD X0 E (.builtin "isinstance") r ∧ r [x, .ref tp] H Q :=
  ⟨rIsiT X0.K, fun X l _ => by rw [← l.K]; exact call_isiT, x, tp, [.ty n, .ty m], .type (tyn d), [.type n, .type m], b, rfl, ht, .cons (.ty _) (.cons (.ty _) .nil), tyx_dp h, hk, q⟩
theorem s_isiD {d : PyData} {n : String} {b : Bool} (h : Dp X0.K H x d) (hk : kitB (tyn d) n = some b) (q : Q (.bl b) H) : ∃ r, CaD X0 E (.builtin "isinstance") r ∧ r [x, .ty n] H Q :=
  s_isi (tyx_dp h) (kit_ty hk) q
end
def isTL : PyData → Bool
  | .list _ => true
  | .tuple _ => true
  | _ => false
def isL : PyData → Bool
  | .list _ => true
  | _ => false
def isB : PyData → Bool
  | .bool _ => true
  | _ => false
def isI : PyData → Bool
  | .bool _ => true
  | .int _ => true
  | _ => false
theorem kit_TL {K : PySem.W.Frag} (d : PyData) (hd : ∀ kvs, d ≠ .dict kvs) : PySem.W.kitAny K (.type (tyn d)) [.type "tuple", .type "list"] = some (isTL d) := by
  have n : ∀ T : String, kitB T "tuple" = some false → kitB T "list" = some false → PySem.W.kitAny K (.type T) [.type "tuple", .type "list"] = some false := fun T h1 h2 =>
    kitAny_cons (b := false) (kit_ty h1) (fun _ => kitAny_cons (b := false) (kit_ty h2) (fun _ => kitAny_nil) fun z => nomatch z) fun z => nomatch z
  cases d with
  | dict kvs => exact absurd rfl (hd kvs)
  | list xs => exact kitAny_cons (b := false) (kit_ty (by decide +kernel : kitB "list" "tuple" = some false)) (fun _ => kitAny_cons (b := true) (kit_ty (by decide +kernel : kitB "list" "list" = some true)) (fun z => nomatch z) fun _ => rfl) fun z => nomatch z
  | tuple xs => exact kitAny_cons (b := true) (kit_ty (by decide +kernel : kitB "tuple" "tuple" = some true)) (fun z => nomatch z) fun _ => rfl
  | none => exact n "NoneType" (by decide +kernel) (by decide +kernel)
  | bool b => exact n "bool" (by decide +kernel) (by decide +kernel)
  | int i => exact n "int" (by decide +kernel) (by decide +kernel)
  | str x => exact n "str" (by decide +kernel) (by decide +kernel)
theorem kit_L (d : PyData) (hd : ∀ kvs, d ≠ .dict kvs) : kitB (tyn d) "list" = some (isL d) := by
  cases d with
  | dict kvs => exact absurd rfl (hd kvs)
  | list xs => exact (by decide +kernel : kitB "list" "list" = some true)
  | tuple xs => exact (by decide +kernel : kitB "tuple" "list" = some false)
  | none => exact (by decide +kernel : kitB "NoneType" "list" = some false)
  | bool b => exact (by decide +kernel : kitB "bool" "list" = some false)
  | int i => exact (by decide +kernel : kitB "int" "list" = some false)
  | str x => exact (by decide +kernel : kitB "str" "list" = some false)
theorem kit_B (d : PyData) (hd : ∀ kvs, d ≠ .dict kvs) : kitB (tyn d) "bool" = some (isB d) := by
  cases d with
  | dict kvs => exact absurd rfl (hd kvs)
  | list xs => exact (by decide +kernel : kitB "list" "bool" = some false)
  | tuple xs => exact (by decide +kernel : kitB "tuple" "bool" = some false)
  | none => exact (by decide +kernel : kitB "NoneType" "bool" = some false)
  | bool b => exact (by decide +kernel : kitB "bool" "bool" = some true)
  | int i => exact (by decide +kernel : kitB "int" "bool" = some false)
  | str x => exact (by decide +kernel : kitB "str" "bool" = some false)
theorem kit_I (d : PyData) (hd : ∀ kvs, d ≠ .dict kvs) : kitB (tyn d) "int" = some (isI d) := by
  cases d with
  | dict kvs => exact absurd rfl (hd kvs)
  | list xs => exact (by decide +kernel : kitB "list" "int" = some false)
  | tuple xs => exact (by decide +kernel : kitB "tuple" "int" = some false)
  | none => exact (by decide +kernel : kitB "NoneType" "int" = some false)
  | bool b => exact (by decide +kernel : kitB "bool" "int" = some true)
  | int i => exact (by decide +kernel : kitB "int" "int" = some true)
  | str x => exact (by decide +kernel : kitB "str" "int" = some false)
theorem dp_nd {K : PySem.W.Frag} {H : Hp} {v : V} {d : PyData} (h : Dp K H v d) : ∀ kvs, d ≠ .dict kvs := fun kvs e => by
  subst e
  cases h
end Odd

namespace Odd
open PySem PySem.Spec PyProof.Rows L2
/-! ### names, attributes of classes, calls of locals, of instances, of classmethods -/
section
variable {X0 X : Cx} {E : XK} {x m : Str} {e o : Expr} {es : List Expr} {te ta : TE} {t : TA} {p pos apos sp_ : Pos}
/-- a name of the module that holds an int -/
def tGvI (X0 : Cx) (x : Str) : TE := fun σ H Q => ∃ n u, X0.mg x = some (.int n u) ∧ Q (.int n) H
theorem pe_gvI (l : Like X0 X) (hg : Gl X x) (hd : (x == ("__debug__" : Str)) = false := by decide) : PE X (.Name x pos) (tGvI X0 x) :=
  ⟨fun pins s σ H Q I ⟨n, u, hm, q⟩ => ld_glob I hg (by rw [l.mg]; exact hm) ⟨.int n, H, I, ⟨u, rfl⟩, q⟩ hd⟩
theorem w_gvI {σ : L2.St} {H : Hp} {Q : VK} {n : Int} {u : Tok} (h : X0.mg x = some (.int n u)) (q : Q (.int n) H) : tGvI X0 x σ H Q := ⟨n, u, h, q⟩
/-- C.f, a constant of the class -/
theorem s_cval {H : Hp} {Q : VK} {C : Addr} {mc u : Value} {f : Str} {v : V} (r : ClX.CRead X0.K C mc) (k : ClX.CVal X0.K C mc f v u) (q : Q v H) : ∃ r, AtD X0 E f r ∧ r (.ref C) H Q :=
  ⟨fun x H Q => x = .ref C ∧ Q v H, fun X l h b pins s σ H x w Q I rx ⟨ex, q⟩ => by
    subst ex
    obtain rfl : w = Value.ref C := rx
    rw [← l.K] at r k
    exact ClX.getcval_ok I r k fun s2 I2 => ⟨v, H, I2, k.rel, q⟩, rfl, q⟩
/-- x(e, .., *y), x a local -/
def tLoA (X0 : Cx) (E : XK) (i : Nat) (t : TA) : TE := fun σ H Q => ∃ f, σ[i]? = some (some (.ref f)) ∧ PySem.W.keepIn X0.K (.ref f) = true ∧ t σ H fun vs H1 => ∃ r, CaD X0 E (.ref f) r ∧ r vs H1 Q
theorem pe_loS2 {i : Nat} (l : Like X0 X) (h : Pas X E) (hN : X.N[i]? = some x) (hv : Vis X.env.scope x) (ha : PA X (e :: es) t) (hd : (x == ("__debug__" : Str)) = false := by decide) (hcd : (x == ("__classdict__" : Str)) = false := by decide)
    (he : starEach (e :: es) X.env = (false, eval e X.env) :: starEach es X.env := by rfl) (hst : (backTo pos (starEach es X.env)).any (·.1) = true := by rfl) :
    PE X (.Call (.Name x p) (e :: es) [] pos) (tLoA X0 E i t) := by
  refine ⟨fun pins s σ H Q I ⟨f, hs, hk, q⟩ => ?_⟩
  rw [← l.K] at hk
  refine wpAny_Call_Name_kw (thn ((pe_var (pos := p) (i := i) hN hv hd hcd).run pins s σ H (fun v H1 => v = .ref f ∧ H1 = H) I ⟨.ref f, hs, rfl, rfl⟩) fun u s1 ⟨v, H1, I1, r1, q1⟩ => ?_)
  obtain ⟨ev, eH⟩ := q1
  subst ev
  rw [eH] at I1
  obtain rfl : u = Value.ref f := r1
  exact PySem.W.callWith_S2 (h₀ := X.base) I1.ok.mod.kin hk (thn (ha.run pos pins s1 σ H _ I1 q) fun us s2 ⟨vs, H2, I2, r2, r, hr, q2⟩ => ⟨I2.kIn, hr X l h pins s2 σ H2 vs us Q I2 r2 q2⟩) he hst
/-- f(e, ..), f an instance -/
def tCoA (X0 : Cx) (E : XK) (tf : TE) (t : TA) : TE := fun σ H Q => tf σ H fun y H1 => ∃ a, y = V.ref a ∧ t σ H1 fun vs H2 => (∃ C dx fs, H2 a = some (.ins C dx fs)) ∧ ∃ r, CaD X0 E (.ref a) r ∧ r vs H2 Q
theorem pe_coA (l : Like X0 X) (h : Pas X E) (hf : PE X o ta) (ha : PA X (e :: es) t)
    (ht : eval (.Call o (e :: es) [] pos) X.env = (do callWith pos (← eval o X.env) [] (backTo pos (starEach (e :: es) X.env)) (backToKw pos (keywordEach [] X.env))) := by rfl)
    (he : starEach (e :: es) X.env = (false, eval e X.env) :: starEach es X.env := by rfl) (hpl : (backTo pos (starEach es X.env)).any (·.1) = false := by rfl) : PE X (.Call o (e :: es) [] pos) (tCoA X0 E ta t) := by
  refine ⟨fun pins s σ H Q I hq => ?_⟩
  refine Call_ (thn (hf.run pins s σ H _ I hq) fun u s1 ⟨y, H1, I1, ry, a, ey, q⟩ => ?_) ht
  subst ey
  obtain rfl : u = Value.ref a := ry
  refine StX.callO_with (thn (ha.run pos pins s1 σ H1 _ I1 q) fun us s2 ⟨vs, H2, I2, rv, ⟨C, dx, fs, hi⟩, r, hr, q2⟩ => ?_) he hpl
  obtain ⟨ox, od, J, hd⟩ := StX.insC_at I2 (.inr ⟨dx, fs, hi⟩)
  exact ⟨⟨C, ox, od, J, hd⟩, hr X l h pins s2 σ H2 vs us Q I2 rv q2⟩
theorem s_callO {k : Nat} {H : Hp} {Q : VK} {a C g dx : Addr} {fs : List (Str × V)} {vs : List V} {sp : Sp} (hi : H a = some (.ins C dx fs)) (c : StX.CallO X0.K C g) (F : Fn X0 k g sp) (hr : Room k X0.A) (q : sp (.ref a :: vs) H Q E) : ∃ r, CaD X0 E (.ref a) r ∧ r vs H Q :=
  ⟨fun vs H Q => (∃ dx fs, H a = some (.ins C dx fs)) ∧ sp (.ref a :: vs) H Q E, fun X l h pins s σ H xs us Q I r ⟨hi, q⟩ => by
    rw [← l.K] at c
    exact StX.run_callO c (l.fn F) (l.room hr) h I (.inr hi) r q, ⟨dx, fs, hi⟩, q⟩
/-- C.m(e, ..), m a classmethod -/
def tCmA (X0 : Cx) (E : XK) (m : Str) (ta : TE) (t : TA) : TE := fun σ H Q => ta σ H fun x H1 => ∃ C mc p g k sp, x = .ref C ∧ ClX.CRead X0.K C mc ∧ ClX.CMet X0.K C mc m p g ∧ Fn X0 k g sp ∧ Room k X0.A ∧ t σ H1 fun vs H2 => sp (.ref C :: vs) H2 Q E
theorem pe_cmA {pl : Sem Bool} (l : Like X0 X) (h : Pas X E) (he : PE X o ta) (ha : PA X (e :: es) t)
    (hst : starEach (e :: es) X.env = (false, eval e X.env) :: starEach es X.env := by rfl) (hpl : (backTo pos (starEach es X.env)).any (·.1) = false := by rfl)
    (ht : eval (.Call (.Attribute o m apos) (e :: es) [] pos) X.env = (do
      let ov ← eval o X.env
      standAt apos.atName
      let (f, first) ← holding [ov] (getMethod ov m pl)
      callWith pos f first (backTo pos (starEach (e :: es) X.env)) (backToKw pos (keywordEach [] X.env))) := by rfl) :
    PE X (.Call (.Attribute o m apos) (e :: es) [] pos) (tCmA X0 E m ta t) := by
  refine ⟨fun pins s σ H Q I hq => ?_⟩
  refine PySem.W.methodCall_KW (pl := pl) (thn (he.run pins s σ H _ I hq) fun u s1 ⟨x, H1, I1, rx, C, mc, p, g, k, sp, ex, r, c, F, hr, q⟩ => ?_) ht
  subst ex
  obtain rfl : u = Value.ref C := rx
  rw [← l.K] at r c
  refine ClX.getmethcm_ok I1 r c fun s2 I2 => ?_
  refine ClX.callwith_cm I2 (ClX.base_none I1 (Nat.le_refl _)) c.fi (thn (ha.run pos _ s2 σ H1 _ I2 q) fun us s3 ⟨vs, H2, I3, rv, q2⟩ => ⟨⟨ClX.pin_at I3, I3.kIn⟩, ?_⟩) hst hpl
  exact ClX.run_cm (l.fn F) (l.room hr) h I3 rv q2
/-- o[i] op= e -/
def tAgS (X0 : Cx) (E : XK) (f : Value → Value → Sem Value) (to ti te : TE) (tset : TSet) : TS := fun D σ H => to σ H fun o H1 => ti σ H1 fun i H2 => (∃ a xs k v, o = .ref a ∧ i = .int k ∧ SqL X0.K H2 a xs ∧ atI xs k = some v ∧
  te σ H2 fun y H4 => ∃ r, OpD X0 E f r ∧ r v y H4 fun z H5 => tset o i z H5 fun H6 => D.nx σ H6)
end
end Odd

namespace Odd
open PySem PySem.Spec PyProof.Rows L2
/-! ### o[i] op= e for lists -/
section
variable {X0 X : Cx} {E : XK}
def tGetL (K : PySem.W.Frag) : V → V → Hp → VK → Prop := fun o i H Q => ∃ a xs k v, o = .ref a ∧ i = .int k ∧ 0 ≤ k ∧ SqL K H a xs ∧ xs[k.toNat]? = some v ∧ Q v H
theorem get_listA : PGet X (tGetL X.K) := by
  intro pins s σ H o i ov iv Q I ro ri h
  obtain ⟨a, xs, k, v, rfl, rfl, h0, hq, hx, q⟩ := h
  cases ro
  obtain ⟨t, rfl⟩ := ri
  obtain ⟨its, r, pl, hz⟩ := I.list hq
  obtain ⟨w, ew, rw'⟩ := r.get hx
  have hl := r.length
  have hn := line63
  have hk : k.toNat < xs.length := (List.getElem?_eq_some_iff.1 hx).1
  exact wpAny_getItem_list pl.isList h0 (by omega) (by simpa using ew) ⟨v, H, I, rw', q⟩
theorem ps_agS {op : Operator} {o i e : Expr} {to ti te : TE} {tpos pos : Pos} (l : Like X0 X) (h : Pas X E) (ho : PE X o to) (hi : PE X i ti) (he : PE X e te)
    (ha : ∀ ov iv new, augStore i ov iv new = (do holding [new, ov, iv] (setItem ov iv new); release [new, ov, iv] []; pure .next) := by intros; rfl) :
    PS X (.AugAssign (.Subscript o i tpos) op e pos) (tAugS to ti te (tGetL X.K) (fun x y H Q => ∃ r, OpD X0 E (inplaceOp op) r ∧ r x y H Q) rSetL) :=
  ps_augS ho hi get_listA he (fun pins s σ H x y v u Q I rx ry ⟨r, hr, q⟩ => hr X l h pins s σ H x y v u Q I rx ry q) set_list ha
theorem w_agS {K : PySem.W.Frag} {to ti te : TE} {tget : V → V → Hp → VK → Prop} {tip : TIp} {tset : TSet} {D : Ends} {σ : L2.St} {H : Hp}
    (h : to σ H fun o H1 => ti σ H1 fun i H2 => tget o i H2 fun x H3 => te σ H3 fun y H4 => tip x y H4 fun z H5 => tset o i z H5 fun H6 => D.nx σ H6) : tAugS to ti te tget tip tset D σ H := h
theorem s_getL {K : PySem.W.Frag} {H : Hp} {Q : VK} {a : Addr} {xs : List V} {k : Int} {v : V} (hq : SqL K H a xs) (h0 : 0 ≤ k) (hx : xs[k.toNat]? = some v) (q : Q v H) : tGetL K (.ref a) (.int k) H Q := ⟨a, xs, k, v, rfl, rfl, h0, hq, hx, q⟩
end
/-! ### enumerate of a tuple -/
section
variable {prog : Program} {w : World} {A : Around}
/-- a tuple's own iterator hands its items out -/
theorem draws_tup (hh : A.handled = none) (it t : Addr) (ne : t ≠ it) (items : Array Value) :
    Draws prog w A it [it, t] items.size (fun i v => items[i]? = some v) (fun i h => h.IsTupleIter it t i ∧ h.IsTuple t items) :=
  ⟨fun _ _ st => let ⟨o, e, _⟩ := st.1; ⟨o, e⟩, fun _ _ _ st k => ⟨st.1.at fun o e => k it (by simp) o e, let ⟨o, e, r⟩ := st.2; ⟨o, k t (by simp) o e, r⟩⟩,
    fun i s Q E hi st hQ => wpAny_nextOf_tuple_item st.1 st.2 (x := items[i]) (by simp [hi]) fun h' a b => hQ _ h' s.toks (by simp [hi]) ⟨a, st.2.extBut b.extBut ne⟩ b,
    fun s Q E st hE => wpAny_nextOf_tuple_end hh st.1 st.2 (by simp) hE⟩
theorem draws_end (hh : A.handled = none) (it t : Addr) (items : Array Value) (i : Nat) (hi : items[i]? = none) :
    Draws prog w A it [it, t] 0 (fun _ _ => True) (fun _ h => h.IsTupleIter it t i ∧ h.IsTuple t items) :=
  ⟨fun _ _ st => let ⟨o, e, _⟩ := st.1; ⟨o, e⟩, fun _ _ _ st k => ⟨st.1.at fun o e => k it (by simp) o e, let ⟨o, e, r⟩ := st.2; ⟨o, k t (by simp) o e, r⟩⟩,
    fun i s Q E hi => absurd hi (Nat.not_lt_zero _), fun s Q E st hE => wpAny_nextOf_tuple_end hh st.1 st.2 hi hE⟩
set_option maxHeartbeats 4000000 in
theorem meets_enum1 {v : Value} {o : Obj} {Hs : Heap → Prop} (B : Begins v o Hs) :
    Meets (Builtin.«enumerate.__new__» ⟨[.type "enumerate", v], []⟩) (fun _ R s => Hs s.heap ∧
      R (.ok (.ret (.ref (s.heap.push o).objs.size))) { s with heap := (s.heap.push o).push { cls := .type "enumerate", data := .fields #[.none, .bool false, .ref s.heap.objs.size, rawInt 0, .none, .none] } }) :=
  .of_wp fun prog w A R s h => by
    obtain ⟨hp, g, d, tk, os⟩ := s
    obtain ⟨h1, h⟩ := h
    have hsub := sub_enumerate
    have q1 : ∀ {A' : Around} {E : Value → Shared → Prop} {Q : Value → Shared → Prop}, Q (.ref hp.objs.size) ⟨hp.push o, g, d, tk, os⟩ → wpAny (model prog w) A' (pyIter v) Q E ⟨hp, g, d, tk, os⟩ :=
      fun q => B.iter prog w _ _ ⟨hp, g, d, tk, os⟩ _ h1 q
    wp_walk using q1
    refine wpAny_stack_any fun st => wpAny_pure ?_
    split
    · rename_i c _ _ _ _ _
      cases (c == Value.type "enumerate") <;>
      · wp_walk using q1
        exact ⟨_, rfl, h⟩
    · wp_walk using q1
      exact ⟨_, rfl, h⟩
theorem call_enum1 {E : Value → Shared → Prop} {s : Shared} {v : Value} {o : Obj} {Hs : Heap → Prop} {Q : Value → Shared → Prop} (B : Begins v o Hs) (h1 : Hs s.heap)
    (h : ∀ h', IsEnum h' (s.heap.objs.size + 1) s.heap.objs.size 0 .none → h'.get? s.heap.objs.size = some o → (∀ b u, s.heap.get? b = some u → h'.get? b = some u) → Q (.ref (s.heap.objs.size + 1)) { s with heap := h' }) :
    wpAny (model prog w) A (call (.type "enumerate") [v]) Q E s := by
  refine callType_new F.called_enumerate (by decide) (F.typeCall_enumerate_1 _) (F.newCall_enumerate_1 _) (fun obj => F.args_object_init_2 obj _) F.entry_enumerate_new (meets_enum1 B) ⟨h1, ?_⟩
  show _ ∧ _
  rw [Heap.size_push]
  have he : IsEnum ((s.heap.push o).push { cls := .type "enumerate", data := .fields #[.none, .bool false, .ref s.heap.objs.size, rawInt 0, .none, .none] }) (s.heap.objs.size + 1) s.heap.objs.size 0 .none := by
    have z := Heap.get?_push_size (s.heap.push o) (o := { cls := .type "enumerate", data := .fields #[.none, .bool false, .ref s.heap.objs.size, rawInt 0, .none, .none] }) rfl
    rw [Heap.size_push] at z
    exact z
  exact ⟨⟨_, he, rfl⟩, h _ he (Heap.get?_push_of_some _ (Heap.get?_push_size _ B.free)) fun b u e => Heap.get?_push_of_some _ (Heap.get?_push_of_some _ e)⟩
end
/-- the tuple at a, each item in a new pair with its index -/
def Itet (K : PySem.W.Frag) (a : Addr) : It :=
  ⟨fun i H => ∃ (xs : List V) (x : V), SqT K H a xs ∧ xs[i]? = some x, fun i H v H' => ∃ T x, v = .ref T ∧ H T = none ∧ H' = upd H T (.tup [.int (i : Nat), x]) ∧ ∀ xs, SqT K H a xs → xs[i]? = some x, fun i H => ∃ xs : List V, SqT K H a xs ∧ xs.length ≤ i⟩
theorem turn_enumT {P : Program} {w : World} {K : PySem.W.Frag} {elts : List Expr} {kk : Nat} {tpos : Pos} (a e it : Addr) :
    Turn P w K (.Tuple elts kk tpos) (Itet K a) [e, it] e (fun i h => (∃ old, IsEnum h e it ((i : Nat) : Int) old) ∧ h.IsTupleIter it a i ∧ e ≠ it ∧ e ≠ a) where
  mem := List.mem_cons_self ..
  obj := fun i h st b hb => by
    obtain ⟨⟨old, he⟩, ⟨o, ho, _, hd⟩, _⟩ := st
    rcases List.mem_cons.mp hb with z | z
    · exact ⟨_, by rw [z]; exact he, fun v q => by cases q⟩
    · rw [List.mem_singleton.mp z]
      exact ⟨o, ho, fun v q => by rw [hd] at q; cases q⟩
  keep := fun i h h' st k => ⟨st.1.imp fun old he => k e (by simp) _ he, st.2.1.at fun o q => k it (by simp) o q, st.2.2⟩
  item := by
    intro X hP hw hK hc i pins s σ H E I hf st hg
    subst hP hw hK
    obtain ⟨⟨old, he⟩, hit, hne, hna⟩ := st
    obtain ⟨xs, x, hq, hx⟩ := hg
    obtain ⟨its, rv, p, hz⟩ := I.tuple hq
    obtain ⟨u, hu, ru⟩ := rv.get hx
    have pT : s.heap.IsTuple a its.toArray := p
    have nai : a ≠ it := fun z => by
      obtain ⟨o1, e1, c1, _⟩ := pT
      obtain ⟨o2, e2, c2, _⟩ := hit
      rw [z, e2] at e1
      cases e1
      rw [c2] at c1
      exact absurd (Value.type.inj c1) (by decide)
    have hlt : i < its.toArray.size := by
      have := (List.getElem?_eq_some_iff.1 hu).1
      simpa using this
    have D := draws_tup (prog := X.prog) (w := X.w) (A := X.A.in1) (I.ok.hd hc) it a nai its.toArray
    refine wpAny_pyNext_enum_itemD D he ⟨hit, pT⟩ hlt hne (by simp [hne, hna]) fun y h' tk hy ho hs' hT hsz hk => ?_
    have ey : y = u := by
      have h2 : its[i]? = some y := by simpa using hy
      rw [hu] at h2
      exact (Option.some.inj h2).symm
    subst ey
    have hel : e < s.heap.objs.size := Heap.lt_size he
    refine ⟨_, rfl, wpAny_letOwnedTupleGo_enum (s := { s with heap := h', toks := tk + 1 }) ho fun h'' he' sb => ?_⟩
    have hT2 : h''.get? s.heap.objs.size = some { cls := .type "tuple", data := .seq #[.int i tk, y] } := (sb.2 _ (Nat.ne_of_gt hel)).trans hT
    have new : ObjOk X.prog X.w (upd H s.heap.objs.size (.tup [.int (i : Nat), x])) h'' s.heap.objs.size (.tup [.int (i : Nat), x]) :=
      ⟨by show 2 ≤ sizeLine; decide, [.int i tk, y], .cons ⟨_, rfl⟩ (.cons ru .nil), ⟨_, hT2, rfl, _, rfl⟩⟩
    have I1 := I.turnedNew (t' := tk + 1) (ch := [e, it]) (fun b ob hb q => (sb.2 b (fun z => hb (by simp [z]))).trans (hk b ob (fun z => hb (by simp [z])) (fun z => hb (by simp [z])) q)) hf (Nat.le_refl _) new
    refine ⟨.ref s.heap.objs.size, _, I1, rfl, ⟨_, x, rfl, I.hok.fresh (Nat.le_refl _), rfl, fun ys hy => by rw [I.tuple_inj hy hq]; exact hx⟩, ⟨⟨y, ?_⟩, hs'.1.at fun o q => (sb.2 it (Ne.symm hne)).trans q, hne, hna⟩, fun b hb => ?_⟩
    · rw [show ((i + 1 : Nat) : Int) = (i : Int) + 1 by omega]
      exact he'
    · obtain ⟨o1, e1, _⟩ := hit
      have hb' : b < s.heap.objs.size := by
        rcases List.mem_cons.mp hb with z | z
        · rw [z]; exact hel
        · rw [List.mem_singleton.mp z]; exact Heap.lt_size e1
      rw [upd_ne (Nat.ne_of_lt hb')]
      exact (hf b hb).1
  done := by
    intro X hP hw hK hc i pins s σ H E I hf st hg
    subst hP hw hK
    obtain ⟨⟨old, he⟩, hit, hne, hna⟩ := st
    obtain ⟨xs, hq, hx⟩ := hg
    obtain ⟨its, rv, p, hz⟩ := I.tuple hq
    obtain ⟨f0, f1, f2, f3, f4, f5⟩ := hf it (by simp)
    have hl := rv.length
    have D := draws_end (prog := X.prog) (w := X.w) (A := X.A.in1) (I.ok.hd hc) it a its.toArray i (by simp; omega)
    exact wpAny_pyNext_enum_endD D he ⟨hit, p⟩ fun h' eb => ⟨rfl, I.turned (t' := s.toks) (fun b o hb q => eb b o hb q) f0 f1 f3 f4 f5⟩
  self := fun A i s Q E st h => let ⟨⟨_, he⟩, _⟩ := st; wpAny_pyIter_enum he h
def iEnumA (K : PySem.W.Frag) (ta : TA) : TI := fun σ H R => ta σ H fun vs H1 => ∃ a, vs = [.ref a] ∧ (((∃ xs, SqL K H1 a xs) ∧ R (Ite K a) H1) ∨ ((∃ xs, SqT K H1 a xs) ∧ R (Itet K a) H1))
theorem pi_enumA {X : Cx} {e : Expr} {ta : TA} {p pos tpos : Pos} {elts : List Expr} {kk : Nat} (hg : Gl X "enumerate") (hm : X.mg "enumerate" = none) (ha : PA X [e] ta) (hs : starEach [e] X.env = [(false, eval e X.env)] := by rfl) :
    PI X (.Tuple elts kk tpos) (.Call (.Name "enumerate" p) [e] [] pos) (iEnumA X.K ta) := by
  refine ⟨fun pins s σ H R I h => ?_⟩
  refine Call_ (ld_blt I hg hm boot_enumerate (PyProof.Rows.callWith_type1 (thn (ha.run pos pins s σ H _ I h) fun us s1 ⟨vs, H1, I1, r1, q1⟩ => ?_) hs rfl))
  obtain ⟨a, ex, q⟩ := q1
  subst ex
  cases r1 with
  | cons r rr =>
    cases rr
    cases r
    have fin : ∀ h' : Heap, (∀ b o, s1.heap.get? b = some o → h'.get? b = some o) → ∀ b ∈ [s1.heap.objs.size + 1, s1.heap.objs.size], FpOk X pins H1 b := fun h' hk b hb => by
      have hle : s1.heap.objs.size ≤ b := by
        rcases List.mem_cons.mp hb with z | z
        · omega
        · rw [List.mem_singleton.mp z]; exact Nat.le_refl _
      exact I1.fpOk hle (I1.hok.fresh hle)
    rcases q with ⟨⟨xs, hq⟩, q⟩ | ⟨⟨xs, hq⟩, q⟩
    · obtain ⟨its, rv, p', hz⟩ := I1.list hq
      refine call_enum1 (begins_list a its.toArray) p'.isList fun h' he hit hk => wpAny_pyIter_enum he ?_
      exact ⟨s1.heap.objs.size + 1, [s1.heap.objs.size + 1, s1.heap.objs.size], _, _, H1, rfl, I1.kept (t' := s1.toks) hk, turn_enum a (s1.heap.objs.size + 1) s1.heap.objs.size, ⟨⟨.none, he⟩, ⟨_, hit, rfl, rfl⟩, Nat.succ_ne_self _⟩, fin h' hk, q⟩
    · obtain ⟨its, rv, p', hz⟩ := I1.tuple hq
      have pT : s1.heap.IsTuple a its.toArray := p'
      have hlt : a < s1.heap.objs.size := by obtain ⟨_, z, _⟩ := pT; exact Heap.lt_size z
      refine call_enum1 (begins_tuple a its.toArray) pT fun h' he hit hk => wpAny_pyIter_enum he ?_
      exact ⟨s1.heap.objs.size + 1, [s1.heap.objs.size + 1, s1.heap.objs.size], _, _, H1, rfl, I1.kept (t' := s1.toks) hk, turn_enumT a (s1.heap.objs.size + 1) s1.heap.objs.size, ⟨⟨.none, he⟩, ⟨_, hit, rfl, rfl⟩, Nat.succ_ne_self _, Nat.ne_of_gt (Nat.lt_succ_of_lt hlt)⟩, fin h' hk, q⟩
/-- for i, x in enumerate(a tuple) -/
theorem walk_enumT {K : PySem.W.Frag} {a : Addr} {xs : List V} : Walk (Itet K a) xs.length (fun H => SqT K H a xs) (YPair (fun i => some (.int (i : Nat))) (fun i => xs[i]?)) := by
  refine ⟨fun i _ hi q => ⟨xs, xs[i], q, by simp [hi]⟩, fun _ q => ⟨xs, q, Nat.le_refl _⟩, fun i H v H' _ q y => ?_⟩
  obtain ⟨T, x, h1, h2, h3, h4⟩ := y
  exact ⟨T, .int (i : Nat), x, h1, h2, h3, rfl, h4 xs q⟩
end Odd

namespace Odd
open PySem PySem.Spec PyProof.Rows L2
/-! ### loops -/
section
variable {K : PySem.W.Frag} {a T : Addr} {xs : List V} {g : TG} {tb : TS} {D : Ends} {σ : L2.St} {H : Hp} {tl : TE} {ta : TA} {i j : Nat} {x y : V} {R : L2.St → Hp → Prop}
theorem g_pair (hT : SqT K H T [x, y]) (h : R ((σ.set i (some x)).set j (some y)) H) : gTup K 2 (gCons (gName i) (gCons (gName j) gNil)) (.ref T) σ H R := ⟨T, [x, y], rfl, hT, rfl, x, [y], rfl, y, [], rfl, rfl, h⟩
theorem f_tup (Pv : Nat → L2.St → Hp → Prop) (ht : ∀ R : VK, R (.ref a) H → tl σ H R) (h0 : Pv 0 σ H) (hl : ∀ i σ H, i ≤ xs.length → Pv i σ H → SqT K H a xs)
    (hs : ∀ i x σ H, xs[i]? = some x → Pv i σ H → g x σ H fun σ2 H2 => tb { D with nx := Pv (i + 1), ct := Pv (i + 1), bk := D.nx } σ2 H2) (hd : ∀ σ H, Pv xs.length σ H → D.nx σ H) : tFor (iSeq K tl) g tb D σ H :=
  ht _ ⟨a, rfl, .inr ⟨⟨xs, hl 0 σ H (Nat.zero_le _) h0⟩, for_tup Pv h0 hl hs hd⟩⟩
theorem f_lst (Pv : Nat → L2.St → Hp → Prop) (ht : ∀ R : VK, R (.ref a) H → tl σ H R) (h0 : Pv 0 σ H) (hl : ∀ i σ H, i ≤ xs.length → Pv i σ H → SqL K H a xs)
    (hs : ∀ i x σ H, xs[i]? = some x → Pv i σ H → g x σ H fun σ2 H2 => tb { D with nx := Pv (i + 1), ct := Pv (i + 1), bk := D.nx } σ2 H2) (hd : ∀ σ H, Pv xs.length σ H → D.nx σ H) : tFor (iSeq K tl) g tb D σ H :=
  ht _ ⟨a, rfl, .inl ⟨⟨xs, hl 0 σ H (Nat.zero_le _) h0⟩, for_list Pv h0 hl hs hd⟩⟩
/-- .. the list comes with other things that are made on the way -/
theorem f_lstN (ht : tl σ H fun x H1 => ∃ a xs, x = .ref a ∧ ∃ Pv : Nat → L2.St → Hp → Prop, Pv 0 σ H1 ∧ (∀ i σ H, i ≤ xs.length → Pv i σ H → SqL K H a xs) ∧
    (∀ i x σ H, xs[i]? = some x → Pv i σ H → g x σ H fun σ2 H2 => tb { D with nx := Pv (i + 1), ct := Pv (i + 1), bk := D.nx } σ2 H2) ∧ ∀ σ H, Pv xs.length σ H → D.nx σ H) (mono : ∀ (σ : L2.St) (H : Hp) (Q Q' : VK), (∀ v H1, Q v H1 → Q' v H1) → tl σ H Q → tl σ H Q') : tFor (iSeq K tl) g tb D σ H :=
  mono _ _ _ _ (fun v H1 ⟨a, xs, ev, Pv, h0, hl, hs, hd⟩ => ⟨a, ev, .inl ⟨⟨xs, hl 0 σ H1 (Nat.zero_le _) h0⟩, for_list Pv h0 hl hs hd⟩⟩) ht
theorem w_for {wi : TI} (h : wi σ H fun J H1 => ∃ W : Nat → Nat → L2.St → Hp → Prop, (∃ m, W 0 m σ H1) ∧ ∀ i m σ H, W i m σ H →
  (J.stop i H ∧ D.nx σ H) ∨ (J.go i H ∧ ∃ N : L2.St → Hp → Prop, (∀ σ' H', N σ' H' → ∃ m', m' < m ∧ W (i + 1) m' σ' H') ∧ ∀ x H', J.yld i H x H' → g x σ H' fun σ2 H2 => tb { D with nx := N, ct := N, bk := D.nx } σ2 H2)) : tFor wi g tb D σ H := h
theorem w_isq {RR : It → Hp → Prop} (h : tl σ H fun x H1 => ∃ a, x = .ref a ∧ (((∃ xs, SqL K H1 a xs) ∧ RR (Itl K a) H1) ∨ ((∃ xs, SqT K H1 a xs) ∧ RR (Itt K a) H1))) : iSeq K tl σ H RR := h
/-- for i, x in enumerate(a tuple) -/
theorem f_enumT (Pv : Nat → L2.St → Hp → Prop) (ht : ∀ R : List V → Hp → Prop, R [.ref a] H → ta σ H R) (h0 : Pv 0 σ H) (hl : ∀ i σ H, i ≤ xs.length → Pv i σ H → SqT K H a xs)
    (hs : ∀ k x σ H T, xs[k]? = some x → Pv k σ H → H T = none → tb { D with nx := Pv (k + 1), ct := Pv (k + 1), bk := D.nx } ((σ.set i (some (.int (k : Nat)))).set j (some x)) (upd H T (.tup [.int (k : Nat), x]))) (hd : ∀ σ H, Pv xs.length σ H → D.nx σ H) :
    tFor (iEnumA K ta) (gTup K 2 (gCons (gName i) (gCons (gName j) gNil))) tb D σ H :=
  ht _ ⟨a, rfl, .inr ⟨⟨xs, hl 0 σ H (Nat.zero_le _) h0⟩, for_it walk_enumT Pv h0 hl (fun k x σ H H' hk p y => by
    obtain ⟨T, u, v, e1, e2, e3, e4, e5⟩ := y
    cases e4
    subst e1 e3
    exact g_pair (SqT.of upd_same) (hs k v σ H T e5 p e2)) hd⟩⟩
/-- for i in range(n) -/
theorem f_rng {n : Nat} (Pv : Nat → L2.St → Hp → Prop) (ht : ∀ R : List V → Hp → Prop, R [.int n] H → ta σ H R) (hn : n < 100000) (h0 : Pv 0 σ H)
    (hs : ∀ i σ H, i < n → Pv i σ H → g (.int (i : Nat)) σ H fun σ2 H2 => tb { D with nx := Pv (i + 1), ct := Pv (i + 1), bk := D.nx } σ2 H2) (hd : ∀ σ H, Pv n σ H → D.nx σ H) : tFor (iRng1 ta) g tb D σ H :=
  ht _ ⟨n, rfl, by omega, by omega, by
    rw [Int.toNat_natCast]
    exact for_range Pv h0 (fun k σ H hk p => by rw [Int.zero_add]; exact hs k σ H hk p) hd⟩
end
/-- the last item -/
theorem at_last {α : Type} (xs : List α) (h : xs ≠ []) : atI xs (-1) = some (xs.getLast h) := by
  have hl : 0 < xs.length := List.length_pos_iff.2 h
  have e : ixN xs.length (-1) = some (xs.length - 1) := by
    unfold ixN
    rw [if_neg (by omega), if_pos (by omega)]
    congr 1
    omega
  unfold atI
  rw [e]
  show xs[xs.length - 1]? = _
  rw [List.getLast_eq_getElem, List.getElem?_eq_getElem (by omega)]
theorem fnr_star2 {P : Program} {w : World} {K : PySem.W.Frag} {mg : Str → Option Value} {base : Heap} {x qual p1 p2 pv : Str} {st : Stmt} {f : Addr} {fd : FuncData} {N : List Str} {k : Nat} {sp : Sp} (F : Fun K x qual st f fd) (S : FnScope N ([p1, p2] ++ [pv]) (defScope st))
    (h0 : ∀ (kV doc pm : Value) (an : Option Addr) (cdv ct a b : Value), bindArgs (PySem.W.fnOf x qual (defArgs st) (defBody st) (defScope st) .none kV doc pm an cdv ct) ⟨[a, b], []⟩ = (newTuple [] >>= fun t => pure [(p1, a), (p2, b), (pv, t)]))
    (h1 : ∀ (kV doc pm : Value) (an : Option Addr) (cdv ct a b r : Value) (rs : List Value), bindArgs (PySem.W.fnOf x qual (defArgs st) (defBody st) (defScope st) .none kV doc pm an cdv ct) ⟨a :: b :: r :: rs, []⟩ = (newTuple (r :: rs) >>= fun t => pure [(p1, a), (p2, b), (pv, t)]))
    (hbody : ∀ (cdv : Value) (A : Around) (outer : List Env) (s : Shared) (H : Hp) (vs : List V) (Q : VK) (E : XK), Room k (A.deeper (envOfC qual (defScope st) s.heap.objs.size f cdv)) → sp vs H Q E →
      ∃ t, PSs (cxOf (L2.CX P w) P w K mg base N qual (defScope st) f cdv A outer s H E) (defBody st) t ∧ t { nx := fun _ H' => Q .non H', rt := Q } (start N vs) H) :
    FnR P w K mg base (L2.CX P w) (k + 1) f (fun vs H Q E => ∃ ws rest, vs = ws ++ rest ∧ ws.length = [p1, p2].length ∧ rest.length ≤ sizeLine ∧ ∀ p, H p = Option.none → sp (ws ++ [V.ref p]) (upd H p (.tup rest)) Q E) :=
  fnr_star F S (fun kV doc pm an cdv ct us rest hl => StX.bind_star2 (B := fun l => bindArgs (PySem.W.fnOf x qual (defArgs st) (defBody st) (defScope st) .none kV doc pm an cdv ct) ⟨l, []⟩) (h0 kV doc pm an cdv ct) (h1 kV doc pm an cdv ct) us rest hl) hbody
section
variable {X0 : Cx} {E : XK} {H : Hp} {Q : VK} {l b : Addr} {xs zs : List V}
theorem s_cat (h : H l = some (.lst xs)) (h' : H b = some (.lst zs)) (hz : xs.length + zs.length ≤ sizeLine) (q : ∀ p, H p = none → Q (.ref p) (upd H p (.lst (xs ++ zs)))) : ∃ r, OpD X0 E (binaryOp .Add) r ∧ r (.ref l) (.ref b) H Q :=
  ⟨rCat, fun _ _ _ => op_cat, l, b, xs, zs, rfl, rfl, h, h', hz, q⟩
theorem s_rep {k : Int} (h : H l = some (.lst xs)) (h0 : -(2 ^ 63) ≤ k) (h1 : k < 2 ^ 63) (hz : xs.length * k.toNat ≤ sizeLine) (q : ∀ p, H p = none → Q (.ref p) (upd H p (.lst (List.replicate k.toNat xs).flatten))) : ∃ r, OpD X0 E (binaryOp .Mult) r ∧ r (.ref l) (.int k) H Q :=
  ⟨rRep, fun _ _ _ => op_rep, l, k, xs, rfl, rfl, h, h0, h1, hz, q⟩
theorem s_catT (h : SqT X0.K H l xs) (h' : SqT X0.K H b zs) (hz : xs.length + zs.length ≤ sizeLine) (q1 : xs = [] → Q (.ref b) H) (q2 : xs ≠ [] → zs = [] → Q (.ref l) H) (q3 : xs ≠ [] → zs ≠ [] → ∀ p, H p = none → Q (.ref p) (upd H p (.tup (xs ++ zs)))) : ∃ r, OpD X0 E (binaryOp .Add) r ∧ r (.ref l) (.ref b) H Q :=
  ⟨rCatA X0.K, fun X l _ => by rw [← l.K]; exact op_catA, l, b, xs, zs, rfl, rfl, h, h', hz, q1, q2, q3⟩
end
theorem flat1 {α : Type} (x : α) : ∀ n : Nat, (List.replicate n [x]).flatten = List.replicate n x
  | 0 => rfl
  | n + 1 => by rw [List.replicate_succ, List.flatten_cons, flat1 x n]; rfl
theorem pa_starA {X0 X : Cx} {e : Expr} {es : List Expr} {te : TE} {t : TA} {p : Pos} (l : Like X0 X) (he : PE X e te) (hr : PA X es t) (hs : starEach (.Starred e p :: es) X.env = (true, eval e X.env) :: starEach es X.env := by rfl) : PA X (.Starred e p :: es) (StX.tStar X0.K te t) := by
  rw [← l.K]
  exact StX.pa_star he hr hs
theorem w_star {K : PySem.W.Frag} {te : TE} {t : TA} {σ : L2.St} {H : Hp} {Q : List V → Hp → Prop} (h : StX.tStar K te t σ H Q) : StX.tStar K te t σ H Q := h
end Odd

namespace Odd
open PySem PySem.Spec PyProof.Rows L2
/-! ### comprehensions whose items are not known beforehand, and which change what stands at S -/
/-- one turn, from H1 with the items o -/
def TurnI (S : Addr → Prop) (Pv : Nat → List V → Hp → Prop) (i : Nat) (tt : TT) (te : TE) (σ2 : L2.St) (H1 : Hp) (o : List V) : Prop :=
  ∀ (K1 : VK) (K0 : Hp → Prop), (∀ y H4, SameB S H1 H4 → Pv (i + 1) (o ++ [y]) H4 → K1 y H4) → (∀ H3, SameB S H1 H3 → Pv (i + 1) o H3 → K0 H3) → tt σ2 H1 fun b H3 => if b = true then te σ2 H3 K1 else K0 H3
theorem turnI_map {S : Addr → Prop} {Pv : Nat → List V → Hp → Prop} {i : Nat} {te : TE} {σ2 : L2.St} {H1 : Hp} {o : List V} (h : ∀ R : VK, (∀ y H4, SameB S H1 H4 → Pv (i + 1) (o ++ [y]) H4 → R y H4) → te σ2 H1 R) : TurnI S Pv i tYes te σ2 H1 o := fun K1 K0 k1 _ => by
  show (if true = true then te σ2 H1 K1 else K0 H1)
  rw [if_pos rfl]
  exact h K1 k1
section
variable {K : PySem.W.Frag} {J : It} {n : Nat} {G : Hp → Prop} {Y : Nat → Hp → V → Hp → Prop} {g : TG} {tt : TT} {te : TE} {vs : List Nat} {σ : L2.St} {H : Hp} {Q : VK}
theorem SameB.upd {S : Addr → Prop} {H H' : Hp} {D : Addr} {u : HO} (s : SameB S H H') (h : H D = none) : SameB S H (upd H' D u) := fun b o nb e => by rw [upd_ne (ne_of_none e h)]; exact s b o nb e
theorem c_walkI (S : Addr → Prop) (Pv : Nat → List V → Hp → Prop) (w : Walk J n G Y) (hS : ∀ b, S b → H b ≠ none) (h0 : ∀ D, H D = none → Pv 0 [] (upd H D (.lst []))) (hz : ∀ i o H', i < n → Pv i o H' → o.length < 100000) (hG : ∀ H', SameB S H H' → G H')
    (hD : ∀ i o H' D l l', H D = none → H' D = some (.lst l) → Pv i o H' → Pv i o (upd H' D (.lst l')))
    (turn : ∀ i x H1 H' o, i < n → SameB S H H1 → Pv i o H1 → Y i H1 x H' → ∀ R : L2.St → Hp → Prop, (∀ σ2, wipe σ2 vs = wipe σ vs → SameB S H1 H' → TurnI S Pv i tt te σ2 H' o → R σ2 H') → g x (wipe σ vs) H' R)
    (q : ∀ p o H', H p = none → SameB S H H' → Pv n o H' → H' p = some (.lst o) → Q (.ref p) H') :
    ∀ D, H D = none → ∃ W : Nat → Nat → Hp → Prop, (∃ m, W 0 m (upd H D (.lst []))) ∧ ∀ i m H, W i m H →
      (J.stop i H ∧ Q (.ref D) H) ∨ (J.go i H ∧ ∃ Nx : Hp → Prop, (∀ H', Nx H' → ∃ m', m' < m ∧ W (i + 1) m' H') ∧ ∀ x H', J.yld i H x H' → g x (wipe σ vs) H' fun σ2 H2 => wipe σ2 vs = wipe σ vs ∧ tt σ2 H2 fun b H3 =>
        if b = true then te σ2 H3 fun y H4 => ∃ acc, H4 D = some (.lst acc) ∧ acc.length < sizeLine ∧ Nx (upd H4 D (.lst (acc ++ [y]))) else Nx H3) := fun D hDn => by
  have nS : ¬ S D := fun z => hS D z hDn
  refine lc_it w (Qd := fun H' => Q (.ref D) H') (fun i H' => ∃ o, SameB S H H' ∧ H' D = some (.lst o) ∧ Pv i o H') ⟨[], (SameB.refl H).upd hDn, upd_same, h0 D hDn⟩ (fun i H' _ p => hG H' p.choose_spec.1) (fun i x H1 H' hi p y => ?_) fun H' p => ?_
  · obtain ⟨o, s1, d1, p1⟩ := p
    refine turn i x H1 H' o hi s1 p1 y _ fun σ2 ew s2 t => ⟨ew, ?_⟩
    have d2 : H' D = some (.lst o) := s2 _ _ nS d1
    exact t _ _ (fun y H4 s4 p4 => ⟨o, s4 _ _ nS d2, Nat.lt_of_lt_of_le (hz i o H1 hi p1) (by decide), o ++ [y], ((s1.trans s2).trans s4).upd hDn, upd_same, hD _ _ _ _ _ _ hDn (s4 _ _ nS d2) p4⟩)
      fun H3 s3 p3 => ⟨o, (s1.trans s2).trans s3, s3 _ _ nS d2, p3⟩
  · obtain ⟨o, s1, d1, p1⟩ := p
    exact q D o H' hDn s1 p1 d1
variable {a b : Addr} {xs ys : List V} {j : Nat}
/-- over a tuple, a list: the target a name -/
theorem c_tupI (S : Addr → Prop) (Pv : Nat → List V → Hp → Prop) (hS : ∀ b, S b → H b ≠ none) (h0 : ∀ D, H D = none → Pv 0 [] (upd H D (.lst []))) (hz : ∀ i o H', i < xs.length → Pv i o H' → o.length < 100000) (hx : ∀ H', SameB S H H' → SqT K H' a xs)
    (hD : ∀ i o H' D l l', H D = none → H' D = some (.lst l) → Pv i o H' → Pv i o (upd H' D (.lst l'))) (hw : ∀ x, wipe ((wipe σ vs).set j (some x)) vs = wipe σ vs)
    (turn : ∀ i x H' o, xs[i]? = some x → SameB S H H' → Pv i o H' → TurnI S Pv i tt te ((wipe σ vs).set j (some x)) H' o)
    (q : ∀ p o H', H p = none → SameB S H H' → Pv xs.length o H' → H' p = some (.lst o) → Q (.ref p) H')
    {tl : TE} (ht : ∀ R : VK, R (.ref a) H → tl σ H R) : tLc (iSeq K tl) (gName j) tt te vs σ H Q :=
  ht _ ⟨a, rfl, .inr ⟨⟨xs, hx H (SameB.refl H)⟩, c_walkI S Pv walk_tupS hS h0 hz hx hD (fun i x H1 H' o hi s p y R k => by
    obtain ⟨e1, e2⟩ := y
    subst e1
    exact k _ (hw x) (SameB.refl _) (turn i x _ o e2 s p)) q⟩⟩
theorem c_listI (S : Addr → Prop) (Pv : Nat → List V → Hp → Prop) (hS : ∀ b, S b → H b ≠ none) (h0 : ∀ D, H D = none → Pv 0 [] (upd H D (.lst []))) (hz : ∀ i o H', i < xs.length → Pv i o H' → o.length < 100000) (hx : ∀ H', SameB S H H' → SqL K H' a xs)
    (hD : ∀ i o H' D l l', H D = none → H' D = some (.lst l) → Pv i o H' → Pv i o (upd H' D (.lst l'))) (hw : ∀ x, wipe ((wipe σ vs).set j (some x)) vs = wipe σ vs)
    (turn : ∀ i x H' o, xs[i]? = some x → SameB S H H' → Pv i o H' → TurnI S Pv i tt te ((wipe σ vs).set j (some x)) H' o)
    (q : ∀ p o H', H p = none → SameB S H H' → Pv xs.length o H' → H' p = some (.lst o) → Q (.ref p) H')
    {tl : TE} (ht : ∀ R : VK, R (.ref a) H → tl σ H R) : tLc (iSeq K tl) (gName j) tt te vs σ H Q :=
  ht _ ⟨a, rfl, .inl ⟨⟨xs, hx H (SameB.refl H)⟩, c_walkI S Pv walk_listS hS h0 hz hx hD (fun i x H1 H' o hi s p y R k => by
    obtain ⟨e1, e2⟩ := y
    subst e1
    exact k _ (hw x) (SameB.refl _) (turn i x _ o e2 s p)) q⟩⟩
/-- over range(n) -/
theorem c_rngI {ta : TA} {n : Nat} (S : Addr → Prop) (Pv : Nat → List V → Hp → Prop) (hn : n < 100000) (hS : ∀ b, S b → H b ≠ none) (h0 : ∀ D, H D = none → Pv 0 [] (upd H D (.lst []))) (hz : ∀ i o H', i < n → Pv i o H' → o.length < 100000)
    (hD : ∀ i o H' D l l', H D = none → H' D = some (.lst l) → Pv i o H' → Pv i o (upd H' D (.lst l'))) (hw : ∀ x, wipe ((wipe σ vs).set j (some x)) vs = wipe σ vs)
    (turn : ∀ (i : Nat) H' o, i < n → SameB S H H' → Pv i o H' → TurnI S Pv i tt te ((wipe σ vs).set j (some (.int i))) H' o)
    (q : ∀ p o H', H p = none → SameB S H H' → Pv n o H' → H' p = some (.lst o) → Q (.ref p) H')
    (ht : ∀ R : List V → Hp → Prop, R [.int n] H → ta σ H R) : tLc (iRng1 ta) (gName j) tt te vs σ H Q :=
  ht _ ⟨n, rfl, by omega, by omega, by
    rw [Int.toNat_natCast]
    exact c_walkI S Pv (Y := YFn fun i => .int (0 + (i : Int))) (G := fun _ => True) ⟨fun i _ hi _ => hi, fun _ _ => Nat.le_refl _, fun i H x H' _ _ y => y⟩ hS h0 hz (fun _ _ => True.intro) hD (fun i x H1 H' o hi s p y R k => by
      obtain ⟨e1, e2⟩ := y
      subst e1 e2
      refine k _ (hw _) (SameB.refl _) ?_
      show TurnI S Pv i tt te ((wipe σ vs).set j (some (.int ((0 : Int) + (i : Int))))) H' o
      rw [Int.zero_add]
      exact turn i _ o hi s p) q⟩
end
theorem pi_seqA {X0 X : Cx} {tg e : Expr} {te : TE} (l : Like X0 X) (he : PE X e te) : PI X tg e (iSeq X0.K te) := by
  rw [← l.K]
  exact pi_seq he
section
variable {X0 : Cx} {E : XK} {H : Hp} {Q : VK} {l : Addr}
theorem inV_int (z : Int) : ∀ ss : List Int, inV (.int z) (ss.map V.int) = decide (z ∈ ss)
  | [] => rfl
  | s :: ss => by
    have ih := inV_int z ss
    unfold inV at ih ⊢
    rw [List.map_cons, List.any_cons, ih]
    show ((s == z) || decide (z ∈ ss)) = decide (z ∈ s :: ss)
    by_cases h : z ∈ s :: ss
    · rw [decide_eq_true h]
      rcases List.mem_cons.1 h with e | e
      · rw [e, beq_self_eq_true, Bool.true_or]
      · rw [decide_eq_true e, Bool.or_true]
    · rw [decide_eq_false h, decide_eq_false (fun e => h (List.mem_cons_of_mem _ e)), Bool.or_false]
      exact beq_eq_false_iff_ne.2 fun e => h (by rw [e]; exact List.mem_cons_self ..)
theorem s_in {z : Int} {ss : List Int} (h : SqL X0.K H l (ss.map V.int) ∨ SqT X0.K H l (ss.map V.int)) (q : Q (.bl (decide (z ∈ ss))) H) : ∃ r, OpD X0 E (compareOp .In) r ∧ r (.int z) (.ref l) H Q :=
  ⟨rIn X0.K false, fun X li _ => by rw [← li.K]; exact op_in_seq, l, _, rfl, h, rfl, by rw [List.all_map, List.all_eq_true]; exact fun _ _ => rfl, by
    show Q (.bl (inV (.int z) (ss.map V.int))) H
    rw [inV_int]
    exact q⟩
theorem w_par {i j : Nat} {ta : TA} {D : Ends} {σ : L2.St} (h : ta σ H fun vs H1 => ∃ v w, vs = [v, w] ∧ D.nx ((σ.set i (some v)).set j (some w)) H1) : tPar i j ta D σ H := h
end
section
theorem w_coA {X0 : Cx} {E : XK} {tf : TE} {t : TA} {σ : L2.St} {H : Hp} {Q : VK} (h : tf σ H fun y H1 => ∃ a, y = V.ref a ∧ t σ H1 fun vs H2 => (∃ C dx fs, H2 a = some (.ins C dx fs)) ∧ ∃ r, CaD X0 E (.ref a) r ∧ r vs H2 Q) : tCoA X0 E tf t σ H Q := h
theorem w_cmA {X0 : Cx} {E : XK} {m : Str} {ta : TE} {t : TA} {σ : L2.St} {H : Hp} {Q : VK} (h : ta σ H fun x H1 => ∃ C mc p g k sp, x = .ref C ∧ ClX.CRead X0.K C mc ∧ ClX.CMet X0.K C mc m p g ∧ Fn X0 k g sp ∧ Room k X0.A ∧ t σ H1 fun vs H2 => sp (.ref C :: vs) H2 Q E) : tCmA X0 E m ta t σ H Q := h
end
/-! ### round the table -/
def up (lo : Int) : Nat → List Int
  | 0 => []
  | k + 1 => lo :: up (lo + 1) k
theorem up_snoc : ∀ (k : Nat) (lo : Int), up lo (k + 1) = up lo k ++ [lo + (k : Int)]
  | 0, lo => by show [lo] = [lo + ((0 : Nat) : Int)]; rw [show lo + ((0 : Nat) : Int) = lo by omega]
  | k + 1, lo => by
    show lo :: up (lo + 1) (k + 1) = lo :: (up (lo + 1) k ++ [lo + ((k + 1 : Nat) : Int)])
    rw [up_snoc k (lo + 1), show lo + 1 + (k : Int) = lo + ((k + 1 : Nat) : Int) by omega]
theorem up_mem : ∀ {k : Nat} {lo x : Int}, x ∈ up lo k → lo ≤ x ∧ x < lo + (k : Int)
  | 0, _, _, h => by simp [up] at h
  | k + 1, lo, x, h => by
    rcases List.mem_cons.1 h with e | e
    · rw [e]; omega
    · have := up_mem e
      omega
/-- the place after j steps from m -/
def pl (n : Nat) (m : Int) (j : Nat) : Int := if m + (j : Int) < (n : Int) then m + (j : Int) else m + (j : Int) - (n : Int)
theorem pl_next {n : Nat} {m : Int} {j : Nat} (h0 : 0 ≤ m) (h1 : m < (n : Int)) (hj : j < n) : (pl n m j + 1) % (n : Int) = pl n m (j + 1) := by
  unfold pl
  by_cases a : m + (j : Int) < (n : Int)
  · rw [if_pos a]
    by_cases b : m + ((j + 1 : Nat) : Int) < (n : Int)
    · rw [if_pos b, Int.emod_eq_of_lt (by omega) (by omega)]
      omega
    · rw [if_neg b, show m + (j : Int) + 1 = (n : Int) by omega, Int.emod_self]
      omega
  · rw [if_neg a, if_neg (by omega), Int.emod_eq_of_lt (by omega) (by omega)]
    omega
theorem pl_range {n : Nat} {m : Int} {j : Nat} (h0 : 0 ≤ m) (h1 : m < (n : Int)) (hj : j ≤ n) : 0 ≤ pl n m j ∧ pl n m j < (n : Int) := by
  unfold pl
  split <;> omega
/-- the places of the first j steps -/
def pls (n : Nat) (m : Int) : Nat → List Int
  | 0 => []
  | j + 1 => pls n m j ++ [pl n m (j + 1)]
theorem pls_low {n : Nat} {m : Int} : ∀ {j : Nat}, m + (j : Int) < (n : Int) → pls n m j = up (m + 1) j
  | 0, _ => rfl
  | j + 1, h => by
    rw [up_snoc]
    show pls n m j ++ [pl n m (j + 1)] = _
    rw [pls_low (by omega)]
    unfold pl
    rw [if_pos h, show m + ((j + 1 : Nat) : Int) = m + 1 + (j : Int) by omega]
theorem pls_high {n : Nat} {m : Int} {k : Nat} (hk : m + (k : Int) + 1 = (n : Int)) : ∀ i : Nat, (i : Int) ≤ m + 1 → pls n m (k + i) = up (m + 1) k ++ up 0 i
  | 0, _ => by rw [Nat.add_zero, pls_low (by omega)]; show _ = _ ++ []; rw [List.append_nil]
  | i + 1, h => by
    show pls n m (k + i) ++ [pl n m (k + i + 1)] = _
    rw [pls_high hk i (by omega), up_snoc, List.append_assoc]
    unfold pl
    rw [if_neg (by omega), show m + ((k + i + 1 : Nat) : Int) - (n : Int) = 0 + (i : Int) by omega]
theorem pls_all {n : Nat} {m : Int} (h0 : 0 ≤ m) (h1 : m < (n : Int)) : pls n m n = up (m + 1) (n - 1 - m.toNat) ++ up 0 (m.toNat + 1) := by
  have h := pls_high (n := n) (m := m) (k := n - 1 - m.toNat) (by omega) (m.toNat + 1) (by omega)
  rw [show n - 1 - m.toNat + (m.toNat + 1) = n by omega] at h
  exact h
/-- who is there of the places -/
def hits (n : Nat) (m : Int) (ss : List Int) (j : Nat) : List Int := (pls n m j).filter fun p => decide (p ∈ ss)
theorem hits_next (n : Nat) (m : Int) (ss : List Int) (j : Nat) : hits n m ss (j + 1) = if pl n m (j + 1) ∈ ss then hits n m ss j ++ [pl n m (j + 1)] else hits n m ss j := by
  unfold hits
  show (pls n m j ++ [pl n m (j + 1)]).filter _ = _
  rw [List.filter_append]
  by_cases h : pl n m (j + 1) ∈ ss
  · rw [if_pos h]; simp [List.filter_cons, h]
  · rw [if_neg h]; simp [List.filter_cons, h]
theorem hits_pre (n : Nat) (m : Int) (ss : List Int) (j : Nat) : ∀ i, ∃ r, hits n m ss (j + i) = hits n m ss j ++ r
  | 0 => ⟨[], by rw [List.append_nil]; rfl⟩
  | i + 1 => by
    obtain ⟨r, hr⟩ := hits_pre n m ss j i
    rw [show j + (i + 1) = j + i + 1 from rfl, hits_next, hr]
    split
    · exact ⟨_, List.append_assoc ..⟩
    · exact ⟨r, rfl⟩
end Odd

namespace Odd
open PySem PySem.Spec PyProof.Rows L2
/-! ### x != y by the own == (what the root class's own word does) -/
theorem ne_bind (self : Value) : bindSpecial (.builtin "object.__ne__") self = pure (.builtin "object.__ne__", [self]) :=
  (Slot.of (T := "object") (name := "__ne__") (owner := "object") (n := "__ne__") (by rw [typeLookup_type, builtinLookup_eq_fast]; kernel_rfl) (by decide +kernel) (by decide +kernel) (by decide +kernel)
    (.inl (by decide +kernel)) (by rw [isSubtype_type]; kernel_rfl)).bind self
section
variable {X : Cx} {CX : CXT} {C g : Addr} {n : Nat} {sp : Sp} {E : XK}
theorem own_ne {prog : Program} {w : World} {A : Around} {K : PySem.W.Frag} {x : Addr} {ox : Obj} {od : Option Obj} {y : Value} {Ev : Value → Shared → Prop} {s : Shared} {Q : Option Value → Shared → Prop} (KX : K.In s.heap) (J : PySem.W.InstAt s.heap x ox C od)
    (ne : PySem.W.findIn K (.ref C) "__ne__" = some (some (.builtin "object.__ne__"))) (ob : PySem.W.subIn K (.ref C) (.type "object") = some true) (hs : PySem.W.findIn K (.ref C) "__eq__" = some (some (.ref g))) (hf : PySem.W.isFn K (.ref g) = true) (hu : A.in1.units < cLine)
    (hcall : wpAny (model prog w) A.in1 (call (.ref g) [.ref x, y]) (fun v s' => ∃ b, v = .bool b ∧ Q (some (.bool (!b))) s') Ev s) :
    wpAny (model prog w) A (callSpecialIfBound? (.ref x) "__ne__" [y]) Q Ev s := by
  have body : wpAny (model prog w) A (call (.builtin "object.__ne__") [.ref x, y]) (fun v => Q (some v)) Ev s := by
    have ha := F.cmpArgs_ne (.ref x) y
    refine wpAny_call (codeAny_call_builtin (by decide +kernel) F.cmpEntry_ne ?_)
    simp only [checkBuiltinCall, F.cmpKind_ne, F.cmpSplit_ne]
    refine wpAny_bind ?_
    unfold isInstance
    refine wpAny_bind (J.type.here ((PySem.W.looks_subIn KX ob).here ?_))
    repeat (first
      | with_reducible refine wpAny_cRoomFor hu ?_
      | with_reducible refine wpAny_bind (wpAny_cRoomFor hu ?_)
      | (refine wpAny_bind (m := callSpecialIfBound? (.ref x) (Str.ofString "__eq__") [y]) (PySem.W.ifBound_K KX J hs hf (wpAny_mono hcall (fun v s' hv => by
          obtain ⟨b, rfl, hq⟩ := hv
          repeat (first | exact hq | exact wpAny_pure hq | exact wpAny_truthy_bool hq | (refine wpAny_bind (m := truthy (.bool _)) (wpAny_truthy_bool ?_)) | wp_step)) fun _ _ e => e)))
      | wp_step)
  simp only [callSpecialIfBound?, bindSpecialIfBound?]
  refine wpAny_holding (wpAny_bind (wpAny_bind (wpAny_bind (J.type.here ((PySem.W.looks_findIn KX ne).here ?_)))))
  have back : wpAny (model prog w) A (call (.builtin "object.__ne__") ([.ref x] ++ [y]) >>= fun v => pure (some v)) Q Ev s := wpAny_bind (wpAny_mono body (fun v s' h' => wpAny_pure h') fun _ _ h' => h')
  simp only [ne_bind]
  refine wpAny_bind (wpAny_askSetting (wpAny_ite ?_))
  split
  · exact wpAny_bind (wpAny_pure (wpAny_pure back))
  · exact wpAny_tryCatch (wpAny_bind (wpAny_pure (wpAny_pure back)))
/-- x != y -/
def rNeI (K : PySem.W.Frag) (C : Addr) (sp : Sp) (E : XK) : R2 := fun x y H Q => ∃ a b dx fs t, x = .ref a ∧ y = .ref b ∧ H a = some (.ins C dx fs) ∧ TyX K H y t ∧ PySem.W.notFirst K C t = true ∧ sp [x, y] H (fun z H' => ∃ k, z = .bl k ∧ Q (.bl (!k)) H') E
theorem op_neI (ne : PySem.W.findIn X.K (.ref C) "__ne__" = some (some (.builtin "object.__ne__"))) (ob : PySem.W.subIn X.K (.ref C) (.type "object") = some true) (hs : PySem.W.findIn X.K (.ref C) "__eq__" = some (some (.ref g))) (hf : PySem.W.isFn X.K (.ref g) = true)
    (F : FnR X.prog X.w X.K X.mg X.base CX n g sp) (hr : Room (n + 1) X.A) (hx : Passes CX X E) : OpR X (compareOp .NotEq) (rNeI X.K C sp E) := by
  intro pins s σ H x y v u Q I rx ry h
  obtain ⟨a, b, dx, fs, t, rfl, rfl, ha, ty, hn, q⟩ := h
  cases (show v = Value.ref a from rx)
  cases (show u = Value.ref b from ry)
  obtain ⟨ox, od, J⟩ := inst_at I ha
  obtain ⟨PP, Z, hz, _⟩ := kit_of I ry ty
  have one : wpAny (model X.prog X.w) X.A (tryCompare (.ref a) "__ne__" (.ref b)) (fun r s' => ∃ v, r = some v ∧ EP X pins σ Q v s') X.xe s := by
    unfold tryCompare
    refine wpAny_bind (own_ne I.kIn J ne ob hs hf hr.in1.units0 (wpAny_mono (call_in1 (vs := [.ref a, .ref b]) F hr hx I (.cons rfl (.cons ry .nil)) q) (fun w s' z => ?_) fun _ _ x => x))
    obtain ⟨z', H', I', rz, k, rfl, qz⟩ := z
    cases rz
    exact ⟨k, rfl, wpAny_pure ⟨_, rfl, .bl (!k), H', I', rfl, qz⟩⟩
  show wpAny _ _ (richCompare .NotEq (.ref a) (.ref b)) _ _ s
  unfold richCompare
  simp only [oneThing_ref]
  refine wpAny_holding (wpAny_bind (wpAny_cRoomFor hr.units0 ?_))
  refine wpAny_bind (J.type.here (wpAny_bind ((Z.ty _ _ I.kIn hz).here ?_)))
  split
  · rename_i qq
    have e : PySem.W.subIn X.K t (.ref C) = some false := by
      rcases Bool.or_eq_true_iff.mp hn with e | e
      · rw [beq_iff_eq.mp e] at qq; simp at qq
      · exact beq_iff_eq.mp e
    refine wpAny_bind ((PySem.W.looks_subIn I.kIn e).here ?_)
    simp only [Bool.false_eq_true, if_false]
    refine wpAny_bind (wpAny_mono one (fun r s' z => ?_) fun _ _ e => e)
    obtain ⟨v, rfl, hq⟩ := z
    exact wpAny_pure hq
  · refine wpAny_bind (wpAny_pure ?_)
    simp only [Bool.false_eq_true, if_false]
    refine wpAny_bind (wpAny_mono one (fun r s' z => ?_) fun _ _ e => e)
    obtain ⟨v, rfl, hq⟩ := z
    exact wpAny_pure hq
end
theorem s_neOwn {X0 : Cx} {E : XK} {H : Hp} {Q : VK} {k : Nat} {C g a b dx : Addr} {fs : List (Str × V)} {sp : Sp} {t : Value} (N : OwnNe X0.K C) (ob : PySem.W.subIn X0.K (.ref C) (.type "object") = some true) (M : Meth X0.K C "__eq__" g) (F : Fn X0 k g sp) (hr : Room (k + 1) X0.A) (ha : H a = some (.ins C dx fs)) (ty : TyX X0.K H (.ref b) t) (hn : PySem.W.notFirst X0.K C t = true)
    (q : sp [.ref a, .ref b] H (fun z H' => ∃ k, z = .bl k ∧ Q (.bl (!k)) H') E) : ∃ r, OpD X0 E (compareOp .NotEq) r ∧ r (.ref a) (.ref b) H Q :=
  ⟨rNeI X0.K C sp E, fun X l h => by rw [← l.K]; exact op_neI (by rw [l.K]; exact N.ne) (by rw [l.K]; exact ob) (by rw [l.K]; exact M.at_) (by rw [l.K]; exact M.fn) (l.fn F) (l.room hr) h, a, b, dx, fs, t, rfl, rfl, ha, ty, hn, q⟩
theorem w_cb {r : List V → Hp → VK → Prop} {t : TA} {σ : L2.St} {H : Hp} {Q : VK} (h : t σ H fun vs H1 => r vs H1 Q) : tCB r t σ H Q := h
theorem w_augI {X0 : Cx} {E : XK} {i : Nat} {f : Value → Value → Sem Value} {te : TE} {D : Ends} {σ : L2.St} {H : Hp} {v : V} (hs : σ[i]? = some (some v)) (h : te σ H fun y H1 => ∃ r, OpD X0 E f r ∧ r v y H1 fun z H2 => D.nx (σ.set i (some z)) H2) : tAugA X0 E i f te D σ H := ⟨v, hs, h⟩
end Odd

namespace Odd
open PySem PySem.Spec PyProof.Rows L2
/-! ### e[::s] where s comes to -1 -/
section
variable {X0 X : Cx} {e se : Expr} {te ts : TE} {p3 pos : Pos}
def tRevA (K : PySem.W.Frag) (te ts : TE) : TE := fun σ H Q => te σ H fun x H1 => ∃ a xs, x = .ref a ∧ SqL K H1 a xs ∧ ts σ H1 fun y H2 => ∃ i, y = .int i ∧ some i = some (-1 : Int) ∧ H2 = H1 ∧ ∀ p, H1 p = none → Q (.ref p) (upd H1 p (.lst xs.reverse))
theorem pe_revA (l : Like X0 X) (he : PE X e te) (hse : PE X se ts) : PE X (.Subscript e (.Slice none none (some se) p3) pos) (tRevA X0.K te ts) := by
  refine ⟨fun pins s σ H Q I h => ?_⟩
  refine Subscript_ (thn (he.run pins s σ H _ I h) fun v s1 ⟨x, H1, I1, r1, q1⟩ => ?_)
  obtain ⟨a, xs, ex, hx, q⟩ := q1
  subst ex
  cases r1
  rw [← l.K] at hx
  have hst : PO X (some se) (tPart ts) := po_some hse
  refine wpAny_Slice (thn (po_none.run pins s1 σ H1 (fun o H2 => o = none ∧ H2 = H1) I1 ⟨rfl, rfl⟩) fun vl s2 ⟨l, H2, I2, pl, el, e2⟩ => ?_)
  subst el e2
  refine thn (po_none.run pins s2 σ H2 (fun o H3 => o = none ∧ H3 = H2) I2 ⟨rfl, rfl⟩) fun vu s3 ⟨u, H3, I3, pu, eu, e3⟩ => ?_
  subst eu e3
  refine thn (hst.run pins s3 σ H3 (fun o H4 => o = some (-1) ∧ H4 = H3 ∧ ∀ p, H3 p = none → Q (.ref p) (upd H3 p (.lst xs.reverse))) I3 q) fun vs s4 ⟨o, H4, I4, ps, eo, e4, q⟩ => ?_
  subst eo e4
  have I5 : Inv X pins σ H4 { s4 with heap := s4.heap.push { cls := .type "slice", data := .fields #[vl, vu, vs] } } := I4.kept (t' := s4.toks) fun b ob q => Heap.get?_push_of_some _ q
  obtain ⟨its, r, ht, hz⟩ := I5.list hx
  have hlen := r.length
  show wpAny (model X.prog X.w) X.A (subscriptTail e (.Slice none none (some se) p3) (.ref a) (.ref s4.heap.objs.size)) (EP X pins σ Q) X.xe { s4 with heap := s4.heap.push { cls := .type "slice", data := .fields #[vl, vu, vs] } }
  refine tail_any (ops := [.ref a, .ref s4.heap.objs.size]) ht.isList.typeIs (PySem.slot_list_getitem.lookup) ?_ (by with_unfolding_all rfl)
  refine wpAny_getItem_list_slice ht.isList (Heap.IsSliceOf.new _ vl vu vs) pl pu ps (by decide) ?_ (by rw [List.size_toArray]; omega)
  rw [PySem.W.krv_pick]
  refine ⟨.ref _, _, I5.laid (t' := s4.toks) (o := .lst xs.reverse) (fun b ob q => Heap.get?_push_of_some _ q) (Nat.le_refl _) ?_, rfl, q _ (I5.hok.fresh (Nat.le_refl _))⟩
  exact ⟨by rw [List.length_reverse]; exact hz, _, 0, r.reverse, Heap.get?_push_size _ rfl⟩
theorem w_rev {K : PySem.W.Frag} {σ : L2.St} {H : Hp} {Q : VK} (h : te σ H fun x H1 => ∃ a xs, x = .ref a ∧ SqL K H1 a xs ∧ ts σ H1 fun y H2 => ∃ i, y = .int i ∧ some i = some (-1 : Int) ∧ H2 = H1 ∧ ∀ p, H1 p = none → Q (.ref p) (upd H1 p (.lst xs.reverse))) : tRevA K te ts σ H Q := h
theorem w_par3 {i j l : Nat} {ta : TA} {D : Ends} {σ : L2.St} {H : Hp} (h : ta σ H fun vs H1 => ∃ u v w, vs = [u, v, w] ∧ D.nx (((σ.set i (some u)).set j (some v)).set l (some w)) H1) : tPar3 i j l ta D σ H := h
end
end Odd

namespace Odd
open PySem PySem.Spec PyProof.Rows L2 LamX NdefX
/-! ### a base that also holds what is not tracked now: the maker's cells -/
section
def subB (s : Shared) (H : Hp) (l : List Addr) : Heap := PySem.W.hideAll (hidT s.heap H) l
theorem subB_of {s : Shared} {H : Hp} {l : List Addr} {b : Addr} {o : Obj} (e : (subB s H l).get? b = some o) : s.heap.get? b = some o ∧ H b = none ∧ b ∉ l :=
  ⟨(of_hidT (PySem.W.of_hideAll l e)).1, (of_hidT (PySem.W.of_hideAll l e)).2, fun z => by
    have q : (subB s H l).get? b = none := PySem.W.hideAll_none l z
    rw [q] at e
    cases e⟩
theorem subB_get {s : Shared} {H : Hp} {l : List Addr} {b : Addr} {o : Obj} (e : s.heap.get? b = some o) (n : H b = none) (hl : b ∉ l) : (subB s H l).get? b = some o := PySem.W.hideAll_get l (hidT_get e n) hl
theorem subB_none {s : Shared} {H : Hp} {l : List Addr} {b : Addr} (hl : b ∈ l) : (subB s H l).get? b = none := PySem.W.hideAll_none l hl
theorem subB_size (s : Shared) (H : Hp) (l : List Addr) : (subB s H l).objs.size = s.heap.objs.size := by
  unfold subB
  rw [PySem.W.hideAll_size, hidT_size]
theorem mod_up {K : PySem.W.Frag} {mg : Str → Option Value} {B B' : Heap} (m : Mod K mg B) (k : ∀ b o, B.get? b = some o → B'.get? b = some o) : Mod K mg B' :=
  ⟨m.kin.keeps k, m.glob.keeps k, let ⟨mb, h1, h2⟩ := m.blt; ⟨mb, h1.keeps k, h2⟩, m.nolimit.keeps k⟩
theorem frames_base {h B B' : Heap} : ∀ {l : List Env}, h.FunFrames B l → (∀ b ∈ frs l, B'.get? b = none) → h.FunFrames B' l
  | [], _, _ => True.intro
  | e :: l, ⟨h1, ⟨L, o, e1, e2, e3, e4⟩, h3⟩, n => by
    have hL : L ∈ frs (e :: l) := List.mem_filterMap.mpr ⟨e, List.mem_cons_self, e1⟩
    exact ⟨h1, ⟨L, o, e1, n L hL, e3, e4⟩, frames_base h3 fun b hb => n b (by
      obtain ⟨x, hx, q⟩ := List.mem_filterMap.mp hb
      exact List.mem_filterMap.mpr ⟨x, List.mem_cons_of_mem _ hx, q⟩)⟩
variable {X : Cx} {pins : List (Addr × Obj)} {σ : L2.St} {H : Hp} {s : Shared}
theorem base_sub (I : Inv X pins σ H s) {l : List Addr} (hl : ∀ b o, X.base.get? b = some o → b ∉ l) : ∀ b o, X.base.get? b = some o → (subB s H l).get? b = some o := fun b o e => subB_get (I.bs b o e).1 (I.bs b o e).2 (hl b o e)
theorem base_nofr (I : Inv X pins σ H s) : ∀ b o, X.base.get? b = some o → b ∉ frs X.stack := fun b o e z => by
  have q := (I.stack.mem z).1
  rw [e] at q
  cases q
theorem env0_sub (I : Inv X pins σ H s) : Env0 X.prog X.w X.K X.mg (subB s H (frs X.stack)) X.A X.stack s H :=
  ⟨I.ok.frames, mod_up I.ok.mod (base_sub I (base_nofr I)), fun b o e => ⟨(subB_of e).1, (subB_of e).2.1⟩, Nat.le_of_eq (subB_size ..), frames_base I.stack fun b hb => subB_none hb, I.stkFree, I.hok, I.bare⟩
/-- what the captured names hold, in a base -/
def CellsB (X : Cx) (σ : L2.St) (B : Heap) : Prop :=
  (∀ y c, X.env.cells.lookup y = some c → ∃ v, B.IsCell c v) ∧ (∀ x y c, X.env.cells.lookup x = some c → X.env.cells.lookup y = some c → x = y) ∧
    (∀ (i : Nat) (y : Str) (v : V), X.N[i]? = some y → σ[i]? = some (some v) → (X.env.scope.names.lookup y = some .cell) → ∃ c u, X.env.cells.lookup y = some c ∧ RelV v u ∧ B.IsCell c (some u)) ∧ ∀ y, X.env.scope.names.lookup y = some .cell → ∃ c, X.env.cells.lookup y = some c
theorem cells_sub (I : Inv X pins σ H s) {l : List Addr} (hl : ∀ y c, X.env.cells.lookup y = some c → c ∉ l) : CellsB X σ (subB s H l) := by
  have up : ∀ {y : Str} {c : Addr} {v : Option Value}, X.env.cells.lookup y = some c → s.heap.IsCell c v → (subB s H l).IsCell c v := fun {y c v} e ⟨o, ho, hd⟩ => ⟨o, subB_get ho (I.freeC y c e) (hl y c e), hd⟩
  refine ⟨fun y c e => ?_, I.ok.inj, fun i y v e1 e2 e3 => ?_, fun y k => I.ok.has _ (.inl k)⟩
  · obtain ⟨v, z⟩ := I.cell y c e
    exact ⟨v, up e z⟩
  · obtain ⟨m, hn, look⟩ := I.loc
    obtain ⟨u, r, q⟩ := look i y v e1 e2 (.inr (.inl e3))
    rcases q with ⟨k, _⟩ | ⟨_, c, e, z⟩
    · have k : X.env.scope.names.lookup y = some .local := k
      rw [e3] at k
      cases k
    · exact ⟨c, u, e, r, up e z⟩
theorem cells_nofr (I : Inv X pins σ H s) (hfn : ∀ x, X.fn x = true) : ∀ y c, X.env.cells.lookup y = some c → c ∉ frs X.stack := fun y c e z => by
  obtain ⟨v, o, ho, hd⟩ := I.cell y c e
  rcases List.mem_cons.mp (I.stkSub c z) with q | q
  · exact I.cne y c e q
  · obtain ⟨_, o', ho', _⟩ := I.ok.funs.mem q
    exact absurd (Nat.lt_of_lt_of_le (Heap.lt_size ho') (I.ok.cab y c (hfn y) e)) (Nat.lt_irrefl _)
end
/-! ### lambdas: made -/
section
/-- the object at f is the lambda of these words, its defaults at dV -/
def LamO (f : Addr) (F : NF) (bd : Expr) (dV : Value) : HO := .ext fun h => ∃ (od : Option Addr) (sl : Array (Option Value)) (doc pm ctv : Value), h.get? f = some (⟨.type "function", od, .func (PySem.W.kdv_fn F.name F.qual F.params (.expr bd) F.scope F.cl dV doc pm (.ref F.c) ctv), sl⟩ : Obj)
theorem lamO_ne {f : Addr} {F : NF} {bd : Expr} {dV : Value} (ps : Array Value) : LamO f F bd dV ≠ .tbl ps := fun z => by
  unfold LamO at z
  cases z
theorem lamO_at {P : Program} {w : World} {H : Hp} {h : Heap} {f : Addr} {F : NF} {bd : Expr} {dV : Value} (hok : HOk P w H h) (e : H f = some (LamO f F bd dV)) :
    ∃ (od : Option Addr) (sl : Array (Option Value)) (doc pm ctv : Value), h.get? f = some (⟨.type "function", od, .func (PySem.W.kdv_fn F.name F.qual F.params (.expr bd) F.scope F.cl dV doc pm (.ref F.c) ctv), sl⟩ : Obj) := (hok f _ e).1
variable {X : Cx} {pins : List (Addr × Obj)} {σ : L2.St} {H : Hp} {s : Shared}
theorem inv_lam {F : NF} {bd : Expr} {dV : Value} {o : Obj} {t' : Nat} {doc pm ctv : Value} (I : Inv X pins σ H s) (ho : o = { cls := .type "function", data := .func (PySem.W.kdv_fn F.name F.qual F.params (.expr bd) F.scope F.cl dV doc pm (.ref F.c) ctv) }) :
    Inv X pins σ (upd H s.heap.objs.size (LamO s.heap.objs.size F bd dV)) { s with heap := s.heap.push o, toks := t' } := by
  subst ho
  have here : (s.heap.push ({ cls := .type "function", data := .func (PySem.W.kdv_fn F.name F.qual F.params (.expr bd) F.scope F.cl dV doc pm (.ref F.c) ctv) } : Obj)).get? s.heap.objs.size = some _ := Heap.get?_push_size _ rfl
  exact I.laid (a := s.heap.objs.size) (fun b u e => Heap.get?_push_of_some _ e) (Nat.le_refl _) ⟨⟨_, _, doc, pm, ctv, here⟩, ⟨_, here⟩, fun h1 h2 ⟨d1, d2, d3, d4, d5, d6⟩ st => ⟨d1, d2, d3, d4, d5, st _ d6⟩⟩
/-- the words of a lambda that X's code makes -/
def lamNF (X : Cx) (params : Arguments) (scope : Scope) (c' : Addr) : NF := ⟨"<lambda>", X.env.qual ++ "<lambda>", params, [], scope, cloFrom X.env.cells scope.names [], c'⟩
/-- the end of the making: the code object is new, or it stands in the table -/
theorem lam_tail {T : List (Addr × Str)} {c P : Addr} {params : Arguments} {bd : Expr} {scope : Scope} {pos : Pos} {dV : Value} {E Q : Value → Shared → Prop} (I : Inv X pins σ H s) (TB : TabB X.base X.mg c P) (hcode : X.env.code = .ref c)
    (hin : (P, X.env.qual ++ "<lambda>") ∈ T) (hone : ∀ p ∈ T, p.1 = P → p.2 = X.env.qual ++ "<lambda>") (hT : Tabs T H) (hfree : ∀ y ∈ scope.names, y.2 = .free → ∃ c, X.env.cells.lookup y.1 = some c)
    (k : ∀ (f c' : Addr) (H1 : Hp) (s' : Shared), Inv X pins σ H1 s' → ExtN H H1 → (∀ b, H1 b = Option.none → H b = Option.none) → Tabs T H1 → H f = none → H1 f = some (LamO f (lamNF X params scope c') bd dV) → H1 c' = some (CodeO c' (X.env.qual ++ "<lambda>")) → Q (.ref f) s') :
    wpAny (model X.prog X.w) X.A (makeTail "<lambda>" (X.env.qual ++ "<lambda>") params (.expr bd) scope X.env dV .none none pos pos.line) Q E s := by
  obtain ⟨ps, tabP, tri, among⟩ := hT _ hin
  have bltP : s.heap.BuiltinsAt X.mg P := TB.bm.keeps I.bk
  have heapP : s.heap.get? P = some { cls := .none, data := .fields ps } := I.hok P _ tabP
  cases found : codeAmong pos ps.toList with
  | some cv =>
    obtain ⟨c', rfl, known⟩ := among pos cv found
    refine PySem.W.kdv_makeTailHit (mg := X.mg) (c := c) (P := P) (ps := ps) (closure_ok hfree) I.ok.glob (I.mod.glob.keeps I.bk) hcode (TB.code.keeps I.bk) heapP tri found bltP fun ctv doc h' tk up _ => ?_
    have I1 : Inv X pins σ H { s with heap := h', toks := tk } := I.kept up
    have fresh : H h'.objs.size = none := I1.hok.fresh (Nat.le_refl _)
    have I2 := inv_lam (F := lamNF X params scope c') (bd := bd) (dV := dV) (t' := tk) (doc := doc) (pm := (X.mg "__name__").getD .none) (ctv := ctv) I1 rfl
    exact k h'.objs.size c' _ _ I2 (fun b o e _ => (upd_ne (ne_of_none e fresh)).trans e) (fun b e => upd_none e) (hT.ext fun b o e => (upd_ne (ne_of_none e fresh)).trans e) fresh upd_same ((upd_ne (ne_of_none known fresh)).trans known)
  | none =>
    refine PySem.W.kdv_makeTail (mg := X.mg) (c := c) (P := P) (ps := ps) (closure_ok hfree) I.ok.glob (I.mod.glob.keeps I.bk) hcode (TB.code.keeps I.bk) heapP tri found TB.gP bltP fun c' ctv doc h' tk but ge lt rec tabP' => ?_
    obtain ⟨c2, oc, vs, t, e2, r1, r2, r3⟩ := rec
    cases e2
    have newC : H c' = none := I.hok.fresh ge
    have I1 := inv_table (t' := tk) (more := #[rawInt pos.line, rawInt pos.col, .ref c']) (h' := h') I tabP (fun b o hb e => but b o hb e) tabP' ge ⟨oc, vs, t, r1, r2, r3⟩
    generalize hG : upd (upd H P (.tbl (ps ++ #[rawInt pos.line, rawInt pos.col, .ref c']))) c' (CodeO c' (X.env.qual ++ "<lambda>")) = G at I1
    have gC : G c' = some (CodeO c' (X.env.qual ++ "<lambda>")) := by rw [← hG]; exact upd_same
    have gP : G P = some (.tbl (ps ++ #[rawInt pos.line, rawInt pos.col, .ref c'])) := by rw [← hG, upd_ne (ne_of_none tabP newC)]; exact upd_same
    have gO : ∀ b o, b ≠ P → H b = some o → G b = some o := fun b o nb e => by rw [← hG, upd_ne (ne_of_none e newC), upd_ne nb]; exact e
    have ext : ExtN H G := fun b o e n => gO b o (fun z => n ps (Option.some.inj (e.symm.trans (by rw [z]; exact tabP)))) e
    have tabs : Tabs T G := fun p hp => by
      by_cases hb : p.1 = P
      · rw [hone p hp hb, hb]
        refine ⟨_, gP, ?_, fun p' cv hcv => ?_⟩
        · rw [Array.toList_append]
          exact PySem.TriplesOk_snoc _ _ _ _ tri
        · rw [Array.toList_append] at hcv
          rcases among_app _ tri hcv with z | z
          · obtain ⟨c0, q1, q2⟩ := among p' cv z
            exact ⟨c0, q1, ext _ _ q2 codeO_ne⟩
          · exact ⟨c', z, gC⟩
      · obtain ⟨ps', q1, q2, q3⟩ := hT p hp
        exact ⟨ps', gO _ _ hb q1, q2, fun p' cv hcv => let ⟨c0, w1, w2⟩ := q3 p' cv hcv; ⟨c0, w1, ext _ _ w2 codeO_ne⟩⟩
    have fresh : G h'.objs.size = none := I1.hok.fresh (Nat.le_refl _)
    have I2 := inv_lam (F := lamNF X params scope c') (bd := bd) (dV := dV) (t' := tk) (doc := doc) (pm := (X.mg "__name__").getD .none) (ctv := ctv) I1 rfl
    have up : ∀ b o, G b = some o → upd G h'.objs.size (LamO h'.objs.size (lamNF X params scope c') bd dV) b = some o := fun b o e => (upd_ne (ne_of_none e fresh)).trans e
    exact k h'.objs.size c' _ _ I2 (fun b o e n => up _ _ (ext b o e n)) (fun b e => by
      have z := upd_none e
      rw [← hG] at z
      exact upd_none (upd_none z)) (tabs.ext up) (I.hok.fresh (Nat.le_trans ge (Nat.le_of_lt lt))) upd_same (up _ _ gC)
/-- what a lambda's making asks: tables, then the new function -/
def tLam0 (T : List (Addr × Str)) (mk : Addr → NF) (bd : Expr) : TE := fun _ H Q => Tabs T H ∧ ∀ (f c' : Addr) (H1 : Hp), ExtN H H1 → (∀ b, H1 b = Option.none → H b = Option.none) → Tabs T H1 → H f = none → H1 f = some (LamO f (mk c') bd .none) → H1 c' = some (CodeO c' (mk c').qual) → Q (.ref f) H1
theorem pe_lam0 {T : List (Addr × Str)} {c P : Addr} {bd : Expr} {params : Arguments} {scope : Scope} {pos : Pos} (TB : TabB X.base X.mg c P) (hcode : X.env.code = .ref c) (hin : (P, X.env.qual ++ "<lambda>") ∈ T)
    (hone : ∀ p ∈ T, p.1 = P → p.2 = X.env.qual ++ "<lambda>") (L : LamS X.env.scope scope) (hd : params.defaults = []) (hk : params.kw_defaults = []) : PE X (.Lambda params bd scope pos) (tLam0 T (lamNF X params scope) bd) := by
  refine ⟨fun pins s σ H Q I h => ?_⟩
  obtain ⟨tab, go⟩ := h
  refine PySem.W.kla_eval (by rw [defaultsOf_eq, hd, hk]; rfl) ?_
  rw [makeFunction_eq]
  simp only [pure_bind, if_true, List.isEmpty_nil, List.filterMap_nil, List.zip_nil_right]
  exact lam_tail I TB hcode hin hone tab (L.has I.ok) fun f c' H1 s' I1 e1 e2 e3 e4 e5 e6 => ⟨.ref f, H1, I1, rfl, go f c' H1 e1 e2 e3 e4 e5 e6⟩
/-- one default, an int -/
def tLam1 (T : List (Addr × Str)) (mk : Addr → NF) (bd : Expr) (n : Int) : TE := fun _ H Q => Tabs T H ∧ ∀ (f c' t : Addr) (H1 : Hp), ExtN H H1 → (∀ b, H1 b = Option.none → H b = Option.none) → Tabs T H1 → H f = none → H1 f = some (LamO f (mk c') bd (.ref t)) → H1 c' = some (CodeO c' (mk c').qual) → H1 t = some (.tup [.int n]) → Q (.ref f) H1
theorem pe_lam1 {T : List (Addr × Str)} {c P : Addr} {bd : Expr} {params : Arguments} {scope : Scope} {pos pn : Pos} {n : Int} {j : Nat} (TB : TabB X.base X.mg c P) (hcode : X.env.code = .ref c) (hin : (P, X.env.qual ++ "<lambda>") ∈ T)
    (hone : ∀ p ∈ T, p.1 = P → p.2 = X.env.qual ++ "<lambda>") (L : LamS X.env.scope { scope with names := scope.names.filter fun y => y.2 != .local }) (hd : params.defaults = [.Constant (.int n) j pn]) (hk : params.kw_defaults = []) : PE X (.Lambda params bd scope pos) (tLam1 T (lamNF X params scope) bd n) := by
  refine ⟨fun pins s σ H Q I h => ?_⟩
  obtain ⟨tab, go⟩ := h
  refine PySem.W.kdv_lam (by rw [hd]; rfl) hk ?_
  rw [hd]
  refine PySem.W.kdv_all1 (thn (pe_int.run pins s σ H (fun v H' => v = .int n ∧ H' = H) I ⟨rfl, rfl⟩) fun u s1 ⟨v, H', I1, r1, e1, e2⟩ => PySem.W.kdv_all0 ?_)
  subst e1 e2
  rw [makeFunction_eq]
  simp only [pure_bind, if_true, List.isEmpty_nil, List.isEmpty_cons, Bool.false_eq_true, if_false, List.filterMap_nil, List.zip_nil_right]
  refine wpAny_bind (wpAny_newTextTuple ?_)
  have I2 : Inv X pins σ (upd H' s1.heap.objs.size (.tup [.int n])) { s1 with heap := s1.heap.push { cls := .type "tuple", data := .seq [u].toArray } } := by
    refine I1.laid (t' := s1.toks) (fun b o e => Heap.get?_push_of_some _ e) (Nat.le_refl _) ?_
    exact ⟨by show 1 ≤ sizeLine; decide, [u], .cons r1 .nil, _, Heap.get?_push_size _ rfl, rfl, _, rfl⟩
  have fresh : H' s1.heap.objs.size = none := I1.hok.fresh (Nat.le_refl _)
  have up : ∀ b o, H' b = some o → upd H' s1.heap.objs.size (.tup [.int n]) b = some o := fun b o e => (upd_ne (ne_of_none e fresh)).trans e
  refine lam_tail I2 TB hcode hin hone (tab.ext up) (fun y hy e => L.has I2.ok y (List.mem_filter.2 ⟨hy, by rw [e]; rfl⟩) e) fun f c' H1 s' I3 e1 e2 e3 e4 e5 e6 => ⟨.ref f, H1, I3, rfl, go f c' s1.heap.objs.size H1 (fun b o e nt => e1 b o (up _ _ e) nt) (fun b e => upd_none (e2 b e)) e3 (upd_none e4) e5 e6 ?_⟩
  exact e1 _ _ upd_same (fun ps z => by cases z)
end
end Odd

namespace Odd
open PySem PySem.Spec PyProof.Rows L2 LamX NdefX
/-! ### lambdas: called -/
/-- f called without arguments, at the heap H -/
def CallAt (P : Program) (w : World) (K : PySem.W.Frag) (mg : Str → Option Value) (base : Heap) (k : Nat) (f : Addr) (H : Hp) (Q : VK) (E : XK) : Prop :=
  ∀ (A : Around) (outer : List Env) (s : Shared), Room k A → Env0 P w K mg base A outer s H → codeAny (model P w) A (.call (.ref f) ⟨[], []⟩) (CR (L2.CX P w) outer P w H s Q E) s
/-- what the captured cells hold, in a base -/
structure CellsL (cl : List (Str × Addr)) (fr : List Str) (ws : List (Option V)) (B : Heap) : Prop where
  len : ws.length = fr.length
  all : ∀ y c, cl.lookup y = some c → ∃ v, B.IsCell c v
  inj : ∀ x y c, cl.lookup x = some c → cl.lookup y = some c → x = y
  has : ∀ (i : Nat) (y : Str), fr[i]? = some y → ∃ c, cl.lookup y = some c ∧ ∀ v, ws[i]? = some (some v) → ∃ u, RelV v u ∧ B.IsCell c (some u)
section
variable {P : Program} {w : World} {K : PySem.W.Frag} {mg : Str → Option Value} {base : Heap} {N ps fr : List Str} {F : NF} {f : Addr} {H : Hp} {Q : VK} {E : XK} {k : Nat} {bd : Expr} {dV : Value} {vs : List V} {ws : List (Option V)}
theorem CellsL.at {A : Around} {outer : List Env} {s : Shared} (C : CellsL F.cl fr ws base) (e0 : Env0 P w K mg base A outer s H) : CellsAt F.cl fr ws s.heap H where
  len := C.len
  all := fun y c e => by
    obtain ⟨v, o, ho, hd⟩ := C.all y c e
    exact ⟨(e0.bs c o ho).2, v, o, (e0.bs c o ho).1, hd⟩
  inj := C.inj
  has := fun i y e => by
    obtain ⟨c, hc, hv⟩ := C.has i y e
    refine ⟨c, hc, fun v ev => ?_⟩
    obtain ⟨u, ru, o, ho, hd⟩ := hv v ev
    exact ⟨u, ru, o, (e0.bs c o ho).1, hd⟩
theorem pas_lam {A : Around} {outer : List Env} {s : Shared} : Pas (ncx (L2.CX P w) P w K mg base N F f A outer s H E) E :=
  passes_call (takes_of rfl rfl rfl rfl : Takes (ncx (L2.CX P w) P w K mg base N F f A outer s H E) (fun cls d _ H => E cls d H)) fun _ _ _ _ h => h
/-- a lambda by its body -/
theorem lam_callAt (S : NScope N ps fr F.scope) (hf : H f = some (LamO f F bd dV)) (hc : H F.c = some (CodeO F.c F.qual)) (hl : vs.length = ps.length) (C : CellsL F.cl fr ws base)
    (hb : ∀ (s : Shared) (doc pm ctv : Value), HOk P w H s.heap → ∃ us, Vals vs us ∧ BindsTo s (PySem.W.kdv_fn F.name F.qual F.params (.expr bd) F.scope F.cl dV doc pm (.ref F.c) ctv) ⟨[], []⟩ (ps.zip us))
    (hbody : ∀ (A : Around) (outer : List Env) (s : Shared), Room k (A.deeper (envF F f s.heap.objs.size)) → ∃ tb, PE (ncx (L2.CX P w) P w K mg base N F f A outer s H E) bd tb ∧ tb (startF N vs ws) H Q) : CallAt P w K mg base (k + 1) f H Q E := by
  intro A outer s hr e0
  have lim : s.heap.NoLimit := e0.mod.nolimit.keeps fun b o e => (e0.bs b o e).1
  obtain ⟨od, sl, doc, pm, ctv, ho⟩ := lamO_at e0.hok hf
  obtain ⟨us, rv, bind⟩ := hb s doc pm ctv e0.hok
  refine PySem.W.kla_callFunE hr.depth ho rfl S.co S.gen rfl (codeO_at e0.hok hc) (bind _ _ _ _ ?_)
  refine wpAny_newFunctionEnv S.nocell (fun ⟨n, _⟩ hy => S.par n (List.of_mem_zip hy).1) (fun h₁ hns hsb => ⟨lim.fresh _ hsb, ?_⟩) S.kind
  show codeAny _ _ (.expr bd (envF F f s.heap.objs.size)) _ _
  have up : ∀ b o, s.heap.get? b = some o → h₁.get? b = some o := fun b o e => hsb.extBut b o (Nat.ne_of_lt (Heap.lt_size e)) (Heap.get?_push_of_some _ e)
  obtain ⟨tb, pe, q⟩ := hbody A outer s (hr.deeper _)
  have I : Inv (ncx (L2.CX P w) P w K mg base N F f A outer s H E) [] (startF N vs ws) H { s with heap := h₁, toks := s.toks + (ps.zip us).length } := inv_startN S hr.hd e0 hl rv (C.at e0) hns up
  refine PySem.W.kla_codeExpr (wpAny_mono (pe.run [] _ (startF N vs ws) H Q I q) (fun u s' z => ?_) fun e s' z => z)
  obtain ⟨v, H', J, r, qq⟩ := z
  exact ⟨v, H', J.os, J.bare, J.base, J.hok, r, qq⟩
/-- no parameter -/
theorem lam_bind0 {qual : Str} {params : Arguments} {scope : Scope} {cl : List (Str × Addr)} {doc pm cv ctv : Value} {s : Shared} (h : bindArgs (PySem.W.kdv_fn "<lambda>" qual params (.expr bd) scope cl .none doc pm cv ctv) ⟨[], []⟩ = pure []) :
    ∃ us, Vals ([] : List V) us ∧ BindsTo s (PySem.W.kdv_fn "<lambda>" qual params (.expr bd) scope cl .none doc pm cv ctv) ⟨[], []⟩ (([] : List Str).zip us) := ⟨[], .nil, .of_eq h⟩
/-- one parameter, with a default -/
theorem lam_bind1 {qual x : Str} {n : Int} {t : Addr} {params : Arguments} {scope : Scope} {cl : List (Str × Addr)} {doc pm cv ctv : Value} {s : Shared} {kk : Option (Array Value) → Sem (List (Str × Value))} (hok : HOk P w H s.heap) (ht : H t = some (.tup [.int n]))
    (h1 : bindArgs (PySem.W.kdv_fn "<lambda>" qual params (.expr bd) scope cl (.ref t) doc pm cv ctv) ⟨[], []⟩ = seqItems? (.ref t) >>= kk) (h2 : ∀ u : Value, kk (some #[u]) = pure [(x, u)]) :
    ∃ us, Vals [V.int n] us ∧ BindsTo s (PySem.W.kdv_fn "<lambda>" qual params (.expr bd) scope cl (.ref t) doc pm cv ctv) ⟨[], []⟩ ([x].zip us) := by
  obtain ⟨_, its, rv, o, ho, hcl, m, hd⟩ := hok t _ ht
  obtain ⟨u, rfl, ru⟩ := vals1 rv
  refine ⟨[u], .cons ru .nil, ?_⟩
  obtain ⟨oc, od, dd, sl⟩ := o
  cases hd
  exact BindsTo.of_defaults (T := t) rfl ho rfl h1 (h2 u)
end
/-- x(), x a local that holds a lambda -/
def tAct (X : Cx) (i k : Nat) (W : WX) : TE := fun σ H Q => ∃ (f : Addr) (F : NF) (bd : Expr) (dV : Value) (Ef : XK), σ[i]? = some (some (.ref f)) ∧ H f = some (LamO f F bd dV) ∧ CallAt X.prog X.w X.K X.mg X.base k f H Q Ef ∧ (∀ cls d (σ' : L2.St) H', Ef cls d H' → W cls d σ' H') ∧ Room k X.A
theorem pe_act {X0 X : Cx} {a : Str} {i k : Nat} {W : WX} {p1 p2 : Pos} (l : Like X0 X) (tk : Takes X W) (hN : X.N[i]? = some a) (hv : Vis X.env.scope a) (hd : (a == ("__debug__" : Str)) = false := by decide) (hcd : (a == ("__classdict__" : Str)) = false := by decide) :
    PE X (.Call (.Name a p1) [] [] p2) (tAct X0 i k W) := by
  refine ⟨fun pins s σ H Q I h => ?_⟩
  obtain ⟨f, F, bd, dV, Ef, hs, hf, hc, hW, hr⟩ := h
  rw [← l.prog, ← l.w, ← l.K, ← l.mg, ← l.base] at hc
  rw [← l.A] at hr
  refine wpAny_Call_Name_kw (thn ((pe_var (pos := p1) (i := i) hN hv hd hcd).run pins s σ H (fun v H1 => v = .ref f ∧ H1 = H) I ⟨.ref f, hs, rfl, rfl⟩) fun u s1 ⟨v, H1, I1, r1, ev, eH⟩ => ?_)
  subst ev eH
  obtain rfl : u = Value.ref f := r1
  obtain ⟨od, sl, doc, pm, ctv, ho⟩ := lamO_at I1.hok hf
  refine PySem.W.callWith_F0 ⟨_, _, _, _, ho⟩ (wpAny_call (codeAny_mono (hc X.A X.stack s1 hr I1.env0) fun r s' hq => ?_))
  have thrown : Passes (L2.CX X.prog X.w) X Ef := passes_call tk fun cls d σ' H' e => hW cls d σ' H' e
  match r, hq with
  | .error e, hq => exact thrown pins σ H1 s1 e s' I1 hq
  | .ok (.ret u), hq => exact I1.after hq
/-- what stands at a slot -/
def slV (σ : L2.St) (j : Nat) : Option V := (σ[j]?).join
theorem slV_at {σ : L2.St} {j : Nat} {v : V} (h : slV σ j = some v) : σ[j]? = some (some v) := by
  unfold slV at h
  cases e : σ[j]? with
  | none => rw [e] at h; cases h
  | some o => rw [e] at h; cases o with
    | none => cases h
    | some u => cases h; rfl
theorem cells_of {X : Cx} {σ : L2.St} {B : Heap} {scope : Scope} {fr : List Str} {js : List Nat} (C : CellsB X σ B) (hfr0 : ∀ y ∈ scope.names, y.2 = .free → X.env.scope.names.lookup y.1 = some .cell)
    (hin : ∀ y ∈ fr, (y, NameKind.free) ∈ scope.names) (hj : js.map (fun j => X.N[j]?) = fr.map some) : CellsL (cloFrom X.env.cells scope.names []) fr (js.map (slV σ)) B := by
  have hfr : ∀ y ∈ scope.names, y.2 = .free → X.env.scope.names.lookup y.1 = some .cell ∧ ∃ c, X.env.cells.lookup y.1 = some c := fun y hy e => ⟨hfr0 y hy e, C.2.2.2 y.1 (hfr0 y hy e)⟩
  have cm : ∀ {y c}, (cloFrom X.env.cells scope.names []).lookup y = some c → X.env.cells.lookup y = some c := fun {y c} e => by
    rcases cloFrom_mem (PySem.mem_of_lookup e) with z | ⟨z, q⟩
    · cases z
    · obtain ⟨_, c1, q1⟩ := hfr _ z rfl
      have q1 : X.env.cells.lookup y = some c1 := q1
      rw [q1] at q
      have q : c = c1 := q
      rw [q]
      exact q1
  have len : js.length = fr.length := by
    have := congrArg List.length hj
    rwa [List.length_map, List.length_map] at this
  refine ⟨by rw [List.length_map]; exact len, fun y c e => C.1 y c (cm e), fun x y c e1 e2 => C.2.1 x y c (cm e1) (cm e2), fun i y e => ?_⟩
  have hy := List.mem_of_getElem? e
  obtain ⟨c, hc⟩ := mem_lookup (cloFrom_has (cells := X.env.cells) (acc := []) (hin y hy))
  refine ⟨c, hc, fun v ev => ?_⟩
  rw [List.getElem?_map] at ev
  cases ej : js[i]? with
  | none => rw [ej] at ev; cases ev
  | some j =>
    rw [ej] at ev
    have sv := slV_at (Option.some.inj ev)
    have nj : X.N[j]? = some y := by
      have z := congrArg (fun l => l[i]?) hj
      simp only [List.getElem?_map, ej, e, Option.map_some] at z
      exact Option.some.inj z
    obtain ⟨c2, u, e2, ru, ce⟩ := C.2.2.1 j y v nj sv (hfr _ (hin y hy) rfl).1
    have e3 := cm hc
    rw [e2] at e3
    cases e3
    exact ⟨u, ru, ce⟩
end Odd

namespace Odd
open PySem PySem.Spec PyProof.Rows L2 LamX NdefX
/-! ### a comprehension whose elements call lambdas of the maker -/
section
variable {X : Cx}
/-- its block, over a base that holds the maker's cells -/
abbrev blkB (X : Cx) (s : Shared) (H : Hp) (scope : Scope) (cenv : Env) (fp : List Addr) (B : Heap) : Cx := { X.blk s H scope cenv fp with base := B }
theorem rebase {s s' : Shared} {H H' : Hp} {scope : Scope} {cenv : Env} {fp : List Addr} {B : Heap} {pins : List (Addr × Obj)} {σ : L2.St} (I : Inv (X.blk s H scope cenv fp) pins σ H' s') (m : Mod X.K X.mg B) (b1 : ∀ b o, B.get? b = some o → s.heap.get? b = some o ∧ H b = none)
    (b2 : B.objs.size ≤ s.heap.objs.size) (b3 : ∀ b o, B.get? b = some o → b ∉ fp) (b4 : s.heap.FunFrames B X.stack) : Inv (blkB X s H scope cenv fp B) pins σ H' s' :=
  ⟨⟨m, I.ok.kind, I.ok.glob, I.ok.blt, I.ok.above, I.ok.inj, I.ok.has, I.ok.cab, I.ok.hd, I.ok.frames, I.ok.stk, I.ok.exf, b1, b2, b3, I.ok.exfs, b4, I.ok.frf⟩, I.os, I.bare, I.base, I.loc, I.cell, I.free, I.freeC, I.pin, I.hok, I.len⟩
def tLcB (X : Cx) (wi : TI) (g : TG) (te : Heap → TE) (vs : List Nat) : TE := fun σ H Q => wi σ H fun J H1 => ∀ B, CellsB X σ B → ∀ D, H1 D = none → ∃ W : Nat → Nat → Hp → Prop, (∃ m, W 0 m (upd H1 D (.lst []))) ∧ ∀ i m H, W i m H →
  (J.stop i H ∧ Q (.ref D) H) ∨ (J.go i H ∧ ∃ Nx : Hp → Prop, (∀ H', Nx H' → ∃ m', m' < m ∧ W (i + 1) m' H') ∧ ∀ x H', J.yld i H x H' → g x (wipe σ vs) H' fun σ2 H2 => wipe σ2 vs = wipe σ vs ∧ tYes σ2 H2 fun b H3 =>
    if b = true then te B σ2 H3 fun y H4 => ∃ acc, H4 D = some (.lst acc) ∧ acc.length < sizeLine ∧ Nx (upd H4 D (.lst (acc ++ [y]))) else Nx H3)
theorem pe_lcB {elt tg iter : Expr} {scope : Scope} {own : List (Str × Nat)} {pos : Pos} {wi : TI} {g : TG} {te : Heap → TE} (calm : X.calm = true) (hfn : ∀ x, X.fn x = true) (nd : X.N.Nodup) (hi : PI X tg iter wi) (ok : BlkOk X.N X.env.scope scope own)
    (hg : ∀ (s : Shared) (H : Hp) (C : Addr) (cl : List (Str × Addr)) (fp : List Addr) (B : Heap), PG (blkB X s H scope (compEnvC scope cl C X.env) fp B) tg g)
    (he : ∀ (s : Shared) (H : Hp) (C : Addr) (cl : List (Str × Addr)) (fp : List Addr) (B : Heap), PE (blkB X s H scope (compEnvC scope cl C X.env) fp B) elt (te B)) (fold : ∀ x, foldedSetIterable iter X.env x = pure x := by intro _; rfl) :
    PE X (.ListComp elt [⟨tg, iter, [], 0⟩] scope pos) (tLcB X wi g te (own.map (·.2))) := by
  refine ⟨fun pins s σ H Q I start => ?_⟩
  rw [eval_ListComp]
  have cellOf : ∀ y ∈ scope.names, y.2 = .free → ∃ c, X.env.cells.lookup y.1 = some c := fun y hy e => (ok.free y hy e).elim (fun k => I.ok.has _ (.inl k)) fun k => I.ok.has _ (.inr k)
  refine wpAny_comprehension_free (use := none) rfl fold (closure_ok cellOf) ok.kind (fun y hy e => (ok.uniq y hy).trans (by rw [e])) (thn (hi.run pins s σ H _ I start) fun _ s1 run1 => thn run1 fun _ s2 run2 => ?_)
  obtain ⟨it, fp, tn, J, H2, rfl, I2, T, walk2, free2, body⟩ := run2
  refine wpAny_newObj_type (newEnv_comp ?_) (by show 0 ≤ sizeLine; decide)
  obtain ⟨D, eD⟩ : ∃ D, D = s2.heap.objs.size := ⟨_, rfl⟩
  rw [← eD]
  have newD : H2 D = none := I2.hok.fresh (by rw [eD]; exact Nat.le_refl _)
  -- the list, empty
  obtain ⟨s3, e3⟩ : ∃ s3 : Shared, s3 = { s2 with heap := s2.heap.push { cls := .type "list", data := .seq ([] : List Value).toArray } } := ⟨_, rfl⟩
  have heap3 : s3.heap = s2.heap.push { cls := .type "list", data := .seq ([] : List Value).toArray } := by rw [e3]
  obtain ⟨H3, eH3⟩ : ∃ H3, H3 = upd H2 D (.lst []) := ⟨_, rfl⟩
  have I3 : Inv X pins σ H3 s3 := by
    rw [e3, eH3, eD]
    exact I2.laid (t' := s2.toks) (fun b o e => Heap.get?_push_of_some _ e) (Nat.le_refl _) ⟨Nat.zero_le _, [], 0, .nil, Heap.get?_push_size _ rfl⟩
  have under : ∀ b ∈ fp, b < s2.heap.objs.size := fun b hb => let ⟨_, e, _⟩ := T.obj _ _ walk2 b hb; Heap.lt_size e
  have free3 : ∀ b ∈ fp, FpOk X pins H3 b ∧ b < s3.heap.objs.size := fun b hb => by
    have lt := under b hb
    refine ⟨⟨?_, (free2 b hb).2⟩, by rw [heap3, Heap.size_push]; exact Nat.lt_succ_of_lt lt⟩
    rw [eH3, upd_ne (by rw [eD]; exact Nat.ne_of_lt lt)]
    exact (free2 b hb).1
  have walk3 : tn 0 s3.heap := T.keep _ _ _ walk2 fun b _ o e => by rw [heap3]; exact Heap.get?_push_of_some _ e
  -- the base for the block
  obtain ⟨B, eB⟩ : ∃ B, B = subB s3 H3 (frs X.stack ++ fp) := ⟨_, rfl⟩
  have inB : ∀ b o, B.get? b = some o → s3.heap.get? b = some o ∧ H3 b = none ∧ b ∉ frs X.stack ++ fp := fun b o e => by rw [eB] at e; exact subB_of e
  have modB : Mod X.K X.mg B := by
    rw [eB]
    refine mod_up I3.ok.mod (base_sub I3 fun b o e z => ?_)
    rcases List.mem_append.1 z with z | z
    · exact base_nofr I3 b o e z
    · have q := (free3 b z).1.2.2.2.1
      rcases q with q | q
      · exact I3.ok.noex b o e q
      · exact absurd (Nat.lt_of_lt_of_le (Heap.lt_size e) (Nat.le_trans I3.ok.bsz q)) (Nat.lt_irrefl _)
  have cellsB : CellsB X σ B := by
    rw [eB]
    refine cells_sub I3 fun y c e z => ?_
    rcases List.mem_append.1 z with z | z
    · exact cells_nofr I3 hfn y c e z
    · exact (free3 c z).1.2.2.2.2.1 y c e rfl
  have sizeB : B.objs.size ≤ s3.heap.objs.size := by rw [eB, subB_size]; exact Nat.le_refl _
  have framesB : s3.heap.FunFrames B X.stack := frames_base I3.stack fun b hb => by rw [eB]; exact subB_none (List.mem_append_left _ hb)
  have re : ∀ {cenv : Env} {pins' : List (Addr × Obj)} {σ' : L2.St} {H' : Hp} {s' : Shared}, Inv (X.blk s3 H3 scope cenv fp) pins' σ' H' s' → Inv (blkB X s3 H3 scope cenv fp B) pins' σ' H' s' := fun I' =>
    rebase I' modB (fun b o e => ⟨(inB b o e).1, (inB b o e).2.1⟩) sizeB (fun b o e z => (inB b o e).2.2 (List.mem_append_right _ z)) framesB
  obtain ⟨W, ⟨m0, w0⟩, turns⟩ := body B cellsB D newD
  rw [← eH3] at w0
  have I4 := block_start I3 ok nd free3
  have goes := hg s3 H3 s3.heap.objs.size (cellsFrom (s3.heap.objs.size + 1) scope.names (cloFrom X.env.cells scope.names [])) fp B
  have elem := he s3 H3 s3.heap.objs.size (cellsFrom (s3.heap.objs.size + 1) scope.names (cloFrom X.env.cells scope.names [])) fp B
  have shown : ({ s2 with heap := s2.heap.push { cls := .type "list", data := .seq ([] : List Value).toArray } } : Shared) = s3 := e3.symm
  rw [shown]
  show codeAny _ _ (.compStart (.ListComp elt [⟨tg, iter, [], 0⟩] scope pos) 0 (.ref it) (.ref D) (compEnvC scope (cellsFrom (s3.heap.objs.size + 1) scope.names (cloFrom X.env.cells scope.names [])) s3.heap.objs.size X.env)) (compPost (model X.prog X.w) X.A X.xe none (EP X pins σ Q) (.ref D) s3.heap.objs.size) { s3 with heap := pushCells (s3.heap.push { cls := .type "dict", data := .dict #[] }) scope.names }
  have locD : (compEnvC scope (cellsFrom (s3.heap.objs.size + 1) scope.names (cloFrom X.env.cells scope.names [])) s3.heap.objs.size X.env).locals = s3.heap.objs.size := rfl
  generalize compEnvC scope (cellsFrom (s3.heap.objs.size + 1) scope.names (cloFrom X.env.cells scope.names [])) s3.heap.objs.size X.env = ce at I4 goes elem locD ⊢
  obtain ⟨s4, e4⟩ : ∃ s4 : Shared, s4 = { s3 with heap := pushCells (s3.heap.push { cls := .type "dict", data := .dict #[] }) scope.names } := ⟨_, rfl⟩
  rw [← e4] at I4 ⊢
  have walk4 : tn 0 s4.heap := T.keep _ _ _ walk3 fun b _ o e => by rw [e4]; exact pushCells_keeps _ _ _ _ (Heap.get?_push_of_some _ e)
  have still : ∀ {σ' : L2.St} {H' : Hp} {s' : Shared}, Inv (blkB X s3 H3 scope ce fp B) [] σ' H' s' → (∀ b ∈ fp, H' b = none) → ∀ b ∈ fp, FpOk (blkB X s3 H3 scope ce fp B) [] H' b := fun {σ' H' s'} I' hn b hb =>
    ⟨hn b hb, (I'.ok.exf b hb).1, I'.ok.exfs b hb, .inl hb, fun x c e => (I'.ok.exf b hb).2 x c e, fun p hp => absurd (show p ∈ ([] : List (Addr × Obj)) ++ [] from hp) (by simp)⟩
  have loop : codeAny (model X.prog X.w) X.A (.compLoop (.ListComp elt [⟨tg, iter, [], 0⟩] scope pos) 0 (.ref it) (.ref D) ce) (compPost (model X.prog X.w) X.A X.xe none (EP X pins σ Q) (.ref D) s3.heap.objs.size) s4 := by
    refine compLoop_any (fun n s' => ∃ i H', Inv (blkB X s3 H3 scope ce fp B) [] (wipe σ (own.map (·.2))) H' s' ∧ tn i s'.heap ∧ (∀ b ∈ fp, H' b = none) ∧ W i n H') (fun n s5 inv5 => ?_) m0 ⟨0, H3, re I4, walk4, fun b hb => (free3 b hb).1.1, w0⟩
    obtain ⟨i, H5, I5, walk5, none5, w5⟩ := inv5
    rcases turns i n H5 w5 with ⟨stop, last⟩ | ⟨go, Nx, next, step⟩
    · refine thnF (T.done (blkB X s3 H3 scope ce fp B) rfl rfl rfl calm i [] s5 _ H5 (fun _ _ => False) I5 (still I5 none5) walk5 stop) fun r s6 ⟨er, I6⟩ => ?_
      subst er
      have back : Inv X pins σ H5 s6 := I3.call' (ch := fp) I6.os I6.base I6.hok I6.bare fun b hb => let z := (free3 b hb).1; ⟨z.2.2.2.1, z.2.1, z.2.2.2.2.1, z.2.2.2.2.2⟩
      have gone : H5 s3.heap.objs.size = none := by
        have z : H5 ce.locals = none := I6.free
        rwa [locD] at z
      obtain ⟨m, ns, _⟩ := I6.loc
      have ns : s6.heap.Ns ce.locals m := ns
      rw [locD] at ns
      refine ⟨m, ns, fun h7 only => ?_⟩
      obtain ⟨f0, f1, f2, f3, f4, f5⟩ := I3.fpOk (Nat.le_refl _) gone
      exact ⟨.ref D, H5, back.turned (t' := s6.toks) (fun b o hb e => (only.2 b hb).trans e) f0 f1 f3 f4 f5, rfl, last⟩
    · refine thnF (T.item (blkB X s3 H3 scope ce fp B) rfl rfl rfl calm i [] s5 _ H5 (fun _ _ => False) I5 (still I5 none5) walk5 go) fun r s6 ⟨u, er, run6⟩ => ?_
      subst er
      refine thnF run6 fun _ s7 ⟨x, H7, I7, rx, yl, walk7, none7⟩ => ?_
      have pinned := I7.pinned (still I7 none7) (T.obj _ _ walk7)
      refine thnF (goes.run _ s7 _ H7 x u _ pinned rx (step x H7 yl)) fun _ s8 ⟨σ8, H8, I8, same8, q8⟩ => ?_
      refine thnF ((pts_nil (X := blkB X s3 H3 scope ce fp B)).run _ s8 σ8 H8 _ I8 q8) fun b s9 ⟨H9, I9, q9⟩ => ?_
      have done : ∀ {s' : Shared} {H' : Hp}, Inv (blkB X s3 H3 scope ce fp B) ([] ++ pinsAt fp s7.heap) σ8 H' s' → Nx H' → ∃ m, m < n ∧ ∃ i H', Inv (blkB X s3 H3 scope ce fp B) [] (wipe σ (own.map (·.2))) H' s' ∧ tn i s'.heap ∧ (∀ b ∈ fp, H' b = none) ∧ W i m H' := fun {s' H'} I' nx => by
        obtain ⟨m', lt, w'⟩ := next H' nx
        have pin' : ∀ b ∈ fp, ∀ o, s7.heap.get? b = some o → s'.heap.get? b = some o ∧ H' b = none := fun b hb o e => ⟨(I'.pin (b, o) (List.mem_append_right _ (List.mem_append_right _ (mem_pinsAt hb e)))).1, (I'.pin (b, o) (List.mem_append_right _ (List.mem_append_right _ (mem_pinsAt hb e)))).2.1⟩
        refine ⟨m', lt, i + 1, H', (I'.unpinned (pins := [])).weak (by rw [← same8, wipe_length]) (fun j v e => (wipe_some (by rw [same8]; exact e)).1), T.keep _ _ _ walk7 fun b hb o e => (pin' b hb o e).1, fun b hb => ?_, w'⟩
        obtain ⟨o, e, _⟩ := T.obj _ _ walk7 b hb
        exact (pin' b hb o e).2
      cases b with
      | false =>
        rw [if_neg Bool.false_ne_true] at q9 ⊢
        exact done I9 q9
      | true =>
        rw [if_pos rfl] at q9 ⊢
        refine thnF (elem.run _ s9 σ8 H9 _ I9 q9) fun z s10 ⟨yv, H10, I10, ry, acc, atD, short, nx⟩ => ?_
        exact app_ok (X := blkB X s3 H3 scope ce fp B) I10 atD short ry fun s11 I11 => done I11 nx
  exact codeAny_compStart_list loop (T.self X.A 0 _ _ _ walk4 loop)
end
/-- x(e, ..), x a global def that may call the maker's lambdas -/
def tGlB (X : Cx) (E : XK) (x : Str) (t : TA) : TE := fun σ H Q => ∃ a, X.mg x = some (.ref a) ∧ PySem.W.keepIn X.K (.ref a) = true ∧ t σ H fun vs H1 => ∀ B, CellsB X σ B → ∃ k sp, FnR X.prog X.w X.K X.mg B (L2.CX X.prog X.w) k a sp ∧ Room k X.A ∧ sp vs H1 Q E
theorem pe_glB {X : Cx} {E : XK} {x : Str} {e : Expr} {es : List Expr} {t : TA} {p pos : Pos} (h : Pas X E) (hfn : ∀ x, X.fn x = true) (hg : Gl X x) (ha : PA X (e :: es) t) (hdb : (x == ("__debug__" : Str)) = false := by decide) (he : starEach (e :: es) X.env = (false, eval e X.env) :: starEach es X.env := by rfl)
    (hpl : (backTo pos (starEach es X.env)).any (·.1) = false := by rfl) : PE X (.Call (.Name x p) (e :: es) [] pos) (tGlB X E x t) := by
  refine ⟨fun pins s σ H Q I ⟨f, hm, hk, q⟩ => ?_⟩
  refine wpAny_Call_Name_kw (ld_glob I hg hm ?_ hdb)
  refine PySem.W.callWith_K (h₀ := X.base) I.ok.mod.kin hk (thn (ha.run pos pins s σ H _ I q) fun us s1 ⟨vs, H1, I1, r1, go⟩ => ⟨I1.kIn, ?_⟩) he hpl
  obtain ⟨k, sp, F, hr, q1⟩ := go _ (cells_sub I1 (cells_nofr I1 hfn))
  refine wpAny_call (codeAny_mono (F X.A X.stack s1 H1 us vs Q E hr (env0_sub I1) r1 q1) fun r s' hq => ?_)
  match r, hq with
  | .error e, hq => exact h pins σ H1 s1 e s' I1 hq
  | .ok (.ret u), hq => exact I1.after hq
/-- a def of which the code object is known -/
theorem okXC {P : Program} {w : World} {K : PySem.W.Frag} {mg : Str → Option Value} {base : Heap} {x qual : Str} {st : Stmt} {f : Addr} {fd : FuncData} {N ps : List Str} {k : Nat} {sp : Sp} {cv : Value} (F : Fun K x qual st f fd) (hc : fd.code = cv) (S : FnScope N ps (defScope st)) (len : ∀ vs H Q E, sp vs H Q E → vs.length = ps.length)
    (hbody : ∀ (A : Around) (outer : List Env) (s : Shared) (H : Hp) (vs : List V) (Q : VK) (E : XK), Room k (A.deeper (envOfC qual (defScope st) s.heap.objs.size f cv)) → sp vs H Q E →
      ∃ t, PSs (cxOf (L2.CX P w) P w K mg base N qual (defScope st) f cv A outer s H E) (defBody st) t ∧ t { nx := fun _ H' => Q .non H', rt := Q } (start N vs) H) : FnOk P w K mg base (L2.CX P w) (k + 1) f fd ps sp := by
  obtain ⟨oc, od, kV, doc, pm, an, cdv, ct, osl, rfl, lk, hcd⟩ := F.ex
  have e : cdv = cv := hc
  subst e
  exact fn_of lk hcd S len fun A outer s H vs Q E hr hsp => hbody A outer s H vs Q E hr hsp
end Odd

namespace Odd
open PySem PySem.Spec PyProof.Rows L2 LamX NdefX
abbrev rb (X : Cx) (B : Heap) : Cx := { X with base := B }
/-! ### checks -/
def capB (sc scope : Scope) (N fr : List Str) (js : List Nat) : Bool :=
  scope.names.all (fun y => !decide (y.2 = .free) || decide (sc.names.lookup y.1 = some .cell)) && fr.all (fun y => decide ((y, NameKind.free) ∈ scope.names)) && decide (js.map (fun j => N[j]?) = fr.map some)
theorem cells_by {X : Cx} {σ : L2.St} {B : Heap} {scope : Scope} {fr : List Str} {js : List Nat} (C : CellsB X σ B) (h : capB X.env.scope scope X.N fr js = true) : CellsL (cloFrom X.env.cells scope.names []) fr (js.map (slV σ)) B := by
  unfold capB at h
  simp only [Bool.and_eq_true, List.all_eq_true, Bool.or_eq_true, Bool.not_eq_true', decide_eq_true_eq, decide_eq_false_iff_not] at h
  exact cells_of C (fun y hy e => ((h.1.1 y hy).elim (fun z => absurd e z) id)) (fun y hy => h.1.2 y hy) h.2
/-- a lambda of X's called, at a heap where the maker's cells are in the base -/
theorem lam_go {X : Cx} {σ : L2.St} {B : Heap} {params : Arguments} {scope : Scope} {bd : Expr} {dV : Value} {c' f : Addr} {H : Hp} {Q : VK} {E : XK} {k : Nat} {vs : List V} (N ps fr : List Str) (js : List Nat) (ws : List (Option V)) (C : CellsB X σ B) (cap : capB X.env.scope scope X.N fr js = true) (S : nscB N ps fr scope = true)
    (hf : H f = some (LamO f (lamNF X params scope c') bd dV)) (hc : H c' = some (CodeO c' (X.env.qual ++ "<lambda>"))) (hl : vs.length = ps.length) (hw : js.map (slV σ) = ws)
    (hb : ∀ (s : Shared) (doc pm ctv : Value), HOk X.prog X.w H s.heap → ∃ us, Vals vs us ∧ BindsTo s (PySem.W.kdv_fn "<lambda>" (X.env.qual ++ "<lambda>") params (.expr bd) scope (cloFrom X.env.cells scope.names []) dV doc pm (.ref c') ctv) ⟨[], []⟩ (ps.zip us))
    (hbody : ∀ (A : Around) (outer : List Env) (s : Shared), Room k (A.deeper (envF (lamNF X params scope c') f s.heap.objs.size)) → ∃ tb, PE (ncx (L2.CX X.prog X.w) X.prog X.w X.K X.mg B N (lamNF X params scope c') f A outer s H E) bd tb ∧ tb (startF N vs ws) H Q) :
    CallAt X.prog X.w X.K X.mg B (k + 1) f H Q E := by
  subst hw
  exact lam_callAt (F := lamNF X params scope c') (nscope_by S) hf hc hl (cells_by C cap) hb hbody
/-! ### exceptions' classes, code objects -/
theorem exm_of {K : PySem.W.Frag} {C1 C2 : Addr} {b : Bool} (h1 : PySem.W.subIn K (.ref C2) (.type "BaseException") = some true) (h2 : PySem.W.typeIn K (.ref C2) = some (.type "type")) (h3 : PySem.W.isClsIn K C2 = true) (h4 : PySem.W.subIn K (.ref C1) (.ref C2) = some b) : PySem.W.exmOne K (.ref C1) (.ref C2) = some b := by
  have h3 : (PySem.W.clsIn K C2).isSome = true := h3
  unfold PySem.W.exmOne PySem.W.kitCls
  rw [h1, if_pos (by simp)]
  show (if ((PySem.W.clsIn K C2).isSome && PySem.W.typeIn K (.ref C2) == some (.type "type")) = true then PySem.W.subIn K (.ref C1) (.ref C2) else none) = some b
  rw [h3, h2]
  rw [if_pos (by simp)]
  exact h4
def hdOk (vs : Array Value) (c P : Addr) : Bool :=
  (match (vs[11]? : Option Value) with | some (.ref P') => P' == P | _ => false) && (match vs.getD 18 .none with | .str _ _ => true | _ => false) && (match vs.getD 7 .none with | .int _ _ => true | _ => false) &&
    (match vs.getD 9 .none with | .bool _ => true | _ => false) && (match vs.getD 10 .none with | .int _ _ => true | _ => false) && c != P
theorem hd_of {K : PySem.W.Frag} {c P : Addr} {od : Option Addr} {vs : Array Value} {sl : Array (Option Value)} (h : K.lookup c = some ⟨.type "code", od, .fields vs, sl⟩) (e : hdOk vs c P = true) : PySem.W.codeHdIn K c P = true := by
  unfold PySem.W.codeHdIn
  rw [h]
  exact e
/-! ### tables kept -/
theorem tabs_same {T : List (Addr × Str)} {H H' : Hp} (t : Tabs T H) (s : Same H H') : Tabs T H' := t.ext s
theorem tabs_b {T : List (Addr × Str)} {H H' : Hp} {st : Addr} {l : List V} (t : Tabs T H) (s : SameB (· = st) H H') (h : H st = some (.lst l)) : Tabs T H' := fun p hp => by
  obtain ⟨ps, h1, h2, h3⟩ := t p hp
  have up : ∀ b o, H b = some o → (∀ l, o ≠ .lst l) → H' b = some o := fun b o e n => s b o (fun z => by rw [z, h] at e; exact n l (Option.some.inj e).symm) e
  refine ⟨ps, up _ _ h1 (fun l z => by cases z), h2, fun pos cv hc => ?_⟩
  obtain ⟨c, e1, e2⟩ := h3 pos cv hc
  exact ⟨c, e1, up _ _ e2 fun l z => by unfold CodeO at z; cases z⟩
/-- all but tables kept -/
theorem ExtN.o {H H' : Hp} (e : ExtN H H') {b : Addr} {o : HO} (h : H b = some o) (n : ∀ ps, o ≠ .tbl ps) : H' b = some o := e b o h n
/-! ### the try -/
theorem w_try {X : Cx} {i k : Nat} {W : WX} {σ : L2.St} {H : Hp} {D : Ends} {f : Addr} {F : NF} {bd : Expr} {dV : Value} {Ef : XK} (hs : σ[i]? = some (some (.ref f))) (hf : H f = some (LamO f F bd dV)) (hc : CallAt X.prog X.w X.K X.mg X.base k f H D.rt Ef) (hW : ∀ cls d (σ' : L2.St) H', Ef cls d H' → W cls d σ' H') (hr : Room k X.A) :
    tRet (tAct X i k W) D σ H := ⟨f, F, bd, dV, Ef, hs, hf, hc, hW, hr⟩
/-! ### the comprehension's items -/
section
variable {X : Cx} {K : PySem.W.Frag} {te : Heap → TE} {vs : List Nat} {σ : L2.St} {H : Hp} {Q : VK} {a : Addr} {xs : List V} {j : Nat}
/-- over a list: items that are new objects -/
theorem c_listB (S : Addr → Prop) (Pv : Nat → List V → Hp → Prop) (hS : ∀ b, S b → H b ≠ none) (h0 : ∀ D, H D = none → Pv 0 [] (upd H D (.lst []))) (hz : ∀ i o H', i < xs.length → Pv i o H' → o.length < 100000) (hx : ∀ H', SameB S H H' → SqL K H' a xs)
    (hD : ∀ i o H' D l l', H D = none → H' D = some (.lst l) → Pv i o H' → Pv i o (upd H' D (.lst l'))) (hw : ∀ x, wipe ((wipe σ vs).set j (some x)) vs = wipe σ vs)
    (turn : ∀ B, CellsB X σ B → ∀ i x H' o, xs[i]? = some x → SameB S H H' → Pv i o H' → ∀ R : VK, (∀ y H4, SameB S H' H4 → Pv (i + 1) (o ++ [y]) H4 → R y H4) → te B ((wipe σ vs).set j (some x)) H' R)
    (q : ∀ p o H', H p = none → SameB S H H' → Pv xs.length o H' → H' p = some (.lst o) → Q (.ref p) H')
    {tl : TE} (ht : ∀ R : VK, R (.ref a) H → tl σ H R) : tLcB X (iSeq K tl) (gName j) te vs σ H Q :=
  ht _ ⟨a, rfl, .inl ⟨⟨xs, hx H (SameB.refl H)⟩, fun B hB => c_walkI S Pv walk_listS hS h0 hz hx hD (fun i x H1 H' o hi s p y R k => by
    obtain ⟨e1, e2⟩ := y
    subst e1
    exact k _ (hw x) (SameB.refl _) (turnI_map (turn B hB i x _ o e2 s p))) q⟩⟩
end
/-! ### a row of outcomes -/
section
variable {X : Cx} {K : PySem.W.Frag} {te : Heap → TE} {vs : List Nat} {σ : L2.St} {H : Hp} {Q : VK} {l : Addr} {j : Nat} {fs : List Addr} {nm : Str}
theorem c_outs (nm : Str) (hl : H l = some (.lst (fs.map V.ref))) (hn : fs.length ≤ 1000)
    (turn : ∀ B, CellsB X σ B → ∀ (i : Nat) (f : Addr) (H' : Hp), fs[i]? = some f → Same H H' → ∀ R : VK, (∀ T H'', H'' T = some (.tup [.str nm]) → Same H' H'' → R (.ref T) H'') → te B ((wipe σ vs).set j (some (.ref f))) H' R)
    (q : ∀ p (Ts : List Addr) H', Same H H' → H' p = some (.lst (Ts.map V.ref)) → Ts.length = fs.length → (∀ T ∈ Ts, H' T = some (.tup [.str nm])) → Q (.ref p) H')
    (hw : ∀ x, wipe ((wipe σ vs).set j (some x)) vs = wipe σ vs) {tl : TE} (ht : ∀ R : VK, R (.ref l) H → tl σ H R) : tLcB X (iSeq K tl) (gName j) te vs σ H Q := by
  refine c_listB (a := l) (xs := fs.map V.ref) (fun _ => False) (fun i o H' => ∃ Ts : List Addr, o = Ts.map V.ref ∧ Ts.length = i ∧ ∀ T ∈ Ts, H' T = some (.tup [.str nm])) (fun _ z => z.elim) (fun D hD => ⟨[], rfl, rfl, fun T z => by simp at z⟩) (fun i o H' hi p => ?_) (fun H' s => SqL.of (s _ _ id hl))
    (fun i o H' D l1 l2 hD hd p => ?_) hw (fun B hB i x H' o hx s p R hR => ?_) (fun p o H' hp s pv hL => ?_) ht
  · obtain ⟨Ts, rfl, h, _⟩ := p
    rw [List.length_map] at hi ⊢
    omega
  · obtain ⟨Ts, rfl, h, hT⟩ := p
    exact ⟨Ts, rfl, h, fun T m => by rw [upd_ne (fun z => by have e := hT T m; rw [z, hd] at e; cases e)]; exact hT T m⟩
  · rw [List.getElem?_map] at hx
    cases e : fs[i]? with
    | none => rw [e] at hx; cases hx
    | some f =>
      rw [e] at hx
      cases hx
      obtain ⟨Ts, rfl, h, hT⟩ := p
      refine turn B hB i f H' e (fun b o eb => s b o id eb) R fun T H'' eT s2 => hR _ _ (Same.b s2) ⟨Ts ++ [T], by rw [List.map_append]; rfl, by rw [List.length_append, h]; rfl, fun T' m => ?_⟩
      rcases List.mem_append.1 m with m | m
      · exact s2 _ _ (hT T' m)
      · rw [List.mem_singleton.1 m]
        exact eT
  · obtain ⟨Ts, rfl, h, hT⟩ := pv
    exact q p Ts H' (fun b o eb => s b o id eb) hL (by rw [h, List.length_map]) hT
theorem dp_outs {Ts : List Addr} {p : Addr} (hp : H p = some (.lst (Ts.map V.ref))) (hT : ∀ T ∈ Ts, H T = some (.tup [.str nm])) : Dp K H (.ref p) (.list (List.replicate Ts.length (.tuple [.str nm]))) := by
  refine .lst (SqL.of hp) ?_
  clear hp
  induction Ts with
  | nil => exact .nil
  | cons T Ts ih => exact .cons (.tup (SqT.of (hT T (List.mem_cons_self ..))) (.cons (.str nm) .nil)) (ih fun T' m => hT T' (List.mem_cons_of_mem _ m))
end
theorem keepN {H H' : Hp} (s : Same H H') : ExtN H H' := fun b o e _ => s b o e
end Odd

namespace Odd
open PySem PySem.SeqAt
open AutoSeq1 (wpAny_loadPart')
open MeetsSeq MeetsSeq2 MeetsSeq3 SeqRoads2
/-! ### (x, i) != (y, j), x and y own instances -/
theorem pair_ne {prog : Program} {w : World} {A : Around} {R : Result → Shared → Prop} (l b : Addr) (x1 x2 y1 y2 : Value) (n n2 : Nat) (dd dd2 : Option Addr) (sl sl2 : Array (Option Value)) (k2 : Bool) (J : Bool → Shared → Prop) {s : Shared}
    (h1 : wpAny (model prog w) A.in1 (eqBool x1 y1) J (fun e s' => R (.error e) s') s) (h2 : ∀ s', J true s' → EqAt A.in1 s' x2 y2 k2) (f1 : ∀ s', J false s' → R (.ok (.ret (.bool true))) s') (f2 : ∀ s', J true s' → R (.ok (.ret (.bool (!k2)))) s')
    (hl : s.heap.get? l = some { cls := .type "tuple", dict := dd, data := .seq #[x1, x2] n, slots := sl }) (hb : s.heap.get? b = some { cls := .type "tuple", dict := dd2, data := .seq #[y1, y2] n2, slots := sl2 }) :
    wpAny (model prog w) A.in1 (Builtin.«tuple.__ne__» ⟨[.ref l, .ref b], []⟩) (GQ.FinOf prog w A R) (fun e s' => R (.error e) s') s := by
  have sub := AutoSeq1.sub_tuple_tuple
  obtain ⟨hp, g, d, tk, os⟩ := s
  wp_walk using wpAny_loadPart' hl, wpAny_loadPart' hb, wpAny_forIn_list _ (fun rest b s' => b.1 = none ∧ ((rest = [(x1, y1), (x2, y2)] ∧ s' = ⟨hp, g, d, tk, os⟩) ∨ (rest = [(x2, y2)] ∧ J true s') ∨ (rest = [] ∧ k2 = true ∧ J true s'))) _
  case turn =>
    rintro ⟨u, v⟩ rest b s' ⟨hb', hc⟩
    rcases hc with ⟨hr, rfl⟩ | ⟨hr, hJ⟩ | ⟨hr, _⟩
    · injection hr with hx hr
      cases hx
      refine wpAny_bind (wpAny_mono h1 (fun r s2 hJ => ?_) fun _ _ z => z)
      cases r with
      | true =>
        obtain ⟨hp2, g2, d2, tk2, os2⟩ := s2
        wp_walk
        exact ⟨rfl, .inr (.inl ⟨hr, hJ⟩)⟩
      | false =>
        have q := f1 _ hJ
        obtain ⟨hp2, g2, d2, tk2, os2⟩ := s2
        wp_walk
        exact q
    · injection hr with hx hr
      cases hx
      refine wpAny_bind (h2 s' hJ prog w _ _ ?_)
      cases k2 with
      | true =>
        obtain ⟨hp2, g2, d2, tk2, os2⟩ := s'
        wp_walk
        exact ⟨rfl, .inr (.inr ⟨hr, rfl, hJ⟩)⟩
      | false =>
        have q := f2 _ hJ
        obtain ⟨hp2, g2, d2, tk2, os2⟩ := s'
        wp_walk
        exact q
    · cases hr
  case fin =>
    rintro ⟨b1, b2⟩ s' ⟨hb', hc⟩
    simp only at hb'
    subst hb'
    rcases hc with ⟨hr, _⟩ | ⟨hr, _⟩ | ⟨_, hk, hJ⟩
    · cases hr
    · cases hr
    · have q := f2 _ hJ
      rw [hk] at q
      obtain ⟨hp2, g2, d2, tk2, os2⟩ := s'
      wp_walk
      simpa [Builtin.Tuple.tupleCompareSizes] using q
  case h =>
    exact ⟨rfl, .inl ⟨rfl, rfl⟩⟩
end Odd
namespace Odd
open PySem PySem.Spec PyProof.Rows L2
section
variable {X : Cx} {CX : CXT} {E : XK} {n : Nat} {g C : Addr} {sp : Sp}
def rNePair (K : PySem.W.Frag) (C : Addr) (sp : Sp) (E : XK) : R2 := fun x y H Q => ∃ (T1 T2 r1 r2 : Addr) (i j : Int) (dx dy : Addr) (fs gs : List (Str × V)), x = .ref T1 ∧ y = .ref T2 ∧ SqT K H T1 [.ref r1, .int i] ∧ SqT K H T2 [.ref r2, .int j] ∧ H r1 = some (.ins C dx fs) ∧ H r2 = some (.ins C dy gs) ∧
  (r1 = r2 → Q (.bl (!decide (i = j))) H) ∧ (r1 ≠ r2 → sp [.ref r1, .ref r2] H (fun z H' => ∃ k, z = .bl k ∧ Q (.bl (!(k && decide (i = j)))) H') E)
theorem op_nePair (hs : PySem.W.findIn X.K (.ref C) "__eq__" = some (some (.ref g))) (hf : PySem.W.isFn X.K (.ref g) = true) (F : FnR X.prog X.w X.K X.mg X.base CX n g sp) (hr : Room (n + 1) X.A) (hx : Passes CX X E) : OpR X (compareOp .NotEq) (rNePair X.K C sp E) := by
  intro pins s σ H x y v u Q I rx ry h
  obtain ⟨T1, T2, r1, r2, i, j, dx, dy, fs, gs, rfl, rfl, h1, h2, ha, hb, q0, q⟩ := h
  cases (show v = Value.ref T1 from rx)
  cases (show u = Value.ref T2 from ry)
  obtain ⟨its1, rv1, p1, _⟩ := I.tuple h1
  obtain ⟨its2, rv2, p2, _⟩ := I.tuple h2
  obtain ⟨u1, u2, rfl, ru1, ru2⟩ := vals2 rv1
  obtain ⟨w1, w2, rfl, rw1, rw2⟩ := vals2 rv2
  obtain rfl : u1 = Value.ref r1 := ru1
  obtain rfl : w1 = Value.ref r2 := rw1
  obtain ⟨ti, rfl⟩ := (show ∃ t, u2 = Value.int i t from ru2)
  obtain ⟨tj, rfl⟩ := (show ∃ t, w2 = Value.int j t from rw2)
  obtain ⟨⟨cls, dd, data, sl⟩, ho, hc, m, hd⟩ := id p1
  obtain ⟨⟨cls2, dd2, data2, sl2⟩, ho2, hc2, m2, hd2⟩ := id p2
  simp only at hc hd hc2 hd2
  subst hc hd hc2 hd2
  have hu : X.A.units < cLine := hr.units0
  refine wpAny_richCompare_same_room (op := .NotEq) ⟨_, ho, rfl⟩ ⟨_, ho2, rfl⟩ PySem.F.slot_tuple_ne (GQ.call_here PySem.F.slot_tuple_ne ⟨_, ho, rfl⟩ PySem.F.entry_tuple_ne (PySem.F.args_tuple_ne_2 _ _) ?_) hu
  refine pair_ne (R := wants (fun v s' => v ≠ .notImplemented ∧ EP X pins σ Q v s') X.xe) T1 T2 (.ref r1) (.int i ti) (.ref r2) (.int j tj) m m2 dd dd2 sl sl2 (decide (i = j)) (fun k s' => ∃ H', Inv X pins σ H' s' ∧ Q (.bl (!(k && decide (i = j)))) H') ?_ (fun s' _ => ?_) (fun s' ⟨H', I', q'⟩ => ?_) (fun s' ⟨H', I', q'⟩ => ?_) ho ho2
  · by_cases hne : r1 = r2
    · subst hne
      exact SeqAt.EqAt.same (A := X.A.in1) (s := s) (.ref r1) X.prog X.w _ _ ⟨H, I, by simpa using q0 rfl⟩
    have q := q hne
    obtain ⟨ox, od, J⟩ := inst_at I ha
    obtain ⟨oy, od', J'⟩ := inst_at I hb
    obtain ⟨mm, hF⟩ := I.fr
    refine GQ.eqBool_refG hne (PySem.W.cmp_K (op := .Eq) (tb := .ref C) hr.in1.units0 hF I.ok.mod.kin J J'.type (by simp [PySem.W.notFirst]) hs hf (wpAny_mono (call_in1 (vs := [.ref r1, .ref r2]) F hr hx I (.cons rfl (.cons rfl .nil)) q) (fun z s' zz => ?_) fun _ _ e => e))
    obtain ⟨v', H', I', rz, k, rfl, qz⟩ := zz
    cases rz
    exact ⟨k, rfl, H', I', qz⟩
  · rw [show decide (i = j) = (i == j) by by_cases h : i = j <;> simp [h]]
    exact SeqAt.EqAt.int_int i ti j tj
  · exact ⟨(fun x => nomatch x), .bl true, H', I', rfl, q'⟩
  · exact ⟨(fun x => nomatch x), .bl (!decide (i = j)), H', I', rfl, by simpa using q'⟩
end
theorem s_nePair {X0 : Cx} {E : XK} {H : Hp} {Q : VK} {k : Nat} {C g T1 T2 r1 r2 dx dy : Addr} {i j : Int} {fs gs : List (Str × V)} {sp : Sp} (M : Meth X0.K C "__eq__" g) (F : Fn X0 k g sp) (hr : Room (k + 1) X0.A) (h1 : SqT X0.K H T1 [.ref r1, .int i]) (h2 : SqT X0.K H T2 [.ref r2, .int j]) (ha : H r1 = some (.ins C dx fs)) (hb : H r2 = some (.ins C dy gs))
    (q0 : r1 = r2 → Q (.bl (!decide (i = j))) H) (q : r1 ≠ r2 → sp [.ref r1, .ref r2] H (fun z H' => ∃ k, z = .bl k ∧ Q (.bl (!(k && decide (i = j)))) H') E) : ∃ r, OpD X0 E (compareOp .NotEq) r ∧ r (.ref T1) (.ref T2) H Q :=
  ⟨rNePair X0.K C sp E, fun X l h => by rw [← l.K]; exact op_nePair (by rw [l.K]; exact M.at_) (by rw [l.K]; exact M.fn) (l.fn F) (l.room hr) h, T1, T2, r1, r2, i, j, dx, dy, fs, gs, rfl, rfl, h1, h2, ha, hb, q0, q⟩
end Odd

namespace GBT
open PySem PyProof.Rows
open PySem.Sem (wp)
theorem meets_bool_tup (l : Addr) (items : Array Value) (hfit : (items.size : Int) < 2 ^ 63) :
    Meets (Builtin.«bool.__new__» ⟨[.type "bool", .ref l], []⟩) (fun _ R s => IsTup s.heap l items ∧ R (.ok (.ret (.bool (!items.isEmpty)))) { s with toks := s.toks + 1 + 1 }) :=
  Meets.of_wp fun prog w A R s hs => by
    obtain ⟨hl, hs⟩ := hs
    obtain ⟨hp, g, d, tk, os⟩ := s
    have f1 := F.conv_sub_bool
    repeat (any_goals (first | assumption | (with_reducible refine truthy_tuple hl hfit ?_) | wp_step))
    all_goals first | exact ⟨_, rfl, hs⟩ | exact hs | skip
theorem call_bool_tup {prog : Program} {w : World} {A : Around} {E : Value → Shared → Prop} {s : Shared} {l : Addr} {items : Array Value} {Q : Value → Shared → Prop} (hfit : (items.size : Int) < 2 ^ 63) (hl : IsTup s.heap l items)
    (h : Q (.bool (!items.isEmpty)) { s with toks := s.toks + 1 + 1 }) : wpAny (model prog w) A (call (.type "bool") [.ref l]) Q E s :=
  call_bool_1 (meets_bool_tup l items hfit) ⟨hl, rfl, h⟩
end GBT
namespace Odd
open PySem PySem.Spec PyProof.Rows L2
section
variable {X : Cx} {CX : CXT} {E : XK} {n : Nat} {g C : Addr} {sp : Sp}
/-- the truth of an own instance, by its own method -/
def rTruO (C : Addr) (sp : Sp) (E : XK) : V → Hp → (Bool → Hp → Prop) → Prop := fun x H Q => ∃ a dx fs, x = .ref a ∧ H a = some (.ins C dx fs) ∧ sp [x] H (fun z H' => ∃ b, z = .bl b ∧ Q b H') E
theorem tru_own (hs : PySem.W.findIn X.K (.ref C) "__bool__" = some (some (.ref g))) (hf : PySem.W.isFn X.K (.ref g) = true) (F : FnR X.prog X.w X.K X.mg X.base CX n g sp) (hr : Room n X.A) (hx : Passes CX X E) : TruR X (rTruO C sp E) := by
  intro pins s σ H x v Q I rx h
  obtain ⟨a, dx, fs, rfl, ha, q⟩ := h
  cases (show v = Value.ref a from rx)
  obtain ⟨ox, od, J⟩ := inst_at I ha
  unfold truthy
  refine wpAny_bind (PySem.W.special_fn I.kIn J hs (beq_iff_eq.mp hf) (wpAny_mono (call_ref (vs := [.ref a]) F hr hx I (.cons rfl .nil) q) (fun w s' z => ?_) fun _ _ x => x))
  obtain ⟨z', H', I', rz, b, rfl, qz⟩ := z
  cases (show w = Value.bool b from rz)
  exact wpAny_pure ⟨H', I', qz⟩
def rIxK : R2 := fun x y H Q => ∃ p v, x = .ref p ∧ DGet H p y (some v) ∧ Q v H
theorem ix_dict (hu : X.A.units + 1 < cLine) : IxO X rIxK := by
  intro value slice pins s σ H x y v u Q I rx ry h hs _
  obtain ⟨p, z, rfl, g, q⟩ := h
  cases (show v = Value.ref p from rx)
  exact tail_any (dict_typeIs I g) PySem.F.slot_dict_getitem.lookup (d_getItem hu I g ry fun w' s3 I3 rw' => ⟨z, H, I3, rw', q⟩) hs
theorem call_boolT : CallR X (.type "bool") (fun xs H Q => ∃ (a : Addr) (zs : List V), xs = [.ref a] ∧ SqT X.K H a zs ∧ Q (.bl (!zs.isEmpty)) H) := by
  intro pins s σ H xs us Q I r h
  obtain ⟨a, zs, rfl, hq, q⟩ := h
  obtain rfl := Vals.ref1 r
  obtain ⟨its, rv, pl, hz⟩ := I.tuple hq
  have hl := line63
  have hlen := rv.length
  refine GBT.call_bool_tup (by simp only [List.size_toArray]; omega) pl ?_
  exact ⟨.bl (!zs.isEmpty), H, I.tok _, by rw [isEmpty_of rv]; rfl, q⟩
end
/-- an attribute within a comprehension: pe_atA's last argument stood in the way of the kind of the whole -/
theorem pe_atB {X0 X : Cx} {E : XK} {e : Expr} {te : TE} {f : Str} {pos : Pos} (l : Like X0 X) (h : Pas X E) (he : PE X e te) (hb : ∀ m, attributeBase e f X.env m = m := by exact fun _ => rfl) : PE X (.Attribute e f pos) (tAtA X0 E f te) := pe_atA l h he (hb _)
theorem hu1 {k : Nat} {A : Around} (hr : Room k A) : A.units + 1 < cLine := by
  have := hr.units
  omega
section
variable {X0 : Cx} {E : XK} {H : Hp} {Q : VK}
theorem s_truO {k : Nat} {C g a dx : Addr} {fs : List (Str × V)} {sp : Sp} {QB : Bool → Hp → Prop} (M : Meth X0.K C "__bool__" g) (F : Fn X0 k g sp) (hr : Room k X0.A) (ha : H a = some (.ins C dx fs)) (q : sp [.ref a] H (fun z H' => ∃ b, z = .bl b ∧ QB b H') E) : ∃ r, TrD X0 E r ∧ r (.ref a) H QB :=
  ⟨rTruO C sp E, fun X l h => tru_own (by rw [l.K]; exact M.at_) (by rw [l.K]; exact M.fn) (l.fn F) (l.room hr) h, a, dx, fs, rfl, ha, q⟩
theorem s_ixK {k : Nat} {p : Addr} {kvs : List (Key × V)} {i : Int} {v : V} (hr : Room k X0.A) (h : H p = some (.dK kvs)) (e : valV kvs (.inl i) = some v) (q : Q v H) : ∃ r, IxD X0 E r ∧ r (.ref p) (.int i) H Q :=
  ⟨rIxK, fun X l _ => ix_dict (hu1 (l.room hr)), p, v, rfl, by rw [← e]; exact DGet.k (k := .inl i) h, q⟩
theorem s_boolT {p : Addr} {xs : List V} (h : SqT X0.K H p xs) (q : Q (.bl (!xs.isEmpty)) H) : ∃ r, CaD X0 E (.type "bool") r ∧ r [.ref p] H Q :=
  ⟨fun vs H Q => ∃ (a : Addr) (zs : List V), vs = [.ref a] ∧ SqT X0.K H a zs ∧ Q (.bl (!zs.isEmpty)) H, fun X l _ => by rw [← l.K]; exact call_boolT, p, xs, rfl, h, q⟩
theorem s_divmod {i j : Int} (h1 : 0 < j) (h2 : j < 1073741824) (q : ∀ p, H p = none → Q (.ref p) (upd H p (.tup [.int (i / j), .int (i % j)]))) : ∃ r, CaD X0 E (.builtin "divmod") r ∧ r [.int i, .int j] H Q :=
  ⟨_, fun X _ _ => call_divmod, i, j, rfl, ⟨h1, h2⟩, q⟩
end
section
variable {X0 X : Cx} {E : XK}
/-- o.m(e, ..), an own method -/
theorem pe_meA {o e : Expr} {es : List Expr} {ta : TE} {t : TA} {m : Str} {pos apos : Pos} {pl : Sem Bool} (l : Like X0 X) (h : Pas X E) (he : PE X o ta) (ha : PA X (e :: es) t)
    (hst : starEach (e :: es) X.env = (false, eval e X.env) :: starEach es X.env := by rfl) (hpl : (backTo pos (starEach es X.env)).any (·.1) = false := by rfl)
    (ht : eval (.Call (.Attribute o m apos) (e :: es) [] pos) X.env = (do
      let ov ← eval o X.env
      standAt apos.atName
      let (f, first) ← holding [ov] (getMethod ov m pl)
      callWith pos f first (backTo pos (starEach (e :: es) X.env)) (backToKw pos (keywordEach [] X.env))) := by rfl) :
    PE X (.Call (.Attribute o m apos) (e :: es) [] pos) (tMeA X0 E m ta t) := by
  refine ⟨fun pins s σ H Q I hq => ?_⟩
  refine PySem.W.methodCall_KW (pl := pl) (thn (he.run pins s σ H _ I hq) fun u s1 ⟨x, H1, I1, rx, a, C, dx, fs, g, ex, ea, c, hm, hk, lk, q⟩ => ?_) ht
  subst ex
  obtain rfl : u = Value.ref a := rx
  rw [← l.K] at c hm hk
  refine getmeth_ok I1 ea c hm lk ?_
  refine PySem.W.callWith_K (first := [.ref a]) (h₀ := X.base) I.ok.mod.kin hm.kp (thn (ha.run pos pins s1 σ H1 _ I1 q) fun us s2 ⟨vs, H2, I2, r, r', hr, q2⟩ => ⟨I2.kIn, ?_⟩) hst hpl
  exact hr X l h pins s2 σ H2 (.ref a :: vs) (.ref a :: us) Q I2 (.cons rfl r) q2
theorem w_meA {m : Str} {ta : TE} {t : TA} {σ : L2.St} {H : Hp} {Q : VK} (h : ta σ H fun x H1 => ∃ a C dx fs g, x = .ref a ∧ H1 a = some (.ins C dx fs) ∧ Cls X0.K C ∧ Meth X0.K C m g ∧ PySem.W.keepIn X0.K (.ref g) = true ∧ fs.lookup m = none ∧
  t σ H1 fun vs H2 => ∃ r, CaD X0 E (.ref g) r ∧ r (x :: vs) H2 Q) : tMeA X0 E m ta t σ H Q := h
end
/-! ### a row of outcomes of several names -/
section
variable {X : Cx} {K : PySem.W.Frag} {te : Heap → TE} {vs : List Nat} {σ : L2.St} {H : Hp} {Q : VK} {l : Addr} {j : Nat} {fs : List Addr}
theorem c_outsL (nms : List Str) (hnl : nms.length = fs.length) (hl : H l = some (.lst (fs.map V.ref))) (hn : fs.length ≤ 1000)
    (turn : ∀ B, CellsB X σ B → ∀ (i : Nat) (f : Addr) (nm : Str) (H' : Hp), fs[i]? = some f → nms[i]? = some nm → Same H H' → ∀ R : VK, (∀ T H'', H'' T = some (.tup [.str nm]) → Same H' H'' → R (.ref T) H'') → te B ((wipe σ vs).set j (some (.ref f))) H' R)
    (q : ∀ p (Ts : List Addr) H', Same H H' → H' p = some (.lst (Ts.map V.ref)) → Ts.length = nms.length → (∀ (i : Nat) T nm, Ts[i]? = some T → nms[i]? = some nm → H' T = some (.tup [.str nm])) → Q (.ref p) H')
    (hw : ∀ x, wipe ((wipe σ vs).set j (some x)) vs = wipe σ vs) {tl : TE} (ht : ∀ R : VK, R (.ref l) H → tl σ H R) : tLcB X (iSeq K tl) (gName j) te vs σ H Q := by
  refine c_listB (a := l) (xs := fs.map V.ref) (fun _ => False) (fun i o H' => ∃ Ts : List Addr, o = Ts.map V.ref ∧ Ts.length = i ∧ ∀ (k : Nat) T nm, Ts[k]? = some T → nms[k]? = some nm → H' T = some (.tup [.str nm])) (fun _ z => z.elim) (fun D hD => ⟨[], rfl, rfl, fun k T nm z => by simp at z⟩) (fun i o H' hi p => ?_) (fun H' s => SqL.of (s _ _ id hl))
    (fun i o H' D l1 l2 hD hd p => ?_) hw (fun B hB i x H' o hx s p R hR => ?_) (fun p o H' hp s pv hL => ?_) ht
  · obtain ⟨Ts, rfl, h, _⟩ := p
    rw [List.length_map] at hi ⊢
    omega
  · obtain ⟨Ts, rfl, h, hT⟩ := p
    by_cases hD2 : D ∈ Ts
    · obtain ⟨k, ek⟩ := List.mem_iff_getElem?.1 hD2
      obtain ⟨hk, _⟩ := List.getElem?_eq_some_iff.1 ek
      refine ⟨Ts, rfl, h, fun k' T nm e1 e2 => ?_⟩
      rw [upd_ne (fun z => by have e := hT k' T nm e1 e2; rw [z, hd] at e; cases e)]
      exact hT k' T nm e1 e2
    · exact ⟨Ts, rfl, h, fun k' T nm e1 e2 => by rw [upd_ne (fun z => by have e := hT k' T nm e1 e2; rw [z, hd] at e; cases e)]; exact hT k' T nm e1 e2⟩
  · rw [List.getElem?_map] at hx
    cases e : fs[i]? with
    | none => rw [e] at hx; cases hx
    | some f =>
      rw [e] at hx
      cases hx
      obtain ⟨hif, _⟩ := List.getElem?_eq_some_iff.1 e
      have en := List.getElem?_eq_getElem (l := nms) (i := i) (by omega)
      obtain ⟨Ts, rfl, h, hT⟩ := p
      refine turn B hB i f _ H' e en (fun b o eb => s b o id eb) R fun T H'' eT s2 => hR _ _ (Same.b s2) ⟨Ts ++ [T], by rw [List.map_append]; rfl, by rw [List.length_append, h]; rfl, fun k T' nm e1 e2 => ?_⟩
      by_cases hk : k < Ts.length
      · rw [List.getElem?_append_left hk] at e1
        exact s2 _ _ (hT k T' nm e1 e2)
      · rw [List.getElem?_append_right (by omega)] at e1
        cases z : k - Ts.length with
        | zero =>
          rw [z] at e1
          cases e1
          have : k = i := by omega
          rw [this, en] at e2
          cases e2
          exact eT
        | succ m => rw [z] at e1; simp at e1
  · obtain ⟨Ts, rfl, h, hT⟩ := pv
    exact q p Ts H' (fun b o eb => s b o id eb) hL (by rw [h, List.length_map, hnl]) hT
theorem dp_outsL {p : Addr} : ∀ {Ts : List Addr} {nms : List Str}, Ts.length = nms.length → (∀ (i : Nat) T nm, Ts[i]? = some T → nms[i]? = some nm → H T = some (.tup [.str nm])) → DpAll K H (Ts.map V.ref) (nms.map fun nm => .tuple [.str nm])
  | [], [], _, _ => .nil
  | [], _ :: _, h, _ => by simp at h
  | _ :: _, [], h, _ => by simp at h
  | T :: Ts, nm :: nms, h, k => .cons (.tup (SqT.of (k 0 T nm rfl rfl)) (.cons (.str nm) .nil)) (dp_outsL (p := p) (by simpa using h) fun i T' n' e1 e2 => k (i + 1) T' n' (by simpa using e1) (by simpa using e2))
end
end Odd

namespace Odd
open PySem PySem.Spec PyProof.Rows L2
/-! ### texts -/
section
variable {X0 : Cx} {E : XK} {H : Hp} {Q : VK} {QB : Bool → Hp → Prop} {i j : Int} {x y : Str}
theorem dec_strV (x y : Str) : decide (V.str x = V.str y) = decide (x = y) := by
  by_cases h : x = y
  · rw [decide_eq_true h, decide_eq_true (by rw [h])]
  · rw [decide_eq_false h, decide_eq_false fun e => h (by injection e)]
theorem s_catS (hz : x.length + y.length ≤ sizeLine) (q : Q (.str (x ++ y)) H) : ∃ r, OpD X0 E (binaryOp .Add) r ∧ r (.str x) (.str y) H Q := ⟨_, fun _ _ _ => op_add_str, x, y, rfl, rfl, hz, q⟩
theorem s_strI (h : i.natAbs.log2 < 1920) (q : Q (.str (toString i)) H) : ∃ r, CaD X0 E (.type "str") r ∧ r [.int i] H Q := ⟨_, fun _ _ _ => call_str_int, i, rfl, h, q⟩
theorem s_intS {n : Int} (h : PySem.intText? x = some n) (hl : x.length ≤ 640) (q : Q (.int n) H) : ∃ r, CaD X0 E (.type "int") r ∧ r [.str x] H Q := ⟨_, fun _ _ _ => call_int_str, x, n, rfl, h, hl, q⟩
theorem s_intI (q : Q (.int i) H) : ∃ r, CaD X0 E (.type "int") r ∧ r [.int i] H Q := ⟨_, fun _ _ _ => call_int1, .inl ⟨i, rfl, q⟩⟩
theorem s_lenStr (h : x.length ≤ sizeLine) (q : Q (.int x.length) H) : ∃ r, CaD X0 E (.builtin "len") r ∧ r [.str x] H Q := ⟨_, fun _ _ _ => call_len_str, x, rfl, h, q⟩
theorem s_eqS (q : Q (.bl (decide (x = y))) H) : ∃ r, OpD X0 E (compareOp .Eq) r ∧ r (.str x) (.str y) H Q := ⟨_, fun _ _ _ => op_eq, rfl, by rw [dec_strV]; exact q⟩
theorem s_neS (q : Q (.bl (!decide (x = y))) H) : ∃ r, OpD X0 E (compareOp .NotEq) r ∧ r (.str x) (.str y) H Q := ⟨_, fun _ _ _ => op_ne, rfl, by rw [dec_strV]; exact q⟩
theorem s_ixStr {c : Nat} (hz : x.length ≤ sizeLine) (h : atI x.cps.toList i = some c) (q : Q (.str ⟨#[c]⟩) H) : ∃ r, IxD X0 E r ∧ r (.str x) (.int i) H Q :=
  ⟨rIxS, fun _ _ _ => ix_plain ix_str, x, i, c, rfl, rfl, hz, h, q⟩
theorem s_max2 (hc : X0.calm = true) (q : Q (.int (if j > i then j else i)) H) : ∃ r, CaD X0 E (.builtin "max") r ∧ r [.int i, .int j] H Q := ⟨_, fun _ l _ => call_max2 (by rw [l.calm]; exact hc), i, j, rfl, q⟩
theorem s_min2 (hc : X0.calm = true) (q : Q (.int (if j < i then j else i)) H) : ∃ r, CaD X0 E (.builtin "min") r ∧ r [.int i, .int j] H Q := ⟨_, fun _ l _ => call_min2 (by rw [l.calm]; exact hc), i, j, rfl, q⟩
theorem w_m0 {r : V → List V → Hp → VK → Prop} {to : TE} {σ : L2.St} (h : to σ H fun x H1 => (∃ a, x = .str a) ∧ r x [] H1 Q) : tM0 r to σ H Q := h
theorem w_m1 {r : V → List V → Hp → VK → Prop} {to te : TE} {σ : L2.St} (h : to σ H fun x H1 => (∃ a, x = .str a) ∧ te σ H1 fun y H2 => r x [y] H2 Q) : tM1 r to te σ H Q := h
end
theorem g_trip {K : PySem.W.Frag} {T : Addr} {x y z : V} {i j l : Nat} {σ : L2.St} {H : Hp} {R : L2.St → Hp → Prop} (hT : SqT K H T [x, y, z]) (h : R (((σ.set i (some x)).set j (some y)).set l (some z)) H) : gTup K 3 (gCons (gName i) (gCons (gName j) (gCons (gName l) gNil))) (.ref T) σ H R :=
  ⟨T, [x, y, z], rfl, hT, rfl, x, [y, z], rfl, y, [z], rfl, z, [], rfl, rfl, h⟩
section
variable {K : PySem.W.Frag} {a : Addr} {xs : List V} {tb : TS} {D : Ends} {σ : L2.St} {H : Hp} {ta : TA} {i j : Nat} {tt : TT} {te : TE} {vs : List Nat} {Q : VK}
/-- for i, x in enumerate(a list) -/
theorem f_enumL (Pv : Nat → L2.St → Hp → Prop) (ht : ∀ R : List V → Hp → Prop, R [.ref a] H → ta σ H R) (h0 : Pv 0 σ H) (hl : ∀ i σ H, i ≤ xs.length → Pv i σ H → SqL K H a xs)
    (hs : ∀ k x σ H T, xs[k]? = some x → Pv k σ H → H T = none → tb { D with nx := Pv (k + 1), ct := Pv (k + 1), bk := D.nx } ((σ.set i (some (.int (k : Nat)))).set j (some x)) (upd H T (.tup [.int (k : Nat), x]))) (hd : ∀ σ H, Pv xs.length σ H → D.nx σ H) :
    tFor (iEnumA K ta) (gTup K 2 (gCons (gName i) (gCons (gName j) gNil))) tb D σ H :=
  ht _ ⟨a, rfl, .inl ⟨⟨xs, hl 0 σ H (Nat.zero_le _) h0⟩, for_it walk_enum Pv h0 hl (fun k x σ H H' hk p y => by
    obtain ⟨T, u, v, e1, e2, e3, e4, e5⟩ := y
    cases e4
    subst e1 e3
    exact g_pair (SqT.of upd_same) (hs k v σ H T e5 p e2)) hd⟩⟩
/-- [.. for i, x in enumerate(a list)], items made on the way -/
theorem c_enumLI (S : Addr → Prop) (Pv : Nat → List V → Hp → Prop) (hS : ∀ b, S b → H b ≠ none) (h0 : ∀ D, H D = none → Pv 0 [] (upd H D (.lst []))) (hz : ∀ i o H', i < xs.length → Pv i o H' → o.length < 100000) (hx : ∀ H', SameB S H H' → SqL K H' a xs)
    (hD : ∀ i o H' D l l', H D = none → H' D = some (.lst l) → Pv i o H' → Pv i o (upd H' D (.lst l'))) (hw : ∀ x y, wipe (((wipe σ vs).set i (some x)).set j (some y)) vs = wipe σ vs)
    (hT : ∀ k o H' T o', H' T = none → Pv k o H' → Pv k o (upd H' T o'))
    (turn : ∀ k x H' o, xs[k]? = some x → SameB S H H' → Pv k o H' → TurnI S Pv k tt te (((wipe σ vs).set i (some (.int (k : Nat)))).set j (some x)) H' o)
    (q : ∀ p o H', H p = none → SameB S H H' → Pv xs.length o H' → H' p = some (.lst o) → Q (.ref p) H')
    (ht : ∀ R : List V → Hp → Prop, R [.ref a] H → ta σ H R) : tLc (iEnumA K ta) (gTup K 2 (gCons (gName i) (gCons (gName j) gNil))) tt te vs σ H Q :=
  ht _ ⟨a, rfl, .inl ⟨⟨xs, hx H (SameB.refl H)⟩, c_walkI S Pv walk_enum hS h0 hz hx hD (fun k x H1 H' o hk s p y R q' => by
    obtain ⟨T, u, v, e1, e2, e3, e4, e5⟩ := y
    cases e4
    subst e1 e3
    have p' := hT k o H1 T (.tup [.int (k : Nat), v]) e2 p
    have s' : SameB S H1 (upd H1 T (.tup [.int (k : Nat), v])) := Same.b (same_new e2)
    exact g_pair (SqT.of upd_same) (q' _ (hw _ _) s' (turn k v _ o e5 (s.trans s') p'))) q⟩⟩
end
/-- one continuation where a conditional expression would make two -/
theorem w_ifJ {t : TT} {ta tb : TE} {σ : L2.St} {H : Hp} {Q : VK} (G : V → Hp → Prop) (h : ∀ R : VK, (∀ v H', G v H' → R v H') → tIf t ta tb σ H R) (q : ∀ v H', G v H' → Q v H') : tIf t ta tb σ H Q := h Q q
theorem w_lcR {ta : TA} {g : TG} {tt : TT} {te : TE} {vs0 : List Nat} {σ : L2.St} {H : Hp} {Q : VK} (h : ta σ H fun vs H1 => tLc (iRng1 fun _ H R => R vs H) g tt te vs0 σ H1 Q) : tLc (iRng1 ta) g tt te vs0 σ H Q := h
theorem w_lcQ {K : PySem.W.Frag} {tl : TE} {g : TG} {tt : TT} {te : TE} {vs0 : List Nat} {σ : L2.St} {H : Hp} {Q : VK} (h : tl σ H fun x H1 => tLc (iSeq K fun _ H R => R x H) g tt te vs0 σ H1 Q) : tLc (iSeq K tl) g tt te vs0 σ H Q := h
theorem w_lcE {K : PySem.W.Frag} {ta : TA} {g : TG} {tt : TT} {te : TE} {vs0 : List Nat} {σ : L2.St} {H : Hp} {Q : VK} (h : ta σ H fun vs H1 => tLc (iEnumA K fun _ H R => R vs H) g tt te vs0 σ H1 Q) : tLc (iEnumA K ta) g tt te vs0 σ H Q := h
theorem w_slf {r : V → Option Int → Option Int → Hp → VK → Prop} {te tu : TE} {σ : L2.St} {H : Hp} {Q : VK} (h : te σ H fun x H1 => tu σ H1 fun y H2 => ∃ i, y = .int i ∧ r x (some i) none H2 Q) : tSl r te (tPart tu) tNoPart σ H Q := h
end Odd

namespace Odd
open PySem PySem.Spec PyProof.Rows L2
/-! ### rows of numbers as texts -/
/-- a number written out -/
def numS (i : Int) : Str := (toString i : String)
theorem tl_numS {i : Int} (h : 0 ≤ i) : TL.tl (numS i) = TL.numL i.toNat := by
  obtain ⟨n, rfl⟩ := Int.eq_ofNat_of_zero_le h
  rw [Int.toNat_natCast]
  exact TL.tl_num n
theorem numS_len {i : Int} (h : 0 ≤ i) (h2 : i < 10 ^ 13) : (numS i).length ≤ 13 ∧ 1 ≤ (numS i).length := by
  rw [TL.len_tl, tl_numS h]
  refine ⟨TL.numL_len (by decide) (by omega), ?_⟩
  exact List.length_pos_iff.2 (TL.numL_ne _)
theorem numS_int {i : Int} (h : 0 ≤ i) (h2 : i < 10 ^ 13) : PySem.intText? (numS i) = some i := by
  obtain ⟨n, rfl⟩ := Int.eq_ofNat_of_zero_le h
  refine TL.int_num ?_
  have := TL.numL_len (n := n) (k := 13) (by decide) (by omega)
  omega
theorem digit_uni : ∀ c : Nat, 48 ≤ c → c ≤ 57 → PySem.Unicode.isDigit c = true := by
  intro c h1 h2
  have : c = 48 ∨ c = 49 ∨ c = 50 ∨ c = 51 ∨ c = 52 ∨ c = 53 ∨ c = 54 ∨ c = 55 ∨ c = 56 ∨ c = 57 := by omega
  rcases this with h | h | h | h | h | h | h | h | h | h <;> subst h <;> decide +kernel
theorem cps_all {x : Str} {f : Nat → Bool} (h : ∀ c ∈ TL.tl x, f c = true) : x.cps.all f = true := by
  rw [← Array.all_toList, List.all_eq_true]
  exact h
theorem numS_dig {i : Int} (h : 0 ≤ i) : ∀ c ∈ TL.tl (numS i), 48 ≤ c ∧ c ≤ 57 := fun c hc => by
  rw [tl_numS h] at hc
  exact TL.numL_digits _ c hc
theorem numS_ascii {i : Int} (h : 0 ≤ i) : Txt.isascii (numS i) = true := by
  unfold Txt.isascii
  exact cps_all fun c hc => by have := numS_dig h c hc; rw [decide_eq_true_iff]; omega
theorem numS_digit {i : Int} (h : 0 ≤ i) : Txt.isdigit (numS i) = true := by
  unfold Txt.isdigit
  have : 1 ≤ (numS i).length := by
    rw [TL.len_tl, tl_numS h]
    exact List.length_pos_iff.2 (TL.numL_ne _)
  rw [cps_all fun c hc => digit_uni c (numS_dig h c hc).1 (numS_dig h c hc).2, Bool.and_true, decide_eq_true_iff]
  omega
theorem numL_head : ∀ n : Nat, 0 < n → ∃ c r, TL.numL n = c :: r ∧ c ≠ 48 := by
  intro n
  induction n using Nat.strongRecOn with
  | _ n ih =>
    intro h0
    by_cases h : n < 10
    · rw [TL.numL_lt h]
      exact ⟨48 + n, [], rfl, by omega⟩
    · obtain ⟨c, r, e, hc⟩ := ih (n / 10) (by omega) (by omega)
      rw [TL.numL_step (by omega), e]
      exact ⟨c, r ++ [48 + n % 10], rfl, hc⟩
theorem numS_zero : numS 0 = "0" := by
  refine TL.ext_tl ?_
  rw [tl_numS (by decide)]
  decide +kernel
/-- what a joined text is made of -/
theorem joinL_len (S : List Nat) : ∀ ps : List (List Nat), (TL.joinL S ps).length ≤ (ps.map List.length).sum + ps.length * S.length
  | [] => Nat.zero_le _
  | [p] => by simp [TL.joinL]
  | p :: q :: r => by
    have ih := joinL_len S (q :: r)
    show (p ++ (S ++ TL.joinL S (q :: r))).length ≤ _
    rw [List.length_append, List.length_append, List.map_cons, List.sum_cons, List.length_cons, Nat.succ_mul]
    omega
theorem joinL_mem (S : List Nat) {c : Nat} : ∀ ps : List (List Nat), c ∈ TL.joinL S ps → c ∈ S ∨ ∃ p ∈ ps, c ∈ p
  | [], h => by simp [TL.joinL] at h
  | [p], h => .inr ⟨p, List.mem_singleton_self _, h⟩
  | p :: q :: r, h => by
    have h' : c ∈ p ++ (S ++ TL.joinL S (q :: r)) := h
    rcases List.mem_append.1 h' with h | h
    · exact .inr ⟨p, List.mem_cons_self .., h⟩
    · rcases List.mem_append.1 h with h | h
      · exact .inl h
      · rcases joinL_mem S (q :: r) h with h | ⟨z, hz, h⟩
        · exact .inl h
        · exact .inr ⟨z, List.mem_cons_of_mem _ hz, h⟩
/-- a row: a first word and numbers -/
def rowW (f : Str) (ns : List Int) : List Str := f :: ns.map numS
def rowS (f : Str) (ns : List Int) : Str := Txt.join " " (rowW f ns)
def Nums (ns : List Int) : Prop := ∀ i ∈ ns, 0 ≤ i ∧ i < 10 ^ 13
def FirstW (f : Str) : Prop := f.length ≤ 6 ∧ ∀ c ∈ TL.tl f, 97 ≤ c
theorem first_table : FirstW "table" := by constructor <;> decide +kernel
theorem first_bill : FirstW "bill" := by constructor <;> decide +kernel
theorem sum_le_of {α : Type} (f : α → Nat) (k : Nat) : ∀ l : List α, (∀ x ∈ l, f x ≤ k) → (l.map f).sum ≤ l.length * k
  | [], _ => by simp
  | x :: l, h => by
    have := sum_le_of f k l fun y hy => h y (List.mem_cons_of_mem _ hy)
    have := h x (List.mem_cons_self ..)
    rw [List.map_cons, List.sum_cons, List.length_cons, Nat.succ_mul]
    omega
theorem rowW_sum {f : Str} {ns : List Int} (hf : FirstW f) (h : Nums ns) (hl : ns.length ≤ 9) : ((rowW f ns).map (·.length)).sum + (rowW f ns).length * 1 ≤ 140 := by
  have e : ((rowW f ns).map (·.length)).sum = f.length + (ns.map fun i => (numS i).length).sum := by
    unfold rowW
    rw [List.map_cons, List.sum_cons, List.map_map]
    rfl
  have := sum_le_of (fun i => (numS i).length) 13 ns fun i hi => (numS_len (h i hi).1 (h i hi).2).1
  have : ns.length * 13 ≤ 9 * 13 := Nat.mul_le_mul_right _ hl
  have := hf.1
  rw [e]
  unfold rowW
  rw [List.length_cons, List.length_map]
  omega
theorem rowS_len {f : Str} {ns : List Int} (hf : FirstW f) (h : Nums ns) (hl : ns.length ≤ 9) : (rowS f ns).length ≤ 140 := by
  have h1 := rowW_sum hf h hl
  unfold rowS
  rw [TL.join_eq, TL.len_tl, TL.tl_join]
  refine Nat.le_trans (joinL_len _ _) ?_
  rw [List.map_map, List.length_map]
  have e : (List.map (List.length ∘ TL.tl) (rowW f ns)) = (rowW f ns).map (·.length) := List.map_congr_left fun x _ => (TL.len_tl x).symm
  rw [e, show (TL.tl " ").length = 1 from rfl]
  exact h1
theorem tl_sp : TL.tl " " = 32 :: [] := rfl
theorem tl_nl : TL.tl "\n" = 10 :: [] := rfl
theorem word_free {f : Str} {ns : List Int} (hf : FirstW f) (h : Nums ns) {c : Nat} (hc : c < 48) : ∀ p ∈ rowW f ns, c ∉ TL.tl p := fun p hp hm => by
  rcases List.mem_cons.1 hp with e | e
  · subst e
    have := hf.2 c hm
    omega
  · obtain ⟨i, hi, rfl⟩ := List.mem_map.1 e
    have := numS_dig (h i hi).1 c hm
    omega
theorem row_split {f : Str} {ns : List Int} (hf : FirstW f) (h : Nums ns) : Txt.split (rowS f ns) " " = rowW f ns :=
  TL.split_join tl_sp (by decide +kernel) (by unfold rowW; simp) (word_free hf h (by decide))
theorem row_free {f : Str} {ns : List Int} (hf : FirstW f) (h : Nums ns) : 10 ∉ TL.tl (rowS f ns) := fun hm => by
  unfold rowS at hm
  rw [TL.join_eq, TL.tl_join] at hm
  rcases joinL_mem _ _ hm with z | ⟨p, hp, z⟩
  · rw [tl_sp] at z
    simp at z
  · obtain ⟨x, hx, rfl⟩ := List.mem_map.1 hp
    exact word_free hf h (by decide) x hx z
/-- the first word of an evening's text, and its number -/
theorem table_row (n : Nat) : ("table " : Str) ++ numS n = rowS "table" [(n : Int)] := by
  refine TL.ext_tl ?_
  unfold rowS
  rw [TL.tl_append, TL.join_eq, TL.tl_join]
  show _ = TL.tl "table" ++ (TL.tl " " ++ TL.tl (numS n))
  rw [← List.append_assoc]
  rfl
/-- the numbers of the rows of an evening's text -/
def evRows (n : Nat) (bs : List (Int × List Int)) : List Str := rowS "table" [(n : Int)] :: bs.map fun b => rowS "bill" (b.1 :: b.2)
def evText (n : Nat) (bs : List (Int × List Int)) : Str := Txt.join "\n" (evRows n bs)
end Odd

namespace Odd
open PySem PySem.Spec PyProof.Rows L2
/-! ### comprehensions whose items are new lists: the list under way is named -/
def TurnJ (S : Addr → Prop) (Pv : Nat → List V → Hp → Prop) (D : Addr) (i : Nat) (tt : TT) (te : TE) (σ2 : L2.St) (H1 : Hp) (o : List V) : Prop :=
  ∀ (K1 : VK) (K0 : Hp → Prop), (∀ y H4, SameB S H1 H4 → Pv (i + 1) (o ++ [y]) (upd H4 D (.lst (o ++ [y]))) → K1 y H4) → (∀ H3, SameB S H1 H3 → Pv (i + 1) o H3 → K0 H3) → tt σ2 H1 fun b H3 => if b = true then te σ2 H3 K1 else K0 H3
theorem turnJ_map {S : Addr → Prop} {Pv : Nat → List V → Hp → Prop} {D : Addr} {i : Nat} {te : TE} {σ2 : L2.St} {H1 : Hp} {o : List V} (h : ∀ R : VK, (∀ y H4, SameB S H1 H4 → Pv (i + 1) (o ++ [y]) (upd H4 D (.lst (o ++ [y]))) → R y H4) → te σ2 H1 R) : TurnJ S Pv D i tYes te σ2 H1 o := fun K1 K0 k1 _ => by
  show (if true = true then te σ2 H1 K1 else K0 H1)
  rw [if_pos rfl]
  exact h K1 k1
section
variable {K : PySem.W.Frag} {J : It} {n : Nat} {G : Hp → Prop} {Y : Nat → Hp → V → Hp → Prop} {g : TG} {tt : TT} {te : TE} {vs : List Nat} {σ : L2.St} {H : Hp} {Q : VK}
theorem c_walkJ (S : Addr → Prop) (Pv : Addr → Nat → List V → Hp → Prop) (w : Walk J n G Y) (hS : ∀ b, S b → H b ≠ none) (h0 : ∀ D, H D = none → Pv D 0 [] (upd H D (.lst []))) (hz : ∀ D i o H', i < n → Pv D i o H' → o.length < 100000) (hG : ∀ H', SameB S H H' → G H')
    (turn : ∀ D i x H1 H' o, H D = none → i < n → SameB S H H1 → H1 D = some (.lst o) → Pv D i o H1 → Y i H1 x H' → ∀ R : L2.St → Hp → Prop, (∀ σ2, wipe σ2 vs = wipe σ vs → SameB S H1 H' → TurnJ S (Pv D) D i tt te σ2 H' o → R σ2 H') → g x (wipe σ vs) H' R)
    (q : ∀ p o H', H p = none → SameB S H H' → Pv p n o H' → H' p = some (.lst o) → Q (.ref p) H') :
    ∀ D, H D = none → ∃ W : Nat → Nat → Hp → Prop, (∃ m, W 0 m (upd H D (.lst []))) ∧ ∀ i m H, W i m H →
      (J.stop i H ∧ Q (.ref D) H) ∨ (J.go i H ∧ ∃ Nx : Hp → Prop, (∀ H', Nx H' → ∃ m', m' < m ∧ W (i + 1) m' H') ∧ ∀ x H', J.yld i H x H' → g x (wipe σ vs) H' fun σ2 H2 => wipe σ2 vs = wipe σ vs ∧ tt σ2 H2 fun b H3 =>
        if b = true then te σ2 H3 fun y H4 => ∃ acc, H4 D = some (.lst acc) ∧ acc.length < sizeLine ∧ Nx (upd H4 D (.lst (acc ++ [y]))) else Nx H3) := fun D hDn => by
  have nS : ¬ S D := fun z => hS D z hDn
  refine lc_it w (Qd := fun H' => Q (.ref D) H') (fun i H' => ∃ o, SameB S H H' ∧ H' D = some (.lst o) ∧ Pv D i o H') ⟨[], (SameB.refl H).upd hDn, upd_same, h0 D hDn⟩ (fun i H' _ p => hG H' p.choose_spec.1) (fun i x H1 H' hi p y => ?_) fun H' p => ?_
  · obtain ⟨o, s1, d1, p1⟩ := p
    refine turn D i x H1 H' o hDn hi s1 d1 p1 y _ fun σ2 ew s2 t => ⟨ew, ?_⟩
    have d2 : H' D = some (.lst o) := s2 _ _ nS d1
    exact t _ _ (fun y H4 s4 p4 => ⟨o, s4 _ _ nS d2, Nat.lt_of_lt_of_le (hz D i o H1 hi p1) (by decide), o ++ [y], ((s1.trans s2).trans s4).upd hDn, upd_same, p4⟩)
      fun H3 s3 p3 => ⟨o, (s1.trans s2).trans s3, s3 _ _ nS d2, p3⟩
  · obtain ⟨o, s1, d1, p1⟩ := p
    exact q D o H' hDn s1 p1 d1
variable {a b : Addr} {xs ys : List V} {j j2 : Nat}
theorem c_tupJ (S : Addr → Prop) (Pv : Addr → Nat → List V → Hp → Prop) (hS : ∀ b, S b → H b ≠ none) (h0 : ∀ D, H D = none → Pv D 0 [] (upd H D (.lst []))) (hz : ∀ D i o H', i < xs.length → Pv D i o H' → o.length < 100000) (hx : ∀ H', SameB S H H' → SqT K H' a xs)
    (hw : ∀ x, wipe ((wipe σ vs).set j (some x)) vs = wipe σ vs)
    (turn : ∀ D i x H' o, H D = none → xs[i]? = some x → SameB S H H' → H' D = some (.lst o) → Pv D i o H' → TurnJ S (Pv D) D i tt te ((wipe σ vs).set j (some x)) H' o)
    (q : ∀ p o H', H p = none → SameB S H H' → Pv p xs.length o H' → H' p = some (.lst o) → Q (.ref p) H')
    {tl : TE} (ht : ∀ R : VK, R (.ref a) H → tl σ H R) : tLc (iSeq K tl) (gName j) tt te vs σ H Q :=
  ht _ ⟨a, rfl, .inr ⟨⟨xs, hx H (SameB.refl H)⟩, c_walkJ S Pv walk_tupS hS h0 hz hx (fun D i x H1 H' o hD hi s d p y R k => by
    obtain ⟨e1, e2⟩ := y
    subst e1
    exact k _ (hw x) (SameB.refl _) (turn D i x _ o hD e2 s d p)) q⟩⟩
theorem c_listJ (S : Addr → Prop) (Pv : Addr → Nat → List V → Hp → Prop) (hS : ∀ b, S b → H b ≠ none) (h0 : ∀ D, H D = none → Pv D 0 [] (upd H D (.lst []))) (hz : ∀ D i o H', i < xs.length → Pv D i o H' → o.length < 100000) (hx : ∀ H', SameB S H H' → SqL K H' a xs)
    (hw : ∀ x, wipe ((wipe σ vs).set j (some x)) vs = wipe σ vs)
    (turn : ∀ D i x H' o, H D = none → xs[i]? = some x → SameB S H H' → H' D = some (.lst o) → Pv D i o H' → TurnJ S (Pv D) D i tt te ((wipe σ vs).set j (some x)) H' o)
    (q : ∀ p o H', H p = none → SameB S H H' → Pv p xs.length o H' → H' p = some (.lst o) → Q (.ref p) H')
    {tl : TE} (ht : ∀ R : VK, R (.ref a) H → tl σ H R) : tLc (iSeq K tl) (gName j) tt te vs σ H Q :=
  ht _ ⟨a, rfl, .inl ⟨⟨xs, hx H (SameB.refl H)⟩, c_walkJ S Pv walk_listS hS h0 hz hx (fun D i x H1 H' o hD hi s d p y R k => by
    obtain ⟨e1, e2⟩ := y
    subst e1
    exact k _ (hw x) (SameB.refl _) (turn D i x _ o hD e2 s d p)) q⟩⟩
theorem c_rngJ {ta : TA} {n : Nat} (S : Addr → Prop) (Pv : Addr → Nat → List V → Hp → Prop) (hn : n < 100000) (hS : ∀ b, S b → H b ≠ none) (h0 : ∀ D, H D = none → Pv D 0 [] (upd H D (.lst []))) (hz : ∀ D i o H', i < n → Pv D i o H' → o.length < 100000)
    (hw : ∀ x, wipe ((wipe σ vs).set j (some x)) vs = wipe σ vs)
    (turn : ∀ D (i : Nat) H' o, H D = none → i < n → SameB S H H' → H' D = some (.lst o) → Pv D i o H' → TurnJ S (Pv D) D i tt te ((wipe σ vs).set j (some (.int i))) H' o)
    (q : ∀ p o H', H p = none → SameB S H H' → Pv p n o H' → H' p = some (.lst o) → Q (.ref p) H')
    (ht : ∀ R : List V → Hp → Prop, R [.int n] H → ta σ H R) : tLc (iRng1 ta) (gName j) tt te vs σ H Q :=
  ht _ ⟨n, rfl, by omega, by omega, by
    rw [Int.toNat_natCast]
    exact c_walkJ S Pv (Y := YFn fun i => .int (0 + (i : Int))) (G := fun _ => True) ⟨fun i _ hi _ => hi, fun _ _ => Nat.le_refl _, fun i H x H' _ _ y => y⟩ hS h0 hz (fun _ _ => True.intro) (fun D i x H1 H' o hD hi s d p y R k => by
      obtain ⟨e1, e2⟩ := y
      subst e1 e2
      refine k _ (hw _) (SameB.refl _) ?_
      show TurnJ S (Pv D) D i tt te ((wipe σ vs).set j (some (.int ((0 : Int) + (i : Int))))) H' o
      rw [Int.zero_add]
      exact turn D i _ o hD hi s d p) q⟩
theorem c_enumLJ {ta : TA} (S : Addr → Prop) (Pv : Addr → Nat → List V → Hp → Prop) (hS : ∀ b, S b → H b ≠ none) (h0 : ∀ D, H D = none → Pv D 0 [] (upd H D (.lst []))) (hz : ∀ D i o H', i < xs.length → Pv D i o H' → o.length < 100000) (hx : ∀ H', SameB S H H' → SqL K H' a xs)
    (hw : ∀ x y, wipe (((wipe σ vs).set j (some x)).set j2 (some y)) vs = wipe σ vs)
    (hT : ∀ D k o H' T o', H' T = none → H' D = some (.lst o) → Pv D k o H' → Pv D k o (upd H' T o'))
    (turn : ∀ D k x H' o, H D = none → xs[k]? = some x → SameB S H H' → H' D = some (.lst o) → Pv D k o H' → TurnJ S (Pv D) D k tt te (((wipe σ vs).set j (some (.int (k : Nat)))).set j2 (some x)) H' o)
    (q : ∀ p o H', H p = none → SameB S H H' → Pv p xs.length o H' → H' p = some (.lst o) → Q (.ref p) H')
    (ht : ∀ R : List V → Hp → Prop, R [.ref a] H → ta σ H R) : tLc (iEnumA K ta) (gTup K 2 (gCons (gName j) (gCons (gName j2) gNil))) tt te vs σ H Q :=
  ht _ ⟨a, rfl, .inl ⟨⟨xs, hx H (SameB.refl H)⟩, c_walkJ S Pv walk_enum hS h0 hz hx (fun D k x H1 H' o hD hk s d p y R q' => by
    obtain ⟨T, u, v, e1, e2, e3, e4, e5⟩ := y
    cases e4
    subst e1 e3
    have p' := hT D k o H1 T (.tup [.int (k : Nat), v]) e2 d p
    have s' : SameB S H1 (upd H1 T (.tup [.int (k : Nat), v])) := Same.b (same_new e2)
    have d' : (upd H1 T (.tup [.int (k : Nat), v])) D = some (.lst o) := by rw [upd_ne (ne_of_none d e2)]; exact d
    exact g_pair (SqT.of upd_same) (q' _ (hw _ _) s' (turn D k v _ o hD e5 (s.trans s') d' p'))) q⟩⟩
end
theorem s_notIn {X0 : Cx} {E : XK} {H : Hp} {Q : VK} {l : Addr} {z : Int} {ss : List Int} (h : SqL X0.K H l (ss.map V.int) ∨ SqT X0.K H l (ss.map V.int)) (q : Q (.bl (!decide (z ∈ ss))) H) : ∃ r, OpD X0 E (compareOp .NotIn) r ∧ r (.int z) (.ref l) H Q :=
  ⟨rIn X0.K true, fun X li _ => by rw [← li.K]; exact op_notIn_seq, l, _, rfl, h, rfl, by rw [List.all_map, List.all_eq_true]; exact fun _ _ => rfl, by
    show Q (.bl (!inV (.int z) (ss.map V.int))) H
    rw [inV_int]
    exact q⟩
/-- a test of two parts that are known -/
theorem w_orT {t u : TT} {σ : L2.St} {H : Hp} {QB : Bool → Hp → Prop} {c d : Bool} (h1 : ∀ R : Bool → Hp → Prop, R c H → t σ H R) (h2 : ∀ R : Bool → Hp → Prop, R d H → u σ H R) (q : QB (c || d) H) : tOr t u σ H QB :=
  w_or (h1 _ (by
    cases c with
    | true => exact iteT q
    | false => exact iteF (h2 _ q)))
theorem w_andT {t u : TT} {σ : L2.St} {H : Hp} {QB : Bool → Hp → Prop} {c d : Bool} (h1 : ∀ R : Bool → Hp → Prop, R c H → t σ H R) (h2 : ∀ R : Bool → Hp → Prop, R d H → u σ H R) (q : QB (c && d) H) : tAnd t u σ H QB :=
  w_and (h1 _ (by
    cases c with
    | true => exact iteT (h2 _ q)
    | false => exact iteF q))
end Odd

namespace TM2
open PySem PySem.Spec PyProof.Rows L2
theorem tuple_mul1 (l : Addr) (items : Array Value) (n : Nat) (dd : Option Addr) (sl : Array (Option Value)) (x : Int) (u : Tok) (c0 : (decide (x < -(2 ^ 63)) || decide (x ≥ 2 ^ 63)) = false) (c1 : (items.isEmpty || x == 1) = true) :
    Meets (Builtin.«tuple.__mul__» ⟨[.ref l, .int x u], []⟩) (fun _ R s => s.heap.get? l = some { cls := .type "tuple", dict := dd, data := .seq items n, slots := sl } ∧
      R (.ok (.ret (Value.ref l))) s) :=
  .of_wp fun prog w A R s h => by
    obtain ⟨hp, g, d, tk, os⟩ := s
    obtain ⟨hl, h⟩ := h
    have f1 := AutoSeq1.idx_int
    wp_walk using wpAny_loadPart' hl
    repeat (first
      | (refine wpAny_ite_false (decide_eq_false (by rw [c0]; exact Bool.false_ne_true)) ?_; wp_walk using wpAny_loadPart' hl)
      | (refine wpAny_ite_true (decide_eq_true c1) ?_; wp_walk using wpAny_loadPart' hl))
    exact ⟨_, rfl, h⟩
theorem tuple_mul0 (l : Addr) (items : Array Value) (n : Nat) (dd : Option Addr) (sl : Array (Option Value)) (x : Int) (u : Tok) (c0 : (decide (x < -(2 ^ 63)) || decide (x ≥ 2 ^ 63)) = false) (c1 : (items.isEmpty || x == 1) = false) (c2 : (decide (x ≤ 0) || items.isEmpty) = true) :
    Meets (Builtin.«tuple.__mul__» ⟨[.ref l, .int x u], []⟩) (fun _ R s => s.heap.get? l = some { cls := .type "tuple", dict := dd, data := .seq items n, slots := sl } ∧
      R (.ok (.ret (Value.ref s.heap.objs.size))) { s with heap := s.heap.push { cls := Value.type "tuple", data := Data.seq #[] }, toks := s.toks }) :=
  .of_wp fun prog w A R s h => by
    obtain ⟨hp, g, d, tk, os⟩ := s
    obtain ⟨hl, h⟩ := h
    have f1 := AutoSeq1.idx_int
    wp_walk using wpAny_loadPart' hl
    repeat (first
      | (refine wpAny_ite_false (decide_eq_false (by rw [c0]; exact Bool.false_ne_true)) ?_; wp_walk using wpAny_loadPart' hl)
      | (refine wpAny_ite_false (decide_eq_false (by rw [c1]; exact Bool.false_ne_true)) ?_; wp_walk using wpAny_loadPart' hl)
      | (refine wpAny_ite_true (decide_eq_true c2) ?_; wp_walk using wpAny_loadPart' hl))
    exact ⟨_, rfl, h⟩
end TM2
namespace Odd
open PySem PySem.Spec PyProof.Rows L2
def rRepT1 (K : PySem.W.Frag) : R2 := fun x y H Q => ∃ l k xs, x = .ref l ∧ y = .int k ∧ SqT K H l xs ∧ 0 ≤ k ∧ k ≤ 1000 ∧ (xs = [] ∨ k = 1) ∧ Q (.ref l) H
def rRepT0 (K : PySem.W.Frag) : R2 := fun x y H Q => ∃ l xs, x = .ref l ∧ y = .int 0 ∧ SqT K H l xs ∧ xs ≠ [] ∧ ∀ p, H p = none → Q (.ref p) (upd H p (.tup []))
section
variable {X : Cx}
theorem op_repT1 : OpR X (binaryOp .Mult) (rRepT1 X.K) := by
  intro pins s σ H x y v u Q I rx ry h
  obtain ⟨l, k, xs, rfl, rfl, hT, h1, h2, hor, q⟩ := h
  cases rx
  obtain ⟨t, rfl⟩ := ry
  obtain ⟨its, r, ⟨⟨cls, dd, data, sl⟩, ho, hc, n, hd⟩, hs⟩ := I.tuple hT
  simp only at hc hd
  subst hc hd
  have hle : its.length = xs.length := r.length.symm
  have c0 : (decide (k < -(2 ^ 63)) || decide (k ≥ 2 ^ 63)) = false := by
    rw [decide_eq_false (by omega), decide_eq_false (by omega)] <;> rfl
  have c1 : (its.toArray.isEmpty || k == 1) = true := by
    rcases hor with e | e
    · rw [e] at hle
      rw [List.eq_nil_of_length_eq_zero hle]
      rfl
    · rw [e]
      simp
  exact wpAny_binaryOp_repeat_ref (T := "tuple") (U := "int") (by decide) ⟨_, ho, rfl⟩ (fun s' => typeIs_int s' k t) noFill_tuple_mul F.fills_int_mul F.slot_int_rmul repeat_tuple F.slot_int_index.lookup
    (call_meets F.slot_int_rmul (typeIs_int s k t) F.entry_int_rmul (F.args_int_rmul_2 _ _) (int_rmul_tuple k t l its.toArray n dd sl)
      ⟨ho, rfl, ⟨_, ho, rfl⟩, call_meets F.slot_tuple_mul ⟨_, ho, rfl⟩ F.entry_tuple_mul (F.args_tuple_mul_2 _ _) (TM2.tuple_mul1 l its.toArray n dd sl k t c0 c1) ⟨ho, ⟨.ref l, H, I, rfl, q⟩⟩⟩)
theorem op_repT0 : OpR X (binaryOp .Mult) (rRepT0 X.K) := by
  intro pins s σ H x y v u Q I rx ry h
  obtain ⟨l, xs, rfl, rfl, hT, hne, q⟩ := h
  cases rx
  obtain ⟨t, rfl⟩ := ry
  obtain ⟨its, r, ⟨⟨cls, dd, data, sl⟩, ho, hc, n, hd⟩, hs⟩ := I.tuple hT
  simp only at hc hd
  subst hc hd
  have hle : its.length = xs.length := r.length.symm
  have hn : its ≠ [] := fun e => hne (by
    rw [e] at hle
    exact List.eq_nil_of_length_eq_zero hle.symm)
  have hi : its.toArray.isEmpty = false := by
    cases its with
    | nil => exact absurd rfl hn
    | cons a b => rfl
  have c0 : (decide ((0 : Int) < -(2 ^ 63)) || decide ((0 : Int) ≥ 2 ^ 63)) = false := by decide
  have c1 : (its.toArray.isEmpty || (0 : Int) == 1) = false := by rw [hi]; rfl
  have c2 : (decide ((0 : Int) ≤ 0) || its.toArray.isEmpty) = true := by rw [hi]; rfl
  refine wpAny_binaryOp_repeat_ref (T := "tuple") (U := "int") (by decide) ⟨_, ho, rfl⟩ (fun s' => typeIs_int s' 0 t) noFill_tuple_mul F.fills_int_mul F.slot_int_rmul repeat_tuple F.slot_int_index.lookup
    (call_meets F.slot_int_rmul (typeIs_int s 0 t) F.entry_int_rmul (F.args_int_rmul_2 _ _) (int_rmul_tuple 0 t l its.toArray n dd sl)
      ⟨ho, rfl, ⟨_, ho, rfl⟩, call_meets F.slot_tuple_mul ⟨_, ho, rfl⟩ F.entry_tuple_mul (F.args_tuple_mul_2 _ _) (TM2.tuple_mul0 l its.toArray n dd sl 0 t c0 c1 c2) ⟨ho, ?_⟩⟩)
  refine ⟨.ref s.heap.objs.size, _, I.laid (t' := s.toks) (o := .tup []) (fun b ob q => Heap.get?_push_of_some _ q) (Nat.le_refl _) ?_, rfl, q _ (I.hok.fresh (Nat.le_refl _))⟩
  exact ⟨Nat.zero_le _, [], .nil, IsTup.new _ _⟩
variable {X0 : Cx} {E : XK} {H : Hp} {Q : VK} {l : Addr} {xs : List V}
/-- a tuple so many times: its items, wherever they stand then -/
theorem s_repT {k : Nat} (h : SqT X0.K H l xs) (hk : k ≤ 1000) (hz : xs.length ≤ 1000) (q : ∀ p H', Same H H' → SqT X0.K H' p (List.replicate k xs).flatten → Q (.ref p) H') : ∃ r, OpD X0 E (binaryOp .Mult) r ∧ r (.ref l) (.int k) H Q := by
  by_cases h1 : xs = [] ∨ k = 1
  · refine ⟨rRepT1 X0.K, fun X li _ => by rw [← li.K]; exact op_repT1, l, k, xs, rfl, rfl, h, by omega, by omega, by rcases h1 with z | z; exact .inl z; exact .inr (by omega), q l H (Same.refl _) ?_⟩
    rcases h1 with z | z
    · subst z
      rw [show (List.replicate k ([] : List V)).flatten = [] by simp]
      exact h
    · subst z
      rw [show (List.replicate 1 xs).flatten = xs by simp]
      exact h
  · by_cases h0 : k = 0
    · subst h0
      exact ⟨rRepT0 X0.K, fun X li _ => by rw [← li.K]; exact op_repT0, l, xs, rfl, rfl, h, fun z => h1 (.inl z), fun p hp => q p _ (same_new hp) (SqT.of upd_same)⟩
    · refine ⟨rRepT X0.K, fun X li _ => by rw [← li.K]; exact op_repT, l, k, xs, rfl, rfl, h, fun z => h1 (.inl z), by omega, by omega, hz, fun p hp => ?_⟩
      rw [Int.toNat_natCast]
      exact q p _ (same_new hp) (SqT.of upd_same)
end
end Odd

namespace Odd
open PySem PySem.Spec PyProof.Rows L2
/-! ### the least and the greatest by a def's answer -/
section
variable {prog : Program} {w : World} {A : Around}
theorem walkS_list (hh : A.handled = none) (I a : Addr) (hne : a ≠ I) (xs : List V) : WalksS prog w A I [I, a] [I] (fun x y => y = x) xs.length (fun i v => ∃ x, xs[i]? = some x ∧ RelV x v)
    (fun i s => s.heap.IsListIter I a i ∧ ∃ its, Vals xs its ∧ s.heap.IsList a its.toArray) where
  sub := fun b hb => by rw [List.mem_singleton.1 hb]; exact List.mem_cons_self ..
  grefl := fun _ => rfl
  gtrans := fun _ _ _ h1 h2 => h2.trans h1
  frame := fun i s h' tk st _ hk => by
    obtain ⟨it, its, rl, il⟩ := st
    exact ⟨it.at fun o e => hk I (by simp) o e, its, rl, il.at fun o e => hk a (by simp) o e⟩
  item := fun i s Q E hi st hQ => by
    obtain ⟨it, its, rl, il⟩ := st
    have hl := rl.length
    refine (Walks.list (prog := prog) (w := w) hh I a hne its.toArray).toS.item i s Q E (by rw [List.size_toArray]; omega) ⟨it, il⟩ fun v s' hP st' mv => ?_
    obtain ⟨x, hx⟩ : ∃ x, xs[i]? = some x := ⟨_, List.getElem?_eq_getElem hi⟩
    obtain ⟨u, hu, ru⟩ := rl.get hx
    have hv : its.toArray[i]? = some v := hP
    rw [List.getElem?_toArray, hu] at hv
    cases hv
    exact hQ _ s' ⟨x, hx, ru⟩ ⟨st'.1, its, rl, st'.2⟩ mv
  done := fun s Q E st hQ => by
    obtain ⟨it, its, rl, il⟩ := st
    have hl := rl.length
    exact (Walks.list (prog := prog) (w := w) hh I a hne its.toArray).toS.done s Q E ⟨by rw [List.size_toArray, ← hl]; exact it, il⟩ hQ
  self := fun i s Q E st hQ => wpAny_pyIter_listiter st.1 hQ
end
section
variable {prog : Program} {w : World} {A : Around} {E : Value → Shared → Prop} {s : Shared}
theorem list_walk {l : Addr} {items : Array Value} {R : Value → Shared → Prop} (hl : s.heap.IsList l items) (h : ∀ s₂ : Shared, s₂ = { s with heap := s₂.heap } → (∀ b o, s.heap.get? b = some o → s₂.heap.get? b = some o) → s₂.heap.IsListIter s.heap.objs.size l 0 → s₂.heap.IsList l items →
    s₂.heap.objs.size = s.heap.objs.size + 1 → R (.ref s.heap.objs.size) s₂) : wpAny (model prog w) A (pyIter (.ref l)) R E s :=
  wpAny_pyIter_list hl (h _ rfl (fun b o e => Heap.get?_push_of_some _ e) ⟨_, Heap.get?_push_size _ rfl, rfl, rfl⟩ (hl.at fun o e => Heap.get?_push_of_some _ e) (Heap.size_push ..))
end
/-- f(xs, key=g), the first item whose answer is best -/
def rKeyF (K : PySem.W.Frag) (g : Addr) (sp : Sp) (lt : Int → Int → Bool) : List V → List V → Hp → VK → Prop := fun vs zs H Q => ∃ (a : Addr) (xs : List V) (kf : Nat → Int), vs = [.ref a] ∧ zs = [.ref g] ∧ SqL K H a xs ∧ 0 < xs.length ∧
  (∀ i x H', xs[i]? = some x → Same H H' → sp [x] H' (fun v H2 => v = .int (kf i) ∧ Same H' H2) E0) ∧ ∀ x H', xs[argBest (fun i j => lt (kf i) (kf j)) (xs.length - 1)]? = some x → Same H H' → Q x H'
section
variable {X : Cx} {n : Nat} {g : Addr} {sp : Sp}
theorem key_run {lt : Int → Int → Bool} {op : CmpOp} {pins : List (Addr × Obj)} {σ : L2.St} {H : Hp} {s : Shared} {a : Addr} {xs : List V} {kf : Nat → Int} {Q : VK} (F : FnR X.prog X.w X.K X.mg X.base (L2.CX X.prog X.w) n g sp) (hr : Room (n + 1) X.A) (hc : X.calm = true)
    (hcmp : CmpOf X.prog X.w X.A.in1 op (fun i v => ∃ t, v = .int (kf i) t) (fun i j => lt (kf i) (kf j))) (I : Inv X pins σ H s) (hq : SqL X.K H a xs) (hne : 0 < xs.length)
    (hkey : ∀ i x H', xs[i]? = some x → Same H H' → sp [x] H' (fun v H2 => v = .int (kf i) ∧ Same H' H2) E0) (q : ∀ x H', xs[argBest (fun i j => lt (kf i) (kf j)) (xs.length - 1)]? = some x → Same H H' → Q x H') :
    wpAny (model X.prog X.w) X.A.in1 (pyIter (.ref a)) (fun it s₂ => ∃ I fp wr G m P St J V bt, it = .ref I ∧ WalksS X.prog X.w X.A.in1 I fp wr G m P St ∧ St 0 s₂ ∧ (∀ b ∈ fp, b < s₂.heap.objs.size) ∧ 0 < m ∧
      KeyRun X.prog X.w X.A.in1 (.ref g) op s₂.heap.objs.size wr G m P St J V bt ∧ J s₂ ∧ ∀ v s', P (argBest bt (m - 1)) v → J s' → EP X pins σ Q v s') X.xe s := by
  obtain ⟨its, rl, p, hz⟩ := I.list hq
  refine list_walk p.isList fun s₂ e2 k2 it2 il2 sz2 => ?_
  have hlt : a < s.heap.objs.size := by
    obtain ⟨o, ho, _⟩ := p.isList
    exact Heap.lt_size ho
  have I2 : L2.Inv X pins σ H s₂ := by
    rw [e2]
    exact I.kept (t' := s.toks) k2
  have nI0 : H s.heap.objs.size = none := I.hok.fresh (Nat.le_refl _)
  have nS0 : H s₂.heap.objs.size = none := I2.hok.fresh (Nat.le_refl _)
  have fI : FpOk X pins H s.heap.objs.size := I.fpOk (Nat.le_refl _) nI0
  have fS : FpOk X pins H s₂.heap.objs.size := I2.fpOk (Nat.le_refl _) nS0
  have nfr : ∀ {H' : Hp} {s' : Shared} {b : Addr}, L2.Inv X pins σ H' s' → FpOk X pins H b → b ∉ frs X.stack := fun I' f z => by
    rcases List.mem_cons.mp (I'.stkSub _ z) with y | y
    · exact f.2.1 y
    · exact f.2.2.1 y
  refine ⟨s.heap.objs.size, [s.heap.objs.size, a], [s.heap.objs.size], _, xs.length, _, _, fun s' => ∃ H', Same H H' ∧ L2.Inv X pins σ H' s' ∧ H' s.heap.objs.size = none ∧ H' s₂.heap.objs.size = none, fun i v _ => ∃ t, v = .int (kf i) t, fun i j => lt (kf i) (kf j), rfl, walkS_list (A := X.A.in1) (I.ok.hd hc) _ a (Nat.ne_of_lt hlt) xs, ?st, fun b hb => ?_, hne, ⟨?keep, fun _ _ _ _ h _ => h, ?turn, ?cmp⟩, ⟨H, Same.refl _, I2, nI0, nS0⟩, ?fin⟩
  case st => exact ⟨it2, its, rl, il2⟩
  · rw [sz2]
    simp only [List.mem_cons, List.not_mem_nil, or_false] at hb
    rcases hb with rfl | rfl
    · exact Nat.lt_succ_self _
    · exact Nat.lt_succ_of_lt hlt
  case keep =>
    rintro s3 s4 ⟨H', s0, I3, n1, n2⟩ mv
    refine ⟨H', s0, ?_, n1, n2⟩
    obtain ⟨hp4, g4, d4, t4, o4⟩ := s4
    obtain rfl : g4 = s3.gens := mv.gens
    obtain rfl : d4 = s3.drawn := mv.drawn
    obtain rfl : o4 = s3.os := mv.os
    refine I3.turnedL (ch := [s₂.heap.objs.size, s.heap.objs.size]) (fun b o hb e => mv.heap b o hb e) fun b hb => ?_
    simp only [List.mem_cons, List.not_mem_nil, or_false] at hb
    rcases hb with rfl | rfl
    · exact ⟨n2, fS.2⟩
    · exact ⟨n1, fI.2⟩
  case turn =>
    rintro i v s3 o Q3 E3 hi ⟨x, hx, rx⟩ ⟨H', s0, I3, n1, n2⟩ ⟨it3, its3, rl3, il3⟩ hS k
    refine wpAny_call (codeAny_mono (F X.A.in1 X.stack s3 H' [v] [x] _ E0 hr.in1 I3.env0.in1 (.cons rx .nil) (hkey i x H' hx s0)) fun r s' hq3 => ?_)
    cases r with
    | error er =>
      obtain ⟨_, _, _, _, _, _, _, _, _, _, _, _, z⟩ := hq3
      exact z.elim
    | ok fl =>
      cases fl with
      | ret u =>
        obtain ⟨y, H4, os, bare, un, hok, ry, rfl, s5⟩ := hq3
        obtain ⟨oI, eI, cI, dI⟩ := id it3
        have eI4 := un.keep _ oI eI n1 (nfr I3 fI) (by simp)
        have eS4 := un.keep _ o hS n2 (nfr I3 fS) (by simp)
        have m1 := un.free _ oI eI n1 (by simp)
        have m2 := un.free _ o hS n2 (by simp)
        obtain ⟨hp4, g4, d4, t4, o4⟩ := s'
        obtain rfl : o4 = s3.os := os
        have I4 : L2.Inv X pins σ H4 { s3 with heap := hp4, gens := g4, drawn := d4, toks := t4 } := I3.call (h' := hp4) (g' := g4) (d' := d4) (t' := t4) (ch := []) un hok bare (fun b z => absurd z (by simp))
        obtain ⟨its4, rl4, p4, _⟩ := I4.list ((s0.trans s5).seq hq)
        exact k u _ ⟨H4, s0.trans s5, I4, m1, m2⟩ ⟨⟨oI, eI4, cI, dI⟩, its4, rl4, p4.isList⟩ eS4 ry fun _ _ h => h
      | next => exact False.elim hq3
      | brk => exact False.elim hq3
      | cont => exact False.elim hq3
  case cmp =>
    intro i j ki kj s3 Q3 E3 _ h1 h2 hq3
    exact hcmp i j ki kj s3 Q3 E3 h1 h2 hq3
  case fin =>
    rintro v s3 ⟨x, hx, rx⟩ ⟨H', s0, I3, _, _⟩
    exact ⟨x, H', I3, rx, q x H' hx s0⟩
theorem call_minF (F : FnR X.prog X.w X.K X.mg X.base (L2.CX X.prog X.w) n g sp) (hr : Room (n + 1) X.A) (hc : X.calm = true) : CallRK X (.builtin "min") [Str.ofString "key"] (rKeyF X.K g sp fun a b => decide (a < b)) := by
  intro pins s σ H vs zs us ws Q I rv rz h
  obtain ⟨a, xs, kf, rfl, rfl, hq, hne, hkey, q⟩ := h
  obtain rfl := Vals.ref1 rv
  obtain rfl := Vals.ref1 rz
  exact call_min_walkK (key_run (lt := fun a b => decide (a < b)) F hr hc (CmpOf.ints_lt kf fun _ _ h => h) I hq hne hkey q)
theorem call_maxF (F : FnR X.prog X.w X.K X.mg X.base (L2.CX X.prog X.w) n g sp) (hr : Room (n + 1) X.A) (hc : X.calm = true) : CallRK X (.builtin "max") [Str.ofString "key"] (rKeyF X.K g sp fun a b => decide (a > b)) := by
  intro pins s σ H vs zs us ws Q I rv rz h
  obtain ⟨a, xs, kf, rfl, rfl, hq, hne, hkey, q⟩ := h
  obtain rfl := Vals.ref1 rv
  obtain rfl := Vals.ref1 rz
  exact call_max_walkK (key_run (lt := fun a b => decide (a > b)) F hr hc (CmpOf.ints_gt kf fun _ _ h => h) I hq hne hkey q)
end
/-! .. with the choice left to the reading -/
def CkD (X0 : Cx) (E : XK) (ks : List Str) (u : Value) (r : List V → List V → Hp → VK → Prop) : Prop := ∀ X, Like X0 X → Pas X E → CallRK X u ks r
def tKwA (X0 : Cx) (E : XK) (x : Str) (ks : List Str) (u : Value) (t tk : TA) : TE := fun σ H Q => X0.mg x = none ∧ t σ H fun vs H1 => tk σ H1 fun zs H2 => ∃ r, CkD X0 E ks u r ∧ r vs zs H2 Q
section
variable {X0 X : Cx} {E : XK} {x : Str} {p pos : Pos} {e : Expr} {es : List Expr} {kws : List Keyword} {t tk : TA} {id : String} {ks : List Str}
theorem pe_kwA (l : Like X0 X) (h : Pas X E) (hg : Gl X x) (hv : bootBuiltins x = some (.builtin id)) (ha : PA X (e :: es) t) (hk : PK X kws tk) (hn : x ≠ "__name__" := by decide) (hdb : (x == ("__debug__" : Str)) = false := by decide)
    (he : backTo pos (starEach (e :: es) X.env) = (false, eval e X.env) :: backTo pos (starEach es X.env) := by rfl) (hpl : (backTo pos (starEach (e :: es) X.env)).any (·.1) = false := by rfl)
    (hall : (backToKw pos (keywordEach kws X.env)).all (·.1.isSome) = true := by rfl) (hnone : (backToKw pos (keywordEach kws X.env)).any (·.1.isNone) = false := by rfl) (hks : (backToKw pos (keywordEach kws X.env)).filterMap (·.1) = ks := by rfl) :
    PE X (.Call (.Name x p) (e :: es) kws pos) (tKwA X0 E x ks (.builtin id) t tk) := by
  refine ⟨fun pins s σ H Q I ⟨hm, q⟩ => ?_⟩
  rw [← l.mg] at hm
  refine wpAny_Call_Name_kw (ld_blt I hg hm hv ?_ hn hdb)
  refine callWith_kw (thn (ha.run pos pins s σ H _ I q) fun us s1 ⟨vs, H1, I1, r1, q1⟩ => thn (hk.run pos pins s1 σ H1 _ I1 q1) fun ws s2 ⟨zs, H2, I2, r2, r, hr, q2⟩ => ?_) he hpl hall hnone
  rw [hks]
  exact hr X l h pins s2 σ H2 vs zs us ws Q I2 r1 r2 q2
variable {σ : L2.St} {H : Hp} {Q : VK} {u : Value}
theorem w_kw (hm : X0.mg x = none) (h : t σ H fun vs H1 => tk σ H1 fun zs H2 => ∃ r, CkD X0 E ks u r ∧ r vs zs H2 Q) : tKwA X0 E x ks u t tk σ H Q := ⟨hm, h⟩
theorem s_minF {k : Nat} {g a : Addr} {sp : Sp} {xs : List V} (kf : Nat → Int) (F : Fn X0 k g sp) (hr : Room (k + 1) X0.A) (hc : X0.calm = true) (hq : SqL X0.K H a xs) (hne : 0 < xs.length) (hkey : ∀ i x H', xs[i]? = some x → Same H H' → sp [x] H' (fun v H2 => v = .int (kf i) ∧ Same H' H2) E0)
    (q : ∀ x H', xs[argBest (fun i j => decide (kf i < kf j)) (xs.length - 1)]? = some x → Same H H' → Q x H') : ∃ r, CkD X0 E [Str.ofString "key"] (.builtin "min") r ∧ r [.ref a] [.ref g] H Q :=
  ⟨rKeyF X0.K g sp fun a b => decide (a < b), fun X l _ => by rw [← l.K]; exact call_minF (l.fn F) (l.room hr) (by rw [l.calm]; exact hc), a, xs, kf, rfl, rfl, hq, hne, hkey, q⟩
theorem s_maxF {k : Nat} {g a : Addr} {sp : Sp} {xs : List V} (kf : Nat → Int) (F : Fn X0 k g sp) (hr : Room (k + 1) X0.A) (hc : X0.calm = true) (hq : SqL X0.K H a xs) (hne : 0 < xs.length) (hkey : ∀ i x H', xs[i]? = some x → Same H H' → sp [x] H' (fun v H2 => v = .int (kf i) ∧ Same H' H2) E0)
    (q : ∀ x H', xs[argBest (fun i j => decide (kf i > kf j)) (xs.length - 1)]? = some x → Same H H' → Q x H') : ∃ r, CkD X0 E [Str.ofString "key"] (.builtin "max") r ∧ r [.ref a] [.ref g] H Q :=
  ⟨rKeyF X0.K g sp fun a b => decide (a > b), fun X l _ => by rw [← l.K]; exact call_maxF (l.fn F) (l.room hr) (by rw [l.calm]; exact hc), a, xs, kf, rfl, rfl, hq, hne, hkey, q⟩
end
end Odd

namespace Odd
open PySem PySem.Spec PyProof.Rows L2
/-! ### a comprehension of two clauses: the items of a list that each item gives -/
section
variable {K : PySem.W.Frag} {a : Addr} {xs : List V} {σ : L2.St} {H : Hp} {Q : VK} {tl te : TE} {wi1 : TI} {vs vs1 : List Nat} {j j1 : Nat}
theorem w_yes {A B : Hp → Prop} {τ : L2.St} {H1 : Hp} (h : A H1) : tYes τ H1 (fun b H3 => if b = true then A H3 else B H3) := by
  show (if true = true then A H1 else B H1)
  rw [if_pos rfl]
  exact h
theorem c_lc2 (Pv : Addr → Nat → List V → Hp → Prop) (h0 : ∀ D, H D = none → Pv D 0 [] (upd H D (.lst []))) (hx : SqL K H a xs) (hz : ∀ D i o H', Pv D i o H' → o.length < 1000000)
    (hw : ∀ x, wipe ((wipe σ vs).set j (some x)) vs = wipe σ vs) (hw1 : ∀ x0 x, wipe ((wipe ((wipe σ vs).set j (some x0)) vs1).set j1 (some x)) vs1 = wipe ((wipe σ vs).set j (some x0)) vs1)
    (hte : ∀ x0 x (R : VK) H', R x H' → te ((wipe ((wipe σ vs).set j (some x0)) vs1).set j1 (some x)) H' R)
    (turn : ∀ D i x H' o, H D = none → xs[i]? = some x → Same H H' → H' D = some (.lst o) → Pv D i o H' → ∀ R : It → Hp → Prop, (∀ b ys H4, Same H' H4 → H' b = none → H4 b = some (.lst ys) → Pv D (i + 1) (o ++ ys) (upd H4 D (.lst (o ++ ys))) → R (Itl K b) H4) → wi1 ((wipe σ vs).set j (some x)) H' R)
    (q : ∀ p o H', H p = none → Same H H' → Pv p xs.length o H' → H' p = some (.lst o) → Q (.ref p) H')
    (ht : ∀ R : VK, R (.ref a) H → tl σ H R) : tLc2 (iSeq K tl) (gName j) tYes wi1 (gName j1) tYes te vs vs1 σ H Q :=
  ht _ ⟨a, rfl, .inl ⟨⟨xs, hx⟩, fun D hD => ⟨fun i m H1 => m = xs.length - i ∧ i ≤ xs.length ∧ ∃ o, Same H H1 ∧ H1 D = some (.lst o) ∧ Pv D i o H1, ⟨xs.length, rfl, Nat.zero_le _, [], same_new hD, upd_same, h0 D hD⟩, fun i m H1 w => by
    obtain ⟨rfl, hi, o, s1, d1, p1⟩ := w
    by_cases hlt : i < xs.length
    · refine .inr ⟨⟨xs, xs[i], s1.seq hx, by simp [hlt]⟩, fun H' => i + 1 ≤ xs.length ∧ ∃ o, Same H H' ∧ H' D = some (.lst o) ∧ Pv D (i + 1) o H', fun H' h => ⟨xs.length - (i + 1), by omega, rfl, h.1, h.2⟩, fun x H' y => ?_⟩
      obtain ⟨e1, e2⟩ := y
      subst e1
      refine ⟨hw x, ?_⟩
      refine w_yes ?_
      refine turn D i x _ o hD (e2 xs (s1.seq hx)) s1 d1 p1 _ fun b ys H4 s4 nb hb p4 => ?_
      have hbD : b ≠ D := fun z => by rw [z, d1] at nb; cases nb
      have d4 := s4 _ _ d1
      have hz4 := hz D (i + 1) _ _ p4
      rw [List.length_append] at hz4
      refine ⟨fun jj k H5 => k = ys.length - jj ∧ jj ≤ ys.length ∧ (∀ c, c ≠ D → H5 c = H4 c) ∧ H5 D = some (.lst (o ++ ys.take jj)), ⟨ys.length, rfl, Nat.zero_le _, fun _ _ => rfl, by rw [List.take_zero, List.append_nil]; exact d4⟩, fun jj k H5 w1 => ?_⟩
      obtain ⟨rfl, hj, k5, d5⟩ := w1
      have hb5 : SqL K H5 b ys := SqL.of (by rw [k5 b hbD]; exact hb)
      by_cases hjl : jj < ys.length
      · refine .inr ⟨⟨ys, ys[jj], hb5, by simp [hjl]⟩, fun H6 => jj + 1 ≤ ys.length ∧ (∀ c, c ≠ D → H6 c = H4 c) ∧ H6 D = some (.lst (o ++ ys.take (jj + 1))), fun H6 h => ⟨ys.length - (jj + 1), by omega, rfl, h.1, h.2⟩, fun x5 H6 y5 => ?_⟩
        obtain ⟨e3, e4⟩ := y5
        subst e3
        have hx5 := e4 ys hb5
        refine ⟨hw1 x x5, ?_⟩
        refine w_yes ?_
        refine hte x x5 _ _ ?_
        refine ⟨o ++ ys.take jj, d5, ?_, hjl, fun c hc => by rw [upd_ne hc]; exact k5 c hc, ?_⟩
        · rw [List.length_append, List.length_take]
          exact Nat.lt_of_lt_of_le (show o.length + min jj ys.length < 1000000 by omega) (by decide)
        · rw [upd_same, List.take_add_one, hx5, ← List.append_assoc]
          rfl
      · obtain rfl : jj = ys.length := by omega
        rw [List.take_of_length_le (Nat.le_refl _)] at d5
        have eH : H5 = upd H4 D (.lst (o ++ ys)) := by
          funext c
          by_cases hc : c = D
          · subst hc
            rw [d5, upd_same]
          · rw [k5 c hc, upd_ne hc]
        refine .inl ⟨⟨ys, hb5, Nat.le_refl _⟩, hlt, o ++ ys, ?_, d5, by rw [eH]; exact p4⟩
        rw [eH]
        exact same_mut (s1.trans s4) hD
    · obtain rfl : i = xs.length := by omega
      exact .inl ⟨⟨xs, s1.seq hx, Nat.le_refl _⟩, q D o H1 hD s1 p1 d1⟩⟩⟩⟩
end
/-! ### the first best -/
theorem argBest_le (bt : Nat → Nat → Bool) : ∀ k, argBest bt k ≤ k
  | 0 => Nat.le_refl _
  | k + 1 => by
    show (if bt (k + 1) (argBest bt k) then k + 1 else argBest bt k) ≤ k + 1
    split
    · exact Nat.le_refl _
    · exact Nat.le_succ_of_le (argBest_le bt k)
theorem argBest_congr {bt bt' : Nat → Nat → Bool} : ∀ k, (∀ i j, i ≤ k → j ≤ k → bt i j = bt' i j) → argBest bt k = argBest bt' k
  | 0, _ => rfl
  | k + 1, h => by
    have e := argBest_congr k fun i j hi hj => h i j (by omega) (by omega)
    show (if bt (k + 1) (argBest bt k) then k + 1 else argBest bt k) = (if bt' (k + 1) (argBest bt' k) then k + 1 else argBest bt' k)
    rw [← e, h (k + 1) (argBest bt k) (Nat.le_refl _) (Nat.le_succ_of_le (argBest_le bt k))]
/-- the first of the least -/
theorem argBest_min (f : Nat → Int) : ∀ k, (∀ i, i ≤ k → f (argBest (fun i j => decide (f i < f j)) k) ≤ f i) ∧ ∀ i, i < argBest (fun i j => decide (f i < f j)) k → f (argBest (fun i j => decide (f i < f j)) k) < f i
  | 0 => ⟨fun i h => by rw [Nat.le_zero.1 h]; exact Int.le_refl _, fun i h => absurd h (Nat.not_lt_zero _)⟩
  | k + 1 => by
    obtain ⟨h1, h2⟩ := argBest_min f k
    show (∀ i, i ≤ k + 1 → f (if decide (f (k + 1) < f (argBest (fun i j => decide (f i < f j)) k)) = true then k + 1 else argBest (fun i j => decide (f i < f j)) k) ≤ f i) ∧ _
    by_cases h : f (k + 1) < f (argBest (fun i j => decide (f i < f j)) k)
    · have e : argBest (fun i j => decide (f i < f j)) (k + 1) = k + 1 := by
        show (if _ then _ else _) = _
        rw [if_pos (decide_eq_true h)]
      rw [if_pos (decide_eq_true h), e]
      refine ⟨fun i hi => ?_, fun i hi => ?_⟩
      · rcases Nat.lt_or_ge i (k + 1) with z | z
        · have := h1 i (by omega); omega
        · rw [show i = k + 1 by omega]; exact Int.le_refl _
      · have := h1 i (by omega)
        omega
    · have e : argBest (fun i j => decide (f i < f j)) (k + 1) = argBest (fun i j => decide (f i < f j)) k := by
        show (if _ then _ else _) = _
        rw [if_neg (by simpa using h)]
      rw [if_neg (by simpa using h), e]
      refine ⟨fun i hi => ?_, h2⟩
      rcases Nat.lt_or_ge i (k + 1) with z | z
      · exact h1 i (by omega)
      · rw [show i = k + 1 by omega]; omega
end Odd

namespace Odd
open PySem PySem.Spec PyProof.Rows L2
/-! ### a try with several statements: what runs within it -/
section
variable {X0 X : Cx}
theorem likeT {pn : List (Addr × Obj)} {xe : Value → Shared → Prop} : Like X (X.tr pn xe) := ⟨rfl, rfl, rfl, rfl, rfl, rfl, rfl⟩
theorem likeS {b : Addr} {pn : List (Addr × Obj)} : Like (X.suite b []) (X.suite b pn) := ⟨rfl, rfl, rfl, rfl, rfl, rfl, rfl⟩
theorem pas0 : Pas X (fun _ _ _ => False) := fun _ _ _ _ _ _ _ ⟨_, _, _, _, _, _, _, _, _, _, _, _, z⟩ => z.elim
/-- o.m(e, ..) within a try: what it raises goes to the handlers -/
def tMeT (X0 : Cx) (W : WX) (m : Str) (ta : TE) (t : TA) : TE := fun σ H Q => ta σ H fun x H1 => ∃ a C dx fs g k sp, x = .ref a ∧ H1 a = some (.ins C dx fs) ∧ Cls X0.K C ∧ Meth X0.K C m g ∧ PySem.W.keepIn X0.K (.ref g) = true ∧ fs.lookup m = none ∧
  Fn X0 k g sp ∧ Room k X0.A ∧ t σ H1 fun vs H2 => ∃ Ef : XK, (∀ cls d H', Ef cls d H' → W cls d σ H') ∧ sp (x :: vs) H2 Q Ef
theorem pe_meT {W : WX} {o e : Expr} {es : List Expr} {ta : TE} {t : TA} {m : Str} {pos apos : Pos} {pl : Sem Bool} (l : Like X0 X) (tk : L2.Takes X W) (he : PE X o ta) (ha : PA X (e :: es) t)
    (hst : starEach (e :: es) X.env = (false, eval e X.env) :: starEach es X.env := by rfl) (hpl : (backTo pos (starEach es X.env)).any (·.1) = false := by rfl)
    (ht : eval (.Call (.Attribute o m apos) (e :: es) [] pos) X.env = (do
      let ov ← eval o X.env
      standAt apos.atName
      let (f, first) ← holding [ov] (getMethod ov m pl)
      callWith pos f first (backTo pos (starEach (e :: es) X.env)) (backToKw pos (keywordEach [] X.env))) := by rfl) :
    PE X (.Call (.Attribute o m apos) (e :: es) [] pos) (tMeT X0 W m ta t) := by
  refine ⟨fun pins s σ H Q I hq => ?_⟩
  refine PySem.W.methodCall_KW (pl := pl) (thn (he.run pins s σ H _ I hq) fun u s1 ⟨x, H1, I1, rx, a, C, dx, fs, g, k, sp, ex, ea, c, hm, hk, lk, F, hr, q⟩ => ?_) ht
  subst ex
  obtain rfl : u = Value.ref a := rx
  rw [← l.K] at c hm hk
  refine getmeth_ok I1 ea c hm lk ?_
  refine PySem.W.callWith_K (first := [.ref a]) (h₀ := X.base) I.ok.mod.kin hm.kp (thn (ha.run pos pins s1 σ H1 _ I1 q) fun us s2 ⟨vs, H2, I2, r, Ef, hW, q2⟩ => ⟨I2.kIn, ?_⟩) hst hpl
  refine wpAny_call (codeAny_mono ((l.fn F) X.A X.stack s2 H2 (.ref a :: us) (.ref a :: vs) Q Ef (l.room hr) I2.env0 (.cons rfl r) q2) fun r s' hq => ?_)
  cases r with
  | error e => exact tk _ _ (L2.XE.of_call I2 hW hq)
  | ok fl =>
    cases fl with
    | ret u => exact I2.after hq
    | next => exact False.elim hq
    | brk => exact False.elim hq
    | cont => exact False.elim hq
theorem w_meT {W : WX} {m : Str} {ta : TE} {t : TA} {σ : L2.St} {H : Hp} {Q : VK} (h : ta σ H fun x H1 => ∃ a C dx fs g k sp, x = .ref a ∧ H1 a = some (.ins C dx fs) ∧ Cls X0.K C ∧ Meth X0.K C m g ∧ PySem.W.keepIn X0.K (.ref g) = true ∧ fs.lookup m = none ∧
  Fn X0 k g sp ∧ Room k X0.A ∧ t σ H1 fun vs H2 => ∃ Ef : XK, (∀ cls d H', Ef cls d H' → W cls d σ H') ∧ sp (x :: vs) H2 Q Ef) : tMeT X0 W m ta t σ H Q := h
end
end Odd

namespace Odd
open PySem PySem.Spec PyProof.Rows L2 SeqAt
/-! ### lists compared, sorted, and a place put in -/
def ltI (ns ms : List Int) : Bool := firstLt (fun j => decide (ns.getD j 0 = ms.getD j 0)) (fun j => decide (ns.getD j 0 < ms.getD j 0)) (decide (ns.length < ms.length)) (List.range (min ns.length ms.length))
def rLtL (K : PySem.W.Frag) : R2 := fun x y H Q => ∃ (a b : Addr) (ns ms : List Int), x = .ref a ∧ y = .ref b ∧ SqL K H a (ns.map V.int) ∧ SqL K H b (ms.map V.int) ∧ Q (.bl (ltI ns ms)) H
/-- the items of a row of ints -/
theorem row_at {us : List Value} {ns : List Int} (h : IntsAre us ns) : ∀ i (hi : i < us.toArray.size), ∃ t, us.toArray[i] = Value.int (ns.getD i 0) t := by
  induction h with
  | nil => exact fun i hi => absurd hi (Nat.not_lt_zero _)
  | cons c t _ ih =>
    intro i hi
    cases i with
    | zero => exact ⟨t, rfl⟩
    | succ i =>
      obtain ⟨t', e⟩ := ih i (by simpa using hi)
      exact ⟨t', by simpa using e⟩
theorem op_ltL {X : Cx} (hu : X.A.units < cLine) : OpR X (compareOp .Lt) (rLtL X.K) := by
  rintro pins sh τ G left right lv rv Z I rl rr ⟨p, p', ks, ls, rfl, rfl, hp, hp', goal⟩
  obtain rfl : lv = Value.ref p := rl
  obtain rfl : rv = Value.ref p' := rr
  obtain ⟨us, vu, pu, -⟩ := I.list hp
  obtain ⟨ws, vw, pw, -⟩ := I.list hp'
  have iu := row_at vu.ints
  have iw := row_at vw.ints
  have lu : us.toArray.size = ks.length := by simpa using vu.ints.length
  have lw : ws.toArray.size = ls.length := by simpa using vw.ints.length
  have low := RcLt.lists (A := X.A) (s := sh) (e := fun i => decide (ks.getD i 0 = ls.getD i 0)) (r := fun i => decide (ks.getD i 0 < ls.getD i 0)) pu.isList pw.isList hu
    (fun i h h' => by
      obtain ⟨t, et⟩ := iu i h
      obtain ⟨t', et'⟩ := iw i h'
      rw [et, et']
      exact EqAt.int_int (ks.getD i 0) t (ls.getD i 0) t')
    (fun i h h' _ => by
      obtain ⟨t, et⟩ := iu i h
      obtain ⟨t', et'⟩ := iw i h'
      rw [et, et']
      exact fun _ _ _ _ k => lt_int k)
  rw [lu, lw] at low
  exact low X.prog X.w X.xe (EP X pins τ Z) ⟨V.bl (ltI ks ls), G, I, rfl, goal⟩
section
variable {X0 : Cx} {E : XK} {H : Hp} {Q : VK}
theorem s_ltL {a b : Addr} {ns ms : List Int} (hu : X0.A.units + 64 < cLine) (ha : SqL X0.K H a (ns.map V.int)) (hb : SqL X0.K H b (ms.map V.int)) (q : Q (.bl (ltI ns ms)) H) : ∃ r, OpD X0 E (compareOp .Lt) r ∧ r (.ref a) (.ref b) H Q :=
  ⟨rLtL X0.K, fun X l _ => by rw [← l.K]; exact op_ltL (by rw [l.A]; omega), a, b, ns, ms, rfl, rfl, ha, hb, q⟩
theorem s_sortI {a : Addr} {ns : List Int} (ha : SqL X0.K H a (ns.map V.int)) (q : ∀ (ns' : List Int) (p : Addr), ns'.Perm ns → ns'.Pairwise (· ≤ ·) → H p = none → Q (.ref p) (upd H p (.lst (ns'.map V.int)))) : ∃ r, CaD X0 E (.builtin "sorted") r ∧ r [.ref a] H Q :=
  ⟨rSortedI X0.K, fun X l _ => by rw [← l.K]; exact cr_sortedI, a, ns, rfl, ha, q⟩
end
/-! ### from the first that differs -/
theorem firstLt_true (e r : Nat → Bool) : ∀ c lo : Nat, firstLt e r false (List.range' lo c) = true → ∃ j, lo ≤ j ∧ j < lo + c ∧ r j = true ∧ ∀ i, lo ≤ i → i < j → e i = true
  | 0, lo, h => by cases h
  | c + 1, lo, h => by
    rw [List.range'_succ] at h
    by_cases he : e lo = true
    · rw [firstLt_yes he] at h
      obtain ⟨j, h1, h2, h3, h4⟩ := firstLt_true e r c (lo + 1) h
      refine ⟨j, by omega, by omega, h3, fun i hi hj => ?_⟩
      by_cases hl : i = lo
      · rw [hl]; exact he
      · exact h4 i (by omega) hj
    · have e1 : firstLt e r false (lo :: List.range' (lo + 1) c) = r lo := if_neg he
      rw [e1] at h
      exact ⟨lo, Nat.le_refl _, by omega, h, fun i h1 h2 => by omega⟩
/-- a before b: the first place that differs is less -/
def Lx (a b : List Nat) : Prop := ∃ (j x y : Nat), a[j]? = some x ∧ b[j]? = some y ∧ x < y ∧ ∀ i, i < j → a[i]? = b[i]?
theorem Lx.asymm {a b : List Nat} (h : Lx a b) (h' : Lx b a) : False := by
  obtain ⟨j, x, y, h1, h2, h3, h4⟩ := h
  obtain ⟨j', x', y', g1, g2, g3, g4⟩ := h'
  rcases Nat.lt_trichotomy j j' with z | z | z
  · have e := g4 j z
    rw [h1, h2] at e
    injection e with e
    omega
  · subst z
    rw [h1] at g2
    rw [h2] at g1
    injection g1 with e1
    injection g2 with e2
    omega
  · have e := h4 j' z
    rw [g1, g2] at e
    injection e with e
    omega
end Odd

namespace Odd
open PySem PySem.Spec PyProof.Rows L2 PpSet
/-! ### {e for x in xs}, e an int -/
section
variable {X : Cx}
def tScI (w : World) (wi : TI) (g : TG) (te : TE) (vs : List Nat) : TE := fun σ H Q => wi σ H fun J H1 => ∀ D, H1 D = none → ∃ W : Nat → Nat → Hp → Prop, (∃ m, W 0 m (upd H1 D (SetO w D (fun _ => false) 0))) ∧ ∀ i m H, W i m H →
  (J.stop i H ∧ Q (.ref D) H) ∨ (J.go i H ∧ ∃ Nx : Hp → Prop, (∀ H', Nx H' → ∃ m', m' < m ∧ W (i + 1) m' H') ∧ ∀ x H', J.yld i H x H' → g x (wipe σ vs) H' fun σ2 H2 => wipe σ2 vs = wipe σ vs ∧ te σ2 H2 fun y H4 =>
    ∃ (c : Int) (S : Int → Bool) (n : Nat), y = .int c ∧ H4 D = some (SetO w D S n) ∧ n + 1 < scanBound ∧ Nx (upd H4 D (SetO w D (fun j => S j || decide (j = c)) (if S c = true then n else n + 1))))
/-- an int put in -/
theorem put_int {pins : List (Addr × Obj)} {σ : L2.St} {H : Hp} {s : Shared} {E : Value → Shared → Prop} {D : Addr} {S : Int → Bool} {n : Nat} {c : Int} {t : Tok} {R : Value → Shared → Prop} (I : Inv X pins σ H s) (atD : H D = some (SetO X.w D S n)) (few : n + 1 < scanBound)
    (k : ∀ s', Inv X pins σ (upd H D (SetO X.w D (fun j => S j || decide (j = c)) (if S c = true then n else n + 1))) s' → R .none s') : wpAny (model X.prog X.w) X.A (call (.builtin "set.add") [.ref D, .int c t]) R E s := by
  refine setR_add (setO_get I atD) few fun h' but made => k _ ?_
  refine I.write (e := D) (t' := s.toks + 1) (by rw [atD]; trivial) (.inl rfl) (fun b u hb hu => (but.2 b hb).trans hu) ?_ (setO_new made)
  obtain ⟨o, _, _, _, ho, _⟩ := made
  exact ⟨o, ho⟩
theorem pe_scI {elt tg iter : Expr} {scope : Scope} {own : List (Str × Nat)} {pos : Pos} {wi : TI} {g : TG} {te : TE} (calm : X.calm = true) (nd : X.N.Nodup) (hi : PI X tg iter wi) (ok : BlkOk X.N X.env.scope scope own)
    (hg : ∀ (s : Shared) (H : Hp) (C : Addr) (cl : List (Str × Addr)) (fp : List Addr), PG (X.blk s H scope (compEnvC scope cl C X.env) fp) tg g)
    (he : ∀ (s : Shared) (H : Hp) (C : Addr) (cl : List (Str × Addr)) (fp : List Addr), PE (X.blk s H scope (compEnvC scope cl C X.env) fp) elt te) (fold : ∀ x, foldedSetIterable iter X.env x = pure x := by intro _; rfl) :
    PE X (.SetComp elt [⟨tg, iter, [], 0⟩] scope pos) (tScI X.w wi g te (own.map (·.2))) := by
  refine ⟨fun pins s σ H Q I start => ?_⟩
  rw [eval_SetComp]
  have cellOf : ∀ y ∈ scope.names, y.2 = .free → ∃ c, X.env.cells.lookup y.1 = some c := fun y hy e => (ok.free y hy e).elim (fun k => I.ok.has _ (.inl k)) fun k => I.ok.has _ (.inr k)
  refine wpAny_comprehension_free (use := none) rfl fold (closure_ok cellOf) ok.kind (fun y hy e => (ok.uniq y hy).trans (by rw [e])) (thn (hi.run pins s σ H _ I start) fun _ s1 run1 => thn run1 fun _ s2 run2 => ?_)
  obtain ⟨it, fp, tn, J, H2, rfl, I2, T, walk2, free2, body⟩ := run2
  refine newSet_ok (newEnv_comp ?_)
  obtain ⟨D, eD⟩ : ∃ D, D = s2.heap.objs.size := ⟨_, rfl⟩
  rw [← eD]
  have newD : H2 D = none := I2.hok.fresh (by rw [eD]; exact Nat.le_refl _)
  -- the set, empty
  obtain ⟨ob, eob⟩ : ∃ ob : Obj, ob = { cls := .type "set", dict := none, data := .set #[] 0 (.fresh 0 0 (!X.w.params.followText "set-order")) } := ⟨_, rfl⟩
  obtain ⟨s3, e3⟩ : ∃ s3 : Shared, s3 = { s2 with heap := s2.heap.push ob } := ⟨_, rfl⟩
  have heap3 : s3.heap = s2.heap.push ob := by rw [e3]
  obtain ⟨H3, eH3⟩ : ∃ H3, H3 = upd H2 D (SetO X.w D (fun _ => false) 0) := ⟨_, rfl⟩
  have I3 : Inv X pins σ H3 s3 := by
    rw [e3, eH3, eD, eob]
    exact I2.laid (t' := s2.toks) (fun b o e => Heap.get?_push_of_some _ e) (Nat.le_refl _) (setO_new (setR_fresh X.w))
  have under : ∀ b ∈ fp, b < s2.heap.objs.size := fun b hb => let ⟨_, e, _⟩ := T.obj _ _ walk2 b hb; Heap.lt_size e
  have free3 : ∀ b ∈ fp, FpOk X pins H3 b ∧ b < s3.heap.objs.size := fun b hb => by
    have lt := under b hb
    refine ⟨⟨?_, (free2 b hb).2⟩, by rw [heap3, Heap.size_push]; exact Nat.lt_succ_of_lt lt⟩
    rw [eH3, upd_ne (by rw [eD]; exact Nat.ne_of_lt lt)]
    exact (free2 b hb).1
  have walk3 : tn 0 s3.heap := T.keep _ _ _ walk2 fun b _ o e => by rw [heap3]; exact Heap.get?_push_of_some _ e
  obtain ⟨W, ⟨m0, w0⟩, turns⟩ := body D newD
  rw [← eH3] at w0
  have I4 := block_start I3 ok nd free3
  have goes := hg s3 H3 s3.heap.objs.size (cellsFrom (s3.heap.objs.size + 1) scope.names (cloFrom X.env.cells scope.names [])) fp
  have elem := he s3 H3 s3.heap.objs.size (cellsFrom (s3.heap.objs.size + 1) scope.names (cloFrom X.env.cells scope.names [])) fp
  rw [← eob]
  have shown : ({ s2 with heap := s2.heap.push ob } : Shared) = s3 := e3.symm
  rw [shown]
  show codeAny _ _ (.compStart (.SetComp elt [⟨tg, iter, [], 0⟩] scope pos) 0 (.ref it) (.ref D) (compEnvC scope (cellsFrom (s3.heap.objs.size + 1) scope.names (cloFrom X.env.cells scope.names [])) s3.heap.objs.size X.env)) (compPost (model X.prog X.w) X.A X.xe none (EP X pins σ Q) (.ref D) s3.heap.objs.size) { s3 with heap := pushCells (s3.heap.push { cls := .type "dict", data := .dict #[] }) scope.names }
  have locD : (compEnvC scope (cellsFrom (s3.heap.objs.size + 1) scope.names (cloFrom X.env.cells scope.names [])) s3.heap.objs.size X.env).locals = s3.heap.objs.size := rfl
  generalize compEnvC scope (cellsFrom (s3.heap.objs.size + 1) scope.names (cloFrom X.env.cells scope.names [])) s3.heap.objs.size X.env = ce at I4 goes elem locD ⊢
  obtain ⟨s4, e4⟩ : ∃ s4 : Shared, s4 = { s3 with heap := pushCells (s3.heap.push { cls := .type "dict", data := .dict #[] }) scope.names } := ⟨_, rfl⟩
  rw [← e4] at I4 ⊢
  have walk4 : tn 0 s4.heap := T.keep _ _ _ walk3 fun b _ o e => by rw [e4]; exact pushCells_keeps _ _ _ _ (Heap.get?_push_of_some _ e)
  have still : ∀ {σ' : L2.St} {H' : Hp} {s' : Shared}, Inv (X.blk s3 H3 scope ce fp) [] σ' H' s' → (∀ b ∈ fp, H' b = none) → ∀ b ∈ fp, FpOk (X.blk s3 H3 scope ce fp) [] H' b := fun {σ' H' s'} I' hn b hb =>
    ⟨hn b hb, (I'.ok.exf b hb).1, I'.ok.exfs b hb, .inl hb, fun x c e => (I'.ok.exf b hb).2 x c e, fun p hp => absurd (show p ∈ ([] : List (Addr × Obj)) ++ [] from hp) (by simp)⟩
  have loop : codeAny (model X.prog X.w) X.A (.compLoop (.SetComp elt [⟨tg, iter, [], 0⟩] scope pos) 0 (.ref it) (.ref D) ce) (compPost (model X.prog X.w) X.A X.xe none (EP X pins σ Q) (.ref D) s3.heap.objs.size) s4 := by
    refine compLoopS_any (fun n s' => ∃ i H', Inv (X.blk s3 H3 scope ce fp) [] (wipe σ (own.map (·.2))) H' s' ∧ tn i s'.heap ∧ (∀ b ∈ fp, H' b = none) ∧ W i n H') (fun n s5 inv5 => ?_) m0 ⟨0, H3, I4, walk4, fun b hb => (free3 b hb).1.1, w0⟩
    obtain ⟨i, H5, I5, walk5, none5, w5⟩ := inv5
    rcases turns i n H5 w5 with ⟨stop, last⟩ | ⟨go, Nx, next, step⟩
    · refine thnF (T.done (X.blk s3 H3 scope ce fp) rfl rfl rfl calm i [] s5 _ H5 (fun _ _ => False) I5 (still I5 none5) walk5 stop) fun r s6 ⟨er, I6⟩ => ?_
      subst er
      have back : Inv X pins σ H5 s6 := I3.call' (ch := fp) I6.os I6.base I6.hok I6.bare fun b hb => let z := (free3 b hb).1; ⟨z.2.2.2.1, z.2.1, z.2.2.2.2.1, z.2.2.2.2.2⟩
      have gone : H5 s3.heap.objs.size = none := by
        have z : H5 ce.locals = none := I6.free
        rwa [locD] at z
      obtain ⟨m, ns, _⟩ := I6.loc
      have ns : s6.heap.Ns ce.locals m := ns
      rw [locD] at ns
      refine ⟨m, ns, fun h7 only => ?_⟩
      obtain ⟨f0, f1, f2, f3, f4, f5⟩ := I3.fpOk (Nat.le_refl _) gone
      exact ⟨.ref D, H5, back.turned (t' := s6.toks) (fun b o hb e => (only.2 b hb).trans e) f0 f1 f3 f4 f5, rfl, last⟩
    · refine thnF (T.item (X.blk s3 H3 scope ce fp) rfl rfl rfl calm i [] s5 _ H5 (fun _ _ => False) I5 (still I5 none5) walk5 go) fun r s6 ⟨u, er, run6⟩ => ?_
      subst er
      refine thnF run6 fun _ s7 ⟨x, H7, I7, rx, yl, walk7, none7⟩ => ?_
      have pinned := I7.pinned (still I7 none7) (T.obj _ _ walk7)
      refine thnF (goes.run _ s7 _ H7 x u _ pinned rx (step x H7 yl)) fun _ s8 ⟨σ8, H8, I8, same8, q8⟩ => ?_
      have done : ∀ {s' : Shared} {H' : Hp}, Inv (X.blk s3 H3 scope ce fp) ([] ++ pinsAt fp s7.heap) σ8 H' s' → Nx H' → ∃ m, m < n ∧ ∃ i H', Inv (X.blk s3 H3 scope ce fp) [] (wipe σ (own.map (·.2))) H' s' ∧ tn i s'.heap ∧ (∀ b ∈ fp, H' b = none) ∧ W i m H' := fun {s' H'} I' nx => by
        obtain ⟨m', lt, w'⟩ := next H' nx
        have pin' : ∀ b ∈ fp, ∀ o, s7.heap.get? b = some o → s'.heap.get? b = some o ∧ H' b = none := fun b hb o e => ⟨(I'.pin (b, o) (List.mem_append_right _ (List.mem_append_right _ (mem_pinsAt hb e)))).1, (I'.pin (b, o) (List.mem_append_right _ (List.mem_append_right _ (mem_pinsAt hb e)))).2.1⟩
        refine ⟨m', lt, i + 1, H', (I'.unpinned (pins := [])).weak (by rw [← same8, wipe_length]) (fun j v e => (wipe_some (by rw [same8]; exact e)).1), T.keep _ _ _ walk7 fun b hb o e => (pin' b hb o e).1, fun b hb => ?_, w'⟩
        obtain ⟨o, e, _⟩ := T.obj _ _ walk7 b hb
        exact (pin' b hb o e).2
      refine thnF ((pts_nil (X := X.blk s3 H3 scope ce fp)).run _ s8 σ8 H8 (fun b H9 => b = true ∧ H9 = H8) I8 (show _ from ⟨rfl, rfl⟩)) fun b s9 ⟨H9, I9, eb, e9⟩ => ?_
      subst eb e9
      rw [if_pos rfl]
      refine thnF (elem.run _ s9 σ8 _ _ I9 q8) fun z s10 ⟨yv, H10, I10, ry, c, S, k, ey, atD, few, nx⟩ => ?_
      subst ey
      obtain ⟨tk, ez⟩ := (show ∃ t, z = Value.int c t from ry)
      subst ez
      exact put_int (X := X.blk s3 H3 scope ce fp) I10 atD few fun s11 I11 => done I11 nx
  exact codeAny_compStart_set loop (T.self X.A 0 _ _ _ walk4 loop)
end
end Odd

namespace Odd
open PySem PySem.Spec PyProof.Rows L2
/-! ### the set of what a tuple's items give -/
section
variable {w : World} {K : PySem.W.Frag} {a : Addr} {xs : List V} {σ : L2.St} {H : Hp} {Q : VK} {tl te : TE} {vs : List Nat} {j : Nat}
theorem c_scT (ys : List Int) (hl : ys.length = xs.length) (h63 : xs.length ≤ 63) (hx : SqT K H a xs) (hw : ∀ x, wipe ((wipe σ vs).set j (some x)) vs = wipe σ vs)
    (turn : ∀ (i : Nat) x y H', xs[i]? = some x → ys[i]? = some y → Same H H' → ∀ R : VK, (∀ H4, Same H' H4 → R (.int y) H4) → te ((wipe σ vs).set j (some x)) H' R)
    (q : ∀ D n H', H D = none → Same H H' → n ≤ ys.length → H' D = some (SetO w D (fun k => decide (k ∈ ys)) n) → Q (.ref D) H')
    (ht : ∀ R : VK, R (.ref a) H → tl σ H R) : tScI w (iSeq K tl) (gName j) te vs σ H Q :=
  ht _ ⟨a, rfl, .inr ⟨⟨xs, hx⟩, fun D hD => ⟨fun i m H1 => m = xs.length - i ∧ i ≤ xs.length ∧ Same H H1 ∧ ∃ n, n ≤ i ∧ H1 D = some (SetO w D (fun k => decide (k ∈ ys.take i)) n),
    ⟨xs.length, rfl, Nat.zero_le _, same_new hD, 0, Nat.le_refl _, by
      rw [upd_same]
      exact congrArg (fun S => some (SetO w D S 0)) (funext fun k => by simp)⟩, fun i m H1 z => by
    obtain ⟨rfl, hi, s1, n, hn, d1⟩ := z
    by_cases hlt : i < xs.length
    · refine .inr ⟨⟨xs, xs[i], same_t s1 hx, by simp [hlt]⟩, fun H' => i + 1 ≤ xs.length ∧ Same H H' ∧ ∃ n, n ≤ i + 1 ∧ H' D = some (SetO w D (fun k => decide (k ∈ ys.take (i + 1))) n), fun H' h => ⟨xs.length - (i + 1), by omega, rfl, h.1, h.2⟩, fun x H' y => ?_⟩
      obtain ⟨e1, e2⟩ := y
      subst e1
      have hy : i < ys.length := by omega
      refine ⟨hw x, turn i x ys[i] _ (e2 xs (same_t s1 hx)) (List.getElem?_eq_getElem hy) s1 _ fun H4 s4 => ?_⟩
      refine ⟨ys[i], _, n, rfl, s4 _ _ d1, Nat.lt_of_le_of_lt (show n + 1 ≤ 64 by omega) (by decide), hlt, same_mut (s1.trans s4) hD, (if decide (ys[i] ∈ ys.take i) = true then n else n + 1), ?_, ?_⟩
      · split <;> omega
      · rw [upd_same]
        refine congrArg (fun S => some (SetO w D S _)) (funext fun k => ?_)
        rw [List.take_add_one, List.getElem?_eq_getElem hy, Bool.eq_iff_iff, Bool.or_eq_true, decide_eq_true_iff, decide_eq_true_iff, decide_eq_true_iff, List.mem_append]
        show _ ∨ _ ↔ _ ∨ k ∈ [ys[i]]
        rw [List.mem_singleton]
    · obtain rfl : i = xs.length := by omega
      rw [List.take_of_length_le (by omega)] at d1
      exact .inl ⟨⟨xs, same_t s1 hx, Nat.le_refl _⟩, q D n H1 hD s1 (by omega) d1⟩⟩⟩⟩
end
section
variable {X0 : Cx} {E : XK} {H : Hp} {Q : VK}
theorem s_sortSet {a : Addr} {S : Int → Bool} {n : Nat} (hc : X0.calm = true) (ha : H a = some (SetO X0.w a S n)) (h64 : n < 64)
    (q : ∀ (ns : List Int) (p : Addr), ns.Pairwise (· < ·) → (∀ k : Int, k ∈ ns ↔ S k = true) → H p = none → Q (.ref p) (upd H p (.lst (ns.map V.int)))) : ∃ r, CaD X0 E (.builtin "sorted") r ∧ r [.ref a] H Q :=
  ⟨rSortedSet X0.w, fun X l _ => by rw [← l.w]; exact cr_sortedSet (by rw [l.calm]; exact hc), a, S, n, rfl, ha, h64, fun ns p h1 h2 _ h4 => q ns p h1 h2 h4⟩
end
theorem asc_ext {xs ys : List Int} (hx : xs.Pairwise (· < ·)) (hy : ys.Pairwise (· < ·)) (h : ∀ k, k ∈ xs ↔ k ∈ ys) : xs = ys := by
  have nd : ∀ {l : List Int}, l.Pairwise (· < ·) → l.Nodup := fun p => p.imp fun h => by omega
  refine List.Perm.eq_of_pairwise (le := fun a b : Int => a ≤ b) (fun a b _ _ h1 h2 => Int.le_antisymm h1 h2) (hx.imp fun h => by omega) (hy.imp fun h => by omega) ?_
  rw [List.perm_iff_count]
  intro c
  rw [List.Nodup.count (nd hx), List.Nodup.count (nd hy)]
  by_cases z : c ∈ xs
  · rw [if_pos z, if_pos ((h c).1 z)]
  · rw [if_neg z, if_neg fun u => z ((h c).2 u)]
end Odd

namespace Odd
open PySem PySem.Spec PyProof.Rows L2 SeqAt
/-! ### two tuples of the very same objects -/
theorem vals_refs : ∀ {ps : List Addr} {us : List Value}, Vals (ps.map V.ref) us → us = ps.map Value.ref
  | [], _, .nil => rfl
  | p :: ps, _, .cons r h => by
    rw [show _ = Value.ref p from r, vals_refs h]
    rfl
def rSameT (K : PySem.W.Frag) : R2 := fun x y H Q => ∃ (a b : Addr) (ps : List Addr), x = .ref a ∧ y = .ref b ∧ SqT K H a (ps.map V.ref) ∧ SqT K H b (ps.map V.ref) ∧ Q (.bl true) H
theorem op_sameT {X : Cx} (hu : X.A.units < cLine) : OpR X (compareOp .Eq) (rSameT X.K) := by
  intro pins s σ H x y v u Q I rx ry h
  obtain ⟨a, b, ps, rfl, rfl, ha, hb, q⟩ := h
  cases rx
  cases ry
  obtain ⟨its, r1, p1, _⟩ := I.tuple ha
  obtain ⟨its2, r2, p2, _⟩ := I.tuple hb
  obtain rfl := vals_refs r1
  obtain rfl := vals_refs r2
  have R := RcAt.tuples (A := X.A) (s := s) (e := fun _ => true) p1 p2 hu fun j h1 h2 => EqAt.same _
  rw [show ((List.range (min (ps.map Value.ref).toArray.size (ps.map Value.ref).toArray.size)).all (fun _ => true) && (ps.map Value.ref).toArray.size == (ps.map Value.ref).toArray.size) = true by simp] at R
  have z : wpAny (model X.prog X.w) X.A (compareOp .Eq (.ref a) (.ref b)) (EP X pins σ Q) X.xe s := R X.prog X.w X.xe (EP X pins σ Q) ⟨.bl _, H, I, rfl, q⟩
  exact z
theorem s_sameT {X0 : Cx} {E : XK} {H : Hp} {Q : VK} {a b : Addr} {ps : List Addr} (hu : X0.A.units + 64 < cLine) (ha : SqT X0.K H a (ps.map V.ref)) (hb : SqT X0.K H b (ps.map V.ref)) (q : Q (.bl true) H) : ∃ r, OpD X0 E (compareOp .Eq) r ∧ r (.ref a) (.ref b) H Q :=
  ⟨rSameT X0.K, fun X l _ => by rw [← l.K]; exact op_sameT (by rw [l.A]; omega), a, b, ps, rfl, rfl, ha, hb, q⟩
theorem w_bm0 {K : PySem.W.Frag} {T : String} {r : V → List V → Hp → VK → Prop} {to : TE} {σ : L2.St} {H : Hp} {Q : VK} (h : to σ H fun x H1 => tyV K T x H1 ∧ r x [] H1 Q) : tBM0 K T r to σ H Q := h
end Odd

namespace Odd
open PySem PySem.Spec PyProof.Rows L2
/-! ### dicts with tuples as keys -/
section
variable {X0 : Cx} {E : XK} {H : Hp} {Q : VK}
theorem s_ixDT {k : Nat} {p b : Addr} {kvs : List (List Key × V)} {key : List Key} {v : V} (hr : Room k X0.A) (h : H p = some (.dT kvs)) (hb : H b = some (.tup (key.map kV))) (e : valV kvs key = some v) (q : Q v H) : ∃ r, IxD X0 E r ∧ r (.ref p) (.ref b) H Q :=
  ⟨rIxK, fun X l _ => ix_dict (hu1 (l.room hr)), p, v, rfl, by rw [← e]; exact DGet.t h hb, q⟩
def rNotInD : R2 := fun x y H Q => ∃ (a : Addr) (o : Option V), y = .ref a ∧ DGet H a x o ∧ Q (.bl (!o.isSome)) H
theorem op_notInD {X : Cx} (hu : X.A.units + 1 < cLine) : OpR X (compareOp .NotIn) rNotInD := by
  intro pins s σ H x y v u Q I rx ry h
  obtain ⟨a, o, rfl, g, q⟩ := h
  obtain rfl : u = Value.ref a := ry
  exact d_notIn hu I g rx fun s' I' => ⟨.bl _, H, I', rfl, q⟩
theorem s_notInDT {k : Nat} {p b : Addr} {kvs : List (List Key × V)} {key : List Key} (hr : Room k X0.A) (h : H p = some (.dT kvs)) (hb : H b = some (.tup (key.map kV))) (q : Q (.bl (!(valV kvs key).isSome)) H) : ∃ r, OpD X0 E (compareOp .NotIn) r ∧ r (.ref b) (.ref p) H Q :=
  ⟨rNotInD, fun X l _ => op_notInD (hu1 (l.room hr)), p, _, rfl, DGet.t h hb, q⟩
end
end Odd

namespace Odd
open PySem PySem.Spec PyProof.Rows L2
/-! ### {t: v}, t a tuple -/
section
variable {X0 X : Cx}
def tDispT (X0 : Cx) (tk tv : TE) : TE := fun σ H Q => X0.A.units + 1 < cLine ∧ ∀ p, H p = none → tPairs [(tk, tv)] σ (upd H p (.dT [])) fun ps H2 =>
  ∃ (b : Addr) (key : List Key) (y : V), ps = [(.ref b, y)] ∧ H2 b = some (.tup (key.map kV)) ∧ H2 p = some (.dT []) ∧ Q (.ref p) (upd H2 p (.dT [(key, y)]))
theorem pe_dispT {k v : Expr} {pos : Pos} {tk tv : TE} (l : Like X0 X) (hk : PE X k tk) (hv : PE X v tv) : PE X (.Dict [some k] [v] pos) (tDispT X0 tk tv) := by
  refine ⟨fun pins s σ H Q I ⟨hu, q⟩ => ?_⟩
  rw [← l.A] at hu
  have fresh := I.hok.fresh (Nat.le_refl s.heap.objs.size)
  have I1 := I.laid (a := s.heap.objs.size) (o := .dT []) (h' := s.heap.push { cls := .type "dict", data := .dict #[] }) (t' := s.toks) (fun _ _ q => Heap.get?_push_of_some _ q) (Nat.le_refl _) (dt_empty s.heap I.big)
  refine wpAny_Dict_any rfl rfl (by simp) (by show 1 ≤ 15; decide) ?_
  refine thn ((pps_cons hk hv pps_nil).run pins _ σ _ _ I1 (q _ fresh)) fun ws s2 ⟨ps, H2, I2, rel, b, key, y, ep, eb, ed, qq⟩ => ?_
  subst ep
  obtain ⟨u, r, rfl, ru, ry⟩ : ∃ u r, ws = [(u, r)] ∧ RelV (.ref b) u ∧ RelV y r := by
    cases rel with
    | @cons a c as cs h t =>
      cases t
      exact ⟨c.1, c.2, rfl, h.1, h.2⟩
  cases (show u = Value.ref b from ru)
  obtain ⟨z, hd, xs, kt, dd⟩ := dt_of I2.hok ed
  have hz : xs.length ≤ sizeLine := by rw [← Paired.length kt]; exact z
  unfold storeAll
  rw [List.forIn_cons]
  refine wpAny_bind (wpAny_bind (wpAny_dictSet_heap (hsz := hz) (knd := tupleKind (mixKind X.prog X.w)) (show X.A.units < cLine by omega) (key_of I2.hok eb) dd fun h' dd' hs => wpAny_pure ?_))
  dsimp only
  rw [List.forIn_nil]
  refine wpAny_pure ⟨.ref s.heap.objs.size, _, ?_, rfl, qq⟩
  obtain ⟨o, es, ep, ho, h2, h3, h4, _, h5⟩ := dd'
  refine d_write I2 (by rw [ed]; exact True.intro) hs ⟨o, ho⟩ ⟨by show 1 ≤ sizeLine; decide, hd, _, (kt.put key eb ry).keeps fun c ys ec => ?_, o, es, ep, ho, h2, h3, h4, h5⟩
  rw [upd_ne (ne_of ec ed (fun z => nomatch z))]
  exact ec
theorem w_dispT {tk tv : TE} {σ : L2.St} {H : Hp} {Q : VK} (hu : X0.A.units + 64 < cLine) (h : ∀ p, H p = none → tk σ (upd H p (.dT [])) fun x H1 => tv σ H1 fun y H2 => ∃ (b : Addr) (key : List Key) (z : V), [(x, y)] = [(V.ref b, z)] ∧ H2 b = some (.tup (key.map kV)) ∧ H2 p = some (.dT []) ∧ Q (.ref p) (upd H2 p (.dT [(key, z)]))) : tDispT X0 tk tv σ H Q := ⟨by omega, h⟩
end
end Odd

namespace Odd
open PySem PySem.Spec PyProof.Rows L2
/-! ### a set made of a list of ints -/
abbrev noSet (w : World) : Obj := { cls := .type "set", dict := none, data := .set #[] 0 (.fresh 0 0 (!w.params.followText "set-order")) }
section
variable {P : Program} {w : World} {A : Around} {E : Value → Shared → Prop} {s : Shared}
/-- what the set's own start does with a list of ints -/
theorem start_set {l : Addr} {items : Array Value} {ns : List Int} {s : Shared} (hh : A.handled = none) (hl : s.heap.IsList l items) (hit : IntsAre items.toList ns) (few : ns.length + 1 < scanBound) :
    codeAny (model P w) A (.call (.builtin "set.__init__") ⟨[.ref s.heap.objs.size, .ref l], []⟩) (wants (fun r s₂ => r = .none ∧ ∃ h' tk c, s₂ = { s with heap := h', toks := tk } ∧ SetR w h' s.heap.objs.size (fun j => decide (j ∈ ns)) c ∧ c ≤ ns.length ∧
      ∀ b o, s.heap.get? b = some o → h'.get? b = some o) E) { s with heap := s.heap.push (noSet w) } := by
  have old : ∀ {b : Addr} {o : Obj}, s.heap.get? b = some o → (s.heap.push (noSet w)).get? b = some o := fun e => Heap.get?_push_of_some _ e
  have mine : (s.heap.push (noSet w)).get? s.heap.objs.size = some (noSet w) := Heap.get?_push_size _ rfl
  have ty : Shared.TypeIs { s with heap := s.heap.push (noSet w) } (.ref s.heap.objs.size) "set" := ⟨_, mine, rfl⟩
  have many : items.size = ns.length := by rw [← Array.length_toList]; exact IntsAre.length hit
  refine codeAny_call_builtin F.called_set.init.plain F.entry_set_init (check_set_init_1 ty ?_)
  obtain ⟨⟨c0, d0, data0, sl0⟩, ho, hc, m0, hd⟩ := hl
  cases hc
  cases hd
  have low : l < s.heap.objs.size := Heap.lt_size ho
  have sz : (s.heap.push (noSet w)).objs.size = s.heap.objs.size + 1 := Heap.size_push ..
  have there := old ho
  have isl : (s.heap.push (noSet w)).IsList l items := ⟨_, there, rfl, m0, rfl⟩
  have n1 := F.sub_list_set
  have n2 := F.sub_list_frozenset
  have n3 : (Value.type "list" == Value.type "dict") = false := by decide
  unfold Builtin.«set.__init__» noKeywords Builtin.Frozenset.updateFrom
  generalize hg : pyIter = PI
  wp_walk
  subst hg
  refine wpAny_pyIter_list isl (wpAny_bind (wpAny_runValue ?_))
  have apart : l ≠ (s.heap.push (noSet w)).objs.size := by rw [sz]; exact Nat.ne_of_lt (Nat.lt_succ_of_lt low)
  have off : s.heap.objs.size ∉ [(s.heap.push (noSet w)).objs.size, l] := fun z => by
    rcases List.mem_cons.1 z with z | z
    · rw [sz] at z
      exact absurd z (Nat.ne_of_lt (Nat.lt_succ_self _))
    · exact absurd (List.mem_singleton.1 z) (Nat.ne_of_gt low)
  refine set_update_ints (Walks.list (by show A.handled = none; exact hh) _ l apart items).toS s.heap.objs.size off ns many few (fun i v hv => ?_) items.size 0 _ (Nat.sub_zero _) (Nat.zero_le _) ⟨⟨_, Heap.get?_push_size _ rfl, rfl, rfl⟩, isl.push _⟩ ⟨0, Nat.le_refl 0, setR_new_at (Heap.get?_push_of_some _ mine)⟩ fun s2 c2 mv hc2 hS2 => ?_
  · have hi : i < ns.length := by rw [← many]; exact (Array.getElem?_eq_some_iff.1 hv).1
    obtain ⟨t, et⟩ := IntsAre.int_at hit i v (by rw [Array.getElem?_toList]; exact hv)
    exact ⟨ns[i], t, List.getElem?_eq_getElem hi, by rw [et, List.getD_eq_getElem?_getD, List.getElem?_eq_getElem hi] <;> rfl⟩
  · obtain ⟨h2, gens, drawn, tk2, os2⟩ := s2
    cases (show gens = s.gens from mv.gens)
    cases (show drawn = s.drawn from mv.drawn)
    cases (show os2 = s.os from mv.os)
    refine wpAny_pure (wpAny_pure ⟨rfl, h2, tk2, c2, rfl, hS2, by omega, fun b o e => ?_⟩)
    have hb := Heap.lt_size e
    refine mv.heap b o (fun z => ?_) (Heap.get?_push_of_some _ (old e))
    rcases List.mem_cons.1 z with z | z
    · exact absurd z (Nat.ne_of_lt hb)
    · have z := List.mem_singleton.1 z
      rw [sz] at z
      exact absurd z (Nat.ne_of_lt (Nat.lt_succ_of_lt hb))
theorem set_of_list {l : Addr} {items : Array Value} {ns : List Int} {Q : Value → Shared → Prop} (hh : A.handled = none) (hl : s.heap.IsList l items) (hit : IntsAre items.toList ns) (few : ns.length + 1 < scanBound)
    (h : ∀ h' tk c, SetR w h' s.heap.objs.size (fun j => decide (j ∈ ns)) c → c ≤ ns.length → (∀ b o, s.heap.get? b = some o → h'.get? b = some o) → Q (.ref s.heap.objs.size) { s with heap := h', toks := tk }) : wpAny (model P w) A (call (.type "set") [.ref l]) Q E s := by
  obtain ⟨c, tl, mro⟩ := F.called_set.mro
  have a1 := F.called_set.made; have a2 := F.called_set.sub; have a3 := F.called_set.notType; have a4 := F.called_set.canCreate; have a5 := F.typeCall_set_1 (.ref l)
  refine wpAny_call (codeAny_of_tree (show wpAny _ _ (callAny (.type "set") _) _ _ _ from wpAny_pure ⟨Code.quiet_builtin _ (by decide +kernel), codeAny_builtin F.entry_type_call ?_⟩))
  rw [Around.under_plain (weight_type_call_type "set" [.ref l] []) rfl]
  repeat any_goals first | assumption | wp_step
  refine codeAny_mono (code_set_led1 (.ref l) (E := E) (Q₁ := fun ob s1 => ob = .ref s.heap.objs.size ∧ s1 = { s with heap := s.heap.push (noSet w) }) ⟨rfl, rfl⟩) fun r s1 hr => ?_
  match r, hr with
  | .error e, hr => exact hr
  | .ok (.ret ob), hr =>
    obtain ⟨rfl, rfl⟩ := hr
    have b1 := F.called_set.init.lookup; have b2 := F.called_set.init.bind (.ref s.heap.objs.size)
    have ty : Shared.TypeIs { s with heap := s.heap.push (noSet w) } (.ref s.heap.objs.size) "set" := ⟨_, Heap.get?_push_size _ rfl, rfl⟩
    repeat any_goals first | assumption | wp_step
    refine codeAny_mono (start_set (E := E) (by exact hh) hl hit few) fun r2 s2 hr2 => ?_
    match r2, hr2 with
    | .error e, hr2 => exact hr2
    | .ok (.ret v), hr2 =>
      obtain ⟨rfl, h', tk, c', rfl, hS, hc, keep⟩ := hr2
      repeat any_goals first | assumption | wp_step
      exact h _ _ _ hS hc keep
end
section
variable {X0 : Cx} {E : XK} {H : Hp} {Q : VK}
theorem s_setOf {a : Addr} {ns : List Int} (hc : X0.calm = true) (ha : SqL X0.K H a (ns.map V.int)) (few : ns.length ≤ 63) (q : ∀ D n H', H D = none → n ≤ ns.length → Same H H' → H' D = some (SetO X0.w D (fun k => decide (k ∈ ns)) n) → Q (.ref D) H') : ∃ r, CaD X0 E (.type "set") r ∧ r [.ref a] H Q := by
  refine ⟨fun vs H Q => ∃ a ns, vs = [.ref a] ∧ SqL X0.K H a (ns.map V.int) ∧ ns.length ≤ 63 ∧ ∀ D n, H D = none → n ≤ ns.length → Q (.ref D) (upd H D (SetO X0.w D (fun k => decide (k ∈ ns)) n)), fun X l _ => ?_, a, ns, rfl, ha, few, fun D n h1 h2 => q D n _ h1 h2 (same_new h1) upd_same⟩
  intro pins s σ H xs us Q I r h
  obtain ⟨a, ns, rfl, hs, few, q⟩ := h
  rw [← l.K] at hs
  rw [← l.w] at q
  rw [Vals.ref1 r]
  obtain ⟨its, rl, p, hz⟩ := I.list hs
  refine set_of_list (I.ok.hd (l.calm.trans hc)) p.isList rl.ints (Nat.lt_of_le_of_lt (show _ ≤ 64 by omega) (by decide)) fun h' tk c hS hn keep => ?_
  exact ⟨.ref _, _, I.laid (t' := tk) keep (Nat.le_refl _) (setO_new hS), rfl, q _ c (I.hok.fresh (Nat.le_refl _)) hn⟩
/-- x in, not in a list of data -/
theorem s_inD {x : V} {d : PyData} {l : Addr} {ds : List PyData} (hu : X0.A.units + 65 < cLine) (hx : Dp X0.K H x d) (hl : Dp X0.K H (.ref l) (.list ds)) (h1 : SeqAt.shaped d = true) (h2 : SeqAt.shaped (.list ds) = true) (q : Q (.bl (ds.any fun z => PyData.eqv z d)) H) : ∃ r, OpD X0 E (compareOp .In) r ∧ r x (.ref l) H Q :=
  ⟨L2.rInD X0.K, fun X l _ => by rw [← l.K]; exact L2.op_inD (by rw [l.A]; exact hu), d, ds, hx, hl, h1, h2, q⟩
theorem s_notInD {x : V} {d : PyData} {l : Addr} {ds : List PyData} (hu : X0.A.units + 65 < cLine) (hx : Dp X0.K H x d) (hl : Dp X0.K H (.ref l) (.list ds)) (h1 : SeqAt.shaped d = true) (h2 : SeqAt.shaped (.list ds) = true) (q : Q (.bl (!ds.any fun z => PyData.eqv z d)) H) : ∃ r, OpD X0 E (compareOp .NotIn) r ∧ r x (.ref l) H Q :=
  ⟨L2.rNotInD X0.K, fun X l _ => by rw [← l.K]; exact L2.op_notInD (by rw [l.A]; exact hu), d, ds, hx, hl, h1, h2, q⟩
end
end Odd

namespace Odd
open PySem PySem.Spec PyProof.Rows L2 LamX NdefX
/-! ### e(), e an expression that gives a lambda of this def -/
def tActE (X : Cx) (E : XK) (te : TE) : TE := fun σ H Q => te σ H fun y H1 => ∀ B, CellsB X σ B → ∃ (f : Addr) (F : NF) (bd : Expr) (dV : Value) (k : Nat), y = .ref f ∧ H1 f = some (LamO f F bd dV) ∧ CallAt X.prog X.w X.K X.mg B k f H1 Q E ∧ Room k X.A
theorem pe_actE {X : Cx} {E : XK} {o : Expr} {te : TE} {pos : Pos} (h : Pas X E) (hfn : ∀ x, X.fn x = true) (ho : PE X o te)
    (ht : eval (.Call o [] [] pos) X.env = (do callWith pos (← eval o X.env) [] (backTo pos (starEach [] X.env)) (backToKw pos (keywordEach [] X.env))) := by rfl) : PE X (.Call o [] [] pos) (tActE X E te) := by
  refine ⟨fun pins s σ H Q I hq => ?_⟩
  refine Call_ (thn (ho.run pins s σ H _ I hq) fun u s1 ⟨y, H1, I1, ry, q⟩ => ?_) ht
  obtain ⟨f, F, bd, dV, k, ey, hf, hc, hr⟩ := q _ (cells_sub I1 (cells_nofr I1 hfn))
  subst ey
  obtain rfl : u = Value.ref f := ry
  obtain ⟨od, sl, doc, pm, ctv, hob⟩ := lamO_at I1.hok hf
  refine PySem.W.callWith_F0 ⟨_, _, _, _, hob⟩ (wpAny_call (codeAny_mono (hc X.A X.stack s1 hr (env0_sub I1)) fun r s' hq => ?_))
  match r, hq with
  | .error e, hq => exact h pins σ H1 s1 e s' I1 hq
  | .ok (.ret v), hq => exact I1.after hq
theorem w_actE {X : Cx} {E : XK} {te : TE} {σ : L2.St} {H : Hp} {Q : VK} (h : te σ H fun y H1 => ∀ B, CellsB X σ B → ∃ (f : Addr) (F : NF) (bd : Expr) (dV : Value) (k : Nat), y = .ref f ∧ H1 f = some (LamO f F bd dV) ∧ CallAt X.prog X.w X.K X.mg B k f H1 Q E ∧ Room k X.A) : tActE X E te σ H Q := h
/-! ### sorted of at most one tuple -/
theorem perm01 {α : Type} : ∀ {xs ys : List α}, xs.length ≤ 1 → ys.Perm xs → ys = xs
  | [], _, _, h => h.eq_nil
  | [_], _, _, h => List.perm_singleton.1 h
  | _ :: _ :: _, _, h, _ => by simp at h
theorem s_sort01 {X0 : Cx} {E : XK} {H : Hp} {Q : VK} {a : Addr} {xs : List V} {d : Nat} {B : Int} (hd : 1 ≤ d) (ha : SqL X0.K H a xs) (hl : xs.length ≤ 1) (hx : ∀ x ∈ xs, ∃ ns, TupI X0.K H x ns ∧ ns.length = d ∧ TS.Bd B ns) (q : ∀ p, H p = none → Q (.ref p) (upd H p (.lst xs))) : ∃ r, CaD X0 E (.builtin "sorted") r ∧ r [.ref a] H Q := by
  refine ⟨rSortU X0.K d B, fun X l _ => by rw [← l.K]; exact cr_sortT hd, a, xs, rfl, ha, by omega, hx, fun ys p hp _ hn => ?_⟩
  rw [perm01 hl hp]
  exact q p hn
end Odd

namespace Odd
open PySem PySem.Spec PyProof.Rows L2
/-! ### bits: 1 << k, n & (1 << k), n.bit_length() -/
section
variable {X0 : Cx} {E : XK} {H : Hp} {Q : VK}
theorem s_oneShl {k : Nat} (hk : k ≤ 1000) (q : Q (.int (2 ^ k)) H) : ∃ r, OpD X0 E (binaryOp .LShift) r ∧ r (.int 1) (.int (k : Nat)) H Q := ⟨_, fun _ _ _ => op_oneShl, k, rfl, rfl, Nat.le_trans hk (by decide), q⟩
theorem s_absZ {i : Int} (q : Q (.int (if i < 0 then -i else i)) H) : ∃ r, CaD X0 E (.builtin "abs") r ∧ r [.int i] H Q := ⟨_, fun _ _ _ => call_abs, i, rfl, q⟩
theorem s_allL {a : Addr} {bs : List Bool} (hc : X0.calm = true) (h : SqL X0.K H a (bs.map V.bl)) (q : Q (.bl (bs.all id)) H) : ∃ r, CaD X0 E (.builtin "all") r ∧ r [.ref a] H Q :=
  ⟨rAll X0.K, fun X l _ => by rw [← l.K]; exact cr_all (l.calm.trans hc), a, bs, rfl, h, q⟩
theorem s_band {i j : Int} (q : Q (.int (Builtin.bitAnd i j)) H) : ∃ r, OpD X0 E (binaryOp .BitAnd) r ∧ r (.int i) (.int j) H Q := ⟨_, fun _ _ _ => op_and, i, j, rfl, rfl, q⟩
end
/-- a.join(e), within a comprehension -/
theorem pe_joinA {X0 X : Cx} {o e : Expr} {to te : TE} {apos pos : Pos} (l : Like X0 X) (ho : PE X o to) (he : PE X e te) (hs : starEach [e] X.env = [(false, eval e X.env)] := by rfl) (hbase : attributeBase o "join" X.env (eval o X.env) = eval o X.env := by rfl) (hline : (apos.endLine == pos.line) = true := by rfl) :
    PE X (.Call (.Attribute o "join" apos) [e] [] pos) (tM1 (fun x xs H Q => ∃ a p, ∃ ys : List Str, x = .str a ∧ xs = [.ref p] ∧ (SqL X0.K H p (ys.map V.str) ∨ SqT X0.K H p (ys.map V.str)) ∧
      (ys.map (·.length)).sum + ys.length * a.length ≤ 16777216 ∧ Q (.str (Txt.join a ys)) H) to te) := by
  rw [← l.K]
  exact pe_join ho he hs hbase hline
theorem w_bits {to : TE} {σ : L2.St} {H : Hp} {Q : VK} (h : to σ H fun x H1 => ∃ i, x = .int i ∧ Q (.int (Builtin.Int.intBits i : Nat)) H1) : tBits to σ H Q := h
/-- which seats the bits of a number stand for -/
def bitSeats (m : Nat) : List Nat := (List.range (Builtin.Int.intBits (m : Int))).filter fun s => Builtin.bitAnd (m : Int) (2 ^ s) != 0
/-- the number that seats stand for -/
def bitSum (ss : List Nat) : Nat := (ss.map fun s => 2 ^ s).sum
/-- the lists of ascending seats from lo to 7 -/
def ascs : Nat → Nat → List (List Nat)
  | 0, _ => [[]]
  | f + 1, lo => ascs f (lo + 1) ++ (ascs f (lo + 1)).map (lo :: ·)
theorem bits_all : ∀ ss ∈ ascs 8 0, bitSeats (bitSum ss) = ss ∧ bitSum ss < 256 := by decide +kernel
end Odd

namespace Odd
open PySem PySem.Spec PyProof.Rows L2
/-! ### dicts whose keys are tables: tuples of tuples of numbers -/
def rowKey (r : List Int) : NestedKey := .tup (r.map .num)
def tabKey (rows : List (List Int)) : NestedKey := .tup (rows.map rowKey)
theorem num_inj : ∀ {r s : List Int}, r.map NestedKey.num = s.map NestedKey.num → r = s
  | [], [], _ => rfl
  | [], _ :: _, h => by cases h
  | _ :: _, [], h => by cases h
  | a :: r, b :: s, h => by
    injection h with h1 h2
    injection h1 with h3
    rw [h3, num_inj h2]
theorem tab_inj : ∀ {x y : List (List Int)}, x.map rowKey = y.map rowKey → x = y
  | [], [], _ => rfl
  | [], _ :: _, h => by cases h
  | _ :: _, [], h => by cases h
  | a :: r, b :: s, h => by
    injection h with h1 h2
    injection h1 with h3
    rw [num_inj h3, tab_inj h2]
theorem tabKey_inj {x y : List (List Int)} : tabKey x = tabKey y ↔ x = y := ⟨fun h => by injection h with h; exact tab_inj h, fun h => by rw [h]⟩
theorem num_depth : ∀ r : List Int, NestedKey.depthAll (r.map .num) = 0
  | [] => rfl
  | a :: r => by show max 0 (NestedKey.depthAll (r.map .num)) = 0; rw [num_depth r]; rfl
theorem row_depth : ∀ rows : List (List Int), NestedKey.depthAll (rows.map rowKey) ≤ 1
  | [] => Nat.zero_le _
  | r :: rows => by
    show max (NestedKey.depthAll (r.map .num) + 1) (NestedKey.depthAll (rows.map rowKey)) ≤ 1
    rw [num_depth]
    have := row_depth rows
    omega
theorem tab_depth (rows : List (List Int)) : (tabKey rows).depth ≤ 8 := by
  show NestedKey.depthAll (rows.map rowKey) + 1 ≤ 8
  have := row_depth rows
  omega
/-- the table rows stands at a, as a tuple of tuples -/
def KeyAt (H : Hp) (rows : List (List Int)) (a : Addr) : Prop := ∃ ps : List Addr, H a = some (.tup (ps.map V.ref)) ∧ ps.length = rows.length ∧ ∀ (i : Nat) p r, ps[i]? = some p → rows[i]? = some r → H p = some (.tup (r.map V.int))
theorem KeyAt.keep {H H' : Hp} {rows : List (List Int)} {a : Addr} (h : KeyAt H rows a) (k : ∀ p xs, H p = some (.tup xs) → H' p = some (.tup xs)) : KeyAt H' rows a := by
  obtain ⟨ps, h1, h2, h3⟩ := h
  exact ⟨ps, k _ _ h1, h2, fun i p r e1 e2 => k _ _ (h3 i p r e1 e2)⟩
section
variable {P : Program} {w : World} {H : Hp} {h : Heap}
theorem num_all : ∀ {r : List Int} {its : List Value}, Vals (r.map V.int) its → NestedAll h (r.map .num) its
  | [], _, q => by cases q; exact .nil
  | a :: r, _, q => by
    cases q with
    | cons q1 q2 =>
      obtain ⟨t, rfl⟩ := q1
      exact .cons (.int a t) (num_all q2)
theorem row_is (ok : HOk P w H h) {r : List Int} {p : Addr} (e : H p = some (.tup (r.map V.int))) : NestedIs h (rowKey r) (.ref p) := by
  obtain ⟨_, its, q, o, h1, h2, n, h3⟩ := (show ObjOk P w H h p (.tup (r.map V.int)) from ok p _ e)
  exact .tup h1 h2 h3 (by simpa using num_all q)
theorem rows_all (ok : HOk P w H h) : ∀ {ps : List Addr} {rows : List (List Int)} {its : List Value}, ps.length = rows.length → (∀ (i : Nat) p r, ps[i]? = some p → rows[i]? = some r → H p = some (.tup (r.map V.int))) → Vals (ps.map V.ref) its → NestedAll h (rows.map rowKey) its
  | [], [], _, _, _, q => by cases q; exact .nil
  | [], _ :: _, _, e, _, _ => by simp at e
  | _ :: _, [], _, e, _, _ => by simp at e
  | p :: ps, r :: rows, _, e, k, q => by
    cases q with
    | @cons _ u _ _ q1 q2 =>
      obtain rfl : u = Value.ref p := q1
      exact .cons (row_is ok (k 0 p r rfl rfl)) (rows_all ok (by simpa using e) (fun i p r e1 e2 => k (i + 1) p r e1 e2) q2)
theorem keyAt_is (ok : HOk P w H h) {rows : List (List Int)} {a : Addr} (k : KeyAt H rows a) : (nestedKind P w).is h (tabKey rows) a := by
  obtain ⟨ps, h1, h2, h3⟩ := k
  obtain ⟨_, its, q, o, e1, e2, n, e3⟩ := (show ObjOk P w H h a (.tup (ps.map V.ref)) from ok a _ h1)
  exact ⟨.tup e1 e2 e3 (by simpa using rows_all ok h2 h3 q), tab_depth rows⟩
end
/-- an entry: the table, where its tuple stands, the number -/
abbrev Ent := List (List Int) × Addr × Int
abbrev EntR (p : Ent) (q : NestedKey × Addr × Value) : Prop := q.1 = tabKey p.1 ∧ q.2.1 = p.2.1 ∧ ∃ t, q.2.2 = .int p.2.2 t
def NDat (P : Program) (w : World) (d : Addr) (kvs : List Ent) (h : Heap) : Prop := (d == sysModules) = false ∧ kvs.length ≤ 1000 ∧ ∃ xs : List (NestedKey × Addr × Value), Paired EntR kvs xs ∧
  ∃ o es ep, h.get? d = some o ∧ o.ExactDict ∧ o.data = .dict es ep ∧ es.toList = xs.map (entryOfKey (nestedKind P w)) ∧ (xs.map (·.1)).Nodup
/-- a dict of tables at d -/
def ND (P : Program) (w : World) (d : Addr) (kvs : List Ent) : HO := .ext (NDat P w d kvs)
theorem nd_ok {P : Program} {w : World} {H : Hp} {h : Heap} {d : Addr} {kvs : List Ent} (q : NDat P w d kvs h) : ObjOk P w H h d (ND P w d kvs) := by
  obtain ⟨z, l, xs, r, o, es, ep, e1, e2, e3, e4, e5⟩ := id q
  exact ⟨q, ⟨o, e1⟩, fun h1 h2 ⟨z, l, xs, r, o, es, ep, e1, e2, e3, e4, e5⟩ k => ⟨z, l, xs, r, o, es, ep, k o e1, e2, e3, e4, e5⟩⟩
def ndGet (kvs : List Ent) (key : List (List Int)) : Option Int := (kvs.find? fun p => decide (p.1 = key)).map (·.2.2)
def ndPut (kvs : List Ent) (key : List (List Int)) (a : Addr) (v : Int) : List Ent := if (ndGet kvs key).isSome then kvs.map (fun p => if p.1 = key then (p.1, p.2.1, v) else p) else kvs ++ [(key, a, v)]
theorem nd_get : ∀ {kvs : List Ent} {xs : List (NestedKey × Addr × Value)} (key : List (List Int)), Paired EntR kvs xs → (ndGet kvs key = none ∧ atKey xs (tabKey key) = none) ∨ ∃ i b t, ndGet kvs key = some i ∧ atKey xs (tabKey key) = some (b, .int i t)
  | [], [], key, _ => .inl ⟨rfl, rfl⟩
  | p :: kvs, q :: xs, key, .cons r rs => by
    obtain ⟨r1, r2, t, r3⟩ := r
    by_cases e : p.1 = key
    · refine .inr ⟨p.2.2, q.2.1, t, by simp [ndGet, e], ?_⟩
      have : q.1 = tabKey key := by rw [r1, e]
      simp [atKey, this, ← r3]
    · have ne : ¬ q.1 = tabKey key := fun z => e (tabKey_inj.1 (by rw [← r1, z]))
      rcases nd_get key rs with ⟨h1, h2⟩ | ⟨i, b, t, h1, h2⟩
      · exact .inl ⟨by simpa [ndGet, e] using h1, by simpa [atKey, ne] using h2⟩
      · exact .inr ⟨i, b, t, by simpa [ndGet, e] using h1, by simpa [atKey, ne] using h2⟩
theorem nd_put {kvs : List Ent} {xs : List (NestedKey × Addr × Value)} (key : List (List Int)) (a : Addr) (v : Int) (t : Tok) (r : Paired EntR kvs xs) : Paired EntR (ndPut kvs key a v) (storedH xs (tabKey key) a (.int v t)) := by
  have hm : ∀ {kvs : List Ent} {xs : List (NestedKey × Addr × Value)}, Paired EntR kvs xs → Paired EntR (kvs.map fun p => if p.1 = key then (p.1, p.2.1, v) else p) (xs.map (putAt (tabKey key) (.int v t))) := by
    intro kvs xs r
    induction r with
    | nil => exact .nil
    | @cons p q ps qs r rs ih =>
      refine .cons ?_ ih
      obtain ⟨r1, r2, t2, r3⟩ := r
      by_cases e : p.1 = key
      · have : q.1 = tabKey key := by rw [r1, e]
        show EntR (if p.1 = key then (p.1, p.2.1, v) else p) _
        rw [if_pos e]
        unfold putAt
        rw [if_pos this]
        exact ⟨r1, r2, t, rfl⟩
      · have ne : ¬ q.1 = tabKey key := fun z => e (tabKey_inj.1 (by rw [← r1, z]))
        show EntR (if p.1 = key then (p.1, p.2.1, v) else p) _
        rw [if_neg e]
        unfold putAt
        rw [if_neg ne]
        exact ⟨r1, r2, t2, r3⟩
  have hs : ∀ {kvs : List Ent} {xs : List (NestedKey × Addr × Value)}, Paired EntR kvs xs → Paired EntR (kvs ++ [(key, a, v)]) (xs ++ [(tabKey key, a, .int v t)]) := by
    intro kvs xs r
    induction r with
    | nil => exact .cons ⟨rfl, rfl, t, rfl⟩ .nil
    | cons r rs ih => exact .cons r ih
  unfold ndPut storedH
  rcases nd_get key r with ⟨h1, h2⟩ | ⟨i, b, t2, h1, h2⟩
  · rw [h1, h2]
    exact hs r
  · rw [h1, h2]
    exact hm r
theorem ndPut_len {kvs : List Ent} {key : List (List Int)} {a : Addr} {v : Int} : (ndPut kvs key a v).length ≤ kvs.length + 1 := by
  unfold ndPut
  split <;> simp
/-- all keys stand -/
def KeysAt (H : Hp) (kvs : List Ent) : Prop := ∀ p ∈ kvs, KeyAt H p.1 p.2.1
theorem KeysAt.put {H : Hp} {kvs : List Ent} {key : List (List Int)} {a : Addr} {v : Int} (h : KeysAt H kvs) (k : KeyAt H key a) : KeysAt H (ndPut kvs key a v) := by
  intro p hp
  unfold ndPut at hp
  split at hp
  · obtain ⟨q, hq, rfl⟩ := List.mem_map.1 hp
    have := h q hq
    split <;> exact this
  · rcases List.mem_append.1 hp with hp | hp
    · exact h p hp
    · rw [List.mem_singleton.1 hp]; exact k
theorem nd_keys {P : Program} {w : World} {H : Hp} {h : Heap} (ok : HOk P w H h) : ∀ {kvs : List Ent} {xs : List (NestedKey × Addr × Value)}, Paired EntR kvs xs → KeysAt H kvs → ∀ x ∈ xs, (nestedKind P w).is h x.1 x.2.1
  | [], [], _, _, x, hx => by simp at hx
  | p :: kvs, q :: xs, .cons r rs, k, x, hx => by
    rcases List.mem_cons.1 hx with rfl | hx
    · rw [r.1, r.2.1]
      exact keyAt_is ok (k p (List.mem_cons_self ..))
    · exact nd_keys ok rs (fun p hp => k p (List.mem_cons_of_mem _ hp)) x hx
/-- {}, to be a dict of tables -/
def tDNewN (P : Program) (w : World) : TE := fun _ H Q => ∀ p, H p = none → Q (.ref p) (upd H p (ND P w p []))
theorem pe_dnewN {X0 X : Cx} {pos : Pos} (l : Like X0 X) : PE X (.Dict [] [] pos) (tDNewN X0.prog X0.w) := by
  rw [← l.prog, ← l.w]
  exact ⟨fun pins s σ H Q I h => wpAny_Dict_empty ⟨.ref s.heap.objs.size, _, I.laid (a := s.heap.objs.size) (o := ND X.prog X.w s.heap.objs.size []) (t' := s.toks) (fun _ _ q => Heap.get?_push_of_some _ q) (Nat.le_refl _)
    (nd_ok ⟨beq_eq_false_iff_ne.mpr (Ne.symm (Nat.ne_of_lt I.big)), Nat.zero_le _, [], .nil, _, #[], 0, Heap.get?_push_size _ rfl, ⟨rfl, rfl, rfl⟩, rfl, rfl, List.nodup_nil⟩), rfl, h _ (I.hok.fresh (Nat.le_refl _))⟩⟩
theorem nd_at {P : Program} {w : World} {H : Hp} {h : Heap} {d : Addr} {kvs : List Ent} (ok : HOk P w H h) (e : H d = some (ND P w d kvs)) : NDat P w d kvs h := by
  have x : ObjOk P w H h d (.ext (NDat P w d kvs)) := ok d _ e
  exact x.1
/-- d.get(key, x) -/
def tDGetN (P : Program) (w : World) (td ty tx : TE) : TE := fun σ H Q => td σ H fun x H1 => ∃ a, x = .ref a ∧ (∃ kvs, H1 a = some (ND P w a kvs)) ∧ ty σ H1 fun y H2 => tx σ H2 fun z H3 => ∃ kvs key b i, H3 a = some (ND P w a kvs) ∧ KeysAt H3 kvs ∧ y = .ref b ∧ KeyAt H3 key b ∧ z = .int i ∧ Q (.int ((ndGet kvs key).getD i)) H3
theorem pe_dgetN {X0 X : Cx} {o e f : Expr} {apos cpos : Pos} {td ty tx : TE} (l : Like X0 X) (hu : X.A.units + 9 < cLine) (ho : PE X o td) (he : PE X e ty) (hf : PE X f tx) (m : M2 X o "get" apos e f cpos) : PE X (.Call (.Attribute o "get" apos) [e, f] [] cpos) (tDGetN X0.prog X0.w td ty tx) := by
  rw [← l.prog, ← l.w]
  refine ⟨fun pins s σ H Q I h => ?_⟩
  refine wpAny_Call_method m.base m.few m.line PySem.F.plainAttrs_dict PySem.F.slot_dict_get PySem.F.type_dict_get (thn (ho.run pins s σ H _ I h) fun u s1 ⟨x, H1, I1, rx, a, ex, ⟨kv0, d⟩, q1⟩ => ?_)
  subst ex
  obtain rfl : u = Value.ref a := rx
  obtain ⟨_, _, xs0, _, o0, es0, ep0, g1, g2, _, _, _⟩ := nd_at I1.hok d
  refine ⟨⟨o0, g1, g2.1⟩, fun b q => ?_, ?_⟩
  · cases q
    exact ⟨o0, g1, g2.2.1⟩
  rw [m.trees]
  refine Calls.callWith_builtin rfl (Calls.evalArgs_plain (Calls.spliced_cons (thn (he.run pins s1 σ H1 _ I1 q1) fun iv s2 ⟨y, H2, I2, ry, q2⟩ =>
    Calls.spliced_cons (thn (hf.run pins s2 σ H2 _ I2 q2) fun fv s3 ⟨z, H3, I3, rz, kvs, key, b, i, hd, hk, ey, hkey, ez, q3⟩ => Calls.spliced_nil ?_))))
  subst ey ez
  obtain rfl : iv = Value.ref b := ry
  obtain ⟨t, rfl⟩ := rz
  obtain ⟨hz, hl, xs, r, oo, es, ep, e1, e2, e3, e4, e5⟩ := nd_at I3.hok hd
  have dd : s3.heap.DictOfH (nestedKind X.prog X.w) a xs := ⟨oo, es, ep, e1, e2, e3, e4, nd_keys I3.hok r hk, e5⟩
  refine call_meetsIn PySem.F.slot_dict_get dd.typeIs PySem.F.entry_dict_get (PySem.F.args_dict_get_3 _ _ _) (meetsH_dict_get_default (nestedKind X.prog X.w) a b hz (.int i t)) ⟨?_, tabKey key, xs, keyAt_is I3.hok hkey, dd, ?_⟩
  · show X.A.in1.units + 8 < cLine
    have : X.A.in1.units = X.A.units + 1 := rfl
    omega
  · rcases nd_get key r with ⟨h1, h2⟩ | ⟨j, b2, t2, h1, h2⟩
    · rw [h1] at q3
      rw [h2]
      exact ⟨.int i, H3, I3.tok _, ⟨t, rfl⟩, q3⟩
    · rw [h1] at q3
      rw [h2]
      exact ⟨.int j, H3, I3.tok _, ⟨t2, rfl⟩, q3⟩
/-- d[key] = v -/
def rSetN (P : Program) (w : World) : TSet := fun o i v H Q => ∃ a kvs key b j, o = .ref a ∧ H a = some (ND P w a kvs) ∧ KeysAt H kvs ∧ i = .ref b ∧ KeyAt H key b ∧ v = .int j ∧ kvs.length < 1000 ∧ Q (upd H a (ND P w a (ndPut kvs key b j)))
theorem set_dictN {X0 X : Cx} (l : Like X0 X) (hu : X.A.units + 9 < cLine) : PSet X (rSetN X0.prog X0.w) := by
  rw [← l.prog, ← l.w]
  intro pins s σ H o i v ov iv u Q I ro ri rv h
  obtain ⟨a, kvs, key, b, j, rfl, hd, hk, rfl, hkey, rfl, hl, q⟩ := h
  obtain rfl : ov = Value.ref a := ro
  obtain rfl : iv = Value.ref b := ri
  obtain ⟨t, rfl⟩ := rv
  obtain ⟨hz, _, xs, r, oo, es, ep, e1, e2, e3, e4, e5⟩ := nd_at I.hok hd
  have dd : s.heap.DictOfH (nestedKind X.prog X.w) a xs := ⟨oo, es, ep, e1, e2, e3, e4, nd_keys I.hok r hk, e5⟩
  have hxl : xs.length = kvs.length := (Paired.length r).symm
  refine wpAny_setItem_heap (knd := nestedKind X.prog X.w) (k := tabKey key) ?_ (keyAt_is I.hok hkey) dd (fun h' hm' hs => ?_) (by rw [hxl]; exact Nat.le_trans (Nat.le_of_lt hl) (by decide))
  · show X.A.in1.units + 8 < cLine
    have : X.A.in1.units = X.A.units + 1 := rfl
    omega
  · obtain ⟨o2, es2, ep2, f1, f2, f3, f4, f5, f6⟩ := hm'
    have nd : NDat X.prog X.w a (ndPut kvs key b j) h' := ⟨hz, Nat.le_trans ndPut_len hl, _, nd_put key b j t r, o2, es2, ep2, f1, f2, f3, f4, f6⟩
    exact ⟨_, I.write (x := a) (e := a) (o := ND X.prog X.w a (ndPut kvs key b j)) (by rw [hd]; exact True.intro) (.inl rfl) (fun c o hc z => (hs.2 c hc).trans z) ⟨_, f1⟩ (nd_ok nd), q⟩
theorem hu9 {k : Nat} {A : Around} (hr : Room k A) : A.units + 9 < cLine := by
  have := hr.units
  omega
theorem w_dgetN {P : Program} {w : World} {td ty tx : TE} {σ : L2.St} {H : Hp} {Q : VK} (h : td σ H fun x H1 => ∃ a, x = .ref a ∧ (∃ kvs, H1 a = some (ND P w a kvs)) ∧ ty σ H1 fun y H2 => tx σ H2 fun z H3 => ∃ kvs key b i, H3 a = some (ND P w a kvs) ∧ KeysAt H3 kvs ∧ y = .ref b ∧ KeyAt H3 key b ∧ z = .int i ∧ Q (.int ((ndGet kvs key).getD i)) H3) : tDGetN P w td ty tx σ H Q := h
theorem w_dnewN {P : Program} {w : World} {σ : L2.St} {H : Hp} {Q : VK} (h : ∀ p, H p = none → Q (.ref p) (upd H p (ND P w p []))) : tDNewN P w σ H Q := h
theorem ndGet_cons (p : Ent) (kvs : List Ent) (k : List (List Int)) : ndGet (p :: kvs) k = if p.1 = k then some p.2.2 else ndGet kvs k := by
  unfold ndGet
  rw [List.find?_cons]
  by_cases e : p.1 = k
  · rw [if_pos e, decide_eq_true e]; rfl
  · rw [if_neg e, decide_eq_false e]
theorem ndGet_map (key key' : List (List Int)) (v : Int) : ∀ kvs : List Ent, ndGet (kvs.map fun p => if p.1 = key then (p.1, p.2.1, v) else p) key' = if key' = key then (ndGet kvs key).map (fun _ => v) else ndGet kvs key'
  | [] => by unfold ndGet; split <;> rfl
  | p :: kvs => by
    rw [List.map_cons, ndGet_cons, ndGet_cons, ndGet_cons, ndGet_map key key' v kvs]
    by_cases e : p.1 = key
    · rw [if_pos e, if_pos e]
      show (if p.1 = key' then some v else _) = _
      by_cases z : key' = key
      · rw [if_pos z, if_pos (by rw [e, z]), if_pos z]; rfl
      · rw [if_neg z, if_neg (by rw [e]; exact fun y => z y.symm), if_neg z]
        rw [if_neg (by rw [e]; exact fun y => z y.symm)]
    · rw [if_neg e, if_neg e]
      by_cases z : key' = key
      · rw [if_pos z, if_pos z, if_neg (by rw [z]; exact e)]
      · rw [if_neg z, if_neg z]
theorem ndGet_app (kvs ls : List Ent) (k : List (List Int)) : ndGet (kvs ++ ls) k = match ndGet kvs k with | some i => some i | none => ndGet ls k := by
  induction kvs with
  | nil => rfl
  | cons p kvs ih =>
    rw [List.cons_append, ndGet_cons, ndGet_cons, ih]
    split <;> rfl
theorem ndGet_put (kvs : List Ent) (key key' : List (List Int)) (a : Addr) (v : Int) : ndGet (ndPut kvs key a v) key' = if key' = key then some v else ndGet kvs key' := by
  unfold ndPut
  cases e : ndGet kvs key with
  | none =>
    rw [if_neg (by simp), ndGet_app, ndGet_cons]
    by_cases z : key' = key
    · rw [if_pos z, z, e, if_pos rfl]
    · rw [if_neg z, if_neg (fun y => z y.symm)]
      cases ndGet kvs key' <;> rfl
  | some i =>
    rw [if_pos (by simp), ndGet_map, e]
    rfl
end Odd

namespace Odd
open PySem PySem.Spec PyProof.Rows L2
/-! ### a sign, so many times -/
def signs (c : Nat) (n : Nat) : Str := ⟨(List.replicate n c).toArray⟩
theorem signs_len {c n : Nat} : (signs c n).length = n := by
  show (List.replicate n c).toArray.size = n
  simp
theorem fold_signs (c : Nat) : ∀ (n : Nat) (acc : Array Nat), (List.replicate n #[c]).foldl (· ++ ·) acc = acc ++ (List.replicate n c).toArray
  | 0, acc => by simp
  | n + 1, acc => by
    rw [List.replicate_succ, List.foldl_cons, fold_signs c n, List.replicate_succ]
    apply Array.ext'
    simp
def rSign : V → V → Hp → VK → Prop := fun x y H Q => ∃ (c : Nat) (n : Int), x = .str ⟨#[c]⟩ ∧ y = .int n ∧ -100000 ≤ n ∧ n ≤ 100000 ∧ Q (.str (signs c n.toNat)) H
theorem op_mulSign {X : Cx} : OpR X (binaryOp .Mult) rSign := by
  intro pins s σ H x y v u Q I rx ry h
  obtain ⟨c, n, rfl, rfl, h1, h2, q⟩ := h
  obtain ⟨t, rfl⟩ := (show ∃ t, v = Value.str ⟨#[c]⟩ t from rx)
  obtain ⟨t', rfl⟩ := (show ∃ t, u = Value.int n t from ry)
  refine P.mul_str ?_ (fun hn _ => ?_) (fun hn _ => ?_) ?_
  · rw [decide_eq_false (show ¬ n < -(2 ^ 63 : Int) by omega), decide_eq_false (show ¬ n ≥ 2 ^ 63 by omega)]
    rfl
  · show ¬ ((1 : Int) > (2 ^ 63 - 1) / n)
    have : 1 ≤ (2 ^ 63 - 1 : Int) / n := Int.le_ediv_of_mul_le (by omega) (by omega)
    omega
  · show PySem.Builtin.Str.tooLong (1 * n.toNat) = false
    unfold PySem.Builtin.Str.tooLong
    have : (100000 : Nat) ≤ sizeLine := by decide
    simp
    omega
  · by_cases hn : n < 1
    · rw [if_pos hn]
      have e : n.toNat = 0 := by omega
      rw [e] at q
      exact ⟨by decide, .str (signs c 0), H, I.tok _, ⟨_, rfl⟩, q⟩
    · rw [if_neg hn]
      by_cases h3 : (n == 1 || (⟨#[c]⟩ : Str).length == 0) = true
      · rw [if_pos h3]
        have e : n = 1 := by
          have : ((⟨#[c]⟩ : Str).length == 0) = false := rfl
          rw [this, Bool.or_false] at h3
          exact eq_of_beq h3
        subst e
        exact ⟨.str (signs c 1), H, I, ⟨t, rfl⟩, q⟩
      · rw [if_neg h3]
        have e : (⟨(List.replicate n.toNat (#[c] : Array Nat)).foldl (· ++ ·) #[]⟩ : Str) = signs c n.toNat := by
          rw [fold_signs]
          simp [signs]
        show Made.post (Made.str ⟨(List.replicate n.toNat (#[c] : Array Nat)).foldl (· ++ ·) #[]⟩) _ s
        rw [e]
        exact ⟨by rw [signs_len]; exact Nat.le_trans (show n.toNat ≤ 100000 by omega) (by decide), .str (signs c n.toNat), H, I.tok _, ⟨_, rfl⟩, q⟩
theorem s_sign {X0 : Cx} {E : XK} {H : Hp} {Q : VK} {c : Nat} {n : Int} (h1 : -100000 ≤ n) (h2 : n ≤ 100000) (q : Q (.str (signs c n.toNat)) H) : ∃ r, OpD X0 E (binaryOp .Mult) r ∧ r (.str ⟨#[c]⟩) (.int n) H Q := ⟨rSign, fun _ _ _ => op_mulSign, c, n, rfl, rfl, h1, h2, q⟩
end Odd

namespace Odd
open PySem PySem.Spec PyProof.Rows L2 Builtin Builtin.Int Builtin.Float
/-! ### fields with a specification -/
abbrev fComma : FormatSpec := { fill := 32, align := 62, width := none, grouping := some ',', type := none }
abbrev fTwo : FormatSpec := { fill := 48, align := 61, width := some 2, grouping := none, type := some 100 }
abbrev fLeft : FormatSpec := { fill := 32, align := 60, width := some 4, grouping := none, type := none }
abbrev fRight : FormatSpec := { fill := 32, align := 62, width := some 26, grouping := none, type := none }
theorem p_comma : parseFormatSpec ("," : Str).cps.toList "int" 62 = .ok fComma := by rfl
theorem p_two : parseFormatSpec ("02d" : Str).cps.toList "int" 62 = .ok fTwo := by rfl
theorem p_left : parseFormatSpec ("<4" : Str).cps.toList "int" 62 = .ok fLeft := by rfl
theorem p_right : parseFormatSpec (">26" : Str).cps.toList "int" 62 = .ok fRight := by rfl
abbrev SpecM (a : Int) (t : Tok) (spec : Str) (f : FormatSpec) : Prop := ∀ u, Meets («int.__format__» ⟨[.int a t, .str spec u], []⟩) (fun _ R s => ∀ t' k, R (.ok (.ret (.str (intSpecText f a) t'))) { s with toks := k })
theorem m_comma {a : Int} {t : Tok} (hd : a.natAbs.log2 < 1920) (hlen : (intSpecText fComma a).length ≤ sizeLine) : SpecM a t "," fComma := fun u => .of_wp fun prog w A R s h => by
  unfold «int.__format__» selfAndOne noKeywords Int.intOfSelf
  simp only [asInt?, asStr?, List.isEmpty_nil, if_true, pure_bind, if_false, Bool.false_eq_true, show (Value.str ("," : Str) u == Value.none) = false from rfl, show ((("," : Str).length == 0)) = false from rfl,
    show (((("," : Str).cps.toList.drop 1).any (· ≥ 128)) || (decide (("," : Str).cps.getD 0 0 ≥ 128) && !([60, 62, 61, 94] : List Nat).contains (("," : Str).cps.getD 1 0))) = false from rfl]
  refine wpAny_bind (wpAny_typeNameOf (T := "str") (typeIs_str _ _ _) (by decide) fun _ => ?_)
  refine wpAny_bind (wpAny_typeNameOfCut_int ?_)
  rw [p_comma]
  show wpAny _ _ (Builtin.overDigitLimit? a >>= _) _ _ s
  rw [PySem.overDigitLimit_small hd]
  refine wpAny_bind (wpAny_pure ?_)
  show wpAny _ _ (retStr _) _ _ s
  have key : ∀ X : Str, X = intSpecText fComma a → wpAny (model prog w) A.in1 (retStr X) (fun fin s' => ∃ v, fin = Fin.done (Flow.ret v) ∧ R (Except.ok (Flow.ret v)) s') (fun e s' => R (Except.error e) s') s := fun X e => by
    subst e
    unfold retStr
    exact wpAny_bind (wpAny_mkStr (wpAny_pure ⟨_, rfl, h _ _⟩) hlen)
  refine key _ ?_
  first | rfl | kernel_rfl | (show _ = intField' _ _ _ _ _ _; rfl)
theorem m_two {a : Int} {t : Tok} (hd : a.natAbs.log2 < 1920) (hlen : (intSpecText fTwo a).length ≤ sizeLine) : SpecM a t "02d" fTwo := fun u => .of_wp fun prog w A R s h => by
  unfold «int.__format__» selfAndOne noKeywords Int.intOfSelf
  simp only [asInt?, asStr?, List.isEmpty_nil, if_true, pure_bind, if_false, Bool.false_eq_true, show (Value.str ("02d" : Str) u == Value.none) = false from rfl, show ((("02d" : Str).length == 0)) = false from rfl,
    show (((("02d" : Str).cps.toList.drop 1).any (· ≥ 128)) || (decide (("02d" : Str).cps.getD 0 0 ≥ 128) && !([60, 62, 61, 94] : List Nat).contains (("02d" : Str).cps.getD 1 0))) = false from rfl]
  refine wpAny_bind (wpAny_typeNameOf (T := "str") (typeIs_str _ _ _) (by decide) fun _ => ?_)
  refine wpAny_bind (wpAny_typeNameOfCut_int ?_)
  rw [p_two]
  show wpAny _ _ (Builtin.overDigitLimit? a >>= _) _ _ s
  rw [PySem.overDigitLimit_small hd]
  refine wpAny_bind (wpAny_pure ?_)
  show wpAny _ _ (retStr _) _ _ s
  have key : ∀ X : Str, X = intSpecText fTwo a → wpAny (model prog w) A.in1 (retStr X) (fun fin s' => ∃ v, fin = Fin.done (Flow.ret v) ∧ R (Except.ok (Flow.ret v)) s') (fun e s' => R (Except.error e) s') s := fun X e => by
    subst e
    unfold retStr
    exact wpAny_bind (wpAny_mkStr (wpAny_pure ⟨_, rfl, h _ _⟩) hlen)
  refine key _ ?_
  first | rfl | kernel_rfl | (show _ = intField' _ _ _ _ _ _; rfl)
theorem m_left {a : Int} {t : Tok} (hd : a.natAbs.log2 < 1920) (hlen : (intSpecText fLeft a).length ≤ sizeLine) : SpecM a t "<4" fLeft := fun u => .of_wp fun prog w A R s h => by
  unfold «int.__format__» selfAndOne noKeywords Int.intOfSelf
  simp only [asInt?, asStr?, List.isEmpty_nil, if_true, pure_bind, if_false, Bool.false_eq_true, show (Value.str ("<4" : Str) u == Value.none) = false from rfl, show ((("<4" : Str).length == 0)) = false from rfl,
    show (((("<4" : Str).cps.toList.drop 1).any (· ≥ 128)) || (decide (("<4" : Str).cps.getD 0 0 ≥ 128) && !([60, 62, 61, 94] : List Nat).contains (("<4" : Str).cps.getD 1 0))) = false from rfl]
  refine wpAny_bind (wpAny_typeNameOf (T := "str") (typeIs_str _ _ _) (by decide) fun _ => ?_)
  refine wpAny_bind (wpAny_typeNameOfCut_int ?_)
  rw [p_left]
  show wpAny _ _ (Builtin.overDigitLimit? a >>= _) _ _ s
  rw [PySem.overDigitLimit_small hd]
  refine wpAny_bind (wpAny_pure ?_)
  show wpAny _ _ (retStr _) _ _ s
  have key : ∀ X : Str, X = intSpecText fLeft a → wpAny (model prog w) A.in1 (retStr X) (fun fin s' => ∃ v, fin = Fin.done (Flow.ret v) ∧ R (Except.ok (Flow.ret v)) s') (fun e s' => R (Except.error e) s') s := fun X e => by
    subst e
    unfold retStr
    exact wpAny_bind (wpAny_mkStr (wpAny_pure ⟨_, rfl, h _ _⟩) hlen)
  refine key _ ?_
  first | rfl | kernel_rfl | (show _ = intField' _ _ _ _ _ _; rfl)
theorem m_right {a : Int} {t : Tok} (hd : a.natAbs.log2 < 1920) (hlen : (intSpecText fRight a).length ≤ sizeLine) : SpecM a t ">26" fRight := fun u => .of_wp fun prog w A R s h => by
  unfold «int.__format__» selfAndOne noKeywords Int.intOfSelf
  simp only [asInt?, asStr?, List.isEmpty_nil, if_true, pure_bind, if_false, Bool.false_eq_true, show (Value.str (">26" : Str) u == Value.none) = false from rfl, show (((">26" : Str).length == 0)) = false from rfl,
    show ((((">26" : Str).cps.toList.drop 1).any (· ≥ 128)) || (decide ((">26" : Str).cps.getD 0 0 ≥ 128) && !([60, 62, 61, 94] : List Nat).contains ((">26" : Str).cps.getD 1 0))) = false from rfl]
  refine wpAny_bind (wpAny_typeNameOf (T := "str") (typeIs_str _ _ _) (by decide) fun _ => ?_)
  refine wpAny_bind (wpAny_typeNameOfCut_int ?_)
  rw [p_right]
  show wpAny _ _ (Builtin.overDigitLimit? a >>= _) _ _ s
  rw [PySem.overDigitLimit_small hd]
  refine wpAny_bind (wpAny_pure ?_)
  show wpAny _ _ (retStr _) _ _ s
  have key : ∀ X : Str, X = intSpecText fRight a → wpAny (model prog w) A.in1 (retStr X) (fun fin s' => ∃ v, fin = Fin.done (Flow.ret v) ∧ R (Except.ok (Flow.ret v)) s') (fun e s' => R (Except.error e) s') s := fun X e => by
    subst e
    unfold retStr
    exact wpAny_bind (wpAny_mkStr (wpAny_pure ⟨_, rfl, h _ _⟩) hlen)
  refine key _ ?_
  first | rfl | kernel_rfl | (show _ = intField' _ _ _ _ _ _; rfl)
/-- a text, filled up with blanks on the left -/
theorem m_strR {x : Str} {t u : Tok} (hlen : x.length < 26) : Meets («str.__format__» ⟨[.str x t, .str ">26" u], []⟩) (fun _ R s => ∀ t' k, R (.ok (.ret (.str (signs 32 (26 - x.length) ++ x) t'))) { s with toks := k }) := .of_wp fun prog w A R s h => by
  unfold «str.__format__» Str.strOneArg selfAndOne noKeywords Str.textOf
  simp only [asStr?, List.isEmpty_nil, if_true, pure_bind, if_false, Bool.false_eq_true, show (((">26" : Str).length == 0)) = false from rfl,
    show ((((">26" : Str).cps.toList.drop 1).any (· ≥ 128)) || (decide ((">26" : Str).cps.getD 0 0 ≥ 128) && !([60, 62, 61, 94] : List Nat).contains ((">26" : Str).cps.getD 1 0))) = false from rfl]
  refine wpAny_bind (PySem.W.KXf.cut_str ?_)
  rw [show parseFormatSpec (">26" : Str).cps.toList "str" 60 = .ok fRight from rfl]
  have e : Str.strField x fRight "str" = .ok (some (signs 32 (26 - x.length) ++ x)) := by
    have sub : Str.strSub x 0 x.length = x := by
      show (⟨x.cps.extract 0 x.cps.size⟩ : Str) = x
      rw [Array.extract_size]
    have h1 : Str.strField x fRight "str" = (if decide (26 ≤ x.length) = true then pure none else pure (some (Str.padded (Str.strSub x 0 x.length) (26 - (Str.strSub x 0 x.length).length) (26 - (Str.strSub x 0 x.length).length - (26 - (Str.strSub x 0 x.length).length)) 32))) := by
      unfold Str.strField
      simp only [Option.isSome_none, Option.all_some, Option.all_none, Bool.and_true]
      rfl
    rw [h1, sub, decide_eq_false (by omega), if_neg Bool.false_ne_true]
    show Except.ok (some _) = _
    congr 2
    unfold Str.padded signs
    rw [Nat.sub_self]
    show (⟨_⟩ : Str) = ⟨_⟩
    congr 1
  try simp only [show (fRight.type.isNone && (">26" : Str).cps.back? == some 0) = false from rfl, Bool.false_eq_true, if_false]
  show wpAny _ _ (match (do let r ← Str.strField x fRight "str"; pure (some r) : Except String (Option (Option Str))) with | .error _ => _ | .ok none => _ | .ok (some none) => _ | .ok (some (some text)) => retStr text) _ _ s
  rw [e]
  show wpAny _ _ (retStr (signs 32 (26 - x.length) ++ x)) _ _ s
  unfold retStr
  refine wpAny_bind (wpAny_mkStr (wpAny_pure ⟨_, rfl, h _ _⟩) ?_)
  show ((signs 32 (26 - x.length)).cps ++ x.cps).size ≤ sizeLine
  rw [Array.size_append]
  have h1 : (signs 32 (26 - x.length)).cps.size = 26 - x.length := signs_len
  have h2 : x.cps.size = x.length := rfl
  exact Nat.le_trans (show _ ≤ 26 by omega) (by decide)
/-- 'mark' is four signs long -/
theorem m_mark {t u : Tok} : Meets («str.__format__» ⟨[.str "mark" t, .str "<4" u], []⟩) (fun _ R s => ∀ t' k, R (.ok (.ret (.str "mark" t'))) { s with toks := k }) := .of_wp fun prog w A R s h => by
  unfold «str.__format__» Str.strOneArg selfAndOne noKeywords Str.textOf
  simp only [asStr?, List.isEmpty_nil, if_true, pure_bind, if_false, Bool.false_eq_true, show ((("<4" : Str).length == 0)) = false from rfl,
    show (((("<4" : Str).cps.toList.drop 1).any (· ≥ 128)) || (decide (("<4" : Str).cps.getD 0 0 ≥ 128) && !([60, 62, 61, 94] : List Nat).contains (("<4" : Str).cps.getD 1 0))) = false from rfl]
  refine wpAny_bind (PySem.W.KXf.cut_str ?_)
  rw [show parseFormatSpec ("<4" : Str).cps.toList "str" 60 = .ok fLeft from rfl]
  show wpAny _ _ (do rule "str.__format__.unchanged"; ret (.str "mark" t)) _ _ s
  exact wpAny_bind (wpAny_rule (wpAny_pure ⟨_, rfl, h t s.toks⟩))
def FmtI (sp : Str) (f : FormatSpec) : Prop := (sp = "," ∧ f = fComma) ∨ (sp = "02d" ∧ f = fTwo) ∨ (sp = "<4" ∧ f = fLeft) ∨ (sp = ">26" ∧ f = fRight)
def FmtT (sp y z : Str) : Prop := (sp = ">26" ∧ y.length < 26 ∧ z = signs 32 (26 - y.length) ++ y) ∨ (sp = "<4" ∧ y = "mark" ∧ z = "mark")
/-- {e:sp} -/
def tFmtS (sp : Str) (te : TE) : TE := fun σ H Q => te σ H fun x H1 => (∃ i f, x = .int i ∧ i.natAbs.log2 < 1920 ∧ FmtI sp f ∧ (intSpecText f i).length ≤ sizeLine ∧ Q (.str (intSpecText f i)) H1) ∨ ∃ y z, x = .str y ∧ FmtT sp y z ∧ Q (.str z) H1
theorem pe_fmtS {X : Cx} {e : Expr} {te : TE} {sp : Str} {j : Nat} {p1 p2 pos : Pos} (he : PE X e te) : PE X (.FormattedValue e (-1) (some (.JoinedStr [.Constant (.str sp) j p1] p2)) pos) (tFmtS sp te) := by
  refine ⟨fun pins s σ H Q I h => ?_⟩
  refine wpAny_FormattedValue_spec (thn (he.run pins s σ H _ I h) fun v s1 ⟨x, H1, I1, r1, q⟩ => ?_)
  have hs : PE X (.JoinedStr [.Constant (.str sp) j p1] p2) (tC (.str sp)) := pe_joined1 pe_str
  refine thn (hs.run pins s1 σ H1 (fun y H2 => y = V.str sp ∧ H2 = H1) I1 ⟨rfl, rfl⟩) fun r s2 ⟨y, H2, I2, r2, ey, eH⟩ => ?_
  subst ey eH
  obtain ⟨t2, rfl⟩ := r2
  refine ⟨sp, t2, rfl, ?_⟩
  rcases q with ⟨i, f, rfl, hd, hf, hl, q⟩ | ⟨y, z, rfl, hf, q⟩
  · obtain ⟨t, rfl⟩ := r1
    have fin : ∀ t' k, EP X pins σ Q (.str (intSpecText f i) t') { s2 with toks := k } := fun t' k => ⟨.str (intSpecText f i), H2, I2.tok _, ⟨t', rfl⟩, q⟩
    rcases hf with ⟨rfl, rfl⟩ | ⟨rfl, rfl⟩ | ⟨rfl, rfl⟩ | ⟨rfl, rfl⟩
    · exact PySem.W.KXf.field_int rfl rfl (by decide) (m_comma hd hl) fin
    · exact PySem.W.KXf.field_int rfl rfl (by decide) (m_two hd hl) fin
    · exact PySem.W.KXf.field_int rfl rfl (by decide) (m_left hd hl) fin
    · exact PySem.W.KXf.field_int rfl rfl (by decide) (m_right hd hl) fin
  · obtain ⟨t, rfl⟩ := r1
    have fin : ∀ t' k, EP X pins σ Q (.str z t') { s2 with toks := k } := fun t' k => ⟨.str z, H2, I2.tok _, ⟨t', rfl⟩, q⟩
    rcases hf with ⟨rfl, hy, rfl⟩ | ⟨rfl, rfl, rfl⟩
    · exact PySem.W.KXf.field_str rfl rfl rfl (by decide) (fun u => m_strR hy) fin
    · exact PySem.W.KXf.field_str rfl rfl rfl (by decide) (fun u => m_mark) fin
theorem w_fmtS {sp : Str} {te : TE} {σ : L2.St} {H : Hp} {Q : VK} (h : te σ H fun x H1 => (∃ i f, x = .int i ∧ i.natAbs.log2 < 1920 ∧ FmtI sp f ∧ (intSpecText f i).length ≤ sizeLine ∧ Q (.str (intSpecText f i)) H1) ∨ ∃ y z, x = .str y ∧ FmtT sp y z ∧ Q (.str z) H1) : tFmtS sp te σ H Q := h
theorem w_fmt {te : TE} {σ : L2.St} {H : Hp} {Q : VK} (h : te σ H fun x H1 => (∃ y : Str, x = .str y ∧ y.length ≤ sizeLine ∧ Q (.str y) H1) ∨ ∃ i : Int, x = .int i ∧ i.natAbs.log2 < 1920 ∧ Q (.str (toString i)) H1) : tFmt te σ H Q := h
theorem w_js {t : TE} {ts : List TE} {acc : Str} {σ : L2.St} {H : Hp} {Q : Str → Hp → Prop} (h : t σ H fun x H1 => ∃ y : Str, x = .str y ∧ (acc ++ y).length ≤ sizeLine ∧ tJs ts (acc ++ y) σ H1 Q) : tJs (t :: ts) acc σ H Q := h
theorem w_js0 {acc : Str} {σ : L2.St} {H : Hp} {Q : Str → Hp → Prop} (h : Q acc H) : tJs [] acc σ H Q := h
end Odd

namespace Odd
open PySem PySem.Spec PyProof.Rows L2
/-! ### text.lstrip(a).replace(b, c): the tokens of the written texts are known to differ -/
section
variable {X : Cx} {o e : Expr} {to te : TE}
def PE1 (X : Cx) (e : Expr) (te : TE) : Prop := ∀ (pins : List (Addr × Obj)) (s : Shared) (σ : L2.St) (H : Hp) (Q : VK), Inv X pins σ H s → te σ H Q → wpAny (model X.prog X.w) X.A (eval e X.env) (fun v s1 => 1 ≤ s1.toks ∧ EP X pins σ Q v s1) X.xe s
theorem PE1.pe (h : PE1 X e te) : PE X e te := ⟨fun pins s σ H Q I q => thn (h pins s σ H Q I q) fun _ _ z => z.2⟩
theorem pe1_m1 {id : String} {name c : Str} {j : Nat} {cp apos pos : Pos} {r : V → List V → Hp → VK → Prop} (slot : Slot "str" name id) (ty : typeOf (.builtin id) = pure (.type "method_descriptor")) (rule : MtR X id r) (ho : PE X o to)
    (hs : starEach [.Constant (.str c) j cp] X.env = [(false, eval (.Constant (.str c) j cp) X.env)] := by rfl) (hbase : attributeBase o name X.env (eval o X.env) = eval o X.env := by rfl) (hline : (apos.endLine == pos.line) = true := by rfl) :
    PE1 X (.Call (.Attribute o name apos) [.Constant (.str c) j cp] [] pos) (tM1 r to (tC (.str c))) := by
  intro pins s σ H Q I h
  refine PySem.Call_method1 hbase hs hline (thn (ho.run pins s σ H _ I h) fun v s1 ⟨x, H1, I1, r1, q1⟩ => ?_)
  obtain ⟨⟨a, rfl⟩, q1⟩ := q1
  obtain ⟨t, rfl⟩ := _root_.id r1
  refine ⟨"str", _, F.plainAttrs_str, slot, ty, typeIs_str _ _ _, (fun _ e => nomatch e), Calls.callWith_builtin rfl (Calls.evalArgs_plain (Calls.spliced_cons (Calls.Constant_str (Calls.spliced_nil ?_))))⟩
  have rr := rule pins { s1 with toks := s1.toks + 1 } σ H1 _ [V.str c] _ [Value.str c s1.toks] Q (I1.tok _) r1 (.cons ⟨_, rfl⟩ .nil) q1
  refine wpAny_mono (PySem.wpAny_toks rr) (fun _ s2 q => ⟨?_, q.2⟩) fun _ _ z => z.2
  have hk : s1.toks + 1 ≤ s2.toks := q.1
  omega
def tRepc (y z : Str) (to : TE) : TE := fun σ H Q => to σ H fun x H1 => ∃ a : Str, x = .str a ∧ a.length + (a.length + 1) * z.length ≤ 16777216 ∧ Q (.str (Txt.replace a y z)) H1
theorem pe1_rep {y z : Str} {j0 j1 : Nat} {c0 c1 apos pos : Pos} (ho : PE1 X o to) (hyz : (y == z) = false)
    (hst : starEach [.Constant (.str y) j0 c0, .Constant (.str z) j1 c1] X.env = [(false, eval (.Constant (.str y) j0 c0) X.env), (false, eval (.Constant (.str z) j1 c1) X.env)] := by rfl)
    (hbase : attributeBase o "replace" X.env (eval o X.env) = eval o X.env := by rfl) (hline : (apos.endLine == pos.line) = true := by rfl) :
    PE1 X (.Call (.Attribute o "replace" apos) [.Constant (.str y) j0 c0, .Constant (.str z) j1 c1] [] pos) (tRepc y z to) := by
  intro pins s σ H Q I h
  refine PySem.Call_method2 hbase hst hline (thn (ho pins s σ H _ I h) fun v s1 ⟨h1, x, H1, I1, r1, q1⟩ => ?_)
  obtain ⟨a, rfl, hb, q⟩ := q1
  obtain ⟨tx, rfl⟩ := _root_.id r1
  refine ⟨"str", _, F.plainAttrs_str, F.slot_str_replace, F.type_str_replace, typeIs_str _ _ _, (fun _ e => nomatch e), Calls.callWith_builtin rfl (Calls.evalArgs_plain (Calls.spliced_cons (Calls.Constant_str (Calls.spliced_cons (Calls.Constant_str (Calls.spliced_nil ?_))))))⟩
  have rr : wpAny (model X.prog X.w) X.A (call (.builtin "str.replace") [.str a tx, .str y s1.toks, .str z (s1.toks + 1)]) (EP X pins σ Q) X.xe { s1 with toks := s1.toks + 1 + 1 } :=
    PySem.SC.replace (show s1.toks ≠ 0 by omega) (show s1.toks + 1 ≠ 0 by omega) (show s1.toks ≠ s1.toks + 1 by omega) hyz hb fun t' k => ⟨.str (Txt.replace a y z), H1, I1.tok k, ⟨t', rfl⟩, q⟩
  refine wpAny_mono (PySem.wpAny_toks rr) (fun _ s2 q => ⟨?_, q.2⟩) fun _ _ z => z.2
  have hk : s1.toks + 1 + 1 ≤ s2.toks := q.1
  omega
theorem w_repc {y z : Str} {to : TE} {σ : L2.St} {H : Hp} {Q : VK} (h : to σ H fun x H1 => ∃ a : Str, x = .str a ∧ a.length + (a.length + 1) * z.length ≤ 16777216 ∧ Q (.str (Txt.replace a y z)) H1) : tRepc y z to σ H Q := h
end
/-! ### what they give -/
theorem filt_free {c : Nat} {p : List Nat} (h : c ∉ p) : (p.filter fun k => decide (k ≠ c)) = p :=
  List.filter_eq_self.2 fun k hk => decide_eq_true (by intro e; subst e; exact h hk)
theorem joinL_filter (c : Nat) : ∀ ps : List (List Nat), (∀ p ∈ ps, c ∉ p) → TL.joinL [] ps = (TL.joinL [c] ps).filter fun k => decide (k ≠ c)
  | [], _ => rfl
  | [p], h => by
    show p = p.filter _
    rw [filt_free (h p (List.mem_singleton_self _))]
  | p :: q :: r, h => by
    have ih := joinL_filter c (q :: r) fun z hz => h z (List.mem_cons_of_mem _ hz)
    show p ++ ([] ++ TL.joinL [] (q :: r)) = (p ++ ([c] ++ TL.joinL [c] (q :: r))).filter _
    rw [ih, List.filter_append, List.filter_append, filt_free (h p (List.mem_cons_self ..))]
    simp
theorem tl_repl (x : Str) (c : Nat) : TL.tl (Txt.replace x ⟨#[c]⟩ "") = (TL.tl x).filter fun k => decide (k ≠ c) := by
  rw [StrLaws.replace_one, TL.tl_join, show TL.tl ("" : Str) = [] from rfl, joinL_filter c _ (fun p hp => by
    obtain ⟨z, hz, rfl⟩ := List.mem_map.1 hp
    exact StrLaws.split_free x c z hz)]
  have e : TL.tl (Str.join ⟨#[c]⟩ (Txt.split x ⟨#[c]⟩)) = TL.tl x := by rw [StrLaws.join_split]
  rw [TL.tl_join] at e
  rw [show TL.joinL [c] ((Txt.split x ⟨#[c]⟩).map TL.tl) = TL.tl x from e]
theorem tl_lstrip (x y : Str) : TL.tl (Txt.lstripChars x y) = (TL.tl x).drop ((TL.tl x).takeWhile y.cps.contains).length := by
  unfold Txt.lstripChars Txt.stripBy
  split
  · rename_i h
    unfold PySem.stripSame at h
    rw [Bool.and_eq_true] at h
    have h0 : PySem.stripLo y.cps.contains true x = 0 := by simpa using h.1
    have h1 : ((TL.tl x).takeWhile y.cps.contains).length = 0 := h0
    rw [h1]
    rfl
  · unfold PySem.stripped
    exact TL.tl_strSub_end x _
theorem tl_signs (c n : Nat) : TL.tl (signs c n) = List.replicate n c := rfl
theorem tl_cutFrom (z : Str) (k : Nat) : TL.tl (cutS z (some (k : Int)) none) = (TL.tl z).drop k := by
  unfold cutS
  rw [TL.tl_mk]
  show ((TL.tl z).drop (HT.sIx z.length 0 (some (k : Int)))).take (z.length - HT.sIx z.length 0 (some (k : Int))) = _
  rw [HT.sIx_nat, List.take_of_length_le (by rw [List.length_drop, ← TL.len_tl]; exact Nat.le_refl _)]
  have h2 := TL.len_tl z
  by_cases h : k ≤ z.length
  · rw [Nat.min_eq_left h]
  · rw [Nat.min_eq_right (by omega), List.drop_of_length_le (by omega), List.drop_of_length_le (by omega)]
/-- the signs of a number, three more digits -/
theorem numL_step3 {n : Nat} (h : 1000 ≤ n) : TL.numL n = TL.numL (n / 1000) ++ [48 + n / 100 % 10, 48 + n / 10 % 10, 48 + n % 10] := by
  rw [TL.numL_step (show 10 ≤ n by omega), TL.numL_step (show 10 ≤ n / 10 by omega), TL.numL_step (show 10 ≤ n / 10 / 10 by omega), Nat.div_div_eq_div_mul, Nat.div_div_eq_div_mul, Nat.div_div_eq_div_mul]
  simp
theorem digitsVal_snoc (l : List Nat) (c : Nat) : NumText.digitsVal (l ++ [c]) = NumText.digitsVal l * 10 + (c - 48) := by
  unfold NumText.digitsVal
  rw [List.foldl_append]
  rfl
end Odd

namespace Odd
open PySem PySem.Spec PyProof.Rows L2
section
variable {tb : TS} {D : Ends} {σ : L2.St} {H : Hp} {ta : TA} {g : TG}
/-- for i in range(a, a + n) -/
theorem f_rng2 {a n : Nat} (Pv : Nat → L2.St → Hp → Prop) (ht : ∀ R : List V → Hp → Prop, R [.int a, .int ((a + n : Nat) : Int)] H → ta σ H R) (hn : a + n < 100000) (h0 : Pv 0 σ H)
    (hs : ∀ i σ H, i < n → Pv i σ H → g (.int ((a + i : Nat) : Int)) σ H fun σ2 H2 => tb { D with nx := Pv (i + 1), ct := Pv (i + 1), bk := D.nx } σ2 H2) (hd : ∀ σ H, Pv n σ H → D.nx σ H) : tFor (iRng2 ta) g tb D σ H :=
  ht _ ⟨(a : Int), ((a + n : Nat) : Int), rfl, by omega, by
    rw [show (((a + n : Nat) : Int) - (a : Int)).toNat = n by omega]
    exact for_range Pv h0 (fun k σ H hk p => by rw [← Int.natCast_add]; exact hs k σ H hk p) hd⟩
end
theorem kwd_one {K : PySem.W.Frag} {D : Addr} {x : Str} {i : Int} {tk : Tok} (h : PySem.W.nsIn K D x = some (some (.int i tk))) : ∀ q ∈ [(x, V.int i)], ∃ u, PySem.W.nsIn K D q.1 = some (some u) ∧ RelV q.2 u := fun q hq => by
  cases List.mem_singleton.1 hq
  exact ⟨_, h, ⟨_, rfl⟩⟩
/-- the seats of every set, and the set without one of them -/
theorem bits_at : ∀ m < 256, bitSeats m ∈ ascs 8 0 ∧ bitSum (bitSeats m) = m := by decide +kernel
theorem bits_less : ∀ m < 256, ∀ s ∈ bitSeats m, s < 8 ∧ 2 ^ s ≤ m ∧ bitSeats (m - 2 ^ s) = (bitSeats m).erase s := by decide +kernel
theorem bits_ne : ∀ m < 256, 0 < m → bitSeats m ≠ [] := by decide +kernel
theorem bits_full : ∀ n ≤ 8, bitSeats (2 ^ n - 1) = List.range n := by decide +kernel
theorem bits_len : ∀ m < 256, (bitSeats m).length ≤ 8 := by decide +kernel
theorem bits_add : ∀ k < 8, ∀ m < 2 ^ k, bitSeats (m + 2 ^ k) = bitSeats m ++ [k] := by decide +kernel
theorem bits_lt : ∀ k ≤ 8, ∀ m < 2 ^ k, ∀ s ∈ bitSeats m, s < k := by decide +kernel
theorem bits_nodup : ∀ m < 256, (bitSeats m).Nodup := by decide +kernel
theorem bits_zero : bitSeats 0 = [] := by decide +kernel
end Odd

namespace Odd
open PySem PySem.Spec PyProof.Rows L2
/-! ### what never runs -/
theorem pe_never {X : Cx} {e : Expr} : PE X e (fun _ _ _ => False) := ⟨fun _ _ _ _ _ _ h => h.elim⟩
/-! ### isinstance(e, c) of the error at hand -/
def tIsE (X0 : Cx) (a : Addr) (cls : Value) (d : Option Addr) (x : Str) (t : TA) : TE := fun σ H Q => X0.mg x = none ∧ ∃ D : Addr, cls = .ref D ∧ d = none ∧ L2.ExcC X0.K D ∧ t σ H fun vs H1 => rIsE X0.K D a vs H1 Q
theorem pe_isE {X0 Y : Cx} {x : Str} {a : Addr} {oe : Obj} {cls : Value} {d : Option Addr} {e : Expr} {es : List Expr} {t : TA} {p pos : Pos} (l : Like X0 Y) (hz : Zc cls d oe) (hf : ∃ vs, oe.data = .fields vs) (hY : ∃ (X : Cx) (pn : List (Addr × Obj)), Y = X.suite a ((a, oe) :: pn))
    (hg : Gl Y x) (hv : bootBuiltins x = some (.builtin "isinstance")) (ha : PA Y (e :: es) t) (hn : x ≠ "__name__" := by decide) (hdb : (x == ("__debug__" : Str)) = false := by decide)
    (he : starEach (e :: es) Y.env = (false, eval e Y.env) :: starEach es Y.env := by rfl) (hpl : (backTo pos (starEach es Y.env)).any (·.1) = false := by rfl) : PE Y (.Call (.Name x p) (e :: es) [] pos) (tIsE X0 a cls d x t) := by
  obtain ⟨X, pn, rfl⟩ := hY
  refine ⟨fun pins s σ H Q I hq => ?_⟩
  obtain ⟨hm, D, rfl, rfl, C, h⟩ := hq
  rw [← l.mg] at hm
  rw [← l.K] at C h
  have z := (pe_callB (X := X.suite a ((a, oe) :: pn)) (p := p) (pos := pos) (call_isE (X := X) C hz hf) hg hm hv ha hn hdb he hpl).run pins s σ H Q I h
  exact z
theorem w_isE {X0 : Cx} {a : Addr} {cls : Value} {d : Option Addr} {x : Str} {t : TA} {σ : L2.St} {H : Hp} {Q : VK} (h : X0.mg x = none ∧ ∃ D : Addr, cls = .ref D ∧ d = none ∧ L2.ExcC X0.K D ∧ t σ H fun vs H1 => rIsE X0.K D a vs H1 Q) : tIsE X0 a cls d x t σ H Q := h
/-- an own error, an own class or a built-in one -/
theorem kit_exc {K : PySem.W.Frag} {C D : Addr} {b : Bool} (hd : PySem.W.hasDictIn K C = true) (h1 : PySem.W.typeIn K (.ref C) = some (.type "type")) (h2 : PySem.W.subIn K (.ref D) (.ref C) = some b) (hb : D ≠ C ∨ b = true) : PySem.W.kitOne K (.ref D) (.ref C) = some b := by
  have hc : (PySem.W.clsIn K C).isSome = true := by
    obtain ⟨cd, hc, _⟩ := PySem.W.any_some hd
    rw [hc]
    rfl
  unfold PySem.W.kitOne PySem.W.kitCls
  by_cases e : ((Value.ref D) == (.ref C)) = true
  · rw [if_pos e]
    rcases hb with z | z
    · exact absurd (Value.ref.inj (beq_iff_eq.mp e)) z
    · rw [z]
  · rw [if_neg e]
    show (if ((PySem.W.clsIn K C).isSome && PySem.W.typeIn K (.ref C) == some (.type "type")) = true then PySem.W.subIn K (.ref D) (.ref C) else none) = some b
    rw [hc, h1]
    exact h2
theorem sub_ne {K : PySem.W.Frag} {C D : Addr} (h1 : PySem.W.subIn K (.ref C) (.ref C) = some true) (h2 : PySem.W.subIn K (.ref D) (.ref C) = some false) : D ≠ C := fun e => by
  rw [e, h1] at h2
  cases h2
theorem kit_val {K : PySem.W.Frag} {D : Addr} (h2 : PySem.W.subIn K (.ref D) (.type "ValueError") = some true) : PySem.W.kitOne K (.ref D) (.type "ValueError") = some true := by
  unfold PySem.W.kitOne PySem.W.kitCls
  rw [if_neg (by simp)]
  show (if PySem.W.kitMeta "ValueError" = true then PySem.W.subIn K (.ref D) (.type "ValueError") else none) = some true
  rw [if_pos (by decide +kernel)]
  exact h2
/-! ### l.count(b) of a list of truth values -/
def rCntB (K : PySem.W.Frag) : V → List V → Hp → VK → Prop := fun x xs H Q => ∃ (p : Addr) (bs : List Bool) (k : Bool), x = .ref p ∧ xs = [.bl k] ∧ SqL K H p (bs.map V.bl) ∧ Q (.int (bs.count k : Nat)) H
theorem bools_are : ∀ {bs : List Bool} {its : List Value}, Vals (bs.map V.bl) its → its = bs.map Value.bool
  | [], _, h => by cases h; rfl
  | b :: bs, _, h => by
    cases h with
    | cons r rv =>
      cases r
      rw [bools_are rv]
      rfl
theorem bools_count (k : Bool) : ∀ bs : List Bool, (bs.map Value.bool).countP (isBoolOf k) = bs.count k
  | [] => rfl
  | b :: bs => by
    rw [List.map_cons, List.countP_cons, List.count_cons, bools_count k bs]
    rfl
theorem mt_lcountB {X : Cx} : MtR X "list.count" (rCntB X.K) := by
  intro pins s σ H x xs v us Q I rx rxs h
  obtain ⟨p, bs, k, rfl, rfl, hs, q⟩ := h
  cases rx
  obtain ⟨u, rfl, ru⟩ := rxs.one
  cases ru
  obtain ⟨its, rv, ⟨⟨cls, dd, data, sl⟩, n, ho, hc, hdn, hd⟩, hlen⟩ := I.list hs
  simp only at hc hd
  subst hc hd
  have hi := bools_are rv
  subst hi
  refine call_meets PySem.F.slot_list_count ⟨_, ho, rfl⟩ PySem.F.entry_list_count (PySem.F.args_list_count_2 _ _)
    (SeqAt.list_countAt p (bs.map Value.bool).toArray n dd sl (.bool k) (isBoolOf k)) ⟨ho, fun y hy => ?_, ?_⟩
  · have hy : y ∈ bs.map Value.bool := by simpa using hy
    obtain ⟨b, _, rfl⟩ := List.mem_map.1 hy
    exact SeqAt.EqAt.bool_bool b k
  refine ⟨.int (bs.count k : Nat), H, I.tok _, ⟨s.toks, ?_⟩, q⟩
  show Value.int (((bs.map Value.bool).toArray.toList.countP (isBoolOf k) : Nat) : Int) s.toks = Value.int ((bs.count k : Nat) : Int) s.toks
  rw [show (bs.map Value.bool).toArray.toList = bs.map Value.bool from rfl, bools_count]
/-! ### methods of lists, in a suite -/
section
variable {X0 X : Cx} {T : String} {name : Str} {id : String} {r : V → List V → Hp → VK → Prop} {o e : Expr} {es : List Expr} {to : TE} {t : TA} {apos cpos : Pos}
theorem pe_bmL (l : Like X0 X) (pa : PlainAttrs T) (slot : Slot T name id) (hty : typeOf (.builtin id) = pure (.type "method_descriptor")) (hm : ∀ Y : Cx, Like X0 Y → MtR Y id r) (ho : PE X o to) (ha : PA X (e :: es) t)
    (hbase : attributeBase o name X.env (eval o X.env) = eval o X.env := by rfl)
    (hfew : ((backTo cpos (starEach (e :: es) X.env)).all (fun x => !x.1) && (backToKw cpos (keywordEach [] X.env)).all (fun x => x.1.isSome)
      && decide ((e :: es).length + ([] : List Keyword).length + (if ([] : List Keyword).isEmpty then 0 else 1) < 30)) = true := by rfl)
    (hline : (apos.endLine == cpos.line) = true := by rfl) (hs : starEach (e :: es) X.env = (false, eval e X.env) :: starEach es X.env := by rfl) (hplain : (backTo cpos (starEach es X.env)).any (·.1) = false := by rfl) :
    PE X (.Call (.Attribute o name apos) (e :: es) [] cpos) (tBM X0.K T r to t) := by
  rw [← l.K]
  exact pe_bm pa slot hty (hm X l) ho ha hbase hfew hline hs hplain
theorem mtL_count : ∀ Y : Cx, Like X0 Y → MtR Y "list.count" (rCntB X0.K) := fun Y l => by rw [← l.K]; exact mt_lcountB
theorem mtL_index : ∀ Y : Cx, Like X0 Y → MtR Y "list.index" (rIndex X0.K) := fun Y l => by rw [← l.K]; exact mt_index
end
/-! ### f() within a try, the slots known -/
section
open LamX NdefX
def tActT (X : Cx) (i k : Nat) (W : WX) : TE := fun σ H Q => ∃ (f : Addr) (F : NF) (bd : Expr) (dV : Value) (Ef : XK), σ[i]? = some (some (.ref f)) ∧ H f = some (LamO f F bd dV) ∧ CallAt X.prog X.w X.K X.mg X.base k f H Q Ef ∧ (∀ cls d H', Ef cls d H' → W cls d σ H') ∧ Room k X.A
theorem pe_actT {X0 X : Cx} {a : Str} {i k : Nat} {W : WX} {p1 p2 : Pos} (l : Like X0 X) (tk : Takes X W) (hN : X.N[i]? = some a) (hv : Vis X.env.scope a) (hd : (a == ("__debug__" : Str)) = false := by decide) (hcd : (a == ("__classdict__" : Str)) = false := by decide) :
    PE X (.Call (.Name a p1) [] [] p2) (tActT X0 i k W) := by
  refine ⟨fun pins s σ H Q I h => ?_⟩
  obtain ⟨f, F, bd, dV, Ef, hs, hf, hc, hW, hr⟩ := h
  rw [← l.prog, ← l.w, ← l.K, ← l.mg, ← l.base] at hc
  rw [← l.A] at hr
  refine wpAny_Call_Name_kw (thn ((pe_var (pos := p1) (i := i) hN hv hd hcd).run pins s σ H (fun v H1 => v = .ref f ∧ H1 = H) I ⟨.ref f, hs, rfl, rfl⟩) fun u s1 ⟨v, H1, I1, r1, ev, eH⟩ => ?_)
  subst ev eH
  obtain rfl : u = Value.ref f := r1
  obtain ⟨od, sl, doc, pm, ctv, ho⟩ := lamO_at I1.hok hf
  refine PySem.W.callWith_F0 ⟨_, _, _, _, ho⟩ (wpAny_call (codeAny_mono (hc X.A X.stack s1 hr I1.env0) fun r s' hq => ?_))
  match r, hq with
  | .error e, hq => exact tk _ _ (L2.XE.of_call I1 hW hq)
  | .ok (.ret u), hq => exact I1.after hq
theorem w_actT {X : Cx} {i k : Nat} {W : WX} {σ : L2.St} {H : Hp} {Q : VK} (h : ∃ (f : Addr) (F : NF) (bd : Expr) (dV : Value) (Ef : XK), σ[i]? = some (some (.ref f)) ∧ H f = some (LamO f F bd dV) ∧ CallAt X.prog X.w X.K X.mg X.base k f H Q Ef ∧ (∀ cls d H', Ef cls d H' → W cls d σ H') ∧ Room k X.A) : tActT X i k W σ H Q := h
end
end Odd

/-! own exceptions that are made with keywords -/
namespace Odd
open PySem PySem.Spec PyProof.Rows PySem.HandSPX PySem.Calls
section
variable {prog : Program} {w : World} {M : Model} {A : Around} {E : Value → Shared → Prop} {R : Result → Shared → Prop} {h : Heap} {g : Array GenState} {d : Drawn} {t : Nat} {os : OsState}
variable {nm q : Str} {C N : Addr} {bs bm bmB : List Value} {hdct : Bool} {sn : List Str} {sub : List Value} {ab : Bool} {col : Option Bool} {dd : Option Addr} {k0 k1 k2 k3 k5 : Option Value} {B newId initId : String}
theorem kw_check_new (F : ExcBaseFacts B newId initId bmB) (hT : ∀ X : String, bm.contains (.type X) = bmB.contains (.type X)) {kw : List (Str × Value)} {Q : Unit → Shared → Prop}
    (hC : h.get? C = some (excClassObj nm q C N bs bm hdct sn sub ab col dd k0 k1 k2 k3 k5 newId)) (hq : Q () ⟨h, g, d, t, os⟩) : wpAny M A (checkBuiltinCall newId ⟨[.ref C], kw⟩) Q E ⟨h, g, d, t, os⟩ := by
  have inB : (Value.ref C :: bm).contains (.type B) = true := by rw [List.contains_cons, hT, F.hasB, Bool.or_true]
  have ns := F.noStar
  simp only [checkBuiltinCall, F.newKind, F.newSplit, F.newRow]
  repeat (first | refine wpAny_loadPart_at hC ?_ | (refine wpAny_isSubtype_exc hC ?_; rw [inB]) | refine wpAny_staticBase_exc hC ?_ | refine wpAny_madeBy_exc hC ?_ | simp only [bne_self_eq_false, Bool.false_eq_true, if_false] | wp_step)
  exact hq
/-- C.__new__(C, k = v, ..) -/
theorem kw_new (F : ExcBaseFacts B newId initId bmB) (hT : ∀ X : String, bm.contains (.type X) = bmB.contains (.type X)) {kw : List (Str × Value)}
    (hC : h.get? C = some (excClassObj nm q C N bs bm hdct sn sub ab col dd k0 k1 k2 k3 k5 newId)) (hq : R (.ok (.ret (.ref (h.objs.size + 1)))) ⟨(h.push (W.kdv_tup [])).push (excO C h.objs.size), g, d, t, os⟩) :
    codeAny (model prog w) A (.builtin newId ⟨[.ref C], kw⟩) R ⟨h, g, d, t, os⟩ := by
  have en := F.ends
  have inB : (Value.ref C :: bm).contains (.type B) = true := by rw [List.contains_cons, hT, F.hasB, Bool.or_true]
  have inA : (Value.ref C :: bm).contains (.type "AttributeError") = false := by rw [List.contains_cons, hT, F.noAttr]; rfl
  have inN : (Value.ref C :: bm).contains (.type "NameError") = false := by rw [List.contains_cons, hT, F.noName]; rfl
  refine codeAny_builtinAt F.entry ?_
  unfold Builtin.«BaseException.__new__»
  refine _root_.PySem.wpAt_bind ?_
  show _root_.PySem.wpAt _ _ _ (stack >>= _) _ _ _
  refine _root_.PySem.wpAt_bind (_root_.PySem.wpAt_stack fun _ _ => _root_.PySem.wpAt_of_wpAny ?_)
  wp_walk
  refine _root_.PySem.wpAt_of_wpAny ?_
  rw [F.owner]
  repeat (first | with_reducible refine wpAny_madeHere_exc F.canon hC ?_ | with_reducible refine wpAny_loadPart_at hC ?_ | (with_reducible refine wpAny_isSubtype_exc hC ?_; first | rw [inB] | rw [inA] | rw [inN]) | wp_step)
  show R _ _
  rw [Heap.size_push]
  exact hq
/-- type.__call__(C, k = v, ..), C's own __init__ called with the keywords -/
theorem kw_type_call (F : ExcBaseFacts B newId initId bmB) (hT : ∀ X : String, bm.contains (.type X) = bmB.contains (.type X)) {kw : List (Str × Value)} {fI : Addr} {Q : Fin → Shared → Prop}
    (hC : h.get? C = some (excClassObj nm q C N bs bm hdct sn sub ab col dd k0 k1 k2 k3 k5 newId))
    (hi : W.Looks (model prog w) h (typeLookup (.ref C) "__init__") (some (.ref fI))) (hb : ∀ self, W.Looks (model prog w) h (bindSpecial (.ref fI) self) (.ref fI, [self]))
    (hq : codeAny (model prog w) A (.call (.ref fI) ⟨[.ref (h.objs.size + 1)], kw⟩)
      (fun r s' => match r with | .ok (.ret v) => v = .none ∧ Q (.done (.ret (.ref (h.objs.size + 1)))) s' | .ok _ => False | .error e => E e s')
      ⟨(h.push (W.kdv_tup [])).push (excO C h.objs.size), g, d, t, os⟩) :
    wpAny (model prog w) A (Builtin.«type.__call__» ⟨[.ref C], kw⟩) Q E ⟨h, g, d, t, os⟩ := by
  repeat (first | with_reducible refine wpAny_loadPart_at hC ?_ | with_reducible refine wpAny_madeBy_exc hC ?_ | wp_step)
  refine codeAny_call_builtin_code (Code.quiet_builtin _ F.quiet) (kw_check_new F hT hC ?_)
  refine kw_new F hT hC ?_
  show wpAny _ _ _ _ _ _
  have k : ∀ b o, h.get? b = some o → ((h.push (W.kdv_tup [])).push (excO C h.objs.size)).get? b = some o := fun b o e => Heap.get?_push_of_some _ (Heap.get?_push_of_some _ e)
  have hC2 := k _ _ hC
  have mine : ((h.push (W.kdv_tup [])).push (excO C h.objs.size)).get? (h.objs.size + 1) = some (excO C h.objs.size) := by heap_get
  have self : (Value.ref C :: bm).contains (.ref C) = true := by simp
  have i2 := hi.keeps k
  have b2 := (hb (.ref (h.objs.size + 1))).keeps k
  unfold isInstance
  repeat (first | with_reducible refine wpAny_loadPart_at mine ?_ | (with_reducible refine wpAny_isSubtype_exc hC2 ?_; rw [self]) | wp_step)
  show wpAny _ _ (typeLookup (.ref C) _) _ _ _
  refine i2.at ?_
  refine wpAny_holding (wpAny_bind (b2.at ?_))
  refine wpAny_bind (wpAny_call (codeAny_mono hq fun r s' z => ?_))
  rcases r with e | (v | _ | _ | _) <;> first | exact z | exact z.elim | skip
  obtain ⟨rfl, z⟩ := z
  first
    | exact wpAny_pure (wpAny_pure z)
    | (wp_walk; exact z)
theorem kw_check_call {kw : List (Str × Value)} {Q : Unit → Shared → Prop} (hC : h.get? C = some (excClassObj nm q C N bs bm hdct sn sub ab col dd k0 k1 k2 k3 k5 newId))
    (hq : Q () ⟨h, g, d, t, os⟩) : wpAny M A (checkBuiltinCall "type.__call__" ⟨[.ref C], kw⟩) Q E ⟨h, g, d, t, os⟩ := by
  have f3 := tc_sub
  have hT : (⟨h, g, d, t, os⟩ : Shared).TypeIs (.ref C) "type" := ⟨_, hC, rfl⟩
  simp only [checkBuiltinCall, tc_kind, tc_split]
  repeat (any_goals (first | assumption | with_reducible refine wpAny_loadPart_at hC ?_ | with_reducible refine wpAny_onRaise ?_ | with_reducible refine wpAny_map ?_ | wp_step))
/-- C(k = v, ..) -/
theorem kw_call (F : ExcBaseFacts B newId initId bmB) (hT : ∀ X : String, bm.contains (.type X) = bmB.contains (.type X)) {kw : List (Str × Value)} {fI : Addr}
    (hC : h.get? C = some (excClassObj nm q C N bs bm hdct sn sub ab col dd k0 k1 k2 k3 k5 newId))
    (hi : W.Looks (model prog w) h (typeLookup (.ref C) "__init__") (some (.ref fI))) (hb : ∀ self, W.Looks (model prog w) h (bindSpecial (.ref fI) self) (.ref fI, [self]))
    (hq : codeAny (model prog w) (A.under (.builtin "type.__call__" ⟨[.ref C], kw⟩)) (.call (.ref fI) ⟨[.ref (h.objs.size + 1)], kw⟩) (W.InitBack (h.objs.size + 1) R)
      ⟨(h.push (W.kdv_tup [])).push (excO C h.objs.size), g, d, t, os⟩) :
    codeAny (model prog w) A (.call (.ref C) ⟨[], kw⟩) R ⟨h, g, d, t, os⟩ := by
  have f1 := tc_lookup
  have f2 := tc_bind (.ref C)
  have hTy : (⟨h, g, d, t, os⟩ : Shared).TypeIs (.ref C) "type" := ⟨_, hC, rfl⟩
  refine codeAny_of_tree ?_
  show wpAny _ _ (callAny (.ref C) _) _ _ _
  repeat (any_goals (first | assumption | with_reducible refine wpAny_loadPart_at hC ?_ | wp_step))
  refine ⟨rfl, ?_⟩
  refine codeAny_call_builtin_at (Code.quiet_builtin _ (by decide +kernel)) entry_typeCall (kw_check_call hC (kw_type_call F hT hC hi hb ?_))
  refine codeAny_mono hq fun r s' z => ?_
  rcases r with e | (v | _ | _ | _) <;> exact z
end
end Odd

/-! an own error's __init__ that calls super().__init__ -/
namespace Odd
open PySem PySem.Spec PyProof.Rows L2 LamX NdefX
/-- what the top says of the class C, its __init__ at fI being F -/
structure KxC (P : Program) (K : PySem.W.Frag) (C fI cc : Addr) (F : NF) : Prop where
  cls : OexC K C
  ini : PySem.W.findIn K (.ref C) "__init__" = some (some (.ref fI))
  tyI : PySem.W.typeIn K (.ref fI) = some (.type "function")
  lk : ∃ (oc : Value) (od an : Option Addr) (osl : Array (Option Value)) (doc pm ct : Value), K.lookup fI = some ⟨oc, od, .func (PySem.W.fnX F.name F.qual F.params F.body F.scope F.cl .none .none doc pm an (.ref F.c) ct), osl⟩
  cd : PySem.W.codeIn K (.ref F.c) F.qual = true
  co : ∃ (ccl : Value) (cdd : Option Addr) (ccs : Array (Option Value)) (vs : Array Value) (file : Str) (tf : Tok), K.lookup F.c = some ⟨ccl, cdd, .fields vs, ccs⟩ ∧ vs[2]? = some (.str file tf) ∧ ((P.main.file : Str) == file) = true
  cl : F.cl = [(("__class__" : Str), cc)]
  cell : ∃ (a : Value) (b : Option Addr) (c : Array (Option Value)), K.lookup cc = some ⟨a, b, .cell (some (.ref C)), c⟩
  top : (P.main.scope.names.lookup ("super" : Str)).isSome = false
  mro : PySem.W.mroIn K C (.ref C) = some true
  sup : PySem.W.ks_superIn K C C "__init__" = some (some (.builtin "ValueError.__init__"))
  any : PySem.W.nsIn K cStatics "thirdparty.any" = some none
  subV : PySem.W.subIn K (.ref C) (.type "ValueError") = some true
section
variable {P : Program} {w : World} {K : PySem.W.Frag} {mg : Str → Option Value} {base : Heap} {C fI cc : Addr} {F : NF}
theorem KxC.cells (T : KxC P K C fI cc F) {A : Around} {outer : List Env} {s : Shared} {H : Hp} (e0 : Env0 P w K mg base A outer s H) : CellsAt F.cl [("__class__" : Str)] [some (.ref C)] s.heap H := by
  obtain ⟨a, b, c, hc⟩ := T.cell
  have hb := e0.mod.kin _ _ hc
  have key : ∀ (y : Str) (x : Addr), F.cl.lookup y = some x → x = cc ∧ y = "__class__" := fun y x h => by
    rw [T.cl] at h
    by_cases e : y = "__class__"
    · subst e
      have z : some cc = some x := h
      exact ⟨(Option.some.inj z).symm, rfl⟩
    · have e2 : (y == ("__class__" : Str)) = false := by simpa using e
      simp [List.lookup, e2] at h
  refine ⟨rfl, fun y x h => ?_, fun x y z h1 h2 => ?_, fun i y h => ?_⟩
  · obtain ⟨rfl, _⟩ := key y x h
    exact ⟨(e0.bs _ _ hb).2, _, _, (e0.bs _ _ hb).1, rfl⟩
  · rw [(key _ _ h1).2, (key _ _ h2).2]
  · cases i with
    | succ i => simp at h
    | zero =>
      cases h
      refine ⟨cc, by rw [T.cl]; rfl, fun v hv => ?_⟩
      cases hv
      exact ⟨.ref C, rfl, _, (e0.bs _ _ hb).1, rfl⟩
theorem kinit {N ks : List Str} {p0 p1 p2 p3 p4 : Pos} {e1 : Expr} {rest : List Stmt} {pl : Sem Bool} {ar : Arg} {k : Nat} {A : Around} {outer : List Env} {s : Shared} {H : Hp} {a : Addr} {us : List Value} {vs : List V} {Q : VK} (T : KxC P K C fI cc F) (hms : mg "super" = none)
    (S : NScope N (("self" : Str) :: ks) [("__class__" : Str)] F.scope) (hsu : F.scope.names.lookup ("super" : Str) = some .globalImplicit) (hb : F.body = .Expr (.Call (.Attribute (.Call (.Name "super" p0) [] [] p1) "__init__" p2) [e1] [] p3) p4 :: rest)
    (hev : ∀ env : Env, eval (.Call (.Attribute (.Call (.Name "super" p0) [] [] p1) "__init__" p2) [e1] [] p3) env = (do
      let ov ← attributeBase (.Call (.Name "super" p0) [] [] p1) "__init__" env (eval (.Call (.Name "super" p0) [] [] p1) env)
      standAt p2.atName
      let (f, first) ← holding [ov] (getMethod ov "__init__" pl)
      callWith p3 f first (backTo p3 (starEach [e1] env)) []))
    (hst : ∀ env : Env, starEach [e1] env = [(false, eval e1 env)]) (hsw : ∀ env : Env, swapsWith (.Call (.Attribute (.Call (.Name "super" p0) [] [] p1) "__init__" p2) [e1] [] p3) none p4.line env = pure false)
    (hpar : (F.params.posonlyargs ++ F.params.args).head? = some ar) (har : ar.arg = "self")
    (hbind : ∀ (s : Shared) (doc pm ct : Value) (an : Option Addr) (self : Value), BindsTo s (PySem.W.fnX F.name F.qual F.params F.body F.scope F.cl .none .none doc pm an (.ref F.c) ct) ⟨[self], ks.zip us⟩ ((("self" : Str) :: ks).zip (self :: us)))
    (hr : Room (k + 1) A) (e0 : Env0 P w K mg base A outer s H) (ea : H a = some (exo a C none)) (rv : Vals vs us) (hl : vs.length = ks.length)
    (hbody : ∀ X : Cx, X = ncx (L2.CX P w) P w K mg base N F fI A outer s H (fun _ _ _ => False) → ∃ te t, PE X e1 te ∧ PSs X rest t ∧ te (startF N (.ref a :: vs) [some (.ref C)]) H (fun x H1 => [x].length ≤ 1000 ∧ H1 a = some (exo a C none) ∧ t { nx := fun _ H' => Q .non H', rt := Q } (startF N (.ref a :: vs) [some (.ref C)]) H1)) :
    codeAny (model P w) A (.call (.ref fI) ⟨[.ref a], ks.zip us⟩) (CR (L2.CX P w) outer P w H s Q (fun _ _ _ => False)) s := by
  have KX : K.In s.heap := e0.mod.kin.keeps fun b o e => (e0.bs b o e).1
  have lim : s.heap.NoLimit := e0.mod.nolimit.keeps fun b o e => (e0.bs b o e).1
  obtain ⟨oc, od, an, osl, doc, pm, ct, lk⟩ := T.lk
  obtain ⟨ccl, cdd, ccs, vsf, file, tf, hco, hv2, hfile⟩ := T.co
  obtain ⟨ca, cb, cx, hcell⟩ := T.cell
  obtain ⟨te, t, he, ht, hq⟩ := hbody _ rfl
  refine ks_codeAny_call_defAt (a := fI) (body := F.body) hr.depth (KX _ _ lk) rfl lim (PySem.W.codeRec_of KX T.cd) rfl (hbind s doc pm ct an (.ref a)) S.nocell (fun ⟨n, v⟩ hy => S.par n (List.of_mem_zip hy).1) (fun h₁ hns hk₁ => ?_) S.co S.gen S.kind
  have I : Inv (ncx (L2.CX P w) P w K mg base N F fI A outer s H (fun _ _ _ => False)) [] (startF N (.ref a :: vs) [some (.ref C)]) H { s with heap := h₁, toks := s.toks + ((("self" : Str) :: ks).zip (.ref a :: us)).length } :=
    inv_startN S hr.hd e0 (by rw [List.length_cons, List.length_cons, hl]) (.cons rfl rv) (T.cells e0) hns hk₁
  generalize s.toks + ((("self" : Str) :: ks).zip (.ref a :: us)).length = tk at *
  obtain ⟨X, eX⟩ : ∃ X : Cx, X = ncx (L2.CX P w) P w K mg base N F fI A outer s H (fun _ _ _ => False) := ⟨_, rfl⟩
  show _root_.PySem.wpAt (model P w) (A.deeper (envF F fI s.heap.objs.size)) (.func F.body (envF F fI s.heap.objs.size)) (execs F.body (envF F fI s.heap.objs.size)) _ _ _
  have hks : (envF F fI s.heap.objs.size).kindOf "super" = some .globalImplicit := hsu
  have hkc : (envF F fI s.heap.objs.size).kindOf "__class__" = some .free := S.frk _ (List.mem_cons_self ..)
  have hka : (envF F fI s.heap.objs.size).kindOf "self" = some .local := S.par _ (List.mem_cons_self ..)
  rw [hb]
  refine ks_wpAt_execs_cons (ks_wpAt_Expr_any (ks_wpAt_MethodCall (pl := pl) ?_ (hev _)) I.quiet (hsw _))
  refine ks_wpAt_super_base hks hkc (by decide) rfl (I.kIn _ _ lk) rfl hpar rfl (I.kIn _ _ hco) rfl hv2 hfile T.top ?_
  obtain ⟨mb, hmb1, hmb2⟩ := I.mod.blt
  refine PySem.W.ks_loadName_global S.kind hks (Calls.loadGlobal_builtin (by exact I.mod.glob.keeps I.bk) hms (by exact hmb1.keeps I.bk) ((hmb2 _ (by decide)).trans (by decide +kernel)) ⟨rfl, ?_⟩)
  refine wpAny_loadName_free S.kind hkc (by show F.cl.lookup ("__class__" : Str) = some cc; rw [T.cl]; rfl) ⟨_, I.kIn _ _ hcell, rfl⟩ ?_
  rw [har]
  have nd : ((("self" : Str) :: ks) ++ [("__class__" : Str)]).Nodup := by
    rw [← S.pre]
    exact S.nd.sublist (List.take_sublist _ _)
  refine wpAny_loadName_local S.kind hka hns (zip_look (i := 0) (List.nodup_append.1 nd).1 rfl rfl) ?_
  obtain ⟨nm, q, Nn, bs, bm, sn, sub, ab, col, dd, k0, k1, k2, k3, k5, hC, hbm⟩ := T.cls.cls
  have hC1 := I.kIn _ _ hC
  refine ks_wpAny_isType_cls hC1 rfl ⟨rfl, ?_⟩
  obtain ⟨t1, ho⟩ := exo_at I.hok ea
  refine ks_wpAny_call_super hC1 rfl ho rfl (fun c z => by cases z) (PySem.W.looks_mroIn I.kIn T.mro) (fun h2 hso k2' => ?_)
  have I2 := I.kept (t' := tk) k2'
  have hcd : PySem.W.clsIn K C = some { name := nm, bases := bs, mro := .ref C :: bm, ns := Nn, qualname := q, hasDict := true, slotNames := sn, subclasses := sub, abstract := ab, collection := col, hasDel := false } := by unfold PySem.W.clsIn; rw [hC] <;> rfl
  have hsup := T.sup
  unfold PySem.W.ks_superIn at hsup
  rw [hcd] at hsup
  have ho2 := k2' _ _ ho
  have Ia : PySem.W.InstAt h2 a { cls := .ref C, dict := none, data := .fields #[.ref t1, .none, .none, .none, .bool false, .none] } C none := ⟨ho2, rfl, rfl, trivial⟩
  refine PySem.W.kxs_getMethod PySem.W.kxs_ValueError hso (PySem.W.looks_opaque I2.kIn T.any) (l₀ := .ref C :: bm) ((PySem.W.looks_clsIn I2.kIn hcd).andThen .now) rfl I2.kIn hsup (Ia.type.andThen (PySem.W.looks_subIn I2.kIn T.subV)) (PySem.W.ks_ne I2.kIn Ia hcd) (by decide) ?_
  have I3 := I2.kept (h' := h2.push (PySem.W.kxs_mw "ValueError.__init__" a)) (t' := tk + 1) fun b o e => Heap.get?_push_of_some _ e
  obtain ⟨u, hu⟩ : ∃ u, u = h2.objs.size := ⟨_, rfl⟩
  rw [← hu]
  have mw : (h2.push (PySem.W.kxs_mw "ValueError.__init__" a)).get? u = some (PySem.W.kxs_mw "ValueError.__init__" a) := by rw [hu]; exact Heap.get?_push_size _ rfl
  obtain ⟨f0, f1, f2, f3, f4, f5⟩ := I2.fpOk (Nat.le_of_eq hu.symm) (I2.hok.fresh (Nat.le_of_eq hu.symm))
  have I4 := I3.pins_of (pins' := [(u, PySem.W.kxs_mw "ValueError.__init__" a)]) fun p hp => by
    rw [List.mem_singleton.1 hp]
    exact ⟨mw, f0, f1, f2, fun v z => by cases z⟩
  generalize h2.push (PySem.W.kxs_mw "ValueError.__init__" a) = h3 at *
  refine PySem.W.kxs_callWith (i := "ValueError.__init__") (x := a) (by rw [hst]; rfl) ?_
  have pa : PA (ncx (L2.CX P w) P w K mg base N F fI A outer s H (fun _ _ _ => False)) [e1] (tCons te tNil) := pa_cons he pa_nil (hst _)
  have run := pa.run p3 _ _ _ _ (fun vs1 H1 => vs1.length ≤ 1000 ∧ H1 a = some (exo a C none) ∧ t { nx := fun _ H' => Q .non H', rt := Q } (startF N (.ref a :: vs) [some (.ref C)]) H1) I4 hq
  rw [show starEach [e1] (ncx (L2.CX P w) P w K mg base N F fI A outer s H (fun _ _ _ => False)).env = [(false, eval e1 (envF F fI s.heap.objs.size))] from hst _] at run
  rw [hst]
  refine Calls.evalArgs_plain (wpAny_mono run (fun us1 s5 h5 => ?_) fun e s' z => z)
  obtain ⟨vs1, H1, I5, r1, hn1, ea1, q1⟩ := h5
  have mw5 := (I5.pin (u, PySem.W.kxs_mw "ValueError.__init__" a) (List.mem_append_right _ (List.mem_singleton_self _))).1
  refine ⟨mw5, ?_⟩
  have hul : us1.length ≤ sizeLine := by
    rw [← Paired.length r1, sizeLine_eq]
    omega
  obtain ⟨t2, ho5⟩ := exo_at I5.hok ea1
  obtain ⟨h5, g5, d5, tk5, os5⟩ := s5
  have hC5 := I5.kIn _ _ hC
  refine wpAny_call (codeAny_of_tree ?_)
  show wpAny _ _ (callAny (.ref u) ⟨us1, []⟩) _ _ _
  simp only [callAny]
  refine wpAny_bind (wpAny_load mw5 ?_)
  simp only [PySem.W.kxs_mw, show (Value.type "method-wrapper" == Value.type "method" || Value.type "method-wrapper" == Value.type "builtin_function_or_method" || Value.type "method-wrapper" == Value.type "method-wrapper") = true by decide, if_true]
  refine PySem.W.KFB.if_so (by decide) ?_
  refine wpAny_bind (PySem.W.check_bound_init PySem.F.excBase_ValueError.toExcCallFacts hC5 ho5 rfl ?_)
  refine wpAny_bind (wpAny_pure (wpAny_pure ?_))
  refine ⟨plainId_quiet PySem.F.excBase_ValueError.init.plain _, codeAny_builtin PySem.F.excBase_ValueError.initEntry ?_⟩
  refine PySem.W.exc_init_tree (cls := .ref C) (t0 := t2) (dv := none) (c2 := .none) (c3 := .none) (b4 := .bool false) ho5 hul fun h6 k6 e6 _ => ?_
  have J := I5.write (t' := tk5) (x := a) (e := a) (o := exo a C none) (by rw [ea1]; exact True.intro) (.inl rfl) k6 ⟨_, e6⟩ (exo_ok e6)
  have eu : upd H1 a (exo a C none) = H1 := by
    funext b
    by_cases hb : b = a
    · rw [hb, upd_same, ea1]
    · rw [upd_ne hb]
  rw [eu] at J
  refine _root_.PySem.wpAt_of_wpAny (wpAny_mono (ht.run _ _ _ _ _ J q1) (fun fl s' hs => ?_) fun e s' z => z)
  cases fl with
  | ret v =>
    obtain ⟨x, σ', H', J', rx, qx⟩ := hs
    exact ⟨x, H', J'.os, J'.bare, J'.base, J'.hok, rx, qx⟩
  | next =>
    obtain ⟨σ', H', J', qx⟩ := hs
    exact ⟨.non, H', J'.os, J'.bare, J'.base, J'.hok, rfl, qx⟩
  | brk =>
    obtain ⟨σ', H', J', qx⟩ := hs
    exact qx.elim
  | cont =>
    obtain ⟨σ', H', J', qx⟩ := hs
    exact qx.elim
end
end Odd

/-! raise C(k = e, ..) -/
namespace Odd
open PySem PySem.Spec PyProof.Rows L2 LamX NdefX
/-- what C's own __init__ does with keywords named ks: the fields of the error -/
def InitK (P : Program) (w : World) (K : PySem.W.Frag) (mg : Str → Option Value) (base : Heap) (C fI : Addr) (ks : List Str) (fs : List V → List (Str × V)) (ok : List V → Prop) : Prop :=
  ∀ (A : Around) (outer : List Env) (s : Shared) (H : Hp) (a : Addr) (us : List Value) (vs : List V) (Q : VK), Room 3 A → Env0 P w K mg base A outer s H → H a = some (exo a C none) → Vals vs us → vs.length = ks.length → ok vs →
    (∀ d, H d = none → d ≠ a → Q .non (upd (upd H d (exd d (fs vs))) a (exo a C (some d)))) → codeAny (model P w) A (.call (.ref fI) ⟨[.ref a], ks.zip us⟩) (CR (L2.CX P w) outer P w H s Q (fun _ _ _ => False)) s
/-- an error that is made with keywords -/
structure KxR (P : Program) (w : World) (K : PySem.W.Frag) (mg : Str → Option Value) (base : Heap) (x : Str) (C : Addr) (ks : List Str) (fs : List V → List (Str × V)) (ok : List V → Prop) : Prop where
  gC : mg x = some (.ref C)
  cls : OexC K C
  ini : ∃ fI, PySem.W.findIn K (.ref C) "__init__" = some (some (.ref fI)) ∧ PySem.W.typeIn K (.ref fI) = some (.type "function") ∧ InitK P w K mg base C fI ks fs ok
def tMkK (X0 : Cx) (x : Str) (ks : List Str) (tk : TA) (W : XK) : L2.St → Hp → Prop := fun σ H => ∃ C fs ok, KxR X0.prog X0.w X0.K X0.mg X0.base x C ks fs ok ∧ Room 4 X0.A ∧ tk σ H fun zs H1 => zs.length = ks.length ∧ ok zs ∧ ∀ d H', H1 d = none → Same H1 H' → H' d = some (.xd (fs zs)) → W (.ref C) (some d) H'
theorem ps_raK {X : Cx} {E : XK} {x : Str} {ks : List Str} {kws : List Keyword} {t : TA} {p pos pos' : Pos} (hc : X.calm = true) (tk : Takes X (fun cls d _ H => E cls d H)) (hp : Pas X (fun _ _ _ => False)) (hg : Gl X x) (hkw : PK X kws t)
    (hall : (backToKw pos (keywordEach kws X.env)).all (·.1.isSome) = true := by rfl) (hks : (backToKw pos (keywordEach kws X.env)).filterMap (·.1) = ks := by rfl) (hdb : (x == ("__debug__" : Str)) = false := by decide)
    (hpl : ((backTo pos (starEach [] X.env)).any (·.1) || (backToKw pos (keywordEach kws X.env)).any (·.1.isNone)) = false := by rfl) : PS X (.Raise (some (.Call (.Name x p) [] kws pos)) none pos') (fun _ σ H => tMkK X x ks t E σ H) := by
  have mk : PMk X (.Call (.Name x p) [] kws pos) (fun σ H Q => tMkK X x ks t Q σ H) := by
    intro pins s σ H Q I h
    obtain ⟨C, fs, ok, ⟨hm, T, fI, ini, tyI, init⟩, hr, h⟩ := h
    obtain ⟨nm, q, N, bs, bm, sn, sub, ab, col, dd, k0, k1, k2, k3, k5, hC, hbm⟩ := T.cls
    refine wpAny_Call_Name_kw (ld_glob I hg hm ?_ hdb)
    refine PySem.W.callWith_KW0 (h₀ := X.base) I.ok.mod.kin T.kC hall (thn (hkw.run pos pins s σ H _ I h) fun ws s1 hh => ?_) hpl
    obtain ⟨zs, H1, I1, rz, l1, hok, q1⟩ := hh
    refine ⟨I1.kIn, ?_⟩
    rw [hks]
    show wpAny _ _ (call (.ref C) [] (ks.zip ws)) _ _ _
    obtain ⟨hp', g, dr, tk', os⟩ := s1
    have hsz : hp'.objs.size ≤ hp'.objs.size + 1 := Nat.le_succ _
    have hn : H1 (hp'.objs.size + 1) = none := I1.hok.fresh hsz
    have kk : ∀ b o, hp'.get? b = some o → ((hp'.push (PySem.W.kdv_tup [])).push (PySem.HandSPX.excO C hp'.objs.size)).get? b = some o := fun b o e => Heap.get?_push_of_some _ (Heap.get?_push_of_some _ e)
    have hget : ((hp'.push (PySem.W.kdv_tup [])).push (PySem.HandSPX.excO C hp'.objs.size)).get? (hp'.objs.size + 1) = some (PySem.HandSPX.excO C hp'.objs.size) := by heap_get
    have I2 : Inv X pins σ (upd H1 (hp'.objs.size + 1) (exo (hp'.objs.size + 1) C none)) ⟨(hp'.push (PySem.W.kdv_tup [])).push (PySem.HandSPX.excO C hp'.objs.size), g, dr, tk', os⟩ :=
      I1.laid (t' := tk') (a := hp'.objs.size + 1) (o := exo (hp'.objs.size + 1) C none) (h' := (hp'.push (PySem.W.kdv_tup [])).push (PySem.HandSPX.excO C hp'.objs.size)) kk hsz (exo_ok hget)
    refine wpAny_call (kw_call PySem.F.excBase_ValueError (fun Y => PySem.HandSPX.refsVE_contains Y bm hbm) (I1.kIn _ _ hC) (PySem.W.looks_findIn I1.kIn ini) (fun self => PySem.W.bind_fn I1.kIn self tyI)
      (codeAny_mono (init _ X.stack _ _ (hp'.objs.size + 1) ws zs (fun v H2 => v = .non ∧ ∃ d, H1 d = none ∧ d ≠ hp'.objs.size + 1 ∧ H2 = upd (upd (upd H1 (hp'.objs.size + 1) (exo (hp'.objs.size + 1) C none)) d (exd d (fs zs))) (hp'.objs.size + 1) (exo (hp'.objs.size + 1) C (some d)))
        (hr.make C [] (ks.zip ws)) (I2.env0.make C [] (ks.zip ws)) upd_same rz l1 hok (fun d hd hda => ⟨rfl, d, by rw [upd_ne hda] at hd; exact hd, hda, rfl⟩)) fun r s' hq' => ?_))
    cases r with
    | error er => exact hp pins σ _ _ er s' I2 hq'
    | ok fl =>
      cases fl with
      | ret u =>
        obtain ⟨v, H2, os2, bare2, un2, hok2, rv, ev, d, hd1, hda, eH2⟩ := hq'
        subst ev
        subst eH2
        obtain ⟨h2, g2, d2, t2, os'⟩ := s'
        refine ⟨rv, mk_end (fs := fs zs) (raises_own T.exC T.tyC) I1 hsz kk un2 hok2 os2 bare2 upd_same (by rw [upd_ne hda]; exact upd_same) hd1 (q1 d _ hd1 (fun b o hb => ?_) upd_same)⟩
        have b1 : b ≠ hp'.objs.size + 1 := ne_of_none hb hn
        have b2 : b ≠ d := ne_of_none hb hd1
        rw [upd_ne b2, del_ne b1, upd_ne b1, upd_ne b2, upd_ne b1]
        exact hb
      | next => exact False.elim hq'
      | brk => exact False.elim hq'
      | cont => exact False.elim hq'
  refine ⟨fun pins s σ H D I h => ?_⟩
  exact (ps_raise hc tk mk).run pins s σ H D I h
end Odd

/-! a try whose clauses may name the error or not -/
namespace Odd
open PySem PySem.Spec PyProof.Rows L2
/-- a clause: the class that it names, the slot of its name if it has one, its suite -/
abbrev Cl := Value × Option Nat × (Addr → Value → Option Addr → TS)
/-- the ends of a suite that forgets the name at i -/
def endsAt (D : Ends) (i : Nat) : Ends := { nx := fun σ' H' => D.nx (σ'.set i none) H', rt := D.rt, bk := fun σ' H' => D.bk (σ'.set i none) H', ct := fun σ' H' => D.ct (σ'.set i none) H' }
def suiteAt (ts : Addr → Value → Option Addr → TS) (o : Option Nat) (a : Addr) (cls : Value) (d : Option Addr) (D : Ends) (σ : L2.St) (H : Hp) : Prop :=
  match o with
  | none => ts a cls d D σ H
  | some i => ts a cls d (endsAt D i) (σ.set i (some (.ref a))) H
def wCls (K : PySem.W.Frag) (Wout : WX) (D : Ends) : List Cl → WX
  | [] => Wout
  | (c, o, ts) :: r => fun cls d σ H => ∃ b, PySem.W.exmOne K cls c = some b ∧ (b = true → ∀ a, H a = none → suiteAt ts o a cls d D σ H) ∧ (b = false → wCls K Wout D r cls d σ H)
inductive ClsOk (X : Cx) : List ExceptHandler → List Cl → Prop
  | nil : ClsOk X [] []
  | plain {x : Str} {c : Value} {ts : Addr → Value → Option Addr → TS} {b₀ : Stmt} {suite : List Stmt} {np pos' : Pos} {hds : List ExceptHandler} {l : List Cl} (hc : Names X x c)
      (hsu : ∀ (a : Addr) (oe : Obj) (cls : Value) (d : Option Addr) (pn : List (Addr × Obj)), Zc cls d oe → (∃ vs, oe.data = .fields vs) → PSs (X.suite a ((a, oe) :: pn)) (b₀ :: suite) (ts a cls d)) (r : ClsOk X hds l) :
      ClsOk X (.ExceptHandler (some (.Name x np)) none (b₀ :: suite) pos' :: hds) ((c, none, ts) :: l)
  | named {x n : Str} {c : Value} {i : Nat} {ts : Addr → Value → Option Addr → TS} {b₀ : Stmt} {suite : List Stmt} {np pos' : Pos} {hds : List ExceptHandler} {l : List Cl} (hi : X.N[i]? = some n) (hln : X.env.kindOf n = some .local) (hc : Names X x c)
      (hsu : ∀ (a : Addr) (oe : Obj) (cls : Value) (d : Option Addr) (pn : List (Addr × Obj)), Zc cls d oe → (∃ vs, oe.data = .fields vs) → PSs (X.suite a ((a, oe) :: pn)) (b₀ :: suite) (ts a cls d)) (r : ClsOk X hds l) :
      ClsOk X (.ExceptHandler (some (.Name x np)) (some n) (b₀ :: suite) pos' :: hds) ((c, some i, ts) :: l)
/-- an error on its way to the clauses -/
structure Fly (X : Cx) (pins : List (Addr × Obj)) (B : Heap) (sI s' : Shared) (a : Addr) (cls : Value) (d : Option Addr) (σ : L2.St) (H : Hp) (h : Heap) : Prop where
  J : Inv X pins σ H sI
  nb : ∀ b o, sI.heap.get? b = some o → b ∉ frs X.stack → B.get? b = some o
  up : sI.heap.UpToSlots h
  fl : HandSPX.FlyingZ B (X.env :: X.outer) a (Zc cls d) h
  na : H a = none
  os : s'.os = sI.os
  ag : AllBare s'.gens
section
variable {X : Cx} {pins : List (Addr × Obj)} {B : Heap} {sI s' : Shared} {a : Addr} {cls : Value} {d : Option Addr} {σ : L2.St} {H : Hp} {h : Heap} {D : Ends} {Wout : WX}
theorem Fly.inv (f : Fly X pins B sI s' a cls d σ H h) : Inv X pins σ H { s' with heap := h } := f.J.landed f.nb f.fl.1 f.up f.os f.ag
theorem Fly.suite (f : Fly X pins B sI s' a cls d σ H h) (hf : X.env.frame = some X.env.locals) : ∃ oe, h.get? a = some oe ∧ Zc cls d oe ∧ (∃ vs, oe.data = .fields vs) ∧ Inv (X.suite a ((a, oe) :: (X.pn ++ pins))) [] σ H { s' with heap := h } := by
  obtain ⟨oe, vs, he, hz, hd⟩ := f.fl.there
  have off : a ∉ frs (X.env :: X.outer) := fun hm => by
    obtain ⟨_, o, e, nf⟩ := f.fl.2.2.1.mem hm
    rw [he] at e
    cases e
    exact nf _ hd
  refine ⟨oe, he, hz, ⟨vs, hd⟩, f.inv.suite he hd f.na (fun z => off (List.mem_filterMap.mpr ⟨X.env, List.mem_cons_self, by rw [hf, z]⟩)) fun hm => ?_⟩
  obtain ⟨e, m, q⟩ := List.mem_filterMap.mp hm
  exact off (List.mem_filterMap.mpr ⟨e, List.mem_cons_of_mem _ m, q⟩)
/-- the class that a clause names is asked for -/
theorem Fly.asks {x : Str} {c : Value} {b : Bool} {np : Pos} {Q : Bool → Shared → Prop} {E : Value → Shared → Prop} (f : Fly X pins B sI s' a cls d σ H h) (hf : X.env.frame = some X.env.locals) (hc : Names X x c) (hb : PySem.W.exmOne X.K cls c = some b) :
    PySem.W.Looks (model X.prog X.w) h (typeOf (.ref a)) cls ∧ ∀ {Q : Value → Shared → Prop} {E : Value → Shared → Prop}, Q c { s' with heap := h } → wpAny (model X.prog X.w) (X.A.mark (some (.ref a))) (eval (.Name x np) X.env) Q E { s' with heap := h } := by
  obtain ⟨oe, he, hz, _, S⟩ := f.suite hf
  refine ⟨fun A Q E s k q => wpAny_typeOf_ref (k _ _ he) (by rw [hz.1]; exact q), fun {Q E} q => ?_⟩
  obtain ⟨hg, hdbg, hm | ⟨hm, hv, hnn⟩⟩ := hc
  · exact ld_glob (X := X.suite a ((a, oe) :: (X.pn ++ pins))) S hg hm q hdbg
  · exact ld_blt (X := X.suite a ((a, oe) :: (X.pn ++ pins))) S hg hm hv q hnn hdbg
/-- no clause takes it -/
theorem Fly.out (f : Fly X pins B sI s' a cls d σ H h) (hs : X.stack = X.env :: X.outer) (hf : X.env.frame = some X.env.locals) (tk : Takes X Wout) (w : Wout cls d σ H) : wpAny (model X.prog X.w) X.A (handleBy (.ref a) X.env []) (SP X pins D) X.xe { s' with heap := h } := by
  refine wpAny_handleBy_nil ?_
  obtain ⟨_, _, _, oe, vs, T, oT, ts, he, _, hd, h1, _⟩ := id f.fl
  unfold PySem.passOn
  refine wpAny_bind (wpAny_field he hd h1 ?_)
  rw [if_neg (show ¬ ((Value.ref T == Value.none) = true) from by simp)]
  have fin : wpAny (model X.prog X.w) X.A (setFlight (.ref a) X.env.frame) (fun _ s4 => wpAny (model X.prog X.w) X.A (throw (.ref a) : Sem Flow) (SP X pins D) X.xe s4) X.xe { s' with heap := h } := by
    rw [hf]
    refine HandSPX.setFlight_upZ f.fl fun h4 held up4 => wpAny_throw (tk _ _ ?_)
    exact ⟨a, B, sI, pins, σ, H, cls, d, rfl, f.J, f.nb, f.up.trans up4, .inr (.inr (by rw [hs]; exact held)), f.na, f.os, f.ag, w⟩
  first
    | exact wpAny_bind (wpAny_pure (wpAny_bind fin))
    | exact wpAny_bind fin
theorem Fly.again {h' : Heap} (f : Fly X pins B sI s' a cls d σ H h) (fl : HandSPX.FlyingZ B (X.env :: X.outer) a (Zc cls d) h') (up : h.UpToSlots h') : Fly X pins B sI s' a cls d σ H h' := ⟨f.J, f.nb, f.up.trans up, fl, f.na, f.os, f.ag⟩
theorem Fly.goes (f : Fly X pins B sI s' a cls d σ H h) (hs : X.stack = X.env :: X.outer) (hf : X.env.frame = some X.env.locals) (hN : X.N.Nodup) (tk : Takes X Wout) {hds : List ExceptHandler} {l : List Cl} (hk : ClsOk X hds l) (w : wCls X.K Wout D l cls d σ H) :
    wpAny (model X.prog X.w) X.A (handleBy (.ref a) X.env hds) (SP X pins D) X.xe { s' with heap := h } := by
  have ok := f.J.ok
  induction hk with
  | nil => exact f.out hs hf tk w
  | @plain x c ts b₀ suite np pos' hds2 l2 hc hsu r ih =>
    obtain ⟨b, hb, yes, no⟩ := w
    obtain ⟨LT, test⟩ := f.asks (np := np) (Q := fun _ _ => True) (E := fun _ _ => True) hf hc hb
    refine wpAny_handleBy_cons (codeAny_handlers_test ?_) (by intro q; cases q)
    refine test ((PySem.W.exm_one (M := model X.prog X.w) f.inv.kIn LT hb).here ?_)
    cases b with
    | false => exact ih (no rfl)
    | true =>
      refine codeAny_handlers_suite ?_
      refine HandSPX.lands_againZ f.fl fun h4 fl4 up4 => ?_
      obtain ⟨oe, _, hz, hd, S⟩ := (f.again fl4 up4).suite hf
      refine wpAny_mono ((hsu a oe cls d (X.pn ++ pins) hz hd).run [] _ _ H _ S (yes rfl a f.na)) (fun g s6 z => ?_) (fun _ _ z => False.elim z)
      cases g with
      | ret u => exact let ⟨v, σ6, H6, S6, rv, q⟩ := z; ⟨v, σ6, H6, S6.unsuite ok, rv, q⟩
      | next => exact let ⟨σ6, H6, S6, q⟩ := z; ⟨σ6, H6, S6.unsuite ok, q⟩
      | brk => exact let ⟨σ6, H6, S6, q⟩ := z; ⟨σ6, H6, S6.unsuite ok, q⟩
      | cont => exact let ⟨σ6, H6, S6, q⟩ := z; ⟨σ6, H6, S6.unsuite ok, q⟩
  | @named x n c i ts b₀ suite np pos' hds2 l2 hi hln hc hsu r ih =>
    obtain ⟨b, hb, yes, no⟩ := w
    obtain ⟨LT, test⟩ := f.asks (np := np) (Q := fun _ _ => True) (E := fun _ _ => True) hf hc hb
    refine wpAny_handleBy_cons (codeAny_handlers_test ?_) (by intro q; cases q)
    refine test ((PySem.W.exm_one (M := model X.prog X.w) f.inv.kIn LT hb).here ?_)
    cases b with
    | false => exact ih (no rfl)
    | true =>
      refine codeAny_handlers_suite_as ?_
      refine HandSPX.lands_againZ f.fl fun h4 fl4 up4 => ?_
      obtain ⟨oe, _, hz, hd, S⟩ := (f.again fl4 up4).suite hf
      refine store_ok (X := X.suite a ((a, oe) :: (X.pn ++ pins))) (v := .ref a) S hN hi (.inl hln) rfl (fun s5 S5 => ?_) (.inr hln)
      refine wpAny_mono ((hsu a oe cls d (X.pn ++ pins) hz hd).run [] s5 _ H (endsAt D i) S5 (yes rfl a f.na)) (fun g s6 z => ?_) (fun _ _ z => False.elim z)
      cases g with
      | ret u => exact let ⟨v, σ6, H6, S6, rv, q⟩ := z; gone_ok (S6.unsuite ok) hN hi hln fun s7 J7 => ⟨v, σ6.set i none, H6, J7, rv, q⟩
      | next => exact let ⟨σ6, H6, S6, q⟩ := z; gone_ok (S6.unsuite ok) hN hi hln fun s7 J7 => ⟨σ6.set i none, H6, J7, q⟩
      | brk => exact let ⟨σ6, H6, S6, q⟩ := z; gone_ok (S6.unsuite ok) hN hi hln fun s7 J7 => ⟨σ6.set i none, H6, J7, q⟩
      | cont => exact let ⟨σ6, H6, S6, q⟩ := z; gone_ok (S6.unsuite ok) hN hi hln fun s7 J7 => ⟨σ6.set i none, H6, J7, q⟩
end
section
variable {X : Cx} {body : List Stmt} {h₀ : ExceptHandler} {hds : List ExceptHandler} {l : List Cl} {pos : Pos} {tb : WX → TS} {Wout : WX}
theorem ps_tryM (hs : X.stack = X.env :: X.outer) (hf : X.env.frame = some X.env.locals) (hN : X.N.Nodup) (tk : Takes X Wout)
    (hb : ∀ (W : WX) (pn : List (Addr × Obj)) (xe : Value → Shared → Prop), Takes (X.tr pn xe) W → PassesOwn (model X.prog X.w) X.A X.env xe → PSs (X.tr pn xe) body (tb W))
    (hh : ClsOk X (h₀ :: hds) l) : PS X (.Try body (h₀ :: hds) [] [] pos) (fun D σ H => tb (wCls X.K Wout D l) D σ H) := by
  refine ⟨fun pins s σ H D I h => ?_⟩
  have ok := I.ok
  have hfr : X.A.frames = some (X.env :: X.outer) := by rw [ok.frames, hs]
  refine wpAny_Try_except ?_
  refine wpAny_mono ((hb (wCls X.K Wout D l) (X.pn ++ pins) (fun e s₁ => wpAny (model X.prog X.w) X.A (noteFrame e X.env) (fun _ s₂ => wpAny (model X.prog X.w) X.A (setFlight e none) (fun _ s₃ =>
    wpAny (model X.prog X.w) X.A (handleBy e X.env (h₀ :: hds)) (SP X pins D) X.xe s₃) X.xe s₂) X.xe s₁) (fun u s' xx => ?_) PassesOwn.looking).run [] s σ H D (I.toTry _) h) (fun g s1 z => ?_) (fun e s1 he => he)
  · obtain ⟨a, B, sI, pins', σ', H', cls, d, rfl, J', nb, up, sky, na, os, ag, w⟩ := xx
    have sky' : Sky B (X.env :: X.outer) a (Zc cls d) X.env.locals s'.heap := by rw [← hs]; exact sky
    show wpAny (model X.prog X.w) X.A (noteFrame (.ref a) X.env) _ _ _
    refine Sky.land Zc.steady hfr hf sky' fun h3 fl3 up3 => ?_
    exact (⟨J'.ofTry ok, nb, up.trans up3, fl3, na, os, ag⟩ : Fly X pins B sI s' a cls d σ' H' h3).goes hs hf hN tk hh w
  · cases g with
    | next => exact let ⟨σ', H', J, q⟩ := z; wpAny_execs_nil ⟨σ', H', J.ofTry ok, q⟩
    | brk => exact let ⟨σ', H', J, q⟩ := z; ⟨σ', H', J.ofTry ok, q⟩
    | cont => exact let ⟨σ', H', J, q⟩ := z; ⟨σ', H', J.ofTry ok, q⟩
    | ret u => exact let ⟨v, σ', H', J, rv, q⟩ := z; ⟨v, σ', H', J.ofTry ok, rv, q⟩
end
end Odd

/-! what the top says of errors with an own __init__; e.f in a suite; a def that a parameter holds -/
namespace Odd
open PySem PySem.Spec PyProof.Rows L2 LamX NdefX
/-- of the program as a whole -/
structure SupP (P : Program) (file : Str) : Prop where
  file : ((P.main.file : Str) == file) = true
  top : (P.main.scope.names.lookup ("super" : Str)).isSome = false
structure KxF (K : PySem.W.Frag) (C fI cc : Addr) (F : NF) (file : Str) : Prop where
  cls : OexC K C
  ini : PySem.W.findIn K (.ref C) "__init__" = some (some (.ref fI))
  tyI : PySem.W.typeIn K (.ref fI) = some (.type "function")
  lk : ∃ (oc : Value) (od an : Option Addr) (osl : Array (Option Value)) (doc pm ct : Value), K.lookup fI = some ⟨oc, od, .func (PySem.W.fnX F.name F.qual F.params F.body F.scope F.cl .none .none doc pm an (.ref F.c) ct), osl⟩
  cd : PySem.W.codeIn K (.ref F.c) F.qual = true
  co : ∃ (ccl : Value) (cdd : Option Addr) (ccs : Array (Option Value)) (vs : Array Value) (tf : Tok), K.lookup F.c = some ⟨ccl, cdd, .fields vs, ccs⟩ ∧ vs[2]? = some (.str file tf)
  cl : F.cl = [(("__class__" : Str), cc)]
  cell : ∃ (a : Value) (b : Option Addr) (c : Array (Option Value)), K.lookup cc = some ⟨a, b, .cell (some (.ref C)), c⟩
  mro : PySem.W.mroIn K C (.ref C) = some true
  sup : PySem.W.ks_superIn K C C "__init__" = some (some (.builtin "ValueError.__init__"))
  any : PySem.W.nsIn K cStatics "thirdparty.any" = some none
  subV : PySem.W.subIn K (.ref C) (.type "ValueError") = some true
theorem KxF.toC {P : Program} {K : PySem.W.Frag} {C fI cc : Addr} {F : NF} {file : Str} (T : KxF K C fI cc F file) (S : SupP P file) : KxC P K C fI cc F :=
  ⟨T.cls, T.ini, T.tyI, T.lk, T.cd, let ⟨a, b, c, d, e, h1, h2⟩ := T.co; ⟨a, b, c, d, file, e, h1, h2, S.file⟩, T.cl, T.cell, S.top, T.mro, T.sup, T.any, T.subV⟩
/-- e.f in a suite -/
def tXfA (X0 : Cx) (a : Addr) (cls : Value) (d : Option Addr) (n : Str) (te : TE) : TE := fun σ H Q => ∃ C, XfC X0.K C ∧ PySem.W.findIn X0.K (.ref C) n = some none ∧ tXf a cls d C n te σ H Q
theorem pe_xfA {X0 Y : Cx} {a : Addr} {oe : Obj} {cls : Value} {d : Option Addr} {e : Expr} {te : TE} {pos : Pos} {n : Str} (l : Like X0 Y) (hz : Zc cls d oe) (hf : ∃ vs, oe.data = .fields vs) (hY : ∃ (X : Cx) (pn : List (Addr × Obj)), Y = X.suite a ((a, oe) :: pn))
    (he : PE Y e te) (hb : attributeBase e n Y.env (eval e Y.env) = eval e Y.env := by rfl) : PE Y (.Attribute e n pos) (tXfA X0 a cls d n te) := by
  obtain ⟨X, pn, rfl⟩ := hY
  refine ⟨fun pins s σ H Q I h => ?_⟩
  obtain ⟨C, T, hno, h⟩ := h
  rw [← l.K] at T hno
  exact (pe_xf (X := X) (pn := pn) T hno hz hf he hb).run pins s σ H Q I h
theorem w_xfA {X0 : Cx} {a : Addr} {cls : Value} {d : Option Addr} {n : Str} {te : TE} {σ : L2.St} {H : Hp} {Q : VK} (h : ∃ C, XfC X0.K C ∧ PySem.W.findIn X0.K (.ref C) n = some none ∧ tXf a cls d C n te σ H Q) : tXfA X0 a cls d n te σ H Q := h
/-- x(e, ..), x a local that holds a def -/
def tLoD (X0 : Cx) (E : XK) (i : Nat) (t : TA) : TE := fun σ H Q => ∃ a, σ[i]? = some (some (.ref a)) ∧ PySem.W.keepIn X0.K (.ref a) = true ∧ t σ H fun vs H1 => ∃ r, CaD X0 E (.ref a) r ∧ r vs H1 Q
theorem pe_loD {X0 X : Cx} {E : XK} {i : Nat} {x : Str} {e : Expr} {es : List Expr} {t : TA} {p pos : Pos} (l : Like X0 X) (h : Pas X E) (hN : X.N[i]? = some x) (hv : Vis X.env.scope x) (ha : PA X (e :: es) t) (hd : (x == ("__debug__" : Str)) = false := by decide) (hcd : (x == ("__classdict__" : Str)) = false := by decide)
    (he : starEach (e :: es) X.env = (false, eval e X.env) :: starEach es X.env := by rfl) (hpl : (backTo pos (starEach es X.env)).any (·.1) = false := by rfl) : PE X (.Call (.Name x p) (e :: es) [] pos) (tLoD X0 E i t) := by
  refine ⟨fun pins s σ H Q I ⟨a, hs, hk, q⟩ => ?_⟩
  rw [← l.K] at hk
  refine wpAny_Call_Name_kw (thn ((pe_var (pos := p) (i := i) hN hv hd hcd).run pins s σ H (fun v H1 => v = .ref a ∧ H1 = H) I ⟨.ref a, hs, rfl, rfl⟩) fun u s1 ⟨v, H1, I1, r1, ev, eH⟩ => ?_)
  subst ev eH
  obtain rfl : u = Value.ref a := r1
  refine PySem.W.callWith_K (h₀ := X.base) I1.ok.mod.kin hk (thn (ha.run pos pins s1 σ H1 _ I1 q) fun us s2 ⟨vs, H2, I2, r2, r, hr, q2⟩ => ⟨I2.kIn, ?_⟩) he hpl
  exact hr X l h pins s2 σ H2 vs us Q I2 r2 q2
theorem w_loD {X0 : Cx} {E : XK} {i : Nat} {t : TA} {σ : L2.St} {H : Hp} {Q : VK} {a : Addr} (hs : σ[i]? = some (some (.ref a))) (hk : PySem.W.keepIn X0.K (.ref a) = true) (h : t σ H fun vs H1 => ∃ r, CaD X0 E (.ref a) r ∧ r vs H1 Q) : tLoD X0 E i t σ H Q := ⟨a, hs, hk, h⟩
end Odd
namespace Odd
open PySem PySem.Spec PyProof.Rows L2
theorem log_ix {i : Int} (h0 : -1 ≤ i) (h1 : i < 10 ^ 6) : i.natAbs.log2 < 1920 := by
  have e6 : (10 : Int) ^ 6 = 1000000 := by decide
  by_cases hz : i.natAbs = 0
  · rw [hz]; decide
  · refine (Nat.log2_lt hz).2 (Nat.lt_of_lt_of_le (show i.natAbs < 2 ^ 64 by omega) (Nat.pow_le_pow_right (by decide) (by decide)))
theorem numS_ix {acc : Str} {i : Int} (h0 : -1 ≤ i) (h1 : i < 10 ^ 6) (ha : acc.length ≤ 900) : (acc ++ numS i).length ≤ 1000 := by
  have e6 : (10 : Int) ^ 6 = 1000000 := by decide
  have e13 : (10 : Int) ^ 13 = 10000000000000 := by decide
  have el : (acc ++ numS i).length = acc.length + (numS i).length := by
    rw [TL.len_tl, TL.tl_append, List.length_append, ← TL.len_tl, ← TL.len_tl]
  rw [el]
  rcases Int.lt_or_le i 0 with z | z
  · rw [show i = -1 by omega, show (numS (-1)).length = 2 from by decide +kernel]
    omega
  · have := (numS_len z (by omega)).1
    omega
theorem w_ost {K : PySem.W.Frag} {f : Str} {to te : TE} {D : Ends} {σ : L2.St} {H : Hp} (h : te σ H fun y H1 => to σ H1 fun x H2 => ∃ a C : Addr, x = .ref a ∧ OexC K C ∧ PySem.W.findIn K (.ref C) f = some none ∧
  ((H2 a = some (exo a C none) ∧ ∀ dx, H2 dx = none → dx ≠ a → D.nx σ (upd (upd H2 dx (exd dx [(f, y)])) a (exo a C (some dx)))) ∨
    ∃ (dx : Addr) (fs : List (Str × V)), H2 a = some (exo a C (some dx)) ∧ H2 dx = some (exd dx fs) ∧ fs.length ≤ 900 ∧ D.nx σ (upd H2 dx (exd dx ((f, y) :: fs))))) : tOst K f to te D σ H := h
theorem w_raK {X0 : Cx} {x : Str} {ks : List Str} {tk : TA} {W : XK} {σ : L2.St} {H : Hp} {C : Addr} {fs : List V → List (Str × V)} {ok : List V → Prop} (R : KxR X0.prog X0.w X0.K X0.mg X0.base x C ks fs ok) (hr : Room 4 X0.A)
    (h : tk σ H fun zs H1 => zs.length = ks.length ∧ ok zs ∧ ∀ d H', H1 d = none → Same H1 H' → H' d = some (.xd (fs zs)) → W (.ref C) (some d) H') : tMkK X0 x ks tk W σ H := ⟨C, fs, ok, R, hr, h⟩
end Odd

/-! bool(x) and y in x, x an own instance -/
namespace GBO
open PySem PyProof.Rows
open PySem.Sem (wp)
section
variable {prog : Program} {w : World}
/-- bool's maker asks for the truth -/
theorem made {A : Around} {x : Value} {G : Bool → Shared → Prop} {B : Value → Shared → Prop} {t : Shared} (ht : wpAny (model prog w) A (truthy x) G B t) :
    wpAny (model prog w) A (Builtin.«bool.__new__» ⟨[.type "bool", x], []⟩) (fun o t' => ∃ b, o = .done (.ret (.bool b)) ∧ G b t') B t := by
  obtain ⟨c1, c2, c3, c4, c5⟩ := t
  have sub := F.conv_sub_bool
  repeat (any_goals (first | assumption | (with_reducible refine wpAny_mono ht (fun b t' g => ?_) fun _ _ z => z) | wp_step))
  all_goals first | exact ⟨_, rfl, g⟩ | exact ⟨_, rfl, by assumption⟩ | skip
/-- bool(x) -/
theorem asked {A : Around} {x : Value} {Q B : Value → Shared → Prop} {t : Shared} (ht : wpAny (model prog w) A.in1.in1 (truthy x) (fun b t' => Q (.bool b) t') B t) : wpAny (model prog w) A (call (.type "bool") [x]) Q B t := by
  have kd := F.called_bool
  have y1 := kd.notType
  have y2 := kd.canCreate
  have y3 := kd.made
  have y4 := kd.sub
  obtain ⟨hd, rest, y5⟩ := kd.mro
  have z1 : checkTypeCall "bool" ⟨[x], []⟩ = pure () := F.typeCall_bool_1 x
  refine wpAny_call (codeAny_of_tree (wpAny_pure ⟨Code.quiet_builtin _ (by decide +kernel), codeAny_builtin F.entry_type_call ?_⟩))
  rw [Around.under_plain (weight_type_call_type "bool" [x] []) (units_type_call_type "bool" [x] [])]
  repeat (any_goals (first | assumption | wp_step))
  have inner := made ht
  refine codeAny_mono (codeAny_call_builtin kd.plain F.entry_bool_new (wpAny_of_eq (F.newCall_bool_1 x) (wpAny_mono inner (fun o t' z => ?_) fun _ _ z => z))) (R := fun r t' => match r with | .ok (.ret v) => ∃ b, v = .bool b ∧ Q (.bool b) t' | .ok _ => False | .error e => B e t') ?_
  · obtain ⟨b, rfl, g⟩ := z
    exact ⟨b, rfl, g⟩
  · rintro (e | fl) t' z
    · exact z
    · cases fl
      case ret v =>
        obtain ⟨b, rfl, g⟩ := z
        have w1 := kd.init.lookup
        have w2 := kd.init.bind (.bool b)
        repeat (any_goals (first | assumption | wp_step))
        have own : Meets (Builtin.«object.__init__» ⟨[.bool b, x], []⟩) _ := object_init_meets (T := "bool") w1 y3 F.newNe_bool
        have go := own prog w A.in1 (wants (fun v t => v = .none ∧ Q (.bool b) t) B) t' ⟨rfl, rfl, g⟩
        refine codeAny_mono (R := wants (fun v t => v = .none ∧ Q (.bool b) t) B) (codeAny_call_builtin kd.init.plain F.entry_object_init (kd.init.check _ _ _ _ _ _ _ _ rfl (F.args_object_init_2 (.bool b) x) go)) ?_
        rintro (e | fl) t2 z2
        · exact z2
        · cases fl
          case ret v =>
            obtain ⟨rfl, g2⟩ := z2
            repeat (any_goals (first | assumption | wp_step))
          all_goals exact z2.elim
      all_goals exact z.elim
end
end GBO
namespace Odd
open PySem PySem.Spec PyProof.Rows L2
section
variable {X : Cx} {CX : CXT} {E : XK} {n : Nat} {g C : Addr} {sp : Sp}
theorem _root_.Odd.room2 {k : Nat} {A : Around} (hr : Room (k + 2) A) : Room k A.in1.in1 := (show Room ((k + 1) + 1) A from hr).in1.in1
/-- bool(x) -/
def rBoolO (C : Addr) (sp : Sp) (E : XK) : List V → Hp → VK → Prop := fun vs H Q => ∃ a dx fs, vs = [.ref a] ∧ H a = some (.ins C dx fs) ∧ sp [.ref a] H (fun z H' => ∃ b, z = .bl b ∧ Q z H') E
theorem call_boolO (hs : PySem.W.findIn X.K (.ref C) "__bool__" = some (some (.ref g))) (hf : PySem.W.isFn X.K (.ref g) = true)
    (F : FnR X.prog X.w X.K X.mg X.base CX n g sp) (hr : Room (n + 2) X.A) (hx : Passes CX X E) : CallR X (.type "bool") (rBoolO C sp E) := by
  intro pins s σ H xs us Q I r h
  obtain ⟨a, dx, fs, rfl, ha, q⟩ := h
  obtain rfl := Vals.ref1 r
  obtain ⟨ox, od, J⟩ := inst_at I ha
  refine GBO.asked ?_
  unfold truthy
  refine wpAny_bind (PySem.W.special_fn I.kIn J hs (beq_iff_eq.mp hf) (wpAny_mono (wpAny_call (SlX.run_at F (room2 hr) I.env0.in1.in1 hx I (show Vals [V.ref a] [Value.ref a] from .cons rfl .nil) q)) (fun w s' z => ?_) fun _ _ x => x))
  obtain ⟨z', H', I', rz, b, rfl, qz⟩ := z
  cases (show w = Value.bool b from rz)
  exact wpAny_pure ⟨.bl b, H', I', rfl, qz⟩
/-- y in x -/
def rInO (C : Addr) (sp : Sp) (E : XK) : R2 := fun x y H Q => ∃ a dx fs, y = .ref a ∧ H a = some (.ins C dx fs) ∧ sp [y, x] H (fun z H' => ∃ b, z = .bl b ∧ Q z H') E
theorem op_inO (hs : PySem.W.findIn X.K (.ref C) "__contains__" = some (some (.ref g))) (hf : PySem.W.isFn X.K (.ref g) = true)
    (F : FnR X.prog X.w X.K X.mg X.base CX n g sp) (hr : Room n X.A) (hx : Passes CX X E) : OpR X (compareOp .In) (rInO C sp E) := by
  intro pins s σ H x y v u Q I rx ry h
  obtain ⟨a, dx, fs, rfl, ha, q⟩ := h
  cases (show u = Value.ref a from ry)
  obtain ⟨ox, od, J⟩ := inst_at I ha
  obtain ⟨m, hF⟩ := I.fr
  refine PySem.W.in_K hF I.ok.mod.kin J hs hf (wpAny_mono (call_ref (vs := [.ref a, x]) F hr hx I (.cons rfl (.cons rx .nil)) q) (fun w s' z => ?_) fun _ _ x => x)
  obtain ⟨z', H', I', rz, b, rfl, qz⟩ := z
  cases (show w = Value.bool b from rz)
  exact wpAny_pure ⟨.bl b, H', I', rfl, qz⟩
end
section
variable {X0 : Cx} {E : XK} {H : Hp} {Q : VK} {k : Nat} {C g a dx : Addr} {fs : List (Str × V)} {sp : Sp}
theorem s_boolO (M : Meth X0.K C "__bool__" g) (F : Fn X0 k g sp) (hr : Room (k + 2) X0.A) (ha : H a = some (.ins C dx fs)) (q : sp [.ref a] H (fun z H' => ∃ b, z = .bl b ∧ Q z H') E) : ∃ r, CaD X0 E (.type "bool") r ∧ r [.ref a] H Q :=
  ⟨rBoolO C sp E, fun X l h => call_boolO (by rw [l.K]; exact M.at_) (by rw [l.K]; exact M.fn) (l.fn F) (l.room hr) h, a, dx, fs, rfl, ha, q⟩
theorem s_inO {x : V} (M : Meth X0.K C "__contains__" g) (F : Fn X0 k g sp) (hr : Room k X0.A) (ha : H a = some (.ins C dx fs)) (q : sp [.ref a, x] H (fun z H' => ∃ b, z = .bl b ∧ Q z H') E) : ∃ r, OpD X0 E (compareOp .In) r ∧ r x (.ref a) H Q :=
  ⟨rInO C sp E, fun X l h => op_inO (by rw [l.K]; exact M.at_) (by rw [l.K]; exact M.fn) (l.fn F) (l.room hr) h, a, dx, fs, rfl, ha, q⟩
end
end Odd

/-! del x[k:], with, o.m( *y), C(e, k = v), o.f += e -/
namespace Odd
open PySem PySem.Spec PyProof.Rows L2
section
variable {prog : Program} {w : World} {A : Around} {E : Value → Shared → Prop} {s : Shared}
theorem cut_tail {α : Type} (xs : List α) (k : Nat) (p : Nat → Bool) (hp : ∀ i, i < xs.length → p i = decide (k ≤ i)) : xs.zipIdx.filterMap (fun x => if p x.2 = true then none else some x.1) = xs.take k := by
  have gen : ∀ (ys : List α) (j : Nat), (∀ i, i < ys.length → p (j + i) = decide (k ≤ j + i)) → (ys.zipIdx j).filterMap (fun x => if p x.2 = true then none else some x.1) = ys.take (k - j) := by
    intro ys
    induction ys with
    | nil => intro j _; simp
    | cons y ys ih =>
      intro j hj
      have h0 := hj 0 (by simp)
      have hs := ih (j + 1) fun i hi => by
        have := hj (i + 1) (by simpa using hi)
        rw [show j + 1 + i = j + (i + 1) by omega]
        exact this
      rw [List.zipIdx_cons, List.filterMap_cons]
      by_cases hk : k ≤ j
      · rw [if_pos (by rw [show j = j + 0 by omega, h0]; simpa using hk)]
        dsimp only
        rw [hs, show k - (j + 1) = 0 by omega, show k - j = 0 by omega]
        rfl
      · rw [if_neg (by rw [show j = j + 0 by omega, h0]; simpa using hk)]
        dsimp only
        rw [hs, show k - j = (k - (j + 1)) + 1 by omega]
        rfl
  have := gen xs 0 fun i hi => by rw [Nat.zero_add]; exact hp i hi
  rwa [Nat.sub_zero] at this
theorem del_tail {l sl : Addr} {its : List Value} {z : Nat} {v1 : Value} {k : Nat} {Q : Unit → Shared → Prop} (hl : s.heap.get? l = some { cls := .type "list", data := .seq its.toArray z }) (hs : s.heap.IsSliceOf sl v1 .none .none)
    (p1 : IsPart v1 (some (k : Int))) (hk : k ≤ its.length) (hz : its.length ≤ sizeLine) (q : ∀ f, f its.toArray = (its.take k).toArray → Q () { s with heap := s.heap.update l (Obj.mapSeq f) }) :
    wpAny (model prog w) A (delItem (.ref l) (.ref sl)) Q E s := by
  have lst : s.heap.IsList l its.toArray := PySem.IsL.isList hl
  have ty : s.TypeIs (.ref sl) "slice" := let ⟨o, a, b, c⟩ := hs; ⟨o, a, b⟩
  obtain ⟨o, o1, o2, o3⟩ := id hs
  unfold delItem
  refine wpAny_holding (wpAny_bind (wpAny_sequenceKey lst.typeIs (by decide) ?_))
  refine wpAny_bind (wpAny_callSpecial?_slot (name := Str.ofString "__delitem__") lst.typeIs PySem.F.slot_list_delitem (wpAny_call_entry PySem.F.slot_list_delitem lst.typeIs PySem.F.entry_list_delitem ?_ (PySem.F.args_list_delitem_2 _ _)))
  refine wpAny_bind (m := Builtin.List.listSubscript? (.ref sl)) ?_
  unfold Builtin.List.listSubscript?
  refine wpAny_bind (wpAny_specialOf ty slice_no_index ?_)
  dsimp only [Option.isNone_none, if_true]
  refine wpAny_pure ?_
  refine wpAny_bind (m := typeOf (.ref sl)) (wpAny_typeOf ty ?_)
  rw [if_neg (by simp), listSliceParts_eq]
  refine wpAny_bind (wpAny_bind (wpAny_field o1 o3 (x := .none) rfl (wpAny_bind (wpAny_listPart .none ?_))))
  rw [if_neg (show ¬ (rawPart none == rawInt 0) = true from Bool.false_ne_true)]
  refine wpAny_bind (wpAny_field o1 o3 (x := v1) rfl (wpAny_bind (wpAny_listPart p1 ?_)))
  refine wpAny_bind (wpAny_field o1 o3 (x := .none) rfl (wpAny_bind (wpAny_listPart .none (wpAny_pure ?_))))
  unfold Builtin.List.listItems
  refine wpAny_bind (wpAny_bind (wpAny_seqItems hl rfl (wpAny_pure ?_)))
  have bounds : sliceBounds (some (k : Int)) none none its.toArray.size = ((k : Int), (its.length : Int), 1) := by
    simp [sliceBounds]
    omega
  refine wpAny_bind (wpAny_of_eq ((sliceIndices_raw (some (k : Int)) none none its.toArray.size (by simp)).trans (congrArg (pure : Int × Int × Int → Sem (Int × Int × Int)) bounds)) ?_)
  refine wpAny_bind (wpAny_rule ?_)
  have cut := fun p hp => cut_tail its k p hp
  refine wpAny_bind (m := updateSeq l _) (wpAny_updateSeq hl rfl ?_ (hz := by rw [List.size_toArray]; exact hz) (_hz' := ?_))
  · refine wpAny_bind (wpAny_letGo (wpAny_pure ⟨.none, rfl, wpAny_pure (q _ ?_)⟩))
    refine congrArg List.toArray (cut _ fun i hi => ?_)
    show (if (1 : Int) > 0 then (decide ((k : Int) ≤ (i : Int)) && decide ((i : Int) < (its.length : Int)) && (((i : Int) - (k : Int)) % 1 == 0)) else (decide ((its.length : Int) < (i : Int)) && decide ((i : Int) ≤ (k : Int)) && (((k : Int) - (i : Int)) % (-1) == 0))) = _
    rw [if_pos (by decide), Int.emod_one]
    simp
    omega
  · refine Nat.le_trans ?_ (Nat.le_succ_of_le hz)
    rw [List.size_toArray]
    exact Nat.le_trans (List.length_filterMap_le _ _) (by rw [List.length_zipIdx]; exact Nat.le_refl _)
end
/-! ### del x[k:], as a statement -/
section
variable {X : Cx}
def tDelS (to : TE) (tk : TO) : TS := fun D σ H => to σ H fun x H1 => tk σ H1 fun o H2 => ∃ (l : Addr) (xs : List V) (k : Nat), x = .ref l ∧ o = some (k : Int) ∧ H2 l = some (.lst xs) ∧ k ≤ xs.length ∧ D.nx σ (upd H2 l (.lst (xs.take k)))
theorem ps_delS {o lo : Expr} {to tk : TE} {tpos p2 pos : Pos} (ho : PE X o to) (hk : PE X lo tk) : PS X (.Delete [.Subscript o (.Slice (some lo) none none p2) tpos] pos) (tDelS to (tPart tk)) := by
  refine ⟨fun pins s σ H D I h => ?_⟩
  refine wpAny_Delete (wpAny_deleteEach_cons (wpAny_delete_Subscript (thn (ho.run pins s σ H _ I h) fun u s1 ⟨x, H1, I1, rx, q1⟩ => ?_)))
  refine wpAny_Slice (thn ((po_some hk).run pins s1 σ H1 _ I1 q1) fun v1 s2 ⟨b, H2, I2, pb, q2⟩ => ?_)
  rw [evalPart_none]
  refine wpAny_pure (wpAny_pure ?_)
  obtain ⟨l, xs, k, rfl, rfl, hl, hkl, q3⟩ := q2
  cases (show u = Value.ref l from rx)
  have I3 : Inv X pins σ H2 { s2 with heap := s2.heap.push { cls := .type "slice", data := .fields #[v1, .none, .none] } } := I2.kept (t' := s2.toks) fun _ _ e => Heap.get?_push_of_some _ e
  obtain ⟨z, its, n, r, len, got⟩ := I3.lstM hl
  refine del_tail (k := k) got (Heap.IsSliceOf.new ..) pb (by rw [← len]; exact hkl) (by omega) fun f hf => wpAny_deleteEach_nil ⟨σ, _, I3.lset (its' := its.take k) (t' := _) hl got hf (r.take k) ?_, q3⟩
  rw [List.length_take]
  omega
theorem w_delS {to : TE} {tk : TO} {D : Ends} {σ : L2.St} {H : Hp} (h : to σ H fun x H1 => tk σ H1 fun o H2 => ∃ (l : Addr) (xs : List V) (k : Nat), x = .ref l ∧ o = some (k : Int) ∧ H2 l = some (.lst xs) ∧ k ≤ xs.length ∧ D.nx σ (upd H2 l (.lst (xs.take k)))) : tDelS to tk D σ H := h
end
/-! ### o.m( *y) -/
section
variable {X : Cx} {E : XK}
def tMeS (X : Cx) (E : XK) (m : Str) (ta te : TE) : TE := fun σ H Q => ta σ H fun x H1 => ∃ a C dx fs g, x = .ref a ∧ H1 a = some (.ins C dx fs) ∧ Cls X.K C ∧ BMeth X.K C m g ∧ fs.lookup m = none ∧
  ∀ q, H1 q = none → te σ (upd H1 q (.met g a)) fun y H2 => ∃ b vs, y = .ref b ∧ (SqT X.K H2 b vs ∨ SqL X.K H2 b vs) ∧ H2 q = some (.met g a) ∧ ∃ k sp, FnR X.prog X.w X.K X.mg X.base (L2.CX X.prog X.w) k g sp ∧ Room k X.A ∧ sp (.ref a :: vs) H2 Q E
theorem pe_meS {o e : Expr} {m : Str} {ta te : TE} {p apos pos : Pos} (hx : Pas X E) (ho : PE X o ta) (he : PE X e te) (hb : attributeBase o m X.env (eval o X.env) = eval o X.env := by rfl) (hst : starEach [.Starred e p] X.env = [(true, eval e X.env)] := by rfl) :
    PE X (.Call (.Attribute o m apos) [.Starred e p] [] pos) (tMeS X E m ta te) := by
  refine ⟨fun pins s σ H Q I h => ?_⟩
  have k1 : backToKw pos (keywordEach [] X.env) = [] := rfl
  have k2 : methodCallForm ([Expr.Starred e p].length + ([] : List Keyword).length) (backTo pos [(true, eval e X.env)]) [] = false := rfl
  have k3 : methodCallPos false o X.env apos pos = pure pos := rfl
  have k4 : ∀ v, calleeOf false o X.env v m = (getAttr v m true >>= fun w => pure (w, [])) := fun _ => rfl
  rw [arm_eval_Call, hb, hst, k1]
  refine wpAny_bind (thn (ho.run pins s σ H _ I h) fun u s1 ⟨x, H1, I1, rx, a, C, dx, fs, g, ex, ea, c, bm, l, q⟩ => ?_)
  subst ex
  obtain rfl : u = Value.ref a := rx
  refine wpAny_bind (wpAny_standAt ?_)
  unfold methodCall
  rw [k2, k3, k4]
  refine wpAny_bind (wpAny_holding (wpAny_bind (getbound_ok I1 ea c bm l fun b1 s2 hb1 I2 => wpAny_pure ?_)))
  refine wpAny_bind (wpAny_pure ?_)
  refine PySem.W.ks_call (P := PySem.W.MethP X.K b1 g (.ref a)) rfl (PySem.W.keeps_M bm.fi) (PySem.W.ks_lone (thn (he.run pins s2 σ _ _ I2 (q b1 hb1)) fun v s3 ⟨y, H2, I3, ry, t, vs, ey, ht, hm, k, sp, F, hr, hsp⟩ => ?_))
  subst ey
  obtain rfl : v = Value.ref t := ry
  refine StX.star_any I3 ht fun us s4 I4 rv => ?_
  exact ⟨met_P I4 hm, wpAny_call (PySem.W.method_call (met_P I4 hm).1 (run_fnR (us := Value.ref a :: us) (vs := V.ref a :: vs) F hr hx I4 (.cons rfl rv) hsp))⟩
theorem w_meS {m : Str} {ta te : TE} {σ : L2.St} {H : Hp} {Q : VK} (h : ta σ H fun x H1 => ∃ a C dx fs g, x = .ref a ∧ H1 a = some (.ins C dx fs) ∧ Cls X.K C ∧ BMeth X.K C m g ∧ fs.lookup m = none ∧
  ∀ q, H1 q = none → te σ (upd H1 q (.met g a)) fun y H2 => ∃ b vs, y = .ref b ∧ (SqT X.K H2 b vs ∨ SqL X.K H2 b vs) ∧ H2 q = some (.met g a) ∧ ∃ k sp, FnR X.prog X.w X.K X.mg X.base (L2.CX X.prog X.w) k g sp ∧ Room k X.A ∧ sp (.ref a :: vs) H2 Q E) : tMeS X E m ta te σ H Q := h
end
/-! ### C(e, .., k = v, ..) -/
section
variable {X : Cx} {E : XK}
def tMkA (X : Cx) (E : XK) (x : Str) (ks : List Str) (t tk : TA) : TE := fun σ H Q => t σ H fun vs H1 => tk σ H1 fun zs H2 => ∃ (C f : Addr) (fd : FuncData) (ps : List Str) (k : Nat) (sp : Sp) (g : List Value → List Value → List Value) (gV : List V → List V → List V), X.mg x = some (.ref C) ∧ Mk X.K C f ∧
  FnOk X.prog X.w X.K X.mg X.base (L2.CX X.prog X.w) k f fd ps sp ∧ Room (k + 1) X.A ∧ KBn X.K fd ps (vs.length + 1) ks g gV ∧ zs.length = ks.length ∧ ∀ x dx, H2 x = none → H2 dx = none → dx ≠ x →
    sp (gV (.ref x :: vs) zs) (upd (upd H2 dx (.own x)) x (.ins C dx [])) (fun v H3 => v = .non ∧ Q (.ref x) H3) E
theorem pe_mkA {x : Str} {ks : List Str} {t tk : TA} {e : Expr} {es : List Expr} {kws : List Keyword} {p pos : Pos} (hx : Pas X E) (hg : Gl X x) (ha : PA X (e :: es) t) (hkw : PK X kws tk)
    (hall : (backToKw pos (keywordEach kws X.env)).all (·.1.isSome) = true := by rfl) (hks : (backToKw pos (keywordEach kws X.env)).filterMap (·.1) = ks := by rfl) (hdb : (x == ("__debug__" : Str)) = false := by decide)
    (he : starEach (e :: es) X.env = (false, eval e X.env) :: starEach es X.env := by rfl) (hpl : ((backTo pos (starEach (e :: es) X.env)).any (·.1) || (backToKw pos (keywordEach kws X.env)).any (·.1.isNone)) = false := by rfl)
    {C : Addr} (hm : X.mg x = some (.ref C)) (hk : PySem.W.keepIn X.K (.ref C) = true) :
    PE X (.Call (.Name x p) (e :: es) kws pos) (tMkA X E x ks t tk) := by
  refine ⟨fun pins s σ H Q I h => ?_⟩
  refine wpAny_Call_Name_kw (ld_glob I hg hm ?_ hdb)
  refine PySem.W.callWith_KW (h₀ := X.base) I.ok.mod.kin hk hall (thn (ha.run pos pins s σ H _ I h) fun us s1 ⟨vs, H1, I1, r, q⟩ => ?_) hpl he
  refine thn (hkw.run pos pins s1 σ H1 _ I1 q) fun ws s2 ⟨zs, H2, I2, rz, C', f, fd, ps, k, sp, g, gV, hm', M, F, hr, hb, l2, q2⟩ => ⟨I2.kIn, ?_⟩
  rw [hks]
  cases hm.symm.trans hm'
  exact run_makeK (n := vs.length) M F hr hb hx I2 r rz rfl l2 q2
end
/-! ### with e as y: .. -/
section
variable {X : Cx} {E : XK}
/-- the manager at a leaves -/
def tExit (X : Cx) (E : XK) (a fx : Addr) (H : Hp) (k : Hp → Prop) : Prop := ∃ r, CaD X E (.ref fx) r ∧ r [.ref a, .non, .non, .non] H fun _ H' => k H'
def wEnds (X : Cx) (E : XK) (a fx : Addr) (D : Ends) : Ends := { nx := fun σ H => tExit X E a fx H (D.nx σ), rt := fun v H => tExit X E a fx H (D.rt v), bk := fun σ H => tExit X E a fx H (D.bk σ), ct := fun σ H => tExit X E a fx H (D.ct σ) }
def tWith (X : Cx) (E : XK) (i : Nat) (tc : TE) (tb : TS) : TS := fun D σ H => tc σ H fun x H1 => ∃ a C dx fs fe fx, x = .ref a ∧ H1 a = some (.ins C dx fs) ∧ Meth X.K C "__enter__" fe ∧ Meth X.K C "__exit__" fx ∧
  ∃ r, CaD X E (.ref fe) r ∧ r [.ref a] H1 fun v H2 => gName i v σ H2 fun σ2 H3 => tb (wEnds X E a fx D) σ2 H3
theorem ps_with {ctx : Expr} {y : Str} {py pos : Pos} {body : List Stmt} {i : Nat} {tc : TE} {tb : TS} (hx : Pas X E) (hN : X.N.Nodup) (hi : X.N[i]? = some y) (hl : X.env.scope.names.lookup y = some .local) (hc : PE X ctx tc)
    (hb : ∀ pn, PSs (X.tr pn fun _ _ => False) body tb) : PS X (.With [⟨ctx, some (.Name y py)⟩] body pos) (tWith X E i tc tb) := by
  refine ⟨fun pins s σ H D I h => ?_⟩
  refine PySem.W.kw_execN (thn (hc.run pins s σ H _ I h) fun u s1 ⟨x, H1, I1, rx, a, C, dx, fs, fe, fx, ex, ea, m1, m2, r, hr, q⟩ => ?_)
  subst ex
  obtain rfl : u = Value.ref a := rx
  obtain ⟨ox, od, J⟩ := inst_at I1 ea
  refine PySem.W.kw_core (b := assign (.Name y py) X.env) I1.kIn J m1.at_ m1.fn m2.at_ m2.fn ?_
  refine thn (hr X Like.refl hx pins s1 σ H1 [.ref a] [.ref a] _ I1 (.cons rfl .nil) q) fun v s2 ⟨v', H2, I2, rv, q2⟩ => ?_
  refine wpAny_assign_Name (store_ok I2 hN hi (.inl hl) rv (fun s3 I3 => ?_) (.inr hl))
  refine wpAny_mono ((hb (X.pn ++ pins)).run [] s3 _ H2 _ (I3.toTry _) q2) (fun f s4 sp => ?_) fun _ _ z => z
  have leave : ∀ {σ' : L2.St} {H' : Hp} {k : Hp → Prop}, Inv (X.tr (X.pn ++ pins) fun _ _ => False) [] σ' H' s4 → tExit X E a fx H' k → wpAny (model X.prog X.w) X.A (call (.ref fx) [.ref a, .none, .none, .none]) (fun _ s5 => ∃ H5, Inv X pins σ' H5 s5 ∧ k H5) X.xe s4 := fun {σ' H' k} I' ⟨r', hr', q'⟩ =>
    thn (hr' X Like.refl hx pins s4 σ' H' [.ref a, .non, .non, .non] [.ref a, .none, .none, .none] _ (I'.ofTry I.ok) (.cons rfl (.cons rfl (.cons rfl (.cons rfl .nil)))) q') fun _ s5 ⟨_, H5, I5, _, q5⟩ => ⟨H5, I5, q5⟩
  cases f with
  | next =>
    obtain ⟨σ', H', I', q'⟩ := sp
    exact thn (leave I' q') fun _ s5 ⟨H5, I5, q5⟩ => ⟨σ', H5, I5, q5⟩
  | brk =>
    obtain ⟨σ', H', I', q'⟩ := sp
    exact thn (leave I' q') fun _ s5 ⟨H5, I5, q5⟩ => ⟨σ', H5, I5, q5⟩
  | cont =>
    obtain ⟨σ', H', I', q'⟩ := sp
    exact thn (leave I' q') fun _ s5 ⟨H5, I5, q5⟩ => ⟨σ', H5, I5, q5⟩
  | ret u =>
    obtain ⟨w', σ', H', I', rw', q'⟩ := sp
    exact thn (leave I' q') fun _ s5 ⟨H5, I5, q5⟩ => ⟨w', σ', H5, I5, rw', q5⟩
theorem w_with {i : Nat} {tc : TE} {tb : TS} {D : Ends} {σ : L2.St} {H : Hp} (h : tc σ H fun x H1 => ∃ a C dx fs fe fx, x = .ref a ∧ H1 a = some (.ins C dx fs) ∧ Meth X.K C "__enter__" fe ∧ Meth X.K C "__exit__" fx ∧
  ∃ r, CaD X E (.ref fe) r ∧ r [.ref a] H1 fun v H2 => gName i v σ H2 fun σ2 H3 => tb (wEnds X E a fx D) σ2 H3) : tWith X E i tc tb D σ H := h
end
end Odd

/-! a dict of the top whose keys are texts and whose values are ints; o.m() -/
namespace Odd
open PySem PySem.Spec PyProof.Rows L2
open PyProof.Rows.KTD (Dat Rows Here EachL inKeys eachL_hit eachL_miss opened_int)
/-- the dict stands among what the top laid -/
structure GTab (K : PySem.W.Frag) (d : Addr) (D : List (Str × Int)) : Prop where
  sys : (d == sysModules) = false
  at_ : ∃ o es ep, K.lookup d = some o ∧ o.ExactDict ∧ o.data = .dict es ep ∧ Rows (fun (i : Int) v => ∃ t, v = .int i t) es.toList D
theorem GTab.here {K : PySem.W.Frag} {d : Addr} {D : List (Str × Int)} {h : Heap} (G : GTab K d D) (X : K.In h) : Here h h d (D.map fun p => (p.1, Dat.flat (.int p.2))) := by
  obtain ⟨z, o, es, ep, e1, e2, e3, e4⟩ := G
  refine ⟨⟨z, o, es, ep, X _ _ e1, e2, e3, e4.mono (f := fun i => Dat.flat (.int i)) fun i v ⟨t, e⟩ => ?_⟩, fun _ _ e => e⟩
  subst e
  exact .int i t
theorem inKeys_map {k : Str} : ∀ {D : List (Str × Int)}, inKeys k (D.map fun p => (p.1, Dat.flat (.int p.2))) = inKeys k D
  | [] => rfl
  | p :: D => by
    show (decide (k = p.1) || inKeys k (D.map _)) = (decide (k = p.1) || inKeys k D)
    rw [inKeys_map]
/-- what the dict holds at k -/
def gAt (k : Str) : List (Str × Int) → Option Int
  | [] => none
  | (x, i) :: D => if k = x then some i else gAt k D
theorem g_each {h : Heap} {k : Str} {P : Value → Prop} {i : Int} (hp : ∀ t, P (.int i t)) : ∀ {D : List (Str × Int)}, gAt k D = some i → EachL h k P (D.map fun p => (p.1, Dat.flat (.int p.2)))
  | [], e => nomatch e
  | (x, j) :: D, e => by
    unfold gAt at e
    by_cases z : k = x
    · rw [if_pos z] at e
      cases e
      exact eachL_hit z (opened_int hp)
    · rw [if_neg z] at e
      exact eachL_miss z (g_each hp e)
theorem g_in {k : Str} {i : Int} : ∀ {D : List (Str × Int)}, gAt k D = some i → inKeys k D = true
  | [], e => nomatch e
  | (x, j) :: D, e => by
    unfold gAt at e
    show (decide (k = x) || inKeys k D) = true
    by_cases z : k = x
    · rw [decide_eq_true z]; rfl
    · rw [if_neg z] at e
      rw [g_in e, Bool.or_true]
section
variable {X : Cx}
def rNotInG (K : PySem.W.Frag) : R2 := fun x y H Q => ∃ d D k, y = .ref d ∧ x = .str k ∧ GTab K d D ∧ Q (.bl (!inKeys k D)) H
theorem op_notInG : OpR X (compareOp .NotIn) (rNotInG X.K) := by
  intro pins s σ H x y v u Q I rx ry h
  obtain ⟨d, D, k, rfl, rfl, G, q⟩ := h
  cases (show u = Value.ref d from ry)
  obtain ⟨t, rfl⟩ := (show ∃ t, v = Value.str k t from rx)
  refine PyProof.Rows.KTD.notin_text (G.here I.kIn) ?_
  rw [inKeys_map]
  exact ⟨.bl (!inKeys k D), H, I.tok _, rfl, q⟩
def rIxG (K : PySem.W.Frag) : R2 := fun x y H Q => ∃ d D k i, x = .ref d ∧ y = .str k ∧ GTab K d D ∧ gAt k D = some i ∧ Q (.int i) H
theorem ix_G : IxO X (rIxG X.K) := by
  intro value slice pins s σ H x y v u Q I rx ry h hs _
  obtain ⟨d, D, k, i, rfl, rfl, G, e, q⟩ := h
  cases (show v = Value.ref d from rx)
  obtain ⟨t, rfl⟩ := (show ∃ t, u = Value.str k t from ry)
  refine PyProof.Rows.KTD.item_textA (G.here I.kIn) ?_ (by rw [inKeys_map]; exact g_in e) (g_each (fun t => ⟨.int i, H, I.tok _, ⟨t, rfl⟩, q⟩) e) hs
  rw [List.all_map, List.all_eq_true]
  exact fun _ _ => rfl
end
section
variable {X0 : Cx} {E : XK} {H : Hp} {Q : VK}
theorem s_notInG {d : Addr} {D : List (Str × Int)} {k : Str} (G : GTab X0.K d D) (q : Q (.bl (!inKeys k D)) H) : ∃ r, OpD X0 E (compareOp .NotIn) r ∧ r (.str k) (.ref d) H Q :=
  ⟨rNotInG X0.K, fun X l _ => by rw [← l.K]; exact op_notInG, d, D, k, rfl, rfl, G, q⟩
theorem s_ixG {d : Addr} {D : List (Str × Int)} {k : Str} {i : Int} (G : GTab X0.K d D) (e : gAt k D = some i) (q : Q (.int i) H) : ∃ r, IxD X0 E r ∧ r (.ref d) (.str k) H Q :=
  ⟨rIxG X0.K, fun X l _ => by rw [← l.K]; exact ix_G, d, D, k, i, rfl, rfl, G, e, q⟩
end
/-! ### o.m() -/
section
variable {X0 X : Cx} {E : XK}
theorem pe_me0A {o : Expr} {ta : TE} {m : Str} {pos apos : Pos} {pl : Sem Bool} (l : Like X0 X) (h : Pas X E) (he : PE X o ta) (ht : eval (.Call (.Attribute o m apos) [] [] pos) X.env = (do
      let ov ← eval o X.env
      standAt apos.atName
      let (f, first) ← holding [ov] (getMethod ov m pl)
      callWith pos f first (backTo pos (starEach [] X.env)) (backToKw pos (keywordEach [] X.env))) := by rfl) :
    PE X (.Call (.Attribute o m apos) [] [] pos) (tMeA X0 E m ta tNil) := by
  refine ⟨fun pins s σ H Q I hq => ?_⟩
  refine PySem.W.methodCall_KW (pl := pl) (thn (he.run pins s σ H _ I hq) fun u s1 ⟨x, H1, I1, rx, a, C, dx, fs, g, ex, ea, c, hm, hk, lk, r, hr, q2⟩ => ?_) ht
  subst ex
  obtain rfl : u = Value.ref a := rx
  rw [← l.K] at c hm hk
  refine getmeth_ok I1 ea c hm lk ?_
  exact PySem.W.callWith_K0 (first := [.ref a]) I1.kIn hm.kp (hr X l h pins s1 σ H1 [.ref a] [.ref a] Q I1 (.cons rfl .nil) q2)
end
end Odd

/-! defs with three parameters and a star -/
namespace Odd
open PySem PySem.Spec PyProof.Rows L2
theorem fnr_star3 {P : Program} {w : World} {K : PySem.W.Frag} {mg : Str → Option Value} {base : Heap} {x qual p1 p2 p3 pv : Str} {st : Stmt} {f : Addr} {fd : FuncData} {N : List Str} {k : Nat} {sp : Sp} (F : Fun K x qual st f fd) (S : FnScope N ([p1, p2, p3] ++ [pv]) (defScope st))
    (h : ∀ (kV doc pm : Value) (an : Option Addr) (cdv ct a b c : Value) (rest : List Value), bindArgs (PySem.W.fnOf x qual (defArgs st) (defBody st) (defScope st) .none kV doc pm an cdv ct) ⟨a :: b :: c :: rest, []⟩ = (newTuple rest >>= fun t => pure [(p1, a), (p2, b), (p3, c), (pv, t)]))
    (body : ∀ (cdv : Value) (A : Around) (outer : List Env) (s : Shared) (H : Hp) (vs : List V) (Q : VK) (E : XK), Room k (A.deeper (envOfC qual (defScope st) s.heap.objs.size f cdv)) → sp vs H Q E →
      ∃ t, PSs (cxOf (L2.CX P w) P w K mg base N qual (defScope st) f cdv A outer s H E) (defBody st) t ∧ t { nx := fun _ H' => Q .non H', rt := Q } (start N vs) H) :
    FnR P w K mg base (L2.CX P w) (k + 1) f (fun vs H Q E => ∃ ws rest, vs = ws ++ rest ∧ ws.length = [p1, p2, p3].length ∧ rest.length ≤ sizeLine ∧ ∀ p, H p = Option.none → sp (ws ++ [V.ref p]) (upd H p (.tup rest)) Q E) :=
  fnr_star F S (fun kV doc pm an cdv ct us rest hl => match us, hl with
    | [a, b, c], _ => h kV doc pm an cdv ct a b c rest) body
end Odd

namespace Odd
open PySem PySem.Spec PyProof.Rows L2
/-! ### isinstance(e, c) of an error that may have fields -/
def rIsD (K : PySem.W.Frag) (D a : Addr) (d : Option Addr) : List V → Hp → VK → Prop := fun xs H Q => (∀ dd, d = some dd → ∃ fs, H dd = some (.xd fs)) ∧ rIsE K D a xs H Q
theorem inst_of {X : Cx} {a D : Addr} {oe : Obj} {d : Option Addr} {pn pins : List (Addr × Obj)} {s : Shared} {σ : L2.St} {H : Hp} (hz : Zc (.ref D) d oe) (hf : ∃ vs, oe.data = .fields vs) (hx : ∀ dd, d = some dd → ∃ fs, H dd = some (.xd fs))
    (hk : ∀ dd o, H dd = some o → ObjOk X.prog X.w H s.heap dd o) (ha : s.heap.get? a = some oe) : ∃ od, PySem.W.InstAt s.heap a oe D od := by
  obtain ⟨vs, hv⟩ := hf
  have nc : PySem.W.notCls oe = true := by unfold PySem.W.notCls; rw [hv] <;> rfl
  cases d with
  | none =>
    refine ⟨none, ha, hz.1, nc, ?_⟩
    rw [hz.2]
    trivial
  | some dd =>
    obtain ⟨fs, e⟩ := hx dd rfl
    have ok : ObjOk X.prog X.w H s.heap dd (.xd fs) := hk dd _ e
    obtain ⟨mA, hns, hr⟩ := ok
    obtain ⟨od, ho, hl⟩ := lookIn_ns hns
    exact ⟨some od, ha, hz.1, nc, by rw [hz.2]; exact ho⟩
theorem call_isD {X : Cx} {a D : Addr} {oe : Obj} {d : Option Addr} {pn : List (Addr × Obj)} (C : L2.ExcC X.K D) (hz : Zc (.ref D) d oe) (hf : ∃ vs, oe.data = .fields vs) : CallR (X.suite a ((a, oe) :: pn)) (.builtin "isinstance") (rIsD X.K D a d) := by
  intro pins s σ H xs us Q I r h
  obtain ⟨hx, c, cv, b, rfl, hcv, e, q⟩ := h
  match us, r with
  | [u1, u2], .cons rx (.cons rt .nil) =>
    obtain rfl : u1 = Value.ref a := rx
    obtain rfl := hcv _ rt
    obtain ⟨cd, hc, _⟩ := PySem.W.any_some C.hd
    obtain ⟨od, J⟩ := inst_of (X := X) (pins := pins) (σ := σ) (pn := pn) hz hf hx (fun dd o z => I.hok dd o z) (I.pin (a, oe) (List.mem_append_left _ List.mem_cons_self)).1
    exact PySem.W.kia_one (PySem.W.kitx_exc (by rw [hc]; rfl) C.hg C.hk C.hs C.ha C.hn C.ht C.hm) I.kIn J e (fun z => nomatch z) fun tk => ⟨.bl b, H, I.kept (t' := tk) fun _ _ z => z, rfl, q⟩
def tIsD (X0 : Cx) (a : Addr) (cls : Value) (d : Option Addr) (x : Str) (t : TA) : TE := fun σ H Q => X0.mg x = none ∧ ∃ D : Addr, cls = .ref D ∧ L2.ExcC X0.K D ∧ t σ H fun vs H1 => rIsD X0.K D a d vs H1 Q
theorem pe_isD {X0 Y : Cx} {x : Str} {a : Addr} {oe : Obj} {cls : Value} {d : Option Addr} {e : Expr} {es : List Expr} {t : TA} {p pos : Pos} (l : Like X0 Y) (hz : Zc cls d oe) (hf : ∃ vs, oe.data = .fields vs) (hY : ∃ (X : Cx) (pn : List (Addr × Obj)), Y = X.suite a ((a, oe) :: pn))
    (hg : Gl Y x) (hv : bootBuiltins x = some (.builtin "isinstance")) (ha : PA Y (e :: es) t) (hn : x ≠ "__name__" := by decide) (hdb : (x == ("__debug__" : Str)) = false := by decide)
    (he : starEach (e :: es) Y.env = (false, eval e Y.env) :: starEach es Y.env := by rfl) (hpl : (backTo pos (starEach es Y.env)).any (·.1) = false := by rfl) : PE Y (.Call (.Name x p) (e :: es) [] pos) (tIsD X0 a cls d x t) := by
  obtain ⟨X, pn, rfl⟩ := hY
  refine ⟨fun pins s σ H Q I hq => ?_⟩
  obtain ⟨hm, D, rfl, C, h⟩ := hq
  rw [← l.mg] at hm
  rw [← l.K] at C h
  exact (pe_callB (X := X.suite a ((a, oe) :: pn)) (p := p) (pos := pos) (call_isD (X := X) C hz hf) hg hm hv ha hn hdb he hpl).run pins s σ H Q I h
theorem w_isD {X0 : Cx} {a : Addr} {cls : Value} {d : Option Addr} {x : Str} {t : TA} {σ : L2.St} {H : Hp} {Q : VK} (h : X0.mg x = none ∧ ∃ D : Addr, cls = .ref D ∧ L2.ExcC X0.K D ∧ t σ H fun vs H1 => rIsD X0.K D a d vs H1 Q) : tIsD X0 a cls d x t σ H Q := h
end Odd

namespace Odd
open PySem PySem.Spec PyProof.Rows L2
/-! ### the head by one run: what is looked at, read off the tree -/
theorem obM_eq {K : Params → PySem.W.Frag} {as : List Addr} {ek : ∀ P, as = (K P).map (·.1)} {ts : List Addr} (s : PySem.W.SharedT) : (as.map (HandSHeadRun.getT s), ts.map (HandSHeadRun.getT s)) = (PySem.W.kmHook K as ek ts).obs s.abs :=
  Prod.ext (List.map_congr_left fun a _ => HandSHeadRun.getT_eq s a) (List.map_congr_left fun a _ => HandSHeadRun.getT_eq s a)
/-- what the top leaves, as the kit's head writes it out -/
structure HK where
  K : Params → PySem.W.Frag
  as : List Addr
  e : ∀ P, as = (K P).map (·.1)
  ts : List Addr
abbrev HW (r : PySem.W.OpenRow) (_ : HK) : Prop := r.Holds
/-- it is taken out of the head's own step: nothing is proved here -/
def fetch {r : PySem.W.OpenRow} {h : HK} (_ : (∀ h, HW r h) → HW r h) : HK := h
abbrev HK.hook (h : HK) : PySem.W.Hook := PySem.W.kmHook h.K h.as h.e h.ts
abbrev HK.ob (h : HK) (s : PySem.W.SharedT) : h.hook.α := (h.as.map (HandSHeadRun.getT s), h.ts.map (HandSHeadRun.getT s))
end Odd

namespace Odd
open PySem PySem.Spec PyProof.Rows L2
/-! ### a comprehension whose element's calls may raise: the exception goes on in the def that holds the comprehension -/
section
variable {X : Cx}
/-- its block, with a wish for exceptions -/
abbrev blkE (X : Cx) (s : Shared) (H : Hp) (scope : Scope) (cenv : Env) (fp : List Addr) (xe : Value → Shared → Prop) : Cx := { X.blk s H scope cenv fp with xe := xe }
theorem blkE_of {s s' : Shared} {H H' : Hp} {scope : Scope} {cenv : Env} {fp : List Addr} {xe : Value → Shared → Prop} {pins : List (Addr × Obj)} {σ : L2.St} (I : Inv (X.blk s H scope cenv fp) pins σ H' s') : Inv (blkE X s H scope cenv fp xe) pins σ H' s' :=
  Inv.wish (X := X.blk s H scope cenv fp) I xe
/-- what the block's end asks of an exception -/
abbrev outXe (X : Cx) (ce : Env) : Value → Shared → Prop := notedBy (model X.prog X.w) X.A ce (CompFails (model X.prog X.w) X.A X.xe ce)
theorem pas_block {W : WX} {pins0 : List (Addr × Obj)} {σ0 : L2.St} {s3 : Shared} {H3 : Hp} {scope : Scope} {ce : Env} {fp : List Addr} {E : XK} (tk : L2.Takes X W) (hW : ∀ cls d H, E cls d H → W cls d σ0 H) (hs : X.stack = X.env :: X.outer) (hf : X.env.frame = some X.env.locals) (hcf : ce.frame = X.env.frame)
    (cL : ce.locals = s3.heap.objs.size) (I3 : Inv X pins0 σ0 H3 s3) (hfp : ∀ b ∈ fp, FpOk X pins0 H3 b) : Pas (blkE X s3 H3 scope ce fp (outXe X ce)) E := by
  intro pins σ H s e s' I c
  have hfr : X.A.frames = some (X.env :: X.outer) := by rw [I3.ok.frames, hs]
  obtain ⟨a0, B0, _, cls0, d0, e0, fl0, _⟩ := id c
  obtain ⟨a, B, sI, pins1, σ1, H', cls, d, rfl, I', nb, up, sky, na, os, ag, w⟩ := L2.XE.of_call (X := blkE X s3 H3 scope ce fp (outXe X ce)) (W := fun cls d _ H => E cls d H) I (fun _ _ _ h => h) c
  have e0 : a = a0 := Value.ref.inj e0
  subst e0
  have sky : Sky B (X.env :: X.outer) a (Zc cls d) ce.locals s'.heap := by rw [← hs]; exact sky
  -- noted by the def's frame
  have noted : ∀ {Q : Unit → Shared → Prop} {E₁ : Value → Shared → Prop}, (∀ h1, HandSPX.HeldZ B (X.env :: X.outer) a (Zc cls d) X.env.locals h1 → s'.heap.UpToSlots h1 → Q () { s' with heap := h1 }) → wpAny (model X.prog X.w) X.A (noteFrame (.ref a) X.env) Q E₁ s' := by
    intro Q E₁ k
    rcases sky with ⟨hB, hn, hl, oe, vs, he, hz, hd, h1⟩ | fl | hh
    · exact HandSPX.look_newZ (Zc.steady) hfr hl hf he hB hn hd h1 hz k
    · exact HandSPX.looks_onZ (Zc.steady) hfr hf fl k
    · obtain ⟨_, _, _, oe, vs, T, oT, ts, he, _, hd, h1, _, _, hT, hdT, h3⟩ := hh
      obtain ⟨_, _, _, oe', vs', T', oT', ts', he', _, hd', h1', _, _, hT', hdT', h3'⟩ := fl0
      rw [he] at he'
      cases he'
      rw [hd] at hd'
      cases hd'
      rw [h1] at h1'
      cases h1'
      rw [hT] at hT'
      cases hT'
      rw [hdT] at hdT'
      cases hdT'
      rw [h3] at h3'
      simp [rawInt] at h3'
  show wpAny (model X.prog X.w) X.A (noteFrame (.ref a) ce) _ _ s'
  rw [noteFrame_env _ hcf]
  refine noted fun h1 held1 up1 => ?_
  obtain ⟨m, ns, _⟩ := I'.loc
  have ns : sI.heap.Ns ce.locals m := ns
  have ns1 : h1.Ns ce.locals m := (ns.upToSlots up).upToSlots up1
  refine ⟨m, ns1, fun h2 m2 ns2 only => ?_⟩
  -- the ground without the block's names
  obtain ⟨B', eB'⟩ : ∃ B', B' = PySem.W.hideAll B [ce.locals] := ⟨_, rfl⟩
  have inB' : ∀ b o, B'.get? b = some o → B.get? b = some o ∧ b ≠ ce.locals := fun b o q => by
    rw [eB'] at q
    refine ⟨PySem.W.of_hideAll _ q, fun z => ?_⟩
    rw [PySem.W.hideAll_none [ce.locals] (by simp [z])] at q
    cases q
  have noB' : ∀ b, B.get? b = none → B'.get? b = none := fun b q => by
    cases z : B'.get? b with
    | none => rfl
    | some o =>
      rw [(inB' b o z).1] at q
      cases q
  obtain ⟨st1, out1, fr1, tr1⟩ := held1
  have st2 : B'.StaysIn h2 := fun b o q => (only.2 b (inB' b o q).2).trans (st1 b o (inB' b o q).1)
  have fr2 : h2.FunFrames B' (X.env :: X.outer) := frames_base (Heap.FunFrames.sameBut only ns2 fr1) fun b hb => noB' b (fr1.mem hb).1
  obtain ⟨oe, vs, T, oT, ts, he, hz, hd, hv, hnT, hTe, hT, hdT, h3⟩ := tr1
  have noRec : ∀ {b : Addr} {o : Obj} {fs : Array Value}, h1.get? b = some o → o.data = .fields fs → b ≠ ce.locals := fun {b o fs} q dd z => by
    obtain ⟨oL, es, ep, hoL, hdL, _⟩ := ns1
    rw [z, hoL] at q
    cases q
    rw [hdL] at dd
    cases dd
  have he2 : h2.get? a = some oe := (only.2 a (noRec he hd)).trans he
  have hT2 : h2.get? T = some oT := (only.2 T (noRec hT hdT)).trans hT
  have held2 : HandSPX.HeldZ B' (X.env :: X.outer) a (Zc cls d) X.env.locals h2 := ⟨st2, noB' _ out1, fr2, oe, vs, T, oT, ts, he2, hz, hd, hv, noB' _ hnT, hTe, hT2, hdT, h3⟩
  have I7 : Inv X pins0 σ0 H' sI := I3.call' (ch := fp) I'.os I'.base I'.hok I'.bare fun b hb => ⟨(hfp b hb).2.2.2.1, (hfp b hb).2.1, (hfp b hb).2.2.2.2.1, (hfp b hb).2.2.2.2.2⟩
  have gone : H' ce.locals = none := I'.free
  obtain ⟨f0, f1, f2, f3, f4, f5⟩ := I3.fpOk (b := ce.locals) (by rw [cL]; exact Nat.le_refl _) gone
  have I8 : Inv X pins0 σ0 H' { sI with heap := PySem.W.hideAll sI.heap [ce.locals] } := I7.turned (t' := sI.toks) (fun b o nb q => PySem.W.hideAll_get _ q (by simpa using nb)) f0 f1 f3 f4 f5
  unfold PySem.passOn
  refine wpAny_bind (wpAny_field he2 hd hv ?_)
  rw [if_neg (show ¬ ((Value.ref T == Value.none) = true) from by simp)]
  have fin : wpAny (model X.prog X.w) X.A (setFlight (.ref a) ce.frame) (fun _ s4 => wpAny (model X.prog X.w) X.A (throw (.ref a) : Sem Value) (fun _ _ => False) X.xe s4) X.xe { s' with heap := h2 } := by
    rw [hcf, hf]
    refine HandSPX.setFlight_onZ held2 fun h4 held4 up4 => wpAny_throw (tk _ _ ?_)
    refine ⟨a, B', _, pins0, σ0, H', cls, d, rfl, I8, fun b o q hb => ?_, fun b o q nf => ?_, .inr (.inr (by rw [hs]; exact held4)), na, os, ag, hW _ _ _ w⟩
    · have ne : b ≠ ce.locals := fun z => by
        have q2 : (PySem.W.hideAll sI.heap [ce.locals]).get? b = some o := q
        rw [PySem.W.hideAll_none [ce.locals] (by simp [z])] at q2
        cases q2
      rw [eB']
      exact PySem.W.hideAll_get _ (nb b o (PySem.W.of_hideAll _ q) hb) (by simpa using ne)
    · have ne : b ≠ ce.locals := fun z => by
        have q2 : (PySem.W.hideAll sI.heap [ce.locals]).get? b = some o := q
        rw [PySem.W.hideAll_none [ce.locals] (by simp [z])] at q2
        cases q2
      obtain ⟨sl, g1⟩ := up b o (PySem.W.of_hideAll _ q) nf
      obtain ⟨sl1, g2⟩ := up1 b _ g1 nf
      obtain ⟨sl2, g3⟩ := up4 b _ ((only.2 b ne).trans g2) nf
      exact ⟨sl2, g3⟩
  first
    | exact wpAny_bind (wpAny_pure (wpAny_bind fin))
    | exact wpAny_bind fin
theorem lcX_core {pins : List (Addr × Obj)} {s : Shared} {σ : L2.St} {H : Hp} {Q : VK} {elt tg iter : Expr} {ifs : List Expr} {scope : Scope} {own : List (Str × Nat)} {pos pos' : Pos} {wi : TI} {g : TG} {tt : TT} {te : TE} {W : WX} {E : XK} {use : Option (Value → Sem Unit)} {Qf : Value → Shared → Prop} (tk : L2.Takes X W) (hW : ∀ cls d σ H, E cls d H → W cls d σ H) (hs : X.stack = X.env :: X.outer) (hf : X.env.frame = some X.env.locals)
    (calm : X.calm = true) (nd : X.N.Nodup) (I : Inv X pins σ H s)
    (hi : PI X tg iter wi) (ok : BlkOk X.N X.env.scope scope own)
    (hg : ∀ (s : Shared) (H : Hp) (C : Addr) (cl : List (Str × Addr)) (fp : List Addr) (xe : Value → Shared → Prop), PG (blkE X s H scope (compEnvC scope cl C X.env) fp xe) tg g)
    (ht : ∀ (s : Shared) (H : Hp) (C : Addr) (cl : List (Str × Addr)) (fp : List Addr) (xe : Value → Shared → Prop), PTs (blkE X s H scope (compEnvC scope cl C X.env) fp xe) ifs tt)
    (he : ∀ (s : Shared) (H : Hp) (C : Addr) (cl : List (Str × Addr)) (fp : List Addr) (xe : Value → Shared → Prop), Pas (blkE X s H scope (compEnvC scope cl C X.env) fp xe) E → PE (blkE X s H scope (compEnvC scope cl C X.env) fp xe) elt te) (fold : ∀ x, foldedSetIterable iter X.env x = pure x) (start : tLc wi g tt te (own.map (·.2)) σ H Q)
    (ends : ∀ (D : Addr) (ce : Env) (s' : Shared) (m : Str → Option Value) (H' : Hp), Inv X pins σ H' s' → Q (.ref D) H' → s'.heap.Ns ce.locals m → FpOk X pins H' ce.locals → compEnds (model X.prog X.w) X.A X.xe use Qf (.ref D) ce (.ok .next) s') :
    wpAny (model X.prog X.w) X.A (comprehension (.ListComp elt [⟨tg, iter, ifs, 0⟩] scope pos) scope X.env pos' (newList []) false (eval iter X.env) use) Qf X.xe s := by
  have cellOf : ∀ y ∈ scope.names, y.2 = .free → ∃ c, X.env.cells.lookup y.1 = some c := fun y hy e => (ok.free y hy e).elim (fun k => I.ok.has _ (.inl k)) fun k => I.ok.has _ (.inr k)
  refine comprehension_at (use := use) rfl fold (closure_ok cellOf) ok.kind (fun y hy e => (ok.uniq y hy).trans (by rw [e])) (thn (hi.run pins s σ H _ I start) fun _ s1 run1 => thn run1 fun _ s2 run2 => ?_)
  obtain ⟨it, fp, tn, J, H2, rfl, I2, T, walk2, free2, body⟩ := run2
  refine wpAny_newObj_type (newEnv_comp ?_) (by show 0 ≤ sizeLine; decide)
  obtain ⟨D, eD⟩ : ∃ D, D = s2.heap.objs.size := ⟨_, rfl⟩
  rw [← eD]
  have newD : H2 D = none := I2.hok.fresh (by rw [eD]; exact Nat.le_refl _)
  obtain ⟨s3, e3⟩ : ∃ s3 : Shared, s3 = { s2 with heap := s2.heap.push { cls := .type "list", data := .seq ([] : List Value).toArray } } := ⟨_, rfl⟩
  have heap3 : s3.heap = s2.heap.push { cls := .type "list", data := .seq ([] : List Value).toArray } := by rw [e3]
  obtain ⟨H3, eH3⟩ : ∃ H3, H3 = upd H2 D (.lst []) := ⟨_, rfl⟩
  have I3 : Inv X pins σ H3 s3 := by
    rw [e3, eH3, eD]
    exact I2.laid (t' := s2.toks) (fun b o e => Heap.get?_push_of_some _ e) (Nat.le_refl _) ⟨Nat.zero_le _, [], 0, .nil, Heap.get?_push_size _ rfl⟩
  have under : ∀ b ∈ fp, b < s2.heap.objs.size := fun b hb => let ⟨_, e, _⟩ := T.obj _ _ walk2 b hb; Heap.lt_size e
  have free3 : ∀ b ∈ fp, FpOk X pins H3 b ∧ b < s3.heap.objs.size := fun b hb => by
    have lt := under b hb
    refine ⟨⟨?_, (free2 b hb).2⟩, by rw [heap3, Heap.size_push]; exact Nat.lt_succ_of_lt lt⟩
    rw [eH3, upd_ne (by rw [eD]; exact Nat.ne_of_lt lt)]
    exact (free2 b hb).1
  have walk3 : tn 0 s3.heap := T.keep _ _ _ walk2 fun b _ o e => by rw [heap3]; exact Heap.get?_push_of_some _ e
  obtain ⟨W8, ⟨m0, w0⟩, turns⟩ := body D newD
  rw [← eH3] at w0
  have I4 := block_start I3 ok nd free3
  have goes := hg s3 H3 s3.heap.objs.size (cellsFrom (s3.heap.objs.size + 1) scope.names (cloFrom X.env.cells scope.names [])) fp
  have asks := ht s3 H3 s3.heap.objs.size (cellsFrom (s3.heap.objs.size + 1) scope.names (cloFrom X.env.cells scope.names [])) fp
  have elem := he s3 H3 s3.heap.objs.size (cellsFrom (s3.heap.objs.size + 1) scope.names (cloFrom X.env.cells scope.names [])) fp
  have shown : ({ s2 with heap := s2.heap.push { cls := .type "list", data := .seq ([] : List Value).toArray } } : Shared) = s3 := e3.symm
  rw [shown]
  show codeAny _ _ (.compStart (.ListComp elt [⟨tg, iter, ifs, 0⟩] scope pos) 0 (.ref it) (.ref D) (compEnvC scope (cellsFrom (s3.heap.objs.size + 1) scope.names (cloFrom X.env.cells scope.names [])) s3.heap.objs.size X.env)) (compEnds (model X.prog X.w) X.A X.xe use Qf (.ref D) (compEnvC scope (cellsFrom (s3.heap.objs.size + 1) scope.names (cloFrom X.env.cells scope.names [])) s3.heap.objs.size X.env)) { s3 with heap := pushCells (s3.heap.push { cls := .type "dict", data := .dict #[] }) scope.names }
  have locD : (compEnvC scope (cellsFrom (s3.heap.objs.size + 1) scope.names (cloFrom X.env.cells scope.names [])) s3.heap.objs.size X.env).locals = s3.heap.objs.size := rfl
  have frD : (compEnvC scope (cellsFrom (s3.heap.objs.size + 1) scope.names (cloFrom X.env.cells scope.names [])) s3.heap.objs.size X.env).frame = X.env.frame := rfl
  generalize compEnvC scope (cellsFrom (s3.heap.objs.size + 1) scope.names (cloFrom X.env.cells scope.names [])) s3.heap.objs.size X.env = ce at I4 goes asks elem locD frD ⊢
  have pas : Pas (blkE X s3 H3 scope ce fp (outXe X ce)) E := pas_block tk (fun cls d H e => hW cls d σ H e) hs hf frD locD I3 fun b hb => (free3 b hb).1
  have goes := goes (outXe X ce)
  have asks := asks (outXe X ce)
  have elem := elem (outXe X ce) pas
  obtain ⟨s4, e4⟩ : ∃ s4 : Shared, s4 = { s3 with heap := pushCells (s3.heap.push { cls := .type "dict", data := .dict #[] }) scope.names } := ⟨_, rfl⟩
  rw [← e4] at I4 ⊢
  have walk4 : tn 0 s4.heap := T.keep _ _ _ walk3 fun b _ o e => by rw [e4]; exact pushCells_keeps _ _ _ _ (Heap.get?_push_of_some _ e)
  have still : ∀ {σ' : L2.St} {H' : Hp} {s' : Shared}, Inv (blkE X s3 H3 scope ce fp (outXe X ce)) [] σ' H' s' → (∀ b ∈ fp, H' b = none) → ∀ b ∈ fp, FpOk (blkE X s3 H3 scope ce fp (outXe X ce)) [] H' b := fun {σ' H' s'} I' hn b hb =>
    ⟨hn b hb, (I'.ok.exf b hb).1, I'.ok.exfs b hb, .inl hb, fun x c e => (I'.ok.exf b hb).2 x c e, fun p hp => absurd (show p ∈ ([] : List (Addr × Obj)) ++ [] from hp) (by simp)⟩
  have loop : codeAny (model X.prog X.w) X.A (.compLoop (.ListComp elt [⟨tg, iter, ifs, 0⟩] scope pos) 0 (.ref it) (.ref D) ce) (compEnds (model X.prog X.w) X.A X.xe use Qf (.ref D) ce) s4 := by
    refine compLoop_any (fun n s' => ∃ i H', Inv (blkE X s3 H3 scope ce fp (outXe X ce)) [] (wipe σ (own.map (·.2))) H' s' ∧ tn i s'.heap ∧ (∀ b ∈ fp, H' b = none) ∧ W8 i n H') (fun n s5 inv5 => ?_) m0 ⟨0, H3, blkE_of I4, walk4, fun b hb => (free3 b hb).1.1, w0⟩
    obtain ⟨i, H5, I5, walk5, none5, w5⟩ := inv5
    rcases turns i n H5 w5 with ⟨stop, last⟩ | ⟨go, Nx, next, step⟩
    · refine thnF (T.done (blkE X s3 H3 scope ce fp (outXe X ce)) rfl rfl rfl calm i [] s5 _ H5 (fun _ _ => False) I5 (still I5 none5) walk5 stop) fun r s6 ⟨er, I6⟩ => ?_
      subst er
      have back : Inv X pins σ H5 s6 := I3.call' (ch := fp) I6.os I6.base I6.hok I6.bare fun b hb => let z := (free3 b hb).1; ⟨z.2.2.2.1, z.2.1, z.2.2.2.2.1, z.2.2.2.2.2⟩
      have gone : H5 ce.locals = none := I6.free
      obtain ⟨m, ns, _⟩ := I6.loc
      have ns : s6.heap.Ns ce.locals m := ns
      exact ends D ce s6 m H5 back last ns (I3.fpOk (b := ce.locals) (by rw [locD]; exact Nat.le_refl _) gone)
    · refine thnF (T.item (blkE X s3 H3 scope ce fp (outXe X ce)) rfl rfl rfl calm i [] s5 _ H5 (fun _ _ => False) I5 (still I5 none5) walk5 go) fun r s6 ⟨u, er, run6⟩ => ?_
      subst er
      refine thnF run6 fun _ s7 ⟨x, H7, I7, rx, yl, walk7, none7⟩ => ?_
      have pinned := I7.pinned (still I7 none7) (T.obj _ _ walk7)
      refine thn (goes.run _ s7 _ H7 x u _ pinned rx (step x H7 yl)) fun _ s8 ⟨σ8, H8, I8, same8, q8⟩ => ?_
      refine thn (asks.run _ s8 σ8 H8 _ I8 q8) fun b s9 ⟨H9, I9, q9⟩ => ?_
      have done : ∀ {s' : Shared} {H' : Hp}, Inv (blkE X s3 H3 scope ce fp (outXe X ce)) ([] ++ pinsAt fp s7.heap) σ8 H' s' → Nx H' → ∃ m, m < n ∧ ∃ i H', Inv (blkE X s3 H3 scope ce fp (outXe X ce)) [] (wipe σ (own.map (·.2))) H' s' ∧ tn i s'.heap ∧ (∀ b ∈ fp, H' b = none) ∧ W8 i m H' := fun {s' H'} I' nx => by
        obtain ⟨m', lt, w'⟩ := next H' nx
        have pin' : ∀ b ∈ fp, ∀ o, s7.heap.get? b = some o → s'.heap.get? b = some o ∧ H' b = none := fun b hb o e => ⟨(I'.pin (b, o) (List.mem_append_right _ (List.mem_append_right _ (mem_pinsAt hb e)))).1, (I'.pin (b, o) (List.mem_append_right _ (List.mem_append_right _ (mem_pinsAt hb e)))).2.1⟩
        refine ⟨m', lt, i + 1, H', (I'.unpinned (pins := [])).weak (by rw [← same8, wipe_length]) (fun j v e => (wipe_some (by rw [same8]; exact e)).1), T.keep _ _ _ walk7 fun b hb o e => (pin' b hb o e).1, fun b hb => ?_, w'⟩
        obtain ⟨o, e, _⟩ := T.obj _ _ walk7 b hb
        exact (pin' b hb o e).2
      cases b with
      | false =>
        rw [if_neg Bool.false_ne_true] at q9 ⊢
        exact done I9 q9
      | true =>
        rw [if_pos rfl] at q9 ⊢
        refine thn (elem.run _ s9 σ8 H9 _ I9 q9) fun z s10 ⟨yv, H10, I10, ry, acc, atD, short, nx⟩ => ?_
        exact app_ok (X := blkE X s3 H3 scope ce fp (outXe X ce)) I10 atD short ry fun s11 I11 => done I11 nx
  exact codeAny_compStart_list loop (T.self X.A 0 _ _ _ walk4 loop)
theorem pe_lcX {elt tg iter : Expr} {ifs : List Expr} {scope : Scope} {own : List (Str × Nat)} {pos : Pos} {wi : TI} {g : TG} {tt : TT} {te : TE} {W : WX} {E : XK} (tk : L2.Takes X W) (hW : ∀ cls d σ H, E cls d H → W cls d σ H) (hs : X.stack = X.env :: X.outer) (hf : X.env.frame = some X.env.locals)
    (calm : X.calm = true) (nd : X.N.Nodup)
    (hi : PI X tg iter wi) (ok : BlkOk X.N X.env.scope scope own)
    (hg : ∀ (s : Shared) (H : Hp) (C : Addr) (cl : List (Str × Addr)) (fp : List Addr) (xe : Value → Shared → Prop), PG (blkE X s H scope (compEnvC scope cl C X.env) fp xe) tg g)
    (ht : ∀ (s : Shared) (H : Hp) (C : Addr) (cl : List (Str × Addr)) (fp : List Addr) (xe : Value → Shared → Prop), PTs (blkE X s H scope (compEnvC scope cl C X.env) fp xe) ifs tt)
    (he : ∀ (s : Shared) (H : Hp) (C : Addr) (cl : List (Str × Addr)) (fp : List Addr) (xe : Value → Shared → Prop), Pas (blkE X s H scope (compEnvC scope cl C X.env) fp xe) E → PE (blkE X s H scope (compEnvC scope cl C X.env) fp xe) elt te) (fold : ∀ x, foldedSetIterable iter X.env x = pure x := by intro _; rfl) :
    PE X (.ListComp elt [⟨tg, iter, ifs, 0⟩] scope pos) (tLc wi g tt te (own.map (·.2))) := by
  refine ⟨fun pins s σ H Q I start => ?_⟩
  rw [eval_ListComp]
  refine lcX_core tk hW hs hf calm nd I hi ok hg ht he fold start fun D ce s6 m H5 back last ns f => ⟨m, ns, fun h7 only => ?_⟩
  obtain ⟨f0, f1, f2, f3, f4, f5⟩ := f
  exact ⟨.ref D, H5, back.turned (t' := s6.toks) (fun b o hb e => (only.2 b hb).trans e) f0 f1 f3 f4 f5, rfl, last⟩
/-- its list taken over by a local name of the same line -/
theorem ps_setLcX {i : Nat} {y : Str} {py : Pos} {elt tg iter : Expr} {ifs : List Expr} {scope : Scope} {own : List (Str × Nat)} {pos spos : Pos} {wi : TI} {g : TG} {tt : TT} {te : TE} {W : WX} {E : XK} (tk : L2.Takes X W) (hW : ∀ cls d σ H, E cls d H → W cls d σ H) (hs : X.stack = X.env :: X.outer) (hf : X.env.frame = some X.env.locals)
    (calm : X.calm = true) (nd : X.N.Nodup) (at_ : X.N[i]? = some y) (loc : X.env.scope.names.lookup y = some .local)
    (swaps : swapsWith (.ListComp elt [⟨tg, iter, ifs, 0⟩] scope pos) (some (.Name y py)) spos.line X.env = pure true) (hi : PI X tg iter wi) (ok : BlkOk X.N X.env.scope scope own)
    (hg : ∀ (s : Shared) (H : Hp) (C : Addr) (cl : List (Str × Addr)) (fp : List Addr) (xe : Value → Shared → Prop), PG (blkE X s H scope (compEnvC scope cl C X.env) fp xe) tg g)
    (ht : ∀ (s : Shared) (H : Hp) (C : Addr) (cl : List (Str × Addr)) (fp : List Addr) (xe : Value → Shared → Prop), PTs (blkE X s H scope (compEnvC scope cl C X.env) fp xe) ifs tt)
    (he : ∀ (s : Shared) (H : Hp) (C : Addr) (cl : List (Str × Addr)) (fp : List Addr) (xe : Value → Shared → Prop), Pas (blkE X s H scope (compEnvC scope cl C X.env) fp xe) E → PE (blkE X s H scope (compEnvC scope cl C X.env) fp xe) elt te) (fold : ∀ x, foldedSetIterable iter X.env x = pure x := by intro _; rfl) :
    PS X (.Assign [.Name y py] (.ListComp elt [⟨tg, iter, ifs, 0⟩] scope pos) spos) (tAsg (tLc wi g tt te (own.map (·.2))) (gName i)) := by
  refine ⟨fun pins s σ H D I start => ?_⟩
  rw [exec_Assign_Name_used _ _ _ _ swaps]
  refine wpAny_bind (wpAny_standAt (wpAny_bind (wpAny_bind (thn (lcX_core (Q := fun x H1 => gName i x σ H1 D.nx) (Qf := fun _ s' => SP X pins D .next s') tk hW hs hf calm nd I hi ok hg ht he fold start fun L ce s6 m H5 back last ns f => ?_) fun _ s' hq => wpAny_pure (wpAny_pure hq)))))
  refine wpAny_assign_Name (store_ok2 (v := V.ref L) back nd at_ (.inl loc) rfl (fun s2 I2 ⟨b, only, hb⟩ => ?_) (.inr loc))
  obtain ⟨f0, f1, f2, f3, f4, f5⟩ := f
  have ne : ce.locals ≠ b := by
    rcases hb with z | z
    · rw [z]; exact f1
    · exact fun e => f4 y b z e.symm
  exact ⟨m, ns.sameBut only ne, fun h3 only3 => ⟨_, H5, I2.turned (t' := s2.toks) (fun b o hb e => (only3.2 b hb).trans e) f0 f1 f3 f4 f5, last⟩⟩
end
end Odd

namespace Odd
open PySem PySem.W PyProof.Rows
abbrev rowL : PySem.W.OpenRow := PySem.W.OpenLaw.row PySem.Challenge.rw_oddcents_k01_invalid_bills_and_evenings
abbrev viewL : PySem.Program := PySem.W.view rowL.prog [0, 44]
def looseL0 : List PySem.Str := ["_wall", "__name__", "CentError", "InvalidBill", "InvalidEvening", "InvalidMark", "UnknownSeat", "OtherTable", "InvalidNumber", "is_between", "Shares", "MAX_AMOUNT", "MIN_SEAT_COUNT", "MAX_TIMES", "Bill", "Evening", "check_amount", "check_seats", "check_seat_count", "check_bills", "check_mark", "check_times", "no_shares", "seats_behind", "split_bill", "twice", "repeated", "lowest_terms", "long_run", "_law_start"]
def looseL1 : List PySem.Str := ["_law_drawn", "_law_same", "_law_outcome", "_law_rows", "_law_bill", "_law_evening", "_law_fault", "_law_is_bill", "_law_refused"]
def looseL : List PySem.Str := looseL0 ++ looseL1
local macro_rules
  | `(tactic| o_head ($k:ident $K $as $e $ts)) => do
    let no := Lean.mkIdent `no
    `(tactic| exact $no ⟨$K, $as, $e, $ts⟩)
  | `(tactic| o_head ($k:ident $K $as $e)) => `(tactic| o_head ($k $K $as $e []))
set_option maxHeartbeats 0 in
noncomputable def hkL : HK := by
  refine' fetch (r := rowL) (h := ?h) (fun no => ?g)
  case g => k_head
def runQ (b : Bool) : Prop := ∀ w : World, HandSHeadRun.RunEqI rowL viewL hkL.hook hkL.ob 20000 looseL (w.withFollow "special-get-raises" b)
set_option maxHeartbeats 0 in
theorem run0 : runQ false := by
  intro w
  unfold HandSHeadRun.RunEqI
  kernel_rfl
set_option maxHeartbeats 0 in
theorem run1 : runQ true := by
  intro w
  unfold HandSHeadRun.RunEqI
  kernel_rfl
end Odd

namespace Odd
open PySem PySem.Spec PyProof.Rows L2 LamX NdefX
def topS (i : Nat) : Stmt := PySem.Challenge.pw_oddcents_k01_invalid_bills_and_evenings.main.body.getD i (.Pass ⟨0, 0, 0, 0⟩)
abbrev s__wall : Stmt := topS 1
abbrev N__wall : List Str := ["k"]
theorem sc__wall : FnScope N__wall ["k"] (defScope s__wall) := ⟨rfl, rfl, rfl, by decide +kernel, rfl, by decide +kernel, by decide +kernel⟩
abbrev s_is_between : Stmt := topS 11
abbrev N_is_between : List Str := ["value", "low", "high"]
theorem sc_is_between : FnScope N_is_between ["value", "low", "high"] (defScope s_is_between) := ⟨rfl, rfl, rfl, by decide +kernel, rfl, by decide +kernel, by decide +kernel⟩
abbrev s_Shares__init_ : Stmt := inClass (topS 13) 0
abbrev N_Shares__init_ : List Str := ["self", "cents"]
theorem sc_Shares__init_ : FnScope N_Shares__init_ ["self", "cents"] (defScope s_Shares__init_) := ⟨rfl, rfl, rfl, by decide +kernel, rfl, by decide +kernel, by decide +kernel⟩
abbrev s_Shares_cents : Stmt := inClass (topS 13) 1
abbrev N_Shares_cents : List Str := ["self"]
theorem sc_Shares_cents : FnScope N_Shares_cents ["self"] (defScope s_Shares_cents) := ⟨rfl, rfl, rfl, by decide +kernel, rfl, by decide +kernel, by decide +kernel⟩
abbrev s_Shares_whole : Stmt := inClass (topS 13) 2
abbrev N_Shares_whole : List Str := ["self"]
theorem sc_Shares_whole : FnScope N_Shares_whole ["self"] (defScope s_Shares_whole) := ⟨rfl, rfl, rfl, by decide +kernel, rfl, by decide +kernel, by decide +kernel⟩
abbrev s_Shares__getitem_ : Stmt := inClass (topS 13) 3
abbrev N_Shares__getitem_ : List Str := ["self", "seat"]
theorem sc_Shares__getitem_ : FnScope N_Shares__getitem_ ["self", "seat"] (defScope s_Shares__getitem_) := ⟨rfl, rfl, rfl, by decide +kernel, rfl, by decide +kernel, by decide +kernel⟩
abbrev s_Shares__iter_ : Stmt := inClass (topS 13) 4
abbrev N_Shares__iter_ : List Str := ["self"]
theorem sc_Shares__iter_ : FnScope N_Shares__iter_ ["self"] (defScope s_Shares__iter_) := ⟨rfl, rfl, rfl, by decide +kernel, rfl, by decide +kernel, by decide +kernel⟩
abbrev s_Shares__len_ : Stmt := inClass (topS 13) 5
abbrev N_Shares__len_ : List Str := ["self"]
theorem sc_Shares__len_ : FnScope N_Shares__len_ ["self"] (defScope s_Shares__len_) := ⟨rfl, rfl, rfl, by decide +kernel, rfl, by decide +kernel, by decide +kernel⟩
abbrev s_Shares__eq_ : Stmt := inClass (topS 13) 6
abbrev N_Shares__eq_ : List Str := ["self", "other"]
theorem sc_Shares__eq_ : FnScope N_Shares__eq_ ["self", "other"] (defScope s_Shares__eq_) := ⟨rfl, rfl, rfl, by decide +kernel, rfl, by decide +kernel, by decide +kernel⟩
abbrev s_Shares__add_ : Stmt := inClass (topS 13) 7
abbrev N_Shares__add_ : List Str := ["self", "other", "sums", "mine", "its"]
theorem sc_Shares__add_ : FnScope N_Shares__add_ ["self", "other"] (defScope s_Shares__add_) := ⟨rfl, rfl, rfl, by decide +kernel, rfl, by decide +kernel, by decide +kernel⟩
abbrev s_Shares__sub_ : Stmt := inClass (topS 13) 8
abbrev N_Shares__sub_ : List Str := ["self", "other"]
theorem sc_Shares__sub_ : FnScope N_Shares__sub_ ["self", "other"] (defScope s_Shares__sub_) := ⟨rfl, rfl, rfl, by decide +kernel, rfl, by decide +kernel, by decide +kernel⟩
abbrev s_Shares__mul_ : Stmt := inClass (topS 13) 9
abbrev N_Shares__mul_ : List Str := ["self", "times", "products", "cents"]
theorem sc_Shares__mul_ : FnScope N_Shares__mul_ ["self", "times"] (defScope s_Shares__mul_) := ⟨rfl, rfl, rfl, by decide +kernel, rfl, by decide +kernel, by decide +kernel⟩
abbrev s_Shares__neg_ : Stmt := inClass (topS 13) 10
abbrev N_Shares__neg_ : List Str := ["self"]
theorem sc_Shares__neg_ : FnScope N_Shares__neg_ ["self"] (defScope s_Shares__neg_) := ⟨rfl, rfl, rfl, by decide +kernel, rfl, by decide +kernel, by decide +kernel⟩
abbrev s_Shares__abs_ : Stmt := inClass (topS 13) 11
abbrev N_Shares__abs_ : List Str := ["self"]
theorem sc_Shares__abs_ : FnScope N_Shares__abs_ ["self"] (defScope s_Shares__abs_) := ⟨rfl, rfl, rfl, by decide +kernel, rfl, by decide +kernel, by decide +kernel⟩
abbrev s_Bill__init_ : Stmt := inClass (topS 18) 1
abbrev N_Bill__init_ : List Str := ["self", "amount", "seats"]
theorem sc_Bill__init_ : FnScope N_Bill__init_ ["self", "amount", "seats"] (defScope s_Bill__init_) := ⟨rfl, rfl, rfl, by decide +kernel, rfl, by decide +kernel, by decide +kernel⟩
abbrev s_Bill_amount : Stmt := inClass (topS 18) 2
abbrev N_Bill_amount : List Str := ["self"]
theorem sc_Bill_amount : FnScope N_Bill_amount ["self"] (defScope s_Bill_amount) := ⟨rfl, rfl, rfl, by decide +kernel, rfl, by decide +kernel, by decide +kernel⟩
abbrev s_Bill_seats : Stmt := inClass (topS 18) 3
abbrev N_Bill_seats : List Str := ["self"]
theorem sc_Bill_seats : FnScope N_Bill_seats ["self"] (defScope s_Bill_seats) := ⟨rfl, rfl, rfl, by decide +kernel, rfl, by decide +kernel, by decide +kernel⟩
abbrev s_Bill_odd_cents : Stmt := inClass (topS 18) 4
abbrev N_Bill_odd_cents : List Str := ["self"]
theorem sc_Bill_odd_cents : FnScope N_Bill_odd_cents ["self"] (defScope s_Bill_odd_cents) := ⟨rfl, rfl, rfl, by decide +kernel, rfl, by decide +kernel, by decide +kernel⟩
abbrev s_Bill__contains_ : Stmt := inClass (topS 18) 5
abbrev N_Bill__contains_ : List Str := ["self", "seat"]
theorem sc_Bill__contains_ : FnScope N_Bill__contains_ ["self", "seat"] (defScope s_Bill__contains_) := ⟨rfl, rfl, rfl, by decide +kernel, rfl, by decide +kernel, by decide +kernel⟩
abbrev s_Evening__init_ : Stmt := inClass (topS 19) 1
abbrev N_Evening__init_ : List Str := ["self", "seat_count", "bills"]
theorem sc_Evening__init_ : FnScope N_Evening__init_ ["self", "seat_count", "bills"] (defScope s_Evening__init_) := ⟨rfl, rfl, rfl, by decide +kernel, rfl, by decide +kernel, by decide +kernel⟩
abbrev s_Evening_together : Stmt := inClass (topS 19) 2
abbrev N_Evening_together : List Str := ["cls", "seat_count", "amounts", "seats", "bills", "amount"]
theorem sc_Evening_together : FnScope N_Evening_together ["cls", "seat_count", "amounts"] (defScope s_Evening_together) := ⟨rfl, rfl, rfl, by decide +kernel, rfl, by decide +kernel, by decide +kernel⟩
abbrev s_Evening_seat_count : Stmt := inClass (topS 19) 3
abbrev N_Evening_seat_count : List Str := ["self"]
theorem sc_Evening_seat_count : FnScope N_Evening_seat_count ["self"] (defScope s_Evening_seat_count) := ⟨rfl, rfl, rfl, by decide +kernel, rfl, by decide +kernel, by decide +kernel⟩
abbrev s_Evening_bills : Stmt := inClass (topS 19) 4
abbrev N_Evening_bills : List Str := ["self"]
theorem sc_Evening_bills : FnScope N_Evening_bills ["self"] (defScope s_Evening_bills) := ⟨rfl, rfl, rfl, by decide +kernel, rfl, by decide +kernel, by decide +kernel⟩
abbrev s_Evening__call_ : Stmt := inClass (topS 19) 5
abbrev N_Evening__call_ : List Str := ["self", "mark", "shares", "bill", "part"]
theorem sc_Evening__call_ : FnScope N_Evening__call_ ["self", "mark"] (defScope s_Evening__call_) := ⟨rfl, rfl, rfl, by decide +kernel, rfl, by decide +kernel, by decide +kernel⟩
abbrev s_Evening__getitem_ : Stmt := inClass (topS 19) 6
abbrev N_Evening__getitem_ : List Str := ["self", "index"]
theorem sc_Evening__getitem_ : FnScope N_Evening__getitem_ ["self", "index"] (defScope s_Evening__getitem_) := ⟨rfl, rfl, rfl, by decide +kernel, rfl, by decide +kernel, by decide +kernel⟩
abbrev s_Evening__iter_ : Stmt := inClass (topS 19) 7
abbrev N_Evening__iter_ : List Str := ["self"]
theorem sc_Evening__iter_ : FnScope N_Evening__iter_ ["self"] (defScope s_Evening__iter_) := ⟨rfl, rfl, rfl, by decide +kernel, rfl, by decide +kernel, by decide +kernel⟩
abbrev s_Evening__len_ : Stmt := inClass (topS 19) 8
abbrev N_Evening__len_ : List Str := ["self"]
theorem sc_Evening__len_ : FnScope N_Evening__len_ ["self"] (defScope s_Evening__len_) := ⟨rfl, rfl, rfl, by decide +kernel, rfl, by decide +kernel, by decide +kernel⟩
abbrev s_Evening__bool_ : Stmt := inClass (topS 19) 9
abbrev N_Evening__bool_ : List Str := ["self"]
theorem sc_Evening__bool_ : FnScope N_Evening__bool_ ["self"] (defScope s_Evening__bool_) := ⟨rfl, rfl, rfl, by decide +kernel, rfl, by decide +kernel, by decide +kernel⟩
abbrev s_Evening__add_ : Stmt := inClass (topS 19) 10
abbrev N_Evening__add_ : List Str := ["self", "other", "bills"]
theorem sc_Evening__add_ : FnScope N_Evening__add_ ["self", "other"] (defScope s_Evening__add_) := ⟨rfl, rfl, rfl, by decide +kernel, rfl, by decide +kernel, by decide +kernel⟩
abbrev s_Evening__mul_ : Stmt := inClass (topS 19) 11
abbrev N_Evening__mul_ : List Str := ["self", "times", "bills"]
theorem sc_Evening__mul_ : FnScope N_Evening__mul_ ["self", "times"] (defScope s_Evening__mul_) := ⟨rfl, rfl, rfl, by decide +kernel, rfl, by decide +kernel, by decide +kernel⟩
abbrev s_check_amount : Stmt := topS 20
abbrev N_check_amount : List Str := ["amount"]
theorem sc_check_amount : FnScope N_check_amount ["amount"] (defScope s_check_amount) := ⟨rfl, rfl, rfl, by decide +kernel, rfl, by decide +kernel, by decide +kernel⟩
abbrev s_check_seats : Stmt := topS 21
abbrev N_check_seats : List Str := ["seats", "lowest", "index", "seat"]
theorem sc_check_seats : FnScope N_check_seats ["seats"] (defScope s_check_seats) := ⟨rfl, rfl, rfl, by decide +kernel, rfl, by decide +kernel, by decide +kernel⟩
abbrev s_check_seat_count : Stmt := topS 22
abbrev N_check_seat_count : List Str := ["seat_count"]
theorem sc_check_seat_count : FnScope N_check_seat_count ["seat_count"] (defScope s_check_seat_count) := ⟨rfl, rfl, rfl, by decide +kernel, rfl, by decide +kernel, by decide +kernel⟩
abbrev s_check_bills : Stmt := topS 23
abbrev N_check_bills : List Str := ["seat_count", "bills", "index", "bill"]
theorem sc_check_bills : FnScope N_check_bills ["seat_count", "bills"] (defScope s_check_bills) := ⟨rfl, rfl, rfl, by decide +kernel, rfl, by decide +kernel, by decide +kernel⟩
abbrev s_check_mark : Stmt := topS 24
abbrev N_check_mark : List Str := ["mark", "seat_count"]
theorem sc_check_mark : FnScope N_check_mark ["mark", "seat_count"] (defScope s_check_mark) := ⟨rfl, rfl, rfl, by decide +kernel, rfl, by decide +kernel, by decide +kernel⟩
abbrev s_check_times : Stmt := topS 25
abbrev N_check_times : List Str := ["times"]
theorem sc_check_times : FnScope N_check_times ["times"] (defScope s_check_times) := ⟨rfl, rfl, rfl, by decide +kernel, rfl, by decide +kernel, by decide +kernel⟩
abbrev s_no_shares : Stmt := topS 26
abbrev N_no_shares : List Str := ["seat_count", "cents"]
theorem sc_no_shares : FnScope N_no_shares ["seat_count"] (defScope s_no_shares) := ⟨rfl, rfl, rfl, by decide +kernel, rfl, by decide +kernel, by decide +kernel⟩
abbrev s_seats_behind : Stmt := topS 27
abbrev N_seats_behind : List Str := ["mark", "seats", "seat"]
theorem sc_seats_behind : FnScope N_seats_behind ["mark", "seats"] (defScope s_seats_behind) := ⟨rfl, rfl, rfl, by decide +kernel, rfl, by decide +kernel, by decide +kernel⟩
abbrev s_split_bill : Stmt := topS 28
abbrev N_split_bill : List Str := ["bill", "mark", "seat_count", "cents", "seat"]
theorem sc_split_bill : FnScope N_split_bill ["bill", "mark", "seat_count"] (defScope s_split_bill) := ⟨rfl, rfl, rfl, by decide +kernel, rfl, by decide +kernel, by decide +kernel⟩
abbrev s_twice : Stmt := topS 29
abbrev N_twice : List Str := ["run", "doubled", "shares", "between", "more", "mark"]
theorem sc_twice : FnScope N_twice ["run"] (defScope s_twice) := ⟨rfl, rfl, rfl, by decide +kernel, rfl, by decide +kernel, by decide +kernel⟩
abbrev s_repeated : Stmt := topS 30
abbrev N_repeated : List Str := ["evening", "mark", "times", "shares", "run", "start", "more"]
theorem sc_repeated : FnScope N_repeated ["evening", "mark", "times"] (defScope s_repeated) := ⟨rfl, rfl, rfl, by decide +kernel, rfl, by decide +kernel, by decide +kernel⟩
abbrev s_lowest_terms : Stmt := topS 31
abbrev N_lowest_terms : List Str := ["numerator", "denominator", "common"]
theorem sc_lowest_terms : FnScope N_lowest_terms ["numerator", "denominator"] (defScope s_lowest_terms) := ⟨rfl, rfl, rfl, by decide +kernel, rfl, by decide +kernel, by decide +kernel⟩
abbrev s_long_run : Stmt := topS 32
abbrev N_long_run : List Str := ["evening", "mark", "_", "start", "shares", "count", "more", "cents"]
theorem sc_long_run : FnScope N_long_run ["evening", "mark"] (defScope s_long_run) := ⟨rfl, rfl, rfl, by decide +kernel, rfl, by decide +kernel, by decide +kernel⟩
abbrev s__law_start : Stmt := topS 34
abbrev N__law_start : List Str := ["_law_script", "_law_mixed", "_law_cell"]
theorem sc__law_start : FnScope N__law_start ["_law_script"] (defScope s__law_start) := ⟨rfl, rfl, rfl, by decide +kernel, rfl, by decide +kernel, by decide +kernel⟩
abbrev s__law_drawn : Stmt := topS 35
abbrev N__law_drawn : List Str := ["_law_state", "_law_count", "_law_result", "_law_cell"]
theorem sc__law_drawn : FnScope N__law_drawn ["_law_state", "_law_count"] (defScope s__law_drawn) := ⟨rfl, rfl, rfl, by decide +kernel, rfl, by decide +kernel, by decide +kernel⟩
abbrev s__law_same : Stmt := topS 36
abbrev N__law_same : List Str := ["_law_result", "_law_expected", "_law_k"]
theorem sc__law_same : FnScope N__law_same ["_law_result", "_law_expected"] (defScope s__law_same) := ⟨rfl, rfl, rfl, by decide +kernel, rfl, by decide +kernel, by decide +kernel⟩
abbrev s__law_outcome : Stmt := topS 37
abbrev N__law_outcome : List Str := ["_law_work", "_law_e"]
theorem sc__law_outcome : FnScope N__law_outcome ["_law_work"] (defScope s__law_outcome) := ⟨rfl, rfl, rfl, by decide +kernel, rfl, by decide +kernel, by decide +kernel⟩
abbrev s__law_rows : Stmt := topS 38
abbrev N__law_rows : List Str := ["_law_state", "_law_count", "_law_most", "_law_rows_here", "_law_k", "_law_there", "_law_seat"]
theorem sc__law_rows : FnScope N__law_rows ["_law_state", "_law_count", "_law_most"] (defScope s__law_rows) := ⟨rfl, rfl, rfl, by decide +kernel, rfl, by decide +kernel, by decide +kernel⟩
abbrev s__law_bill : Stmt := topS 39
abbrev N__law_bill : List Str := ["_law_row", "_law_amount", "_law_there", "_law_result"]
theorem sc__law_bill : FnScope N__law_bill ["_law_row"] (defScope s__law_bill) := ⟨rfl, rfl, rfl, by decide +kernel, rfl, by decide +kernel, by decide +kernel⟩
abbrev s__law_evening : Stmt := topS 40
abbrev N__law_evening : List Str := ["_law_count", "_law_rows_here", "_law_result", "_law_row"]
theorem sc__law_evening : FnScope N__law_evening ["_law_count", "_law_rows_here"] (defScope s__law_evening) := ⟨rfl, rfl, rfl, by decide +kernel, rfl, by decide +kernel, by decide +kernel⟩
abbrev s__law_fault : Stmt := topS 41
abbrev N__law_fault : List Str := ["_law_amount", "_law_there", "_law_k"]
theorem sc__law_fault : FnScope N__law_fault ["_law_amount", "_law_there"] (defScope s__law_fault) := ⟨rfl, rfl, rfl, by decide +kernel, rfl, by decide +kernel, by decide +kernel⟩
abbrev s__law_is_bill : Stmt := topS 42
abbrev N__law_is_bill : List Str := ["_law_bill_here", "_law_amount", "_law_there", "_law_seat"]
theorem sc__law_is_bill : FnScope N__law_is_bill ["_law_bill_here", "_law_amount", "_law_there"] (defScope s__law_is_bill) := ⟨rfl, rfl, rfl, by decide +kernel, rfl, by decide +kernel, by decide +kernel⟩
abbrev s__law_refused : Stmt := topS 43
abbrev N__law_refused : List Str := ["_law_count", "_law_evening_here", "_law_rows_here", "_law_works", "_law_work", "_law_other"]
theorem sc__law_refused : FnScope N__law_refused ["_law_count", "_law_evening_here", "_law_rows_here"] (defScope s__law_refused) := ⟨rfl, rfl, rfl, by decide +kernel, rfl, by decide +kernel, by decide +kernel⟩
abbrev s_law : Stmt := topS 44
abbrev N_law : List Str := ["_law_script", "_law_state", "_law_turn", "_law_count", "_law_rows_here", "_law_evening_here", "_law_k", "_law_amount", "_law_there", "_law_some", "_law_expected", "_law_found", "_law_works", "_law_work", "_law_far", "_law_thirty"]
theorem sc_law : FnScope N_law ["_law_script"] (defScope s_law) := ⟨rfl, rfl, rfl, by decide +kernel, rfl, by decide +kernel, by decide +kernel⟩
abbrev s_InvalidBill__init_ : Stmt := inClass (topS 4) 0
abbrev s_InvalidEvening__init_ : Stmt := inClass (topS 5) 0
def mainF : Str := PySem.Challenge.pw_oddcents_k01_invalid_bills_and_evenings.main.file
/-- where the top has laid what the text names -/
structure Ad where
  f__wall : Addr
  f_is_between : Addr
  f_check_amount : Addr
  f_check_seats : Addr
  f_check_seat_count : Addr
  f_check_bills : Addr
  f_check_mark : Addr
  f_check_times : Addr
  f_no_shares : Addr
  f_seats_behind : Addr
  f_split_bill : Addr
  f_twice : Addr
  f_repeated : Addr
  f_lowest_terms : Addr
  f_long_run : Addr
  f__law_start : Addr
  f__law_drawn : Addr
  f__law_same : Addr
  f__law_outcome : Addr
  f__law_rows : Addr
  f__law_bill : Addr
  f__law_evening : Addr
  f__law_fault : Addr
  f__law_is_bill : Addr
  f__law_refused : Addr
  k__law_refused : Addr
  t__law_refused : Addr
  f_law : Addr
  k_law : Addr
  t_law : Addr
  c_CentError : Addr
  c_InvalidBill : Addr
  c_InvalidEvening : Addr
  c_InvalidMark : Addr
  c_UnknownSeat : Addr
  c_OtherTable : Addr
  c_InvalidNumber : Addr
  c_Shares : Addr
  f_Shares__init_ : Addr
  f_Shares_cents : Addr
  p_Shares_cents : Addr
  f_Shares_whole : Addr
  p_Shares_whole : Addr
  f_Shares__getitem_ : Addr
  f_Shares__iter_ : Addr
  f_Shares__len_ : Addr
  f_Shares__eq_ : Addr
  f_Shares__add_ : Addr
  f_Shares__sub_ : Addr
  f_Shares__mul_ : Addr
  f_Shares__neg_ : Addr
  f_Shares__abs_ : Addr
  c_Bill : Addr
  f_Bill__init_ : Addr
  f_Bill_amount : Addr
  p_Bill_amount : Addr
  f_Bill_seats : Addr
  p_Bill_seats : Addr
  f_Bill_odd_cents : Addr
  p_Bill_odd_cents : Addr
  f_Bill__contains_ : Addr
  c_Evening : Addr
  f_Evening__init_ : Addr
  f_Evening_together : Addr
  p_Evening_together : Addr
  f_Evening_seat_count : Addr
  p_Evening_seat_count : Addr
  f_Evening_bills : Addr
  p_Evening_bills : Addr
  f_Evening__call_ : Addr
  f_Evening__getitem_ : Addr
  f_Evening__iter_ : Addr
  f_Evening__len_ : Addr
  f_Evening__bool_ : Addr
  f_Evening__add_ : Addr
  f_Evening__mul_ : Addr
/-- what is true of them -/
structure Facts (K : PySem.W.Frag) (mg : Str → Option Value) (a : Ad) : Prop where
  z_TypeError : mg "TypeError" = none
  z_bool : mg "bool" = none
  z_classmethod : mg "classmethod" = none
  z_enumerate : mg "enumerate" = none
  z_int : mg "int" = none
  z_isinstance : mg "isinstance" = none
  z_len : mg "len" = none
  z_list : mg "list" = none
  z_max : mg "max" = none
  z_min : mg "min" = none
  z_property : mg "property" = none
  z_range : mg "range" = none
  z_super : mg "super" = none
  z_tuple : mg "tuple" = none
  z_zip : mg "zip" = none
  b_gcd : mg "gcd" = some (.builtin "math.gcd")
  i_MAX_AMOUNT : ∃ u, mg "MAX_AMOUNT" = some (.int 1000000000000 u)
  i_MIN_SEAT_COUNT : ∃ u, mg "MIN_SEAT_COUNT" = some (.int 2 u)
  i_MAX_TIMES : ∃ u, mg "MAX_TIMES" = some (.int 1000000000000000000 u)
  u__wall : ∃ fd, Fun K "_wall" "_wall" s__wall a.f__wall fd
  g__wall : mg "_wall" = some (.ref a.f__wall)
  u_is_between : ∃ fd, Fun K "is_between" "is_between" s_is_between a.f_is_between fd
  g_is_between : mg "is_between" = some (.ref a.f_is_between)
  u_check_amount : ∃ fd, Fun K "check_amount" "check_amount" s_check_amount a.f_check_amount fd
  g_check_amount : mg "check_amount" = some (.ref a.f_check_amount)
  u_check_seats : ∃ fd, Fun K "check_seats" "check_seats" s_check_seats a.f_check_seats fd
  g_check_seats : mg "check_seats" = some (.ref a.f_check_seats)
  u_check_seat_count : ∃ fd, Fun K "check_seat_count" "check_seat_count" s_check_seat_count a.f_check_seat_count fd
  g_check_seat_count : mg "check_seat_count" = some (.ref a.f_check_seat_count)
  u_check_bills : ∃ fd, Fun K "check_bills" "check_bills" s_check_bills a.f_check_bills fd
  g_check_bills : mg "check_bills" = some (.ref a.f_check_bills)
  u_check_mark : ∃ fd, Fun K "check_mark" "check_mark" s_check_mark a.f_check_mark fd
  g_check_mark : mg "check_mark" = some (.ref a.f_check_mark)
  u_check_times : ∃ fd, Fun K "check_times" "check_times" s_check_times a.f_check_times fd
  g_check_times : mg "check_times" = some (.ref a.f_check_times)
  u_no_shares : ∃ fd, Fun K "no_shares" "no_shares" s_no_shares a.f_no_shares fd
  g_no_shares : mg "no_shares" = some (.ref a.f_no_shares)
  u_seats_behind : ∃ fd, Fun K "seats_behind" "seats_behind" s_seats_behind a.f_seats_behind fd
  g_seats_behind : mg "seats_behind" = some (.ref a.f_seats_behind)
  u_split_bill : ∃ fd, Fun K "split_bill" "split_bill" s_split_bill a.f_split_bill fd
  g_split_bill : mg "split_bill" = some (.ref a.f_split_bill)
  u_twice : ∃ fd, Fun K "twice" "twice" s_twice a.f_twice fd
  g_twice : mg "twice" = some (.ref a.f_twice)
  u_repeated : ∃ fd, Fun K "repeated" "repeated" s_repeated a.f_repeated fd
  g_repeated : mg "repeated" = some (.ref a.f_repeated)
  u_lowest_terms : ∃ fd, Fun K "lowest_terms" "lowest_terms" s_lowest_terms a.f_lowest_terms fd
  g_lowest_terms : mg "lowest_terms" = some (.ref a.f_lowest_terms)
  u_long_run : ∃ fd, Fun K "long_run" "long_run" s_long_run a.f_long_run fd
  g_long_run : mg "long_run" = some (.ref a.f_long_run)
  u__law_start : ∃ fd, Fun K "_law_start" "_law_start" s__law_start a.f__law_start fd
  g__law_start : mg "_law_start" = some (.ref a.f__law_start)
  u__law_drawn : ∃ fd, Fun K "_law_drawn" "_law_drawn" s__law_drawn a.f__law_drawn fd
  g__law_drawn : mg "_law_drawn" = some (.ref a.f__law_drawn)
  u__law_same : ∃ fd, Fun K "_law_same" "_law_same" s__law_same a.f__law_same fd
  g__law_same : mg "_law_same" = some (.ref a.f__law_same)
  u__law_outcome : ∃ fd, Fun K "_law_outcome" "_law_outcome" s__law_outcome a.f__law_outcome fd
  g__law_outcome : mg "_law_outcome" = some (.ref a.f__law_outcome)
  u__law_rows : ∃ fd, Fun K "_law_rows" "_law_rows" s__law_rows a.f__law_rows fd
  g__law_rows : mg "_law_rows" = some (.ref a.f__law_rows)
  u__law_bill : ∃ fd, Fun K "_law_bill" "_law_bill" s__law_bill a.f__law_bill fd
  g__law_bill : mg "_law_bill" = some (.ref a.f__law_bill)
  u__law_evening : ∃ fd, Fun K "_law_evening" "_law_evening" s__law_evening a.f__law_evening fd
  g__law_evening : mg "_law_evening" = some (.ref a.f__law_evening)
  u__law_fault : ∃ fd, Fun K "_law_fault" "_law_fault" s__law_fault a.f__law_fault fd
  g__law_fault : mg "_law_fault" = some (.ref a.f__law_fault)
  u__law_is_bill : ∃ fd, Fun K "_law_is_bill" "_law_is_bill" s__law_is_bill a.f__law_is_bill fd
  g__law_is_bill : mg "_law_is_bill" = some (.ref a.f__law_is_bill)
  u__law_refused : ∃ fd, Fun K "_law_refused" "_law_refused" s__law_refused a.f__law_refused fd
  uc__law_refused : ∃ fd, Fun K "_law_refused" "_law_refused" s__law_refused a.f__law_refused fd ∧ fd.code = .ref a.k__law_refused
  hd__law_refused : PySem.W.codeHdIn K a.k__law_refused a.t__law_refused = true
  nt__law_refused : K.lookup a.t__law_refused = none
  g__law_refused : mg "_law_refused" = some (.ref a.f__law_refused)
  u_law : ∃ fd, Fun K "law" "law" s_law a.f_law fd
  uc_law : ∃ fd, Fun K "law" "law" s_law a.f_law fd ∧ fd.code = .ref a.k_law
  hd_law : PySem.W.codeHdIn K a.k_law a.t_law = true
  nt_law : K.lookup a.t_law = none
  tn__law_refused_law : a.t__law_refused ≠ a.t_law
  g_law : mg "law" = some (.ref a.f_law)
  x_CentError : ExcC K mg "CentError" a.c_CentError
  kg_InvalidBill : mg "InvalidBill" = some (.ref a.c_InvalidBill)
  kx_InvalidBill : ∃ fI cc cda, KxF K a.c_InvalidBill fI cc ⟨"__init__", "InvalidBill.__init__", defArgs s_InvalidBill__init_, defBody s_InvalidBill__init_, defScope s_InvalidBill__init_, [(("__class__" : Str), cc)], cda⟩ mainF
  kf_InvalidBill : XfC K a.c_InvalidBill
  kn_InvalidBill_index : PySem.W.findIn K (.ref a.c_InvalidBill) "index" = some none
  kg_InvalidEvening : mg "InvalidEvening" = some (.ref a.c_InvalidEvening)
  kx_InvalidEvening : ∃ fI cc cda, KxF K a.c_InvalidEvening fI cc ⟨"__init__", "InvalidEvening.__init__", defArgs s_InvalidEvening__init_, defBody s_InvalidEvening__init_, defScope s_InvalidEvening__init_, [(("__class__" : Str), cc)], cda⟩ mainF
  kf_InvalidEvening : XfC K a.c_InvalidEvening
  kn_InvalidEvening_index : PySem.W.findIn K (.ref a.c_InvalidEvening) "index" = some none
  x_InvalidMark : ExcC K mg "InvalidMark" a.c_InvalidMark
  x_UnknownSeat : ExcC K mg "UnknownSeat" a.c_UnknownSeat
  x_OtherTable : ExcC K mg "OtherTable" a.c_OtherTable
  x_InvalidNumber : ExcC K mg "InvalidNumber" a.c_InvalidNumber
  g_Shares : mg "Shares" = some (.ref a.c_Shares)
  cl_Shares : Cls K a.c_Shares
  si_Shares : SlX.SIsi K a.c_Shares
  ob_Shares : PySem.W.subIn K (.ref a.c_Shares) (.type "object") = some true
  sf_Shares : PySem.W.selfFirst K a.c_Shares = true
  kit_Shares_tuple : PySem.W.kitOne K (.type "tuple") (.ref a.c_Shares) = some false
  kit_Shares_list : PySem.W.kitOne K (.type "list") (.ref a.c_Shares) = some false
  kit_Shares_int : PySem.W.kitOne K (.type "int") (.ref a.c_Shares) = some false
  na_Shares_cents : NoAttr K a.c_Shares "_cents"
  u_Shares__init_ : ∃ fd, Fun K "__init__" "Shares.__init__" s_Shares__init_ a.f_Shares__init_ fd
  m_Shares__init_ : Meth K a.c_Shares "__init__" a.f_Shares__init_
  mk_Shares : Mk K a.c_Shares a.f_Shares__init_
  u_Shares_cents : ∃ fd, Fun K "cents" "Shares.cents" s_Shares_cents a.f_Shares_cents fd
  pr_Shares_cents : PropOf K a.c_Shares "cents" a.p_Shares_cents a.f_Shares_cents
  u_Shares_whole : ∃ fd, Fun K "whole" "Shares.whole" s_Shares_whole a.f_Shares_whole fd
  pr_Shares_whole : PropOf K a.c_Shares "whole" a.p_Shares_whole a.f_Shares_whole
  u_Shares__getitem_ : ∃ fd, Fun K "__getitem__" "Shares.__getitem__" s_Shares__getitem_ a.f_Shares__getitem_ fd
  m_Shares__getitem_ : Meth K a.c_Shares "__getitem__" a.f_Shares__getitem_
  u_Shares__iter_ : ∃ fd, Fun K "__iter__" "Shares.__iter__" s_Shares__iter_ a.f_Shares__iter_ fd
  m_Shares__iter_ : Meth K a.c_Shares "__iter__" a.f_Shares__iter_
  u_Shares__len_ : ∃ fd, Fun K "__len__" "Shares.__len__" s_Shares__len_ a.f_Shares__len_ fd
  m_Shares__len_ : Meth K a.c_Shares "__len__" a.f_Shares__len_
  u_Shares__eq_ : ∃ fd, Fun K "__eq__" "Shares.__eq__" s_Shares__eq_ a.f_Shares__eq_ fd
  m_Shares__eq_ : Meth K a.c_Shares "__eq__" a.f_Shares__eq_
  ne_Shares__eq_ : OwnNe K a.c_Shares
  u_Shares__add_ : ∃ fd, Fun K "__add__" "Shares.__add__" s_Shares__add_ a.f_Shares__add_ fd
  m_Shares__add_ : Meth K a.c_Shares "__add__" a.f_Shares__add_
  u_Shares__sub_ : ∃ fd, Fun K "__sub__" "Shares.__sub__" s_Shares__sub_ a.f_Shares__sub_ fd
  m_Shares__sub_ : Meth K a.c_Shares "__sub__" a.f_Shares__sub_
  u_Shares__mul_ : ∃ fd, Fun K "__mul__" "Shares.__mul__" s_Shares__mul_ a.f_Shares__mul_ fd
  m_Shares__mul_ : Meth K a.c_Shares "__mul__" a.f_Shares__mul_
  oi_Shares__mul_ : OpInt K a.c_Shares "__mul__" "__rmul__"
  u_Shares__neg_ : ∃ fd, Fun K "__neg__" "Shares.__neg__" s_Shares__neg_ a.f_Shares__neg_ fd
  m_Shares__neg_ : Meth K a.c_Shares "__neg__" a.f_Shares__neg_
  u_Shares__abs_ : ∃ fd, Fun K "__abs__" "Shares.__abs__" s_Shares__abs_ a.f_Shares__abs_ fd
  m_Shares__abs_ : Meth K a.c_Shares "__abs__" a.f_Shares__abs_
  g_Bill : mg "Bill" = some (.ref a.c_Bill)
  cl_Bill : Cls K a.c_Bill
  si_Bill : SlX.SIsi K a.c_Bill
  ob_Bill : PySem.W.subIn K (.ref a.c_Bill) (.type "object") = some true
  sf_Bill : PySem.W.selfFirst K a.c_Bill = true
  kit_Bill_tuple : PySem.W.kitOne K (.type "tuple") (.ref a.c_Bill) = some false
  kit_Bill_list : PySem.W.kitOne K (.type "list") (.ref a.c_Bill) = some false
  kit_Bill_int : PySem.W.kitOne K (.type "int") (.ref a.c_Bill) = some false
  na_Bill_amount : NoAttr K a.c_Bill "_amount"
  na_Bill_seats : NoAttr K a.c_Bill "_seats"
  cr_Bill : ClX.CRead K a.c_Bill (.type "type")
  cv_Bill_MAX_SEATS : ∃ u, ClX.CVal K a.c_Bill (.type "type") "MAX_SEATS" (.int 8) u
  u_Bill__init_ : ∃ fd, Fun K "__init__" "Bill.__init__" s_Bill__init_ a.f_Bill__init_ fd
  m_Bill__init_ : Meth K a.c_Bill "__init__" a.f_Bill__init_
  mk_Bill : Mk K a.c_Bill a.f_Bill__init_
  u_Bill_amount : ∃ fd, Fun K "amount" "Bill.amount" s_Bill_amount a.f_Bill_amount fd
  pr_Bill_amount : PropOf K a.c_Bill "amount" a.p_Bill_amount a.f_Bill_amount
  u_Bill_seats : ∃ fd, Fun K "seats" "Bill.seats" s_Bill_seats a.f_Bill_seats fd
  pr_Bill_seats : PropOf K a.c_Bill "seats" a.p_Bill_seats a.f_Bill_seats
  u_Bill_odd_cents : ∃ fd, Fun K "odd_cents" "Bill.odd_cents" s_Bill_odd_cents a.f_Bill_odd_cents fd
  pr_Bill_odd_cents : PropOf K a.c_Bill "odd_cents" a.p_Bill_odd_cents a.f_Bill_odd_cents
  u_Bill__contains_ : ∃ fd, Fun K "__contains__" "Bill.__contains__" s_Bill__contains_ a.f_Bill__contains_ fd
  m_Bill__contains_ : Meth K a.c_Bill "__contains__" a.f_Bill__contains_
  g_Evening : mg "Evening" = some (.ref a.c_Evening)
  cl_Evening : Cls K a.c_Evening
  si_Evening : SlX.SIsi K a.c_Evening
  ob_Evening : PySem.W.subIn K (.ref a.c_Evening) (.type "object") = some true
  sf_Evening : PySem.W.selfFirst K a.c_Evening = true
  kit_Evening_tuple : PySem.W.kitOne K (.type "tuple") (.ref a.c_Evening) = some false
  kit_Evening_list : PySem.W.kitOne K (.type "list") (.ref a.c_Evening) = some false
  kit_Evening_int : PySem.W.kitOne K (.type "int") (.ref a.c_Evening) = some false
  na_Evening_seat_count : NoAttr K a.c_Evening "_seat_count"
  na_Evening_bills : NoAttr K a.c_Evening "_bills"
  cr_Evening : ClX.CRead K a.c_Evening (.type "type")
  cv_Evening_MAX_BILLS : ∃ u, ClX.CVal K a.c_Evening (.type "type") "MAX_BILLS" (.int 30) u
  u_Evening__init_ : ∃ fd, Fun K "__init__" "Evening.__init__" s_Evening__init_ a.f_Evening__init_ fd
  m_Evening__init_ : Meth K a.c_Evening "__init__" a.f_Evening__init_
  mk_Evening : Mk K a.c_Evening a.f_Evening__init_
  u_Evening_together : ∃ fd, Fun K "together" "Evening.together" s_Evening_together a.f_Evening_together fd
  cm_Evening_together : ClX.CMet K a.c_Evening (.type "type") "together" a.p_Evening_together a.f_Evening_together
  u_Evening_seat_count : ∃ fd, Fun K "seat_count" "Evening.seat_count" s_Evening_seat_count a.f_Evening_seat_count fd
  pr_Evening_seat_count : PropOf K a.c_Evening "seat_count" a.p_Evening_seat_count a.f_Evening_seat_count
  u_Evening_bills : ∃ fd, Fun K "bills" "Evening.bills" s_Evening_bills a.f_Evening_bills fd
  pr_Evening_bills : PropOf K a.c_Evening "bills" a.p_Evening_bills a.f_Evening_bills
  u_Evening__call_ : ∃ fd, Fun K "__call__" "Evening.__call__" s_Evening__call_ a.f_Evening__call_ fd
  m_Evening__call_ : Meth K a.c_Evening "__call__" a.f_Evening__call_
  co_Evening : StX.CallO K a.c_Evening a.f_Evening__call_
  u_Evening__getitem_ : ∃ fd, Fun K "__getitem__" "Evening.__getitem__" s_Evening__getitem_ a.f_Evening__getitem_ fd
  m_Evening__getitem_ : Meth K a.c_Evening "__getitem__" a.f_Evening__getitem_
  u_Evening__iter_ : ∃ fd, Fun K "__iter__" "Evening.__iter__" s_Evening__iter_ a.f_Evening__iter_ fd
  m_Evening__iter_ : Meth K a.c_Evening "__iter__" a.f_Evening__iter_
  u_Evening__len_ : ∃ fd, Fun K "__len__" "Evening.__len__" s_Evening__len_ a.f_Evening__len_ fd
  m_Evening__len_ : Meth K a.c_Evening "__len__" a.f_Evening__len_
  u_Evening__bool_ : ∃ fd, Fun K "__bool__" "Evening.__bool__" s_Evening__bool_ a.f_Evening__bool_ fd
  m_Evening__bool_ : Meth K a.c_Evening "__bool__" a.f_Evening__bool_
  u_Evening__add_ : ∃ fd, Fun K "__add__" "Evening.__add__" s_Evening__add_ a.f_Evening__add_ fd
  m_Evening__add_ : Meth K a.c_Evening "__add__" a.f_Evening__add_
  u_Evening__mul_ : ∃ fd, Fun K "__mul__" "Evening.__mul__" s_Evening__mul_ a.f_Evening__mul_ fd
  m_Evening__mul_ : Meth K a.c_Evening "__mul__" a.f_Evening__mul_
  oi_Evening__mul_ : OpInt K a.c_Evening "__mul__" "__rmul__"
  ex_CentError_InvalidBill : PySem.W.exmOne K (.ref a.c_CentError) (.ref a.c_InvalidBill) = some false
  ex_InvalidBill_InvalidBill : PySem.W.exmOne K (.ref a.c_InvalidBill) (.ref a.c_InvalidBill) = some true
  ex_InvalidEvening_InvalidBill : PySem.W.exmOne K (.ref a.c_InvalidEvening) (.ref a.c_InvalidBill) = some false
  ex_InvalidMark_InvalidBill : PySem.W.exmOne K (.ref a.c_InvalidMark) (.ref a.c_InvalidBill) = some false
  ex_UnknownSeat_InvalidBill : PySem.W.exmOne K (.ref a.c_UnknownSeat) (.ref a.c_InvalidBill) = some false
  ex_OtherTable_InvalidBill : PySem.W.exmOne K (.ref a.c_OtherTable) (.ref a.c_InvalidBill) = some false
  ex_InvalidNumber_InvalidBill : PySem.W.exmOne K (.ref a.c_InvalidNumber) (.ref a.c_InvalidBill) = some false
  ex_CentError_InvalidEvening : PySem.W.exmOne K (.ref a.c_CentError) (.ref a.c_InvalidEvening) = some false
  ex_InvalidBill_InvalidEvening : PySem.W.exmOne K (.ref a.c_InvalidBill) (.ref a.c_InvalidEvening) = some false
  ex_InvalidEvening_InvalidEvening : PySem.W.exmOne K (.ref a.c_InvalidEvening) (.ref a.c_InvalidEvening) = some true
  ex_InvalidMark_InvalidEvening : PySem.W.exmOne K (.ref a.c_InvalidMark) (.ref a.c_InvalidEvening) = some false
  ex_UnknownSeat_InvalidEvening : PySem.W.exmOne K (.ref a.c_UnknownSeat) (.ref a.c_InvalidEvening) = some false
  ex_OtherTable_InvalidEvening : PySem.W.exmOne K (.ref a.c_OtherTable) (.ref a.c_InvalidEvening) = some false
  ex_InvalidNumber_InvalidEvening : PySem.W.exmOne K (.ref a.c_InvalidNumber) (.ref a.c_InvalidEvening) = some false
  ex_CentError_InvalidMark : PySem.W.exmOne K (.ref a.c_CentError) (.ref a.c_InvalidMark) = some false
  ex_InvalidBill_InvalidMark : PySem.W.exmOne K (.ref a.c_InvalidBill) (.ref a.c_InvalidMark) = some false
  ex_InvalidEvening_InvalidMark : PySem.W.exmOne K (.ref a.c_InvalidEvening) (.ref a.c_InvalidMark) = some false
  ex_InvalidMark_InvalidMark : PySem.W.exmOne K (.ref a.c_InvalidMark) (.ref a.c_InvalidMark) = some true
  ex_UnknownSeat_InvalidMark : PySem.W.exmOne K (.ref a.c_UnknownSeat) (.ref a.c_InvalidMark) = some false
  ex_OtherTable_InvalidMark : PySem.W.exmOne K (.ref a.c_OtherTable) (.ref a.c_InvalidMark) = some false
  ex_InvalidNumber_InvalidMark : PySem.W.exmOne K (.ref a.c_InvalidNumber) (.ref a.c_InvalidMark) = some false
  ex_CentError_InvalidNumber : PySem.W.exmOne K (.ref a.c_CentError) (.ref a.c_InvalidNumber) = some false
  ex_InvalidBill_InvalidNumber : PySem.W.exmOne K (.ref a.c_InvalidBill) (.ref a.c_InvalidNumber) = some false
  ex_InvalidEvening_InvalidNumber : PySem.W.exmOne K (.ref a.c_InvalidEvening) (.ref a.c_InvalidNumber) = some false
  ex_InvalidMark_InvalidNumber : PySem.W.exmOne K (.ref a.c_InvalidMark) (.ref a.c_InvalidNumber) = some false
  ex_UnknownSeat_InvalidNumber : PySem.W.exmOne K (.ref a.c_UnknownSeat) (.ref a.c_InvalidNumber) = some false
  ex_OtherTable_InvalidNumber : PySem.W.exmOne K (.ref a.c_OtherTable) (.ref a.c_InvalidNumber) = some false
  ex_InvalidNumber_InvalidNumber : PySem.W.exmOne K (.ref a.c_InvalidNumber) (.ref a.c_InvalidNumber) = some true
  ex_CentError_OtherTable : PySem.W.exmOne K (.ref a.c_CentError) (.ref a.c_OtherTable) = some false
  ex_InvalidBill_OtherTable : PySem.W.exmOne K (.ref a.c_InvalidBill) (.ref a.c_OtherTable) = some false
  ex_InvalidEvening_OtherTable : PySem.W.exmOne K (.ref a.c_InvalidEvening) (.ref a.c_OtherTable) = some false
  ex_InvalidMark_OtherTable : PySem.W.exmOne K (.ref a.c_InvalidMark) (.ref a.c_OtherTable) = some false
  ex_UnknownSeat_OtherTable : PySem.W.exmOne K (.ref a.c_UnknownSeat) (.ref a.c_OtherTable) = some false
  ex_OtherTable_OtherTable : PySem.W.exmOne K (.ref a.c_OtherTable) (.ref a.c_OtherTable) = some true
  ex_InvalidNumber_OtherTable : PySem.W.exmOne K (.ref a.c_InvalidNumber) (.ref a.c_OtherTable) = some false
theorem all_mk {K : PySem.W.Frag} {h : Heap} {mg : Str → Option Value} {f__wall f_is_between f_check_amount f_check_seats f_check_seat_count f_check_bills f_check_mark f_check_times f_no_shares f_seats_behind f_split_bill f_twice f_repeated f_lowest_terms f_long_run f__law_start f__law_drawn f__law_same f__law_outcome f__law_rows f__law_bill f__law_evening f__law_fault f__law_is_bill f__law_refused k__law_refused t__law_refused f_law k_law t_law c_CentError c_InvalidBill c_InvalidEvening c_InvalidMark c_UnknownSeat c_OtherTable c_InvalidNumber c_Shares f_Shares__init_ f_Shares_cents p_Shares_cents f_Shares_whole p_Shares_whole f_Shares__getitem_ f_Shares__iter_ f_Shares__len_ f_Shares__eq_ f_Shares__add_ f_Shares__sub_ f_Shares__mul_ f_Shares__neg_ f_Shares__abs_ c_Bill f_Bill__init_ f_Bill_amount p_Bill_amount f_Bill_seats p_Bill_seats f_Bill_odd_cents p_Bill_odd_cents f_Bill__contains_ c_Evening f_Evening__init_ f_Evening_together p_Evening_together f_Evening_seat_count p_Evening_seat_count f_Evening_bills p_Evening_bills f_Evening__call_ f_Evening__getitem_ f_Evening__iter_ f_Evening__len_ f_Evening__bool_ f_Evening__add_ f_Evening__mul_ : Addr} (X : K.In h) (G : h.Ns mainGlobals mg)
    {tk_MAX_AMOUNT : Tok}
    {tk_MIN_SEAT_COUNT : Tok}
    {tk_MAX_TIMES : Tok}
    {od1 an1 : Option Addr} {sl1 : Array (Option Value)} {oc1 kV1 dc1 pm1 cd1 ct1 : Value}
    {od2 an2 : Option Addr} {sl2 : Array (Option Value)} {oc2 kV2 dc2 pm2 cd2 ct2 : Value}
    {od3 an3 : Option Addr} {sl3 : Array (Option Value)} {oc3 kV3 dc3 pm3 cd3 ct3 : Value}
    {od4 an4 : Option Addr} {sl4 : Array (Option Value)} {oc4 kV4 dc4 pm4 cd4 ct4 : Value}
    {od5 an5 : Option Addr} {sl5 : Array (Option Value)} {oc5 kV5 dc5 pm5 cd5 ct5 : Value}
    {od6 an6 : Option Addr} {sl6 : Array (Option Value)} {oc6 kV6 dc6 pm6 cd6 ct6 : Value}
    {od7 an7 : Option Addr} {sl7 : Array (Option Value)} {oc7 kV7 dc7 pm7 cd7 ct7 : Value}
    {od8 an8 : Option Addr} {sl8 : Array (Option Value)} {oc8 kV8 dc8 pm8 cd8 ct8 : Value}
    {od9 an9 : Option Addr} {sl9 : Array (Option Value)} {oc9 kV9 dc9 pm9 cd9 ct9 : Value}
    {od10 an10 : Option Addr} {sl10 : Array (Option Value)} {oc10 kV10 dc10 pm10 cd10 ct10 : Value}
    {od11 an11 : Option Addr} {sl11 : Array (Option Value)} {oc11 kV11 dc11 pm11 cd11 ct11 : Value}
    {od12 an12 : Option Addr} {sl12 : Array (Option Value)} {oc12 kV12 dc12 pm12 cd12 ct12 : Value}
    {od13 an13 : Option Addr} {sl13 : Array (Option Value)} {oc13 kV13 dc13 pm13 cd13 ct13 : Value}
    {od14 an14 : Option Addr} {sl14 : Array (Option Value)} {oc14 kV14 dc14 pm14 cd14 ct14 : Value}
    {od15 an15 : Option Addr} {sl15 : Array (Option Value)} {oc15 kV15 dc15 pm15 cd15 ct15 : Value}
    {od16 an16 : Option Addr} {sl16 : Array (Option Value)} {oc16 kV16 dc16 pm16 cd16 ct16 : Value}
    {od17 an17 : Option Addr} {sl17 : Array (Option Value)} {oc17 kV17 dc17 pm17 cd17 ct17 : Value}
    {od18 an18 : Option Addr} {sl18 : Array (Option Value)} {oc18 kV18 dc18 pm18 cd18 ct18 : Value}
    {od19 an19 : Option Addr} {sl19 : Array (Option Value)} {oc19 kV19 dc19 pm19 cd19 ct19 : Value}
    {od20 an20 : Option Addr} {sl20 : Array (Option Value)} {oc20 kV20 dc20 pm20 cd20 ct20 : Value}
    {od21 an21 : Option Addr} {sl21 : Array (Option Value)} {oc21 kV21 dc21 pm21 cd21 ct21 : Value}
    {od22 an22 : Option Addr} {sl22 : Array (Option Value)} {oc22 kV22 dc22 pm22 cd22 ct22 : Value}
    {od23 an23 : Option Addr} {sl23 : Array (Option Value)} {oc23 kV23 dc23 pm23 cd23 ct23 : Value}
    {od24 an24 : Option Addr} {sl24 : Array (Option Value)} {oc24 kV24 dc24 pm24 cd24 ct24 : Value}
    {od25 an25 : Option Addr} {sl25 : Array (Option Value)} {oc25 kV25 dc25 pm25 ct25 : Value} {cod25 : Option Addr} {cvs25 : Array Value} {csl25 : Array (Option Value)}
    {od26 an26 : Option Addr} {sl26 : Array (Option Value)} {oc26 kV26 dc26 pm26 ct26 : Value} {cod26 : Option Addr} {cvs26 : Array Value} {csl26 : Array (Option Value)}
    {nm_InvalidBill qn_InvalidBill : Str} {N_InvalidBill fI_InvalidBill cc_InvalidBill cda_InvalidBill : Addr} {bs_InvalidBill bm_InvalidBill sub_InvalidBill : List Value} {sn_InvalidBill : List Str} {ab_InvalidBill : Bool} {col_InvalidBill : Option Bool} {dd_InvalidBill od_InvalidBill an_InvalidBill cdd_InvalidBill ccd_InvalidBill : Option Addr} {k0_InvalidBill k1_InvalidBill k2_InvalidBill k3_InvalidBill k5_InvalidBill : Option Value} {oc_InvalidBill dc_InvalidBill pm_InvalidBill ct_InvalidBill ccl_InvalidBill cco_InvalidBill : Value} {osl_InvalidBill ccs_InvalidBill ccq_InvalidBill : Array (Option Value)} {vs_InvalidBill : Array Value} {tf_InvalidBill : Tok}
    {nm_InvalidEvening qn_InvalidEvening : Str} {N_InvalidEvening fI_InvalidEvening cc_InvalidEvening cda_InvalidEvening : Addr} {bs_InvalidEvening bm_InvalidEvening sub_InvalidEvening : List Value} {sn_InvalidEvening : List Str} {ab_InvalidEvening : Bool} {col_InvalidEvening : Option Bool} {dd_InvalidEvening od_InvalidEvening an_InvalidEvening cdd_InvalidEvening ccd_InvalidEvening : Option Addr} {k0_InvalidEvening k1_InvalidEvening k2_InvalidEvening k3_InvalidEvening k5_InvalidEvening : Option Value} {oc_InvalidEvening dc_InvalidEvening pm_InvalidEvening ct_InvalidEvening ccl_InvalidEvening cco_InvalidEvening : Value} {osl_InvalidEvening ccs_InvalidEvening ccq_InvalidEvening : Array (Option Value)} {vs_InvalidEvening : Array Value} {tf_InvalidEvening : Tok}
    {od27 an27 : Option Addr} {sl27 : Array (Option Value)} {oc27 kV27 dc27 pm27 cd27 ct27 : Value}
    {rs_Shares_cents : List Value}
    {od28 an28 : Option Addr} {sl28 : Array (Option Value)} {oc28 kV28 dc28 pm28 cd28 ct28 : Value}
    {rs_Shares_whole : List Value}
    {od29 an29 : Option Addr} {sl29 : Array (Option Value)} {oc29 kV29 dc29 pm29 cd29 ct29 : Value}
    {od30 an30 : Option Addr} {sl30 : Array (Option Value)} {oc30 kV30 dc30 pm30 cd30 ct30 : Value}
    {od31 an31 : Option Addr} {sl31 : Array (Option Value)} {oc31 kV31 dc31 pm31 cd31 ct31 : Value}
    {od32 an32 : Option Addr} {sl32 : Array (Option Value)} {oc32 kV32 dc32 pm32 cd32 ct32 : Value}
    {od33 an33 : Option Addr} {sl33 : Array (Option Value)} {oc33 kV33 dc33 pm33 cd33 ct33 : Value}
    {od34 an34 : Option Addr} {sl34 : Array (Option Value)} {oc34 kV34 dc34 pm34 cd34 ct34 : Value}
    {od35 an35 : Option Addr} {sl35 : Array (Option Value)} {oc35 kV35 dc35 pm35 cd35 ct35 : Value}
    {od36 an36 : Option Addr} {sl36 : Array (Option Value)} {oc36 kV36 dc36 pm36 cd36 ct36 : Value}
    {fo_Shares__mul_ ro_Shares__mul_ : Option Value}
    {od37 an37 : Option Addr} {sl37 : Array (Option Value)} {oc37 kV37 dc37 pm37 cd37 ct37 : Value}
    {od38 an38 : Option Addr} {sl38 : Array (Option Value)} {oc38 kV38 dc38 pm38 cd38 ct38 : Value}
    {tk_Bill_MAX_SEATS : Tok}
    {od39 an39 : Option Addr} {sl39 : Array (Option Value)} {oc39 kV39 dc39 pm39 cd39 ct39 : Value}
    {rs_Bill_amount : List Value}
    {od40 an40 : Option Addr} {sl40 : Array (Option Value)} {oc40 kV40 dc40 pm40 cd40 ct40 : Value}
    {rs_Bill_seats : List Value}
    {od41 an41 : Option Addr} {sl41 : Array (Option Value)} {oc41 kV41 dc41 pm41 cd41 ct41 : Value}
    {rs_Bill_odd_cents : List Value}
    {od42 an42 : Option Addr} {sl42 : Array (Option Value)} {oc42 kV42 dc42 pm42 cd42 ct42 : Value}
    {od43 an43 : Option Addr} {sl43 : Array (Option Value)} {oc43 kV43 dc43 pm43 cd43 ct43 : Value}
    {tk_Evening_MAX_BILLS : Tok}
    {od44 an44 : Option Addr} {sl44 : Array (Option Value)} {oc44 kV44 dc44 pm44 cd44 ct44 : Value}
    {rs_Evening_together : List Value}
    {od45 an45 : Option Addr} {sl45 : Array (Option Value)} {oc45 kV45 dc45 pm45 cd45 ct45 : Value}
    {rs_Evening_seat_count : List Value}
    {od46 an46 : Option Addr} {sl46 : Array (Option Value)} {oc46 kV46 dc46 pm46 cd46 ct46 : Value}
    {rs_Evening_bills : List Value}
    {od47 an47 : Option Addr} {sl47 : Array (Option Value)} {oc47 kV47 dc47 pm47 cd47 ct47 : Value}
    {od48 an48 : Option Addr} {sl48 : Array (Option Value)} {oc48 kV48 dc48 pm48 cd48 ct48 : Value}
    {od49 an49 : Option Addr} {sl49 : Array (Option Value)} {oc49 kV49 dc49 pm49 cd49 ct49 : Value}
    {od50 an50 : Option Addr} {sl50 : Array (Option Value)} {oc50 kV50 dc50 pm50 cd50 ct50 : Value}
    {od51 an51 : Option Addr} {sl51 : Array (Option Value)} {oc51 kV51 dc51 pm51 cd51 ct51 : Value}
    {od52 an52 : Option Addr} {sl52 : Array (Option Value)} {oc52 kV52 dc52 pm52 cd52 ct52 : Value}
    {od53 an53 : Option Addr} {sl53 : Array (Option Value)} {oc53 kV53 dc53 pm53 cd53 ct53 : Value}
    {od54 an54 : Option Addr} {sl54 : Array (Option Value)} {oc54 kV54 dc54 pm54 cd54 ct54 : Value}
    {fo_Evening__mul_ ro_Evening__mul_ : Option Value}
    (z_TypeError : PySem.W.nsIn K mainGlobals "TypeError" = some none)
    (z_bool : PySem.W.nsIn K mainGlobals "bool" = some none)
    (z_classmethod : PySem.W.nsIn K mainGlobals "classmethod" = some none)
    (z_enumerate : PySem.W.nsIn K mainGlobals "enumerate" = some none)
    (z_int : PySem.W.nsIn K mainGlobals "int" = some none)
    (z_isinstance : PySem.W.nsIn K mainGlobals "isinstance" = some none)
    (z_len : PySem.W.nsIn K mainGlobals "len" = some none)
    (z_list : PySem.W.nsIn K mainGlobals "list" = some none)
    (z_max : PySem.W.nsIn K mainGlobals "max" = some none)
    (z_min : PySem.W.nsIn K mainGlobals "min" = some none)
    (z_property : PySem.W.nsIn K mainGlobals "property" = some none)
    (z_range : PySem.W.nsIn K mainGlobals "range" = some none)
    (z_super : PySem.W.nsIn K mainGlobals "super" = some none)
    (z_tuple : PySem.W.nsIn K mainGlobals "tuple" = some none)
    (z_zip : PySem.W.nsIn K mainGlobals "zip" = some none)
    (b_gcd : PySem.W.nsIn K mainGlobals "gcd" = some (some (.builtin "math.gcd")))
    (g_MAX_AMOUNT : PySem.W.nsIn K mainGlobals "MAX_AMOUNT" = some (some (.int 1000000000000 tk_MAX_AMOUNT)))
    (g_MIN_SEAT_COUNT : PySem.W.nsIn K mainGlobals "MIN_SEAT_COUNT" = some (some (.int 2 tk_MIN_SEAT_COUNT)))
    (g_MAX_TIMES : PySem.W.nsIn K mainGlobals "MAX_TIMES" = some (some (.int 1000000000000000000 tk_MAX_TIMES)))
    (g__wall : PySem.W.nsIn K mainGlobals "_wall" = some (some (.ref f__wall)))
    (l1 : K.lookup f__wall = some ⟨oc1, od1, .func (PySem.W.fnOf "_wall" "_wall" (defArgs s__wall) (defBody s__wall) (defScope s__wall) .none kV1 dc1 pm1 an1 cd1 ct1), sl1⟩)
    (c1 : PySem.W.codeIn K cd1 "_wall" = true)
    (k1 : PySem.W.keepIn K (.ref f__wall) = true)
    (g_is_between : PySem.W.nsIn K mainGlobals "is_between" = some (some (.ref f_is_between)))
    (l2 : K.lookup f_is_between = some ⟨oc2, od2, .func (PySem.W.fnOf "is_between" "is_between" (defArgs s_is_between) (defBody s_is_between) (defScope s_is_between) .none kV2 dc2 pm2 an2 cd2 ct2), sl2⟩)
    (c2 : PySem.W.codeIn K cd2 "is_between" = true)
    (k2 : PySem.W.keepIn K (.ref f_is_between) = true)
    (g_check_amount : PySem.W.nsIn K mainGlobals "check_amount" = some (some (.ref f_check_amount)))
    (l3 : K.lookup f_check_amount = some ⟨oc3, od3, .func (PySem.W.fnOf "check_amount" "check_amount" (defArgs s_check_amount) (defBody s_check_amount) (defScope s_check_amount) .none kV3 dc3 pm3 an3 cd3 ct3), sl3⟩)
    (c3 : PySem.W.codeIn K cd3 "check_amount" = true)
    (k3 : PySem.W.keepIn K (.ref f_check_amount) = true)
    (g_check_seats : PySem.W.nsIn K mainGlobals "check_seats" = some (some (.ref f_check_seats)))
    (l4 : K.lookup f_check_seats = some ⟨oc4, od4, .func (PySem.W.fnOf "check_seats" "check_seats" (defArgs s_check_seats) (defBody s_check_seats) (defScope s_check_seats) .none kV4 dc4 pm4 an4 cd4 ct4), sl4⟩)
    (c4 : PySem.W.codeIn K cd4 "check_seats" = true)
    (k4 : PySem.W.keepIn K (.ref f_check_seats) = true)
    (g_check_seat_count : PySem.W.nsIn K mainGlobals "check_seat_count" = some (some (.ref f_check_seat_count)))
    (l5 : K.lookup f_check_seat_count = some ⟨oc5, od5, .func (PySem.W.fnOf "check_seat_count" "check_seat_count" (defArgs s_check_seat_count) (defBody s_check_seat_count) (defScope s_check_seat_count) .none kV5 dc5 pm5 an5 cd5 ct5), sl5⟩)
    (c5 : PySem.W.codeIn K cd5 "check_seat_count" = true)
    (k5 : PySem.W.keepIn K (.ref f_check_seat_count) = true)
    (g_check_bills : PySem.W.nsIn K mainGlobals "check_bills" = some (some (.ref f_check_bills)))
    (l6 : K.lookup f_check_bills = some ⟨oc6, od6, .func (PySem.W.fnOf "check_bills" "check_bills" (defArgs s_check_bills) (defBody s_check_bills) (defScope s_check_bills) .none kV6 dc6 pm6 an6 cd6 ct6), sl6⟩)
    (c6 : PySem.W.codeIn K cd6 "check_bills" = true)
    (k6 : PySem.W.keepIn K (.ref f_check_bills) = true)
    (g_check_mark : PySem.W.nsIn K mainGlobals "check_mark" = some (some (.ref f_check_mark)))
    (l7 : K.lookup f_check_mark = some ⟨oc7, od7, .func (PySem.W.fnOf "check_mark" "check_mark" (defArgs s_check_mark) (defBody s_check_mark) (defScope s_check_mark) .none kV7 dc7 pm7 an7 cd7 ct7), sl7⟩)
    (c7 : PySem.W.codeIn K cd7 "check_mark" = true)
    (k7 : PySem.W.keepIn K (.ref f_check_mark) = true)
    (g_check_times : PySem.W.nsIn K mainGlobals "check_times" = some (some (.ref f_check_times)))
    (l8 : K.lookup f_check_times = some ⟨oc8, od8, .func (PySem.W.fnOf "check_times" "check_times" (defArgs s_check_times) (defBody s_check_times) (defScope s_check_times) .none kV8 dc8 pm8 an8 cd8 ct8), sl8⟩)
    (c8 : PySem.W.codeIn K cd8 "check_times" = true)
    (k8 : PySem.W.keepIn K (.ref f_check_times) = true)
    (g_no_shares : PySem.W.nsIn K mainGlobals "no_shares" = some (some (.ref f_no_shares)))
    (l9 : K.lookup f_no_shares = some ⟨oc9, od9, .func (PySem.W.fnOf "no_shares" "no_shares" (defArgs s_no_shares) (defBody s_no_shares) (defScope s_no_shares) .none kV9 dc9 pm9 an9 cd9 ct9), sl9⟩)
    (c9 : PySem.W.codeIn K cd9 "no_shares" = true)
    (k9 : PySem.W.keepIn K (.ref f_no_shares) = true)
    (g_seats_behind : PySem.W.nsIn K mainGlobals "seats_behind" = some (some (.ref f_seats_behind)))
    (l10 : K.lookup f_seats_behind = some ⟨oc10, od10, .func (PySem.W.fnOf "seats_behind" "seats_behind" (defArgs s_seats_behind) (defBody s_seats_behind) (defScope s_seats_behind) .none kV10 dc10 pm10 an10 cd10 ct10), sl10⟩)
    (c10 : PySem.W.codeIn K cd10 "seats_behind" = true)
    (k10 : PySem.W.keepIn K (.ref f_seats_behind) = true)
    (g_split_bill : PySem.W.nsIn K mainGlobals "split_bill" = some (some (.ref f_split_bill)))
    (l11 : K.lookup f_split_bill = some ⟨oc11, od11, .func (PySem.W.fnOf "split_bill" "split_bill" (defArgs s_split_bill) (defBody s_split_bill) (defScope s_split_bill) .none kV11 dc11 pm11 an11 cd11 ct11), sl11⟩)
    (c11 : PySem.W.codeIn K cd11 "split_bill" = true)
    (k11 : PySem.W.keepIn K (.ref f_split_bill) = true)
    (g_twice : PySem.W.nsIn K mainGlobals "twice" = some (some (.ref f_twice)))
    (l12 : K.lookup f_twice = some ⟨oc12, od12, .func (PySem.W.fnOf "twice" "twice" (defArgs s_twice) (defBody s_twice) (defScope s_twice) .none kV12 dc12 pm12 an12 cd12 ct12), sl12⟩)
    (c12 : PySem.W.codeIn K cd12 "twice" = true)
    (k12 : PySem.W.keepIn K (.ref f_twice) = true)
    (g_repeated : PySem.W.nsIn K mainGlobals "repeated" = some (some (.ref f_repeated)))
    (l13 : K.lookup f_repeated = some ⟨oc13, od13, .func (PySem.W.fnOf "repeated" "repeated" (defArgs s_repeated) (defBody s_repeated) (defScope s_repeated) .none kV13 dc13 pm13 an13 cd13 ct13), sl13⟩)
    (c13 : PySem.W.codeIn K cd13 "repeated" = true)
    (k13 : PySem.W.keepIn K (.ref f_repeated) = true)
    (g_lowest_terms : PySem.W.nsIn K mainGlobals "lowest_terms" = some (some (.ref f_lowest_terms)))
    (l14 : K.lookup f_lowest_terms = some ⟨oc14, od14, .func (PySem.W.fnOf "lowest_terms" "lowest_terms" (defArgs s_lowest_terms) (defBody s_lowest_terms) (defScope s_lowest_terms) .none kV14 dc14 pm14 an14 cd14 ct14), sl14⟩)
    (c14 : PySem.W.codeIn K cd14 "lowest_terms" = true)
    (k14 : PySem.W.keepIn K (.ref f_lowest_terms) = true)
    (g_long_run : PySem.W.nsIn K mainGlobals "long_run" = some (some (.ref f_long_run)))
    (l15 : K.lookup f_long_run = some ⟨oc15, od15, .func (PySem.W.fnOf "long_run" "long_run" (defArgs s_long_run) (defBody s_long_run) (defScope s_long_run) .none kV15 dc15 pm15 an15 cd15 ct15), sl15⟩)
    (c15 : PySem.W.codeIn K cd15 "long_run" = true)
    (k15 : PySem.W.keepIn K (.ref f_long_run) = true)
    (g__law_start : PySem.W.nsIn K mainGlobals "_law_start" = some (some (.ref f__law_start)))
    (l16 : K.lookup f__law_start = some ⟨oc16, od16, .func (PySem.W.fnOf "_law_start" "_law_start" (defArgs s__law_start) (defBody s__law_start) (defScope s__law_start) .none kV16 dc16 pm16 an16 cd16 ct16), sl16⟩)
    (c16 : PySem.W.codeIn K cd16 "_law_start" = true)
    (k16 : PySem.W.keepIn K (.ref f__law_start) = true)
    (g__law_drawn : PySem.W.nsIn K mainGlobals "_law_drawn" = some (some (.ref f__law_drawn)))
    (l17 : K.lookup f__law_drawn = some ⟨oc17, od17, .func (PySem.W.fnOf "_law_drawn" "_law_drawn" (defArgs s__law_drawn) (defBody s__law_drawn) (defScope s__law_drawn) .none kV17 dc17 pm17 an17 cd17 ct17), sl17⟩)
    (c17 : PySem.W.codeIn K cd17 "_law_drawn" = true)
    (k17 : PySem.W.keepIn K (.ref f__law_drawn) = true)
    (g__law_same : PySem.W.nsIn K mainGlobals "_law_same" = some (some (.ref f__law_same)))
    (l18 : K.lookup f__law_same = some ⟨oc18, od18, .func (PySem.W.fnOf "_law_same" "_law_same" (defArgs s__law_same) (defBody s__law_same) (defScope s__law_same) .none kV18 dc18 pm18 an18 cd18 ct18), sl18⟩)
    (c18 : PySem.W.codeIn K cd18 "_law_same" = true)
    (k18 : PySem.W.keepIn K (.ref f__law_same) = true)
    (g__law_outcome : PySem.W.nsIn K mainGlobals "_law_outcome" = some (some (.ref f__law_outcome)))
    (l19 : K.lookup f__law_outcome = some ⟨oc19, od19, .func (PySem.W.fnOf "_law_outcome" "_law_outcome" (defArgs s__law_outcome) (defBody s__law_outcome) (defScope s__law_outcome) .none kV19 dc19 pm19 an19 cd19 ct19), sl19⟩)
    (c19 : PySem.W.codeIn K cd19 "_law_outcome" = true)
    (k19 : PySem.W.keepIn K (.ref f__law_outcome) = true)
    (g__law_rows : PySem.W.nsIn K mainGlobals "_law_rows" = some (some (.ref f__law_rows)))
    (l20 : K.lookup f__law_rows = some ⟨oc20, od20, .func (PySem.W.fnOf "_law_rows" "_law_rows" (defArgs s__law_rows) (defBody s__law_rows) (defScope s__law_rows) .none kV20 dc20 pm20 an20 cd20 ct20), sl20⟩)
    (c20 : PySem.W.codeIn K cd20 "_law_rows" = true)
    (k20 : PySem.W.keepIn K (.ref f__law_rows) = true)
    (g__law_bill : PySem.W.nsIn K mainGlobals "_law_bill" = some (some (.ref f__law_bill)))
    (l21 : K.lookup f__law_bill = some ⟨oc21, od21, .func (PySem.W.fnOf "_law_bill" "_law_bill" (defArgs s__law_bill) (defBody s__law_bill) (defScope s__law_bill) .none kV21 dc21 pm21 an21 cd21 ct21), sl21⟩)
    (c21 : PySem.W.codeIn K cd21 "_law_bill" = true)
    (k21 : PySem.W.keepIn K (.ref f__law_bill) = true)
    (g__law_evening : PySem.W.nsIn K mainGlobals "_law_evening" = some (some (.ref f__law_evening)))
    (l22 : K.lookup f__law_evening = some ⟨oc22, od22, .func (PySem.W.fnOf "_law_evening" "_law_evening" (defArgs s__law_evening) (defBody s__law_evening) (defScope s__law_evening) .none kV22 dc22 pm22 an22 cd22 ct22), sl22⟩)
    (c22 : PySem.W.codeIn K cd22 "_law_evening" = true)
    (k22 : PySem.W.keepIn K (.ref f__law_evening) = true)
    (g__law_fault : PySem.W.nsIn K mainGlobals "_law_fault" = some (some (.ref f__law_fault)))
    (l23 : K.lookup f__law_fault = some ⟨oc23, od23, .func (PySem.W.fnOf "_law_fault" "_law_fault" (defArgs s__law_fault) (defBody s__law_fault) (defScope s__law_fault) .none kV23 dc23 pm23 an23 cd23 ct23), sl23⟩)
    (c23 : PySem.W.codeIn K cd23 "_law_fault" = true)
    (k23 : PySem.W.keepIn K (.ref f__law_fault) = true)
    (g__law_is_bill : PySem.W.nsIn K mainGlobals "_law_is_bill" = some (some (.ref f__law_is_bill)))
    (l24 : K.lookup f__law_is_bill = some ⟨oc24, od24, .func (PySem.W.fnOf "_law_is_bill" "_law_is_bill" (defArgs s__law_is_bill) (defBody s__law_is_bill) (defScope s__law_is_bill) .none kV24 dc24 pm24 an24 cd24 ct24), sl24⟩)
    (c24 : PySem.W.codeIn K cd24 "_law_is_bill" = true)
    (k24 : PySem.W.keepIn K (.ref f__law_is_bill) = true)
    (g__law_refused : PySem.W.nsIn K mainGlobals "_law_refused" = some (some (.ref f__law_refused)))
    (l25 : K.lookup f__law_refused = some ⟨oc25, od25, .func (PySem.W.fnOf "_law_refused" "_law_refused" (defArgs s__law_refused) (defBody s__law_refused) (defScope s__law_refused) .none kV25 dc25 pm25 an25 (.ref k__law_refused) ct25), sl25⟩)
    (c25 : PySem.W.codeIn K (.ref k__law_refused) "_law_refused" = true)
    (k25 : PySem.W.keepIn K (.ref f__law_refused) = true)
    (lc25 : K.lookup k__law_refused = some ⟨.type "code", cod25, .fields cvs25, csl25⟩)
    (rt25 : cvs25[11]? = some (.ref t__law_refused))
    (rh25 : hdOk cvs25 k__law_refused t__law_refused = true)
    (rn25 : K.lookup t__law_refused = none)
    (g_law : PySem.W.nsIn K mainGlobals "law" = some (some (.ref f_law)))
    (l26 : K.lookup f_law = some ⟨oc26, od26, .func (PySem.W.fnOf "law" "law" (defArgs s_law) (defBody s_law) (defScope s_law) .none kV26 dc26 pm26 an26 (.ref k_law) ct26), sl26⟩)
    (c26 : PySem.W.codeIn K (.ref k_law) "law" = true)
    (k26 : PySem.W.keepIn K (.ref f_law) = true)
    (lc26 : K.lookup k_law = some ⟨.type "code", cod26, .fields cvs26, csl26⟩)
    (rt26 : cvs26[11]? = some (.ref t_law))
    (rh26 : hdOk cvs26 k_law t_law = true)
    (rn26 : K.lookup t_law = none)
    (tn__law_refused_law : t__law_refused ≠ t_law)
    (g_CentError : PySem.W.nsIn K mainGlobals "CentError" = some (some (.ref c_CentError)))
    (x_CentError : PySem.W.excIn K c_CentError [.type "ValueError", .type "Exception", .type "BaseException", .type "object"] "ValueError.__new__" = true)
    (xk_CentError : PySem.W.keepIn K (.ref c_CentError) = true)
    (xs_CentError : PySem.W.subIn K (.ref c_CentError) (.type "BaseException") = some true)
    (xt_CentError : PySem.W.typeIn K (.ref c_CentError) = some (.type "type"))
    (g_InvalidBill : PySem.W.nsIn K mainGlobals "InvalidBill" = some (some (.ref c_InvalidBill)))
    (kxa_InvalidBill : K.lookup c_InvalidBill = some (excClassObj nm_InvalidBill qn_InvalidBill c_InvalidBill N_InvalidBill bs_InvalidBill bm_InvalidBill true sn_InvalidBill sub_InvalidBill ab_InvalidBill col_InvalidBill dd_InvalidBill k0_InvalidBill k1_InvalidBill k2_InvalidBill k3_InvalidBill k5_InvalidBill "ValueError.__new__"))
    (kxb_InvalidBill : PySem.HandSPX.refsVE bm_InvalidBill = true)
    (kxc_InvalidBill : PySem.W.findIn K (.ref c_InvalidBill) "__setattr__" = some (some (.builtin "object.__setattr__")))
    (xs_InvalidBill : PySem.W.subIn K (.ref c_InvalidBill) (.type "BaseException") = some true)
    (xt_InvalidBill : PySem.W.typeIn K (.ref c_InvalidBill) = some (.type "type"))
    (xk_InvalidBill : PySem.W.keepIn K (.ref c_InvalidBill) = true)
    (kxg_InvalidBill : PySem.W.findIn K (.ref c_InvalidBill) "__init__" = some (some (.ref fI_InvalidBill)))
    (kxh_InvalidBill : PySem.W.typeIn K (.ref fI_InvalidBill) = some (.type "function"))
    (kxi_InvalidBill : K.lookup fI_InvalidBill = some ⟨oc_InvalidBill, od_InvalidBill, .func (PySem.W.fnX "__init__" "InvalidBill.__init__" (defArgs s_InvalidBill__init_) (defBody s_InvalidBill__init_) (defScope s_InvalidBill__init_) [(("__class__" : Str), cc_InvalidBill)] .none .none dc_InvalidBill pm_InvalidBill an_InvalidBill (.ref cda_InvalidBill) ct_InvalidBill), osl_InvalidBill⟩)
    (kxj_InvalidBill : PySem.W.codeIn K (.ref cda_InvalidBill) "InvalidBill.__init__" = true)
    (kxk_InvalidBill : K.lookup cda_InvalidBill = some ⟨ccl_InvalidBill, cdd_InvalidBill, .fields vs_InvalidBill, ccs_InvalidBill⟩)
    (kxl_InvalidBill : vs_InvalidBill[2]? = some (.str mainF tf_InvalidBill))
    (kxm_InvalidBill : K.lookup cc_InvalidBill = some ⟨cco_InvalidBill, ccd_InvalidBill, .cell (some (.ref c_InvalidBill)), ccq_InvalidBill⟩)
    (kxn_InvalidBill : PySem.W.mroIn K c_InvalidBill (.ref c_InvalidBill) = some true)
    (kxo_InvalidBill : PySem.W.ks_superIn K c_InvalidBill c_InvalidBill "__init__" = some (some (.builtin "ValueError.__init__")))
    (kxp_InvalidBill : PySem.W.nsIn K cStatics "thirdparty.any" = some none)
    (kxq_InvalidBill : PySem.W.subIn K (.ref c_InvalidBill) (.type "ValueError") = some true)
    (kxr_InvalidBill : PySem.W.findIn K (.ref c_InvalidBill) "__getattribute__" = some (some (.builtin "BaseException.__getattribute__")))
    (kxs_InvalidBill : PySem.W.findIn K (.ref c_InvalidBill) "__getattr__" = some none)
    (kxt_InvalidBill : PySem.W.hasDictIn K c_InvalidBill = true)
    (kxu_InvalidBill_index : PySem.W.findIn K (.ref c_InvalidBill) "index" = some none)
    (g_InvalidEvening : PySem.W.nsIn K mainGlobals "InvalidEvening" = some (some (.ref c_InvalidEvening)))
    (kxa_InvalidEvening : K.lookup c_InvalidEvening = some (excClassObj nm_InvalidEvening qn_InvalidEvening c_InvalidEvening N_InvalidEvening bs_InvalidEvening bm_InvalidEvening true sn_InvalidEvening sub_InvalidEvening ab_InvalidEvening col_InvalidEvening dd_InvalidEvening k0_InvalidEvening k1_InvalidEvening k2_InvalidEvening k3_InvalidEvening k5_InvalidEvening "ValueError.__new__"))
    (kxb_InvalidEvening : PySem.HandSPX.refsVE bm_InvalidEvening = true)
    (kxc_InvalidEvening : PySem.W.findIn K (.ref c_InvalidEvening) "__setattr__" = some (some (.builtin "object.__setattr__")))
    (xs_InvalidEvening : PySem.W.subIn K (.ref c_InvalidEvening) (.type "BaseException") = some true)
    (xt_InvalidEvening : PySem.W.typeIn K (.ref c_InvalidEvening) = some (.type "type"))
    (xk_InvalidEvening : PySem.W.keepIn K (.ref c_InvalidEvening) = true)
    (kxg_InvalidEvening : PySem.W.findIn K (.ref c_InvalidEvening) "__init__" = some (some (.ref fI_InvalidEvening)))
    (kxh_InvalidEvening : PySem.W.typeIn K (.ref fI_InvalidEvening) = some (.type "function"))
    (kxi_InvalidEvening : K.lookup fI_InvalidEvening = some ⟨oc_InvalidEvening, od_InvalidEvening, .func (PySem.W.fnX "__init__" "InvalidEvening.__init__" (defArgs s_InvalidEvening__init_) (defBody s_InvalidEvening__init_) (defScope s_InvalidEvening__init_) [(("__class__" : Str), cc_InvalidEvening)] .none .none dc_InvalidEvening pm_InvalidEvening an_InvalidEvening (.ref cda_InvalidEvening) ct_InvalidEvening), osl_InvalidEvening⟩)
    (kxj_InvalidEvening : PySem.W.codeIn K (.ref cda_InvalidEvening) "InvalidEvening.__init__" = true)
    (kxk_InvalidEvening : K.lookup cda_InvalidEvening = some ⟨ccl_InvalidEvening, cdd_InvalidEvening, .fields vs_InvalidEvening, ccs_InvalidEvening⟩)
    (kxl_InvalidEvening : vs_InvalidEvening[2]? = some (.str mainF tf_InvalidEvening))
    (kxm_InvalidEvening : K.lookup cc_InvalidEvening = some ⟨cco_InvalidEvening, ccd_InvalidEvening, .cell (some (.ref c_InvalidEvening)), ccq_InvalidEvening⟩)
    (kxn_InvalidEvening : PySem.W.mroIn K c_InvalidEvening (.ref c_InvalidEvening) = some true)
    (kxo_InvalidEvening : PySem.W.ks_superIn K c_InvalidEvening c_InvalidEvening "__init__" = some (some (.builtin "ValueError.__init__")))
    (kxp_InvalidEvening : PySem.W.nsIn K cStatics "thirdparty.any" = some none)
    (kxq_InvalidEvening : PySem.W.subIn K (.ref c_InvalidEvening) (.type "ValueError") = some true)
    (kxr_InvalidEvening : PySem.W.findIn K (.ref c_InvalidEvening) "__getattribute__" = some (some (.builtin "BaseException.__getattribute__")))
    (kxs_InvalidEvening : PySem.W.findIn K (.ref c_InvalidEvening) "__getattr__" = some none)
    (kxt_InvalidEvening : PySem.W.hasDictIn K c_InvalidEvening = true)
    (kxu_InvalidEvening_index : PySem.W.findIn K (.ref c_InvalidEvening) "index" = some none)
    (g_InvalidMark : PySem.W.nsIn K mainGlobals "InvalidMark" = some (some (.ref c_InvalidMark)))
    (x_InvalidMark : PySem.W.excIn K c_InvalidMark [.type "ValueError", .type "Exception", .type "BaseException", .type "object"] "ValueError.__new__" = true)
    (xk_InvalidMark : PySem.W.keepIn K (.ref c_InvalidMark) = true)
    (xs_InvalidMark : PySem.W.subIn K (.ref c_InvalidMark) (.type "BaseException") = some true)
    (xt_InvalidMark : PySem.W.typeIn K (.ref c_InvalidMark) = some (.type "type"))
    (g_UnknownSeat : PySem.W.nsIn K mainGlobals "UnknownSeat" = some (some (.ref c_UnknownSeat)))
    (x_UnknownSeat : PySem.W.excIn K c_UnknownSeat [.type "ValueError", .type "Exception", .type "BaseException", .type "object"] "ValueError.__new__" = true)
    (xk_UnknownSeat : PySem.W.keepIn K (.ref c_UnknownSeat) = true)
    (xs_UnknownSeat : PySem.W.subIn K (.ref c_UnknownSeat) (.type "BaseException") = some true)
    (xt_UnknownSeat : PySem.W.typeIn K (.ref c_UnknownSeat) = some (.type "type"))
    (g_OtherTable : PySem.W.nsIn K mainGlobals "OtherTable" = some (some (.ref c_OtherTable)))
    (x_OtherTable : PySem.W.excIn K c_OtherTable [.type "ValueError", .type "Exception", .type "BaseException", .type "object"] "ValueError.__new__" = true)
    (xk_OtherTable : PySem.W.keepIn K (.ref c_OtherTable) = true)
    (xs_OtherTable : PySem.W.subIn K (.ref c_OtherTable) (.type "BaseException") = some true)
    (xt_OtherTable : PySem.W.typeIn K (.ref c_OtherTable) = some (.type "type"))
    (g_InvalidNumber : PySem.W.nsIn K mainGlobals "InvalidNumber" = some (some (.ref c_InvalidNumber)))
    (x_InvalidNumber : PySem.W.excIn K c_InvalidNumber [.type "ValueError", .type "Exception", .type "BaseException", .type "object"] "ValueError.__new__" = true)
    (xk_InvalidNumber : PySem.W.keepIn K (.ref c_InvalidNumber) = true)
    (xs_InvalidNumber : PySem.W.subIn K (.ref c_InvalidNumber) (.type "BaseException") = some true)
    (xt_InvalidNumber : PySem.W.typeIn K (.ref c_InvalidNumber) = some (.type "type"))
    (g_Shares : PySem.W.nsIn K mainGlobals "Shares" = some (some (.ref c_Shares)))
    (pg_Shares : PySem.W.plainGet K c_Shares Str.empty = true)
    (hd_Shares : PySem.W.hasDictIn K c_Shares = true)
    (po_Shares : PySem.W.plainOver K c_Shares = true)
    (sa_Shares : PySem.W.findIn K (.ref c_Shares) "__setattr__" = some (some (.builtin "object.__setattr__")))
    (ia_Shares : PySem.W.findIn K (.ref c_Shares) "__class__" = some (some (.builtin "object.__class__")))
    (ib_Shares : PySem.W.specialIn K (.builtin "object.__class__") "__get__" = some (some (.builtin "getset_descriptor.__get__")))
    (ic_Shares : PySem.W.takesIn K (.builtin "object.__class__") = some true)
    (id_Shares : PySem.W.mroIn K c_Shares (.type "object") = some true)
    (ob_Shares : PySem.W.subIn K (.ref c_Shares) (.type "object") = some true)
    (sf_Shares : PySem.W.selfFirst K c_Shares = true)
    (tyc_Shares : PySem.W.typeIn K (.ref c_Shares) = some (.type "type"))
    (kit_Shares_tuple : PySem.W.subIn K (.type "tuple") (.ref c_Shares) = some false)
    (kit_Shares_list : PySem.W.subIn K (.type "list") (.ref c_Shares) = some false)
    (kit_Shares_int : PySem.W.subIn K (.type "int") (.ref c_Shares) = some false)
    (na_Shares_cents : PySem.W.findIn K (.ref c_Shares) "_cents" = some none)
    (ma_Shares__init_ : PySem.W.findIn K (.ref c_Shares) "__init__" = some (some (.ref f_Shares__init_)))
    (mb_Shares__init_ : PySem.W.isFn K (.ref f_Shares__init_) = true)
    (l27 : K.lookup f_Shares__init_ = some ⟨oc27, od27, .func (PySem.W.fnOf "__init__" "Shares.__init__" (defArgs s_Shares__init_) (defBody s_Shares__init_) (defScope s_Shares__init_) .none kV27 dc27 pm27 an27 cd27 ct27), sl27⟩)
    (c27 : PySem.W.codeIn K cd27 "Shares.__init__" = true)
    (k27 : PySem.W.keepIn K (.ref f_Shares__init_) = true)
    (mk_Shares : PySem.W.makesIn K c_Shares = true)
    (kc_Shares : PySem.W.keepIn K (.ref c_Shares) = true)
    (pa_Shares_cents : PySem.W.findIn K (.ref c_Shares) "cents" = some (some (.ref p_Shares_cents)))
    (pb_Shares_cents : PySem.W.specialIn K (.ref p_Shares_cents) "__get__" = some (some (.builtin "property.__get__")))
    (pc_Shares_cents : PySem.W.takesIn K (.ref p_Shares_cents) = some true)
    (pd_Shares_cents : PySem.W.recIn K p_Shares_cents "property" = some (.ref f_Shares_cents :: rs_Shares_cents))
    (l28 : K.lookup f_Shares_cents = some ⟨oc28, od28, .func (PySem.W.fnOf "cents" "Shares.cents" (defArgs s_Shares_cents) (defBody s_Shares_cents) (defScope s_Shares_cents) .none kV28 dc28 pm28 an28 cd28 ct28), sl28⟩)
    (c28 : PySem.W.codeIn K cd28 "Shares.cents" = true)
    (k28 : PySem.W.keepIn K (.ref f_Shares_cents) = true)
    (pa_Shares_whole : PySem.W.findIn K (.ref c_Shares) "whole" = some (some (.ref p_Shares_whole)))
    (pb_Shares_whole : PySem.W.specialIn K (.ref p_Shares_whole) "__get__" = some (some (.builtin "property.__get__")))
    (pc_Shares_whole : PySem.W.takesIn K (.ref p_Shares_whole) = some true)
    (pd_Shares_whole : PySem.W.recIn K p_Shares_whole "property" = some (.ref f_Shares_whole :: rs_Shares_whole))
    (l29 : K.lookup f_Shares_whole = some ⟨oc29, od29, .func (PySem.W.fnOf "whole" "Shares.whole" (defArgs s_Shares_whole) (defBody s_Shares_whole) (defScope s_Shares_whole) .none kV29 dc29 pm29 an29 cd29 ct29), sl29⟩)
    (c29 : PySem.W.codeIn K cd29 "Shares.whole" = true)
    (k29 : PySem.W.keepIn K (.ref f_Shares_whole) = true)
    (ma_Shares__getitem_ : PySem.W.findIn K (.ref c_Shares) "__getitem__" = some (some (.ref f_Shares__getitem_)))
    (mb_Shares__getitem_ : PySem.W.isFn K (.ref f_Shares__getitem_) = true)
    (l30 : K.lookup f_Shares__getitem_ = some ⟨oc30, od30, .func (PySem.W.fnOf "__getitem__" "Shares.__getitem__" (defArgs s_Shares__getitem_) (defBody s_Shares__getitem_) (defScope s_Shares__getitem_) .none kV30 dc30 pm30 an30 cd30 ct30), sl30⟩)
    (c30 : PySem.W.codeIn K cd30 "Shares.__getitem__" = true)
    (k30 : PySem.W.keepIn K (.ref f_Shares__getitem_) = true)
    (ma_Shares__iter_ : PySem.W.findIn K (.ref c_Shares) "__iter__" = some (some (.ref f_Shares__iter_)))
    (mb_Shares__iter_ : PySem.W.isFn K (.ref f_Shares__iter_) = true)
    (l31 : K.lookup f_Shares__iter_ = some ⟨oc31, od31, .func (PySem.W.fnOf "__iter__" "Shares.__iter__" (defArgs s_Shares__iter_) (defBody s_Shares__iter_) (defScope s_Shares__iter_) .none kV31 dc31 pm31 an31 cd31 ct31), sl31⟩)
    (c31 : PySem.W.codeIn K cd31 "Shares.__iter__" = true)
    (k31 : PySem.W.keepIn K (.ref f_Shares__iter_) = true)
    (ma_Shares__len_ : PySem.W.findIn K (.ref c_Shares) "__len__" = some (some (.ref f_Shares__len_)))
    (mb_Shares__len_ : PySem.W.isFn K (.ref f_Shares__len_) = true)
    (l32 : K.lookup f_Shares__len_ = some ⟨oc32, od32, .func (PySem.W.fnOf "__len__" "Shares.__len__" (defArgs s_Shares__len_) (defBody s_Shares__len_) (defScope s_Shares__len_) .none kV32 dc32 pm32 an32 cd32 ct32), sl32⟩)
    (c32 : PySem.W.codeIn K cd32 "Shares.__len__" = true)
    (k32 : PySem.W.keepIn K (.ref f_Shares__len_) = true)
    (ma_Shares__eq_ : PySem.W.findIn K (.ref c_Shares) "__eq__" = some (some (.ref f_Shares__eq_)))
    (mb_Shares__eq_ : PySem.W.isFn K (.ref f_Shares__eq_) = true)
    (l33 : K.lookup f_Shares__eq_ = some ⟨oc33, od33, .func (PySem.W.fnOf "__eq__" "Shares.__eq__" (defArgs s_Shares__eq_) (defBody s_Shares__eq_) (defScope s_Shares__eq_) .none kV33 dc33 pm33 an33 cd33 ct33), sl33⟩)
    (c33 : PySem.W.codeIn K cd33 "Shares.__eq__" = true)
    (k33 : PySem.W.keepIn K (.ref f_Shares__eq_) = true)
    (na_Shares__eq_ : PySem.W.findIn K (.ref c_Shares) "__ne__" = some (some (.builtin "object.__ne__")))
    (nf_Shares__eq_ : PySem.W.notFirst K c_Shares (.ref c_Shares) = true)
    (nt_Shares__eq_ : PySem.W.notFirst K c_Shares (.type "tuple") = true)
    (ma_Shares__add_ : PySem.W.findIn K (.ref c_Shares) "__add__" = some (some (.ref f_Shares__add_)))
    (mb_Shares__add_ : PySem.W.isFn K (.ref f_Shares__add_) = true)
    (l34 : K.lookup f_Shares__add_ = some ⟨oc34, od34, .func (PySem.W.fnOf "__add__" "Shares.__add__" (defArgs s_Shares__add_) (defBody s_Shares__add_) (defScope s_Shares__add_) .none kV34 dc34 pm34 an34 cd34 ct34), sl34⟩)
    (c34 : PySem.W.codeIn K cd34 "Shares.__add__" = true)
    (k34 : PySem.W.keepIn K (.ref f_Shares__add_) = true)
    (ma_Shares__sub_ : PySem.W.findIn K (.ref c_Shares) "__sub__" = some (some (.ref f_Shares__sub_)))
    (mb_Shares__sub_ : PySem.W.isFn K (.ref f_Shares__sub_) = true)
    (l35 : K.lookup f_Shares__sub_ = some ⟨oc35, od35, .func (PySem.W.fnOf "__sub__" "Shares.__sub__" (defArgs s_Shares__sub_) (defBody s_Shares__sub_) (defScope s_Shares__sub_) .none kV35 dc35 pm35 an35 cd35 ct35), sl35⟩)
    (c35 : PySem.W.codeIn K cd35 "Shares.__sub__" = true)
    (k35 : PySem.W.keepIn K (.ref f_Shares__sub_) = true)
    (ma_Shares__mul_ : PySem.W.findIn K (.ref c_Shares) "__mul__" = some (some (.ref f_Shares__mul_)))
    (mb_Shares__mul_ : PySem.W.isFn K (.ref f_Shares__mul_) = true)
    (l36 : K.lookup f_Shares__mul_ = some ⟨oc36, od36, .func (PySem.W.fnOf "__mul__" "Shares.__mul__" (defArgs s_Shares__mul_) (defBody s_Shares__mul_) (defScope s_Shares__mul_) .none kV36 dc36 pm36 an36 cd36 ct36), sl36⟩)
    (c36 : PySem.W.codeIn K cd36 "Shares.__mul__" = true)
    (k36 : PySem.W.keepIn K (.ref f_Shares__mul_) = true)
    (oa_Shares__mul_ : PySem.W.findIn K (.ref c_Shares) "__rmul__" = some none)
    (ob_Shares__mul_ : PySem.W.findIn K (.type "int") "__mul__" = some fo_Shares__mul_)
    (oc_Shares__mul_ : PySem.W.findIn K (.type "int") "__rmul__" = some ro_Shares__mul_)
    (od_Shares__mul_ : PySem.W.subIn K (.type "int") (.ref c_Shares) = some false)
    (ma_Shares__neg_ : PySem.W.findIn K (.ref c_Shares) "__neg__" = some (some (.ref f_Shares__neg_)))
    (mb_Shares__neg_ : PySem.W.isFn K (.ref f_Shares__neg_) = true)
    (l37 : K.lookup f_Shares__neg_ = some ⟨oc37, od37, .func (PySem.W.fnOf "__neg__" "Shares.__neg__" (defArgs s_Shares__neg_) (defBody s_Shares__neg_) (defScope s_Shares__neg_) .none kV37 dc37 pm37 an37 cd37 ct37), sl37⟩)
    (c37 : PySem.W.codeIn K cd37 "Shares.__neg__" = true)
    (k37 : PySem.W.keepIn K (.ref f_Shares__neg_) = true)
    (ma_Shares__abs_ : PySem.W.findIn K (.ref c_Shares) "__abs__" = some (some (.ref f_Shares__abs_)))
    (mb_Shares__abs_ : PySem.W.isFn K (.ref f_Shares__abs_) = true)
    (l38 : K.lookup f_Shares__abs_ = some ⟨oc38, od38, .func (PySem.W.fnOf "__abs__" "Shares.__abs__" (defArgs s_Shares__abs_) (defBody s_Shares__abs_) (defScope s_Shares__abs_) .none kV38 dc38 pm38 an38 cd38 ct38), sl38⟩)
    (c38 : PySem.W.codeIn K cd38 "Shares.__abs__" = true)
    (k38 : PySem.W.keepIn K (.ref f_Shares__abs_) = true)
    (g_Bill : PySem.W.nsIn K mainGlobals "Bill" = some (some (.ref c_Bill)))
    (pg_Bill : PySem.W.plainGet K c_Bill Str.empty = true)
    (hd_Bill : PySem.W.hasDictIn K c_Bill = true)
    (po_Bill : PySem.W.plainOver K c_Bill = true)
    (sa_Bill : PySem.W.findIn K (.ref c_Bill) "__setattr__" = some (some (.builtin "object.__setattr__")))
    (ia_Bill : PySem.W.findIn K (.ref c_Bill) "__class__" = some (some (.builtin "object.__class__")))
    (ib_Bill : PySem.W.specialIn K (.builtin "object.__class__") "__get__" = some (some (.builtin "getset_descriptor.__get__")))
    (ic_Bill : PySem.W.takesIn K (.builtin "object.__class__") = some true)
    (id_Bill : PySem.W.mroIn K c_Bill (.type "object") = some true)
    (ob_Bill : PySem.W.subIn K (.ref c_Bill) (.type "object") = some true)
    (sf_Bill : PySem.W.selfFirst K c_Bill = true)
    (tyc_Bill : PySem.W.typeIn K (.ref c_Bill) = some (.type "type"))
    (kit_Bill_tuple : PySem.W.subIn K (.type "tuple") (.ref c_Bill) = some false)
    (kit_Bill_list : PySem.W.subIn K (.type "list") (.ref c_Bill) = some false)
    (kit_Bill_int : PySem.W.subIn K (.type "int") (.ref c_Bill) = some false)
    (na_Bill_amount : PySem.W.findIn K (.ref c_Bill) "_amount" = some none)
    (na_Bill_seats : PySem.W.findIn K (.ref c_Bill) "_seats" = some none)
    (cra_Bill : PySem.W.readsIn K c_Bill (.type "type") = true)
    (crb_Bill : PySem.W.specialIn K (.ref c_Bill) "__getattribute__" = some (some (.builtin "type.__getattribute__")))
    (cva_Bill_MAX_SEATS : PySem.W.findCls K (.ref c_Bill) (.type "type") "MAX_SEATS" = some (.val (.int 8 tk_Bill_MAX_SEATS)))
    (ma_Bill__init_ : PySem.W.findIn K (.ref c_Bill) "__init__" = some (some (.ref f_Bill__init_)))
    (mb_Bill__init_ : PySem.W.isFn K (.ref f_Bill__init_) = true)
    (l39 : K.lookup f_Bill__init_ = some ⟨oc39, od39, .func (PySem.W.fnOf "__init__" "Bill.__init__" (defArgs s_Bill__init_) (defBody s_Bill__init_) (defScope s_Bill__init_) .none kV39 dc39 pm39 an39 cd39 ct39), sl39⟩)
    (c39 : PySem.W.codeIn K cd39 "Bill.__init__" = true)
    (k39 : PySem.W.keepIn K (.ref f_Bill__init_) = true)
    (mk_Bill : PySem.W.makesIn K c_Bill = true)
    (kc_Bill : PySem.W.keepIn K (.ref c_Bill) = true)
    (pa_Bill_amount : PySem.W.findIn K (.ref c_Bill) "amount" = some (some (.ref p_Bill_amount)))
    (pb_Bill_amount : PySem.W.specialIn K (.ref p_Bill_amount) "__get__" = some (some (.builtin "property.__get__")))
    (pc_Bill_amount : PySem.W.takesIn K (.ref p_Bill_amount) = some true)
    (pd_Bill_amount : PySem.W.recIn K p_Bill_amount "property" = some (.ref f_Bill_amount :: rs_Bill_amount))
    (l40 : K.lookup f_Bill_amount = some ⟨oc40, od40, .func (PySem.W.fnOf "amount" "Bill.amount" (defArgs s_Bill_amount) (defBody s_Bill_amount) (defScope s_Bill_amount) .none kV40 dc40 pm40 an40 cd40 ct40), sl40⟩)
    (c40 : PySem.W.codeIn K cd40 "Bill.amount" = true)
    (k40 : PySem.W.keepIn K (.ref f_Bill_amount) = true)
    (pa_Bill_seats : PySem.W.findIn K (.ref c_Bill) "seats" = some (some (.ref p_Bill_seats)))
    (pb_Bill_seats : PySem.W.specialIn K (.ref p_Bill_seats) "__get__" = some (some (.builtin "property.__get__")))
    (pc_Bill_seats : PySem.W.takesIn K (.ref p_Bill_seats) = some true)
    (pd_Bill_seats : PySem.W.recIn K p_Bill_seats "property" = some (.ref f_Bill_seats :: rs_Bill_seats))
    (l41 : K.lookup f_Bill_seats = some ⟨oc41, od41, .func (PySem.W.fnOf "seats" "Bill.seats" (defArgs s_Bill_seats) (defBody s_Bill_seats) (defScope s_Bill_seats) .none kV41 dc41 pm41 an41 cd41 ct41), sl41⟩)
    (c41 : PySem.W.codeIn K cd41 "Bill.seats" = true)
    (k41 : PySem.W.keepIn K (.ref f_Bill_seats) = true)
    (pa_Bill_odd_cents : PySem.W.findIn K (.ref c_Bill) "odd_cents" = some (some (.ref p_Bill_odd_cents)))
    (pb_Bill_odd_cents : PySem.W.specialIn K (.ref p_Bill_odd_cents) "__get__" = some (some (.builtin "property.__get__")))
    (pc_Bill_odd_cents : PySem.W.takesIn K (.ref p_Bill_odd_cents) = some true)
    (pd_Bill_odd_cents : PySem.W.recIn K p_Bill_odd_cents "property" = some (.ref f_Bill_odd_cents :: rs_Bill_odd_cents))
    (l42 : K.lookup f_Bill_odd_cents = some ⟨oc42, od42, .func (PySem.W.fnOf "odd_cents" "Bill.odd_cents" (defArgs s_Bill_odd_cents) (defBody s_Bill_odd_cents) (defScope s_Bill_odd_cents) .none kV42 dc42 pm42 an42 cd42 ct42), sl42⟩)
    (c42 : PySem.W.codeIn K cd42 "Bill.odd_cents" = true)
    (k42 : PySem.W.keepIn K (.ref f_Bill_odd_cents) = true)
    (ma_Bill__contains_ : PySem.W.findIn K (.ref c_Bill) "__contains__" = some (some (.ref f_Bill__contains_)))
    (mb_Bill__contains_ : PySem.W.isFn K (.ref f_Bill__contains_) = true)
    (l43 : K.lookup f_Bill__contains_ = some ⟨oc43, od43, .func (PySem.W.fnOf "__contains__" "Bill.__contains__" (defArgs s_Bill__contains_) (defBody s_Bill__contains_) (defScope s_Bill__contains_) .none kV43 dc43 pm43 an43 cd43 ct43), sl43⟩)
    (c43 : PySem.W.codeIn K cd43 "Bill.__contains__" = true)
    (k43 : PySem.W.keepIn K (.ref f_Bill__contains_) = true)
    (g_Evening : PySem.W.nsIn K mainGlobals "Evening" = some (some (.ref c_Evening)))
    (pg_Evening : PySem.W.plainGet K c_Evening Str.empty = true)
    (hd_Evening : PySem.W.hasDictIn K c_Evening = true)
    (po_Evening : PySem.W.plainOver K c_Evening = true)
    (sa_Evening : PySem.W.findIn K (.ref c_Evening) "__setattr__" = some (some (.builtin "object.__setattr__")))
    (ia_Evening : PySem.W.findIn K (.ref c_Evening) "__class__" = some (some (.builtin "object.__class__")))
    (ib_Evening : PySem.W.specialIn K (.builtin "object.__class__") "__get__" = some (some (.builtin "getset_descriptor.__get__")))
    (ic_Evening : PySem.W.takesIn K (.builtin "object.__class__") = some true)
    (id_Evening : PySem.W.mroIn K c_Evening (.type "object") = some true)
    (ob_Evening : PySem.W.subIn K (.ref c_Evening) (.type "object") = some true)
    (sf_Evening : PySem.W.selfFirst K c_Evening = true)
    (tyc_Evening : PySem.W.typeIn K (.ref c_Evening) = some (.type "type"))
    (kit_Evening_tuple : PySem.W.subIn K (.type "tuple") (.ref c_Evening) = some false)
    (kit_Evening_list : PySem.W.subIn K (.type "list") (.ref c_Evening) = some false)
    (kit_Evening_int : PySem.W.subIn K (.type "int") (.ref c_Evening) = some false)
    (na_Evening_seat_count : PySem.W.findIn K (.ref c_Evening) "_seat_count" = some none)
    (na_Evening_bills : PySem.W.findIn K (.ref c_Evening) "_bills" = some none)
    (cra_Evening : PySem.W.readsIn K c_Evening (.type "type") = true)
    (crb_Evening : PySem.W.specialIn K (.ref c_Evening) "__getattribute__" = some (some (.builtin "type.__getattribute__")))
    (cva_Evening_MAX_BILLS : PySem.W.findCls K (.ref c_Evening) (.type "type") "MAX_BILLS" = some (.val (.int 30 tk_Evening_MAX_BILLS)))
    (ma_Evening__init_ : PySem.W.findIn K (.ref c_Evening) "__init__" = some (some (.ref f_Evening__init_)))
    (mb_Evening__init_ : PySem.W.isFn K (.ref f_Evening__init_) = true)
    (l44 : K.lookup f_Evening__init_ = some ⟨oc44, od44, .func (PySem.W.fnOf "__init__" "Evening.__init__" (defArgs s_Evening__init_) (defBody s_Evening__init_) (defScope s_Evening__init_) .none kV44 dc44 pm44 an44 cd44 ct44), sl44⟩)
    (c44 : PySem.W.codeIn K cd44 "Evening.__init__" = true)
    (k44 : PySem.W.keepIn K (.ref f_Evening__init_) = true)
    (mk_Evening : PySem.W.makesIn K c_Evening = true)
    (kc_Evening : PySem.W.keepIn K (.ref c_Evening) = true)
    (cma_Evening_together : PySem.W.findCls K (.ref c_Evening) (.type "type") "together" = some (.get (.builtin "classmethod.__get__") (.ref p_Evening_together) .none (.ref c_Evening)))
    (cmb_Evening_together : PySem.W.recIn K p_Evening_together "classmethod" = some (.ref f_Evening_together :: rs_Evening_together))
    (cmc_Evening_together : PySem.W.fnIn K f_Evening_together = true)
    (l45 : K.lookup f_Evening_together = some ⟨oc45, od45, .func (PySem.W.fnOf "together" "Evening.together" (defArgs s_Evening_together) (defBody s_Evening_together) (defScope s_Evening_together) .none kV45 dc45 pm45 an45 cd45 ct45), sl45⟩)
    (c45 : PySem.W.codeIn K cd45 "Evening.together" = true)
    (k45 : PySem.W.keepIn K (.ref f_Evening_together) = true)
    (pa_Evening_seat_count : PySem.W.findIn K (.ref c_Evening) "seat_count" = some (some (.ref p_Evening_seat_count)))
    (pb_Evening_seat_count : PySem.W.specialIn K (.ref p_Evening_seat_count) "__get__" = some (some (.builtin "property.__get__")))
    (pc_Evening_seat_count : PySem.W.takesIn K (.ref p_Evening_seat_count) = some true)
    (pd_Evening_seat_count : PySem.W.recIn K p_Evening_seat_count "property" = some (.ref f_Evening_seat_count :: rs_Evening_seat_count))
    (l46 : K.lookup f_Evening_seat_count = some ⟨oc46, od46, .func (PySem.W.fnOf "seat_count" "Evening.seat_count" (defArgs s_Evening_seat_count) (defBody s_Evening_seat_count) (defScope s_Evening_seat_count) .none kV46 dc46 pm46 an46 cd46 ct46), sl46⟩)
    (c46 : PySem.W.codeIn K cd46 "Evening.seat_count" = true)
    (k46 : PySem.W.keepIn K (.ref f_Evening_seat_count) = true)
    (pa_Evening_bills : PySem.W.findIn K (.ref c_Evening) "bills" = some (some (.ref p_Evening_bills)))
    (pb_Evening_bills : PySem.W.specialIn K (.ref p_Evening_bills) "__get__" = some (some (.builtin "property.__get__")))
    (pc_Evening_bills : PySem.W.takesIn K (.ref p_Evening_bills) = some true)
    (pd_Evening_bills : PySem.W.recIn K p_Evening_bills "property" = some (.ref f_Evening_bills :: rs_Evening_bills))
    (l47 : K.lookup f_Evening_bills = some ⟨oc47, od47, .func (PySem.W.fnOf "bills" "Evening.bills" (defArgs s_Evening_bills) (defBody s_Evening_bills) (defScope s_Evening_bills) .none kV47 dc47 pm47 an47 cd47 ct47), sl47⟩)
    (c47 : PySem.W.codeIn K cd47 "Evening.bills" = true)
    (k47 : PySem.W.keepIn K (.ref f_Evening_bills) = true)
    (ma_Evening__call_ : PySem.W.findIn K (.ref c_Evening) "__call__" = some (some (.ref f_Evening__call_)))
    (mb_Evening__call_ : PySem.W.isFn K (.ref f_Evening__call_) = true)
    (l48 : K.lookup f_Evening__call_ = some ⟨oc48, od48, .func (PySem.W.fnOf "__call__" "Evening.__call__" (defArgs s_Evening__call_) (defBody s_Evening__call_) (defScope s_Evening__call_) .none kV48 dc48 pm48 an48 cd48 ct48), sl48⟩)
    (c48 : PySem.W.codeIn K cd48 "Evening.__call__" = true)
    (k48 : PySem.W.keepIn K (.ref f_Evening__call_) = true)
    (coc_Evening__call_ : PySem.W.fnIn K f_Evening__call_ = true)
    (ma_Evening__getitem_ : PySem.W.findIn K (.ref c_Evening) "__getitem__" = some (some (.ref f_Evening__getitem_)))
    (mb_Evening__getitem_ : PySem.W.isFn K (.ref f_Evening__getitem_) = true)
    (l49 : K.lookup f_Evening__getitem_ = some ⟨oc49, od49, .func (PySem.W.fnOf "__getitem__" "Evening.__getitem__" (defArgs s_Evening__getitem_) (defBody s_Evening__getitem_) (defScope s_Evening__getitem_) .none kV49 dc49 pm49 an49 cd49 ct49), sl49⟩)
    (c49 : PySem.W.codeIn K cd49 "Evening.__getitem__" = true)
    (k49 : PySem.W.keepIn K (.ref f_Evening__getitem_) = true)
    (ma_Evening__iter_ : PySem.W.findIn K (.ref c_Evening) "__iter__" = some (some (.ref f_Evening__iter_)))
    (mb_Evening__iter_ : PySem.W.isFn K (.ref f_Evening__iter_) = true)
    (l50 : K.lookup f_Evening__iter_ = some ⟨oc50, od50, .func (PySem.W.fnOf "__iter__" "Evening.__iter__" (defArgs s_Evening__iter_) (defBody s_Evening__iter_) (defScope s_Evening__iter_) .none kV50 dc50 pm50 an50 cd50 ct50), sl50⟩)
    (c50 : PySem.W.codeIn K cd50 "Evening.__iter__" = true)
    (k50 : PySem.W.keepIn K (.ref f_Evening__iter_) = true)
    (ma_Evening__len_ : PySem.W.findIn K (.ref c_Evening) "__len__" = some (some (.ref f_Evening__len_)))
    (mb_Evening__len_ : PySem.W.isFn K (.ref f_Evening__len_) = true)
    (l51 : K.lookup f_Evening__len_ = some ⟨oc51, od51, .func (PySem.W.fnOf "__len__" "Evening.__len__" (defArgs s_Evening__len_) (defBody s_Evening__len_) (defScope s_Evening__len_) .none kV51 dc51 pm51 an51 cd51 ct51), sl51⟩)
    (c51 : PySem.W.codeIn K cd51 "Evening.__len__" = true)
    (k51 : PySem.W.keepIn K (.ref f_Evening__len_) = true)
    (ma_Evening__bool_ : PySem.W.findIn K (.ref c_Evening) "__bool__" = some (some (.ref f_Evening__bool_)))
    (mb_Evening__bool_ : PySem.W.isFn K (.ref f_Evening__bool_) = true)
    (l52 : K.lookup f_Evening__bool_ = some ⟨oc52, od52, .func (PySem.W.fnOf "__bool__" "Evening.__bool__" (defArgs s_Evening__bool_) (defBody s_Evening__bool_) (defScope s_Evening__bool_) .none kV52 dc52 pm52 an52 cd52 ct52), sl52⟩)
    (c52 : PySem.W.codeIn K cd52 "Evening.__bool__" = true)
    (k52 : PySem.W.keepIn K (.ref f_Evening__bool_) = true)
    (ma_Evening__add_ : PySem.W.findIn K (.ref c_Evening) "__add__" = some (some (.ref f_Evening__add_)))
    (mb_Evening__add_ : PySem.W.isFn K (.ref f_Evening__add_) = true)
    (l53 : K.lookup f_Evening__add_ = some ⟨oc53, od53, .func (PySem.W.fnOf "__add__" "Evening.__add__" (defArgs s_Evening__add_) (defBody s_Evening__add_) (defScope s_Evening__add_) .none kV53 dc53 pm53 an53 cd53 ct53), sl53⟩)
    (c53 : PySem.W.codeIn K cd53 "Evening.__add__" = true)
    (k53 : PySem.W.keepIn K (.ref f_Evening__add_) = true)
    (ma_Evening__mul_ : PySem.W.findIn K (.ref c_Evening) "__mul__" = some (some (.ref f_Evening__mul_)))
    (mb_Evening__mul_ : PySem.W.isFn K (.ref f_Evening__mul_) = true)
    (l54 : K.lookup f_Evening__mul_ = some ⟨oc54, od54, .func (PySem.W.fnOf "__mul__" "Evening.__mul__" (defArgs s_Evening__mul_) (defBody s_Evening__mul_) (defScope s_Evening__mul_) .none kV54 dc54 pm54 an54 cd54 ct54), sl54⟩)
    (c54 : PySem.W.codeIn K cd54 "Evening.__mul__" = true)
    (k54 : PySem.W.keepIn K (.ref f_Evening__mul_) = true)
    (oa_Evening__mul_ : PySem.W.findIn K (.ref c_Evening) "__rmul__" = some none)
    (ob_Evening__mul_ : PySem.W.findIn K (.type "int") "__mul__" = some fo_Evening__mul_)
    (oc_Evening__mul_ : PySem.W.findIn K (.type "int") "__rmul__" = some ro_Evening__mul_)
    (od_Evening__mul_ : PySem.W.subIn K (.type "int") (.ref c_Evening) = some false)
    (ic_InvalidBill : PySem.W.isClsIn K c_InvalidBill = true)
    (se_CentError_InvalidBill : PySem.W.subIn K (.ref c_CentError) (.ref c_InvalidBill) = some false)
    (se_InvalidBill_InvalidBill : PySem.W.subIn K (.ref c_InvalidBill) (.ref c_InvalidBill) = some true)
    (se_InvalidEvening_InvalidBill : PySem.W.subIn K (.ref c_InvalidEvening) (.ref c_InvalidBill) = some false)
    (se_InvalidMark_InvalidBill : PySem.W.subIn K (.ref c_InvalidMark) (.ref c_InvalidBill) = some false)
    (se_UnknownSeat_InvalidBill : PySem.W.subIn K (.ref c_UnknownSeat) (.ref c_InvalidBill) = some false)
    (se_OtherTable_InvalidBill : PySem.W.subIn K (.ref c_OtherTable) (.ref c_InvalidBill) = some false)
    (se_InvalidNumber_InvalidBill : PySem.W.subIn K (.ref c_InvalidNumber) (.ref c_InvalidBill) = some false)
    (ic_InvalidEvening : PySem.W.isClsIn K c_InvalidEvening = true)
    (se_CentError_InvalidEvening : PySem.W.subIn K (.ref c_CentError) (.ref c_InvalidEvening) = some false)
    (se_InvalidBill_InvalidEvening : PySem.W.subIn K (.ref c_InvalidBill) (.ref c_InvalidEvening) = some false)
    (se_InvalidEvening_InvalidEvening : PySem.W.subIn K (.ref c_InvalidEvening) (.ref c_InvalidEvening) = some true)
    (se_InvalidMark_InvalidEvening : PySem.W.subIn K (.ref c_InvalidMark) (.ref c_InvalidEvening) = some false)
    (se_UnknownSeat_InvalidEvening : PySem.W.subIn K (.ref c_UnknownSeat) (.ref c_InvalidEvening) = some false)
    (se_OtherTable_InvalidEvening : PySem.W.subIn K (.ref c_OtherTable) (.ref c_InvalidEvening) = some false)
    (se_InvalidNumber_InvalidEvening : PySem.W.subIn K (.ref c_InvalidNumber) (.ref c_InvalidEvening) = some false)
    (ic_InvalidMark : PySem.W.isClsIn K c_InvalidMark = true)
    (se_CentError_InvalidMark : PySem.W.subIn K (.ref c_CentError) (.ref c_InvalidMark) = some false)
    (se_InvalidBill_InvalidMark : PySem.W.subIn K (.ref c_InvalidBill) (.ref c_InvalidMark) = some false)
    (se_InvalidEvening_InvalidMark : PySem.W.subIn K (.ref c_InvalidEvening) (.ref c_InvalidMark) = some false)
    (se_InvalidMark_InvalidMark : PySem.W.subIn K (.ref c_InvalidMark) (.ref c_InvalidMark) = some true)
    (se_UnknownSeat_InvalidMark : PySem.W.subIn K (.ref c_UnknownSeat) (.ref c_InvalidMark) = some false)
    (se_OtherTable_InvalidMark : PySem.W.subIn K (.ref c_OtherTable) (.ref c_InvalidMark) = some false)
    (se_InvalidNumber_InvalidMark : PySem.W.subIn K (.ref c_InvalidNumber) (.ref c_InvalidMark) = some false)
    (ic_InvalidNumber : PySem.W.isClsIn K c_InvalidNumber = true)
    (se_CentError_InvalidNumber : PySem.W.subIn K (.ref c_CentError) (.ref c_InvalidNumber) = some false)
    (se_InvalidBill_InvalidNumber : PySem.W.subIn K (.ref c_InvalidBill) (.ref c_InvalidNumber) = some false)
    (se_InvalidEvening_InvalidNumber : PySem.W.subIn K (.ref c_InvalidEvening) (.ref c_InvalidNumber) = some false)
    (se_InvalidMark_InvalidNumber : PySem.W.subIn K (.ref c_InvalidMark) (.ref c_InvalidNumber) = some false)
    (se_UnknownSeat_InvalidNumber : PySem.W.subIn K (.ref c_UnknownSeat) (.ref c_InvalidNumber) = some false)
    (se_OtherTable_InvalidNumber : PySem.W.subIn K (.ref c_OtherTable) (.ref c_InvalidNumber) = some false)
    (se_InvalidNumber_InvalidNumber : PySem.W.subIn K (.ref c_InvalidNumber) (.ref c_InvalidNumber) = some true)
    (ic_OtherTable : PySem.W.isClsIn K c_OtherTable = true)
    (se_CentError_OtherTable : PySem.W.subIn K (.ref c_CentError) (.ref c_OtherTable) = some false)
    (se_InvalidBill_OtherTable : PySem.W.subIn K (.ref c_InvalidBill) (.ref c_OtherTable) = some false)
    (se_InvalidEvening_OtherTable : PySem.W.subIn K (.ref c_InvalidEvening) (.ref c_OtherTable) = some false)
    (se_InvalidMark_OtherTable : PySem.W.subIn K (.ref c_InvalidMark) (.ref c_OtherTable) = some false)
    (se_UnknownSeat_OtherTable : PySem.W.subIn K (.ref c_UnknownSeat) (.ref c_OtherTable) = some false)
    (se_OtherTable_OtherTable : PySem.W.subIn K (.ref c_OtherTable) (.ref c_OtherTable) = some true)
    (se_InvalidNumber_OtherTable : PySem.W.subIn K (.ref c_InvalidNumber) (.ref c_OtherTable) = some false) :
    Facts K mg ⟨f__wall, f_is_between, f_check_amount, f_check_seats, f_check_seat_count, f_check_bills, f_check_mark, f_check_times, f_no_shares, f_seats_behind, f_split_bill, f_twice, f_repeated, f_lowest_terms, f_long_run, f__law_start, f__law_drawn, f__law_same, f__law_outcome, f__law_rows, f__law_bill, f__law_evening, f__law_fault, f__law_is_bill, f__law_refused, k__law_refused, t__law_refused, f_law, k_law, t_law, c_CentError, c_InvalidBill, c_InvalidEvening, c_InvalidMark, c_UnknownSeat, c_OtherTable, c_InvalidNumber, c_Shares, f_Shares__init_, f_Shares_cents, p_Shares_cents, f_Shares_whole, p_Shares_whole, f_Shares__getitem_, f_Shares__iter_, f_Shares__len_, f_Shares__eq_, f_Shares__add_, f_Shares__sub_, f_Shares__mul_, f_Shares__neg_, f_Shares__abs_, c_Bill, f_Bill__init_, f_Bill_amount, p_Bill_amount, f_Bill_seats, p_Bill_seats, f_Bill_odd_cents, p_Bill_odd_cents, f_Bill__contains_, c_Evening, f_Evening__init_, f_Evening_together, p_Evening_together, f_Evening_seat_count, p_Evening_seat_count, f_Evening_bills, p_Evening_bills, f_Evening__call_, f_Evening__getitem_, f_Evening__iter_, f_Evening__len_, f_Evening__bool_, f_Evening__add_, f_Evening__mul_⟩ where
  z_TypeError := PySem.W.mg_none_of X G z_TypeError
  z_bool := PySem.W.mg_none_of X G z_bool
  z_classmethod := PySem.W.mg_none_of X G z_classmethod
  z_enumerate := PySem.W.mg_none_of X G z_enumerate
  z_int := PySem.W.mg_none_of X G z_int
  z_isinstance := PySem.W.mg_none_of X G z_isinstance
  z_len := PySem.W.mg_none_of X G z_len
  z_list := PySem.W.mg_none_of X G z_list
  z_max := PySem.W.mg_none_of X G z_max
  z_min := PySem.W.mg_none_of X G z_min
  z_property := PySem.W.mg_none_of X G z_property
  z_range := PySem.W.mg_none_of X G z_range
  z_super := PySem.W.mg_none_of X G z_super
  z_tuple := PySem.W.mg_none_of X G z_tuple
  z_zip := PySem.W.mg_none_of X G z_zip
  b_gcd := PySem.W.mg_of X G b_gcd
  i_MAX_AMOUNT := ⟨_, PySem.W.mg_of X G g_MAX_AMOUNT⟩
  i_MIN_SEAT_COUNT := ⟨_, PySem.W.mg_of X G g_MIN_SEAT_COUNT⟩
  i_MAX_TIMES := ⟨_, PySem.W.mg_of X G g_MAX_TIMES⟩
  u__wall := ⟨_, fun_mk (st := s__wall) l1 c1 k1⟩
  g__wall := PySem.W.mg_of X G g__wall
  u_is_between := ⟨_, fun_mk (st := s_is_between) l2 c2 k2⟩
  g_is_between := PySem.W.mg_of X G g_is_between
  u_check_amount := ⟨_, fun_mk (st := s_check_amount) l3 c3 k3⟩
  g_check_amount := PySem.W.mg_of X G g_check_amount
  u_check_seats := ⟨_, fun_mk (st := s_check_seats) l4 c4 k4⟩
  g_check_seats := PySem.W.mg_of X G g_check_seats
  u_check_seat_count := ⟨_, fun_mk (st := s_check_seat_count) l5 c5 k5⟩
  g_check_seat_count := PySem.W.mg_of X G g_check_seat_count
  u_check_bills := ⟨_, fun_mk (st := s_check_bills) l6 c6 k6⟩
  g_check_bills := PySem.W.mg_of X G g_check_bills
  u_check_mark := ⟨_, fun_mk (st := s_check_mark) l7 c7 k7⟩
  g_check_mark := PySem.W.mg_of X G g_check_mark
  u_check_times := ⟨_, fun_mk (st := s_check_times) l8 c8 k8⟩
  g_check_times := PySem.W.mg_of X G g_check_times
  u_no_shares := ⟨_, fun_mk (st := s_no_shares) l9 c9 k9⟩
  g_no_shares := PySem.W.mg_of X G g_no_shares
  u_seats_behind := ⟨_, fun_mk (st := s_seats_behind) l10 c10 k10⟩
  g_seats_behind := PySem.W.mg_of X G g_seats_behind
  u_split_bill := ⟨_, fun_mk (st := s_split_bill) l11 c11 k11⟩
  g_split_bill := PySem.W.mg_of X G g_split_bill
  u_twice := ⟨_, fun_mk (st := s_twice) l12 c12 k12⟩
  g_twice := PySem.W.mg_of X G g_twice
  u_repeated := ⟨_, fun_mk (st := s_repeated) l13 c13 k13⟩
  g_repeated := PySem.W.mg_of X G g_repeated
  u_lowest_terms := ⟨_, fun_mk (st := s_lowest_terms) l14 c14 k14⟩
  g_lowest_terms := PySem.W.mg_of X G g_lowest_terms
  u_long_run := ⟨_, fun_mk (st := s_long_run) l15 c15 k15⟩
  g_long_run := PySem.W.mg_of X G g_long_run
  u__law_start := ⟨_, fun_mk (st := s__law_start) l16 c16 k16⟩
  g__law_start := PySem.W.mg_of X G g__law_start
  u__law_drawn := ⟨_, fun_mk (st := s__law_drawn) l17 c17 k17⟩
  g__law_drawn := PySem.W.mg_of X G g__law_drawn
  u__law_same := ⟨_, fun_mk (st := s__law_same) l18 c18 k18⟩
  g__law_same := PySem.W.mg_of X G g__law_same
  u__law_outcome := ⟨_, fun_mk (st := s__law_outcome) l19 c19 k19⟩
  g__law_outcome := PySem.W.mg_of X G g__law_outcome
  u__law_rows := ⟨_, fun_mk (st := s__law_rows) l20 c20 k20⟩
  g__law_rows := PySem.W.mg_of X G g__law_rows
  u__law_bill := ⟨_, fun_mk (st := s__law_bill) l21 c21 k21⟩
  g__law_bill := PySem.W.mg_of X G g__law_bill
  u__law_evening := ⟨_, fun_mk (st := s__law_evening) l22 c22 k22⟩
  g__law_evening := PySem.W.mg_of X G g__law_evening
  u__law_fault := ⟨_, fun_mk (st := s__law_fault) l23 c23 k23⟩
  g__law_fault := PySem.W.mg_of X G g__law_fault
  u__law_is_bill := ⟨_, fun_mk (st := s__law_is_bill) l24 c24 k24⟩
  g__law_is_bill := PySem.W.mg_of X G g__law_is_bill
  u__law_refused := ⟨_, fun_mk (st := s__law_refused) l25 c25 k25⟩
  uc__law_refused := ⟨_, fun_mk (st := s__law_refused) l25 c25 k25, rfl⟩
  hd__law_refused := hd_of lc25 rh25
  nt__law_refused := rn25
  g__law_refused := PySem.W.mg_of X G g__law_refused
  u_law := ⟨_, fun_mk (st := s_law) l26 c26 k26⟩
  uc_law := ⟨_, fun_mk (st := s_law) l26 c26 k26, rfl⟩
  hd_law := hd_of lc26 rh26
  nt_law := rn26
  tn__law_refused_law := tn__law_refused_law
  g_law := PySem.W.mg_of X G g_law
  x_CentError := ⟨PySem.W.mg_of X G g_CentError, x_CentError, xk_CentError, xs_CentError, xt_CentError⟩
  kg_InvalidBill := PySem.W.mg_of X G g_InvalidBill
  kx_InvalidBill := ⟨_, _, _, ⟨⟨_, _, _, _, _, _, _, _, _, _, _, _, _, _, _, kxa_InvalidBill, kxb_InvalidBill⟩, kxc_InvalidBill, xs_InvalidBill, xt_InvalidBill, xk_InvalidBill⟩, kxg_InvalidBill, kxh_InvalidBill, ⟨_, _, _, _, _, _, _, kxi_InvalidBill⟩, kxj_InvalidBill, ⟨_, _, _, _, _, kxk_InvalidBill, kxl_InvalidBill⟩, rfl, ⟨_, _, _, kxm_InvalidBill⟩, kxn_InvalidBill, kxo_InvalidBill, kxp_InvalidBill, kxq_InvalidBill⟩
  kf_InvalidBill := ⟨kxr_InvalidBill, kxs_InvalidBill, xs_InvalidBill, kxt_InvalidBill⟩
  kn_InvalidBill_index := kxu_InvalidBill_index
  kg_InvalidEvening := PySem.W.mg_of X G g_InvalidEvening
  kx_InvalidEvening := ⟨_, _, _, ⟨⟨_, _, _, _, _, _, _, _, _, _, _, _, _, _, _, kxa_InvalidEvening, kxb_InvalidEvening⟩, kxc_InvalidEvening, xs_InvalidEvening, xt_InvalidEvening, xk_InvalidEvening⟩, kxg_InvalidEvening, kxh_InvalidEvening, ⟨_, _, _, _, _, _, _, kxi_InvalidEvening⟩, kxj_InvalidEvening, ⟨_, _, _, _, _, kxk_InvalidEvening, kxl_InvalidEvening⟩, rfl, ⟨_, _, _, kxm_InvalidEvening⟩, kxn_InvalidEvening, kxo_InvalidEvening, kxp_InvalidEvening, kxq_InvalidEvening⟩
  kf_InvalidEvening := ⟨kxr_InvalidEvening, kxs_InvalidEvening, xs_InvalidEvening, kxt_InvalidEvening⟩
  kn_InvalidEvening_index := kxu_InvalidEvening_index
  x_InvalidMark := ⟨PySem.W.mg_of X G g_InvalidMark, x_InvalidMark, xk_InvalidMark, xs_InvalidMark, xt_InvalidMark⟩
  x_UnknownSeat := ⟨PySem.W.mg_of X G g_UnknownSeat, x_UnknownSeat, xk_UnknownSeat, xs_UnknownSeat, xt_UnknownSeat⟩
  x_OtherTable := ⟨PySem.W.mg_of X G g_OtherTable, x_OtherTable, xk_OtherTable, xs_OtherTable, xt_OtherTable⟩
  x_InvalidNumber := ⟨PySem.W.mg_of X G g_InvalidNumber, x_InvalidNumber, xk_InvalidNumber, xs_InvalidNumber, xt_InvalidNumber⟩
  g_Shares := PySem.W.mg_of X G g_Shares
  cl_Shares := ⟨pg_Shares, hd_Shares, po_Shares, sa_Shares⟩
  si_Shares := ⟨ia_Shares, ib_Shares, ic_Shares, id_Shares⟩
  ob_Shares := ob_Shares
  sf_Shares := sf_Shares
  kit_Shares_tuple := kit_own hd_Shares tyc_Shares kit_Shares_tuple
  kit_Shares_list := kit_own hd_Shares tyc_Shares kit_Shares_list
  kit_Shares_int := kit_own hd_Shares tyc_Shares kit_Shares_int
  na_Shares_cents := na_Shares_cents
  u_Shares__init_ := ⟨_, fun_mk (st := s_Shares__init_) l27 c27 k27⟩
  m_Shares__init_ := ⟨ma_Shares__init_, mb_Shares__init_, k27⟩
  mk_Shares := ⟨mk_Shares, ma_Shares__init_, mb_Shares__init_, kc_Shares⟩
  u_Shares_cents := ⟨_, fun_mk (st := s_Shares_cents) l28 c28 k28⟩
  pr_Shares_cents := ⟨pa_Shares_cents, pb_Shares_cents, pc_Shares_cents, ⟨_, pd_Shares_cents⟩⟩
  u_Shares_whole := ⟨_, fun_mk (st := s_Shares_whole) l29 c29 k29⟩
  pr_Shares_whole := ⟨pa_Shares_whole, pb_Shares_whole, pc_Shares_whole, ⟨_, pd_Shares_whole⟩⟩
  u_Shares__getitem_ := ⟨_, fun_mk (st := s_Shares__getitem_) l30 c30 k30⟩
  m_Shares__getitem_ := ⟨ma_Shares__getitem_, mb_Shares__getitem_, k30⟩
  u_Shares__iter_ := ⟨_, fun_mk (st := s_Shares__iter_) l31 c31 k31⟩
  m_Shares__iter_ := ⟨ma_Shares__iter_, mb_Shares__iter_, k31⟩
  u_Shares__len_ := ⟨_, fun_mk (st := s_Shares__len_) l32 c32 k32⟩
  m_Shares__len_ := ⟨ma_Shares__len_, mb_Shares__len_, k32⟩
  u_Shares__eq_ := ⟨_, fun_mk (st := s_Shares__eq_) l33 c33 k33⟩
  m_Shares__eq_ := ⟨ma_Shares__eq_, mb_Shares__eq_, k33⟩
  ne_Shares__eq_ := ⟨na_Shares__eq_, nf_Shares__eq_, nt_Shares__eq_⟩
  u_Shares__add_ := ⟨_, fun_mk (st := s_Shares__add_) l34 c34 k34⟩
  m_Shares__add_ := ⟨ma_Shares__add_, mb_Shares__add_, k34⟩
  u_Shares__sub_ := ⟨_, fun_mk (st := s_Shares__sub_) l35 c35 k35⟩
  m_Shares__sub_ := ⟨ma_Shares__sub_, mb_Shares__sub_, k35⟩
  u_Shares__mul_ := ⟨_, fun_mk (st := s_Shares__mul_) l36 c36 k36⟩
  m_Shares__mul_ := ⟨ma_Shares__mul_, mb_Shares__mul_, k36⟩
  oi_Shares__mul_ := ⟨oa_Shares__mul_, ⟨_, ob_Shares__mul_⟩, ⟨_, oc_Shares__mul_⟩, od_Shares__mul_⟩
  u_Shares__neg_ := ⟨_, fun_mk (st := s_Shares__neg_) l37 c37 k37⟩
  m_Shares__neg_ := ⟨ma_Shares__neg_, mb_Shares__neg_, k37⟩
  u_Shares__abs_ := ⟨_, fun_mk (st := s_Shares__abs_) l38 c38 k38⟩
  m_Shares__abs_ := ⟨ma_Shares__abs_, mb_Shares__abs_, k38⟩
  g_Bill := PySem.W.mg_of X G g_Bill
  cl_Bill := ⟨pg_Bill, hd_Bill, po_Bill, sa_Bill⟩
  si_Bill := ⟨ia_Bill, ib_Bill, ic_Bill, id_Bill⟩
  ob_Bill := ob_Bill
  sf_Bill := sf_Bill
  kit_Bill_tuple := kit_own hd_Bill tyc_Bill kit_Bill_tuple
  kit_Bill_list := kit_own hd_Bill tyc_Bill kit_Bill_list
  kit_Bill_int := kit_own hd_Bill tyc_Bill kit_Bill_int
  na_Bill_amount := na_Bill_amount
  na_Bill_seats := na_Bill_seats
  cr_Bill := ⟨cra_Bill, crb_Bill⟩
  cv_Bill_MAX_SEATS := ⟨_, cva_Bill_MAX_SEATS, ⟨_, rfl⟩⟩
  u_Bill__init_ := ⟨_, fun_mk (st := s_Bill__init_) l39 c39 k39⟩
  m_Bill__init_ := ⟨ma_Bill__init_, mb_Bill__init_, k39⟩
  mk_Bill := ⟨mk_Bill, ma_Bill__init_, mb_Bill__init_, kc_Bill⟩
  u_Bill_amount := ⟨_, fun_mk (st := s_Bill_amount) l40 c40 k40⟩
  pr_Bill_amount := ⟨pa_Bill_amount, pb_Bill_amount, pc_Bill_amount, ⟨_, pd_Bill_amount⟩⟩
  u_Bill_seats := ⟨_, fun_mk (st := s_Bill_seats) l41 c41 k41⟩
  pr_Bill_seats := ⟨pa_Bill_seats, pb_Bill_seats, pc_Bill_seats, ⟨_, pd_Bill_seats⟩⟩
  u_Bill_odd_cents := ⟨_, fun_mk (st := s_Bill_odd_cents) l42 c42 k42⟩
  pr_Bill_odd_cents := ⟨pa_Bill_odd_cents, pb_Bill_odd_cents, pc_Bill_odd_cents, ⟨_, pd_Bill_odd_cents⟩⟩
  u_Bill__contains_ := ⟨_, fun_mk (st := s_Bill__contains_) l43 c43 k43⟩
  m_Bill__contains_ := ⟨ma_Bill__contains_, mb_Bill__contains_, k43⟩
  g_Evening := PySem.W.mg_of X G g_Evening
  cl_Evening := ⟨pg_Evening, hd_Evening, po_Evening, sa_Evening⟩
  si_Evening := ⟨ia_Evening, ib_Evening, ic_Evening, id_Evening⟩
  ob_Evening := ob_Evening
  sf_Evening := sf_Evening
  kit_Evening_tuple := kit_own hd_Evening tyc_Evening kit_Evening_tuple
  kit_Evening_list := kit_own hd_Evening tyc_Evening kit_Evening_list
  kit_Evening_int := kit_own hd_Evening tyc_Evening kit_Evening_int
  na_Evening_seat_count := na_Evening_seat_count
  na_Evening_bills := na_Evening_bills
  cr_Evening := ⟨cra_Evening, crb_Evening⟩
  cv_Evening_MAX_BILLS := ⟨_, cva_Evening_MAX_BILLS, ⟨_, rfl⟩⟩
  u_Evening__init_ := ⟨_, fun_mk (st := s_Evening__init_) l44 c44 k44⟩
  m_Evening__init_ := ⟨ma_Evening__init_, mb_Evening__init_, k44⟩
  mk_Evening := ⟨mk_Evening, ma_Evening__init_, mb_Evening__init_, kc_Evening⟩
  u_Evening_together := ⟨_, fun_mk (st := s_Evening_together) l45 c45 k45⟩
  cm_Evening_together := ⟨cma_Evening_together, ⟨_, cmb_Evening_together⟩, cmc_Evening_together⟩
  u_Evening_seat_count := ⟨_, fun_mk (st := s_Evening_seat_count) l46 c46 k46⟩
  pr_Evening_seat_count := ⟨pa_Evening_seat_count, pb_Evening_seat_count, pc_Evening_seat_count, ⟨_, pd_Evening_seat_count⟩⟩
  u_Evening_bills := ⟨_, fun_mk (st := s_Evening_bills) l47 c47 k47⟩
  pr_Evening_bills := ⟨pa_Evening_bills, pb_Evening_bills, pc_Evening_bills, ⟨_, pd_Evening_bills⟩⟩
  u_Evening__call_ := ⟨_, fun_mk (st := s_Evening__call_) l48 c48 k48⟩
  m_Evening__call_ := ⟨ma_Evening__call_, mb_Evening__call_, k48⟩
  co_Evening := ⟨ma_Evening__call_, mb_Evening__call_, coc_Evening__call_⟩
  u_Evening__getitem_ := ⟨_, fun_mk (st := s_Evening__getitem_) l49 c49 k49⟩
  m_Evening__getitem_ := ⟨ma_Evening__getitem_, mb_Evening__getitem_, k49⟩
  u_Evening__iter_ := ⟨_, fun_mk (st := s_Evening__iter_) l50 c50 k50⟩
  m_Evening__iter_ := ⟨ma_Evening__iter_, mb_Evening__iter_, k50⟩
  u_Evening__len_ := ⟨_, fun_mk (st := s_Evening__len_) l51 c51 k51⟩
  m_Evening__len_ := ⟨ma_Evening__len_, mb_Evening__len_, k51⟩
  u_Evening__bool_ := ⟨_, fun_mk (st := s_Evening__bool_) l52 c52 k52⟩
  m_Evening__bool_ := ⟨ma_Evening__bool_, mb_Evening__bool_, k52⟩
  u_Evening__add_ := ⟨_, fun_mk (st := s_Evening__add_) l53 c53 k53⟩
  m_Evening__add_ := ⟨ma_Evening__add_, mb_Evening__add_, k53⟩
  u_Evening__mul_ := ⟨_, fun_mk (st := s_Evening__mul_) l54 c54 k54⟩
  m_Evening__mul_ := ⟨ma_Evening__mul_, mb_Evening__mul_, k54⟩
  oi_Evening__mul_ := ⟨oa_Evening__mul_, ⟨_, ob_Evening__mul_⟩, ⟨_, oc_Evening__mul_⟩, od_Evening__mul_⟩
  ex_CentError_InvalidBill := exm_of xs_InvalidBill xt_InvalidBill ic_InvalidBill se_CentError_InvalidBill
  ex_InvalidBill_InvalidBill := exm_of xs_InvalidBill xt_InvalidBill ic_InvalidBill se_InvalidBill_InvalidBill
  ex_InvalidEvening_InvalidBill := exm_of xs_InvalidBill xt_InvalidBill ic_InvalidBill se_InvalidEvening_InvalidBill
  ex_InvalidMark_InvalidBill := exm_of xs_InvalidBill xt_InvalidBill ic_InvalidBill se_InvalidMark_InvalidBill
  ex_UnknownSeat_InvalidBill := exm_of xs_InvalidBill xt_InvalidBill ic_InvalidBill se_UnknownSeat_InvalidBill
  ex_OtherTable_InvalidBill := exm_of xs_InvalidBill xt_InvalidBill ic_InvalidBill se_OtherTable_InvalidBill
  ex_InvalidNumber_InvalidBill := exm_of xs_InvalidBill xt_InvalidBill ic_InvalidBill se_InvalidNumber_InvalidBill
  ex_CentError_InvalidEvening := exm_of xs_InvalidEvening xt_InvalidEvening ic_InvalidEvening se_CentError_InvalidEvening
  ex_InvalidBill_InvalidEvening := exm_of xs_InvalidEvening xt_InvalidEvening ic_InvalidEvening se_InvalidBill_InvalidEvening
  ex_InvalidEvening_InvalidEvening := exm_of xs_InvalidEvening xt_InvalidEvening ic_InvalidEvening se_InvalidEvening_InvalidEvening
  ex_InvalidMark_InvalidEvening := exm_of xs_InvalidEvening xt_InvalidEvening ic_InvalidEvening se_InvalidMark_InvalidEvening
  ex_UnknownSeat_InvalidEvening := exm_of xs_InvalidEvening xt_InvalidEvening ic_InvalidEvening se_UnknownSeat_InvalidEvening
  ex_OtherTable_InvalidEvening := exm_of xs_InvalidEvening xt_InvalidEvening ic_InvalidEvening se_OtherTable_InvalidEvening
  ex_InvalidNumber_InvalidEvening := exm_of xs_InvalidEvening xt_InvalidEvening ic_InvalidEvening se_InvalidNumber_InvalidEvening
  ex_CentError_InvalidMark := exm_of xs_InvalidMark xt_InvalidMark ic_InvalidMark se_CentError_InvalidMark
  ex_InvalidBill_InvalidMark := exm_of xs_InvalidMark xt_InvalidMark ic_InvalidMark se_InvalidBill_InvalidMark
  ex_InvalidEvening_InvalidMark := exm_of xs_InvalidMark xt_InvalidMark ic_InvalidMark se_InvalidEvening_InvalidMark
  ex_InvalidMark_InvalidMark := exm_of xs_InvalidMark xt_InvalidMark ic_InvalidMark se_InvalidMark_InvalidMark
  ex_UnknownSeat_InvalidMark := exm_of xs_InvalidMark xt_InvalidMark ic_InvalidMark se_UnknownSeat_InvalidMark
  ex_OtherTable_InvalidMark := exm_of xs_InvalidMark xt_InvalidMark ic_InvalidMark se_OtherTable_InvalidMark
  ex_InvalidNumber_InvalidMark := exm_of xs_InvalidMark xt_InvalidMark ic_InvalidMark se_InvalidNumber_InvalidMark
  ex_CentError_InvalidNumber := exm_of xs_InvalidNumber xt_InvalidNumber ic_InvalidNumber se_CentError_InvalidNumber
  ex_InvalidBill_InvalidNumber := exm_of xs_InvalidNumber xt_InvalidNumber ic_InvalidNumber se_InvalidBill_InvalidNumber
  ex_InvalidEvening_InvalidNumber := exm_of xs_InvalidNumber xt_InvalidNumber ic_InvalidNumber se_InvalidEvening_InvalidNumber
  ex_InvalidMark_InvalidNumber := exm_of xs_InvalidNumber xt_InvalidNumber ic_InvalidNumber se_InvalidMark_InvalidNumber
  ex_UnknownSeat_InvalidNumber := exm_of xs_InvalidNumber xt_InvalidNumber ic_InvalidNumber se_UnknownSeat_InvalidNumber
  ex_OtherTable_InvalidNumber := exm_of xs_InvalidNumber xt_InvalidNumber ic_InvalidNumber se_OtherTable_InvalidNumber
  ex_InvalidNumber_InvalidNumber := exm_of xs_InvalidNumber xt_InvalidNumber ic_InvalidNumber se_InvalidNumber_InvalidNumber
  ex_CentError_OtherTable := exm_of xs_OtherTable xt_OtherTable ic_OtherTable se_CentError_OtherTable
  ex_InvalidBill_OtherTable := exm_of xs_OtherTable xt_OtherTable ic_OtherTable se_InvalidBill_OtherTable
  ex_InvalidEvening_OtherTable := exm_of xs_OtherTable xt_OtherTable ic_OtherTable se_InvalidEvening_OtherTable
  ex_InvalidMark_OtherTable := exm_of xs_OtherTable xt_OtherTable ic_OtherTable se_InvalidMark_OtherTable
  ex_UnknownSeat_OtherTable := exm_of xs_OtherTable xt_OtherTable ic_OtherTable se_UnknownSeat_OtherTable
  ex_OtherTable_OtherTable := exm_of xs_OtherTable xt_OtherTable ic_OtherTable se_OtherTable_OtherTable
  ex_InvalidNumber_OtherTable := exm_of xs_OtherTable xt_OtherTable ic_OtherTable se_InvalidNumber_OtherTable
def TL (a : Ad) : List (Addr × Str) := [(a.t__law_refused, "_law_refused" ++ ".<locals>." ++ "<lambda>"), (a.t_law, "law" ++ ".<locals>." ++ "<lambda>")]
theorem tl_in__law_refused {a : Ad} {q : Str} (h : q = "_law_refused" ++ ".<locals>." ++ "<lambda>") : (a.t__law_refused, q) ∈ TL a := by subst h; simp [TL]
theorem tl_one__law_refused {K : PySem.W.Frag} {mg : Str → Option Value} {a : Ad} (T : Facts K mg a) {q : Str} (h : q = "_law_refused" ++ ".<locals>." ++ "<lambda>") : ∀ p ∈ TL a, p.1 = a.t__law_refused → p.2 = q := fun p hp e => by
  subst h
  simp only [TL, List.mem_cons, List.not_mem_nil, or_false] at hp
  rcases hp with rfl | rfl
  · rfl
  · exact absurd e.symm T.tn__law_refused_law
theorem tl_in_law {a : Ad} {q : Str} (h : q = "law" ++ ".<locals>." ++ "<lambda>") : (a.t_law, q) ∈ TL a := by subst h; simp [TL]
theorem tl_one_law {K : PySem.W.Frag} {mg : Str → Option Value} {a : Ad} (T : Facts K mg a) {q : Str} (h : q = "law" ++ ".<locals>." ++ "<lambda>") : ∀ p ∈ TL a, p.1 = a.t_law → p.2 = q := fun p hp e => by
  subst h
  simp only [TL, List.mem_cons, List.not_mem_nil, or_false] at hp
  rcases hp with rfl | rfl
  · exact absurd e T.tn__law_refused_law
  · rfl
/-! tactics of this text: st one step, go as many as go -/
local macro_rules | `(tactic| walk_at "ar") => `(tactic| first | assumption | omega | (show (_ : Int) < _; omega) | decide)
local macro_rules | `(tactic| walk_at "st") => `(tactic| first
  | with_reducible refine' w_seq ?_
  | with_reducible refine' w_asg ?_
  | with_reducible refine' w_name ?_
  | with_reducible refine' w_c ?_
  | with_reducible refine' w_op ?_
  | with_reducible refine' w_ix ?_
  | with_reducible refine' w_at ?_
  | with_reducible refine' w_cons ?_
  | with_reducible refine' w_nil ?_
  | with_reducible refine' w_ret ?_
  | with_reducible refine' w_if ?_
  | with_reducible refine' w_test ?_
  | with_reducible refine' w_tr ?_
  | with_reducible refine' w_un ?_
  | with_reducible refine' w_andV ?_
  | with_reducible refine' w_orV ?_
  | with_reducible refine' w_notA ?_
  | with_reducible refine' w_ch ?_
  | with_reducible refine' w_and ?_
  | with_reducible refine' w_or ?_
  | with_reducible refine' w_not ?_
  | with_reducible refine' w_ifx ?_
  | with_reducible refine' w_tup ?_
  | with_reducible refine' w_lst ?_
  | with_reducible refine' w_next ?_
  | with_reducible refine' w_drop ?_
  | with_reducible refine' w_retN ?_
  | ((with_reducible refine' w_var ?h ?_); (case h => exact rfl))
  | ((with_reducible refine' w_bi ?h ?_); (case h => walk_at "mg"))
  | ((with_reducible refine' w_bv ?h ?_); (case h => walk_at "mg"))
  | ((with_reducible refine' w_gv ?h ?_); (case h => walk_at "mg"))
  | ((with_reducible refine' w_gl ?h ?k ?_); (case h => walk_at "mg"); (case k => walk_at "kp"))
  | ((with_reducible refine' w_glS ?h ?k ?_); (case h => walk_at "mg"); (case k => walk_at "kp"))
  | with_reducible refine' bl_ex ?_
  | with_reducible refine' iteT ?_
  | with_reducible refine' iteF ?_
  | with_reducible refine' ite_nf ?_
  | with_reducible refine' ite_nt ?_
  | with_reducible refine' s_add ?_
  | with_reducible refine' s_sub ?_
  | with_reducible refine' s_lt ?_
  | with_reducible refine' s_le ?_
  | with_reducible refine' s_gt ?_
  | with_reducible refine' s_ge ?_
  | with_reducible refine' s_eqI ?_
  | with_reducible refine' s_neI ?_
  | with_reducible refine' s_eqB ?_
  | with_reducible refine' s_neB ?_
  | with_reducible refine' s_truB ?_
  | with_reducible refine' s_truI ?_
  | with_reducible refine' s_neg ?_
  | ((with_reducible refine' s_mod ?h ?_); (case h => walk_at "ar")))
local macro_rules | `(tactic| walk_at "go") => `(tactic| repeat walk_at "st")

local macro_rules | `(tactic| walk_at "mg") => `(tactic| first | assumption | exact Facts.z_len (by assumption) | exact Facts.z_isinstance (by assumption) | exact Facts.z_int (by assumption) | exact Facts.z_bool (by assumption) | exact Facts.g_Shares (by assumption) | exact Facts.g_is_between (by assumption))
/-! ### the program: is_between, Shares -/
section
variable {P : Program} {w : World} {K : PySem.W.Frag} {mg : Str → Option Value} {base : Heap} {a : Ad}
/-- shares of cs stand at p -/
def ShAt (C : Addr) (H : Hp) (p : Addr) (cs : List Int) : Prop := ∃ dx t, H p = some (.ins C dx [("_cents", .ref t)]) ∧ H t = some (.tup (cs.map V.int))
theorem ShAt.same {C : Addr} {H H' : Hp} {p : Addr} {cs : List Int} (h : ShAt C H p cs) (s : Same H H') : ShAt C H' p cs := by
  obtain ⟨dx, t, h1, h2⟩ := h
  exact ⟨dx, t, s _ _ h1, s _ _ h2⟩
theorem look_cents {t : Addr} : List.lookup ("_cents" : Str) [(("_cents" : Str), V.ref t)] = some (.ref t) := by simp [List.lookup]

def spBetween : Sp := fun vs H Q _ => ∃ i lo hi : Int, vs = [.int i, .int lo, .int hi] ∧ Q (.bl (decide (lo ≤ i) && decide (i ≤ hi))) H
theorem ok_between (T : Facts K mg a) : FnR P w K mg base (L2.CX P w) 1 a.f_is_between spBetween := by
  obtain ⟨fd, F⟩ := T.u_is_between
  refine fnr_ok F sc_is_between (F.binds fun _ _ _ _ _ _ us hl => match us, hl with | [_, _, _], _ => rfl) (fun vs H Q E h => ?_) (fun cdv A outer s H vs Q E hr h => ?_)
  · obtain ⟨i, lo, hi, rfl, _⟩ := h
    rfl
  · obtain ⟨i, lo, hi, rfl, q⟩ := h
    refine ⟨_, (pss_one (ps_ret (pe_and (pe_biA (id := "isinstance") Like.refl pas_main (by rfl) (by decide +kernel) (pa_cons (pv 0) (pa_cons (pe_bvA (v := .ty "int") Like.refl (by rfl) (by decide +kernel) rfl) pa_nil))) (pe_and (pe_notA Like.refl pas_main (pe_biA (id := "isinstance") Like.refl pas_main (by rfl) (by decide +kernel) (pa_cons (pv 0) (pa_cons (pe_bvA (v := .ty "bool") Like.refl (by rfl) (by decide +kernel) rfl) pa_nil)))) (pe_one (pe_chA Like.refl pas_main (pv 1) (pv 0) (pv 2))))))), ?_⟩
    walk_at "go"
    refine s_isiI (b := true) (by decide +kernel) ?_
    walk_at "go"
    refine s_isiI (b := false) (by decide +kernel) ?_
    walk_at "go"
    refine ite_d (fun h1 => ?_) (fun h1 => ?_)
    · rw [decide_eq_true h1] at q
      walk_at "go"
      exact q
    · rw [decide_eq_false h1] at q
      exact q

def spShInit (C : Addr) : Sp := fun vs H Q _ => ∃ x t dx, vs = [.ref x, .ref t] ∧ H x = some (.ins C dx []) ∧ Q .non (upd H x (.ins C dx [("_cents", .ref t)]))
theorem ok_sh_init (T : Facts K mg a) : FnR P w K mg base (L2.CX P w) 1 a.f_Shares__init_ (fun vs H Q E => ∃ ws rest, vs = ws ++ rest ∧ ws.length = ["self"].length ∧ rest.length ≤ sizeLine ∧ ∀ p, H p = Option.none → spShInit a.c_Shares (ws ++ [V.ref p]) (upd H p (.tup rest)) Q E) := by
  obtain ⟨fd, F⟩ := T.u_Shares__init_
  refine fnr_star1 (p1 := "self") (pv := "cents") F sc_Shares__init_ (fun _ _ _ _ _ _ _ => rfl) (fun _ _ _ _ _ _ _ _ _ => rfl) (fun cdv A outer s H vs Q E hr h => ?_)
  obtain ⟨x, t, dx, rfl, hx, q⟩ := h
  refine ⟨_, (pss_one (ps_fld (pv 0) (pv 1) rfl)), ?_⟩
  refine w_fld ?_
  walk_at "go"
  exact ⟨x, a.c_Shares, dx, [], rfl, hx, T.cl_Shares, T.na_Shares_cents, by decide, q⟩
/-- Shares(*cs) -/
theorem s_shares {X0 : Cx} {E : XK} {H : Hp} {Q : VK} {cs : List Int} (T : Facts X0.K X0.mg a) (F : Fn X0 1 a.f_Shares__init_ (fun vs H Q E => ∃ ws rest, vs = ws ++ rest ∧ ws.length = ["self"].length ∧ rest.length ≤ sizeLine ∧ ∀ p, H p = Option.none → spShInit a.c_Shares (ws ++ [V.ref p]) (upd H p (.tup rest)) Q E)) (hr : Room 2 X0.A) (hl : cs.length ≤ 100000)
    (q : ∀ p H', H p = none → Same H H' → ShAt a.c_Shares H' p cs → Q (.ref p) H') : ∃ r, CaD X0 E (.ref a.c_Shares) r ∧ r (cs.map V.int) H Q := by
  refine s_mk T.mk_Shares F hr fun x dx hx hdx hne => ⟨[.ref x], cs.map V.int, rfl, rfl, by rw [List.length_map]; exact sz5 hl, fun t ht => ⟨x, t, dx, rfl, ?_, ?_⟩⟩
  · rw [upd_ne (fun z => by subst z; rw [upd_same] at ht; cases ht), upd_same]
  · have n1 : t ≠ x := fun z => by subst z; rw [upd_same] at ht; cases ht
    have n2 : t ≠ dx := fun z => by subst z; rw [upd_ne hne, upd_same] at ht; cases ht
    rw [upd_ne n1, upd_ne n2] at ht
    refine ⟨rfl, q x _ hx (fun b o e => ?_) ⟨dx, t, upd_same, ?_⟩⟩
    · rw [upd_ne (ne_of_none e hx), upd_ne (ne_of_none e ht), upd_ne (ne_of_none e hx), upd_ne (ne_of_none e hdx)]
      exact e
    · rw [upd_ne n1, upd_same]

def spShCents (C : Addr) : Sp := fun vs H Q _ => ∃ p dx t, vs = [.ref p] ∧ H p = some (.ins C dx [("_cents", .ref t)]) ∧ Q (.ref t) H
theorem ok_sh_cents (T : Facts K mg a) : FnR P w K mg base (L2.CX P w) 1 a.f_Shares_cents (spShCents a.c_Shares) := by
  obtain ⟨fd, F⟩ := T.u_Shares_cents
  refine fnr_ok F sc_Shares_cents (F.binds fun _ _ _ _ _ _ us hl => match us, hl with | [_], _ => rfl) (fun vs H Q E h => ?_) (fun cdv A outer s H vs Q E hr h => ?_)
  · obtain ⟨p, dx, t, rfl, _⟩ := h
    rfl
  · obtain ⟨p, dx, t, rfl, hp, q⟩ := h
    refine ⟨_, (pss_one (ps_ret (pe_atA Like.refl pas_main (pv 0)))), ?_⟩
    walk_at "go"
    exact s_fld hp T.cl_Shares T.na_Shares_cents look_cents q
def spShLen (C : Addr) : Sp := fun vs H Q _ => ∃ p cs, vs = [.ref p] ∧ ShAt C H p cs ∧ Q (.int (cs.length : Nat)) H
theorem ok_sh_len (T : Facts K mg a) : FnR P w K mg base (L2.CX P w) 1 a.f_Shares__len_ (spShLen a.c_Shares) := by
  obtain ⟨fd, F⟩ := T.u_Shares__len_
  refine fnr_ok F sc_Shares__len_ (F.binds fun _ _ _ _ _ _ us hl => match us, hl with | [_], _ => rfl) (fun vs H Q E h => ?_) (fun cdv A outer s H vs Q E hr h => ?_)
  · obtain ⟨p, cs, rfl, _⟩ := h
    rfl
  · obtain ⟨p, cs, rfl, ⟨dx, t, hp, ht⟩, q⟩ := h
    refine ⟨_, (pss_one (ps_ret (pe_biA (id := "len") Like.refl pas_main (by rfl) (by decide +kernel) (pa_cons (pe_atA Like.refl pas_main (pv 0)) pa_nil)))), ?_⟩
    walk_at "go"
    refine s_fld hp T.cl_Shares T.na_Shares_cents look_cents ?_
    walk_at "go"
    refine s_lenT (SqT.of ht) ?_
    rw [List.length_map]
    exact q
def spShGet (C U : Addr) : Sp := fun vs H Q E => ∃ p cs i, vs = [.ref p, .int i] ∧ ShAt C H p cs ∧ (∀ c, 0 ≤ i → cs[i.toNat]? = some c → Q (.int c) H) ∧ (¬ (0 ≤ i ∧ i < (cs.length : Nat)) → E (.ref U) none H)
theorem ok_sh_get (T : Facts K mg a) : FnR P w K mg base (L2.CX P w) 2 a.f_Shares__getitem_ (spShGet a.c_Shares a.c_UnknownSeat) := by
  obtain ⟨fd, F⟩ := T.u_Shares__getitem_
  have GB : FnR P w K mg base (L2.CX P w) 1 a.f_is_between spBetween := ok_between T
  refine fnr_ok F sc_Shares__getitem_ (F.binds fun _ _ _ _ _ _ us hl => match us, hl with | [_, _], _ => rfl) (fun vs H Q E h => ?_) (fun cdv A outer s H vs Q E hr h => ?_)
  · obtain ⟨p, cs, i, rfl, _⟩ := h
    rfl
  · obtain ⟨p, cs, i, rfl, ⟨dx, t, hp, ht⟩, q, e⟩ := h
    refine ⟨_, (pss_cons (ps_if (pt_not (pt_trA Like.refl pas_main (pe_glA Like.refl pas_main (by rfl) (pa_cons (pv 1) (pa_cons (pe_int) (pa_cons (pe_opA Like.refl pas_main (pe_biA (id := "len") Like.refl pas_main (by rfl) (by decide +kernel) (pa_cons (pe_atA Like.refl pas_main (pv 0)) pa_nil)) (pe_int)) pa_nil)))))) (pss_one (ps_raA rfl tk_main (by rfl))) pss_nil)
    (pss_one (ps_ret (pe_ixA Like.refl pas_main (pe_atA Like.refl pas_main (pv 0)) (pv 1))))), ?_⟩
    refine w_seq (w_if (w_not (w_tr (w_gl T.g_is_between (Fun.kp T.u_is_between.choose_spec) ?_))))
    walk_at "go"
    refine s_fld hp T.cl_Shares T.na_Shares_cents look_cents ?_
    walk_at "go"
    refine s_lenT (SqT.of ht) ?_
    walk_at "go"
    refine s_fn GB hr ⟨i, 0, _, rfl, ?_⟩
    walk_at "go"
    rw [List.length_map]
    by_cases h0 : 0 ≤ i
    · by_cases h1 : i < (cs.length : Nat)
      · rw [decide_eq_true h0, decide_eq_true (show i ≤ (cs.length : Int) - 1 by omega)]
        refine iteF ?_
        walk_at "go"
        refine s_fld hp T.cl_Shares T.na_Shares_cents look_cents ?_
        walk_at "go"
        have hn : i.toNat < cs.length := by omega
        refine s_ixT (SqT.of ht) (at_of (j := i.toNat) (by omega) (by rw [List.getElem?_map, List.getElem?_eq_getElem hn] <;> rfl)) (q _ h0 (List.getElem?_eq_getElem hn))
      · rw [decide_eq_false (show ¬ i ≤ (cs.length : Int) - 1 by omega), Bool.and_false]
        exact iteT ⟨_, T.x_UnknownSeat, e fun z => h1 z.2⟩
    · rw [decide_eq_false h0]
      exact iteT ⟨_, T.x_UnknownSeat, e fun z => h0 z.1⟩
def spShEq (K : PySem.W.Frag) (C : Addr) : Sp := fun vs H Q _ => ∃ p cs y, vs = [.ref p, y] ∧ ShAt C H p cs ∧
  ((∃ q ds, y = .ref q ∧ ShAt C H q ds ∧ Q (.bl (decide (cs = ds))) H) ∨ (∃ t, TyX K H y (.type t) ∧ PySem.W.kitOne K (.type t) (.ref C) = some false ∧ Q (.bl false) H))
theorem ok_sh_eq (T : Facts K mg a) : FnR P w K mg base (L2.CX P w) 1 a.f_Shares__eq_ (spShEq K a.c_Shares) := by
  obtain ⟨fd, F⟩ := T.u_Shares__eq_
  refine fnr_ok F sc_Shares__eq_ (F.binds fun _ _ _ _ _ _ us hl => match us, hl with | [_, _], _ => rfl) (fun vs H Q E h => ?_) (fun cdv A outer s H vs Q E hr h => ?_)
  · obtain ⟨p, cs, y, rfl, _⟩ := h
    rfl
  · obtain ⟨p, cs, y, rfl, ⟨dx, t, hp, ht⟩, h⟩ := h
    have hr' := hr.units
    refine ⟨_, (pss_one (ps_ret (pe_and (pe_biA (id := "isinstance") Like.refl pas_main (by rfl) (by decide +kernel) (pa_cons (pv 1) (pa_cons (pe_gvA Like.refl (by rfl)) pa_nil))) (pe_one (pe_cmpA Like.refl pas_main (pe_atA Like.refl pas_main (pv 0)) (pe_atA Like.refl pas_main (pv 1)) (nomark _)))))), ?_⟩
    walk_at "go"
    rcases h with ⟨q, ds, rfl, ⟨dy, u, hq, hu⟩, k⟩ | ⟨ty, hy, hk, k⟩
    · refine s_isiC (tyx_ins hq T.cl_Shares T.si_Shares) kit_self ?_
      walk_at "go"
      refine s_fld hp T.cl_Shares T.na_Shares_cents look_cents ?_
      walk_at "go"
      refine s_fld hq T.cl_Shares T.na_Shares_cents look_cents ?_
      exact s_eqTups hr' (SqT.of ht) (SqT.of hu) k
    · refine s_isiC hy hk ?_
      walk_at "go"
      exact k
/-- Shares by the class's new object -/
abbrev InitSp (C : Addr) : Sp := fun vs H Q E => ∃ ws rest, vs = ws ++ rest ∧ ws.length = ["self"].length ∧ rest.length ≤ sizeLine ∧ ∀ p, H p = Option.none → spShInit C (ws ++ [V.ref p]) (upd H p (.tup rest)) Q E
def spShMul (C : Addr) : Sp := fun vs H Q _ => ∃ p cs i, vs = [.ref p, .int i] ∧ ShAt C H p cs ∧ cs.length ≤ 1000 ∧ (∀ c ∈ cs, CMul c i) ∧ ∀ r H', H r = none → Same H H' → ShAt C H' r (cs.map (· * i)) → Q (.ref r) H'
theorem ok_sh_mul (T : Facts K mg a) : FnR P w K mg base (L2.CX P w) 3 a.f_Shares__mul_ (spShMul a.c_Shares) := by
  obtain ⟨fd, F⟩ := T.u_Shares__mul_
  have GI : FnR P w K mg base (L2.CX P w) 1 a.f_Shares__init_ (InitSp a.c_Shares) := ok_sh_init T
  refine fnr_ok F sc_Shares__mul_ (F.binds fun _ _ _ _ _ _ us hl => match us, hl with | [_, _], _ => rfl) (fun vs H Q E h => ?_) (fun cdv A outer s H vs Q E hr h => ?_)
  · obtain ⟨p, cs, i, rfl, _⟩ := h
    rfl
  · obtain ⟨p, cs, i, rfl, ⟨dx, t, hp, ht⟩, hl, hm, q⟩ := h
    refine ⟨_, (pss_cons (ps_setLc (i := 2) (own := [("cents", 3)]) (g := gName 3) (tt := tYes) rfl sc_Shares__mul_.nd rfl rfl (sw_true rfl rfl rfl (by decide +kernel)) (pi_seqA Like.refl (pe_atA Like.refl pas_main (pv 0))) (blkOk_by (own := [("cents", 3)]) (N := N_Shares__mul_) (sc := defScope s_Shares__mul_) (by decide +kernel)) (fun _ _ _ _ _ => (pg_name (i := 3) sc_Shares__mul_.nd rfl (by first | exact Or.inl rfl | exact Or.inr rfl))) (fun _ _ _ _ _ => pts_nil) (fun _ _ _ _ _ => (pe_opA ⟨rfl, rfl, rfl, rfl, rfl, rfl, rfl⟩ passL (pv 3) (pv 1))))
    (pss_one (ps_ret (pe_glS Like.refl pas_main (by rfl) (pv 2))))), ?_⟩
    refine w_seq (w_asg ?_)
    refine c_tup (a := t) (xs := cs.map V.int) (fun k => (cs.take k).map fun c => V.int (c * i)) rfl (fun k hk => ?_) (SqT.of ht) (fun _ => rfl) (fun k x H' hx s1 => ?_) (fun r H' hr0 s1 hL => ?_) (fun R k => ?_)
    · rw [List.length_map, List.length_take]
      omega
    · rw [List.getElem?_map] at hx
      cases e : cs[k]? with
      | none => rw [e] at hx; cases hx
      | some c =>
        rw [e] at hx
        cases hx
        have ek : (cs.take (k + 1)).map (fun c => V.int (c * i)) = (cs.take k).map (fun c => V.int (c * i)) ++ [V.int (c * i)] := by
          rw [List.take_add_one, e]
          simp
        show Turn1 _ _ _ _ _ ((cs.take (k + 1)).map fun c => V.int (c * i))
        rw [ek]
        refine turn1_map fun R kk => ?_
        walk_at "go"
        exact s_mul (hm c (List.mem_of_getElem? e)) (kk _ (Same.refl _))
    · rw [List.length_map] at hL
      rw [List.take_of_length_le (Nat.le_refl _)] at hL
      walk_at "go"
      refine w_glS T.g_Shares T.mk_Shares.kp ?_
      walk_at "go"
      refine ⟨r, (cs.map (· * i)).map V.int, rfl, .inr (SqL.of (by rw [hL, List.map_map] <;> rfl)), ?_⟩
      exact s_shares T GI hr (by rw [List.length_map]; omega) fun p' H2 hp' s2 sh => q p' H2 (s1.free hp') (s1.trans s2) sh
    · walk_at "go"
      exact s_fld hp T.cl_Shares T.na_Shares_cents look_cents k
def spShNeg (C : Addr) : Sp := fun vs H Q _ => ∃ p cs, vs = [.ref p] ∧ ShAt C H p cs ∧ cs.length ≤ 1000 ∧ ∀ r H', H r = none → Same H H' → ShAt C H' r (cs.map (· * (-1))) → Q (.ref r) H'
theorem ok_sh_neg (T : Facts K mg a) : FnR P w K mg base (L2.CX P w) 4 a.f_Shares__neg_ (spShNeg a.c_Shares) := by
  obtain ⟨fd, F⟩ := T.u_Shares__neg_
  have GM : FnR P w K mg base (L2.CX P w) 3 a.f_Shares__mul_ (spShMul a.c_Shares) := ok_sh_mul T
  refine fnr_ok F sc_Shares__neg_ (F.binds fun _ _ _ _ _ _ us hl => match us, hl with | [_], _ => rfl) (fun vs H Q E h => ?_) (fun cdv A outer s H vs Q E hr h => ?_)
  · obtain ⟨p, cs, rfl, _⟩ := h
    rfl
  · obtain ⟨p, cs, rfl, sh, hl, q⟩ := h
    obtain ⟨dx, t, hp, ht⟩ := id sh
    refine ⟨_, (pss_one (ps_ret (pe_opA Like.refl pas_main (pv 0) (pe_unA Like.refl pas_main (pe_int))))), ?_⟩
    walk_at "go"
    exact s_opInt T.sf_Shares T.m_Shares__mul_ T.oi_Shares__mul_ (by decide +kernel) (by decide +kernel) GM hr hp ⟨p, cs, -1, rfl, sh, hl, fun c _ => .inr ⟨by decide, by decide⟩, q⟩
def spShAdd (C O : Addr) : Sp := fun vs H Q E => ∃ p q cs ds, vs = [.ref p, .ref q] ∧ ShAt C H p cs ∧ ShAt C H q ds ∧ cs.length ≤ 1000 ∧
  (cs.length = ds.length → ∀ r H', H r = none → Same H H' → ShAt C H' r (List.zipWith (· + ·) cs ds) → Q (.ref r) H') ∧ (cs.length ≠ ds.length → E (.ref O) none H)
theorem ok_sh_add (T : Facts K mg a) : FnR P w K mg base (L2.CX P w) 3 a.f_Shares__add_ (spShAdd a.c_Shares a.c_OtherTable) := by
  obtain ⟨fd, F⟩ := T.u_Shares__add_
  have GI : FnR P w K mg base (L2.CX P w) 1 a.f_Shares__init_ (InitSp a.c_Shares) := ok_sh_init T
  refine fnr_ok F sc_Shares__add_ (F.binds fun _ _ _ _ _ _ us hl => match us, hl with | [_, _], _ => rfl) (fun vs H Q E h => ?_) (fun cdv A outer s H vs Q E hr h => ?_)
  · obtain ⟨p, q, cs, ds, rfl, _⟩ := h
    rfl
  · obtain ⟨p, q, cs, ds, rfl, ⟨dx, t, hp, ht⟩, ⟨dy, u, hq, hu⟩, hl, k, e⟩ := h
    refine ⟨_, (pss_cons (ps_if (pt_cmpA Like.refl pas_main (pe_biA (id := "len") Like.refl pas_main (by rfl) (by decide +kernel) (pa_cons (pe_atA Like.refl pas_main (pv 0)) pa_nil)) (pe_biA (id := "len") Like.refl pas_main (by rfl) (by decide +kernel) (pa_cons (pe_atA Like.refl pas_main (pv 1)) pa_nil)) (nomark _)) (pss_one (ps_raA rfl tk_main (by rfl))) pss_nil)
    (pss_cons (ps_setLc (i := 2) (own := [("mine", 3), ("its", 4)]) (g := gTup K 2 (gCons (gName 3) (gCons (gName 4) gNil))) (tt := tYes) rfl sc_Shares__add_.nd rfl rfl (sw_true rfl rfl rfl (by decide +kernel)) (RZ.pi_zipA (by rfl) T.z_zip (pa_cons (pe_atA Like.refl pas_main (pv 0)) (pa_cons (pe_atA Like.refl pas_main (pv 1)) pa_nil))) (blkOk_by (own := [("mine", 3), ("its", 4)]) (N := N_Shares__add_) (sc := defScope s_Shares__add_) (by decide +kernel)) (fun _ _ _ _ _ => (pg_tup rfl (pgs_cons (pg_name (i := 3) sc_Shares__add_.nd rfl (by first | exact Or.inl rfl | exact Or.inr rfl)) (pgs_cons (pg_name (i := 4) sc_Shares__add_.nd rfl (by first | exact Or.inl rfl | exact Or.inr rfl)) pgs_nil)))) (fun _ _ _ _ _ => pts_nil) (fun _ _ _ _ _ => (pe_opA ⟨rfl, rfl, rfl, rfl, rfl, rfl, rfl⟩ passL (pv 3) (pv 4))))
    (pss_one (ps_ret (pe_glS Like.refl pas_main (by rfl) (pv 2)))))), ?_⟩
    walk_at "go"
    refine s_fld hp T.cl_Shares T.na_Shares_cents look_cents ?_
    walk_at "go"
    refine s_lenT (SqT.of ht) ?_
    walk_at "go"
    refine s_fld hq T.cl_Shares T.na_Shares_cents look_cents ?_
    walk_at "go"
    refine s_lenT (SqT.of hu) ?_
    walk_at "go"
    rw [List.length_map, List.length_map]
    refine ite_n (fun h1 => ?_) (fun h1 => ?_)
    · exact ⟨_, T.x_OtherTable, e fun z => h1 (by rw [z])⟩
    · have hcd : cs.length = ds.length := by omega
      walk_at "go"
      refine c_zipT (a := t) (b := u) (xs := cs.map V.int) (ys := ds.map V.int) (fun k => ((List.zipWith (· + ·) cs ds).take k).map V.int) rfl (fun k hk => ?_) (SqT.of ht) (SqT.of hu) (fun _ _ => rfl) (fun j x y H' hx hy s1 => ?_) (fun r H' hr0 s1 hL => ?_) (fun R k => ?_)
      · rw [List.length_map, List.length_take, List.length_zipWith]
        omega
      · rw [List.getElem?_map] at hx hy
        cases ex : cs[j]? with
        | none => rw [ex] at hx; cases hx
        | some c =>
          cases ey : ds[j]? with
          | none => rw [ey] at hy; cases hy
          | some d =>
            rw [ex] at hx
            rw [ey] at hy
            cases hx
            cases hy
            have ek : ((List.zipWith (· + ·) cs ds).take (j + 1)).map V.int = ((List.zipWith (· + ·) cs ds).take j).map V.int ++ [V.int (c + d)] := by
              rw [List.take_add_one, List.getElem?_zipWith, ex, ey]
              simp
            show Turn1 _ _ _ _ _ (((List.zipWith (· + ·) cs ds).take (j + 1)).map V.int)
            rw [ek]
            refine turn1_map fun R kk => ?_
            walk_at "go"
            exact kk _ (Same.refl _)
      · have e1 : (List.zipWith (· + ·) cs ds).take (min (cs.map V.int).length (ds.map V.int).length) = List.zipWith (· + ·) cs ds := List.take_of_length_le (by rw [List.length_zipWith, List.length_map, List.length_map]; exact Nat.le_refl _)
        rw [e1] at hL
        walk_at "go"
        refine w_glS T.g_Shares T.mk_Shares.kp ?_
        walk_at "go"
        refine ⟨r, (List.zipWith (· + ·) cs ds).map V.int, rfl, .inr (SqL.of hL), ?_⟩
        exact s_shares T GI hr (by rw [List.length_zipWith]; omega) fun p' H2 hp' s2 sh => k hcd p' H2 (s1.free hp') (s1.trans s2) sh
      · walk_at "go"
        refine s_fld hp T.cl_Shares T.na_Shares_cents look_cents ?_
        walk_at "go"
        refine s_fld hq T.cl_Shares T.na_Shares_cents look_cents ?_
        walk_at "go"
        exact k
def spShSub (C O : Addr) : Sp := fun vs H Q E => ∃ p q cs ds, vs = [.ref p, .ref q] ∧ ShAt C H p cs ∧ ShAt C H q ds ∧ cs.length ≤ 1000 ∧ ds.length ≤ 1000 ∧
  (cs.length = ds.length → ∀ r H', H r = none → Same H H' → ShAt C H' r (List.zipWith (· - ·) cs ds) → Q (.ref r) H') ∧ (cs.length ≠ ds.length → ∀ H', Same H H' → E (.ref O) none H')
theorem zip_neg : ∀ cs ds : List Int, List.zipWith (· + ·) cs (ds.map (· * (-1))) = List.zipWith (· - ·) cs ds
  | [], _ => by simp
  | _ :: _, [] => by simp
  | c :: cs, d :: ds => by
    rw [List.map_cons, List.zipWith_cons_cons, List.zipWith_cons_cons, zip_neg cs ds]
    congr 1
    omega
theorem ok_sh_sub (T : Facts K mg a) : FnR P w K mg base (L2.CX P w) 5 a.f_Shares__sub_ (spShSub a.c_Shares a.c_OtherTable) := by
  obtain ⟨fd, F⟩ := T.u_Shares__sub_
  have GN : FnR P w K mg base (L2.CX P w) 4 a.f_Shares__neg_ (spShNeg a.c_Shares) := ok_sh_neg T
  have GA : FnR P w K mg base (L2.CX P w) 3 a.f_Shares__add_ (spShAdd a.c_Shares a.c_OtherTable) := ok_sh_add T
  refine fnr_ok F sc_Shares__sub_ (F.binds fun _ _ _ _ _ _ us hl => match us, hl with | [_, _], _ => rfl) (fun vs H Q E h => ?_) (fun cdv A outer s H vs Q E hr h => ?_)
  · obtain ⟨p, q, cs, ds, rfl, _⟩ := h
    rfl
  · obtain ⟨p, q, cs, ds, rfl, sp, sq, hl, hl2, k, e⟩ := h
    obtain ⟨dx, t, hp, ht⟩ := id sp
    obtain ⟨dy, u, hq, hu⟩ := id sq
    refine ⟨_, (pss_one (ps_ret (pe_opA Like.refl pas_main (pv 0) (pe_unA Like.refl pas_main (pv 1))))), ?_⟩
    walk_at "go"
    refine s_negI T.m_Shares__neg_ GN hr hq ⟨q, ds, rfl, sq, hl2, fun r H' hr0 s1 sr => ?_⟩
    obtain ⟨dz, v, hv, hw⟩ := id sr
    refine s_opSame T.sf_Shares T.m_Shares__add_ (by decide +kernel) GA (hr.mono (by decide)) (s1 _ _ hp) hv ⟨p, r, cs, _, rfl, sp.same s1, sr, hl, fun hh r' H2 hr' s2 sh => ?_, fun hh => ?_⟩
    · rw [List.length_map] at hh
      rw [zip_neg] at sh
      exact k hh r' H2 (s1.free hr') (s1.trans s2) sh
    · rw [List.length_map] at hh
      exact e hh H' s1
def spShAbs (C : Addr) : Sp := fun vs H Q _ => ∃ p cs, vs = [.ref p] ∧ ShAt C H p cs ∧ Q (.int (maxI cs - minI cs)) H
theorem ok_sh_abs (T : Facts K mg a) : FnR P w K mg base (L2.CX P w) 1 a.f_Shares__abs_ (spShAbs a.c_Shares) := by
  obtain ⟨fd, F⟩ := T.u_Shares__abs_
  refine fnr_ok F sc_Shares__abs_ (F.binds fun _ _ _ _ _ _ us hl => match us, hl with | [_], _ => rfl) (fun vs H Q E h => ?_) (fun cdv A outer s H vs Q E hr h => ?_)
  · obtain ⟨p, cs, rfl, _⟩ := h
    rfl
  · obtain ⟨p, cs, rfl, ⟨dx, t, hp, ht⟩, q⟩ := h
    refine ⟨_, (pss_one (ps_ret (pe_ifExp (pt_trA Like.refl pas_main (pe_atA Like.refl pas_main (pv 0))) (pe_opA Like.refl pas_main (pe_biA (id := "max") Like.refl pas_main (by rfl) (by decide +kernel) (pa_cons (pe_atA Like.refl pas_main (pv 0)) pa_nil)) (pe_biA (id := "min") Like.refl pas_main (by rfl) (by decide +kernel) (pa_cons (pe_atA Like.refl pas_main (pv 0)) pa_nil))) (pe_int)))), ?_⟩
    walk_at "go"
    refine s_fld hp T.cl_Shares T.na_Shares_cents look_cents ?_
    refine s_truT (SqT.of ht) ?_
    cases cs with
    | nil =>
      refine iteF ?_
      walk_at "go"
      exact q
    | cons c cs =>
      refine iteT ?_
      refine w_op (w_bi T.z_max ?_)
      walk_at "go"
      refine s_fld hp T.cl_Shares T.na_Shares_cents look_cents ?_
      walk_at "go"
      refine s_maxT rfl (SqT.of ht) (by simp) ?_
      refine w_bi T.z_min ?_
      walk_at "go"
      refine s_fld hp T.cl_Shares T.na_Shares_cents look_cents ?_
      walk_at "go"
      refine s_minT rfl (SqT.of ht) (by simp) ?_
      walk_at "go"
      exact q
end

end Odd

namespace Odd
open PySem PySem.Spec PyProof.Rows L2 LamX NdefX
/-! tactics of this text: st one step, go as many as go -/
local macro_rules | `(tactic| walk_at "ar") => `(tactic| first | assumption | omega | (show (_ : Int) < _; omega) | decide)
local macro_rules | `(tactic| walk_at "st") => `(tactic| first
  | with_reducible refine' w_seq ?_
  | with_reducible refine' w_asg ?_
  | with_reducible refine' w_name ?_
  | with_reducible refine' w_c ?_
  | with_reducible refine' w_op ?_
  | with_reducible refine' w_ix ?_
  | with_reducible refine' w_at ?_
  | with_reducible refine' w_cons ?_
  | with_reducible refine' w_nil ?_
  | with_reducible refine' w_ret ?_
  | with_reducible refine' w_if ?_
  | with_reducible refine' w_test ?_
  | with_reducible refine' w_tr ?_
  | with_reducible refine' w_un ?_
  | with_reducible refine' w_andV ?_
  | with_reducible refine' w_orV ?_
  | with_reducible refine' w_notA ?_
  | with_reducible refine' w_ch ?_
  | with_reducible refine' w_and ?_
  | with_reducible refine' w_or ?_
  | with_reducible refine' w_not ?_
  | with_reducible refine' w_ifx ?_
  | with_reducible refine' w_tup ?_
  | with_reducible refine' w_lst ?_
  | with_reducible refine' w_next ?_
  | with_reducible refine' w_drop ?_
  | with_reducible refine' w_retN ?_
  | ((with_reducible refine' w_var ?h ?_); (case h => exact rfl))
  | ((with_reducible refine' w_bi ?h ?_); (case h => walk_at "mg"))
  | ((with_reducible refine' w_bv ?h ?_); (case h => walk_at "mg"))
  | ((with_reducible refine' w_gv ?h ?_); (case h => walk_at "mg"))
  | ((with_reducible refine' w_gl ?h ?k ?_); (case h => walk_at "mg"); (case k => walk_at "kp"))
  | ((with_reducible refine' w_glS ?h ?k ?_); (case h => walk_at "mg"); (case k => walk_at "kp"))
  | with_reducible refine' bl_ex ?_
  | with_reducible refine' iteT ?_
  | with_reducible refine' iteF ?_
  | with_reducible refine' ite_nf ?_
  | with_reducible refine' ite_nt ?_
  | with_reducible refine' s_add ?_
  | with_reducible refine' s_sub ?_
  | with_reducible refine' s_lt ?_
  | with_reducible refine' s_le ?_
  | with_reducible refine' s_gt ?_
  | with_reducible refine' s_ge ?_
  | with_reducible refine' s_eqI ?_
  | with_reducible refine' s_neI ?_
  | with_reducible refine' s_eqB ?_
  | with_reducible refine' s_neB ?_
  | with_reducible refine' s_truB ?_
  | with_reducible refine' s_truI ?_
  | with_reducible refine' s_neg ?_
  | ((with_reducible refine' s_mod ?h ?_); (case h => walk_at "ar")))
local macro_rules | `(tactic| walk_at "go") => `(tactic| repeat walk_at "st")

local macro_rules | `(tactic| walk_at "mg") => `(tactic| first | assumption | exact Facts.z_len (by assumption) | exact Facts.z_isinstance (by assumption) | exact Facts.z_int (by assumption) | exact Facts.z_bool (by assumption) | exact Facts.z_tuple (by assumption) | exact Facts.z_list (by assumption) | exact Facts.z_range (by assumption) | exact Facts.z_sum (by assumption) | exact Facts.g_Shares (by assumption) | exact Facts.g_Bill (by assumption) | exact Facts.g_Evening (by assumption) | exact Facts.g_is_between (by assumption) | exact Facts.g_check_amount (by assumption) | exact Facts.g_check_seats (by assumption) | exact Facts.g_check_seat_count (by assumption) | exact Facts.g_check_bills (by assumption) | exact Facts.g_check_mark (by assumption) | exact Facts.g_no_shares (by assumption) | exact Facts.g_seats_behind (by assumption) | exact Facts.g_split_bill (by assumption))
local macro_rules | `(tactic| walk_at "kp") => `(tactic| first | assumption | exact Fun.kp (Facts.u_is_between (by assumption)).choose_spec | exact (Facts.mk_Shares (by assumption)).kp | exact (Facts.mk_Bill (by assumption)).kp | exact (Facts.mk_Evening (by assumption)).kp | exact Fun.kp (Facts.u_check_amount (by assumption)).choose_spec | exact Fun.kp (Facts.u_check_seats (by assumption)).choose_spec | exact Fun.kp (Facts.u_check_seat_count (by assumption)).choose_spec | exact Fun.kp (Facts.u_check_bills (by assumption)).choose_spec | exact Fun.kp (Facts.u_check_mark (by assumption)).choose_spec | exact Fun.kp (Facts.u_no_shares (by assumption)).choose_spec | exact Fun.kp (Facts.u_seats_behind (by assumption)).choose_spec | exact Fun.kp (Facts.u_split_bill (by assumption)).choose_spec)

/-! ### the program: bills, evenings -/
section
variable {P : Program} {w : World} {K : PySem.W.Frag} {mg : Str → Option Value} {base : Heap} {a : Ad}
/-- a bill of amt for the seats ss stands at p -/
def BiAt (C : Addr) (H : Hp) (p : Addr) (b : Int × List Int) : Prop := ∃ dx t, H p = some (.ins C dx [("_amount", .int b.1), ("_seats", .ref t)]) ∧ H t = some (.tup (b.2.map V.int))
theorem BiAt.same {C : Addr} {H H' : Hp} {p : Addr} {b : Int × List Int} (h : BiAt C H p b) (s : Same H H') : BiAt C H' p b := by
  obtain ⟨dx, t, h1, h2⟩ := h
  exact ⟨dx, t, s _ _ h1, s _ _ h2⟩
/-- bills stand at ps -/
def BisAt (C : Addr) (H : Hp) (ps : List Addr) (bs : List (Int × List Int)) : Prop := ps.length = bs.length ∧ ∀ (i : Nat) p b, ps[i]? = some p → bs[i]? = some b → BiAt C H p b
theorem BisAt.same {C : Addr} {H H' : Hp} {ps : List Addr} {bs : List (Int × List Int)} (h : BisAt C H ps bs) (s : Same H H') : BisAt C H' ps bs := ⟨h.1, fun i p b h1 h2 => (h.2 i p b h1 h2).same s⟩
/-- an evening of bs at a table of n seats stands at p -/
def EvAt (CE CB : Addr) (H : Hp) (p : Addr) (n : Int) (bs : List (Int × List Int)) : Prop := ∃ dx t ps, H p = some (.ins CE dx [("_seat_count", .int n), ("_bills", .ref t)]) ∧ H t = some (.tup (ps.map V.ref)) ∧ BisAt CB H ps bs
theorem EvAt.same {CE CB : Addr} {H H' : Hp} {p : Addr} {n : Int} {bs : List (Int × List Int)} (h : EvAt CE CB H p n bs) (s : Same H H') : EvAt CE CB H' p n bs := by
  obtain ⟨dx, t, ps, h1, h2, h3⟩ := h
  exact ⟨dx, t, ps, s _ _ h1, s _ _ h2, h3.same s⟩
/-- ascending seats, from lo to 7 -/
def asc : Int → List Int → Bool
  | _, [] => true
  | lo, s :: ss => decide (lo ≤ s) && decide (s ≤ 7) && asc (s + 1) ss
/-- a bill that is none of the wrong ones -/
def OkBill (b : Int × List Int) : Prop := 0 ≤ b.1 ∧ b.1 ≤ 10 ^ 12 ∧ asc 0 b.2 = true ∧ b.2 ≠ []
theorem s_btwT {X0 : Cx} {E : XK} {H : Hp} {Q : VK} {i lo hi : Int} (GB : Fn X0 1 a.f_is_between spBetween) (hr : Room 1 X0.A) (h1 : lo ≤ i) (h2 : i ≤ hi) (q : Q (.bl true) H) : ∃ r, CaD X0 E (.ref a.f_is_between) r ∧ r [.int i, .int lo, .int hi] H Q :=
  s_fn GB hr ⟨i, lo, hi, rfl, by rw [decide_eq_true h1, decide_eq_true h2]; exact q⟩
def spCkAmount : Sp := fun vs H Q _ => ∃ i : Int, vs = [.int i] ∧ 0 ≤ i ∧ i ≤ 10 ^ 12 ∧ Q .non H
theorem ok_check_amount (T : Facts K mg a) : FnR P w K mg base (L2.CX P w) 2 a.f_check_amount spCkAmount := by
  obtain ⟨fd, F⟩ := T.u_check_amount
  have GB : FnR P w K mg base (L2.CX P w) 1 a.f_is_between spBetween := ok_between T
  refine fnr_ok F sc_check_amount (F.binds fun _ _ _ _ _ _ us hl => match us, hl with | [_], _ => rfl) (fun vs H Q E h => ?_) (fun cdv A outer s H vs Q E hr h => ?_)
  · obtain ⟨i, rfl, _⟩ := h
    rfl
  · obtain ⟨i, rfl, h0, h1, q⟩ := h
    refine ⟨_, (pss_one (ps_if (pt_not (pt_trA Like.refl pas_main (pe_glA Like.refl pas_main (by rfl) (pa_cons (pv 0) (pa_cons (pe_int) (pa_cons (pe_gvI Like.refl (by rfl)) pa_nil)))))) (pss_one (ps_raK (ks := [("index" : Str)]) rfl tk_main pas0 (by rfl) (pk_cons (pe_unA Like.refl pas_main (pe_int)) pk_nil))) pss_nil)), ?_⟩
    walk_at "go"
    refine w_gvI T.i_MAX_AMOUNT.choose_spec ?_
    walk_at "go"
    refine s_btwT GB hr h0 (by omega) ?_
    walk_at "go"
    exact q
def spCkSeats (K : PySem.W.Frag) : Sp := fun vs H Q _ => ∃ t ss, vs = [.ref t] ∧ SqT K H t (ss.map V.int) ∧ asc 0 ss = true ∧ ss ≠ [] ∧ ∀ H', Same H H' → Q .non H'
theorem ok_check_seats (T : Facts K mg a) : FnR P w K mg base (L2.CX P w) 2 a.f_check_seats (spCkSeats K) := by
  obtain ⟨fd, F⟩ := T.u_check_seats
  have GB : FnR P w K mg base (L2.CX P w) 1 a.f_is_between spBetween := ok_between T
  refine fnr_ok F sc_check_seats (F.binds fun _ _ _ _ _ _ us hl => match us, hl with | [_], _ => rfl) (fun vs H Q E h => ?_) (fun cdv A outer s H vs Q E hr h => ?_)
  · obtain ⟨t, ss, rfl, _⟩ := h
    rfl
  · obtain ⟨t, ss, rfl, ht, ha, hne, q⟩ := h
    refine ⟨_, (pss_cons (ps_set (i := 1) sc_check_seats.nd rfl (Or.inl rfl) (pe_int))
    (pss_cons (ps_for own_main rfl (pi_enumA (by rfl) T.z_enumerate (pa_cons (pv 0) pa_nil)) (pg_tup rfl (pgs_cons (pg_name (i := 2) sc_check_seats.nd rfl (Or.inl rfl)) (pgs_cons (pg_name (i := 3) sc_check_seats.nd rfl (Or.inl rfl)) pgs_nil))) (pss_cons (ps_if (pt_not (pt_trA Like.refl pas_main (pe_glA Like.refl pas_main (by rfl) (pa_cons (pv 3) (pa_cons (pv 1) (pa_cons (pe_opA Like.refl pas_main (pe_atA Like.refl pas_main (pe_gvA Like.refl (by rfl))) (pe_int)) pa_nil)))))) (pss_one (ps_raK (ks := [("index" : Str)]) rfl tk_main pas0 (by rfl) (pk_cons (pv 2) pk_nil))) pss_nil)
    (pss_one (ps_set (i := 1) sc_check_seats.nd rfl (Or.inl rfl) (pe_opA Like.refl pas_main (pv 3) (pe_int))))))
    (pss_one (ps_if (pt_not (pt_trA Like.refl pas_main (pv 0))) (pss_one (ps_raK (ks := [("index" : Str)]) rfl tk_main pas0 (by rfl) (pk_cons (pe_int) pk_nil))) pss_nil)))), ?_⟩
    walk_at "go"
    refine f_enumT (xs := ss.map V.int) (a := t) (fun k σ H' => Same H H' ∧ ∃ (lo : Int) (x y : Option V), σ = [some (.ref t), some (.int lo), x, y] ∧ asc lo (ss.drop k) = true) (fun R k => ?_) ⟨Same.refl _, 0, none, none, rfl, ha⟩ (fun k σ H' _ p => same_t p.1 ht) (fun k x σ H' T2 hx p hT => ?_) (fun σ H' p => ?_)
    · walk_at "go"
      exact k
    · obtain ⟨s1, lo, u, v, rfl, hlo⟩ := p
      rw [List.getElem?_map] at hx
      cases e : ss[k]? with
      | none => rw [e] at hx; cases hx
      | some z =>
        rw [e] at hx
        cases hx
        obtain ⟨hk, ez⟩ := List.getElem?_eq_some_iff.1 e
        rw [List.drop_eq_getElem_cons hk, ez] at hlo
        simp only [asc, Bool.and_eq_true, decide_eq_true_eq] at hlo
        walk_at "go"
        refine s_cval T.cr_Bill T.cv_Bill_MAX_SEATS.choose_spec ?_
        walk_at "go"
        refine s_btwT GB hr hlo.1.1 (by omega) ?_
        walk_at "go"
        exact ⟨s1.trans (same_new hT), _, _, _, rfl, hlo.2⟩
    · obtain ⟨s1, lo, u, v, rfl, _⟩ := p
      walk_at "go"
      refine s_truT (same_t s1 ht) ?_
      cases ss with
      | nil => exact absurd rfl hne
      | cons s ss =>
        walk_at "go"
        exact q _ s1
def spCkCount : Sp := fun vs H Q _ => ∃ i : Int, vs = [.int i] ∧ 2 ≤ i ∧ i ≤ 8 ∧ Q .non H
theorem ok_check_seat_count (T : Facts K mg a) : FnR P w K mg base (L2.CX P w) 2 a.f_check_seat_count spCkCount := by
  obtain ⟨fd, F⟩ := T.u_check_seat_count
  have GB : FnR P w K mg base (L2.CX P w) 1 a.f_is_between spBetween := ok_between T
  refine fnr_ok F sc_check_seat_count (F.binds fun _ _ _ _ _ _ us hl => match us, hl with | [_], _ => rfl) (fun vs H Q E h => ?_) (fun cdv A outer s H vs Q E hr h => ?_)
  · obtain ⟨i, rfl, _⟩ := h
    rfl
  · obtain ⟨i, rfl, h0, h1, q⟩ := h
    refine ⟨_, (pss_one (ps_if (pt_not (pt_trA Like.refl pas_main (pe_glA Like.refl pas_main (by rfl) (pa_cons (pv 0) (pa_cons (pe_gvI Like.refl (by rfl)) (pa_cons (pe_atA Like.refl pas_main (pe_gvA Like.refl (by rfl))) pa_nil)))))) (pss_one (ps_raK (ks := [("index" : Str)]) rfl tk_main pas0 (by rfl) (pk_cons (pe_unA Like.refl pas_main (pe_int)) pk_nil))) pss_nil)), ?_⟩
    walk_at "go"
    refine w_gvI T.i_MIN_SEAT_COUNT.choose_spec ?_
    walk_at "go"
    refine s_cval T.cr_Bill T.cv_Bill_MAX_SEATS.choose_spec ?_
    walk_at "go"
    refine s_btwT GB hr h0 (by omega) ?_
    walk_at "go"
    exact q
def spCkMark : Sp := fun vs H Q _ => ∃ i n : Int, vs = [.int i, .int n] ∧ 0 ≤ i ∧ i < n ∧ Q .non H
theorem ok_check_mark (T : Facts K mg a) : FnR P w K mg base (L2.CX P w) 2 a.f_check_mark spCkMark := by
  obtain ⟨fd, F⟩ := T.u_check_mark
  have GB : FnR P w K mg base (L2.CX P w) 1 a.f_is_between spBetween := ok_between T
  refine fnr_ok F sc_check_mark (F.binds fun _ _ _ _ _ _ us hl => match us, hl with | [_, _], _ => rfl) (fun vs H Q E h => ?_) (fun cdv A outer s H vs Q E hr h => ?_)
  · obtain ⟨i, n, rfl, _⟩ := h
    rfl
  · obtain ⟨i, n, rfl, h0, h1, q⟩ := h
    refine ⟨_, (pss_one (ps_if (pt_not (pt_trA Like.refl pas_main (pe_glA Like.refl pas_main (by rfl) (pa_cons (pv 0) (pa_cons (pe_int) (pa_cons (pe_opA Like.refl pas_main (pv 1) (pe_int)) pa_nil)))))) (pss_one (ps_raA rfl tk_main (by rfl))) pss_nil)), ?_⟩
    walk_at "go"
    refine s_btwT GB hr h0 (by omega) ?_
    walk_at "go"
    exact q
/-! getters -/
theorem look2 {k k1 : Str} {v v1 : V} (h : (k == k1) = false) : List.lookup k [(k1, v1), (k, v)] = some v := by simp [List.lookup, h]
theorem look_amount {i : Int} {t : Addr} : List.lookup ("_amount" : Str) [(("_amount" : Str), V.int i), ("_seats", V.ref t)] = some (.int i) := by simp [List.lookup]
theorem look_seats {i : Int} {t : Addr} : List.lookup ("_seats" : Str) [(("_amount" : Str), V.int i), ("_seats", V.ref t)] = some (.ref t) := look2 (by decide)
theorem look_count {i : Int} {t : Addr} : List.lookup ("_seat_count" : Str) [(("_seat_count" : Str), V.int i), ("_bills", V.ref t)] = some (.int i) := by simp [List.lookup]
theorem look_bills {i : Int} {t : Addr} : List.lookup ("_bills" : Str) [(("_seat_count" : Str), V.int i), ("_bills", V.ref t)] = some (.ref t) := look2 (by decide)
def spBiAmount (C : Addr) : Sp := fun vs H Q _ => ∃ p dx t i, vs = [.ref p] ∧ H p = some (.ins C dx [("_amount", .int i), ("_seats", .ref t)]) ∧ Q (.int i) H
theorem ok_bi_amount (T : Facts K mg a) : FnR P w K mg base (L2.CX P w) 1 a.f_Bill_amount (spBiAmount a.c_Bill) := by
  obtain ⟨fd, F⟩ := T.u_Bill_amount
  refine fnr_ok F sc_Bill_amount (F.binds fun _ _ _ _ _ _ us hl => match us, hl with | [_], _ => rfl) (fun vs H Q E h => ?_) (fun cdv A outer s H vs Q E hr h => ?_)
  · obtain ⟨p, dx, t, i, rfl, _⟩ := h
    rfl
  · obtain ⟨p, dx, t, i, rfl, hp, q⟩ := h
    refine ⟨_, (pss_one (ps_ret (pe_atA Like.refl pas_main (pv 0)))), ?_⟩
    walk_at "go"
    exact s_fld hp T.cl_Bill T.na_Bill_amount look_amount q
def spBiSeats (C : Addr) : Sp := fun vs H Q _ => ∃ p dx t i, vs = [.ref p] ∧ H p = some (.ins C dx [("_amount", .int i), ("_seats", .ref t)]) ∧ Q (.ref t) H
theorem ok_bi_seats (T : Facts K mg a) : FnR P w K mg base (L2.CX P w) 1 a.f_Bill_seats (spBiSeats a.c_Bill) := by
  obtain ⟨fd, F⟩ := T.u_Bill_seats
  refine fnr_ok F sc_Bill_seats (F.binds fun _ _ _ _ _ _ us hl => match us, hl with | [_], _ => rfl) (fun vs H Q E h => ?_) (fun cdv A outer s H vs Q E hr h => ?_)
  · obtain ⟨p, dx, t, i, rfl, _⟩ := h
    rfl
  · obtain ⟨p, dx, t, i, rfl, hp, q⟩ := h
    refine ⟨_, (pss_one (ps_ret (pe_atA Like.refl pas_main (pv 0)))), ?_⟩
    walk_at "go"
    exact s_fld hp T.cl_Bill T.na_Bill_seats look_seats q
def spBiOdd (C : Addr) : Sp := fun vs H Q _ => ∃ p b, vs = [.ref p] ∧ BiAt C H p b ∧ b.2 ≠ [] ∧ Q (.int (b.1 % (b.2.length : Nat))) H
theorem ok_bi_odd (T : Facts K mg a) : FnR P w K mg base (L2.CX P w) 1 a.f_Bill_odd_cents (spBiOdd a.c_Bill) := by
  obtain ⟨fd, F⟩ := T.u_Bill_odd_cents
  refine fnr_ok F sc_Bill_odd_cents (F.binds fun _ _ _ _ _ _ us hl => match us, hl with | [_], _ => rfl) (fun vs H Q E h => ?_) (fun cdv A outer s H vs Q E hr h => ?_)
  · obtain ⟨p, b, rfl, _⟩ := h
    rfl
  · obtain ⟨p, b, rfl, ⟨dx, t, hp, ht⟩, hne, q⟩ := h
    refine ⟨_, (pss_one (ps_ret (pe_opA Like.refl pas_main (pe_atA Like.refl pas_main (pv 0)) (pe_biA (id := "len") Like.refl pas_main (by rfl) (by decide +kernel) (pa_cons (pe_atA Like.refl pas_main (pv 0)) pa_nil))))), ?_⟩
    walk_at "go"
    refine s_fld hp T.cl_Bill T.na_Bill_amount look_amount ?_
    walk_at "go"
    refine s_fld hp T.cl_Bill T.na_Bill_seats look_seats ?_
    walk_at "go"
    refine s_lenT (SqT.of ht) ?_
    rw [List.length_map]
    have := List.length_pos_iff.2 hne
    walk_at "go"
    exact q
def spEvCount (C : Addr) : Sp := fun vs H Q _ => ∃ p dx t i, vs = [.ref p] ∧ H p = some (.ins C dx [("_seat_count", .int i), ("_bills", .ref t)]) ∧ Q (.int i) H
theorem ok_ev_count (T : Facts K mg a) : FnR P w K mg base (L2.CX P w) 1 a.f_Evening_seat_count (spEvCount a.c_Evening) := by
  obtain ⟨fd, F⟩ := T.u_Evening_seat_count
  refine fnr_ok F sc_Evening_seat_count (F.binds fun _ _ _ _ _ _ us hl => match us, hl with | [_], _ => rfl) (fun vs H Q E h => ?_) (fun cdv A outer s H vs Q E hr h => ?_)
  · obtain ⟨p, dx, t, i, rfl, _⟩ := h
    rfl
  · obtain ⟨p, dx, t, i, rfl, hp, q⟩ := h
    refine ⟨_, (pss_one (ps_ret (pe_atA Like.refl pas_main (pv 0)))), ?_⟩
    walk_at "go"
    exact s_fld hp T.cl_Evening T.na_Evening_seat_count look_count q
def spEvBills (C : Addr) : Sp := fun vs H Q _ => ∃ p dx t i, vs = [.ref p] ∧ H p = some (.ins C dx [("_seat_count", .int i), ("_bills", .ref t)]) ∧ Q (.ref t) H
theorem ok_ev_bills (T : Facts K mg a) : FnR P w K mg base (L2.CX P w) 1 a.f_Evening_bills (spEvBills a.c_Evening) := by
  obtain ⟨fd, F⟩ := T.u_Evening_bills
  refine fnr_ok F sc_Evening_bills (F.binds fun _ _ _ _ _ _ us hl => match us, hl with | [_], _ => rfl) (fun vs H Q E h => ?_) (fun cdv A outer s H vs Q E hr h => ?_)
  · obtain ⟨p, dx, t, i, rfl, _⟩ := h
    rfl
  · obtain ⟨p, dx, t, i, rfl, hp, q⟩ := h
    refine ⟨_, (pss_one (ps_ret (pe_atA Like.refl pas_main (pv 0)))), ?_⟩
    walk_at "go"
    exact s_fld hp T.cl_Evening T.na_Evening_bills look_bills q
end

/-! ### making bills and evenings, splitting -/
section
variable {P : Program} {w : World} {K : PySem.W.Frag} {mg : Str → Option Value} {base : Heap} {a : Ad}
theorem put2 {k k1 : Str} {v v1 : V} (h : k1 ≠ k) : putF k v [(k1, v1)] = [(k1, v1), (k, v)] := by
  show (if k1 = k then _ else _) = _
  rw [if_neg h]
  rfl
def spBiInit (C : Addr) : Sp := fun vs H Q _ => ∃ x t dx i ss, vs = [.ref x, .int i, .ref t] ∧ H x = some (.ins C dx []) ∧ H t = some (.tup (ss.map V.int)) ∧ OkBill (i, ss) ∧
  ∀ H', Same H H' → Q .non (upd H' x (.ins C dx [("_amount", .int i), ("_seats", .ref t)]))
abbrev InitB (C : Addr) : Sp := fun vs H Q E => ∃ ws rest, vs = ws ++ rest ∧ ws.length = ["self", "amount"].length ∧ rest.length ≤ sizeLine ∧ ∀ p, H p = Option.none → spBiInit C (ws ++ [V.ref p]) (upd H p (.tup rest)) Q E
theorem ok_bi_init (T : Facts K mg a) : FnR P w K mg base (L2.CX P w) 3 a.f_Bill__init_ (InitB a.c_Bill) := by
  obtain ⟨fd, F⟩ := T.u_Bill__init_
  have GA : FnR P w K mg base (L2.CX P w) 2 a.f_check_amount spCkAmount := ok_check_amount T
  have GS : FnR P w K mg base (L2.CX P w) 2 a.f_check_seats (spCkSeats K) := ok_check_seats T
  refine fnr_star2 (p1 := "self") (p2 := "amount") (pv := "seats") F sc_Bill__init_ (fun _ _ _ _ _ _ _ _ => rfl) (fun _ _ _ _ _ _ _ _ _ _ => rfl) (fun cdv A outer s H vs Q E hr h => ?_)
  obtain ⟨x, t, dx, i, ss, rfl, hx, ht, ⟨o1, o2, o3, o4⟩, q⟩ := h
  refine ⟨_, (pss_cons (ps_expr (pe_glA Like.refl pas_main (by rfl) (pa_cons (pv 1) pa_nil)))
    (pss_cons (ps_expr (pe_glA Like.refl pas_main (by rfl) (pa_cons (pv 2) pa_nil)))
    (pss_cons (ps_fld (pv 0) (pv 1) rfl)
    (pss_one (ps_fld (pv 0) (pv 2) rfl))))), ?_⟩
  walk_at "go"
  refine s_fn GA hr ⟨i, rfl, o1, o2, ?_⟩
  walk_at "go"
  refine s_fn GS hr ⟨t, ss, rfl, SqT.of ht, o3, o4, fun H' s1 => ?_⟩
  walk_at "go"
  with_reducible refine' w_fld ?_
  walk_at "go"
  refine ⟨x, a.c_Bill, dx, [], rfl, s1 _ _ hx, T.cl_Bill, T.na_Bill_amount, by decide, ?_⟩
  with_reducible refine' w_fld ?_
  walk_at "go"
  refine ⟨x, a.c_Bill, dx, _, rfl, upd_same, T.cl_Bill, T.na_Bill_seats, by show 1 < 1000; decide, ?_⟩
  have e : putF "_seats" (V.ref t) [(("_amount" : Str), V.int i)] = [(("_amount" : Str), V.int i), ("_seats", V.ref t)] := put2 (by decide)
  show Q .non (upd (upd H' x (.ins a.c_Bill dx [("_amount", V.int i)])) x (.ins a.c_Bill dx (putF "_seats" (V.ref t) [(("_amount" : Str), V.int i)])))
  rw [e, upd_upd]
  exact q H' s1
/-- Bill(i, *ss) -/
theorem s_bill {X0 : Cx} {E : XK} {H : Hp} {Q : VK} {i : Int} {ss : List Int} (T : Facts X0.K X0.mg a) (F : Fn X0 3 a.f_Bill__init_ (InitB a.c_Bill)) (hr : Room 4 X0.A) (ok : OkBill (i, ss)) (hl : ss.length ≤ 100000)
    (q : ∀ p H', H p = none → Same H H' → BiAt a.c_Bill H' p (i, ss) → Q (.ref p) H') : ∃ r, CaD X0 E (.ref a.c_Bill) r ∧ r (.int i :: ss.map V.int) H Q := by
  refine s_mk T.mk_Bill F hr fun x dx hx hdx hne => ⟨[.ref x, .int i], ss.map V.int, rfl, rfl, by rw [List.length_map]; exact sz5 hl, fun t ht => ?_⟩
  have n1 : t ≠ x := fun z => by subst z; rw [upd_same] at ht; cases ht
  have n2 : t ≠ dx := fun z => by subst z; rw [upd_ne hne, upd_same] at ht; cases ht
  have ht0 := ht
  rw [upd_ne n1, upd_ne n2] at ht
  refine ⟨x, t, dx, i, ss, rfl, ?_, upd_same, ok, fun H' s1 => ⟨rfl, ?_⟩⟩
  · rw [upd_ne n1.symm, upd_same]
  · refine q x _ hx (fun b o e => ?_) ⟨dx, t, upd_same, ?_⟩
    · have nb : b ≠ x := ne_of_none e hx
      rw [upd_ne nb]
      exact s1 _ _ (by rw [upd_ne (ne_of_none e ht), upd_ne nb, upd_ne (ne_of_none e hdx)]; exact e)
    · rw [upd_ne n1]
      exact s1 _ _ upd_same
/-- an evening that is none of the wrong ones -/
def OkEv (n : Nat) (bs : List (Int × List Int)) : Prop := 2 ≤ n ∧ n ≤ 8 ∧ bs.length ≤ 30 ∧ ∀ b ∈ bs, OkBill b ∧ ∀ s ∈ b.2, s < (n : Int)
def spCkBills (K : PySem.W.Frag) (C : Addr) : Sp := fun vs H Q _ => ∃ (n : Nat) (t : Addr) (ps : List Addr) (bs : List (Int × List Int)), vs = [.int n, .ref t] ∧ SqT K H t (ps.map V.ref) ∧ BisAt C H ps bs ∧ OkEv n bs ∧ ∀ H', Same H H' → Q .non H'
theorem ok_check_bills (T : Facts K mg a) : FnR P w K mg base (L2.CX P w) 3 a.f_check_bills (spCkBills K a.c_Bill) := by
  obtain ⟨fd, F⟩ := T.u_check_bills
  have GS : FnR P w K mg base (L2.CX P w) 1 a.f_Bill_seats (spBiSeats a.c_Bill) := ok_bi_seats T
  refine fnr_ok F sc_check_bills (F.binds fun _ _ _ _ _ _ us hl => match us, hl with | [_, _], _ => rfl) (fun vs H Q E h => ?_) (fun cdv A outer s H vs Q E hr h => ?_)
  · obtain ⟨n, t, ps, bs, rfl, _⟩ := h
    rfl
  · obtain ⟨n, t, ps, bs, rfl, ht, hb, ⟨o1, o2, o3, o4⟩, q⟩ := h
    refine ⟨_, (pss_cons (ps_for own_main rfl (pi_enumA (by rfl) T.z_enumerate (pa_cons (pv 1) pa_nil)) (pg_tup rfl (pgs_cons (pg_name (i := 2) sc_check_bills.nd rfl (Or.inl rfl)) (pgs_cons (pg_name (i := 3) sc_check_bills.nd rfl (Or.inl rfl)) pgs_nil))) (pss_one (ps_if (pt_cmpA Like.refl pas_main (pe_ixA Like.refl pas_main (pe_atA Like.refl pas_main (pv 3)) (pe_unA Like.refl pas_main (pe_int))) (pv 0) (nomark _)) (pss_one (ps_raK (ks := [("index" : Str)]) rfl tk_main pas0 (by rfl) (pk_cons (pv 2) pk_nil))) pss_nil)))
    (pss_one (ps_if (pt_cmpA Like.refl pas_main (pe_biA (id := "len") Like.refl pas_main (by rfl) (by decide +kernel) (pa_cons (pv 1) pa_nil)) (pe_atA Like.refl pas_main (pe_gvA Like.refl (by rfl))) (nomark _)) (pss_one (ps_raK (ks := [("index" : Str)]) rfl tk_main pas0 (by rfl) (pk_cons (pe_atA Like.refl pas_main (pe_gvA Like.refl (by rfl))) pk_nil))) pss_nil))), ?_⟩
    walk_at "go"
    refine f_enumT (xs := ps.map V.ref) (a := t) (fun k σ H' => Same H H' ∧ ∃ (x y : Option V), σ = [some (.int n), some (.ref t), x, y]) (fun R k => ?_) ⟨Same.refl _, none, none, rfl⟩ (fun k σ H' _ p => same_t p.1 ht) (fun k x σ H' T2 hx p hT => ?_) (fun σ H' p => ?_)
    · walk_at "go"
      exact k
    · obtain ⟨s1, u, v, rfl⟩ := p
      rw [List.getElem?_map] at hx
      cases e : ps[k]? with
      | none => rw [e] at hx; cases hx
      | some z =>
        rw [e] at hx
        cases hx
        obtain ⟨hk, ez⟩ := List.getElem?_eq_some_iff.1 e
        have hk2 : k < bs.length := by rw [← hb.1]; exact hk
        obtain ⟨dx, t2, h1, h2⟩ := hb.2 k z _ e (List.getElem?_eq_getElem hk2)
        obtain ⟨⟨c1, c2, c3, c4⟩, c5⟩ := o4 _ (List.getElem_mem hk2)
        have s2 : Same H (upd H' T2 (.tup [.int (k : Nat), .ref z])) := s1.trans (same_new hT)
        have hne : (bs[k].2.map V.int) ≠ [] := fun z => c4 (List.map_eq_nil_iff.1 z)
        have hlast := c5 _ (List.getLast_mem c4)
        walk_at "go"
        refine s_prop T.cl_Bill T.pr_Bill_seats GS hr (s2 _ _ h1) ⟨z, dx, t2, _, rfl, s2 _ _ h1, ?_⟩
        walk_at "go"
        refine s_ixT (SqT.of (s2 _ _ h2)) (v := .int (bs[k].2.getLast c4)) (by rw [at_last _ hne, List.getLast_map]) ?_
        walk_at "go"
        rw [decide_eq_false (show ¬ (n : Int) ≤ bs[k].2.getLast c4 by omega)]
        walk_at "go"
        exact ⟨s2, _, _, rfl⟩
    · obtain ⟨s1, u, v, rfl⟩ := p
      walk_at "go"
      refine s_lenT (same_t s1 ht) ?_
      walk_at "go"
      refine s_cval T.cr_Evening T.cv_Evening_MAX_BILLS.choose_spec ?_
      rw [List.length_map]
      have := hb.1
      walk_at "go"
      rw [decide_eq_false (show ¬ (30 : Int) < (ps.length : Nat) by omega)]
      walk_at "go"
      exact q _ s1
def spEvInit (CE CB : Addr) : Sp := fun vs H Q _ => ∃ (x t dx : Addr) (n : Nat) (ps : List Addr) (bs : List (Int × List Int)), vs = [.ref x, .int n, .ref t] ∧ H x = some (.ins CE dx []) ∧ H t = some (.tup (ps.map V.ref)) ∧ BisAt CB H ps bs ∧ OkEv n bs ∧
  ∀ H', Same H H' → Q .non (upd H' x (.ins CE dx [("_seat_count", .int n), ("_bills", .ref t)]))
abbrev InitE (CE CB : Addr) : Sp := fun vs H Q E => ∃ ws rest, vs = ws ++ rest ∧ ws.length = ["self", "seat_count"].length ∧ rest.length ≤ sizeLine ∧ ∀ p, H p = Option.none → spEvInit CE CB (ws ++ [V.ref p]) (upd H p (.tup rest)) Q E
theorem ok_ev_init (T : Facts K mg a) : FnR P w K mg base (L2.CX P w) 4 a.f_Evening__init_ (InitE a.c_Evening a.c_Bill) := by
  obtain ⟨fd, F⟩ := T.u_Evening__init_
  have GA : FnR P w K mg base (L2.CX P w) 2 a.f_check_seat_count spCkCount := ok_check_seat_count T
  have GS : FnR P w K mg base (L2.CX P w) 3 a.f_check_bills (spCkBills K a.c_Bill) := ok_check_bills T
  refine fnr_star2 (p1 := "self") (p2 := "seat_count") (pv := "bills") F sc_Evening__init_ (fun _ _ _ _ _ _ _ _ => rfl) (fun _ _ _ _ _ _ _ _ _ _ => rfl) (fun cdv A outer s H vs Q E hr h => ?_)
  obtain ⟨x, t, dx, n, ps, bs, rfl, hx, ht, hb, ok, q⟩ := h
  refine ⟨_, (pss_cons (ps_expr (pe_glA Like.refl pas_main (by rfl) (pa_cons (pv 1) pa_nil)))
    (pss_cons (ps_expr (pe_glA Like.refl pas_main (by rfl) (pa_cons (pv 1) (pa_cons (pv 2) pa_nil))))
    (pss_cons (ps_fld (pv 0) (pv 1) rfl)
    (pss_one (ps_fld (pv 0) (pv 2) rfl))))), ?_⟩
  walk_at "go"
  refine s_fn GA (hr.mono (by decide)) ⟨n, rfl, by have := ok.1; omega, by have := ok.2.1; omega, ?_⟩
  walk_at "go"
  refine s_fn GS hr ⟨n, t, ps, bs, rfl, SqT.of ht, hb, ok, fun H' s1 => ?_⟩
  walk_at "go"
  with_reducible refine' w_fld ?_
  walk_at "go"
  refine ⟨x, a.c_Evening, dx, [], rfl, s1 _ _ hx, T.cl_Evening, T.na_Evening_seat_count, by decide, ?_⟩
  with_reducible refine' w_fld ?_
  walk_at "go"
  refine ⟨x, a.c_Evening, dx, _, rfl, upd_same, T.cl_Evening, T.na_Evening_bills, by show 1 < 1000; decide, ?_⟩
  have e : putF "_bills" (V.ref t) [(("_seat_count" : Str), V.int (n : Nat))] = [(("_seat_count" : Str), V.int (n : Nat)), ("_bills", V.ref t)] := put2 (by decide)
  show Q .non (upd (upd H' x (.ins a.c_Evening dx [("_seat_count", V.int (n : Nat))])) x (.ins a.c_Evening dx (putF "_bills" (V.ref t) [(("_seat_count" : Str), V.int (n : Nat))])))
  rw [e, upd_upd]
  exact q H' s1
/-- Evening(n, *bills) -/
theorem s_evening {X0 : Cx} {E : XK} {H : Hp} {Q : VK} {n : Nat} {ps : List Addr} {bs : List (Int × List Int)} (T : Facts X0.K X0.mg a) (F : Fn X0 4 a.f_Evening__init_ (InitE a.c_Evening a.c_Bill)) (hr : Room 5 X0.A) (hb : BisAt a.c_Bill H ps bs) (ok : OkEv n bs)
    (q : ∀ p H', H p = none → Same H H' → EvAt a.c_Evening a.c_Bill H' p n bs → Q (.ref p) H') : ∃ r, CaD X0 E (.ref a.c_Evening) r ∧ r (.int (n : Nat) :: ps.map V.ref) H Q := by
  have hps : ps.length ≤ 100000 := by have := ok.2.2.1; rw [hb.1]; omega
  refine s_mk T.mk_Evening F hr fun x dx hx hdx hne => ⟨[.ref x, .int n], ps.map V.ref, rfl, rfl, by rw [List.length_map]; exact sz5 hps, fun t ht => ?_⟩
  have n1 : t ≠ x := fun z => by subst z; rw [upd_same] at ht; cases ht
  have n2 : t ≠ dx := fun z => by subst z; rw [upd_ne hne, upd_same] at ht; cases ht
  rw [upd_ne n1, upd_ne n2] at ht
  have s0 : Same H (upd (upd (upd H dx (.own x)) x (.ins a.c_Evening dx [])) t (.tup (ps.map V.ref))) := fun b o e => by
    rw [upd_ne (ne_of_none e ht), upd_ne (ne_of_none e hx), upd_ne (ne_of_none e hdx)]
    exact e
  refine ⟨x, t, dx, n, ps, bs, rfl, ?_, upd_same, hb.same s0, ok, fun H' s1 => ⟨rfl, ?_⟩⟩
  · rw [upd_ne n1.symm, upd_same]
  · have s2 : Same H (upd H' x (.ins a.c_Evening dx [("_seat_count", .int n), ("_bills", .ref t)])) := fun b o e => by
      rw [upd_ne (ne_of_none e hx)]
      exact s1 _ _ (s0 _ _ e)
    exact q x _ hx s2 ⟨dx, t, ps, upd_same, by rw [upd_ne n1]; exact s1 _ _ upd_same, hb.same s2⟩
/-! the seats behind a mark -/
def behind (m : Int) (ss : List Int) : List Int := ss.filter (fun s => decide (m < s)) ++ ss.filter (fun s => decide (s ≤ m))
def spBehind (K : PySem.W.Frag) : Sp := fun vs H Q _ => ∃ m t ss, vs = [.int m, .ref t] ∧ SqT K H t (ss.map V.int) ∧ ss.length ≤ 1000 ∧ ∀ r H', H r = none → Same H H' → H' r = some (.lst ((behind m ss).map V.int)) → Q (.ref r) H'
theorem filt_step {f : Int → Bool} {ss : List Int} {k : Nat} {z : Int} (e : ss[k]? = some z) : ((ss.take (k + 1)).filter f).map V.int = if f z = true then ((ss.take k).filter f).map V.int ++ [V.int z] else ((ss.take k).filter f).map V.int := by
  rw [List.take_add_one, e, List.filter_append, List.map_append]
  simp only [Option.toList, List.filter_cons, List.filter_nil]
  split <;> simp
theorem ok_seats_behind (T : Facts K mg a) : FnR P w K mg base (L2.CX P w) 1 a.f_seats_behind (spBehind K) := by
  obtain ⟨fd, F⟩ := T.u_seats_behind
  refine fnr_ok F sc_seats_behind (F.binds fun _ _ _ _ _ _ us hl => match us, hl with | [_, _], _ => rfl) (fun vs H Q E h => ?_) (fun cdv A outer s H vs Q E hr h => ?_)
  · obtain ⟨m, t, ss, rfl, _⟩ := h
    rfl
  · obtain ⟨m, t, ss, rfl, ht, hl, q⟩ := h
    have hz : ∀ (f : Int → Bool) k, (((ss.take k).filter f).map V.int).length < 100000 := fun f k => by
      rw [List.length_map]
      have h1 := List.length_filter_le f (ss.take k)
      rw [List.length_take] at h1
      omega
    refine ⟨_, (pss_one (ps_ret (pe_opA Like.refl pas_main (pe_lc (own := [("seat", 2)]) (g := gName 2) (tt := _) rfl sc_seats_behind.nd (pi_seqA Like.refl (pv 1)) (blkOk_by (own := [("seat", 2)]) (N := N_seats_behind) (sc := defScope s_seats_behind) (by decide +kernel)) (fun _ _ _ _ _ => (pg_name (i := 2) sc_seats_behind.nd rfl (by first | exact Or.inl rfl | exact Or.inr rfl))) (fun _ _ _ _ _ => pts_one (pt_cmpA ⟨rfl, rfl, rfl, rfl, rfl, rfl, rfl⟩ passL (pv 2) (pv 0) (nomark _))) (fun _ _ _ _ _ => (pv 2))) (pe_lc (own := [("seat", 2)]) (g := gName 2) (tt := _) rfl sc_seats_behind.nd (pi_seqA Like.refl (pv 1)) (blkOk_by (own := [("seat", 2)]) (N := N_seats_behind) (sc := defScope s_seats_behind) (by decide +kernel)) (fun _ _ _ _ _ => (pg_name (i := 2) sc_seats_behind.nd rfl (by first | exact Or.inl rfl | exact Or.inr rfl))) (fun _ _ _ _ _ => pts_one (pt_cmpA ⟨rfl, rfl, rfl, rfl, rfl, rfl, rfl⟩ passL (pv 2) (pv 0) (nomark _))) (fun _ _ _ _ _ => (pv 2)))))), ?_⟩
    refine w_ret (w_op ?_)
    refine c_tup (a := t) (xs := ss.map V.int) (fun k => ((ss.take k).filter fun s => decide (m < s)).map V.int) rfl (fun k _ => hz _ k) ht (fun _ => rfl) (fun k x H' hx s1 => ?_) (fun r H' hr0 s1 hL => ?_) (fun R k => ?_)
    · rw [List.getElem?_map] at hx
      cases e : ss[k]? with
      | none => rw [e] at hx; cases hx
      | some z =>
        rw [e] at hx
        cases hx
        show Turn1 _ _ _ _ (((ss.take k).filter fun s => decide (m < s)).map V.int) (((ss.take (k + 1)).filter fun s => decide (m < s)).map V.int)
        rw [filt_step e]
        refine turn1_filter (fun R hR => ?_) (fun _ H3 _ R hR => ?_)
        · walk_at "go"
          exact hR _ (Same.refl _)
        · walk_at "go"
          exact hR _ (Same.refl _)
    · rw [List.length_map, List.take_of_length_le (Nat.le_refl _)] at hL
      refine c_tup (a := t) (xs := ss.map V.int) (fun k => ((ss.take k).filter fun s => decide (s ≤ m)).map V.int) rfl (fun k _ => hz _ k) (same_t s1 ht) (fun _ => rfl) (fun k x H2 hx s2 => ?_) (fun r2 H2 hr2 s2 hL2 => ?_) (fun R k => ?_)
      · rw [List.getElem?_map] at hx
        cases e : ss[k]? with
        | none => rw [e] at hx; cases hx
        | some z =>
          rw [e] at hx
          cases hx
          show Turn1 _ _ _ _ (((ss.take k).filter fun s => decide (s ≤ m)).map V.int) (((ss.take (k + 1)).filter fun s => decide (s ≤ m)).map V.int)
          rw [filt_step e]
          refine turn1_filter (fun R hR => ?_) (fun _ H3 _ R hR => ?_)
          · walk_at "go"
            exact hR _ (Same.refl _)
          · walk_at "go"
            exact hR _ (Same.refl _)
      · rw [List.length_map, List.take_of_length_le (Nat.le_refl _)] at hL2
        have l1 := List.length_filter_le (fun s => decide (m < s)) ss
        have l2 := List.length_filter_le (fun s => decide (s ≤ m)) ss
        refine s_cat (s2 _ _ hL) hL2 (by rw [List.length_map, List.length_map]; exact sz5 (by omega)) fun p hp => ?_
        refine q p _ (s1.free (s2.free hp)) ((s1.trans s2).trans (same_new hp)) ?_
        rw [upd_same, ← List.map_append]
        rfl
      · walk_at "go"
        exact k
    · walk_at "go"
      exact k
def spNoShares (C : Addr) : Sp := fun vs H Q _ => ∃ n : Nat, vs = [.int n] ∧ n ≤ 1000 ∧ ∀ r H', H r = none → Same H H' → ShAt C H' r (List.replicate n 0) → Q (.ref r) H'
theorem ok_no_shares (T : Facts K mg a) : FnR P w K mg base (L2.CX P w) 3 a.f_no_shares (spNoShares a.c_Shares) := by
  obtain ⟨fd, F⟩ := T.u_no_shares
  have GI : FnR P w K mg base (L2.CX P w) 1 a.f_Shares__init_ (InitSp a.c_Shares) := ok_sh_init T
  refine fnr_ok F sc_no_shares (F.binds fun _ _ _ _ _ _ us hl => match us, hl with | [_], _ => rfl) (fun vs H Q E h => ?_) (fun cdv A outer s H vs Q E hr h => ?_)
  · obtain ⟨n, rfl, _⟩ := h
    rfl
  · obtain ⟨n, rfl, hn, q⟩ := h
    refine ⟨_, (pss_cons (ps_set (i := 1) sc_no_shares.nd rfl (Or.inl rfl) (pe_opA Like.refl pas_main (pe_lst (pa_cons (pe_int) pa_nil)) (pv 0)))
    (pss_one (ps_ret (pe_glS Like.refl pas_main (by rfl) (pv 1))))), ?_⟩
    walk_at "go"
    refine ⟨by show 1 ≤ sizeLine; decide, fun c hc => ?_⟩
    walk_at "go"
    refine s_rep upd_same (by omega) (by omega) (sz5 (by simp; omega)) fun d hd => ?_
    walk_at "go"
    refine ⟨d, (List.replicate n 0).map V.int, rfl, .inr (SqL.of (by rw [upd_same, flat1, List.map_replicate, Int.toNat_natCast])), ?_⟩
    have s1 := same_new (o := .lst [.int 0]) hc
    have s2 := same_new (o := .lst (List.replicate (n : Int).toNat [V.int 0]).flatten) hd
    exact s_shares T GI hr (by rw [List.length_replicate]; omega) fun p' H2 hp' s3 sh => q p' H2 (s1.free (s2.free hp')) ((s1.trans s2).trans s3) sh
end

/-! ### splitting a bill, an evening -/
section
variable {P : Program} {w : World} {K : PySem.W.Frag} {mg : Str → Option Value} {base : Heap} {a : Ad}
/-- q for each seat of ss, 0 for others -/
def baseC (n : Nat) (q : Int) (ss : List Int) : List Int := ss.foldl (fun c s => c.set s.toNat q) (List.replicate n 0)
/-- one more for each of ps -/
def bumps (c ps : List Int) : List Int := ps.foldl (fun c s => c.set s.toNat (c.getD s.toNat 0 + 1)) c
theorem foldl_len {α β : Type} {f : List α → β → List α} (h : ∀ c s, (f c s).length = c.length) : ∀ (l : List β) (c : List α), (l.foldl f c).length = c.length
  | [], _ => rfl
  | s :: l, c => by rw [List.foldl_cons, foldl_len h l, h]
theorem baseC_len (n : Nat) (q : Int) (ss : List Int) : (baseC n q ss).length = n := by
  unfold baseC
  rw [foldl_len (fun c s => List.length_set), List.length_replicate]
theorem bumps_len (c ps : List Int) : (bumps c ps).length = c.length := foldl_len (fun c s => List.length_set) ps c
theorem baseC_snoc (n : Nat) (q : Int) (l : List Int) (z : Int) : baseC n q (l ++ [z]) = (baseC n q l).set z.toNat q := by
  unfold baseC
  rw [List.foldl_append, List.foldl_cons, List.foldl_nil]
theorem bumps_snoc (c l : List Int) (z : Int) : bumps c (l ++ [z]) = (bumps c l).set z.toNat ((bumps c l).getD z.toNat 0 + 1) := by
  unfold bumps
  rw [List.foldl_append, List.foldl_cons, List.foldl_nil]
/-- who pays the odd cents -/
def payers (m : Int) (b : Int × List Int) : List Int := (behind m b.2).take (b.1 % (b.2.length : Nat)).toNat
def splitC (n : Nat) (m : Int) (b : Int × List Int) : List Int := bumps (baseC n (b.1 / (b.2.length : Nat)) b.2) (payers m b)
def splitM (m : Int) (b : Int × List Int) : Int := (payers m b).getLastD m
theorem splitC_len (n : Nat) (m : Int) (b : Int × List Int) : (splitC n m b).length = n := by
  unfold splitC
  rw [bumps_len, baseC_len]
theorem cutV_to (xs : List V) {i : Int} (h : 0 ≤ i) : cutV xs none (some i) = xs.take i.toNat := by
  have e : HT.sIx xs.length xs.length (some i) = min i.toNat xs.length := by
    show (if i < 0 then _ else _) = _
    rw [if_neg (by omega)]
  unfold cutV
  rw [e]
  show (xs.drop 0).take (min i.toNat xs.length - 0) = _
  rw [List.drop_zero, Nat.sub_zero, ← List.take_eq_take_min]
theorem s_iadd {X0 : Cx} {E : XK} {H : Hp} {Q : VK} {i j : Int} (q : Q (.int (i + j)) H) : ∃ r, OpD X0 E (inplaceOp .Add) r ∧ r (.int i) (.int j) H Q :=
  ⟨_, fun X _ _ pins s σ H x y v u Q I rx ry h => ip_add pins s σ H x y v u Q I rx ry h, i, j, rfl, rfl, q⟩
theorem w_slt {r : V → Option Int → Option Int → Hp → VK → Prop} {te tu : TE} {σ : L2.St} {H : Hp} {Q : VK} (h : te σ H fun x H1 => tu σ H1 fun y H2 => ∃ i, y = .int i ∧ r x none (some i) H2 Q) : tSl r te tNoPart (tPart tu) σ H Q := h
def spSplit (CB CS : Addr) : Sp := fun vs H Q _ => ∃ (p : Addr) (m : Int) (n : Nat) (b : Int × List Int), vs = [.ref p, .int m, .int n] ∧ BiAt CB H p b ∧ OkBill b ∧ n ≤ 8 ∧ (∀ s ∈ b.2, s < (n : Int)) ∧
  ∀ T r H', H T = none → Same H H' → H' T = some (.tup [.ref r, .int (splitM m b)]) → ShAt CS H' r (splitC n m b) → Q (.ref T) H'
theorem asc_ge : ∀ {ss : List Int} {lo : Int}, asc lo ss = true → ∀ s ∈ ss, lo ≤ s ∧ s ≤ 7
  | [], _, _, s, h => by simp at h
  | x :: ss, lo, h, s, hs => by
    simp only [asc, Bool.and_eq_true, decide_eq_true_eq] at h
    rcases List.mem_cons.1 hs with e | e
    · rw [e]; exact ⟨h.1.1, h.1.2⟩
    · have := asc_ge h.2 s e
      omega
theorem ixN_of {n : Nat} {i : Int} (h0 : 0 ≤ i) (h1 : i < (n : Int)) : ixN n i = some i.toNat := by
  unfold ixN
  rw [if_pos h0, if_pos h1]
theorem asc_len : ∀ {ss : List Int} {lo : Int}, asc lo ss = true → 0 ≤ lo → (ss.length : Int) ≤ 8 - lo ∨ ss = []
  | [], _, _, _ => .inr rfl
  | x :: ss, lo, h, h0 => by
    simp only [asc, Bool.and_eq_true, decide_eq_true_eq] at h
    refine .inl ?_
    rcases asc_len h.2 (by omega) with e | e
    · rw [List.length_cons]; omega
    · subst e; show (((0 : Nat) + 1 : Nat) : Int) ≤ _; omega
theorem ok_len {b : Int × List Int} (h : OkBill b) : b.2.length ≤ 8 := by
  rcases asc_len h.2.2.1 (Int.le_refl _) with e | e
  · omega
  · rw [e]; exact Nat.zero_le _
theorem ok_split (T : Facts K mg a) : FnR P w K mg base (L2.CX P w) 3 a.f_split_bill (spSplit a.c_Bill a.c_Shares) := by
  obtain ⟨fd, F⟩ := T.u_split_bill
  have GI : FnR P w K mg base (L2.CX P w) 1 a.f_Shares__init_ (InitSp a.c_Shares) := ok_sh_init T
  have GS : FnR P w K mg base (L2.CX P w) 1 a.f_Bill_seats (spBiSeats a.c_Bill) := ok_bi_seats T
  have GA : FnR P w K mg base (L2.CX P w) 1 a.f_Bill_amount (spBiAmount a.c_Bill) := ok_bi_amount T
  have GO : FnR P w K mg base (L2.CX P w) 1 a.f_Bill_odd_cents (spBiOdd a.c_Bill) := ok_bi_odd T
  have GB : FnR P w K mg base (L2.CX P w) 1 a.f_seats_behind (spBehind K) := ok_seats_behind T
  refine fnr_ok F sc_split_bill (F.binds fun _ _ _ _ _ _ us hl => match us, hl with | [_, _, _], _ => rfl) (fun vs H Q E h => ?_) (fun cdv A outer s H vs Q E hr h => ?_)
  · obtain ⟨p, m, n, b, rfl, _⟩ := h
    rfl
  · obtain ⟨p, m, n, b, rfl, hb, ok, hn, hs, q⟩ := h
    obtain ⟨dx, t, h1, h2⟩ := id hb
    have hl := ok_len ok
    have hpos := List.length_pos_iff.2 ok.2.2.2
    have hseat : ∀ s ∈ b.2, 0 ≤ s ∧ s < (n : Int) := fun s hm => ⟨(asc_ge ok.2.2.1 s hm).1, hs s hm⟩
    refine ⟨_, (pss_cons (ps_set (i := 3) sc_split_bill.nd rfl (Or.inl rfl) (pe_opA Like.refl pas_main (pe_lst (pa_cons (pe_int) pa_nil)) (pv 2)))
    (pss_cons (ps_for own_main rfl (pi_seqA Like.refl (pe_atA Like.refl pas_main (pv 0))) (pg_name (i := 4) sc_split_bill.nd rfl (Or.inl rfl)) (pss_one (ps_asg (pe_opA Like.refl pas_main (pe_atA Like.refl pas_main (pv 0)) (pe_biA (id := "len") Like.refl pas_main (by rfl) (by decide +kernel) (pa_cons (pe_atA Like.refl pas_main (pv 0)) pa_nil))) (pg_sub (pv 3) (pv 4) set_list))))
    (pss_cons (ps_for own_main rfl (pi_seqA Like.refl (pe_slice sl_list (pe_glA Like.refl pas_main (by rfl) (pa_cons (pv 1) (pa_cons (pe_atA Like.refl pas_main (pv 0)) pa_nil))) po_none (po_some (pe_atA Like.refl pas_main (pv 0))))) (pg_name (i := 4) sc_split_bill.nd rfl (Or.inl rfl)) (pss_cons (ps_agS Like.refl pas_main (pv 3) (pv 4) (pe_int))
    (pss_one (ps_set (i := 1) sc_split_bill.nd rfl (Or.inl rfl) (pv 4)))))
    (pss_one (ps_ret (pe_tup (pa_cons (pe_glS Like.refl pas_main (by rfl) (pv 3)) (pa_cons (pv 1) pa_nil)))))))), ?_⟩
    walk_at "go"
    refine ⟨by show 1 ≤ sizeLine; decide, fun c0 hc0 => ?_⟩
    walk_at "go"
    refine s_rep upd_same (by omega) (by omega) (sz5 (by simp; omega)) fun c hc => ?_
    rw [flat1, Int.toNat_natCast]
    have s1 := same_new (o := .lst [.int 0]) hc0
    have s2 := same_new (o := .lst (List.replicate n (V.int 0))) hc
    have hcH : H c = none := s1.free hc
    walk_at "go"
    refine f_tup (a := t) (xs := b.2.map V.int) (fun k σ H' => Same H H' ∧ H' c = some (.lst ((baseC n (b.1 / (b.2.length : Nat)) (b.2.take k)).map V.int)) ∧ ∃ x, σ = [some (.ref p), some (.int m), some (.int n), some (.ref c), x]) (fun R k => ?_)
      ⟨s1.trans s2, by rw [upd_same, List.take_zero]; show _ = some (HO.lst ((List.replicate n 0).map V.int)); rw [List.map_replicate], none, rfl⟩ (fun k σ H' _ p => same_t p.1 (SqT.of h2)) (fun k x σ H' hx pv => ?_) (fun σ H' pv => ?_)
    · walk_at "go"
      exact s_prop T.cl_Bill T.pr_Bill_seats GS (hr.mono (by decide)) ((s1.trans s2) _ _ h1) ⟨p, dx, t, _, rfl, (s1.trans s2) _ _ h1, k⟩
    · obtain ⟨s3, hcc, u, rfl⟩ := pv
      rw [List.getElem?_map] at hx
      cases e : b.2[k]? with
      | none => rw [e] at hx; cases hx
      | some z =>
        rw [e] at hx
        cases hx
        have hz := hseat z (List.mem_of_getElem? e)
        refine w_name ?_
        walk_at "go"
        refine s_prop T.cl_Bill T.pr_Bill_amount GA (hr.mono (by decide)) (s3 _ _ h1) ⟨p, dx, t, _, rfl, s3 _ _ h1, ?_⟩
        walk_at "go"
        refine s_prop T.cl_Bill T.pr_Bill_seats GS (hr.mono (by decide)) (s3 _ _ h1) ⟨p, dx, t, _, rfl, s3 _ _ h1, ?_⟩
        walk_at "go"
        refine s_lenT (SqT.of (s3 _ _ h2)) ?_
        rw [List.length_map]
        refine s_fdivW (wide_div (b := 40) (by omega) (by omega) (by decide) (by decide)) ?_
        refine w_gsub ?_
        walk_at "go"
        refine s_setL hcc (ixN_of hz.1 (by rw [List.length_map, baseC_len]; exact hz.2)) ?_
        walk_at "go"
        refine ⟨same_mut s3 hcH, ?_, _, rfl⟩
        rw [upd_same, List.take_add_one, e]
        show _ = some (HO.lst ((baseC n (b.1 / (b.2.length : Nat)) (b.2.take k ++ [z])).map V.int))
        rw [baseC_snoc, List.map_set]
    · obtain ⟨s3, hcc, u, rfl⟩ := pv
      rw [List.length_map, List.take_of_length_le (Nat.le_refl _)] at hcc
      walk_at "go"
      refine w_for (w_isq (w_slt ?_))
      walk_at "go"
      refine s_prop T.cl_Bill T.pr_Bill_seats GS (hr.mono (by decide)) (s3 _ _ h1) ⟨p, dx, t, _, rfl, s3 _ _ h1, ?_⟩
      walk_at "go"
      refine s_fn GB (hr.mono (by decide)) ⟨m, t, b.2, rfl, SqT.of (s3 _ _ h2), by omega, fun l H4 hl0 s4 hL => ?_⟩
      walk_at "go"
      refine s_prop T.cl_Bill T.pr_Bill_odd_cents GO (hr.mono (by decide)) ((s3.trans s4) _ _ h1) ⟨p, b, rfl, hb.same (s3.trans s4), ok.2.2.2, ?_⟩
      have hodd : 0 ≤ b.1 % (b.2.length : Nat) := Int.emod_nonneg _ (by omega)
      refine ⟨_, rfl, l, _, rfl, SqL.of hL, fun l2 hl2 => ?_⟩
      rw [cutV_to _ hodd, ← List.map_take]
      have s5 := same_new (o := .lst (((behind m b.2).take (b.1 % (b.2.length : Nat)).toNat).map V.int)) hl2
      have hl2c : l2 ≠ c := fun z => by
        rw [z, s4 _ _ hcc] at hl2
        cases hl2
      have hpay : ∀ s ∈ payers m b, 0 ≤ s ∧ s < (n : Int) := fun s hm => by
        have h3 := List.mem_of_mem_take hm
        rcases List.mem_append.1 h3 with h4 | h4
        · exact hseat s (List.mem_filter.1 h4).1
        · exact hseat s (List.mem_filter.1 h4).1
      refine ⟨l2, rfl, .inl ⟨⟨_, SqL.of upd_same⟩, for_list (xs := (payers m b).map V.int) (fun k σ H' => Same H H' ∧ H' l2 = some (.lst ((payers m b).map V.int)) ∧ H' c = some (.lst ((bumps (baseC n (b.1 / (b.2.length : Nat)) b.2) ((payers m b).take k)).map V.int)) ∧
        ∃ x, σ = [some (.ref p), some (.int (((payers m b).take k).getLastD m)), some (.int n), some (.ref c), x]) ⟨(s3.trans s4).trans s5, upd_same, by rw [upd_ne hl2c.symm]; exact s4 _ _ hcc, _, rfl⟩ (fun k σ H' _ pv => SqL.of pv.2.1) (fun k x σ H' hx pv => ?_) (fun σ H' pv => ?_)⟩⟩
      · obtain ⟨s6, hl6, hc6, v, rfl⟩ := pv
        rw [List.getElem?_map] at hx
        cases e : (payers m b)[k]? with
        | none => rw [e] at hx; cases hx
        | some z =>
          rw [e] at hx
          cases hx
          have hz := hpay z (List.mem_of_getElem? e)
          have hlen : (bumps (baseC n (b.1 / (b.2.length : Nat)) b.2) ((payers m b).take k)).length = n := by rw [bumps_len, baseC_len]
          have hz2 : z.toNat < (bumps (baseC n (b.1 / (b.2.length : Nat)) b.2) ((payers m b).take k)).length := by omega
          refine w_name ?_
          walk_at "go"
          refine w_agS (K := K) ?_
          walk_at "go"
          refine s_getL (SqL.of hc6) hz.1 (v := .int ((bumps (baseC n (b.1 / (b.2.length : Nat)) b.2) ((payers m b).take k)).getD z.toNat 0)) (by rw [List.getElem?_map, List.getD_eq_getElem?_getD, List.getElem?_eq_getElem hz2] <;> rfl) ?_
          walk_at "go"
          refine s_iadd ?_
          refine s_setL hc6 (ixN_of hz.1 (by rw [List.length_map, hlen]; exact hz.2)) ?_
          walk_at "go"
          refine ⟨same_mut s6 hcH, by rw [upd_ne hl2c]; exact hl6, ?_, some (.int z), ?_⟩
          · rw [upd_same, List.take_add_one, e]
            show _ = some (HO.lst ((bumps (baseC n (b.1 / (b.2.length : Nat)) b.2) ((payers m b).take k ++ [z])).map V.int))
            rw [bumps_snoc, List.map_set]
          · rw [List.take_add_one, e]
            show _ = [some (V.ref p), some (V.int (((payers m b).take k ++ [z]).getLastD m)), some (V.int (n : Nat)), some (V.ref c), some (V.int z)]
            rw [List.getLastD_concat]
            rfl
      · obtain ⟨s6, hl6, hc6, v, rfl⟩ := pv
        rw [List.length_map, List.take_of_length_le (Nat.le_refl _)] at hc6
        rw [List.length_map, List.take_of_length_le (Nat.le_refl _)]
        walk_at "go"
        refine ⟨c, (splitC n m b).map V.int, rfl, .inr (SqL.of hc6), ?_⟩
        refine s_shares T GI (hr.mono (by decide)) (by rw [splitC_len]; omega) fun r H7 hr7 s7 sh => ?_
        walk_at "go"
        refine ⟨by show 2 ≤ sizeLine; decide, fun T2 hT2 => ?_⟩
        exact q T2 r _ (s6.free (s7.free hT2)) ((s6.trans s7).trans (same_new hT2)) upd_same (sh.same (same_new hT2))
/-- an evening's cents and the mark afterwards -/
def evRun (n : Nat) (m : Int) (bs : List (Int × List Int)) : List Int × Int := bs.foldl (fun x b => (List.zipWith (· + ·) x.1 (splitC n x.2 b), splitM x.2 b)) (List.replicate n 0, m)
theorem evRun_snoc (n : Nat) (m : Int) (bs : List (Int × List Int)) (b : Int × List Int) : evRun n m (bs ++ [b]) = (List.zipWith (· + ·) (evRun n m bs).1 (splitC n (evRun n m bs).2 b), splitM (evRun n m bs).2 b) := by
  unfold evRun
  rw [List.foldl_append, List.foldl_cons, List.foldl_nil]
theorem evRun_len (n : Nat) (m : Int) (bs : List (Int × List Int)) : (evRun n m bs).1.length = n := by
  have h : ∀ (bs : List (Int × List Int)) (x : List Int × Int), x.1.length = n → (bs.foldl (fun x b => (List.zipWith (· + ·) x.1 (splitC n x.2 b), splitM x.2 b)) x).1.length = n := fun bs => by
    induction bs with
    | nil => exact fun x h => h
    | cons b bs ih => exact fun x h => ih _ (by rw [List.length_zipWith, splitC_len, h, Nat.min_self])
  exact h bs _ List.length_replicate
def spEvCall (CE CB CS : Addr) : Sp := fun vs H Q _ => ∃ (p : Addr) (m : Int) (n : Nat) (bs : List (Int × List Int)), vs = [.ref p, .int m] ∧ EvAt CE CB H p n bs ∧ OkEv n bs ∧ 0 ≤ m ∧ m < (n : Int) ∧
  ∀ T r H', H T = none → Same H H' → H' T = some (.tup [.ref r, .int (evRun n m bs).2]) → ShAt CS H' r (evRun n m bs).1 → Q (.ref T) H'
theorem ok_ev_call (T : Facts K mg a) : FnR P w K mg base (L2.CX P w) 4 a.f_Evening__call_ (spEvCall a.c_Evening a.c_Bill a.c_Shares) := by
  obtain ⟨fd, F⟩ := T.u_Evening__call_
  have GM : FnR P w K mg base (L2.CX P w) 2 a.f_check_mark spCkMark := ok_check_mark T
  have GN : FnR P w K mg base (L2.CX P w) 3 a.f_no_shares (spNoShares a.c_Shares) := ok_no_shares T
  have GS : FnR P w K mg base (L2.CX P w) 3 a.f_split_bill (spSplit a.c_Bill a.c_Shares) := ok_split T
  have GA : FnR P w K mg base (L2.CX P w) 3 a.f_Shares__add_ (spShAdd a.c_Shares a.c_OtherTable) := ok_sh_add T
  refine fnr_ok F sc_Evening__call_ (F.binds fun _ _ _ _ _ _ us hl => match us, hl with | [_, _], _ => rfl) (fun vs H Q E h => ?_) (fun cdv A outer s H vs Q E hr h => ?_)
  · obtain ⟨p, m, n, bs, rfl, _⟩ := h
    rfl
  · obtain ⟨p, m, n, bs, rfl, he, ok, h0, h1, q⟩ := h
    obtain ⟨dx, t, ps, e1, e2, e3⟩ := id he
    have hn : n ≤ 8 := ok.2.1
    refine ⟨_, (pss_cons (ps_expr (pe_glA Like.refl pas_main (by rfl) (pa_cons (pv 1) (pa_cons (pe_atA Like.refl pas_main (pv 0)) pa_nil))))
    (pss_cons (ps_set (i := 2) sc_Evening__call_.nd rfl (Or.inl rfl) (pe_glA Like.refl pas_main (by rfl) (pa_cons (pe_atA Like.refl pas_main (pv 0)) pa_nil)))
    (pss_cons (ps_for own_main rfl (pi_seqA Like.refl (pe_atA Like.refl pas_main (pv 0))) (pg_name (i := 3) sc_Evening__call_.nd rfl (Or.inl rfl)) (pss_cons (ps_asg (pe_glA Like.refl pas_main (by rfl) (pa_cons (pv 3) (pa_cons (pv 1) (pa_cons (pe_atA Like.refl pas_main (pv 0)) pa_nil)))) (pg_tup rfl (pgs_cons (pg_name (i := 4) sc_Evening__call_.nd rfl (Or.inl rfl)) (pgs_cons (pg_name (i := 1) sc_Evening__call_.nd rfl (Or.inl rfl)) pgs_nil))))
    (pss_one (ps_set (i := 2) sc_Evening__call_.nd rfl (Or.inl rfl) (pe_opA Like.refl pas_main (pv 2) (pv 4))))))
    (pss_one (ps_ret (pe_tup (pa_cons (pv 2) (pa_cons (pv 1) pa_nil)))))))), ?_⟩
    walk_at "go"
    refine s_fld e1 T.cl_Evening T.na_Evening_seat_count look_count ?_
    walk_at "go"
    refine s_fn GM (hr.mono (by decide)) ⟨m, n, rfl, h0, h1, ?_⟩
    walk_at "go"
    refine s_fld e1 T.cl_Evening T.na_Evening_seat_count look_count ?_
    walk_at "go"
    refine s_fn GN (hr.mono (by decide)) ⟨n, rfl, by omega, fun r H1 hr1 s1 sh1 => ?_⟩
    walk_at "go"
    refine f_tup (a := t) (xs := ps.map V.ref) (fun k σ H' => Same H H' ∧ ∃ r x y, ShAt a.c_Shares H' r (evRun n m (bs.take k)).1 ∧ σ = [some (.ref p), some (.int (evRun n m (bs.take k)).2), some (.ref r), x, y]) (fun R k => ?_)
      ⟨s1, r, none, none, by rw [List.take_zero]; exact sh1, by rw [List.take_zero] <;> rfl⟩ (fun k σ H' _ pv => same_t pv.1 (SqT.of e2)) (fun k x σ H' hx pv => ?_) (fun σ H' pv => ?_)
    · walk_at "go"
      exact s_fld (s1 _ _ e1) T.cl_Evening T.na_Evening_bills look_bills k
    · obtain ⟨s2, r2, x1, x2, sh2, rfl⟩ := pv
      rw [List.getElem?_map] at hx
      cases e : ps[k]? with
      | none => rw [e] at hx; cases hx
      | some z =>
        rw [e] at hx
        cases hx
        obtain ⟨hk, ez⟩ := List.getElem?_eq_some_iff.1 e
        have hk2 : k < bs.length := by rw [← e3.1]; exact hk
        have eb := List.getElem?_eq_getElem hk2
        obtain ⟨ob, os⟩ := ok.2.2.2 _ (List.getElem_mem hk2)
        refine w_name ?_
        walk_at "go"
        refine s_fld (s2 _ _ e1) T.cl_Evening T.na_Evening_seat_count look_count ?_
        walk_at "go"
        refine s_fn GS (hr.mono (by decide)) ⟨z, _, n, bs[k], rfl, (e3.2 k z _ e eb).same s2, ob, hn, os, fun T2 r3 H3 hT2 s3 hT3 sh3 => ?_⟩
        refine g_pair (SqT.of hT3) ?_
        walk_at "go"
        obtain ⟨d1, t1, i1, i2⟩ := id sh2
        obtain ⟨d2, t2, j1, j2⟩ := id sh3
        have hl1 : (evRun n m (bs.take k)).1.length = n := evRun_len ..
        refine s_opSame T.sf_Shares T.m_Shares__add_ (by decide +kernel) GA (hr.mono (by decide)) (s3 _ _ i1) j1 ⟨r2, r3, _, _, rfl, sh2.same s3, sh3, by rw [hl1]; omega, fun hh r4 H4 hr4 s4 sh4 => ?_, fun hh => ?_⟩
        · walk_at "go"
          refine ⟨(s2.trans s3).trans s4, r4, some (.ref z), some (.ref r3), ?_, ?_⟩
          · rw [List.take_add_one, eb]
            show ShAt _ _ _ (evRun n m (bs.take k ++ [bs[k]])).1
            rw [evRun_snoc]
            exact sh4
          · rw [List.take_add_one, eb]
            show _ = [some (V.ref p), some (V.int (evRun n m (bs.take k ++ [bs[k]])).2), _, _, _]
            rw [evRun_snoc]
            rfl
        · rw [splitC_len] at hh
          exact absurd hl1 hh
    · obtain ⟨s2, r2, x1, x2, sh2, rfl⟩ := pv
      rw [List.length_map, e3.1, List.take_of_length_le (Nat.le_refl _)] at sh2
      rw [List.length_map, e3.1, List.take_of_length_le (Nat.le_refl _)]
      walk_at "go"
      refine ⟨by show 2 ≤ sizeLine; decide, fun T2 hT2 => ?_⟩
      exact q T2 r2 _ (s2.free hT2) (s2.trans (same_new hT2)) upd_same (sh2.same (same_new hT2))
theorem BisAt.app {C : Addr} {H : Hp} {ps qs : List Addr} {bs cs : List (Int × List Int)} (h : BisAt C H ps bs) (h' : BisAt C H qs cs) : BisAt C H (ps ++ qs) (bs ++ cs) := by
  refine ⟨by rw [List.length_append, List.length_append, h.1, h'.1], fun i p b e1 e2 => ?_⟩
  by_cases hi : i < ps.length
  · rw [List.getElem?_append_left hi] at e1
    rw [List.getElem?_append_left (by rw [← h.1]; exact hi)] at e2
    exact h.2 i p b e1 e2
  · rw [List.getElem?_append_right (by omega)] at e1
    rw [List.getElem?_append_right (by rw [← h.1]; omega), ← h.1] at e2
    exact h'.2 _ p b e1 e2
def spEvAdd (CE CB : Addr) : Sp := fun vs H Q _ => ∃ (p q : Addr) (n : Nat) (bs cs : List (Int × List Int)), vs = [.ref p, .ref q] ∧ EvAt CE CB H p n bs ∧ EvAt CE CB H q n cs ∧ OkEv n (bs ++ cs) ∧
  ∀ r H', H r = none → Same H H' → EvAt CE CB H' r n (bs ++ cs) → Q (.ref r) H'
theorem ok_ev_add (T : Facts K mg a) : FnR P w K mg base (L2.CX P w) 6 a.f_Evening__add_ (spEvAdd a.c_Evening a.c_Bill) := by
  obtain ⟨fd, F⟩ := T.u_Evening__add_
  have GI : FnR P w K mg base (L2.CX P w) 4 a.f_Evening__init_ (InitE a.c_Evening a.c_Bill) := ok_ev_init T
  refine fnr_ok F sc_Evening__add_ (F.binds fun _ _ _ _ _ _ us hl => match us, hl with | [_, _], _ => rfl) (fun vs H Q E h => ?_) (fun cdv A outer s H vs Q E hr h => ?_)
  · obtain ⟨p, q, n, bs, cs, rfl, _⟩ := h
    rfl
  · obtain ⟨p, q, n, bs, cs, rfl, hp, hq, ok, k⟩ := h
    obtain ⟨dx, t, ps, e1, e2, e3⟩ := id hp
    obtain ⟨dy, u, qs, f1, f2, f3⟩ := id hq
    have hl := ok.2.2.1
    rw [List.length_append] at hl
    have l1 := e3.1
    have l2 := f3.1
    refine ⟨_, (pss_cons (ps_if (pt_cmpA Like.refl pas_main (pe_atA Like.refl pas_main (pv 0)) (pe_atA Like.refl pas_main (pv 1)) (nomark _)) (pss_one (ps_raA rfl tk_main (by rfl))) pss_nil)
    (pss_cons (ps_set (i := 2) sc_Evening__add_.nd rfl (Or.inl rfl) (pe_opA Like.refl pas_main (pe_atA Like.refl pas_main (pv 0)) (pe_atA Like.refl pas_main (pv 1))))
    (pss_one (ps_ret (pe_glS2 Like.refl pas_main (by rfl) (pa_cons (pe_atA Like.refl pas_main (pv 0)) (pa_starA Like.refl (pv 2) pa_nil))))))), ?_⟩
    walk_at "go"
    refine s_fld e1 T.cl_Evening T.na_Evening_seat_count look_count ?_
    walk_at "go"
    refine s_fld f1 T.cl_Evening T.na_Evening_seat_count look_count ?_
    walk_at "go"
    rw [decide_eq_true rfl]
    walk_at "go"
    refine s_fld e1 T.cl_Evening T.na_Evening_bills look_bills ?_
    walk_at "go"
    refine s_fld f1 T.cl_Evening T.na_Evening_bills look_bills ?_
    have fin : ∀ (b : Addr) (H1 : Hp), Same H H1 → SqT K H1 b ((ps ++ qs).map V.ref) → (tRet (tGlA (cxOf (L2.CX P w) P w K mg base N_Evening__add_ "Evening.__add__" (defScope s_Evening__add_) a.f_Evening__add_ cdv A outer s H E) E "Evening" (tCons (tAtA (cxOf (L2.CX P w) P w K mg base N_Evening__add_ "Evening.__add__" (defScope s_Evening__add_) a.f_Evening__add_ cdv A outer s H E) E "_seat_count" (tVar 0)) (StX.tStar K (tVar 2) tNil)))) { nx := fun _ H' => Q .non H', rt := Q } [some (.ref p), some (.ref q), some (.ref b)] H1 := fun b H1 s1 hb => by
      walk_at "go"
      refine s_fld (s1 _ _ e1) T.cl_Evening T.na_Evening_seat_count look_count ?_
      refine ⟨.ref b, rfl, b, _, rfl, .inl hb, ?_⟩
      walk_at "go"
      show ∃ r, CaD _ E (.ref a.c_Evening) r ∧ r (.int (n : Nat) :: ((ps ++ qs).map V.ref ++ [])) _ _
      rw [List.append_nil]
      exact s_evening T GI (hr.mono (by decide)) ((e3.same s1).app (f3.same s1)) ok fun r H2 hr2 s2 ev => k r H2 (s1.free hr2) (s1.trans s2) ev
    refine s_catT (SqT.of e2) (SqT.of f2) (by rw [List.length_map, List.length_map]; exact sz5 (by omega)) (fun z => ?_) (fun _ z => ?_) (fun _ _ r hr0 => ?_)
    · with_reducible refine' w_name ?_
      exact fin u H (Same.refl _) (by rw [List.map_append, z, List.nil_append]; exact SqT.of f2)
    · with_reducible refine' w_name ?_
      exact fin t H (Same.refl _) (by rw [List.map_append, z, List.append_nil]; exact SqT.of e2)
    · with_reducible refine' w_name ?_
      exact fin r _ (same_new hr0) (by rw [List.map_append]; exact SqT.of upd_same)
/-- the bills of all for amounts -/
def allB (n : Nat) (as : List Int) : List (Int × List Int) := as.map fun x => (x, (List.range n).map fun i : Nat => (i : Int))
def spEvTog (CE CB : Addr) : Sp := fun vs H Q _ => ∃ (n : Nat) (t : Addr) (as : List Int), vs = [.ref CE, .int n, .ref t] ∧ H t = some (.tup (as.map V.int)) ∧ OkEv n (allB n as) ∧
  ∀ r H', H r = none → Same H H' → EvAt CE CB H' r n (allB n as) → Q (.ref r) H'
theorem allB_len (n : Nat) (as : List Int) : (allB n as).length = as.length := List.length_map _
theorem rgV_nat (n : Nat) : rgV 0 (n : Int) = ((List.range n).map fun i : Nat => (i : Int)).map V.int := by
  unfold rgV
  rw [List.map_map, show ((n : Int) - 0).toNat = n by omega]
  refine List.map_congr_left fun i _ => ?_
  show V.int (0 + (i : Int)) = V.int (i : Int)
  rw [Int.zero_add]
abbrev InitT (CE CB : Addr) : Sp := fun vs H Q E => ∃ ws rest, vs = ws ++ rest ∧ ws.length = ["cls", "seat_count"].length ∧ rest.length ≤ sizeLine ∧ ∀ p, H p = Option.none → spEvTog CE CB (ws ++ [V.ref p]) (upd H p (.tup rest)) Q E
theorem ok_ev_tog (T : Facts K mg a) : FnR P w K mg base (L2.CX P w) 6 a.f_Evening_together (InitT a.c_Evening a.c_Bill) := by
  obtain ⟨fd, F⟩ := T.u_Evening_together
  have GC : FnR P w K mg base (L2.CX P w) 2 a.f_check_seat_count spCkCount := ok_check_seat_count T
  have GB : FnR P w K mg base (L2.CX P w) 3 a.f_Bill__init_ (InitB a.c_Bill) := ok_bi_init T
  have GI : FnR P w K mg base (L2.CX P w) 4 a.f_Evening__init_ (InitE a.c_Evening a.c_Bill) := ok_ev_init T
  refine fnr_star2 (p1 := "cls") (p2 := "seat_count") (pv := "amounts") F sc_Evening_together (fun _ _ _ _ _ _ _ _ => rfl) (fun _ _ _ _ _ _ _ _ _ _ => rfl) (fun cdv A outer s H vs Q E hr h => ?_)
  obtain ⟨n, t, as, rfl, ht, ok, q⟩ := h
  have hn2 : n ≤ 8 := ok.2.1
  have hn1 : 2 ≤ n := ok.1
  have hal : as.length ≤ 30 := by have := ok.2.2.1; rw [allB_len] at this; exact this
  refine ⟨_, (pss_cons (ps_expr (pe_glA Like.refl pas_main (by rfl) (pa_cons (pv 1) pa_nil)))
    (pss_cons (ps_set (i := 3) sc_Evening_together.nd rfl (Or.inr rfl) (pe_listRg rfl (by rfl) T.z_list (prg_1 (by rfl) T.z_range (pv 1))))
    (pss_cons (ps_setLc (i := 4) (own := [("amount", 5)]) (g := gName 5) (tt := tYes) rfl sc_Evening_together.nd rfl rfl (sw_true rfl rfl rfl (by decide +kernel)) (pi_seqA Like.refl (pv 2)) (blkOk_by (own := [("amount", 5)]) (N := N_Evening_together) (sc := defScope s_Evening_together) (by decide +kernel)) (fun _ _ _ _ _ => (pg_name (i := 5) sc_Evening_together.nd rfl (by first | exact Or.inl rfl | exact Or.inr rfl))) (fun _ _ _ _ _ => pts_nil) (fun _ _ _ _ _ => (pe_glS2 ⟨rfl, rfl, rfl, rfl, rfl, rfl, rfl⟩ passL (by rfl) (pa_cons (pv 5) (pa_starA ⟨rfl, rfl, rfl, rfl, rfl, rfl, rfl⟩ (pv 3) pa_nil)))))
    (pss_one (ps_ret (pe_loS2 (i := 0) Like.refl pas_main rfl (Or.inl rfl) (pa_cons (pv 1) (pa_starA Like.refl (pv 4) pa_nil)))))))), ?_⟩
  walk_at "go"
  refine s_fn GC (hr.mono (by decide)) ⟨n, rfl, by omega, by omega, ?_⟩
  walk_at "go"
  refine ⟨.int n, rfl, n, rfl, RgOk.of_le (by omega) (by omega) (by omega) (by omega), fun l hl => ?_⟩
  rw [rgV_nat]
  have s1 := same_new (o := .lst (((List.range n).map fun i : Nat => (i : Int)).map V.int)) hl
  have hseats : ∀ H', Same (upd H l (.lst (((List.range n).map fun i : Nat => (i : Int)).map V.int))) H' → SqL K H' l (((List.range n).map fun i : Nat => (i : Int)).map V.int) := fun H' s => SqL.of (s _ _ upd_same)
  walk_at "go"
  refine c_tupI (fun _ => False) (fun k o H' => ∃ ps : List Addr, o = ps.map V.ref ∧ BisAt a.c_Bill H' ps (allB n (as.take k))) (a := t) (xs := as.map V.int) (fun _ z => z.elim) (fun D hD => ⟨[], rfl, rfl, fun i p b z => by simp at z⟩) (fun k o H' hk p => ?_) (fun H' s2 => SqT.of (s2 _ _ id (s1 _ _ ht)))
    (fun k o H' D l1 l2 _ hd p => ?_) (fun _ => rfl) (fun k x H' o hx s2 p => ?_) (fun r o H' hr0 s2 p hL => ?_) (fun R k => ?_)
  · obtain ⟨ps, rfl, hb⟩ := p
    rw [List.length_map, hb.1, allB_len, List.length_take]
    omega
  · obtain ⟨ps, rfl, hb⟩ := p
    refine ⟨ps, rfl, hb.1, fun i p b e1 e2 => ?_⟩
    obtain ⟨dx, u, h1, h2⟩ := hb.2 i p b e1 e2
    exact ⟨dx, u, by rw [upd_ne (ne_of h1 hd (by simp))]; exact h1, by rw [upd_ne (ne_of h2 hd (by simp))]; exact h2⟩
  · rw [List.getElem?_map] at hx
    cases e : as[k]? with
    | none => rw [e] at hx; cases hx
    | some z =>
      rw [e] at hx
      cases hx
      have s2' : Same _ H' := fun b o h => s2 b o id h
      have hm : (z, (List.range n).map fun i : Nat => (i : Int)) ∈ allB n as := List.mem_map.2 ⟨z, List.mem_of_getElem? e, rfl⟩
      obtain ⟨ps, rfl, hb⟩ := p
      refine turnI_map fun R hR => ?_
      refine w_gl T.g_Bill T.mk_Bill.kp ?_
      walk_at "go"
      refine ⟨.ref l, rfl, l, _, rfl, .inr (hseats _ s2'), ?_⟩
      walk_at "go"
      show ∃ r, CaD _ E0 (.ref a.c_Bill) r ∧ r (.int z :: (((List.range n).map fun i : Nat => (i : Int)).map V.int ++ [])) _ _
      rw [List.append_nil]
      refine s_bill T GB (hr.mono (by decide)) (ok.2.2.2 _ hm).1 (by rw [List.length_map, List.length_range]; omega) fun p2 H2 hp2 s3 bi => ?_
      refine hR _ _ (Same.b s3) ⟨ps ++ [p2], by rw [List.map_append]; rfl, ?_⟩
      have e2 : allB n (as.take (k + 1)) = allB n (as.take k) ++ [(z, (List.range n).map fun i : Nat => (i : Int))] := by
        unfold allB
        rw [List.take_add_one, e, List.map_append]
        rfl
      rw [e2]
      exact (hb.same s3).app ⟨rfl, fun i p b e1 e2 => by
        cases i with
        | zero => cases e1; cases e2; exact bi
        | succ i => simp at e1⟩
  · obtain ⟨ps, rfl, hb⟩ := p
    rw [List.length_map, List.take_of_length_le (Nat.le_refl _)] at hb
    have s2' : Same _ H' := fun b o h => s2 b o id h
    walk_at "go"
    refine ⟨a.c_Evening, rfl, T.mk_Evening.kp, ?_⟩
    walk_at "go"
    refine ⟨.ref r, rfl, r, _, rfl, .inr (SqL.of hL), ?_⟩
    walk_at "go"
    show ∃ r, CaD _ E (.ref a.c_Evening) r ∧ r (.int (n : Nat) :: (ps.map V.ref ++ [])) _ _
    rw [List.append_nil]
    exact s_evening T GI (hr.mono (by decide)) hb ok fun p2 H2 hp2 s3 ev => q p2 H2 (s1.free (s2'.free hp2)) ((s1.trans s2').trans s3) ev
  · walk_at "go"
    exact k
end

end Odd

namespace Odd
open PySem PySem.Spec PyProof.Rows L2 LamX NdefX
/-! tactics of this text: st one step, go as many as go -/
local macro_rules | `(tactic| walk_at "ar") => `(tactic| first | assumption | omega | (show (_ : Int) < _; omega) | decide)
local macro_rules | `(tactic| walk_at "st") => `(tactic| first
  | with_reducible refine' w_seq ?_
  | with_reducible refine' w_asg ?_
  | with_reducible refine' w_name ?_
  | with_reducible refine' w_c ?_
  | with_reducible refine' w_op ?_
  | with_reducible refine' w_ix ?_
  | with_reducible refine' w_at ?_
  | with_reducible refine' w_cons ?_
  | with_reducible refine' w_nil ?_
  | with_reducible refine' w_ret ?_
  | with_reducible refine' w_if ?_
  | with_reducible refine' w_test ?_
  | with_reducible refine' w_tr ?_
  | with_reducible refine' w_un ?_
  | with_reducible refine' w_andV ?_
  | with_reducible refine' w_orV ?_
  | with_reducible refine' w_notA ?_
  | with_reducible refine' w_ch ?_
  | with_reducible refine' w_and ?_
  | with_reducible refine' w_or ?_
  | with_reducible refine' w_not ?_
  | with_reducible refine' w_ifx ?_
  | with_reducible refine' w_tup ?_
  | with_reducible refine' w_lst ?_
  | with_reducible refine' w_next ?_
  | with_reducible refine' w_drop ?_
  | with_reducible refine' w_retN ?_
  | ((with_reducible refine' w_var ?h ?_); (case h => exact rfl))
  | ((with_reducible refine' w_bi ?h ?_); (case h => walk_at "mg"))
  | ((with_reducible refine' w_bv ?h ?_); (case h => walk_at "mg"))
  | ((with_reducible refine' w_gv ?h ?_); (case h => walk_at "mg"))
  | ((with_reducible refine' w_gl ?h ?k ?_); (case h => walk_at "mg"); (case k => walk_at "kp"))
  | ((with_reducible refine' w_glS ?h ?k ?_); (case h => walk_at "mg"); (case k => walk_at "kp"))
  | with_reducible refine' bl_ex ?_
  | with_reducible refine' iteT ?_
  | with_reducible refine' iteF ?_
  | with_reducible refine' ite_nf ?_
  | with_reducible refine' ite_nt ?_
  | with_reducible refine' s_add ?_
  | with_reducible refine' s_sub ?_
  | with_reducible refine' s_lt ?_
  | with_reducible refine' s_le ?_
  | with_reducible refine' s_gt ?_
  | with_reducible refine' s_ge ?_
  | with_reducible refine' s_eqI ?_
  | with_reducible refine' s_neI ?_
  | with_reducible refine' s_eqB ?_
  | with_reducible refine' s_neB ?_
  | with_reducible refine' s_truB ?_
  | with_reducible refine' s_truI ?_
  | with_reducible refine' s_neg ?_
  | ((with_reducible refine' s_mod ?h ?_); (case h => walk_at "ar")))
local macro_rules | `(tactic| walk_at "go") => `(tactic| repeat walk_at "st")

local macro_rules | `(tactic| walk_at "mg") => `(tactic| first | assumption | exact Facts.z_TypeError (by assumption) | exact Facts.z_bool (by assumption) | exact Facts.z_classmethod (by assumption) | exact Facts.z_enumerate (by assumption) | exact Facts.z_int (by assumption) | exact Facts.z_isinstance (by assumption) | exact Facts.z_len (by assumption) | exact Facts.z_list (by assumption) | exact Facts.z_max (by assumption) | exact Facts.z_min (by assumption) | exact Facts.z_property (by assumption) | exact Facts.z_range (by assumption) | exact Facts.z_super (by assumption) | exact Facts.z_tuple (by assumption) | exact Facts.z_zip (by assumption) | exact Facts.g__wall (by assumption) | exact Facts.g_is_between (by assumption) | exact Facts.g_check_amount (by assumption) | exact Facts.g_check_seats (by assumption) | exact Facts.g_check_seat_count (by assumption) | exact Facts.g_check_bills (by assumption) | exact Facts.g_check_mark (by assumption) | exact Facts.g_check_times (by assumption) | exact Facts.g_no_shares (by assumption) | exact Facts.g_seats_behind (by assumption) | exact Facts.g_split_bill (by assumption) | exact Facts.g_twice (by assumption) | exact Facts.g_repeated (by assumption) | exact Facts.g_lowest_terms (by assumption) | exact Facts.g_long_run (by assumption) | exact Facts.g__law_start (by assumption) | exact Facts.g__law_drawn (by assumption) | exact Facts.g__law_same (by assumption) | exact Facts.g__law_outcome (by assumption) | exact Facts.g__law_rows (by assumption) | exact Facts.g__law_bill (by assumption) | exact Facts.g__law_evening (by assumption) | exact Facts.g__law_fault (by assumption) | exact Facts.g__law_is_bill (by assumption) | exact Facts.g__law_refused (by assumption) | exact Facts.g_law (by assumption) | exact Facts.g_Shares (by assumption) | exact Facts.g_Bill (by assumption) | exact Facts.g_Evening (by assumption))
local macro_rules | `(tactic| walk_at "kp") => `(tactic| first | assumption | exact (Facts.mk_Shares (by assumption)).kp | exact (Facts.mk_Bill (by assumption)).kp | exact (Facts.mk_Evening (by assumption)).kp | exact Fun.kp (Facts.u__wall (by assumption)).choose_spec | exact Fun.kp (Facts.u_is_between (by assumption)).choose_spec | exact Fun.kp (Facts.u_check_amount (by assumption)).choose_spec | exact Fun.kp (Facts.u_check_seats (by assumption)).choose_spec | exact Fun.kp (Facts.u_check_seat_count (by assumption)).choose_spec | exact Fun.kp (Facts.u_check_bills (by assumption)).choose_spec | exact Fun.kp (Facts.u_check_mark (by assumption)).choose_spec | exact Fun.kp (Facts.u_check_times (by assumption)).choose_spec | exact Fun.kp (Facts.u_no_shares (by assumption)).choose_spec | exact Fun.kp (Facts.u_seats_behind (by assumption)).choose_spec | exact Fun.kp (Facts.u_split_bill (by assumption)).choose_spec | exact Fun.kp (Facts.u_twice (by assumption)).choose_spec | exact Fun.kp (Facts.u_repeated (by assumption)).choose_spec | exact Fun.kp (Facts.u_lowest_terms (by assumption)).choose_spec | exact Fun.kp (Facts.u_long_run (by assumption)).choose_spec | exact Fun.kp (Facts.u__law_start (by assumption)).choose_spec | exact Fun.kp (Facts.u__law_drawn (by assumption)).choose_spec | exact Fun.kp (Facts.u__law_same (by assumption)).choose_spec | exact Fun.kp (Facts.u__law_outcome (by assumption)).choose_spec | exact Fun.kp (Facts.u__law_rows (by assumption)).choose_spec | exact Fun.kp (Facts.u__law_bill (by assumption)).choose_spec | exact Fun.kp (Facts.u__law_evening (by assumption)).choose_spec | exact Fun.kp (Facts.u__law_fault (by assumption)).choose_spec | exact Fun.kp (Facts.u__law_is_bill (by assumption)).choose_spec | exact Fun.kp (Facts.u__law_refused (by assumption)).choose_spec | exact Fun.kp (Facts.u_law (by assumption)).choose_spec)
def okIx (vs : List V) : Prop := ∃ i : Int, vs = [.int i] ∧ -1 ≤ i ∧ i < 10 ^ 6
def fsIx (f : Str) (vs : List V) : List (Str × V) := [(f, vs.getD 0 .non)]

theorem ok_init_InvalidBill {P : Program} {w : World} {K : PySem.W.Frag} {mg : Str → Option Value} {base : Heap} {a : Ad} (T : Facts K mg a) (SP : SupP P mainF) : KxR P w K mg base "InvalidBill" a.c_InvalidBill [("index" : Str)] (fsIx "index") okIx := by
  obtain ⟨fI, cc, cda, X⟩ := T.kx_InvalidBill
  refine ⟨T.kg_InvalidBill, X.cls, fI, X.ini, X.tyI, fun A outer s H a us vs Q hr e0 ea rv hl hok hq => ?_⟩
  obtain ⟨i, rfl, i0, i1⟩ := hok
  obtain ⟨u, rfl⟩ : ∃ u, us = [u] := by
    cases rv with
    | cons r rr => cases rr; exact ⟨_, rfl⟩
  refine kinit (k := 2) (ks := [("index" : Str)]) (N := [("self" : Str), "index", "__class__"]) (pl := _) (X.toC SP) T.z_super (nscope_by (by kernel_rfl)) rfl rfl (fun _ => rfl) (fun _ => rfl) (fun _ => rfl) rfl rfl (fun s doc pm ct an self => .of_eq rfl) hr e0 ea rv rfl (fun X eX => ?_)
  subst eX
  refine ⟨_, _, pe_joined (.cons (pe_str) (.cons (pe_fmt (pv 1)) .nil)), pss_one (ps_ost (pv 0) (pv 1)), ?_⟩
  have lim : (1000 : Nat) ≤ sizeLine := by decide
  refine w_js ?_
  walk_at "go"
  refine ⟨_, rfl, by decide, ?_⟩
  refine w_js (w_fmt ?_)
  walk_at "go"
  refine .inr ⟨_, rfl, log_ix i0 i1, numS i, rfl, Nat.le_trans (numS_ix i0 i1 (by decide)) lim, ?_⟩
  refine w_js0 ?_
  refine ⟨by show 1 ≤ 1000; decide, ea, ?_⟩
  refine w_ost ?_
  walk_at "go"
  exact ⟨_, _, rfl, X.cls, T.kn_InvalidBill_index, .inl ⟨ea, fun dx h1 h2 => hq dx h1 h2⟩⟩


theorem ok_init_InvalidEvening {P : Program} {w : World} {K : PySem.W.Frag} {mg : Str → Option Value} {base : Heap} {a : Ad} (T : Facts K mg a) (SP : SupP P mainF) : KxR P w K mg base "InvalidEvening" a.c_InvalidEvening [("index" : Str)] (fsIx "index") okIx := by
  obtain ⟨fI, cc, cda, X⟩ := T.kx_InvalidEvening
  refine ⟨T.kg_InvalidEvening, X.cls, fI, X.ini, X.tyI, fun A outer s H a us vs Q hr e0 ea rv hl hok hq => ?_⟩
  obtain ⟨i, rfl, i0, i1⟩ := hok
  obtain ⟨u, rfl⟩ : ∃ u, us = [u] := by
    cases rv with
    | cons r rr => cases rr; exact ⟨_, rfl⟩
  refine kinit (k := 2) (ks := [("index" : Str)]) (N := [("self" : Str), "index", "__class__"]) (pl := _) (X.toC SP) T.z_super (nscope_by (by kernel_rfl)) rfl rfl (fun _ => rfl) (fun _ => rfl) (fun _ => rfl) rfl rfl (fun s doc pm ct an self => .of_eq rfl) hr e0 ea rv rfl (fun X eX => ?_)
  subst eX
  refine ⟨_, _, pe_joined (.cons (pe_str) (.cons (pe_fmt (pv 1)) .nil)), pss_one (ps_ost (pv 0) (pv 1)), ?_⟩
  have lim : (1000 : Nat) ≤ sizeLine := by decide
  refine w_js ?_
  walk_at "go"
  refine ⟨_, rfl, by decide, ?_⟩
  refine w_js (w_fmt ?_)
  walk_at "go"
  refine .inr ⟨_, rfl, log_ix i0 i1, numS i, rfl, Nat.le_trans (numS_ix i0 i1 (by decide)) lim, ?_⟩
  refine w_js0 ?_
  refine ⟨by show 1 ≤ 1000; decide, ea, ?_⟩
  refine w_ost ?_
  walk_at "go"
  exact ⟨_, _, rfl, X.cls, T.kn_InvalidEvening_index, .inl ⟨ea, fun dx h1 h2 => hq dx h1 h2⟩⟩

/-! ### the law's own helpers: the draws, the comparison -/
section
variable {P : Program} {w : World} {K : PySem.W.Frag} {mg : Str → Option Value} {base : Heap} {a : Ad}
/-- a state of draws from the script at sc stands at st -/
def StC (sc : Addr) (H : Hp) (st : Addr) : Prop := ∃ (pos m r : Int), H st = some (.lst [.ref sc, .int pos, .int m, .int r]) ∧ 0 ≤ pos
def StOk (K : PySem.W.Frag) (sc : Addr) (ns : List Int) (H : Hp) (st : Addr) : Prop := StC sc H st ∧ SqL K H sc (ns.map V.int) ∧ ns.length ≤ 63
theorem sc_ne {K : PySem.W.Frag} {H : Hp} {st sc : Addr} {ns : List Int} {x : Addr} {l : List V} {o : HO} (h : H st = some (.lst (.ref x :: l))) (hs : SqL K H sc (ns.map V.int)) : SqL K (upd H st o) sc (ns.map V.int) := by
  have hne : ∀ (ms : List Int), (V.ref x :: l) ≠ ms.map V.int := fun ms e => by
    cases ms with
    | nil => cases e
    | cons m ms => cases e
  rcases hs with (hs | ⟨ob, hs⟩) | hs
  · by_cases e : sc = st
    · subst e
      rw [hs] at h
      exact absurd (HO.lst.inj (Option.some.inj h)).symm (hne ns)
    · exact .inl (.inl (by rw [upd_ne e]; exact hs))
  · by_cases e : sc = st
    · subst e
      rw [hs] at h
      cases h
    · exact .inl (.inr ⟨ob, by rw [upd_ne e]; exact hs⟩)
  · exact .inr hs
theorem sc_keep {K : PySem.W.Frag} {H H' : Hp} {st sc : Addr} {ns : List Int} {x : Addr} {l : List V} (h : H st = some (.lst (.ref x :: l))) (hs : SqL K H sc (ns.map V.int)) (s : SameB (· = st) H H') : SqL K H' sc (ns.map V.int) := by
  have hne : ∀ (ms : List Int), (V.ref x :: l) ≠ ms.map V.int := fun ms e => by
    cases ms with
    | nil => cases e
    | cons m ms => cases e
  rcases hs with (hs | ⟨ob, hs⟩) | hs
  · refine .inl (.inl (s _ _ (fun e => ?_) hs))
    subst e
    rw [hs] at h
    exact hne ns (HO.lst.inj (Option.some.inj h)).symm
  · refine .inl (.inr ⟨ob, s _ _ (fun e => ?_) hs⟩)
    subst e
    rw [hs] at h
    cases h
  · exact .inr hs
theorem StOk.to {K : PySem.W.Frag} {sc : Addr} {ns : List Int} {H H' : Hp} {st : Addr} (h : StOk K sc ns H st) (s : SameB (· = st) H H') (c : StC sc H' st) : StOk K sc ns H' st :=
  let ⟨⟨_, _, _, h1, _⟩, h2, h3⟩ := h
  ⟨c, sc_keep h1 h2 s, h3⟩
theorem StC.lst {sc : Addr} {H : Hp} {st : Addr} (h : StC sc H st) : ∃ l, H st = some (.lst l) := let ⟨_, _, _, h1, _⟩ := h; ⟨_, h1⟩
theorem StC.ne {sc : Addr} {H : Hp} {st p : Addr} (h : StC sc H st) (e : H p = none) : p ≠ st := fun z => by
  obtain ⟨l, h1⟩ := h.lst
  rw [z, h1] at e
  cases e
theorem StC.upd {sc : Addr} {H : Hp} {st p : Addr} {u : HO} (h : StC sc H st) (hp : p ≠ st) : StC sc (upd H p u) st := let ⟨a, b, c, h1, h2⟩ := h; ⟨a, b, c, by rw [upd_ne hp.symm]; exact h1, h2⟩
theorem StC.same {sc : Addr} {H H' : Hp} {st : Addr} (h : StC sc H st) (s : Same H H') : StC sc H' st := let ⟨a, b, c, h1, h2⟩ := h; ⟨a, b, c, s _ _ h1, h2⟩
theorem StOk.same {K : PySem.W.Frag} {sc : Addr} {ns : List Int} {H H' : Hp} {st : Addr} (h : StOk K sc ns H st) (s : Same H H') : StOk K sc ns H' st := ⟨h.1.same s, s.seq h.2.1, h.2.2⟩
def spStart (K : PySem.W.Frag) : Sp := fun vs H Q _ => ∃ (sc : Addr) (ns : List Int), vs = [.ref sc] ∧ SqL K H sc (ns.map V.int) ∧ ns.length ≤ 63 ∧ ∀ p H', H p = none → Same H H' → StOk K sc ns H' p → Q (.ref p) H'
theorem ok_start (T : Facts K mg a) : FnR P w K mg base (L2.CX P w) 1 a.f__law_start (spStart K) := by
  obtain ⟨fd, F⟩ := T.u__law_start
  refine fnr_ok F sc__law_start (F.binds fun _ _ _ _ _ _ us hl => match us, hl with | [_], _ => rfl) (fun vs H Q E h => ?_) (fun cdv A outer s H vs Q E hr h => ?_)
  · obtain ⟨sc, ns, rfl, _⟩ := h
    rfl
  · obtain ⟨sc, ns, rfl, hs, hl, q⟩ := h
    refine ⟨_, (pss_cons (ps_set (i := 1) sc__law_start.nd rfl (Or.inl rfl) (pe_int))
    (pss_cons (ps_for own_main rfl (pi_seqA Like.refl (pv 0)) (pg_name (i := 2) sc__law_start.nd rfl (Or.inl rfl)) (pss_one (ps_set (i := 1) sc__law_start.nd rfl (Or.inl rfl) (pe_opA Like.refl pas_main (pe_opA Like.refl pas_main (pe_opA Like.refl pas_main (pe_opA Like.refl pas_main (pv 1) (pe_int)) (pv 2)) (pe_int)) (pe_int)))))
    (pss_one (ps_ret (pe_lst (pa_cons (pv 0) (pa_cons (pe_int) (pa_cons (pv 1) (pa_cons (pe_int) pa_nil))))))))), ?_⟩
    walk_at "go"
    refine ⟨.ref sc, rfl, sc, rfl, .inl ⟨⟨_, hs⟩, for_list (K := K) (xs := ns.map V.int) (fun i σ H' => H' = H ∧ ∃ (m : Int) (v : Option V), σ = [some (.ref sc), some (.int m), v]) ⟨rfl, 1, none, rfl⟩ (fun i σ H' _ ⟨e, _⟩ => by rw [e]; exact hs) ?_ ?_⟩⟩
    · rintro i x σ H' hx ⟨rfl, m, v, rfl⟩
      rw [List.getElem?_map] at hx
      cases e : ns[i]? with
      | none => rw [e] at hx; cases hx
      | some c =>
        rw [e] at hx
        cases hx
        refine w_name ?_
        walk_at "go"
        refine s_mul (.inr ⟨by decide, by decide⟩) ?_
        walk_at "go"
        exact ⟨rfl, _, _, rfl⟩
    · rintro σ H' ⟨rfl, m, v, rfl⟩
      walk_at "go"
      exact ⟨(by show 4 ≤ sizeLine; decide), fun p hp => q p _ hp (same_new hp) ⟨⟨0, m, 0, upd_same, Int.le_refl _⟩, (same_new hp).seq hs, hl⟩⟩
def spDrawn (K : PySem.W.Frag) : Sp := fun vs H Q _ => ∃ (st : Addr) (n : Int) (sc : Addr) (ns : List Int), vs = [.ref st, .int n] ∧ StOk K sc ns H st ∧ 0 < n ∧ n < 2 ^ 80 ∧ ∀ (v : Int) H', 0 ≤ v → v < n → SameB (· = st) H H' → StC sc H' st → Q (.int v) H'
theorem ok_drawn (T : Facts K mg a) : FnR P w K mg base (L2.CX P w) 1 a.f__law_drawn (spDrawn K) := by
  obtain ⟨fd, F⟩ := T.u__law_drawn
  refine fnr_ok F sc__law_drawn (F.binds fun _ _ _ _ _ _ us hl => match us, hl with | [_, _], _ => rfl) (fun vs H Q E h => ?_) (fun cdv A outer s H vs Q E hr h => ?_)
  · obtain ⟨st, n, sc, ns, rfl, _⟩ := h
    rfl
  · obtain ⟨st, n, sc, ns, rfl, ⟨⟨pos, m, r, h1, h4⟩, h2, h3⟩, hn, hn2, q⟩ := h
    have hW : ∀ i : Int, CDivW i n := fun i => wide_div (b := 80) hn (by omega) (by decide) (by decide)
    have sb : ∀ o, SameB (· = st) H (upd H st o) := fun o b u nb e => by rw [upd_ne nb]; exact e
    refine ⟨_, (pss_cons (ps_if (pt_cmpA Like.refl pas_main (pe_ixA Like.refl pas_main (pv 0) (pe_int)) (pe_int) (nomark _)) (pss_cons (ps_set (i := 2) sc__law_drawn.nd rfl (Or.inl rfl) (pe_opA Like.refl pas_main (pe_ixA Like.refl pas_main (pv 0) (pe_int)) (pv 1)))
    (pss_cons (ps_asg (pe_opA Like.refl pas_main (pe_ixA Like.refl pas_main (pv 0) (pe_int)) (pv 1)) (pg_sub (pv 0) (pe_int) set_list))
    (pss_one (ps_ret (pv 2))))) pss_nil)
    (pss_cons (ps_asg (pe_opA Like.refl pas_main (pe_ixA Like.refl pas_main (pv 0) (pe_int)) (pe_int)) (pg_sub (pv 0) (pe_int) set_list))
    (pss_cons (ps_if (pt_cmpA Like.refl pas_main (pe_ixA Like.refl pas_main (pv 0) (pe_int)) (pe_biA (id := "len") Like.refl pas_main (by rfl) (by decide +kernel) (pa_cons (pe_ixA Like.refl pas_main (pv 0) (pe_int)) pa_nil)) (nomark _)) (pss_cons (ps_set (i := 3) sc__law_drawn.nd rfl (Or.inl rfl) (pe_ixA Like.refl pas_main (pe_ixA Like.refl pas_main (pv 0) (pe_int)) (pe_opA Like.refl pas_main (pe_ixA Like.refl pas_main (pv 0) (pe_int)) (pe_int))))
    (pss_cons (ps_asg (pe_ifExp (pt_cmpA Like.refl pas_main (pv 3) (pe_opA Like.refl pas_main (pe_int) (pe_int)) (nomark _)) (pe_opA Like.refl pas_main (pv 3) (pv 1)) (pe_int)) (pg_sub (pv 0) (pe_int) set_list))
    (pss_one (ps_ret (pe_opA Like.refl pas_main (pv 3) (pv 1)))))) pss_nil)
    (pss_cons (ps_asg (pe_opA Like.refl pas_main (pe_opA Like.refl pas_main (pe_opA Like.refl pas_main (pe_ixA Like.refl pas_main (pv 0) (pe_int)) (pe_int)) (pe_int)) (pe_int)) (pg_sub (pv 0) (pe_int) set_list))
    (pss_one (ps_ret (pe_opA Like.refl pas_main (pe_opA Like.refl pas_main (pe_ixA Like.refl pas_main (pv 0) (pe_int)) (pe_int)) (pv 1)))))))), ?_⟩
    walk_at "go"
    refine s_ixL (SqL.of h1) (v := .int r) rfl ?_
    walk_at "go"
    refine ite_d (fun hr0 => ?_) (fun hr0 => ?_)
    · walk_at "go"
      refine s_ixL (SqL.of h1) (v := .int r) rfl ?_
      walk_at "go"
      refine s_ixL (SqL.of h1) (v := .int r) rfl ?_
      walk_at "go"
      refine s_fdivW (hW _) ?_
      refine w_gsub ?_
      walk_at "go"
      refine s_setL h1 (j := 3) rfl ?_
      walk_at "go"
      exact q _ _ (Int.emod_nonneg _ (by omega)) (Int.emod_lt_of_pos _ hn) (sb _) ⟨pos, m, _, upd_same, h4⟩
    · walk_at "go"
      refine s_ixL (SqL.of h1) (v := .int pos) rfl ?_
      walk_at "go"
      refine w_gsub ?_
      walk_at "go"
      refine s_setL h1 (j := 1) rfl ?_
      have g1 : (upd H st (.lst [.ref sc, .int (pos + 1), .int m, .int r])) st = some (.lst [.ref sc, .int (pos + 1), .int m, .int r]) := upd_same
      have g2 : SqL K (upd H st (.lst [.ref sc, .int (pos + 1), .int m, .int r])) sc (ns.map V.int) := sc_ne h1 h2
      walk_at "go"
      refine s_ixL (SqL.of g1) (v := .int (pos + 1)) rfl ?_
      walk_at "go"
      refine s_ixL (SqL.of g1) (v := .ref sc) rfl ?_
      walk_at "go"
      refine s_lenL g2 ?_
      rw [List.length_map]
      walk_at "go"
      refine ite_d (fun hp => ?_) (fun hp => ?_)
      · obtain ⟨c, hc⟩ : ∃ c, ns[pos.toNat]? = some c := ⟨_, List.getElem?_eq_getElem (by omega)⟩
        walk_at "go"
        refine s_ixL (SqL.of g1) (v := .ref sc) rfl ?_
        walk_at "go"
        refine s_ixL (SqL.of g1) (v := .int (pos + 1)) rfl ?_
        walk_at "go"
        refine s_ixL g2 (v := .int c) (at_of (j := pos.toNat) (by omega) (by rw [List.getElem?_map, hc] <;> rfl)) ?_
        walk_at "go"
        refine s_pow ⟨by decide, by decide, by decide⟩ ?_
        walk_at "go"
        refine ite_d (fun _ => ?_) (fun _ => ?_)
        all_goals
          walk_at "go"
          first | (refine s_fdivW (hW _) ?_) | skip
          refine w_gsub ?_
          walk_at "go"
          refine s_setL g1 (j := 3) rfl ?_
          walk_at "go"
          exact q _ _ (Int.emod_nonneg _ (by omega)) (Int.emod_lt_of_pos _ hn) (fun b u nb e => by rw [upd_ne nb]; exact sb _ _ _ nb e) ⟨pos + 1, m, _, upd_same, by omega⟩
      · walk_at "go"
        refine s_ixL (SqL.of g1) (v := .int m) rfl ?_
        walk_at "go"
        refine s_mul (.inr ⟨by decide, by decide⟩) ?_
        walk_at "go"
        refine w_gsub ?_
        walk_at "go"
        refine s_setL g1 (j := 2) rfl ?_
        walk_at "go"
        refine s_ixL (SqL.of upd_same) (v := .int ((m * 48271 + 11) % 2147483647)) rfl ?_
        walk_at "go"
        refine s_fdiv ⟨by decide, by decide⟩ ?_
        walk_at "go"
        exact q _ _ (Int.emod_nonneg _ (by omega)) (Int.emod_lt_of_pos _ hn) (fun b u nb e => by rw [upd_ne nb]; exact sb _ _ _ nb e) ⟨pos + 1, _, r, upd_same, by omega⟩
end

section
variable {P : Program} {w : World} {K : PySem.W.Frag} {mg : Str → Option Value} {base : Heap} {a : Ad}
/-- data of depth at most n, without dicts, short throughout -/
def okN : Nat → PyData → Prop
  | _, .none => True
  | _, .bool _ => True
  | _, .int _ => True
  | _, .str x => PyData.canLay0 (.str x) = true
  | _, .dict _ => False
  | 0, .list _ => False
  | 0, .tuple _ => False
  | n + 1, .list xs => xs.length < 1000 ∧ ∀ x ∈ xs, okN n x
  | n + 1, .tuple xs => xs.length < 1000 ∧ ∀ x ∈ xs, okN n x
theorem okN_all {n : Nat} : ∀ {xs : List PyData}, (∀ x ∈ xs, PyData.canLay0 x = true ∧ x.depth ≤ n) → PyData.canLayAll0 xs = true ∧ PyData.depthAll xs ≤ n
  | [], _ => ⟨by simp [PyData.canLayAll0], by simp [PyData.depthAll]⟩
  | x :: xs, h => by
    obtain ⟨a, b⟩ := h x (List.mem_cons_self ..)
    obtain ⟨c, d⟩ := okN_all (n := n) (xs := xs) fun y hy => h y (List.mem_cons_of_mem _ hy)
    exact ⟨by simp [PyData.canLayAll0, a, c], by simp only [PyData.depthAll]; omega⟩
theorem okN_lay : ∀ {n : Nat} {d : PyData}, okN n d → PyData.canLay0 d = true ∧ d.depth ≤ n
  | _, .none, _ => ⟨by simp [PyData.canLay0], by simp [PyData.depth]⟩
  | _, .bool _, _ => ⟨by simp [PyData.canLay0], by simp [PyData.depth]⟩
  | _, .int _, _ => ⟨by simp [PyData.canLay0], by simp [PyData.depth]⟩
  | _, .str _, h => ⟨by simpa [okN] using h, by simp [PyData.depth]⟩
  | _, .dict _, h => by simp [okN] at h
  | 0, .list _, h => by simp [okN] at h
  | 0, .tuple _, h => by simp [okN] at h
  | n + 1, .list xs, h => by
    have h' : xs.length < 1000 ∧ ∀ x ∈ xs, okN n x := by simpa [okN] using h
    obtain ⟨a, b⟩ := okN_all fun x hx => okN_lay (h'.2 x hx)
    exact ⟨by simpa [PyData.canLay0] using a, by simp only [PyData.depth]; omega⟩
  | n + 1, .tuple xs, h => by
    have h' : xs.length < 1000 ∧ ∀ x ∈ xs, okN n x := by simpa [okN] using h
    obtain ⟨a, b⟩ := okN_all fun x hx => okN_lay (h'.2 x hx)
    exact ⟨by simpa [PyData.canLay0] using a, by simp only [PyData.depth]; omega⟩
theorem okN_shaped {n : Nat} {d : PyData} (h : okN n d) (hn : n ≤ 64) : SeqAt.shaped d = true := by
  obtain ⟨a, b⟩ := okN_lay h
  simp only [SeqAt.shaped, a, Bool.true_and, decide_eq_true_eq]
  omega
/-- the parts of a list, a tuple -/
def parts : PyData → List PyData
  | .list xs => xs
  | .tuple xs => xs
  | _ => []
theorem isTL_parts {K : PySem.W.Frag} {H : Hp} {v : V} {d : PyData} (h : Dp K H v d) (t : isTL d = true) : ∃ p vs, v = .ref p ∧ (SqL K H p vs ∨ SqT K H p vs) ∧ DpAll K H vs (parts d) := by
  cases h with
  | lst h hs => exact ⟨_, _, rfl, .inl h, hs⟩
  | tup h hs => exact ⟨_, _, rfl, .inr h, hs⟩
  | _ => cases t
theorem okN_parts {n : Nat} {d : PyData} (h : okN n d) (t : isTL d = true) : ∃ m, n = m + 1 ∧ (parts d).length < 1000 ∧ ∀ x ∈ parts d, okN m x := by
  cases n with
  | zero => cases d <;> first | (simp [isTL] at t; done) | (simp [okN] at h)
  | succ n => cases d <;> first | (simp [isTL] at t; done) | exact ⟨n, rfl, by simpa [okN, parts] using h⟩
theorem s_lenS {X0 : Cx} {E : XK} {H : Hp} {Q : VK} {a : Addr} {xs : List V} (h : SqL X0.K H a xs ∨ SqT X0.K H a xs) (q : Q (.int xs.length) H) : ∃ r, CaD X0 E (.builtin "len") r ∧ r [.ref a] H Q :=
  h.elim (fun h => s_lenL h q) fun h => s_lenT h q
theorem s_ixS {X0 : Cx} {E : XK} {H : Hp} {Q : VK} {a : Addr} {xs : List V} {i : Int} {v : V} (h : SqL X0.K H a xs ∨ SqT X0.K H a xs) (ha : atI xs i = some v) (q : Q v H) : ∃ r, IxD X0 E r ∧ r (.ref a) (.int i) H Q :=
  h.elim (fun h => s_ixL h ha q) fun h => s_ixT h ha q
theorem sqS_same {K : PySem.W.Frag} {H H' : Hp} {a : Addr} {xs : List V} (s : Same H H') (h : SqL K H a xs ∨ SqT K H a xs) : SqL K H' a xs ∨ SqT K H' a xs := h.imp s.seq (same_t s)
/-- equal as lists, index by index -/
theorem list_ext_get {α : Type} {xs ys : List α} (h : xs.length = ys.length) : xs = ys ↔ ∀ (i : Nat) (x y : α), xs[i]? = some x → ys[i]? = some y → x = y := by
  constructor
  · rintro rfl i x y h1 h2
    rw [h1] at h2
    exact Option.some.inj h2
  · intro k
    refine List.ext_getElem? fun i => ?_
    by_cases hi : i < xs.length
    · have e1 := List.getElem?_eq_getElem hi
      have e2 := List.getElem?_eq_getElem (h ▸ hi : i < ys.length)
      rw [e1, e2, k i _ _ e1 e2]
    · rw [List.getElem?_eq_none (by omega), List.getElem?_eq_none (by omega)]
theorem eq_parts {d e : PyData} (hd : isTL d = true) (he : isTL e = true) (hl : isL d = isL e) : d = e ↔ parts d = parts e := by
  cases d <;> cases e <;> first | (simp [isTL] at hd; done) | (simp [isTL] at he; done) | (simp [isL] at hl; done) | (simp [parts])
theorem eqv_leaf {d e : PyData} (he : isTL e = false) (hB : isB d = isB e) (hI : isI d = isI e) (hn : ∀ kvs, e ≠ .dict kvs) : PyData.eqv d e = true ↔ d = e := by
  cases e with
  | dict kvs => exact absurd rfl (hn kvs)
  | list _ => exact absurd he (by simp [isTL])
  | tuple _ => exact absurd he (by simp [isTL])
  | none => cases d <;> simp_all [PyData.eqv, isI, isB]
  | bool b => cases d <;> simp_all [PyData.eqv, isI, isB]
  | int i => cases d <;> simp_all [PyData.eqv, isI, isB]
  | str x => cases d <;> simp_all [PyData.eqv, isI, isB]
def spSame (K : PySem.W.Frag) (n : Nat) : Sp := fun vs H Q _ => ∃ x y d e, vs = [x, y] ∧ Dp K H x d ∧ Dp K H y e ∧ okN n d ∧ okN n e ∧ ∀ b H', Same H H' → (b = true ↔ d = e) → Q (.bl b) H'
open Classical in
theorem ok_same_at (T : Facts K mg a) (n : Nat) (hn : n ≤ 20) (ih : ∀ m, n = m + 1 → FnR P w K mg base (L2.CX P w) (m + 1) a.f__law_same (spSame K m)) : FnR P w K mg base (L2.CX P w) (n + 1) a.f__law_same (spSame K n) := by
  obtain ⟨fd, F⟩ := T.u__law_same
  refine fnr_ok F sc__law_same (F.binds fun _ _ _ _ _ _ us hl => match us, hl with | [_, _], _ => rfl) (fun vs H Q E h => ?_) (fun cdv A outer s H vs Q E hr h => ?_)
  · obtain ⟨x, y, d, e, rfl, _⟩ := h
    rfl
  · obtain ⟨x, y, d, e, rfl, hd, he, od, oe, q⟩ := h
    have hr' := hr.units
    refine ⟨_, (pss_cons (ps_if (pt_trA Like.refl pas_main (pe_biA (id := "isinstance") Like.refl pas_main (by rfl) (by decide +kernel) (pa_cons (pv 1) (pa_cons (pe_tup (pa_cons (pe_bvA (v := .ty "tuple") Like.refl (by rfl) (by decide +kernel) rfl) (pa_cons (pe_bvA (v := .ty "list") Like.refl (by rfl) (by decide +kernel) rfl) pa_nil))) pa_nil)))) (pss_cons (ps_if (PW.pt (pw_or (pt_not (pt_trA Like.refl pas_main (pe_biA (id := "isinstance") Like.refl pas_main (by rfl) (by decide +kernel) (pa_cons (pv 0) (pa_cons (pe_tup (pa_cons (pe_bvA (v := .ty "tuple") Like.refl (by rfl) (by decide +kernel) rfl) (pa_cons (pe_bvA (v := .ty "list") Like.refl (by rfl) (by decide +kernel) rfl) pa_nil))) pa_nil))))) (pw_or1 (pt_cmpA Like.refl pas_main (pe_biA (id := "isinstance") Like.refl pas_main (by rfl) (by decide +kernel) (pa_cons (pv 0) (pa_cons (pe_bvA (v := .ty "list") Like.refl (by rfl) (by decide +kernel) rfl) pa_nil))) (pe_biA (id := "isinstance") Like.refl pas_main (by rfl) (by decide +kernel) (pa_cons (pv 1) (pa_cons (pe_bvA (v := .ty "list") Like.refl (by rfl) (by decide +kernel) rfl) pa_nil))) (nomark _))))) (pss_one (ps_ret (pe_bl))) pss_nil)
    (pss_cons (ps_if (pt_cmpA Like.refl pas_main (pe_biA (id := "len") Like.refl pas_main (by rfl) (by decide +kernel) (pa_cons (pv 0) pa_nil)) (pe_biA (id := "len") Like.refl pas_main (by rfl) (by decide +kernel) (pa_cons (pv 1) pa_nil)) (nomark _)) (pss_one (ps_ret (pe_bl))) pss_nil)
    (pss_one (ps_ret (pe_cmpA Like.refl pas_main (pe_lc (own := [("_law_k", 2)]) (g := gName 2) (tt := _) rfl sc__law_same.nd (pi_range1 (by rfl) T.z_range (pa_cons (pe_biA (id := "len") Like.refl pas_main (by rfl) (by decide +kernel) (pa_cons (pv 1) pa_nil)) pa_nil)) (blkOk_by (own := [("_law_k", 2)]) (N := N__law_same) (sc := defScope s__law_same) (by decide +kernel)) (fun _ _ _ _ _ => (pg_name (i := 2) sc__law_same.nd rfl (by first | exact Or.inl rfl | exact Or.inr rfl))) (fun _ _ _ _ _ => pts_one (pt_not (pt_trA ⟨rfl, rfl, rfl, rfl, rfl, rfl, rfl⟩ passL (pe_glA ⟨rfl, rfl, rfl, rfl, rfl, rfl, rfl⟩ passL (by rfl) (pa_cons (pe_ixA ⟨rfl, rfl, rfl, rfl, rfl, rfl, rfl⟩ passL (pv 0) (pv 2)) (pa_cons (pe_ixA ⟨rfl, rfl, rfl, rfl, rfl, rfl, rfl⟩ passL (pv 1) (pv 2)) pa_nil)))))) (fun _ _ _ _ _ => (pv 2))) (pe_lst pa_nil) (nomark _)))))) pss_nil)
    (pss_cons (ps_if (pt_cmpA Like.refl pas_main (pe_biA (id := "isinstance") Like.refl pas_main (by rfl) (by decide +kernel) (pa_cons (pv 0) (pa_cons (pe_bvA (v := .ty "bool") Like.refl (by rfl) (by decide +kernel) rfl) pa_nil))) (pe_biA (id := "isinstance") Like.refl pas_main (by rfl) (by decide +kernel) (pa_cons (pv 1) (pa_cons (pe_bvA (v := .ty "bool") Like.refl (by rfl) (by decide +kernel) rfl) pa_nil))) (nomark _)) (pss_one (ps_ret (pe_bl))) pss_nil)
    (pss_one (ps_ret (pe_and (pe_cmpA Like.refl pas_main (pe_biA (id := "isinstance") Like.refl pas_main (by rfl) (by decide +kernel) (pa_cons (pv 0) (pa_cons (pe_bvA (v := .ty "int") Like.refl (by rfl) (by decide +kernel) rfl) pa_nil))) (pe_biA (id := "isinstance") Like.refl pas_main (by rfl) (by decide +kernel) (pa_cons (pv 1) (pa_cons (pe_bvA (v := .ty "int") Like.refl (by rfl) (by decide +kernel) rfl) pa_nil))) (nomark _)) (pe_one (pe_cmpA Like.refl pas_main (pv 0) (pv 1) (nomark _)))))))), ?_⟩
    walk_at "go"
    refine ⟨by show 2 ≤ sizeLine; decide, fun tp htp => ?_⟩
    have s1 := same_new (o := .tup [.ty "tuple", .ty "list"]) htp
    have hd1 := dp_same s1 hd
    have he1 := dp_same s1 he
    walk_at "go"
    refine s_isiTL he1 upd_same (kit_TL e (dp_nd he)) ?_
    walk_at "go"
    cases te : isTL e with
    | true =>
      walk_at "go"
      refine ⟨by show 2 ≤ sizeLine; decide, fun tq htq => ?_⟩
      have s2 := same_new (o := .tup [.ty "tuple", .ty "list"]) htq
      have hd2 := dp_same s2 hd1
      have he2 := dp_same s2 he1
      walk_at "go"
      refine s_isiTL hd2 upd_same (kit_TL d (dp_nd hd)) ?_
      walk_at "go"
      cases td : isTL d with
      | false =>
        walk_at "go"
        exact q false _ (s1.trans s2) ⟨fun z => (nomatch z), fun z => by rw [z, te] at td; cases td⟩
      | true =>
        walk_at "go"
        refine s_isiD hd2 (kit_L d (dp_nd hd)) ?_
        walk_at "go"
        refine s_isiD he2 (kit_L e (dp_nd he)) ?_
        walk_at "go"
        refine ite_n (fun hl => ?_) (fun hl => ?_)
        · walk_at "go"
          exact q false _ (s1.trans s2) ⟨fun z => (nomatch z), fun z => absurd (by rw [z]) hl⟩
        · obtain ⟨p, xs, rfl, hx, px⟩ := isTL_parts hd2 td
          obtain ⟨p2, ys, rfl, hy, py⟩ := isTL_parts he2 te
          obtain ⟨m, em, lx, ox⟩ := okN_parts od td
          obtain ⟨m2, em2, ly, oy⟩ := okN_parts oe te
          obtain rfl : m = m2 := by omega
          have elx := dpAll_len px
          have ely := dpAll_len py
          walk_at "go"
          refine s_lenS hx ?_
          walk_at "go"
          refine s_lenS hy ?_
          walk_at "go"
          refine ite_n (fun hn => ?_) (fun hn => ?_)
          · walk_at "go"
            exact q false _ (s1.trans s2) ⟨fun z => (nomatch z), fun z => absurd (by rw [elx, ely, z]) hn⟩
          · have hxy : xs.length = ys.length := by omega
            walk_at "go"
            refine c_rng (n := ys.length) (fun k => ((List.range k).filter fun i => !decide ((parts d)[i]? = (parts e)[i]?)).map fun i => V.int (i : Nat)) rfl (by omega) (fun k hk => ?_) (fun _ => rfl) (fun k H' hk s3 => ?_) (fun r H' hr0 s3 hL => ?_) (fun R k => ?_)
            · rw [List.length_map]
              have := List.length_filter_le (fun i => !decide ((parts d)[i]? = (parts e)[i]?)) (List.range k)
              rw [List.length_range] at this
              omega
            · obtain ⟨dk, ek⟩ : ∃ dk, (parts d)[k]? = some dk := ⟨_, List.getElem?_eq_getElem (by omega)⟩
              obtain ⟨de, ee⟩ : ∃ de, (parts e)[k]? = some de := ⟨_, List.getElem?_eq_getElem (by omega)⟩
              obtain ⟨vk, evk, dvk⟩ := dpAll_get px ek
              obtain ⟨ve, eve, dve⟩ := dpAll_get py ee
              have eo : (((List.range (k + 1)).filter fun i => !decide ((parts d)[i]? = (parts e)[i]?)).map fun i => V.int (i : Nat)) =
                  if (!decide (dk = de)) = true then (((List.range k).filter fun i => !decide ((parts d)[i]? = (parts e)[i]?)).map fun i => V.int (i : Nat)) ++ [V.int (k : Nat)] else (((List.range k).filter fun i => !decide ((parts d)[i]? = (parts e)[i]?)).map fun i => V.int (i : Nat)) := by
                rw [List.range_succ, List.filter_append, List.map_append]
                simp only [List.filter_cons, List.filter_nil, ek, ee, Option.some.injEq]
                split <;> simp
              show Turn1 _ _ _ _ (((List.range k).filter fun i => !decide ((parts d)[i]? = (parts e)[i]?)).map fun i => V.int (i : Nat)) (((List.range (k + 1)).filter fun i => !decide ((parts d)[i]? = (parts e)[i]?)).map fun i => V.int (i : Nat))
              rw [eo]
              refine turn1_filter (fun R hR => ?_) (fun _ H3 _ R hR => ?_)
              · refine w_not (w_tr (w_gl T.g__law_same (Fun.kp F) ?_))
                walk_at "go"
                refine s_ixS (sqS_same s3 hx) (at_of (j := k) (by omega) evk) ?_
                walk_at "go"
                refine s_ixS (sqS_same s3 hy) (at_of (j := k) (by omega) eve) ?_
                walk_at "go"
                refine s_fn (ih m em) (by rw [em] at hr; exact hr) ⟨vk, ve, dk, de, rfl, dp_same s3 dvk, dp_same s3 dve, ox _ (List.mem_of_getElem? ek), oy _ (List.mem_of_getElem? ee), fun b H4 s4 hb => ?_⟩
                walk_at "go"
                rw [show b = decide (dk = de) from by rw [Bool.eq_iff_iff, hb, decide_eq_true_iff]]
                exact hR _ s4
              · walk_at "go"
                exact hR _ (Same.refl _)
            · walk_at "go"
              refine ⟨by show 0 ≤ sizeLine; decide, fun u hu => ?_⟩
              have hL' : (upd H' u (.lst [])) r = some (.lst ((((List.range ys.length).filter fun i => !decide ((parts d)[i]? = (parts e)[i]?)).map fun i : Nat => (i : Int)).map V.int)) := by
                rw [upd_ne (ne_of_none hL hu), hL, List.map_map]
                rfl
              refine s_eqLsts (ds := []) hr' (SqL.of hL') (SqL.of upd_same) (q _ _ (((s1.trans s2).trans s3).trans (same_new hu)) ?_)
              rw [decide_eq_true_iff, List.map_eq_nil_iff, List.filter_eq_nil_iff, eq_parts td te hl, list_ext_get (xs := parts d) (ys := parts e) (by omega)]
              constructor
              · intro g i dx ey h1 h2
                have := g i (by rw [List.mem_range]; have := (List.getElem?_eq_some_iff.1 h2).1; omega)
                rw [h1, h2] at this
                simpa using this
              · intro g i hi
                rw [List.mem_range] at hi
                have e1 := List.getElem?_eq_getElem (show i < (parts d).length by omega)
                have e2 := List.getElem?_eq_getElem (show i < (parts e).length by omega)
                rw [e1, e2, g i _ _ e1 e2]
                simp
            · walk_at "go"
              exact s_lenS hy k
    | false =>
      walk_at "go"
      refine s_isiD hd1 (kit_B d (dp_nd hd)) ?_
      walk_at "go"
      refine s_isiD he1 (kit_B e (dp_nd he)) ?_
      walk_at "go"
      refine ite_n (fun hB => ?_) (fun hB => ?_)
      · walk_at "go"
        exact q false _ s1 ⟨fun z => (nomatch z), fun z => absurd (by rw [z]) hB⟩
      · walk_at "go"
        refine s_isiD hd1 (kit_I d (dp_nd hd)) ?_
        walk_at "go"
        refine s_isiD he1 (kit_I e (dp_nd he)) ?_
        walk_at "go"
        by_cases hI : isI d = isI e
        · rw [decide_eq_true hI]
          walk_at "go"
          refine s_eqD hr' hd1 he1 (okN_shaped od (by omega)) (okN_shaped oe (by omega)) ?_
          exact q _ _ s1 (eqv_leaf te hB hI (dp_nd he))
        · rw [decide_eq_false hI]
          walk_at "go"
          exact q false _ s1 ⟨fun z => (nomatch z), fun z => absurd (by rw [z]) hI⟩
theorem ok_same (T : Facts K mg a) : ∀ n : Nat, n ≤ 20 → FnR P w K mg base (L2.CX P w) (n + 1) a.f__law_same (spSame K n) := by
  intro n
  induction n with
  | zero => exact fun h => ok_same_at T 0 h fun m e => nomatch e
  | succ n ih =>
    intro h
    refine ok_same_at T (n + 1) h fun m e => ?_
    obtain rfl : n = m := by omega
    exact ih (by omega)

end
/-! ### the law's rows -/
section
variable {P : Program} {w : World} {K : PySem.W.Frag} {mg : Str → Option Value} {base : Heap} {a : Ad}
theorem w_forR {ta : TA} {g : TG} {tb : TS} {D : Ends} {σ : L2.St} {H : Hp} (h : ta σ H fun vs H1 => tFor (iRng1 fun _ H R => R vs H) g tb D σ H1) : tFor (iRng1 ta) g tb D σ H := h
theorem w_forQ {K : PySem.W.Frag} {tl : TE} {g : TG} {tb : TS} {D : Ends} {σ : L2.St} {H : Hp} (h : tl σ H fun x H1 => tFor (iSeq K fun _ H R => R x H) g tb D σ H1) : tFor (iSeq K tl) g tb D σ H := h
theorem w_bm {K : PySem.W.Frag} {T : String} {r : V → List V → Hp → VK → Prop} {to : TE} {t : TA} {σ : L2.St} {H : Hp} {Q : VK} (h : to σ H fun x H1 => tyV K T x H1 ∧ t σ H1 fun xs H2 => r x xs H2 Q) : tBM K T r to t σ H Q := h
/-- a row (amount, seats) stands at r -/
def RowAt (H : Hp) (r : Addr) (b : Int × List Int) : Prop := ∃ t, H r = some (.tup [.int b.1, .ref t]) ∧ H t = some (.tup (b.2.map V.int))
def RowsAt (H : Hp) (rs : List Addr) (bs : List (Int × List Int)) : Prop := rs.length = bs.length ∧ ∀ (i : Nat) r b, rs[i]? = some r → bs[i]? = some b → RowAt H r b
/-- what stays while lists change -/
theorem RowAt.keep {H H' : Hp} {r : Addr} {b : Int × List Int} (h : RowAt H r b) (k : ∀ p xs, H p = some (.tup xs) → H' p = some (.tup xs)) : RowAt H' r b := by
  obtain ⟨t, h1, h2⟩ := h
  exact ⟨t, k _ _ h1, k _ _ h2⟩
theorem RowsAt.keep {H H' : Hp} {rs : List Addr} {bs : List (Int × List Int)} (h : RowsAt H rs bs) (k : ∀ p xs, H p = some (.tup xs) → H' p = some (.tup xs)) : RowsAt H' rs bs := ⟨h.1, fun i r b h1 h2 => (h.2 i r b h1 h2).keep k⟩
theorem RowsAt.snoc {H : Hp} {rs : List Addr} {bs : List (Int × List Int)} {r : Addr} {b : Int × List Int} (h : RowsAt H rs bs) (h' : RowAt H r b) : RowsAt H (rs ++ [r]) (bs ++ [b]) := by
  refine ⟨by simp [h.1], fun i p c e1 e2 => ?_⟩
  by_cases hi : i < rs.length
  · rw [List.getElem?_append_left hi] at e1
    rw [List.getElem?_append_left (by rw [← h.1]; exact hi)] at e2
    exact h.2 i p c e1 e2
  · rw [List.getElem?_append_right (by omega)] at e1
    rw [List.getElem?_append_right (by rw [← h.1]; omega), ← h.1] at e2
    cases z : i - rs.length with
    | zero => rw [z] at e1 e2; cases e1; cases e2; exact h'
    | succ j => rw [z] at e1; simp at e1
theorem asc_snoc : ∀ {ss : List Int} {lo i : Int}, asc lo ss = true → (∀ s ∈ ss, s < i) → lo ≤ i → i ≤ 7 → asc lo (ss ++ [i]) = true
  | [], lo, i, _, _, h1, h2 => by simp [asc, h1, h2]
  | s :: ss, lo, i, h, hs, h1, h2 => by
    simp only [asc, Bool.and_eq_true, decide_eq_true_eq] at h
    have := hs s (List.mem_cons_self ..)
    show (decide (lo ≤ s) && decide (s ≤ 7) && asc (s + 1) (ss ++ [i])) = true
    rw [asc_snoc h.2 (fun x hx => hs x (List.mem_cons_of_mem _ hx)) (by omega) h2]
    simp [h.1.1, h.1.2]
end


section
variable {P : Program} {w : World} {K : PySem.W.Frag} {mg : Str → Option Value} {base : Heap} {a : Ad}
def spRows (K : PySem.W.Frag) : Sp := fun vs H Q _ => ∃ (st : Addr) (n most : Nat) (sc : Addr) (ns : List Int), vs = [.ref st, .int n, .int most] ∧ StOk K sc ns H st ∧ 2 ≤ n ∧ n ≤ 8 ∧ most ≤ 29 ∧
  ∀ p rs rows H', H p = none → SameB (· = st) H H' → StC sc H' st → H' p = some (.lst (rs.map V.ref)) → RowsAt H' rs rows → rows.length ≤ most → (∀ b ∈ rows, OkBill b ∧ ∀ s ∈ b.2, s < (n : Int)) → Q (.ref p) H'
theorem ok_rows (T : Facts K mg a) : FnR P w K mg base (L2.CX P w) 2 a.f__law_rows (spRows K) := by
  obtain ⟨fd, F⟩ := T.u__law_rows
  have GD : FnR P w K mg base (L2.CX P w) 1 a.f__law_drawn (spDrawn K) := ok_drawn T
  refine fnr_ok F sc__law_rows (F.binds fun _ _ _ _ _ _ us hl => match us, hl with | [_, _, _], _ => rfl) (fun vs H Q E h => ?_) (fun cdv A outer s H vs Q E hr h => ?_)
  · obtain ⟨st, n, most, sc, ns, rfl, _⟩ := h
    rfl
  · obtain ⟨st, n, most, sc, ns, rfl, ok, hn2, hn8, hm, q⟩ := h
    have hr' := hr.units
    refine ⟨_, (pss_cons (ps_set (i := 3) sc__law_rows.nd rfl (Or.inl rfl) (pe_lst pa_nil))
    (pss_cons (ps_for own_main rfl (pi_range1 (by rfl) T.z_range (pa_cons (pe_glA Like.refl pas_main (by rfl) (pa_cons (pv 0) (pa_cons (pe_opA Like.refl pas_main (pv 2) (pe_int)) pa_nil))) pa_nil)) (pg_name (i := 4) sc__law_rows.nd rfl (Or.inl rfl)) (pss_cons (ps_set (i := 5) sc__law_rows.nd rfl (Or.inl rfl) (pe_tyA (T := "tuple") Like.refl pas_main (by rfl) (by decide +kernel) (pa_cons (pe_lc (own := [("_law_seat", 6)]) (g := gName 6) (tt := _) rfl sc__law_rows.nd (pi_range1 (by rfl) T.z_range (pa_cons (pv 1) pa_nil)) (blkOk_by (own := [("_law_seat", 6)]) (N := N__law_rows) (sc := defScope s__law_rows) (by decide +kernel)) (fun _ _ _ _ _ => (pg_name (i := 6) sc__law_rows.nd rfl (by first | exact Or.inl rfl | exact Or.inr rfl))) (fun _ _ _ _ _ => pts_one (pt_cmpA ⟨rfl, rfl, rfl, rfl, rfl, rfl, rfl⟩ passL (pe_glA ⟨rfl, rfl, rfl, rfl, rfl, rfl, rfl⟩ passL (by rfl) (pa_cons (pv 0) (pa_cons (pe_int) pa_nil))) (pe_int) (nomark _))) (fun _ _ _ _ _ => (pv 6))) pa_nil)))
    (pss_cons (ps_set (i := 5) sc__law_rows.nd rfl (Or.inl rfl) (pe_ifExp (pt_cmpA Like.refl pas_main (pv 5) (pe_tup pa_nil) (nomark _)) (pv 5) (pe_tup (pa_cons (pe_glA Like.refl pas_main (by rfl) (pa_cons (pv 0) (pa_cons (pv 1) pa_nil))) pa_nil))))
    (pss_one (ps_expr (pe_bm PySem.F.plainAttrs_list PySem.F.slot_list_append PySem.F.type_list_append mt_append (pv 3) (pa_cons (pe_tup (pa_cons (pe_glA Like.refl pas_main (by rfl) (pa_cons (pv 0) (pa_cons (pe_ixA Like.refl pas_main (pe_lst (pa_cons (pe_int) (pa_cons (pe_int) (pa_cons (pe_opA Like.refl pas_main (pe_int) (pe_int)) pa_nil)))) (pe_glA Like.refl pas_main (by rfl) (pa_cons (pv 0) (pa_cons (pe_int) pa_nil)))) pa_nil))) (pa_cons (pv 5) pa_nil))) pa_nil)))))))
    (pss_one (ps_ret (pv 3))))), ?_⟩
    walk_at "go"
    refine ⟨by show 0 ≤ sizeLine; decide, fun p hp => ?_⟩
    walk_at "go"
    refine w_forR ?_
    walk_at "go"
    refine s_fn GD hr ⟨st, _, sc, ns, rfl, ok.same (same_new hp), by omega, by omega, fun v H1 v0 v1 sb c1 => ?_⟩
    obtain ⟨vn, rfl⟩ := Int.eq_ofNat_of_zero_le v0
    walk_at "go"
    have sb1 : SameB (· = st) H H1 := (Same.b (same_new hp)).trans sb
    refine f_rng (n := vn) (fun k σ H' => SameB (· = st) H H' ∧ StC sc H' st ∧ ∃ rs rows x4 x5 x6, σ = [some (.ref st), some (.int n), some (.int most), some (.ref p), x4, x5, x6] ∧ H' p = some (.lst (rs.map V.ref)) ∧ RowsAt H' rs rows ∧ rows.length = k ∧ ∀ b ∈ rows, OkBill b ∧ ∀ s ∈ b.2, s < (n : Int))
      (fun R k => k) (by omega) ⟨sb1, c1, [], [], none, none, none, rfl, sb _ _ (ok.1.ne hp) upd_same, ⟨rfl, fun i r b z => by simp at z⟩, rfl, fun b z => by simp at z⟩ (fun k σ H' hk pv => ?_) (fun σ H' pv => ?_)
    · obtain ⟨sb2, c2, rs, rows, x4, x5, x6, rfl, hp2y, rw1, rw2, rw3⟩ := pv
      refine w_name ?_
      walk_at "go"
      refine c_rngI (n := n) (· = st) (fun i o H2 => StC sc H2 st ∧ ∃ ss : List Int, o = ss.map V.int ∧ asc 0 ss = true ∧ (∀ s ∈ ss, s < (i : Int)) ∧ ss.length ≤ i) (by omega) (fun b e => by obtain ⟨l, hl⟩ := c2.lst; rw [e, hl]; simp) (fun D hD => ⟨c2.upd (c2.ne hD), [], rfl, rfl, by simp, Nat.zero_le _⟩) (fun i o H2 hi pv => ?_)
        (fun i o H2 D l l' hD hd pv => ⟨pv.1.upd (c2.ne hD), pv.2⟩) (fun _ => rfl) (fun i H2 o hi s2 pv => ?_) (fun p2 o H2 hp2 s2 pv hL => ?_) (fun R k => ?_)
      · obtain ⟨_, ss, rfl, _, _, hl⟩ := pv
        rw [List.length_map]
        omega
      · obtain ⟨c3, ss, rfl, ha, hlt, hl⟩ := pv
        intro K1 K0 k1 k0
        walk_at "go"
        refine s_fn GD hr ⟨st, 3, sc, ns, rfl, ok.to (sb2.trans s2) c3, by decide, by decide, fun v H3 v0 v1 sb3 c4 => ?_⟩
        walk_at "go"
        refine ite_d (fun _ => ?_) (fun _ => ?_)
        · walk_at "go"
          exact k1 _ H3 sb3 ⟨c4, ss ++ [(i : Int)], by rw [List.map_append]; rfl, asc_snoc ha hlt (by omega) (by omega), fun s hs => by
            rcases List.mem_append.1 hs with hs | hs
            · have := hlt s hs; omega
            · rw [List.mem_singleton.1 hs]; omega, by rw [List.length_append]; simp; exact hl⟩
        · exact k0 H3 sb3 ⟨c4, ss, rfl, ha, fun s hs => by have := hlt s hs; omega, by omega⟩
      · obtain ⟨c3, ss, rfl, ha, hlt, hl⟩ := pv
        walk_at "go"
        refine s_tupleL (SqL.of hL) fun t1 ht1 => ?_
        walk_at "go"
        refine ⟨by show 0 ≤ sizeLine; decide, fun t0 ht0 => ?_⟩
        walk_at "go"
        have hne10 : t1 ≠ t0 := fun z => by rw [← z, upd_same] at ht0; cases ht0
        have ht1' : (upd (upd H2 t1 (.tup (ss.map V.int))) t0 (.tup [])) t1 = some (.tup (ss.map V.int)) := by rw [upd_ne hne10, upd_same]
        refine s_neTups hr' (ds := []) (SqT.of ht1') (SqT.of upd_same) ?_
        have sq1 := same_new (o := .tup (ss.map V.int)) ht1
        have sq0 := same_new (o := .tup []) ht0
        have sb4 : SameB (· = st) H (upd (upd H2 t1 (.tup (ss.map V.int))) t0 (.tup [])) := ((sb2.trans s2).trans (Same.b sq1)).trans (Same.b sq0)
        have c4 := (c3.same sq1).same sq0
        have hpst : p ≠ st := ok.1.ne hp
        have hp4 := (Same.b (S := (· = st)) sq0) _ _ hpst ((Same.b (S := (· = st)) sq1) _ _ hpst (s2 _ _ hpst hp2y))
        have rw4 : RowsAt (upd (upd H2 t1 (.tup (ss.map V.int))) t0 (.tup [])) rs rows := rw1.keep fun q' xs e => by
          obtain ⟨l, hl⟩ := c2.lst
          exact sq0 _ _ (sq1 _ _ (s2 _ _ (fun z => by rw [z, hl] at e; cases e) e))
        walk_at "go"
        refine ite_n (fun hne2 => ?_) (fun hemp => ?_)
        · generalize (upd (upd H2 t1 (.tup (ss.map V.int))) t0 (.tup [])) = H5 at *
          have hp5 := hp4
          have sb5 := sb4
          have c5 := c4
          have rw1 := rw4
          have ht2 := ht1'
          have hasc2 := ha
          have hlt2 := hlt
          walk_at "go"
          refine w_bm ?_
          walk_at "go"
          refine ⟨.inl ⟨rfl, _, SqL.of hp5⟩, ?_⟩
          walk_at "go"
          refine s_pow ⟨by decide, by decide, by decide⟩ ?_
          walk_at "go"
          refine ⟨by show 3 ≤ sizeLine; decide, fun l3 hl3 => ?_⟩
          have ok6 := (ok.to sb5 c5).same (same_new (o := .lst [.int 9, .int 100, .int (10 ^ (12 : Int).toNat)]) hl3)
          walk_at "go"
          refine s_fn GD hr ⟨st, 3, sc, ns, rfl, ok6, by decide, by decide, fun v3 H7 v30 v31 sb7 c7 => ?_⟩
          obtain ⟨mx, hmx, hm0, hm1⟩ : ∃ mx : Int, atI [V.int 9, V.int 100, V.int (10 ^ (12 : Int).toNat)] v3 = some (.int mx) ∧ 0 < mx ∧ mx ≤ 10 ^ 12 := by
            have : v3 = 0 ∨ v3 = 1 ∨ v3 = 2 := by omega
            rcases this with e | e | e
            · rw [e]; exact ⟨9, rfl, by decide, by decide⟩
            · rw [e]; exact ⟨100, rfl, by decide, by decide⟩
            · rw [e]; exact ⟨10 ^ (12 : Int).toNat, rfl, by decide, by decide⟩
          walk_at "go"
          have hl3st : l3 ≠ st := c5.ne hl3
          refine s_ixL (SqL.of (sb7 _ _ hl3st upd_same)) hmx ?_
          walk_at "go"
          refine s_fn GD hr ⟨st, mx, sc, ns, rfl, ok6.to sb7 c7, hm0, by omega, fun v4 H8 v40 v41 sb8 c8 => ?_⟩
          walk_at "go"
          refine ⟨by show 2 ≤ sizeLine; decide, fun r hr0 => ?_⟩
          walk_at "go"
          have hpst : p ≠ st := ok.1.ne hp
          have hp8 : H8 p = some (.lst (rs.map V.ref)) := sb8 _ _ hpst (sb7 _ _ hpst (by rw [upd_ne (ne_of_none hp5 hl3)]; exact hp5))
          have hpr : p ≠ r := ne_of_none hp8 hr0
          have hrst : r ≠ st := c8.ne hr0
          have hlen : rs.length ≤ 1000 := by have := rw1.1; omega
          refine ⟨p, _, _, rfl, rfl, by rw [upd_ne hpr]; exact hp8, by rw [List.length_map]; exact Nat.lt_of_le_of_lt hlen (by decide), ?_⟩
          have tup : ∀ q' xs, H5 q' = some (.tup xs) → (upd (upd H8 r (.tup [.int v4, .ref t1])) p (.lst (rs.map V.ref ++ [.ref r]))) q' = some (.tup xs) := fun q' xs e => by
            have n1 : q' ≠ st := fun z => by
              obtain ⟨l, hl⟩ := c5.lst
              rw [z, hl] at e
              cases e
            have e8 := sb8 _ _ n1 (sb7 _ _ n1 (by rw [upd_ne (ne_of_none e hl3)]; exact e))
            rw [upd_ne (fun z => by rw [z, hp5] at e; cases e), upd_ne (ne_of_none e8 hr0)]
            exact e8
          walk_at "go"
          refine ⟨?_, (c8.upd hrst).upd hpst, rs ++ [r], rows ++ [(v4, ss)], _, _, _, rfl, ?_, ?_, by rw [List.length_append, rw2]; rfl, fun b hb => ?_⟩
          · refine SameB.upd ?_ hp
            intro b o nb e
            have e8 : H8 b = some o := sb8 _ _ nb (sb7 _ _ nb (by rw [upd_ne (ne_of_none (sb5 _ _ nb e) hl3)]; exact sb5 _ _ nb e))
            rw [upd_ne (ne_of_none e8 hr0)]
            exact e8
          · rw [upd_same, List.map_append]
            rfl
          · refine (rw1.keep tup).snoc ⟨t1, ?_, tup _ _ ht2⟩
            rw [upd_ne hpr.symm, upd_same]
          · rcases List.mem_append.1 hb with hb | hb
            · exact rw3 b hb
            · rw [List.mem_singleton.1 hb]
              exact ⟨⟨v40, by show v4 ≤ 10 ^ 12; omega, hasc2, hne2⟩, hlt2⟩
        · walk_at "go"
          refine s_fn GD hr ⟨st, _, sc, ns, rfl, ok.to sb4 c4, by omega, by omega, fun v9 H9 v90 v91 sb9 c9 => ?_⟩
          walk_at "go"
          refine ⟨by show 1 ≤ sizeLine; decide, fun t2 ht2n => ?_⟩
          have sq2 := same_new (o := .tup [.int v9]) ht2n
          have sb5 : SameB (· = st) H (upd H9 t2 (.tup [.int v9])) := (sb4.trans sb9).trans (Same.b sq2)
          have c5 := c9.same sq2
          have hp5 := sq2 _ _ (sb9 _ _ hpst hp4)
          have rw5 : RowsAt (upd H9 t2 (.tup [.int v9])) rs rows := rw4.keep fun q' xs e => by
            obtain ⟨l, hl⟩ := c4.lst
            exact sq2 _ _ (sb9 _ _ (fun z => by rw [z, hl] at e; cases e) e)
          have ht2 : (upd H9 t2 (.tup [.int v9])) t2 = some (.tup (([v9] : List Int).map V.int)) := upd_same
          have hasc2 : asc 0 [v9] = true := by simp [asc]; omega
          have hlt2 : ∀ s ∈ ([v9] : List Int), s < (n : Int) := fun s hs => by rw [List.mem_singleton.1 hs]; omega
          have hne2 : ([v9] : List Int) ≠ [] := by simp
          generalize (upd H9 t2 (.tup [.int v9])) = H5 at *
          generalize ([v9] : List Int) = ss2 at *
          have rw1 := rw5
          walk_at "go"
          refine w_bm ?_
          walk_at "go"
          refine ⟨.inl ⟨rfl, _, SqL.of hp5⟩, ?_⟩
          walk_at "go"
          refine s_pow ⟨by decide, by decide, by decide⟩ ?_
          walk_at "go"
          refine ⟨by show 3 ≤ sizeLine; decide, fun l3 hl3 => ?_⟩
          have ok6 := (ok.to sb5 c5).same (same_new (o := .lst [.int 9, .int 100, .int (10 ^ (12 : Int).toNat)]) hl3)
          walk_at "go"
          refine s_fn GD hr ⟨st, 3, sc, ns, rfl, ok6, by decide, by decide, fun v3 H7 v30 v31 sb7 c7 => ?_⟩
          obtain ⟨mx, hmx, hm0, hm1⟩ : ∃ mx : Int, atI [V.int 9, V.int 100, V.int (10 ^ (12 : Int).toNat)] v3 = some (.int mx) ∧ 0 < mx ∧ mx ≤ 10 ^ 12 := by
            have : v3 = 0 ∨ v3 = 1 ∨ v3 = 2 := by omega
            rcases this with e | e | e
            · rw [e]; exact ⟨9, rfl, by decide, by decide⟩
            · rw [e]; exact ⟨100, rfl, by decide, by decide⟩
            · rw [e]; exact ⟨10 ^ (12 : Int).toNat, rfl, by decide, by decide⟩
          walk_at "go"
          have hl3st : l3 ≠ st := c5.ne hl3
          refine s_ixL (SqL.of (sb7 _ _ hl3st upd_same)) hmx ?_
          walk_at "go"
          refine s_fn GD hr ⟨st, mx, sc, ns, rfl, ok6.to sb7 c7, hm0, by omega, fun v4 H8 v40 v41 sb8 c8 => ?_⟩
          walk_at "go"
          refine ⟨by show 2 ≤ sizeLine; decide, fun r hr0 => ?_⟩
          walk_at "go"
          have hpst : p ≠ st := ok.1.ne hp
          have hp8 : H8 p = some (.lst (rs.map V.ref)) := sb8 _ _ hpst (sb7 _ _ hpst (by rw [upd_ne (ne_of_none hp5 hl3)]; exact hp5))
          have hpr : p ≠ r := ne_of_none hp8 hr0
          have hrst : r ≠ st := c8.ne hr0
          have hlen : rs.length ≤ 1000 := by have := rw1.1; omega
          refine ⟨p, _, _, rfl, rfl, by rw [upd_ne hpr]; exact hp8, by rw [List.length_map]; exact Nat.lt_of_le_of_lt hlen (by decide), ?_⟩
          have tup : ∀ q' xs, H5 q' = some (.tup xs) → (upd (upd H8 r (.tup [.int v4, .ref t2])) p (.lst (rs.map V.ref ++ [.ref r]))) q' = some (.tup xs) := fun q' xs e => by
            have n1 : q' ≠ st := fun z => by
              obtain ⟨l, hl⟩ := c5.lst
              rw [z, hl] at e
              cases e
            have e8 := sb8 _ _ n1 (sb7 _ _ n1 (by rw [upd_ne (ne_of_none e hl3)]; exact e))
            rw [upd_ne (fun z => by rw [z, hp5] at e; cases e), upd_ne (ne_of_none e8 hr0)]
            exact e8
          walk_at "go"
          refine ⟨?_, (c8.upd hrst).upd hpst, rs ++ [r], rows ++ [(v4, ss2)], _, _, _, rfl, ?_, ?_, by rw [List.length_append, rw2]; rfl, fun b hb => ?_⟩
          · refine SameB.upd ?_ hp
            intro b o nb e
            have e8 : H8 b = some o := sb8 _ _ nb (sb7 _ _ nb (by rw [upd_ne (ne_of_none (sb5 _ _ nb e) hl3)]; exact sb5 _ _ nb e))
            rw [upd_ne (ne_of_none e8 hr0)]
            exact e8
          · rw [upd_same, List.map_append]
            rfl
          · refine (rw1.keep tup).snoc ⟨t2, ?_, tup _ _ ht2⟩
            rw [upd_ne hpr.symm, upd_same]
          · rcases List.mem_append.1 hb with hb | hb
            · exact rw3 b hb
            · rw [List.mem_singleton.1 hb]
              exact ⟨⟨v40, by show v4 ≤ 10 ^ 12; omega, hasc2, hne2⟩, hlt2⟩
      · walk_at "go"
        exact k
    · obtain ⟨sb2, c2, rs, rows, x4, x5, x6, rfl, hp2, rw1, rw2, rw3⟩ := pv
      walk_at "go"
      exact q p rs rows H' hp sb2 c2 hp2 rw1 (by omega) rw3
end


section
variable {P : Program} {w : World} {K : PySem.W.Frag} {mg : Str → Option Value} {base : Heap} {a : Ad}
theorem iteT' {c : Bool} {A B : Prop} (hc : c = true) (h : A) : if c = true then A else B := by rw [if_pos hc]; exact h
theorem iteF' {c : Bool} {A B : Prop} (hc : c = false) (h : B) : if c = true then A else B := by rw [if_neg (by rw [hc]; exact Bool.false_ne_true)]; exact h
def spBill (C : Addr) : Sp := fun vs H Q _ => ∃ (r : Addr) (b : Int × List Int), vs = [.ref r] ∧ RowAt H r b ∧ OkBill b ∧ ∀ p H', Same H H' → BiAt C H' p b → Q (.ref p) H'
theorem ok_bill (T : Facts K mg a) : FnR P w K mg base (L2.CX P w) 5 a.f__law_bill (spBill a.c_Bill) := by
  obtain ⟨fd, F⟩ := T.u__law_bill
  have GB : FnR P w K mg base (L2.CX P w) 3 a.f_Bill__init_ (InitB a.c_Bill) := ok_bi_init T
  refine fnr_ok F sc__law_bill (F.binds fun _ _ _ _ _ _ us hl => match us, hl with | [_], _ => rfl) (fun vs H Q E h => ?_) (fun cdv A outer s H vs Q E hr h => ?_)
  · obtain ⟨r, b, rfl, _⟩ := h
    rfl
  · obtain ⟨r, ⟨amt, ss⟩, rfl, ⟨t, h1, h2⟩, ok, q⟩ := h
    have hl8 := ok_len ok
    have hr' := hr.units
    refine ⟨_, (pss_cons (ps_asg (pv 0) (pg_tup rfl (pgs_cons (pg_name (i := 1) sc__law_bill.nd rfl (Or.inl rfl)) (pgs_cons (pg_name (i := 2) sc__law_bill.nd rfl (Or.inl rfl)) pgs_nil))))
    (pss_cons (ps_set (i := 3) sc__law_bill.nd rfl (Or.inl rfl) (pe_lst (pa_cons (pe_glA Like.refl pas_main (by rfl) (pa_cons (pv 1) (pa_cons (pe_ixA Like.refl pas_main (pv 2) (pe_int)) pa_nil))) pa_nil)))
    (pss_cons (ps_if (pt_cmpA Like.refl pas_main (pe_biA (id := "len") Like.refl pas_main (by rfl) (by decide +kernel) (pa_cons (pv 2) pa_nil)) (pe_int) (nomark _)) (pss_one (ps_set (i := 3) sc__law_bill.nd rfl (Or.inl rfl) (pe_lst (pa_cons (pe_glA Like.refl pas_main (by rfl) (pa_cons (pv 1) (pa_cons (pe_ixA Like.refl pas_main (pv 2) (pe_int)) (pa_cons (pe_ixA Like.refl pas_main (pv 2) (pe_int)) pa_nil)))) pa_nil)))) pss_nil)
    (pss_cons (ps_if (pt_cmpA Like.refl pas_main (pe_biA (id := "len") Like.refl pas_main (by rfl) (by decide +kernel) (pa_cons (pv 2) pa_nil)) (pe_int) (nomark _)) (pss_one (ps_set (i := 3) sc__law_bill.nd rfl (Or.inl rfl) (pe_lst (pa_cons (pe_glA Like.refl pas_main (by rfl) (pa_cons (pv 1) (pa_cons (pe_ixA Like.refl pas_main (pv 2) (pe_int)) (pa_cons (pe_ixA Like.refl pas_main (pv 2) (pe_int)) (pa_cons (pe_ixA Like.refl pas_main (pv 2) (pe_int)) pa_nil))))) pa_nil)))) pss_nil)
    (pss_cons (ps_if (pt_cmpA Like.refl pas_main (pe_biA (id := "len") Like.refl pas_main (by rfl) (by decide +kernel) (pa_cons (pv 2) pa_nil)) (pe_int) (nomark _)) (pss_one (ps_set (i := 3) sc__law_bill.nd rfl (Or.inl rfl) (pe_lst (pa_cons (pe_glA Like.refl pas_main (by rfl) (pa_cons (pv 1) (pa_cons (pe_ixA Like.refl pas_main (pv 2) (pe_int)) (pa_cons (pe_ixA Like.refl pas_main (pv 2) (pe_int)) (pa_cons (pe_ixA Like.refl pas_main (pv 2) (pe_int)) (pa_cons (pe_ixA Like.refl pas_main (pv 2) (pe_int)) pa_nil)))))) pa_nil)))) pss_nil)
    (pss_cons (ps_if (pt_cmpA Like.refl pas_main (pe_biA (id := "len") Like.refl pas_main (by rfl) (by decide +kernel) (pa_cons (pv 2) pa_nil)) (pe_int) (nomark _)) (pss_one (ps_set (i := 3) sc__law_bill.nd rfl (Or.inl rfl) (pe_lst (pa_cons (pe_glA Like.refl pas_main (by rfl) (pa_cons (pv 1) (pa_cons (pe_ixA Like.refl pas_main (pv 2) (pe_int)) (pa_cons (pe_ixA Like.refl pas_main (pv 2) (pe_int)) (pa_cons (pe_ixA Like.refl pas_main (pv 2) (pe_int)) (pa_cons (pe_ixA Like.refl pas_main (pv 2) (pe_int)) (pa_cons (pe_ixA Like.refl pas_main (pv 2) (pe_int)) pa_nil))))))) pa_nil)))) pss_nil)
    (pss_cons (ps_if (pt_cmpA Like.refl pas_main (pe_biA (id := "len") Like.refl pas_main (by rfl) (by decide +kernel) (pa_cons (pv 2) pa_nil)) (pe_int) (nomark _)) (pss_one (ps_set (i := 3) sc__law_bill.nd rfl (Or.inl rfl) (pe_lst (pa_cons (pe_glA Like.refl pas_main (by rfl) (pa_cons (pv 1) (pa_cons (pe_ixA Like.refl pas_main (pv 2) (pe_int)) (pa_cons (pe_ixA Like.refl pas_main (pv 2) (pe_int)) (pa_cons (pe_ixA Like.refl pas_main (pv 2) (pe_int)) (pa_cons (pe_ixA Like.refl pas_main (pv 2) (pe_int)) (pa_cons (pe_ixA Like.refl pas_main (pv 2) (pe_int)) (pa_cons (pe_ixA Like.refl pas_main (pv 2) (pe_int)) pa_nil)))))))) pa_nil)))) pss_nil)
    (pss_cons (ps_if (pt_cmpA Like.refl pas_main (pe_biA (id := "len") Like.refl pas_main (by rfl) (by decide +kernel) (pa_cons (pv 2) pa_nil)) (pe_int) (nomark _)) (pss_one (ps_set (i := 3) sc__law_bill.nd rfl (Or.inl rfl) (pe_lst (pa_cons (pe_glA Like.refl pas_main (by rfl) (pa_cons (pv 1) (pa_cons (pe_ixA Like.refl pas_main (pv 2) (pe_int)) (pa_cons (pe_ixA Like.refl pas_main (pv 2) (pe_int)) (pa_cons (pe_ixA Like.refl pas_main (pv 2) (pe_int)) (pa_cons (pe_ixA Like.refl pas_main (pv 2) (pe_int)) (pa_cons (pe_ixA Like.refl pas_main (pv 2) (pe_int)) (pa_cons (pe_ixA Like.refl pas_main (pv 2) (pe_int)) (pa_cons (pe_ixA Like.refl pas_main (pv 2) (pe_int)) pa_nil))))))))) pa_nil)))) pss_nil)
    (pss_cons (ps_if (pt_cmpA Like.refl pas_main (pe_biA (id := "len") Like.refl pas_main (by rfl) (by decide +kernel) (pa_cons (pv 2) pa_nil)) (pe_int) (nomark _)) (pss_one (ps_set (i := 3) sc__law_bill.nd rfl (Or.inl rfl) (pe_lst (pa_cons (pe_glA Like.refl pas_main (by rfl) (pa_cons (pv 1) (pa_cons (pe_int) (pa_cons (pe_int) (pa_cons (pe_int) (pa_cons (pe_int) (pa_cons (pe_int) (pa_cons (pe_int) (pa_cons (pe_int) (pa_cons (pe_int) pa_nil)))))))))) pa_nil)))) pss_nil)
    (pss_one (ps_ret (pe_ixA Like.refl pas_main (pv 3) (pe_int))))))))))))), ?_⟩
    walk_at "go"
    refine g_pair (SqT.of h1) ?_
    walk_at "go"
    rcases ss with _ | ⟨s0, _ | ⟨s1, _ | ⟨s2, _ | ⟨s3, _ | ⟨s4, _ | ⟨s5, _ | ⟨s6, _ | ⟨s7, _ | ⟨s8, ss⟩⟩⟩⟩⟩⟩⟩⟩⟩
    · exact absurd rfl ok.2.2.2
    · have hasc := ok.2.2.1
      simp only [asc, Bool.and_eq_true, decide_eq_true_eq, Bool.and_true] at hasc
      walk_at "go"
      refine s_ixT (SqT.of ((Same.refl H) _ _ h2)) (v := .int s0) rfl ?_
      walk_at "go"
      refine s_bill (i := amt) (ss := [s0]) T GB hr ⟨ok.1, ok.2.1, by first | (simp [asc]; done) | (simp [asc]; omega), by simp⟩ (by show 1 ≤ 100000; decide) fun p1 H1 hp1 sb1 bi1 => ?_
      walk_at "go"
      refine ⟨by show 1 ≤ sizeLine; decide, fun l1 hl1 => ?_⟩
      have sk1 := ((Same.refl H).trans sb1).trans (same_new (o := .lst [.ref p1]) hl1)
      have bk1 := bi1.same (same_new (o := .lst [.ref p1]) hl1)
      have ek1 : (upd H1 l1 (.lst [.ref p1])) l1 = some (.lst [.ref p1]) := upd_same
      generalize upd H1 l1 (.lst [.ref p1]) = G1 at *
      walk_at "go"
      refine s_lenT (SqT.of ((sk1) _ _ h2)) ?_
      walk_at "go"
      refine iteF' rfl ?_
      walk_at "go"
      refine s_lenT (SqT.of ((sk1) _ _ h2)) ?_
      walk_at "go"
      refine iteF' rfl ?_
      walk_at "go"
      refine s_lenT (SqT.of ((sk1) _ _ h2)) ?_
      walk_at "go"
      refine iteF' rfl ?_
      walk_at "go"
      refine s_lenT (SqT.of ((sk1) _ _ h2)) ?_
      walk_at "go"
      refine iteF' rfl ?_
      walk_at "go"
      refine s_lenT (SqT.of ((sk1) _ _ h2)) ?_
      walk_at "go"
      refine iteF' rfl ?_
      walk_at "go"
      refine s_lenT (SqT.of ((sk1) _ _ h2)) ?_
      walk_at "go"
      refine iteF' rfl ?_
      walk_at "go"
      refine s_lenT (SqT.of ((sk1) _ _ h2)) ?_
      walk_at "go"
      refine iteF' rfl ?_
      walk_at "go"
      refine s_ixL (SqL.of ek1) (v := .ref p1) rfl ?_
      exact q _ _ sk1 bk1
    · have hasc := ok.2.2.1
      simp only [asc, Bool.and_eq_true, decide_eq_true_eq, Bool.and_true] at hasc
      walk_at "go"
      refine s_ixT (SqT.of ((Same.refl H) _ _ h2)) (v := .int s0) rfl ?_
      walk_at "go"
      refine s_bill (i := amt) (ss := [s0]) T GB hr ⟨ok.1, ok.2.1, by first | (simp [asc]; done) | (simp [asc]; omega), by simp⟩ (by show 1 ≤ 100000; decide) fun p1 H1 hp1 sb1 bi1 => ?_
      walk_at "go"
      refine ⟨by show 1 ≤ sizeLine; decide, fun l1 hl1 => ?_⟩
      have sk1 := ((Same.refl H).trans sb1).trans (same_new (o := .lst [.ref p1]) hl1)
      have bk1 := bi1.same (same_new (o := .lst [.ref p1]) hl1)
      have ek1 : (upd H1 l1 (.lst [.ref p1])) l1 = some (.lst [.ref p1]) := upd_same
      generalize upd H1 l1 (.lst [.ref p1]) = G1 at *
      walk_at "go"
      refine s_lenT (SqT.of ((sk1) _ _ h2)) ?_
      walk_at "go"
      refine iteT' rfl ?_
      walk_at "go"
      refine s_ixT (SqT.of ((sk1) _ _ h2)) (v := .int s0) rfl ?_
      walk_at "go"
      refine s_ixT (SqT.of ((sk1) _ _ h2)) (v := .int s1) rfl ?_
      walk_at "go"
      refine s_bill (i := amt) (ss := [s0, s1]) T GB hr ⟨ok.1, ok.2.1, by first | (simp [asc]; done) | (simp [asc]; omega), by simp⟩ (by show 2 ≤ 100000; decide) fun p2 H2 hp2 sb2 bi2 => ?_
      walk_at "go"
      refine ⟨by show 1 ≤ sizeLine; decide, fun l2 hl2 => ?_⟩
      have sk2 := ((sk1).trans sb2).trans (same_new (o := .lst [.ref p2]) hl2)
      have bk2 := bi2.same (same_new (o := .lst [.ref p2]) hl2)
      have ek2 : (upd H2 l2 (.lst [.ref p2])) l2 = some (.lst [.ref p2]) := upd_same
      generalize upd H2 l2 (.lst [.ref p2]) = G2 at *
      walk_at "go"
      refine s_lenT (SqT.of ((sk2) _ _ h2)) ?_
      walk_at "go"
      refine iteF' rfl ?_
      walk_at "go"
      refine s_lenT (SqT.of ((sk2) _ _ h2)) ?_
      walk_at "go"
      refine iteF' rfl ?_
      walk_at "go"
      refine s_lenT (SqT.of ((sk2) _ _ h2)) ?_
      walk_at "go"
      refine iteF' rfl ?_
      walk_at "go"
      refine s_lenT (SqT.of ((sk2) _ _ h2)) ?_
      walk_at "go"
      refine iteF' rfl ?_
      walk_at "go"
      refine s_lenT (SqT.of ((sk2) _ _ h2)) ?_
      walk_at "go"
      refine iteF' rfl ?_
      walk_at "go"
      refine s_lenT (SqT.of ((sk2) _ _ h2)) ?_
      walk_at "go"
      refine iteF' rfl ?_
      walk_at "go"
      refine s_ixL (SqL.of ek2) (v := .ref p2) rfl ?_
      exact q _ _ sk2 bk2
    · have hasc := ok.2.2.1
      simp only [asc, Bool.and_eq_true, decide_eq_true_eq, Bool.and_true] at hasc
      walk_at "go"
      refine s_ixT (SqT.of ((Same.refl H) _ _ h2)) (v := .int s0) rfl ?_
      walk_at "go"
      refine s_bill (i := amt) (ss := [s0]) T GB hr ⟨ok.1, ok.2.1, by first | (simp [asc]; done) | (simp [asc]; omega), by simp⟩ (by show 1 ≤ 100000; decide) fun p1 H1 hp1 sb1 bi1 => ?_
      walk_at "go"
      refine ⟨by show 1 ≤ sizeLine; decide, fun l1 hl1 => ?_⟩
      have sk1 := ((Same.refl H).trans sb1).trans (same_new (o := .lst [.ref p1]) hl1)
      have bk1 := bi1.same (same_new (o := .lst [.ref p1]) hl1)
      have ek1 : (upd H1 l1 (.lst [.ref p1])) l1 = some (.lst [.ref p1]) := upd_same
      generalize upd H1 l1 (.lst [.ref p1]) = G1 at *
      walk_at "go"
      refine s_lenT (SqT.of ((sk1) _ _ h2)) ?_
      walk_at "go"
      refine iteF' rfl ?_
      walk_at "go"
      refine s_lenT (SqT.of ((sk1) _ _ h2)) ?_
      walk_at "go"
      refine iteT' rfl ?_
      walk_at "go"
      refine s_ixT (SqT.of ((sk1) _ _ h2)) (v := .int s0) rfl ?_
      walk_at "go"
      refine s_ixT (SqT.of ((sk1) _ _ h2)) (v := .int s1) rfl ?_
      walk_at "go"
      refine s_ixT (SqT.of ((sk1) _ _ h2)) (v := .int s2) rfl ?_
      walk_at "go"
      refine s_bill (i := amt) (ss := [s0, s1, s2]) T GB hr ⟨ok.1, ok.2.1, by first | (simp [asc]; done) | (simp [asc]; omega), by simp⟩ (by show 3 ≤ 100000; decide) fun p2 H2 hp2 sb2 bi2 => ?_
      walk_at "go"
      refine ⟨by show 1 ≤ sizeLine; decide, fun l2 hl2 => ?_⟩
      have sk2 := ((sk1).trans sb2).trans (same_new (o := .lst [.ref p2]) hl2)
      have bk2 := bi2.same (same_new (o := .lst [.ref p2]) hl2)
      have ek2 : (upd H2 l2 (.lst [.ref p2])) l2 = some (.lst [.ref p2]) := upd_same
      generalize upd H2 l2 (.lst [.ref p2]) = G2 at *
      walk_at "go"
      refine s_lenT (SqT.of ((sk2) _ _ h2)) ?_
      walk_at "go"
      refine iteF' rfl ?_
      walk_at "go"
      refine s_lenT (SqT.of ((sk2) _ _ h2)) ?_
      walk_at "go"
      refine iteF' rfl ?_
      walk_at "go"
      refine s_lenT (SqT.of ((sk2) _ _ h2)) ?_
      walk_at "go"
      refine iteF' rfl ?_
      walk_at "go"
      refine s_lenT (SqT.of ((sk2) _ _ h2)) ?_
      walk_at "go"
      refine iteF' rfl ?_
      walk_at "go"
      refine s_lenT (SqT.of ((sk2) _ _ h2)) ?_
      walk_at "go"
      refine iteF' rfl ?_
      walk_at "go"
      refine s_ixL (SqL.of ek2) (v := .ref p2) rfl ?_
      exact q _ _ sk2 bk2
    · have hasc := ok.2.2.1
      simp only [asc, Bool.and_eq_true, decide_eq_true_eq, Bool.and_true] at hasc
      walk_at "go"
      refine s_ixT (SqT.of ((Same.refl H) _ _ h2)) (v := .int s0) rfl ?_
      walk_at "go"
      refine s_bill (i := amt) (ss := [s0]) T GB hr ⟨ok.1, ok.2.1, by first | (simp [asc]; done) | (simp [asc]; omega), by simp⟩ (by show 1 ≤ 100000; decide) fun p1 H1 hp1 sb1 bi1 => ?_
      walk_at "go"
      refine ⟨by show 1 ≤ sizeLine; decide, fun l1 hl1 => ?_⟩
      have sk1 := ((Same.refl H).trans sb1).trans (same_new (o := .lst [.ref p1]) hl1)
      have bk1 := bi1.same (same_new (o := .lst [.ref p1]) hl1)
      have ek1 : (upd H1 l1 (.lst [.ref p1])) l1 = some (.lst [.ref p1]) := upd_same
      generalize upd H1 l1 (.lst [.ref p1]) = G1 at *
      walk_at "go"
      refine s_lenT (SqT.of ((sk1) _ _ h2)) ?_
      walk_at "go"
      refine iteF' rfl ?_
      walk_at "go"
      refine s_lenT (SqT.of ((sk1) _ _ h2)) ?_
      walk_at "go"
      refine iteF' rfl ?_
      walk_at "go"
      refine s_lenT (SqT.of ((sk1) _ _ h2)) ?_
      walk_at "go"
      refine iteT' rfl ?_
      walk_at "go"
      refine s_ixT (SqT.of ((sk1) _ _ h2)) (v := .int s0) rfl ?_
      walk_at "go"
      refine s_ixT (SqT.of ((sk1) _ _ h2)) (v := .int s1) rfl ?_
      walk_at "go"
      refine s_ixT (SqT.of ((sk1) _ _ h2)) (v := .int s2) rfl ?_
      walk_at "go"
      refine s_ixT (SqT.of ((sk1) _ _ h2)) (v := .int s3) rfl ?_
      walk_at "go"
      refine s_bill (i := amt) (ss := [s0, s1, s2, s3]) T GB hr ⟨ok.1, ok.2.1, by first | (simp [asc]; done) | (simp [asc]; omega), by simp⟩ (by show 4 ≤ 100000; decide) fun p2 H2 hp2 sb2 bi2 => ?_
      walk_at "go"
      refine ⟨by show 1 ≤ sizeLine; decide, fun l2 hl2 => ?_⟩
      have sk2 := ((sk1).trans sb2).trans (same_new (o := .lst [.ref p2]) hl2)
      have bk2 := bi2.same (same_new (o := .lst [.ref p2]) hl2)
      have ek2 : (upd H2 l2 (.lst [.ref p2])) l2 = some (.lst [.ref p2]) := upd_same
      generalize upd H2 l2 (.lst [.ref p2]) = G2 at *
      walk_at "go"
      refine s_lenT (SqT.of ((sk2) _ _ h2)) ?_
      walk_at "go"
      refine iteF' rfl ?_
      walk_at "go"
      refine s_lenT (SqT.of ((sk2) _ _ h2)) ?_
      walk_at "go"
      refine iteF' rfl ?_
      walk_at "go"
      refine s_lenT (SqT.of ((sk2) _ _ h2)) ?_
      walk_at "go"
      refine iteF' rfl ?_
      walk_at "go"
      refine s_lenT (SqT.of ((sk2) _ _ h2)) ?_
      walk_at "go"
      refine iteF' rfl ?_
      walk_at "go"
      refine s_ixL (SqL.of ek2) (v := .ref p2) rfl ?_
      exact q _ _ sk2 bk2
    · have hasc := ok.2.2.1
      simp only [asc, Bool.and_eq_true, decide_eq_true_eq, Bool.and_true] at hasc
      walk_at "go"
      refine s_ixT (SqT.of ((Same.refl H) _ _ h2)) (v := .int s0) rfl ?_
      walk_at "go"
      refine s_bill (i := amt) (ss := [s0]) T GB hr ⟨ok.1, ok.2.1, by first | (simp [asc]; done) | (simp [asc]; omega), by simp⟩ (by show 1 ≤ 100000; decide) fun p1 H1 hp1 sb1 bi1 => ?_
      walk_at "go"
      refine ⟨by show 1 ≤ sizeLine; decide, fun l1 hl1 => ?_⟩
      have sk1 := ((Same.refl H).trans sb1).trans (same_new (o := .lst [.ref p1]) hl1)
      have bk1 := bi1.same (same_new (o := .lst [.ref p1]) hl1)
      have ek1 : (upd H1 l1 (.lst [.ref p1])) l1 = some (.lst [.ref p1]) := upd_same
      generalize upd H1 l1 (.lst [.ref p1]) = G1 at *
      walk_at "go"
      refine s_lenT (SqT.of ((sk1) _ _ h2)) ?_
      walk_at "go"
      refine iteF' rfl ?_
      walk_at "go"
      refine s_lenT (SqT.of ((sk1) _ _ h2)) ?_
      walk_at "go"
      refine iteF' rfl ?_
      walk_at "go"
      refine s_lenT (SqT.of ((sk1) _ _ h2)) ?_
      walk_at "go"
      refine iteF' rfl ?_
      walk_at "go"
      refine s_lenT (SqT.of ((sk1) _ _ h2)) ?_
      walk_at "go"
      refine iteT' rfl ?_
      walk_at "go"
      refine s_ixT (SqT.of ((sk1) _ _ h2)) (v := .int s0) rfl ?_
      walk_at "go"
      refine s_ixT (SqT.of ((sk1) _ _ h2)) (v := .int s1) rfl ?_
      walk_at "go"
      refine s_ixT (SqT.of ((sk1) _ _ h2)) (v := .int s2) rfl ?_
      walk_at "go"
      refine s_ixT (SqT.of ((sk1) _ _ h2)) (v := .int s3) rfl ?_
      walk_at "go"
      refine s_ixT (SqT.of ((sk1) _ _ h2)) (v := .int s4) rfl ?_
      walk_at "go"
      refine s_bill (i := amt) (ss := [s0, s1, s2, s3, s4]) T GB hr ⟨ok.1, ok.2.1, by first | (simp [asc]; done) | (simp [asc]; omega), by simp⟩ (by show 5 ≤ 100000; decide) fun p2 H2 hp2 sb2 bi2 => ?_
      walk_at "go"
      refine ⟨by show 1 ≤ sizeLine; decide, fun l2 hl2 => ?_⟩
      have sk2 := ((sk1).trans sb2).trans (same_new (o := .lst [.ref p2]) hl2)
      have bk2 := bi2.same (same_new (o := .lst [.ref p2]) hl2)
      have ek2 : (upd H2 l2 (.lst [.ref p2])) l2 = some (.lst [.ref p2]) := upd_same
      generalize upd H2 l2 (.lst [.ref p2]) = G2 at *
      walk_at "go"
      refine s_lenT (SqT.of ((sk2) _ _ h2)) ?_
      walk_at "go"
      refine iteF' rfl ?_
      walk_at "go"
      refine s_lenT (SqT.of ((sk2) _ _ h2)) ?_
      walk_at "go"
      refine iteF' rfl ?_
      walk_at "go"
      refine s_lenT (SqT.of ((sk2) _ _ h2)) ?_
      walk_at "go"
      refine iteF' rfl ?_
      walk_at "go"
      refine s_ixL (SqL.of ek2) (v := .ref p2) rfl ?_
      exact q _ _ sk2 bk2
    · have hasc := ok.2.2.1
      simp only [asc, Bool.and_eq_true, decide_eq_true_eq, Bool.and_true] at hasc
      walk_at "go"
      refine s_ixT (SqT.of ((Same.refl H) _ _ h2)) (v := .int s0) rfl ?_
      walk_at "go"
      refine s_bill (i := amt) (ss := [s0]) T GB hr ⟨ok.1, ok.2.1, by first | (simp [asc]; done) | (simp [asc]; omega), by simp⟩ (by show 1 ≤ 100000; decide) fun p1 H1 hp1 sb1 bi1 => ?_
      walk_at "go"
      refine ⟨by show 1 ≤ sizeLine; decide, fun l1 hl1 => ?_⟩
      have sk1 := ((Same.refl H).trans sb1).trans (same_new (o := .lst [.ref p1]) hl1)
      have bk1 := bi1.same (same_new (o := .lst [.ref p1]) hl1)
      have ek1 : (upd H1 l1 (.lst [.ref p1])) l1 = some (.lst [.ref p1]) := upd_same
      generalize upd H1 l1 (.lst [.ref p1]) = G1 at *
      walk_at "go"
      refine s_lenT (SqT.of ((sk1) _ _ h2)) ?_
      walk_at "go"
      refine iteF' rfl ?_
      walk_at "go"
      refine s_lenT (SqT.of ((sk1) _ _ h2)) ?_
      walk_at "go"
      refine iteF' rfl ?_
      walk_at "go"
      refine s_lenT (SqT.of ((sk1) _ _ h2)) ?_
      walk_at "go"
      refine iteF' rfl ?_
      walk_at "go"
      refine s_lenT (SqT.of ((sk1) _ _ h2)) ?_
      walk_at "go"
      refine iteF' rfl ?_
      walk_at "go"
      refine s_lenT (SqT.of ((sk1) _ _ h2)) ?_
      walk_at "go"
      refine iteT' rfl ?_
      walk_at "go"
      refine s_ixT (SqT.of ((sk1) _ _ h2)) (v := .int s0) rfl ?_
      walk_at "go"
      refine s_ixT (SqT.of ((sk1) _ _ h2)) (v := .int s1) rfl ?_
      walk_at "go"
      refine s_ixT (SqT.of ((sk1) _ _ h2)) (v := .int s2) rfl ?_
      walk_at "go"
      refine s_ixT (SqT.of ((sk1) _ _ h2)) (v := .int s3) rfl ?_
      walk_at "go"
      refine s_ixT (SqT.of ((sk1) _ _ h2)) (v := .int s4) rfl ?_
      walk_at "go"
      refine s_ixT (SqT.of ((sk1) _ _ h2)) (v := .int s5) rfl ?_
      walk_at "go"
      refine s_bill (i := amt) (ss := [s0, s1, s2, s3, s4, s5]) T GB hr ⟨ok.1, ok.2.1, by first | (simp [asc]; done) | (simp [asc]; omega), by simp⟩ (by show 6 ≤ 100000; decide) fun p2 H2 hp2 sb2 bi2 => ?_
      walk_at "go"
      refine ⟨by show 1 ≤ sizeLine; decide, fun l2 hl2 => ?_⟩
      have sk2 := ((sk1).trans sb2).trans (same_new (o := .lst [.ref p2]) hl2)
      have bk2 := bi2.same (same_new (o := .lst [.ref p2]) hl2)
      have ek2 : (upd H2 l2 (.lst [.ref p2])) l2 = some (.lst [.ref p2]) := upd_same
      generalize upd H2 l2 (.lst [.ref p2]) = G2 at *
      walk_at "go"
      refine s_lenT (SqT.of ((sk2) _ _ h2)) ?_
      walk_at "go"
      refine iteF' rfl ?_
      walk_at "go"
      refine s_lenT (SqT.of ((sk2) _ _ h2)) ?_
      walk_at "go"
      refine iteF' rfl ?_
      walk_at "go"
      refine s_ixL (SqL.of ek2) (v := .ref p2) rfl ?_
      exact q _ _ sk2 bk2
    · have hasc := ok.2.2.1
      simp only [asc, Bool.and_eq_true, decide_eq_true_eq, Bool.and_true] at hasc
      walk_at "go"
      refine s_ixT (SqT.of ((Same.refl H) _ _ h2)) (v := .int s0) rfl ?_
      walk_at "go"
      refine s_bill (i := amt) (ss := [s0]) T GB hr ⟨ok.1, ok.2.1, by first | (simp [asc]; done) | (simp [asc]; omega), by simp⟩ (by show 1 ≤ 100000; decide) fun p1 H1 hp1 sb1 bi1 => ?_
      walk_at "go"
      refine ⟨by show 1 ≤ sizeLine; decide, fun l1 hl1 => ?_⟩
      have sk1 := ((Same.refl H).trans sb1).trans (same_new (o := .lst [.ref p1]) hl1)
      have bk1 := bi1.same (same_new (o := .lst [.ref p1]) hl1)
      have ek1 : (upd H1 l1 (.lst [.ref p1])) l1 = some (.lst [.ref p1]) := upd_same
      generalize upd H1 l1 (.lst [.ref p1]) = G1 at *
      walk_at "go"
      refine s_lenT (SqT.of ((sk1) _ _ h2)) ?_
      walk_at "go"
      refine iteF' rfl ?_
      walk_at "go"
      refine s_lenT (SqT.of ((sk1) _ _ h2)) ?_
      walk_at "go"
      refine iteF' rfl ?_
      walk_at "go"
      refine s_lenT (SqT.of ((sk1) _ _ h2)) ?_
      walk_at "go"
      refine iteF' rfl ?_
      walk_at "go"
      refine s_lenT (SqT.of ((sk1) _ _ h2)) ?_
      walk_at "go"
      refine iteF' rfl ?_
      walk_at "go"
      refine s_lenT (SqT.of ((sk1) _ _ h2)) ?_
      walk_at "go"
      refine iteF' rfl ?_
      walk_at "go"
      refine s_lenT (SqT.of ((sk1) _ _ h2)) ?_
      walk_at "go"
      refine iteT' rfl ?_
      walk_at "go"
      refine s_ixT (SqT.of ((sk1) _ _ h2)) (v := .int s0) rfl ?_
      walk_at "go"
      refine s_ixT (SqT.of ((sk1) _ _ h2)) (v := .int s1) rfl ?_
      walk_at "go"
      refine s_ixT (SqT.of ((sk1) _ _ h2)) (v := .int s2) rfl ?_
      walk_at "go"
      refine s_ixT (SqT.of ((sk1) _ _ h2)) (v := .int s3) rfl ?_
      walk_at "go"
      refine s_ixT (SqT.of ((sk1) _ _ h2)) (v := .int s4) rfl ?_
      walk_at "go"
      refine s_ixT (SqT.of ((sk1) _ _ h2)) (v := .int s5) rfl ?_
      walk_at "go"
      refine s_ixT (SqT.of ((sk1) _ _ h2)) (v := .int s6) rfl ?_
      walk_at "go"
      refine s_bill (i := amt) (ss := [s0, s1, s2, s3, s4, s5, s6]) T GB hr ⟨ok.1, ok.2.1, by first | (simp [asc]; done) | (simp [asc]; omega), by simp⟩ (by show 7 ≤ 100000; decide) fun p2 H2 hp2 sb2 bi2 => ?_
      walk_at "go"
      refine ⟨by show 1 ≤ sizeLine; decide, fun l2 hl2 => ?_⟩
      have sk2 := ((sk1).trans sb2).trans (same_new (o := .lst [.ref p2]) hl2)
      have bk2 := bi2.same (same_new (o := .lst [.ref p2]) hl2)
      have ek2 : (upd H2 l2 (.lst [.ref p2])) l2 = some (.lst [.ref p2]) := upd_same
      generalize upd H2 l2 (.lst [.ref p2]) = G2 at *
      walk_at "go"
      refine s_lenT (SqT.of ((sk2) _ _ h2)) ?_
      walk_at "go"
      refine iteF' rfl ?_
      walk_at "go"
      refine s_ixL (SqL.of ek2) (v := .ref p2) rfl ?_
      exact q _ _ sk2 bk2
    · have hasc := ok.2.2.1
      simp only [asc, Bool.and_eq_true, decide_eq_true_eq, Bool.and_true] at hasc
      walk_at "go"
      refine s_ixT (SqT.of ((Same.refl H) _ _ h2)) (v := .int s0) rfl ?_
      walk_at "go"
      refine s_bill (i := amt) (ss := [s0]) T GB hr ⟨ok.1, ok.2.1, by first | (simp [asc]; done) | (simp [asc]; omega), by simp⟩ (by show 1 ≤ 100000; decide) fun p1 H1 hp1 sb1 bi1 => ?_
      walk_at "go"
      refine ⟨by show 1 ≤ sizeLine; decide, fun l1 hl1 => ?_⟩
      have sk1 := ((Same.refl H).trans sb1).trans (same_new (o := .lst [.ref p1]) hl1)
      have bk1 := bi1.same (same_new (o := .lst [.ref p1]) hl1)
      have ek1 : (upd H1 l1 (.lst [.ref p1])) l1 = some (.lst [.ref p1]) := upd_same
      generalize upd H1 l1 (.lst [.ref p1]) = G1 at *
      walk_at "go"
      refine s_lenT (SqT.of ((sk1) _ _ h2)) ?_
      walk_at "go"
      refine iteF' rfl ?_
      walk_at "go"
      refine s_lenT (SqT.of ((sk1) _ _ h2)) ?_
      walk_at "go"
      refine iteF' rfl ?_
      walk_at "go"
      refine s_lenT (SqT.of ((sk1) _ _ h2)) ?_
      walk_at "go"
      refine iteF' rfl ?_
      walk_at "go"
      refine s_lenT (SqT.of ((sk1) _ _ h2)) ?_
      walk_at "go"
      refine iteF' rfl ?_
      walk_at "go"
      refine s_lenT (SqT.of ((sk1) _ _ h2)) ?_
      walk_at "go"
      refine iteF' rfl ?_
      walk_at "go"
      refine s_lenT (SqT.of ((sk1) _ _ h2)) ?_
      walk_at "go"
      refine iteT' rfl ?_
      walk_at "go"
      refine s_ixT (SqT.of ((sk1) _ _ h2)) (v := .int s0) rfl ?_
      walk_at "go"
      refine s_ixT (SqT.of ((sk1) _ _ h2)) (v := .int s1) rfl ?_
      walk_at "go"
      refine s_ixT (SqT.of ((sk1) _ _ h2)) (v := .int s2) rfl ?_
      walk_at "go"
      refine s_ixT (SqT.of ((sk1) _ _ h2)) (v := .int s3) rfl ?_
      walk_at "go"
      refine s_ixT (SqT.of ((sk1) _ _ h2)) (v := .int s4) rfl ?_
      walk_at "go"
      refine s_ixT (SqT.of ((sk1) _ _ h2)) (v := .int s5) rfl ?_
      walk_at "go"
      refine s_ixT (SqT.of ((sk1) _ _ h2)) (v := .int s6) rfl ?_
      walk_at "go"
      refine s_bill (i := amt) (ss := [s0, s1, s2, s3, s4, s5, s6]) T GB hr ⟨ok.1, ok.2.1, by first | (simp [asc]; done) | (simp [asc]; omega), by simp⟩ (by show 7 ≤ 100000; decide) fun p2 H2 hp2 sb2 bi2 => ?_
      walk_at "go"
      refine ⟨by show 1 ≤ sizeLine; decide, fun l2 hl2 => ?_⟩
      have sk2 := ((sk1).trans sb2).trans (same_new (o := .lst [.ref p2]) hl2)
      have bk2 := bi2.same (same_new (o := .lst [.ref p2]) hl2)
      have ek2 : (upd H2 l2 (.lst [.ref p2])) l2 = some (.lst [.ref p2]) := upd_same
      generalize upd H2 l2 (.lst [.ref p2]) = G2 at *
      walk_at "go"
      refine s_lenT (SqT.of ((sk2) _ _ h2)) ?_
      walk_at "go"
      refine iteT' rfl ?_
      walk_at "go"
      refine s_bill (i := amt) (ss := [0, 1, 2, 3, 4, 5, 6, 7]) T GB hr ⟨ok.1, ok.2.1, by first | (simp [asc]; done) | (simp [asc]; omega), by simp⟩ (by show 8 ≤ 100000; decide) fun p3 H3 hp3 sb3 bi3 => ?_
      walk_at "go"
      refine ⟨by show 1 ≤ sizeLine; decide, fun l3 hl3 => ?_⟩
      have sk3 := ((sk2).trans sb3).trans (same_new (o := .lst [.ref p3]) hl3)
      have bk3 := bi3.same (same_new (o := .lst [.ref p3]) hl3)
      have ek3 : (upd H3 l3 (.lst [.ref p3])) l3 = some (.lst [.ref p3]) := upd_same
      generalize upd H3 l3 (.lst [.ref p3]) = G3 at *
      walk_at "go"
      refine s_ixL (SqL.of ek3) (v := .ref p3) rfl ?_
      have e8 : (amt, ([s0, s1, s2, s3, s4, s5, s6, s7] : List Int)) = (amt, [0, 1, 2, 3, 4, 5, 6, 7]) := by
        congr 1
        obtain rfl : s0 = 0 := by omega
        obtain rfl : s1 = 1 := by omega
        obtain rfl : s2 = 2 := by omega
        obtain rfl : s3 = 3 := by omega
        obtain rfl : s4 = 4 := by omega
        obtain rfl : s5 = 5 := by omega
        obtain rfl : s6 = 6 := by omega
        obtain rfl : s7 = 7 := by omega
        rfl
      rw [e8] at q
      exact q _ _ sk3 bk3
    · first | (simp at hl8; done) | (simp at hl8; omega)
end

section
variable {P : Program} {w : World} {K : PySem.W.Frag} {mg : Str → Option Value} {base : Heap} {a : Ad}
theorem okEv_take {n : Nat} {bs : List (Int × List Int)} (h : OkEv n bs) (k : Nat) : OkEv n (bs.take k) := ⟨h.1, h.2.1, by rw [List.length_take]; have := h.2.2.1; omega, fun b hb => h.2.2.2 b (List.mem_of_mem_take hb)⟩
theorem okEv_one {n : Nat} {bs : List (Int × List Int)} {b : Int × List Int} (h : OkEv n bs) (hb : b ∈ bs) : OkEv n [b] := ⟨h.1, h.2.1, by show 1 ≤ 30; decide, fun c hc => by rw [List.mem_singleton.1 hc]; exact h.2.2.2 b hb⟩
def spEve (CE CB : Addr) : Sp := fun vs H Q _ => ∃ (n : Nat) (p : Addr) (rs : List Addr) (rows : List (Int × List Int)), vs = [.int n, .ref p] ∧ H p = some (.lst (rs.map V.ref)) ∧ RowsAt H rs rows ∧ OkEv n rows ∧
  ∀ r H', Same H H' → EvAt CE CB H' r n rows → Q (.ref r) H'
theorem ok_eve (T : Facts K mg a) : FnR P w K mg base (L2.CX P w) 7 a.f__law_evening (spEve a.c_Evening a.c_Bill) := by
  obtain ⟨fd, F⟩ := T.u__law_evening
  have GI : FnR P w K mg base (L2.CX P w) 4 a.f_Evening__init_ (InitE a.c_Evening a.c_Bill) := ok_ev_init T
  have GB : FnR P w K mg base (L2.CX P w) 5 a.f__law_bill (spBill a.c_Bill) := ok_bill T
  have GA : FnR P w K mg base (L2.CX P w) 6 a.f_Evening__add_ (spEvAdd a.c_Evening a.c_Bill) := ok_ev_add T
  refine fnr_ok F sc__law_evening (F.binds fun _ _ _ _ _ _ us hl => match us, hl with | [_, _], _ => rfl) (fun vs H Q E h => ?_) (fun cdv A outer s H vs Q E hr h => ?_)
  · obtain ⟨n, p, rs, rows, rfl, _⟩ := h
    rfl
  · obtain ⟨n, p, rs, rows, rfl, hp, hrw, ok, q⟩ := h
    refine ⟨_, (pss_cons (ps_set (i := 2) sc__law_evening.nd rfl (Or.inl rfl) (pe_glA Like.refl pas_main (by rfl) (pa_cons (pv 0) pa_nil)))
    (pss_cons (ps_for own_main rfl (pi_seqA Like.refl (pv 1)) (pg_name (i := 3) sc__law_evening.nd rfl (Or.inl rfl)) (pss_one (ps_set (i := 2) sc__law_evening.nd rfl (Or.inl rfl) (pe_opA Like.refl pas_main (pv 2) (pe_glA Like.refl pas_main (by rfl) (pa_cons (pv 0) (pa_cons (pe_glA Like.refl pas_main (by rfl) (pa_cons (pv 3) pa_nil)) pa_nil)))))))
    (pss_one (ps_ret (pv 2))))), ?_⟩
    walk_at "go"
    refine s_evening (ps := []) (bs := []) T GI (hr.mono (by decide)) ⟨rfl, fun i p b z => by simp at z⟩ ⟨ok.1, ok.2.1, by decide, fun b z => by simp at z⟩ fun e1 H1 he1 s1 ev1 => ?_
    walk_at "go"
    refine f_lst (a := p) (xs := rs.map V.ref) (fun k σ H' => Same H H' ∧ ∃ e x, σ = [some (.int n), some (.ref p), some (.ref e), x] ∧ EvAt a.c_Evening a.c_Bill H' e n (rows.take k)) (fun R k => ?_) ⟨s1, e1, none, rfl, by rw [List.take_zero]; exact ev1⟩ (fun k σ H' _ pv => SqL.of (pv.1 _ _ hp)) (fun k x σ H' hx pv => ?_) (fun σ H' pv => ?_)
    · walk_at "go"
      exact k
    · obtain ⟨s2, e, x3, rfl, ev⟩ := pv
      rw [List.getElem?_map] at hx
      cases er : rs[k]? with
      | none => rw [er] at hx; cases hx
      | some r =>
        rw [er] at hx
        cases hx
        obtain ⟨hk, _⟩ := List.getElem?_eq_some_iff.1 er
        have hk2 : k < rows.length := by rw [← hrw.1]; exact hk
        have eb := List.getElem?_eq_getElem hk2
        have hm : rows[k] ∈ rows := List.getElem_mem hk2
        obtain ⟨t, h1, h2⟩ := hrw.2 k r _ er eb
        refine w_name ?_
        walk_at "go"
        refine s_fn GB (hr.mono (by decide)) ⟨r, rows[k], rfl, ⟨t, s2 _ _ h1, s2 _ _ h2⟩, (ok.2.2.2 _ hm).1, fun p2 H2 s3 bi => ?_⟩
        walk_at "go"
        refine s_evening (ps := [p2]) (bs := [rows[k]]) T GI (hr.mono (by decide)) ⟨rfl, fun i p b z1 z2 => ?_⟩ (okEv_one ok hm) fun e2 H3 he2 s4 ev2 => ?_
        · cases i with
          | zero => cases z1; cases z2; exact bi
          | succ i => simp at z1
        · obtain ⟨d1, t1, p1, i1, i2, i3⟩ := id ev
          obtain ⟨d2, t2, p2, j1, j2, j3⟩ := id ev2
          have e3 : rows.take (k + 1) = rows.take k ++ [rows[k]] := by rw [List.take_add_one, eb]; rfl
          refine s_opSame T.sf_Evening T.m_Evening__add_ (by decide +kernel) GA hr ((s3.trans s4) _ _ i1) j1 ⟨e, e2, n, _, _, rfl, ev.same (s3.trans s4), ev2, by rw [← e3]; exact okEv_take ok _, fun r4 H4 hr4 s5 ev4 => ?_⟩
          walk_at "go"
          exact ⟨((s2.trans s3).trans s4).trans s5, r4, _, rfl, by rw [e3]; exact ev4⟩
    · obtain ⟨s2, e, x3, rfl, ev⟩ := pv
      rw [List.length_map, hrw.1, List.take_of_length_le (Nat.le_refl _)] at ev
      walk_at "go"
      exact q e H' s2 ev
end

end Odd

namespace Odd
open PySem PySem.Spec PyProof.Rows L2
/-! tactics of this text: st one step, go as many as go -/
local macro_rules | `(tactic| walk_at "ar") => `(tactic| first | assumption | omega | (show (_ : Int) < _; omega) | decide)
local macro_rules | `(tactic| walk_at "st") => `(tactic| first
  | with_reducible refine' w_seq ?_
  | with_reducible refine' w_asg ?_
  | with_reducible refine' w_name ?_
  | with_reducible refine' w_c ?_
  | with_reducible refine' w_op ?_
  | with_reducible refine' w_ix ?_
  | with_reducible refine' w_at ?_
  | with_reducible refine' w_cons ?_
  | with_reducible refine' w_nil ?_
  | with_reducible refine' w_ret ?_
  | with_reducible refine' w_if ?_
  | with_reducible refine' w_test ?_
  | with_reducible refine' w_tr ?_
  | with_reducible refine' w_un ?_
  | with_reducible refine' w_andV ?_
  | with_reducible refine' w_orV ?_
  | with_reducible refine' w_notA ?_
  | with_reducible refine' w_ch ?_
  | with_reducible refine' w_and ?_
  | with_reducible refine' w_or ?_
  | with_reducible refine' w_not ?_
  | with_reducible refine' w_ifx ?_
  | with_reducible refine' w_tup ?_
  | with_reducible refine' w_lst ?_
  | with_reducible refine' w_next ?_
  | with_reducible refine' w_drop ?_
  | with_reducible refine' w_retN ?_
  | ((with_reducible refine' w_var ?h ?_); (case h => exact rfl))
  | ((with_reducible refine' w_bi ?h ?_); (case h => walk_at "mg"))
  | ((with_reducible refine' w_bv ?h ?_); (case h => walk_at "mg"))
  | ((with_reducible refine' w_gv ?h ?_); (case h => walk_at "mg"))
  | ((with_reducible refine' w_gl ?h ?k ?_); (case h => walk_at "mg"); (case k => walk_at "kp"))
  | ((with_reducible refine' w_glS ?h ?k ?_); (case h => walk_at "mg"); (case k => walk_at "kp"))
  | with_reducible refine' bl_ex ?_
  | with_reducible refine' iteT ?_
  | with_reducible refine' iteF ?_
  | with_reducible refine' ite_nf ?_
  | with_reducible refine' ite_nt ?_
  | with_reducible refine' s_add ?_
  | with_reducible refine' s_sub ?_
  | with_reducible refine' s_lt ?_
  | with_reducible refine' s_le ?_
  | with_reducible refine' s_gt ?_
  | with_reducible refine' s_ge ?_
  | with_reducible refine' s_eqI ?_
  | with_reducible refine' s_neI ?_
  | with_reducible refine' s_eqB ?_
  | with_reducible refine' s_neB ?_
  | with_reducible refine' s_truB ?_
  | with_reducible refine' s_truI ?_
  | with_reducible refine' s_neg ?_
  | ((with_reducible refine' s_mod ?h ?_); (case h => walk_at "ar")))
local macro_rules | `(tactic| walk_at "go") => `(tactic| repeat walk_at "st")

local macro_rules | `(tactic| walk_at "mg") => `(tactic| first | assumption | exact Facts.z_TypeError (by assumption) | exact Facts.z_bool (by assumption) | exact Facts.z_classmethod (by assumption) | exact Facts.z_enumerate (by assumption) | exact Facts.z_int (by assumption) | exact Facts.z_isinstance (by assumption) | exact Facts.z_len (by assumption) | exact Facts.z_list (by assumption) | exact Facts.z_max (by assumption) | exact Facts.z_min (by assumption) | exact Facts.z_property (by assumption) | exact Facts.z_range (by assumption) | exact Facts.z_super (by assumption) | exact Facts.z_tuple (by assumption) | exact Facts.z_zip (by assumption) | exact Facts.g__wall (by assumption) | exact Facts.g_is_between (by assumption) | exact Facts.g_check_amount (by assumption) | exact Facts.g_check_seats (by assumption) | exact Facts.g_check_seat_count (by assumption) | exact Facts.g_check_bills (by assumption) | exact Facts.g_check_mark (by assumption) | exact Facts.g_check_times (by assumption) | exact Facts.g_no_shares (by assumption) | exact Facts.g_seats_behind (by assumption) | exact Facts.g_split_bill (by assumption) | exact Facts.g_twice (by assumption) | exact Facts.g_repeated (by assumption) | exact Facts.g_lowest_terms (by assumption) | exact Facts.g_long_run (by assumption) | exact Facts.g__law_start (by assumption) | exact Facts.g__law_drawn (by assumption) | exact Facts.g__law_same (by assumption) | exact Facts.g__law_outcome (by assumption) | exact Facts.g__law_rows (by assumption) | exact Facts.g__law_bill (by assumption) | exact Facts.g__law_evening (by assumption) | exact Facts.g__law_fault (by assumption) | exact Facts.g__law_is_bill (by assumption) | exact Facts.g__law_refused (by assumption) | exact Facts.g_law (by assumption) | exact Facts.g_Shares (by assumption) | exact Facts.g_Bill (by assumption) | exact Facts.g_Evening (by assumption))
local macro_rules | `(tactic| walk_at "kp") => `(tactic| first | assumption | exact (Facts.mk_Shares (by assumption)).kp | exact (Facts.mk_Bill (by assumption)).kp | exact (Facts.mk_Evening (by assumption)).kp | exact Fun.kp (Facts.u__wall (by assumption)).choose_spec | exact Fun.kp (Facts.u_is_between (by assumption)).choose_spec | exact Fun.kp (Facts.u_check_amount (by assumption)).choose_spec | exact Fun.kp (Facts.u_check_seats (by assumption)).choose_spec | exact Fun.kp (Facts.u_check_seat_count (by assumption)).choose_spec | exact Fun.kp (Facts.u_check_bills (by assumption)).choose_spec | exact Fun.kp (Facts.u_check_mark (by assumption)).choose_spec | exact Fun.kp (Facts.u_check_times (by assumption)).choose_spec | exact Fun.kp (Facts.u_no_shares (by assumption)).choose_spec | exact Fun.kp (Facts.u_seats_behind (by assumption)).choose_spec | exact Fun.kp (Facts.u_split_bill (by assumption)).choose_spec | exact Fun.kp (Facts.u_twice (by assumption)).choose_spec | exact Fun.kp (Facts.u_repeated (by assumption)).choose_spec | exact Fun.kp (Facts.u_lowest_terms (by assumption)).choose_spec | exact Fun.kp (Facts.u_long_run (by assumption)).choose_spec | exact Fun.kp (Facts.u__law_start (by assumption)).choose_spec | exact Fun.kp (Facts.u__law_drawn (by assumption)).choose_spec | exact Fun.kp (Facts.u__law_same (by assumption)).choose_spec | exact Fun.kp (Facts.u__law_outcome (by assumption)).choose_spec | exact Fun.kp (Facts.u__law_rows (by assumption)).choose_spec | exact Fun.kp (Facts.u__law_bill (by assumption)).choose_spec | exact Fun.kp (Facts.u__law_evening (by assumption)).choose_spec | exact Fun.kp (Facts.u__law_fault (by assumption)).choose_spec | exact Fun.kp (Facts.u__law_is_bill (by assumption)).choose_spec | exact Fun.kp (Facts.u__law_refused (by assumption)).choose_spec | exact Fun.kp (Facts.u_law (by assumption)).choose_spec)
/-! ### evenings that are refused -/
section
variable {P : Program} {w : World} {K : PySem.W.Frag} {mg : Str → Option Value} {base : Heap} {a : Ad}
/-- an error with an index is let out -/
abbrev ExIx (E : XK) (C : Addr) (i : Int) (H : Hp) : Prop := ∀ d H', H d = none → Same H H' → H' d = some (.xd [(("index" : Str), V.int i)]) → E (.ref C) (some d) H'
theorem ExIx.up {E : XK} {C : Addr} {i : Int} {H H1 : Hp} (h : ExIx E C i H) (s : Same H H1) : ExIx E C i H1 := fun d H' h1 h2 h3 => h d H' (s.free h1) (s.trans h2) h3
theorem s_btwN {X0 : Cx} {E : XK} {H : Hp} {Q : VK} {i lo hi : Int} (GB : Fn X0 1 a.f_is_between spBetween) (hr : Room 1 X0.A) (h : ¬ (lo ≤ i ∧ i ≤ hi)) (q : Q (.bl false) H) : ∃ r, CaD X0 E (.ref a.f_is_between) r ∧ r [.int i, .int lo, .int hi] H Q :=
  s_fn GB hr ⟨i, lo, hi, rfl, by
    have e : (decide (lo ≤ i) && decide (i ≤ hi)) = false := by
      rw [Bool.and_eq_false_iff, decide_eq_false_iff_not, decide_eq_false_iff_not]
      omega
    rw [e]; exact q⟩
theorem ix_small {k : Nat} (h : k < 31) : ((k : Nat) : Int) < 10 ^ 6 := by
  have e6 : (10 : Int) ^ 6 = 1000000 := by decide
  omega
def spCountX (a : Ad) : Sp := fun vs H _ E => ∃ n : Int, vs = [.int n] ∧ ¬ (2 ≤ n ∧ n ≤ 8) ∧ ExIx E a.c_InvalidEvening (-1) H
theorem ok_countX (T : Facts K mg a) (SP : SupP P mainF) : FnR P w K mg base (L2.CX P w) 5 a.f_check_seat_count (spCountX a) := by
  obtain ⟨fd, F⟩ := T.u_check_seat_count
  have GB : FnR P w K mg base (L2.CX P w) 1 a.f_is_between spBetween := ok_between T
  refine fnr_ok F sc_check_seat_count (F.binds fun _ _ _ _ _ _ us hl => match us, hl with | [_], _ => rfl) (fun vs H Q E h => ?_) (fun cdv A outer s H vs Q E hr h => ?_)
  · obtain ⟨n, rfl, _⟩ := h
    rfl
  · obtain ⟨n, rfl, hn, e⟩ := h
    refine ⟨_, (pss_one (ps_if (pt_not (pt_trA Like.refl pas_main (pe_glA Like.refl pas_main (by rfl) (pa_cons (pv 0) (pa_cons (pe_gvI Like.refl (by rfl)) (pa_cons (pe_atA Like.refl pas_main (pe_gvA Like.refl (by rfl))) pa_nil)))))) (pss_one (ps_raK (ks := [("index" : Str)]) rfl tk_main pas0 (by rfl) (pk_cons (pe_unA Like.refl pas_main (pe_int)) pk_nil))) pss_nil)), ?_⟩
    walk_at "go"
    refine w_gvI T.i_MIN_SEAT_COUNT.choose_spec ?_
    walk_at "go"
    refine s_cval T.cr_Bill T.cv_Bill_MAX_SEATS.choose_spec ?_
    walk_at "go"
    refine s_btwN GB (hr.mono (by decide)) hn ?_
    walk_at "go"
    refine w_raK (ok_init_InvalidEvening T SP) hr ?_
    walk_at "go"
    exact ⟨rfl, ⟨-1, rfl, by decide, by decide⟩, fun d H' h1 h2 h3 => e d H' h1 h2 h3⟩
def spBillsX (K : PySem.W.Frag) (a : Ad) : Sp := fun vs H _ E => ∃ (n : Nat) (t : Addr) (ps : List Addr) (bs : List (Int × List Int)) (k : Nat), vs = [.int n, .ref t] ∧ SqT K H t (ps.map V.ref) ∧ BisAt a.c_Bill H ps bs ∧ bs.length ≤ 30 ∧ k < bs.length ∧
  (∀ j b, j < k → bs[j]? = some b → b.2 ≠ [] ∧ ∀ s ∈ b.2, s < (n : Int)) ∧ (∀ b, bs[k]? = some b → ∃ s, b.2.getLast? = some s ∧ (n : Int) ≤ s) ∧ ExIx E a.c_InvalidEvening (k : Nat) H
theorem ok_billsX (T : Facts K mg a) (SP : SupP P mainF) : FnR P w K mg base (L2.CX P w) 5 a.f_check_bills (spBillsX K a) := by
  obtain ⟨fd, F⟩ := T.u_check_bills
  have GS : FnR P w K mg base (L2.CX P w) 1 a.f_Bill_seats (spBiSeats a.c_Bill) := ok_bi_seats T
  refine fnr_ok F sc_check_bills (F.binds fun _ _ _ _ _ _ us hl => match us, hl with | [_, _], _ => rfl) (fun vs H Q E h => ?_) (fun cdv A outer s H vs Q E hr h => ?_)
  · obtain ⟨n, t, ps, bs, k0, rfl, _⟩ := h
    rfl
  · obtain ⟨n, t, ps, bs, k0, rfl, ht, hb, hl30, hk0, hgood, hbad, ex⟩ := h
    refine ⟨_, (pss_cons (ps_for own_main rfl (pi_enumA (by rfl) T.z_enumerate (pa_cons (pv 1) pa_nil)) (pg_tup rfl (pgs_cons (pg_name (i := 2) sc_check_bills.nd rfl (Or.inl rfl)) (pgs_cons (pg_name (i := 3) sc_check_bills.nd rfl (Or.inl rfl)) pgs_nil))) (pss_one (ps_if (pt_cmpA Like.refl pas_main (pe_ixA Like.refl pas_main (pe_atA Like.refl pas_main (pv 3)) (pe_unA Like.refl pas_main (pe_int))) (pv 0) (nomark _)) (pss_one (ps_raK (ks := [("index" : Str)]) rfl tk_main pas0 (by rfl) (pk_cons (pv 2) pk_nil))) pss_nil)))
    (pss_one (ps_if (pt_cmpA Like.refl pas_main (pe_biA (id := "len") Like.refl pas_main (by rfl) (by decide +kernel) (pa_cons (pv 1) pa_nil)) (pe_atA Like.refl pas_main (pe_gvA Like.refl (by rfl))) (nomark _)) (pss_one (ps_raK (ks := [("index" : Str)]) rfl tk_main pas0 (by rfl) (pk_cons (pe_atA Like.refl pas_main (pe_gvA Like.refl (by rfl))) pk_nil))) pss_nil))), ?_⟩
    walk_at "go"
    refine f_enumT (xs := ps.map V.ref) (a := t) (fun k σ H' => k ≤ k0 ∧ Same H H' ∧ ∃ (x y : Option V), σ = [some (.int n), some (.ref t), x, y]) (fun R k => ?_) ⟨Nat.zero_le _, Same.refl _, none, none, rfl⟩ (fun k σ H' _ p => same_t p.2.1 ht) (fun k x σ H' T2 hx p hT => ?_) (fun σ H' p => ?_)
    · walk_at "go"
      exact k
    · obtain ⟨kle, s1, u, v, rfl⟩ := p
      rw [List.getElem?_map] at hx
      cases e : ps[k]? with
      | none => rw [e] at hx; cases hx
      | some z =>
        rw [e] at hx
        cases hx
        obtain ⟨hk, ez⟩ := List.getElem?_eq_some_iff.1 e
        have hk2 : k < bs.length := by rw [← hb.1]; exact hk
        have eb := List.getElem?_eq_getElem hk2
        obtain ⟨dx, t2, h1, h2⟩ := hb.2 k z _ e eb
        have s2 : Same H (upd H' T2 (.tup [.int (k : Nat), .ref z])) := s1.trans (same_new hT)
        have ls : ∃ s, bs[k].2.getLast? = some s ∧ (k < k0 → s < (n : Int)) ∧ (k = k0 → (n : Int) ≤ s) := by
          rcases Nat.lt_or_ge k k0 with z1 | z1
          · obtain ⟨g1, g2⟩ := hgood k _ z1 eb
            exact ⟨bs[k].2.getLast g1, List.getLast?_eq_some_getLast g1, fun _ => g2 _ (List.getLast_mem g1), fun z2 => by omega⟩
          · have : k = k0 := by omega
            subst this
            obtain ⟨s, g1, g2⟩ := hbad _ eb
            exact ⟨s, g1, fun z2 => by omega, fun _ => g2⟩
        obtain ⟨ls, el, l1, l2⟩ := ls
        have c4 : bs[k].2 ≠ [] := fun z => by rw [z] at el; cases el
        have hne : (bs[k].2.map V.int) ≠ [] := fun z => c4 (List.map_eq_nil_iff.1 z)
        have hlast : bs[k].2.getLast c4 = ls := Option.some.inj (by rw [← List.getLast?_eq_some_getLast c4, el])
        walk_at "go"
        refine s_prop T.cl_Bill T.pr_Bill_seats GS (hr.mono (by decide)) (s2 _ _ h1) ⟨z, dx, t2, _, rfl, s2 _ _ h1, ?_⟩
        walk_at "go"
        refine s_ixT (SqT.of (s2 _ _ h2)) (v := .int ls) (by rw [at_last _ hne, List.getLast_map, hlast]) ?_
        walk_at "go"
        rcases Nat.lt_or_ge k k0 with z1 | z1
        · rw [decide_eq_false (show ¬ (n : Int) ≤ ls by have := l1 z1; omega)]
          walk_at "go"
          exact ⟨z1, s2, _, _, rfl⟩
        · have z2 : k = k0 := by omega
          rw [decide_eq_true (l2 z2)]
          walk_at "go"
          refine w_raK (ok_init_InvalidEvening T SP) hr ?_
          walk_at "go"
          subst z2
          exact ⟨rfl, ⟨(k : Nat), rfl, by omega, ix_small (by omega)⟩, fun d H' h1 h2 h3 => (ex.up s2) d H' h1 h2 h3⟩
    · obtain ⟨kle, _⟩ := p
      rw [List.length_map, hb.1] at kle
      omega
def spBillsM (K : PySem.W.Frag) (a : Ad) : Sp := fun vs H _ E => ∃ (n : Nat) (t : Addr) (ps : List Addr) (bs : List (Int × List Int)), vs = [.int n, .ref t] ∧ SqT K H t (ps.map V.ref) ∧ BisAt a.c_Bill H ps bs ∧ 30 < bs.length ∧ bs.length ≤ 1000 ∧
  (∀ b ∈ bs, b.2 ≠ [] ∧ ∀ s ∈ b.2, s < (n : Int)) ∧ ExIx E a.c_InvalidEvening 30 H
theorem ok_billsM (T : Facts K mg a) (SP : SupP P mainF) : FnR P w K mg base (L2.CX P w) 5 a.f_check_bills (spBillsM K a) := by
  obtain ⟨fd, F⟩ := T.u_check_bills
  have GS : FnR P w K mg base (L2.CX P w) 1 a.f_Bill_seats (spBiSeats a.c_Bill) := ok_bi_seats T
  refine fnr_ok F sc_check_bills (F.binds fun _ _ _ _ _ _ us hl => match us, hl with | [_, _], _ => rfl) (fun vs H Q E h => ?_) (fun cdv A outer s H vs Q E hr h => ?_)
  · obtain ⟨n, t, ps, bs, rfl, _⟩ := h
    rfl
  · obtain ⟨n, t, ps, bs, rfl, ht, hb, h30, h1000, hgood, ex⟩ := h
    refine ⟨_, (pss_cons (ps_for own_main rfl (pi_enumA (by rfl) T.z_enumerate (pa_cons (pv 1) pa_nil)) (pg_tup rfl (pgs_cons (pg_name (i := 2) sc_check_bills.nd rfl (Or.inl rfl)) (pgs_cons (pg_name (i := 3) sc_check_bills.nd rfl (Or.inl rfl)) pgs_nil))) (pss_one (ps_if (pt_cmpA Like.refl pas_main (pe_ixA Like.refl pas_main (pe_atA Like.refl pas_main (pv 3)) (pe_unA Like.refl pas_main (pe_int))) (pv 0) (nomark _)) (pss_one (ps_raK (ks := [("index" : Str)]) rfl tk_main pas0 (by rfl) (pk_cons (pv 2) pk_nil))) pss_nil)))
    (pss_one (ps_if (pt_cmpA Like.refl pas_main (pe_biA (id := "len") Like.refl pas_main (by rfl) (by decide +kernel) (pa_cons (pv 1) pa_nil)) (pe_atA Like.refl pas_main (pe_gvA Like.refl (by rfl))) (nomark _)) (pss_one (ps_raK (ks := [("index" : Str)]) rfl tk_main pas0 (by rfl) (pk_cons (pe_atA Like.refl pas_main (pe_gvA Like.refl (by rfl))) pk_nil))) pss_nil))), ?_⟩
    walk_at "go"
    refine f_enumT (xs := ps.map V.ref) (a := t) (fun k σ H' => Same H H' ∧ ∃ (x y : Option V), σ = [some (.int n), some (.ref t), x, y]) (fun R k => ?_) ⟨Same.refl _, none, none, rfl⟩ (fun k σ H' _ p => same_t p.1 ht) (fun k x σ H' T2 hx p hT => ?_) (fun σ H' p => ?_)
    · walk_at "go"
      exact k
    · obtain ⟨s1, u, v, rfl⟩ := p
      rw [List.getElem?_map] at hx
      cases e : ps[k]? with
      | none => rw [e] at hx; cases hx
      | some z =>
        rw [e] at hx
        cases hx
        obtain ⟨hk, ez⟩ := List.getElem?_eq_some_iff.1 e
        have hk2 : k < bs.length := by rw [← hb.1]; exact hk
        have eb := List.getElem?_eq_getElem hk2
        obtain ⟨dx, t2, h1, h2⟩ := hb.2 k z _ e eb
        have s2 : Same H (upd H' T2 (.tup [.int (k : Nat), .ref z])) := s1.trans (same_new hT)
        obtain ⟨c4, g2⟩ := hgood _ (List.getElem_mem hk2)
        have hne : (bs[k].2.map V.int) ≠ [] := fun z => c4 (List.map_eq_nil_iff.1 z)
        walk_at "go"
        refine s_prop T.cl_Bill T.pr_Bill_seats GS (hr.mono (by decide)) (s2 _ _ h1) ⟨z, dx, t2, _, rfl, s2 _ _ h1, ?_⟩
        walk_at "go"
        refine s_ixT (SqT.of (s2 _ _ h2)) (v := .int (bs[k].2.getLast c4)) (by rw [at_last _ hne, List.getLast_map]) ?_
        walk_at "go"
        rw [decide_eq_false (show ¬ (n : Int) ≤ bs[k].2.getLast c4 by have := g2 _ (List.getLast_mem c4); omega)]
        walk_at "go"
        exact ⟨s2, _, _, rfl⟩
    · obtain ⟨s1, u, v, rfl⟩ := p
      walk_at "go"
      refine s_lenT (same_t s1 ht) ?_
      rw [List.length_map, hb.1]
      walk_at "go"
      refine s_cval T.cr_Evening T.cv_Evening_MAX_BILLS.choose_spec ?_
      walk_at "go"
      rw [decide_eq_true (show (30 : Int) < (bs.length : Nat) by omega)]
      walk_at "go"
      refine w_raK (ok_init_InvalidEvening T SP) hr ?_
      walk_at "go"
      refine s_cval T.cr_Evening T.cv_Evening_MAX_BILLS.choose_spec ?_
      walk_at "go"
      exact ⟨rfl, ⟨30, rfl, by decide, by decide⟩, fun d H' h1 h2 h3 => (ex.up s1) d H' h1 h2 h3⟩
/-- Evening(n, *bills): true: the number of seats, false: a bill -/
def BadEv (n : Int) (bs : List (Int × List Int)) (i : Int) : Prop := (¬ (2 ≤ n ∧ n ≤ 8) ∧ i = -1) ∨ (2 ≤ n ∧ n ≤ 8 ∧ ∃ k : Nat, i = (k : Int) ∧ bs.length ≤ 30 ∧ k < bs.length ∧ (∀ j b, j < k → bs[j]? = some b → b.2 ≠ [] ∧ ∀ s ∈ b.2, s < n) ∧ ∀ b, bs[k]? = some b → ∃ s, b.2.getLast? = some s ∧ n ≤ s) ∨ (2 ≤ n ∧ n ≤ 8 ∧ i = 30 ∧ 30 < bs.length ∧ bs.length ≤ 1000 ∧ ∀ b ∈ bs, b.2 ≠ [] ∧ ∀ s ∈ b.2, s < n)
def spEvInitX (a : Ad) : Sp := fun vs H _ E => ∃ (x t : Addr) (n : Int) (ps : List Addr) (bs : List (Int × List Int)) (i : Int), vs = [.ref x, .int n, .ref t] ∧ H t = some (.tup (ps.map V.ref)) ∧ BisAt a.c_Bill H ps bs ∧ BadEv n bs i ∧ ExIx E a.c_InvalidEvening i H
abbrev InitEX (a : Ad) : Sp := fun vs H Q E => ∃ ws rest, vs = ws ++ rest ∧ ws.length = [("self" : Str), "seat_count"].length ∧ rest.length ≤ sizeLine ∧ ∀ p, H p = Option.none → spEvInitX a (ws ++ [V.ref p]) (upd H p (.tup rest)) Q E
theorem ok_ev_initX (T : Facts K mg a) (SP : SupP P mainF) : FnR P w K mg base (L2.CX P w) 6 a.f_Evening__init_ (InitEX a) := by
  obtain ⟨fd, F⟩ := T.u_Evening__init_
  have GA : FnR P w K mg base (L2.CX P w) 2 a.f_check_seat_count spCkCount := ok_check_seat_count T
  have GX : FnR P w K mg base (L2.CX P w) 5 a.f_check_seat_count (spCountX a) := ok_countX T SP
  have GS : FnR P w K mg base (L2.CX P w) 5 a.f_check_bills (spBillsX K a) := ok_billsX T SP
  refine fnr_star2 (p1 := "self") (p2 := "seat_count") (pv := "bills") F sc_Evening__init_ (fun _ _ _ _ _ _ _ _ => rfl) (fun _ _ _ _ _ _ _ _ _ _ => rfl) (fun cdv A outer s H vs Q E hr h => ?_)
  obtain ⟨x, t, n, ps, bs, i, rfl, ht, hb, bad, ex⟩ := h
  refine ⟨_, (pss_cons (ps_expr (pe_glA Like.refl pas_main (by rfl) (pa_cons (pv 1) pa_nil)))
    (pss_cons (ps_expr (pe_glA Like.refl pas_main (by rfl) (pa_cons (pv 1) (pa_cons (pv 2) pa_nil))))
    (pss_cons (ps_fld (pv 0) (pv 1) rfl)
    (pss_one (ps_fld (pv 0) (pv 2) rfl))))), ?_⟩
  walk_at "go"
  have GM : FnR P w K mg base (L2.CX P w) 5 a.f_check_bills (spBillsM K a) := ok_billsM T SP
  rcases bad with ⟨h1, rfl⟩ | ⟨h1, h2, k, rfl, h3, h4, h5, h6⟩ | ⟨h1, h2, rfl, h3, h4, h5⟩
  · exact s_fn GX hr ⟨n, rfl, h1, ex⟩
  · refine s_fn GA (hr.mono (by decide)) ⟨n, rfl, h1, h2, ?_⟩
    walk_at "go"
    obtain ⟨m, rfl⟩ := Int.eq_ofNat_of_zero_le (show 0 ≤ n by omega)
    exact s_fn GS hr ⟨m, t, ps, bs, k, rfl, SqT.of ht, hb, h3, h4, h5, h6, ex⟩
  · refine s_fn GA (hr.mono (by decide)) ⟨n, rfl, h1, h2, ?_⟩
    walk_at "go"
    obtain ⟨m, rfl⟩ := Int.eq_ofNat_of_zero_le (show 0 ≤ n by omega)
    exact s_fn GM hr ⟨m, t, ps, bs, rfl, SqT.of ht, hb, h3, h4, h5, ex⟩
theorem s_eveningX {X0 : Cx} {E : XK} {H : Hp} {Q : VK} {n i : Int} {ps : List Addr} {bs : List (Int × List Int)} (T : Facts X0.K X0.mg a) (F : Fn X0 6 a.f_Evening__init_ (InitEX a)) (hr : Room 7 X0.A) (hb : BisAt a.c_Bill H ps bs) (hl : ps.length ≤ 100000) (bad : BadEv n bs i) (ex : ExIx E a.c_InvalidEvening i H) :
    ∃ r, CaD X0 E (.ref a.c_Evening) r ∧ r (.int n :: ps.map V.ref) H Q := by
  refine s_mk T.mk_Evening F hr fun x dx hx hdx hne => ⟨[.ref x, .int n], ps.map V.ref, rfl, rfl, by rw [List.length_map]; exact sz5 hl, fun t ht => ?_⟩
  have n1 : t ≠ x := fun z => by subst z; rw [upd_same] at ht; cases ht
  have n2 : t ≠ dx := fun z => by subst z; rw [upd_ne hne, upd_same] at ht; cases ht
  rw [upd_ne n1, upd_ne n2] at ht
  have s0 : Same H (upd (upd (upd H dx (.own x)) x (.ins a.c_Evening dx [])) t (.tup (ps.map V.ref))) := fun b o e => by
    rw [upd_ne (ne_of_none e ht), upd_ne (ne_of_none e hx), upd_ne (ne_of_none e hdx)]
    exact e
  exact ⟨x, t, n, ps, bs, i, rfl, upd_same, hb.same s0, bad, ex.up s0⟩
theorem ix6 {k : Nat} (h : k < 10000) : ((k : Nat) : Int) < 10 ^ 6 := by
  have e6 : (10 : Int) ^ 6 = 1000000 := by decide
  omega
/-! ### bills that are refused -/
def spAmtX (a : Ad) : Sp := fun vs H _ E => ∃ i : Int, vs = [.int i] ∧ ¬ (0 ≤ i ∧ i ≤ 10 ^ 12) ∧ ExIx E a.c_InvalidBill (-1) H
theorem ok_amtX (T : Facts K mg a) (SP : SupP P mainF) : FnR P w K mg base (L2.CX P w) 5 a.f_check_amount (spAmtX a) := by
  obtain ⟨fd, F⟩ := T.u_check_amount
  have GB : FnR P w K mg base (L2.CX P w) 1 a.f_is_between spBetween := ok_between T
  refine fnr_ok F sc_check_amount (F.binds fun _ _ _ _ _ _ us hl => match us, hl with | [_], _ => rfl) (fun vs H Q E h => ?_) (fun cdv A outer s H vs Q E hr h => ?_)
  · obtain ⟨i, rfl, _⟩ := h
    rfl
  · obtain ⟨i, rfl, hn, e⟩ := h
    refine ⟨_, (pss_one (ps_if (pt_not (pt_trA Like.refl pas_main (pe_glA Like.refl pas_main (by rfl) (pa_cons (pv 0) (pa_cons (pe_int) (pa_cons (pe_gvI Like.refl (by rfl)) pa_nil)))))) (pss_one (ps_raK (ks := [("index" : Str)]) rfl tk_main pas0 (by rfl) (pk_cons (pe_unA Like.refl pas_main (pe_int)) pk_nil))) pss_nil)), ?_⟩
    walk_at "go"
    refine w_gvI T.i_MAX_AMOUNT.choose_spec ?_
    walk_at "go"
    refine s_btwN GB (hr.mono (by decide)) hn ?_
    walk_at "go"
    refine w_raK (ok_init_InvalidBill T SP) hr ?_
    walk_at "go"
    exact ⟨rfl, ⟨-1, rfl, by decide, by decide⟩, fun d H' h1 h2 h3 => e d H' h1 h2 h3⟩
/-- the first seat that is wrong: no seat, or not above those before it -/
def faultS : Int → Nat → List Int → Option Nat
  | _, _, [] => none
  | lo, i, s :: ss => if lo ≤ s ∧ s ≤ 7 then faultS (s + 1) (i + 1) ss else some i
theorem faultS_le {lo : Int} {i : Nat} : ∀ {ss : List Int} {k : Nat}, faultS lo i ss = some k → i ≤ k ∧ k < i + ss.length := by
  intro ss
  induction ss generalizing lo i with
  | nil => intro k h; cases h
  | cons s ss ih =>
    intro k h
    unfold faultS at h
    rw [List.length_cons]
    split at h
    · have := ih h
      omega
    · cases h
      omega
/-- what is wrong with seats -/
def BadSeats (ss : List Int) (k : Nat) : Prop := faultS 0 0 ss = some k ∨ (ss = [] ∧ k = 0)
def spSeatsX (K : PySem.W.Frag) (a : Ad) : Sp := fun vs H _ E => ∃ (t : Addr) (ss : List Int) (k : Nat), vs = [.ref t] ∧ SqT K H t (ss.map V.int) ∧ BadSeats ss k ∧ ss.length ≤ 1000 ∧ ExIx E a.c_InvalidBill (k : Nat) H
theorem ok_seatsX (T : Facts K mg a) (SP : SupP P mainF) : FnR P w K mg base (L2.CX P w) 5 a.f_check_seats (spSeatsX K a) := by
  obtain ⟨fd, F⟩ := T.u_check_seats
  have GB : FnR P w K mg base (L2.CX P w) 1 a.f_is_between spBetween := ok_between T
  refine fnr_ok F sc_check_seats (F.binds fun _ _ _ _ _ _ us hl => match us, hl with | [_], _ => rfl) (fun vs H Q E h => ?_) (fun cdv A outer s H vs Q E hr h => ?_)
  · obtain ⟨t, ss, k, rfl, _⟩ := h
    rfl
  · obtain ⟨t, ss, k0, rfl, ht, bad, hl, ex⟩ := h
    refine ⟨_, (pss_cons (ps_set (i := 1) sc_check_seats.nd rfl (Or.inl rfl) (pe_int))
    (pss_cons (ps_for own_main rfl (pi_enumA (by rfl) T.z_enumerate (pa_cons (pv 0) pa_nil)) (pg_tup rfl (pgs_cons (pg_name (i := 2) sc_check_seats.nd rfl (Or.inl rfl)) (pgs_cons (pg_name (i := 3) sc_check_seats.nd rfl (Or.inl rfl)) pgs_nil))) (pss_cons (ps_if (pt_not (pt_trA Like.refl pas_main (pe_glA Like.refl pas_main (by rfl) (pa_cons (pv 3) (pa_cons (pv 1) (pa_cons (pe_opA Like.refl pas_main (pe_atA Like.refl pas_main (pe_gvA Like.refl (by rfl))) (pe_int)) pa_nil)))))) (pss_one (ps_raK (ks := [("index" : Str)]) rfl tk_main pas0 (by rfl) (pk_cons (pv 2) pk_nil))) pss_nil)
    (pss_one (ps_set (i := 1) sc_check_seats.nd rfl (Or.inl rfl) (pe_opA Like.refl pas_main (pv 3) (pe_int))))))
    (pss_one (ps_if (pt_not (pt_trA Like.refl pas_main (pv 0))) (pss_one (ps_raK (ks := [("index" : Str)]) rfl tk_main pas0 (by rfl) (pk_cons (pe_int) pk_nil))) pss_nil)))), ?_⟩
    walk_at "go"
    refine f_enumT (xs := ss.map V.int) (a := t) (fun k σ H' => Same H H' ∧ ∃ (lo : Int) (x y : Option V), σ = [some (.ref t), some (.int lo), x, y] ∧ (faultS lo k (ss.drop k) = some k0 ∨ (ss = [] ∧ k0 = 0))) (fun R k => ?_) ⟨Same.refl _, 0, none, none, rfl, bad⟩ (fun k σ H' _ p => same_t p.1 ht) (fun k x σ H' T2 hx p hT => ?_) (fun σ H' p => ?_)
    · walk_at "go"
      exact k
    · obtain ⟨s1, lo, u, v, rfl, hlo⟩ := p
      rw [List.getElem?_map] at hx
      cases e : ss[k]? with
      | none => rw [e] at hx; cases hx
      | some z =>
        rw [e] at hx
        cases hx
        obtain ⟨hk, ez⟩ := List.getElem?_eq_some_iff.1 e
        rcases hlo with hlo | ⟨z1, _⟩
        · rw [List.drop_eq_getElem_cons hk, ez] at hlo
          unfold faultS at hlo
          walk_at "go"
          refine s_cval T.cr_Bill T.cv_Bill_MAX_SEATS.choose_spec ?_
          walk_at "go"
          split at hlo
          · rename_i hz
            refine s_btwT GB (hr.mono (by decide)) hz.1 (by omega) ?_
            walk_at "go"
            exact ⟨s1.trans (same_new hT), _, _, _, rfl, .inl hlo⟩
          · rename_i hz
            cases hlo
            refine s_btwN GB (hr.mono (by decide)) (by omega) ?_
            walk_at "go"
            refine w_raK (ok_init_InvalidBill T SP) hr ?_
            walk_at "go"
            exact ⟨rfl, ⟨_, rfl, by omega, ix6 (by omega)⟩, fun d H' h1 h2 h3 => (ex.up (s1.trans (same_new hT))) d H' h1 h2 h3⟩
        · rw [z1] at hk
          simp at hk
    · obtain ⟨s1, lo, u, v, rfl, hlo⟩ := p
      rw [List.length_map] at hlo
      rcases hlo with hlo | ⟨rfl, rfl⟩
      · rw [List.drop_eq_nil_of_le (Nat.le_refl _)] at hlo
        cases hlo
      · walk_at "go"
        refine s_truT (same_t s1 ht) ?_
        walk_at "go"
        refine w_raK (ok_init_InvalidBill T SP) hr ?_
        walk_at "go"
        exact ⟨rfl, ⟨0, rfl, by decide, by decide⟩, fun d H' h1 h2 h3 => (ex.up s1) d H' h1 h2 h3⟩
/-- what is wrong with a bill -/
def BadBill (i : Int) (ss : List Int) (k : Int) : Prop := (¬ (0 ≤ i ∧ i ≤ 10 ^ 12) ∧ k = -1) ∨ (0 ≤ i ∧ i ≤ 10 ^ 12 ∧ ∃ j : Nat, k = (j : Int) ∧ BadSeats ss j)
def spBiInitX (a : Ad) : Sp := fun vs H _ E => ∃ (x t : Addr) (i k : Int) (ss : List Int), vs = [.ref x, .int i, .ref t] ∧ H t = some (.tup (ss.map V.int)) ∧ ss.length ≤ 1000 ∧ BadBill i ss k ∧ ExIx E a.c_InvalidBill k H
abbrev InitBX (a : Ad) : Sp := fun vs H Q E => ∃ ws rest, vs = ws ++ rest ∧ ws.length = [("self" : Str), "amount"].length ∧ rest.length ≤ sizeLine ∧ ∀ p, H p = Option.none → spBiInitX a (ws ++ [V.ref p]) (upd H p (.tup rest)) Q E
theorem ok_bi_initX (T : Facts K mg a) (SP : SupP P mainF) : FnR P w K mg base (L2.CX P w) 6 a.f_Bill__init_ (InitBX a) := by
  obtain ⟨fd, F⟩ := T.u_Bill__init_
  have GA : FnR P w K mg base (L2.CX P w) 2 a.f_check_amount spCkAmount := ok_check_amount T
  have GX : FnR P w K mg base (L2.CX P w) 5 a.f_check_amount (spAmtX a) := ok_amtX T SP
  have GS : FnR P w K mg base (L2.CX P w) 5 a.f_check_seats (spSeatsX K a) := ok_seatsX T SP
  refine fnr_star2 (p1 := "self") (p2 := "amount") (pv := "seats") F sc_Bill__init_ (fun _ _ _ _ _ _ _ _ => rfl) (fun _ _ _ _ _ _ _ _ _ _ => rfl) (fun cdv A outer s H vs Q E hr h => ?_)
  obtain ⟨x, t, i, k, ss, rfl, ht, hl, bad, ex⟩ := h
  refine ⟨_, (pss_cons (ps_expr (pe_glA Like.refl pas_main (by rfl) (pa_cons (pv 1) pa_nil)))
    (pss_cons (ps_expr (pe_glA Like.refl pas_main (by rfl) (pa_cons (pv 2) pa_nil)))
    (pss_cons (ps_fld (pv 0) (pv 1) rfl)
    (pss_one (ps_fld (pv 0) (pv 2) rfl))))), ?_⟩
  walk_at "go"
  rcases bad with ⟨h1, rfl⟩ | ⟨h1, h2, j, rfl, h3⟩
  · exact s_fn GX hr ⟨i, rfl, h1, ex⟩
  · refine s_fn GA (hr.mono (by decide)) ⟨i, rfl, h1, h2, ?_⟩
    walk_at "go"
    exact s_fn GS hr ⟨t, ss, j, rfl, SqT.of ht, h3, hl, ex⟩
theorem s_billX {X0 : Cx} {E : XK} {H : Hp} {Q : VK} {i k : Int} {ss : List Int} (T : Facts X0.K X0.mg a) (F : Fn X0 6 a.f_Bill__init_ (InitBX a)) (hr : Room 7 X0.A) (hl : ss.length ≤ 1000) (bad : BadBill i ss k) (ex : ExIx E a.c_InvalidBill k H) :
    ∃ r, CaD X0 E (.ref a.c_Bill) r ∧ r (.int i :: ss.map V.int) H Q := by
  refine s_mk T.mk_Bill F hr fun x dx hx hdx hne => ⟨[.ref x, .int i], ss.map V.int, rfl, rfl, by rw [List.length_map]; exact sz5 (by omega), fun t ht => ?_⟩
  have n1 : t ≠ x := fun z => by subst z; rw [upd_same] at ht; cases ht
  have n2 : t ≠ dx := fun z => by subst z; rw [upd_ne hne, upd_same] at ht; cases ht
  rw [upd_ne n1, upd_ne n2] at ht
  have s0 : Same H (upd (upd (upd H dx (.own x)) x (.ins a.c_Bill dx [])) t (.tup (ss.map V.int))) := fun b o e => by
    rw [upd_ne (ne_of_none e ht), upd_ne (ne_of_none e hx), upd_ne (ne_of_none e hdx)]
    exact e
  exact ⟨x, t, i, k, ss, rfl, upd_same, hl, bad, ex.up s0⟩
/-! ### evenings of all, one bill of which is refused -/
def spTogX (a : Ad) : Sp := fun vs H _ E => ∃ (n : Nat) (t : Addr) (as : List Int), vs = [.ref a.c_Evening, .int n, .ref t] ∧ H t = some (.tup (as.map V.int)) ∧ as.length ≤ 1000 ∧
  ((¬ (2 ≤ n ∧ n ≤ 8) ∧ ExIx E a.c_InvalidEvening (-1) H) ∨ (2 ≤ n ∧ n ≤ 8 ∧ (∃ x ∈ as, ¬ (0 ≤ x ∧ x ≤ 10 ^ 12)) ∧ ExIx E a.c_InvalidBill (-1) H))
abbrev InitTX (a : Ad) : Sp := fun vs H Q E => ∃ ws rest, vs = ws ++ rest ∧ ws.length = [("cls" : Str), "seat_count"].length ∧ rest.length ≤ sizeLine ∧ ∀ p, H p = Option.none → spTogX a (ws ++ [V.ref p]) (upd H p (.tup rest)) Q E
theorem asc_rng : ∀ n, n ≤ 8 → asc 0 ((List.range n).map fun i : Nat => (i : Int)) = true := by decide
theorem ok_togX (T : Facts K mg a) (SP : SupP P mainF) : FnR P w K mg base (L2.CX P w) 8 a.f_Evening_together (InitTX a) := by
  obtain ⟨fd, F⟩ := T.u_Evening_together
  have GC : FnR P w K mg base (L2.CX P w) 2 a.f_check_seat_count spCkCount := ok_check_seat_count T
  have GCX : FnR P w K mg base (L2.CX P w) 5 a.f_check_seat_count (spCountX a) := ok_countX T SP
  have GB : FnR P w K mg base (L2.CX P w) 3 a.f_Bill__init_ (InitB a.c_Bill) := ok_bi_init T
  have GBX : FnR P w K mg base (L2.CX P w) 6 a.f_Bill__init_ (InitBX a) := ok_bi_initX T SP
  refine fnr_star2 (p1 := "cls") (p2 := "seat_count") (pv := "amounts") F sc_Evening_together (fun _ _ _ _ _ _ _ _ => rfl) (fun _ _ _ _ _ _ _ _ _ _ => rfl) (fun cdv A outer s H vs Q E hr h => ?_)
  obtain ⟨n, t, as, rfl, ht, hal, bad⟩ := h
  refine ⟨_, (pss_cons (ps_expr (pe_glA Like.refl pas_main (by rfl) (pa_cons (pv 1) pa_nil)))
    (pss_cons (ps_set (i := 3) sc_Evening_together.nd rfl (Or.inr rfl) (pe_listRg rfl (by rfl) T.z_list (prg_1 (by rfl) T.z_range (pv 1))))
    (pss_cons (ps_setLcX (E := E) (i := 4) (own := [("amount", 5)]) (g := gName 5) (tt := tYes) tk_main (fun _ _ _ _ h => h) rfl rfl rfl sc_Evening_together.nd rfl rfl (sw_true rfl rfl rfl (by decide +kernel)) (pi_seqA Like.refl (pv 2)) (blkOk_by (own := [("amount", 5)]) (N := N_Evening_together) (sc := defScope s_Evening_together) (by decide +kernel)) (fun _ _ _ _ _ _ => (pg_name (i := 5) sc_Evening_together.nd rfl (by first | exact Or.inl rfl | exact Or.inr rfl))) (fun _ _ _ _ _ _ => pts_nil) (fun _ _ _ _ _ _ pasC => (pe_glS2 ⟨rfl, rfl, rfl, rfl, rfl, rfl, rfl⟩ pasC (by rfl) (pa_cons (pv 5) (pa_starA ⟨rfl, rfl, rfl, rfl, rfl, rfl, rfl⟩ (pv 3) pa_nil)))))
    (pss_one (ps_ret (pe_loS2 (i := 0) Like.refl pas_main rfl (Or.inl rfl) (pa_cons (pv 1) (pa_starA Like.refl (pv 4) pa_nil)))))))), ?_⟩
  walk_at "go"
  rcases bad with ⟨hn, ex⟩ | ⟨hn1, hn2, hx, ex⟩
  · exact s_fn GCX (hr.mono (by decide)) ⟨n, rfl, by omega, ex⟩
  refine s_fn GC (hr.mono (by decide)) ⟨n, rfl, by omega, by omega, ?_⟩
  walk_at "go"
  refine ⟨.int n, rfl, n, rfl, RgOk.of_le (by omega) (by omega) (by omega) (by omega), fun l hl => ?_⟩
  rw [rgV_nat]
  have s1 := same_new (o := .lst (((List.range n).map fun i : Nat => (i : Int)).map V.int)) hl
  have hseats : ∀ H', Same (upd H l (.lst (((List.range n).map fun i : Nat => (i : Int)).map V.int))) H' → SqL K H' l (((List.range n).map fun i : Nat => (i : Int)).map V.int) := fun H' s => SqL.of (s _ _ upd_same)
  walk_at "go"
  refine c_tupI (fun _ => False) (fun k o H' => o.length = k ∧ ∃ x ∈ as.drop k, ¬ (0 ≤ x ∧ x ≤ 10 ^ 12)) (a := t) (xs := as.map V.int) (fun _ z => z.elim) (fun D hD => ⟨rfl, hx⟩) (fun k o H' hk p => ?_) (fun H' s2 => SqT.of (s2 _ _ id (s1 _ _ ht)))
    (fun k o H' D l1 l2 _ hd p => p) (fun _ => rfl) (fun k x H' o hx2 s2 p => ?_) (fun r o H' hr0 s2 p hL => ?_) (fun R k => ?_)
  · rw [p.1]
    rw [List.length_map] at hk
    omega
  · rw [List.getElem?_map] at hx2
    cases e : as[k]? with
    | none => rw [e] at hx2; cases hx2
    | some z =>
      rw [e] at hx2
      cases hx2
      obtain ⟨hk, ez⟩ := List.getElem?_eq_some_iff.1 e
      have s2' : Same (upd H l (.lst (((List.range n).map fun i : Nat => (i : Int)).map V.int))) H' := fun b o h => s2 b o id h
      obtain ⟨hol, y, hy, hyb⟩ := p
      rw [List.drop_eq_getElem_cons hk, ez] at hy
      refine turnI_map fun R hR => ?_
      walk_at "go"
      refine ⟨.ref l, rfl, l, _, rfl, .inr (hseats _ s2'), ?_⟩
      walk_at "go"
      show ∃ r, CaD _ E (.ref a.c_Bill) r ∧ r (.int z :: (((List.range n).map fun i : Nat => (i : Int)).map V.int ++ [])) _ _
      rw [List.append_nil]
      by_cases hz : 0 ≤ z ∧ z ≤ 10 ^ 12
      · refine s_bill T GB (hr.mono (by decide)) ⟨hz.1, hz.2, asc_rng n hn2, fun z0 => by
          have := congrArg List.length z0
          rw [List.length_map, List.length_range] at this
          simp at this
          omega⟩ (by rw [List.length_map, List.length_range]; omega) fun p2 H4 hp2 s4 bi => ?_
        refine hR _ _ (Same.b s4) ⟨by rw [List.length_append, hol]; rfl, y, ?_, hyb⟩
        rcases List.mem_cons.1 hy with q | q
        · rw [q] at hyb
          exact absurd hz hyb
        · exact q
      · exact s_billX T GBX (hr.mono (by decide)) (by rw [List.length_map, List.length_range]; omega) (.inl ⟨hz, rfl⟩) (ex.up (s1.trans s2'))
  · obtain ⟨_, y, hy, _⟩ := p
    rw [List.length_map, List.drop_eq_nil_of_le (Nat.le_refl _)] at hy
    cases hy
  · walk_at "go"
    exact k
end

end Odd

namespace Odd
open PySem PySem.Spec PyProof.Rows L2
/-! tactics of this text: st one step, go as many as go -/
local macro_rules | `(tactic| walk_at "ar") => `(tactic| first | assumption | omega | (show (_ : Int) < _; omega) | decide)
local macro_rules | `(tactic| walk_at "st") => `(tactic| first
  | with_reducible refine' w_seq ?_
  | with_reducible refine' w_asg ?_
  | with_reducible refine' w_name ?_
  | with_reducible refine' w_c ?_
  | with_reducible refine' w_op ?_
  | with_reducible refine' w_ix ?_
  | with_reducible refine' w_at ?_
  | with_reducible refine' w_cons ?_
  | with_reducible refine' w_nil ?_
  | with_reducible refine' w_ret ?_
  | with_reducible refine' w_if ?_
  | with_reducible refine' w_test ?_
  | with_reducible refine' w_tr ?_
  | with_reducible refine' w_un ?_
  | with_reducible refine' w_andV ?_
  | with_reducible refine' w_orV ?_
  | with_reducible refine' w_notA ?_
  | with_reducible refine' w_ch ?_
  | with_reducible refine' w_and ?_
  | with_reducible refine' w_or ?_
  | with_reducible refine' w_not ?_
  | with_reducible refine' w_ifx ?_
  | with_reducible refine' w_tup ?_
  | with_reducible refine' w_lst ?_
  | with_reducible refine' w_next ?_
  | with_reducible refine' w_drop ?_
  | with_reducible refine' w_retN ?_
  | ((with_reducible refine' w_var ?h ?_); (case h => exact rfl))
  | ((with_reducible refine' w_bi ?h ?_); (case h => walk_at "mg"))
  | ((with_reducible refine' w_bv ?h ?_); (case h => walk_at "mg"))
  | ((with_reducible refine' w_gv ?h ?_); (case h => walk_at "mg"))
  | ((with_reducible refine' w_gl ?h ?k ?_); (case h => walk_at "mg"); (case k => walk_at "kp"))
  | ((with_reducible refine' w_glS ?h ?k ?_); (case h => walk_at "mg"); (case k => walk_at "kp"))
  | with_reducible refine' bl_ex ?_
  | with_reducible refine' iteT ?_
  | with_reducible refine' iteF ?_
  | with_reducible refine' ite_nf ?_
  | with_reducible refine' ite_nt ?_
  | with_reducible refine' s_add ?_
  | with_reducible refine' s_sub ?_
  | with_reducible refine' s_lt ?_
  | with_reducible refine' s_le ?_
  | with_reducible refine' s_gt ?_
  | with_reducible refine' s_ge ?_
  | with_reducible refine' s_eqI ?_
  | with_reducible refine' s_neI ?_
  | with_reducible refine' s_eqB ?_
  | with_reducible refine' s_neB ?_
  | with_reducible refine' s_truB ?_
  | with_reducible refine' s_truI ?_
  | with_reducible refine' s_neg ?_
  | ((with_reducible refine' s_mod ?h ?_); (case h => walk_at "ar")))
local macro_rules | `(tactic| walk_at "go") => `(tactic| repeat walk_at "st")

local macro_rules | `(tactic| walk_at "mg") => `(tactic| first | assumption | exact Facts.z_TypeError (by assumption) | exact Facts.z_bool (by assumption) | exact Facts.z_classmethod (by assumption) | exact Facts.z_enumerate (by assumption) | exact Facts.z_int (by assumption) | exact Facts.z_isinstance (by assumption) | exact Facts.z_len (by assumption) | exact Facts.z_list (by assumption) | exact Facts.z_max (by assumption) | exact Facts.z_min (by assumption) | exact Facts.z_property (by assumption) | exact Facts.z_range (by assumption) | exact Facts.z_super (by assumption) | exact Facts.z_tuple (by assumption) | exact Facts.z_zip (by assumption) | exact Facts.g__wall (by assumption) | exact Facts.g_is_between (by assumption) | exact Facts.g_check_amount (by assumption) | exact Facts.g_check_seats (by assumption) | exact Facts.g_check_seat_count (by assumption) | exact Facts.g_check_bills (by assumption) | exact Facts.g_check_mark (by assumption) | exact Facts.g_check_times (by assumption) | exact Facts.g_no_shares (by assumption) | exact Facts.g_seats_behind (by assumption) | exact Facts.g_split_bill (by assumption) | exact Facts.g_twice (by assumption) | exact Facts.g_repeated (by assumption) | exact Facts.g_lowest_terms (by assumption) | exact Facts.g_long_run (by assumption) | exact Facts.g__law_start (by assumption) | exact Facts.g__law_drawn (by assumption) | exact Facts.g__law_same (by assumption) | exact Facts.g__law_outcome (by assumption) | exact Facts.g__law_rows (by assumption) | exact Facts.g__law_bill (by assumption) | exact Facts.g__law_evening (by assumption) | exact Facts.g__law_fault (by assumption) | exact Facts.g__law_is_bill (by assumption) | exact Facts.g__law_refused (by assumption) | exact Facts.g_law (by assumption) | exact Facts.g_Shares (by assumption) | exact Facts.g_Bill (by assumption) | exact Facts.g_Evening (by assumption))
local macro_rules | `(tactic| walk_at "kp") => `(tactic| first | assumption | exact (Facts.mk_Shares (by assumption)).kp | exact (Facts.mk_Bill (by assumption)).kp | exact (Facts.mk_Evening (by assumption)).kp | exact Fun.kp (Facts.u__wall (by assumption)).choose_spec | exact Fun.kp (Facts.u_is_between (by assumption)).choose_spec | exact Fun.kp (Facts.u_check_amount (by assumption)).choose_spec | exact Fun.kp (Facts.u_check_seats (by assumption)).choose_spec | exact Fun.kp (Facts.u_check_seat_count (by assumption)).choose_spec | exact Fun.kp (Facts.u_check_bills (by assumption)).choose_spec | exact Fun.kp (Facts.u_check_mark (by assumption)).choose_spec | exact Fun.kp (Facts.u_check_times (by assumption)).choose_spec | exact Fun.kp (Facts.u_no_shares (by assumption)).choose_spec | exact Fun.kp (Facts.u_seats_behind (by assumption)).choose_spec | exact Fun.kp (Facts.u_split_bill (by assumption)).choose_spec | exact Fun.kp (Facts.u_twice (by assumption)).choose_spec | exact Fun.kp (Facts.u_repeated (by assumption)).choose_spec | exact Fun.kp (Facts.u_lowest_terms (by assumption)).choose_spec | exact Fun.kp (Facts.u_long_run (by assumption)).choose_spec | exact Fun.kp (Facts.u__law_start (by assumption)).choose_spec | exact Fun.kp (Facts.u__law_drawn (by assumption)).choose_spec | exact Fun.kp (Facts.u__law_same (by assumption)).choose_spec | exact Fun.kp (Facts.u__law_outcome (by assumption)).choose_spec | exact Fun.kp (Facts.u__law_rows (by assumption)).choose_spec | exact Fun.kp (Facts.u__law_bill (by assumption)).choose_spec | exact Fun.kp (Facts.u__law_evening (by assumption)).choose_spec | exact Fun.kp (Facts.u__law_fault (by assumption)).choose_spec | exact Fun.kp (Facts.u__law_is_bill (by assumption)).choose_spec | exact Fun.kp (Facts.u__law_refused (by assumption)).choose_spec | exact Fun.kp (Facts.u_law (by assumption)).choose_spec)
section
variable {P : Program} {w : World} {K : PySem.W.Frag} {mg : Str → Option Value} {base : Heap} {a : Ad}
def spEvGet (CE CB : Addr) : Sp := fun vs H Q _ => ∃ (p : Addr) (i : Int) (n : Nat) (bs : List (Int × List Int)), vs = [.ref p, .int i] ∧ EvAt CE CB H p n bs ∧ 0 ≤ i ∧ i < (bs.length : Nat) ∧ ∀ bp b, bs[i.toNat]? = some b → BiAt CB H bp b → Q (.ref bp) H
theorem ok_ev_get (T : Facts K mg a) : FnR P w K mg base (L2.CX P w) 2 a.f_Evening__getitem_ (spEvGet a.c_Evening a.c_Bill) := by
  obtain ⟨fd, F⟩ := T.u_Evening__getitem_
  have GB : FnR P w K mg base (L2.CX P w) 1 a.f_is_between spBetween := ok_between T
  refine fnr_ok F sc_Evening__getitem_ (F.binds fun _ _ _ _ _ _ us hl => match us, hl with | [_, _], _ => rfl) (fun vs H Q E h => ?_) (fun cdv A outer s H vs Q E hr h => ?_)
  · obtain ⟨p, i, n, bs, rfl, _⟩ := h
    rfl
  · obtain ⟨p, i, n, bs, rfl, ⟨dx, t, ps, e1, e2, e3⟩, h0, h1, q⟩ := h
    have hl := e3.1
    refine ⟨_, (pss_cons (ps_if (pt_not (pt_trA Like.refl pas_main (pe_glA Like.refl pas_main (by rfl) (pa_cons (pv 1) (pa_cons (pe_int) (pa_cons (pe_opA Like.refl pas_main (pe_biA (id := "len") Like.refl pas_main (by rfl) (by decide +kernel) (pa_cons (pe_atA Like.refl pas_main (pv 0)) pa_nil)) (pe_int)) pa_nil)))))) (pss_one (ps_raA rfl tk_main (by rfl))) pss_nil)
    (pss_one (ps_ret (pe_ixA Like.refl pas_main (pe_atA Like.refl pas_main (pv 0)) (pv 1))))), ?_⟩
    walk_at "go"
    refine s_fld e1 T.cl_Evening T.na_Evening_bills look_bills ?_
    walk_at "go"
    refine s_lenT (SqT.of e2) ?_
    walk_at "go"
    rw [List.length_map]
    refine s_btwT GB hr h0 (by omega) ?_
    walk_at "go"
    refine s_fld e1 T.cl_Evening T.na_Evening_bills look_bills ?_
    walk_at "go"
    have hi : i.toNat < ps.length := by omega
    have hb : i.toNat < bs.length := by omega
    refine s_ixT (SqT.of e2) (v := .ref ps[i.toNat]) (at_of (j := i.toNat) (by omega) (by rw [List.getElem?_map, List.getElem?_eq_getElem hi] <;> rfl)) ?_
    exact q _ _ (List.getElem?_eq_getElem hb) (e3.2 _ _ _ (List.getElem?_eq_getElem hi) (List.getElem?_eq_getElem hb))
end

/-! ### evenings so many times; how many bills -/
section
variable {P : Program} {w : World} {K : PySem.W.Frag} {mg : Str → Option Value} {base : Heap} {a : Ad}
def spEvLen (CE CB : Addr) : Sp := fun vs H Q _ => ∃ (p : Addr) (n : Int) (bs : List (Int × List Int)), vs = [.ref p] ∧ EvAt CE CB H p n bs ∧ Q (.int (bs.length : Nat)) H
theorem ok_ev_len (T : Facts K mg a) : FnR P w K mg base (L2.CX P w) 1 a.f_Evening__len_ (spEvLen a.c_Evening a.c_Bill) := by
  obtain ⟨fd, F⟩ := T.u_Evening__len_
  refine fnr_ok F sc_Evening__len_ (F.binds fun _ _ _ _ _ _ us hl => match us, hl with | [_], _ => rfl) (fun vs H Q E h => ?_) (fun cdv A outer s H vs Q E hr h => ?_)
  · obtain ⟨p, n, bs, rfl, _⟩ := h
    rfl
  · obtain ⟨p, n, bs, rfl, ⟨dx, t, ps, e1, e2, e3⟩, q⟩ := h
    refine ⟨_, (pss_one (ps_ret (pe_biA (id := "len") Like.refl pas_main (by rfl) (by decide +kernel) (pa_cons (pe_atA Like.refl pas_main (pv 0)) pa_nil)))), ?_⟩
    walk_at "go"
    refine s_fld e1 T.cl_Evening T.na_Evening_bills look_bills ?_
    walk_at "go"
    refine s_lenT (SqT.of e2) ?_
    rw [List.length_map, e3.1]
    exact q
theorem BisAt.rep {C : Addr} {H : Hp} {ps : List Addr} {bs : List (Int × List Int)} (h : BisAt C H ps bs) : ∀ k : Nat, BisAt C H (List.replicate k ps).flatten (List.replicate k bs).flatten
  | 0 => ⟨rfl, fun i p b z => by simp at z⟩
  | k + 1 => by
    rw [List.replicate_succ, List.replicate_succ, List.flatten_cons, List.flatten_cons]
    exact h.app (h.rep k)
theorem flatMap' {α β : Type} (f : α → β) (l : List α) : ∀ t : Nat, (List.replicate t (l.map f)).flatten = ((List.replicate t l).flatten).map f
  | 0 => rfl
  | t + 1 => by rw [List.replicate_succ, List.replicate_succ, List.flatten_cons, List.flatten_cons, List.map_append, flatMap' f l t]
def spEvMul (CE CB : Addr) : Sp := fun vs H Q _ => ∃ (p : Addr) (k n : Nat) (bs : List (Int × List Int)), vs = [.ref p, .int k] ∧ EvAt CE CB H p n bs ∧ k ≤ 30 ∧ bs.length ≤ 1000 ∧ OkEv n (List.replicate k bs).flatten ∧
  ∀ r H', H r = none → Same H H' → EvAt CE CB H' r n (List.replicate k bs).flatten → Q (.ref r) H'
theorem ok_ev_mul (T : Facts K mg a) : FnR P w K mg base (L2.CX P w) 6 a.f_Evening__mul_ (spEvMul a.c_Evening a.c_Bill) := by
  obtain ⟨fd, F⟩ := T.u_Evening__mul_
  have GB : FnR P w K mg base (L2.CX P w) 1 a.f_is_between spBetween := ok_between T
  have GI : FnR P w K mg base (L2.CX P w) 4 a.f_Evening__init_ (InitE a.c_Evening a.c_Bill) := ok_ev_init T
  refine fnr_ok F sc_Evening__mul_ (F.binds fun _ _ _ _ _ _ us hl => match us, hl with | [_, _], _ => rfl) (fun vs H Q E h => ?_) (fun cdv A outer s H vs Q E hr h => ?_)
  · obtain ⟨p, k, n, bs, rfl, _⟩ := h
    rfl
  · obtain ⟨p, k, n, bs, rfl, hp, hk, hbl, ok, q⟩ := h
    obtain ⟨dx, t, ps, e1, e2, e3⟩ := id hp
    refine ⟨_, (pss_cons (ps_if (pt_not (pt_trA Like.refl pas_main (pe_glA Like.refl pas_main (by rfl) (pa_cons (pv 1) (pa_cons (pe_int) (pa_cons (pe_atA Like.refl pas_main (pe_gvA Like.refl (by rfl))) pa_nil)))))) (pss_one (ps_raA rfl tk_main (by rfl))) pss_nil)
    (pss_cons (ps_set (i := 2) sc_Evening__mul_.nd rfl (Or.inl rfl) (pe_opA Like.refl pas_main (pe_atA Like.refl pas_main (pv 0)) (pv 1)))
    (pss_one (ps_ret (pe_glS2 Like.refl pas_main (by rfl) (pa_cons (pe_atA Like.refl pas_main (pv 0)) (pa_starA Like.refl (pv 2) pa_nil))))))), ?_⟩
    walk_at "go"
    refine s_cval T.cr_Evening T.cv_Evening_MAX_BILLS.choose_spec ?_
    walk_at "go"
    refine s_btwT GB (hr.mono (by decide)) (by omega) (by omega) ?_
    walk_at "go"
    refine s_fld e1 T.cl_Evening T.na_Evening_bills look_bills ?_
    walk_at "go"
    refine s_repT (SqT.of e2) (by omega) (by rw [List.length_map, e3.1]; exact hbl) fun b H1 s1 hb => ?_
    rw [flatMap'] at hb
    walk_at "go"
    refine s_fld (s1 _ _ e1) T.cl_Evening T.na_Evening_seat_count look_count ?_
    refine ⟨.ref b, rfl, b, _, rfl, .inl hb, ?_⟩
    walk_at "go"
    show ∃ r, CaD _ E (.ref a.c_Evening) r ∧ r (.int (n : Nat) :: ((List.replicate k ps).flatten.map V.ref ++ [])) _ _
    rw [List.append_nil]
    exact s_evening T GI (hr.mono (by decide)) ((e3.same s1).rep k) ok fun r H2 hr2 s2 ev => q r H2 (s1.free hr2) (s1.trans s2) ev
end

/-! ### marks, numbers, indexes and tables that are refused -/
section
variable {P : Program} {w : World} {K : PySem.W.Frag} {mg : Str → Option Value} {base : Heap} {a : Ad}
/-- an error without fields is let out -/
abbrev ExNo (E : XK) (C : Addr) (H : Hp) : Prop := ∀ H', Same H H' → E (.ref C) none H'
theorem ExNo.up {E : XK} {C : Addr} {H H1 : Hp} (h : ExNo E C H) (s : Same H H1) : ExNo E C H1 := fun H' s' => h H' (s.trans s')
def spMarkX (a : Ad) : Sp := fun vs H _ E => ∃ i n : Int, vs = [.int i, .int n] ∧ ¬ (0 ≤ i ∧ i < n) ∧ ExNo E a.c_InvalidMark H
theorem ok_markX (T : Facts K mg a) : FnR P w K mg base (L2.CX P w) 2 a.f_check_mark (spMarkX a) := by
  obtain ⟨fd, F⟩ := T.u_check_mark
  have GB : FnR P w K mg base (L2.CX P w) 1 a.f_is_between spBetween := ok_between T
  refine fnr_ok F sc_check_mark (F.binds fun _ _ _ _ _ _ us hl => match us, hl with | [_, _], _ => rfl) (fun vs H Q E h => ?_) (fun cdv A outer s H vs Q E hr h => ?_)
  · obtain ⟨i, n, rfl, _⟩ := h
    rfl
  · obtain ⟨i, n, rfl, h0, ex⟩ := h
    refine ⟨_, (pss_one (ps_if (pt_not (pt_trA Like.refl pas_main (pe_glA Like.refl pas_main (by rfl) (pa_cons (pv 0) (pa_cons (pe_int) (pa_cons (pe_opA Like.refl pas_main (pv 1) (pe_int)) pa_nil)))))) (pss_one (ps_raA rfl tk_main (by rfl))) pss_nil)), ?_⟩
    walk_at "go"
    refine s_btwN GB hr (by omega) ?_
    walk_at "go"
    exact ⟨_, T.x_InvalidMark, ex _ (Same.refl _)⟩
def spTimesX (a : Ad) : Sp := fun vs H _ E => ∃ i : Int, vs = [.int i] ∧ ¬ (0 ≤ i ∧ i ≤ 10 ^ 18) ∧ ExNo E a.c_InvalidNumber H
theorem ok_timesX (T : Facts K mg a) : FnR P w K mg base (L2.CX P w) 2 a.f_check_times (spTimesX a) := by
  obtain ⟨fd, F⟩ := T.u_check_times
  have GB : FnR P w K mg base (L2.CX P w) 1 a.f_is_between spBetween := ok_between T
  refine fnr_ok F sc_check_times (F.binds fun _ _ _ _ _ _ us hl => match us, hl with | [_], _ => rfl) (fun vs H Q E h => ?_) (fun cdv A outer s H vs Q E hr h => ?_)
  · obtain ⟨i, rfl, _⟩ := h
    rfl
  · obtain ⟨i, rfl, h0, ex⟩ := h
    refine ⟨_, (pss_one (ps_if (pt_not (pt_trA Like.refl pas_main (pe_glA Like.refl pas_main (by rfl) (pa_cons (pv 0) (pa_cons (pe_int) (pa_cons (pe_gvI Like.refl (by rfl)) pa_nil)))))) (pss_one (ps_raA rfl tk_main (by rfl))) pss_nil)), ?_⟩
    walk_at "go"
    refine w_gvI T.i_MAX_TIMES.choose_spec ?_
    walk_at "go"
    refine s_btwN GB hr h0 ?_
    walk_at "go"
    exact ⟨_, T.x_InvalidNumber, ex _ (Same.refl _)⟩
def spGetX (a : Ad) : Sp := fun vs H _ E => ∃ (p : Addr) (i : Int) (n : Int) (bs : List (Int × List Int)), vs = [.ref p, .int i] ∧ EvAt a.c_Evening a.c_Bill H p n bs ∧ ¬ (0 ≤ i ∧ i < (bs.length : Nat)) ∧ ExNo E a.c_InvalidNumber H
theorem ok_getX (T : Facts K mg a) : FnR P w K mg base (L2.CX P w) 2 a.f_Evening__getitem_ (spGetX a) := by
  obtain ⟨fd, F⟩ := T.u_Evening__getitem_
  have GB : FnR P w K mg base (L2.CX P w) 1 a.f_is_between spBetween := ok_between T
  refine fnr_ok F sc_Evening__getitem_ (F.binds fun _ _ _ _ _ _ us hl => match us, hl with | [_, _], _ => rfl) (fun vs H Q E h => ?_) (fun cdv A outer s H vs Q E hr h => ?_)
  · obtain ⟨p, i, n, bs, rfl, _⟩ := h
    rfl
  · obtain ⟨p, i, n, bs, rfl, ⟨dx, t, ps, e1, e2, e3⟩, h0, ex⟩ := h
    have hl := e3.1
    refine ⟨_, (pss_cons (ps_if (pt_not (pt_trA Like.refl pas_main (pe_glA Like.refl pas_main (by rfl) (pa_cons (pv 1) (pa_cons (pe_int) (pa_cons (pe_opA Like.refl pas_main (pe_biA (id := "len") Like.refl pas_main (by rfl) (by decide +kernel) (pa_cons (pe_atA Like.refl pas_main (pv 0)) pa_nil)) (pe_int)) pa_nil)))))) (pss_one (ps_raA rfl tk_main (by rfl))) pss_nil)
    (pss_one (ps_ret (pe_ixA Like.refl pas_main (pe_atA Like.refl pas_main (pv 0)) (pv 1))))), ?_⟩
    walk_at "go"
    refine s_fld e1 T.cl_Evening T.na_Evening_bills look_bills ?_
    walk_at "go"
    refine s_lenT (SqT.of e2) ?_
    walk_at "go"
    rw [List.length_map]
    refine s_btwN GB hr (by omega) ?_
    walk_at "go"
    exact ⟨_, T.x_InvalidNumber, ex _ (Same.refl _)⟩
def spCallX (a : Ad) : Sp := fun vs H _ E => ∃ (p : Addr) (m : Int) (n : Int) (bs : List (Int × List Int)), vs = [.ref p, .int m] ∧ EvAt a.c_Evening a.c_Bill H p n bs ∧ ¬ (0 ≤ m ∧ m < n) ∧ ExNo E a.c_InvalidMark H
theorem ok_callX (T : Facts K mg a) : FnR P w K mg base (L2.CX P w) 4 a.f_Evening__call_ (spCallX a) := by
  obtain ⟨fd, F⟩ := T.u_Evening__call_
  have GM : FnR P w K mg base (L2.CX P w) 2 a.f_check_mark (spMarkX a) := ok_markX T
  refine fnr_ok F sc_Evening__call_ (F.binds fun _ _ _ _ _ _ us hl => match us, hl with | [_, _], _ => rfl) (fun vs H Q E h => ?_) (fun cdv A outer s H vs Q E hr h => ?_)
  · obtain ⟨p, m, n, bs, rfl, _⟩ := h
    rfl
  · obtain ⟨p, m, n, bs, rfl, ⟨dx, t, ps, e1, e2, e3⟩, h0, ex⟩ := h
    refine ⟨_, (pss_cons (ps_expr (pe_glA Like.refl pas_main (by rfl) (pa_cons (pv 1) (pa_cons (pe_atA Like.refl pas_main (pv 0)) pa_nil))))
    (pss_cons (ps_set (i := 2) sc_Evening__call_.nd rfl (Or.inl rfl) (pe_glA Like.refl pas_main (by rfl) (pa_cons (pe_atA Like.refl pas_main (pv 0)) pa_nil)))
    (pss_cons (ps_for own_main rfl (pi_seqA Like.refl (pe_atA Like.refl pas_main (pv 0))) (pg_name (i := 3) sc_Evening__call_.nd rfl (Or.inl rfl)) (pss_cons (ps_asg (pe_glA Like.refl pas_main (by rfl) (pa_cons (pv 3) (pa_cons (pv 1) (pa_cons (pe_atA Like.refl pas_main (pv 0)) pa_nil)))) (pg_tup rfl (pgs_cons (pg_name (i := 4) sc_Evening__call_.nd rfl (Or.inl rfl)) (pgs_cons (pg_name (i := 1) sc_Evening__call_.nd rfl (Or.inl rfl)) pgs_nil))))
    (pss_one (ps_set (i := 2) sc_Evening__call_.nd rfl (Or.inl rfl) (pe_opA Like.refl pas_main (pv 2) (pv 4))))))
    (pss_one (ps_ret (pe_tup (pa_cons (pv 2) (pa_cons (pv 1) pa_nil)))))))), ?_⟩
    walk_at "go"
    refine s_fld e1 T.cl_Evening T.na_Evening_seat_count look_count ?_
    walk_at "go"
    exact s_fn GM (hr.mono (by decide)) ⟨m, n, rfl, h0, ex⟩
def spMulX (a : Ad) : Sp := fun vs H _ E => ∃ (p : Addr) (k : Int), vs = [.ref p, .int k] ∧ ¬ (0 ≤ k ∧ k ≤ 30) ∧ ExNo E a.c_InvalidNumber H
theorem ok_mulX (T : Facts K mg a) : FnR P w K mg base (L2.CX P w) 2 a.f_Evening__mul_ (spMulX a) := by
  obtain ⟨fd, F⟩ := T.u_Evening__mul_
  have GB : FnR P w K mg base (L2.CX P w) 1 a.f_is_between spBetween := ok_between T
  refine fnr_ok F sc_Evening__mul_ (F.binds fun _ _ _ _ _ _ us hl => match us, hl with | [_, _], _ => rfl) (fun vs H Q E h => ?_) (fun cdv A outer s H vs Q E hr h => ?_)
  · obtain ⟨p, k, rfl, _⟩ := h
    rfl
  · obtain ⟨p, k, rfl, h0, ex⟩ := h
    refine ⟨_, (pss_cons (ps_if (pt_not (pt_trA Like.refl pas_main (pe_glA Like.refl pas_main (by rfl) (pa_cons (pv 1) (pa_cons (pe_int) (pa_cons (pe_atA Like.refl pas_main (pe_gvA Like.refl (by rfl))) pa_nil)))))) (pss_one (ps_raA rfl tk_main (by rfl))) pss_nil)
    (pss_cons (ps_set (i := 2) sc_Evening__mul_.nd rfl (Or.inl rfl) (pe_opA Like.refl pas_main (pe_atA Like.refl pas_main (pv 0)) (pv 1)))
    (pss_one (ps_ret (pe_glS2 Like.refl pas_main (by rfl) (pa_cons (pe_atA Like.refl pas_main (pv 0)) (pa_starA Like.refl (pv 2) pa_nil))))))), ?_⟩
    walk_at "go"
    refine s_cval T.cr_Evening T.cv_Evening_MAX_BILLS.choose_spec ?_
    walk_at "go"
    refine s_btwN GB hr h0 ?_
    walk_at "go"
    exact ⟨_, T.x_InvalidNumber, ex _ (Same.refl _)⟩
def spAddX (a : Ad) : Sp := fun vs H _ E => ∃ (p q : Addr) (n m : Nat) (bs cs : List (Int × List Int)), vs = [.ref p, .ref q] ∧ EvAt a.c_Evening a.c_Bill H p n bs ∧ EvAt a.c_Evening a.c_Bill H q m cs ∧ bs.length ≤ 100 ∧ cs.length ≤ 100 ∧
  ((n ≠ m ∧ ExNo E a.c_OtherTable H) ∨ (n = m ∧ 2 ≤ n ∧ n ≤ 8 ∧ 30 < (bs ++ cs).length ∧ (∀ b ∈ bs ++ cs, b.2 ≠ [] ∧ ∀ s ∈ b.2, s < (n : Int)) ∧ ExIx E a.c_InvalidEvening 30 H))
theorem ok_addX (T : Facts K mg a) (SP : SupP P mainF) : FnR P w K mg base (L2.CX P w) 8 a.f_Evening__add_ (spAddX a) := by
  obtain ⟨fd, F⟩ := T.u_Evening__add_
  have GI : FnR P w K mg base (L2.CX P w) 6 a.f_Evening__init_ (InitEX a) := ok_ev_initX T SP
  refine fnr_ok F sc_Evening__add_ (F.binds fun _ _ _ _ _ _ us hl => match us, hl with | [_, _], _ => rfl) (fun vs H Q E h => ?_) (fun cdv A outer s H vs Q E hr h => ?_)
  · obtain ⟨p, q, n, m, bs, cs, rfl, _⟩ := h
    rfl
  · obtain ⟨p, q, n, m, bs, cs, rfl, ⟨dx, t, ps, e1, e2, e3⟩, ⟨dy, u, qs, f1, f2, f3⟩, hbl, hcl, bad⟩ := h
    have l1 := e3.1
    have l2 := f3.1
    refine ⟨_, (pss_cons (ps_if (pt_cmpA Like.refl pas_main (pe_atA Like.refl pas_main (pv 0)) (pe_atA Like.refl pas_main (pv 1)) (nomark _)) (pss_one (ps_raA rfl tk_main (by rfl))) pss_nil)
    (pss_cons (ps_set (i := 2) sc_Evening__add_.nd rfl (Or.inl rfl) (pe_opA Like.refl pas_main (pe_atA Like.refl pas_main (pv 0)) (pe_atA Like.refl pas_main (pv 1))))
    (pss_one (ps_ret (pe_glS2 Like.refl pas_main (by rfl) (pa_cons (pe_atA Like.refl pas_main (pv 0)) (pa_starA Like.refl (pv 2) pa_nil))))))), ?_⟩
    walk_at "go"
    refine s_fld e1 T.cl_Evening T.na_Evening_seat_count look_count ?_
    walk_at "go"
    refine s_fld f1 T.cl_Evening T.na_Evening_seat_count look_count ?_
    walk_at "go"
    rcases bad with ⟨hn, ex⟩ | ⟨rfl, hn2, hn8, h30, hok, ex⟩
    · rw [decide_eq_false (show ¬ (n : Int) = (m : Int) by omega)]
      walk_at "go"
      exact ⟨_, T.x_OtherTable, ex _ (Same.refl _)⟩
    rw [decide_eq_true rfl]
    walk_at "go"
    refine s_fld e1 T.cl_Evening T.na_Evening_bills look_bills ?_
    walk_at "go"
    refine s_fld f1 T.cl_Evening T.na_Evening_bills look_bills ?_
    have fin : ∀ (b : Addr) (H1 : Hp), Same H H1 → SqT K H1 b ((ps ++ qs).map V.ref) → (tRet (tGlA (cxOf (L2.CX P w) P w K mg base N_Evening__add_ "Evening.__add__" (defScope s_Evening__add_) a.f_Evening__add_ cdv A outer s H E) E "Evening" (tCons (tAtA (cxOf (L2.CX P w) P w K mg base N_Evening__add_ "Evening.__add__" (defScope s_Evening__add_) a.f_Evening__add_ cdv A outer s H E) E "_seat_count" (tVar 0)) (StX.tStar K (tVar 2) tNil)))) { nx := fun _ H' => Q .non H', rt := Q } [some (.ref p), some (.ref q), some (.ref b)] H1 := fun b H1 s1 hb => by
      walk_at "go"
      refine s_fld (s1 _ _ e1) T.cl_Evening T.na_Evening_seat_count look_count ?_
      refine ⟨.ref b, rfl, b, _, rfl, .inl hb, ?_⟩
      walk_at "go"
      show ∃ r, CaD _ E (.ref a.c_Evening) r ∧ r (.int (n : Nat) :: ((ps ++ qs).map V.ref ++ [])) _ _
      rw [List.append_nil]
      rw [List.length_append] at h30
      exact s_eveningX T GI (hr.mono (by decide)) (bs := bs ++ cs) (i := 30) ((e3.same s1).app (f3.same s1)) (by rw [List.length_append]; omega) (.inr (.inr ⟨by omega, by omega, rfl, by rw [List.length_append]; omega, by rw [List.length_append]; omega, hok⟩)) (ex.up s1)
    refine s_catT (SqT.of e2) (SqT.of f2) (by rw [List.length_map, List.length_map]; exact sz5 (by omega)) (fun z => ?_) (fun _ z => ?_) (fun _ _ r hr0 => ?_)
    · with_reducible refine' w_name ?_
      exact fin u H (Same.refl _) (by rw [List.map_append, z, List.nil_append]; exact SqT.of f2)
    · with_reducible refine' w_name ?_
      exact fin t H (Same.refl _) (by rw [List.map_append, z, List.append_nil]; exact SqT.of e2)
    · with_reducible refine' w_name ?_
      exact fin r _ (same_new hr0) (by rw [List.map_append]; exact SqT.of upd_same)
def spRepX (a : Ad) : Sp := fun vs H _ E => ∃ (e : Addr) (m t : Int) (n : Nat) (bs : List (Int × List Int)), vs = [.ref e, .int m, .int t] ∧ EvAt a.c_Evening a.c_Bill H e n bs ∧
  ((¬ (0 ≤ m ∧ m < (n : Int)) ∧ ExNo E a.c_InvalidMark H) ∨ (0 ≤ m ∧ m < (n : Int) ∧ ¬ (0 ≤ t ∧ t ≤ 10 ^ 18) ∧ ExNo E a.c_InvalidNumber H))
theorem ok_repX (T : Facts K mg a) : FnR P w K mg base (L2.CX P w) 4 a.f_repeated (spRepX a) := by
  obtain ⟨fd, F⟩ := T.u_repeated
  have GE : FnR P w K mg base (L2.CX P w) 1 a.f_Evening_seat_count (spEvCount a.c_Evening) := ok_ev_count T
  have GM : FnR P w K mg base (L2.CX P w) 2 a.f_check_mark spCkMark := ok_check_mark T
  have GMX : FnR P w K mg base (L2.CX P w) 2 a.f_check_mark (spMarkX a) := ok_markX T
  have GTX : FnR P w K mg base (L2.CX P w) 2 a.f_check_times (spTimesX a) := ok_timesX T
  refine fnr_ok F sc_repeated (F.binds fun _ _ _ _ _ _ us hl => match us, hl with | [_, _, _], _ => rfl) (fun vs H Q E h => ?_) (fun cdv A outer s H vs Q E hr h => ?_)
  · obtain ⟨e, m, t, n, bs, rfl, _⟩ := h
    rfl
  · obtain ⟨e, m, t, n, bs, rfl, ⟨dx, tb, ps, e1, e2, e3⟩, bad⟩ := h
    refine ⟨_, (pss_cons (ps_expr (pe_glA Like.refl pas_main (by rfl) (pa_cons (pv 1) (pa_cons (pe_atA Like.refl pas_main (pv 0)) pa_nil))))
    (pss_cons (ps_expr (pe_glA Like.refl pas_main (by rfl) (pa_cons (pv 2) pa_nil)))
    (pss_cons (ps_set (i := 3) sc_repeated.nd rfl (Or.inl rfl) (pe_glA Like.refl pas_main (by rfl) (pa_cons (pe_atA Like.refl pas_main (pv 0)) pa_nil)))
    (pss_cons (ps_setLc (i := 4) (own := [("start", 5)]) (g := gName 5) (tt := tYes) rfl sc_repeated.nd rfl rfl (sw_true rfl rfl rfl (by decide +kernel)) (pi_range1 (by rfl) T.z_range (pa_cons (pe_atA Like.refl pas_main (pv 0)) pa_nil)) (blkOk_by (own := [("start", 5)]) (N := N_repeated) (sc := defScope s_repeated) (by decide +kernel)) (fun _ _ _ _ _ => (pg_name (i := 5) sc_repeated.nd rfl (by first | exact Or.inl rfl | exact Or.inr rfl))) (fun _ _ _ _ _ => pts_nil) (fun _ _ _ _ _ => (pe_coA ⟨rfl, rfl, rfl, rfl, rfl, rfl, rfl⟩ passL (pv 0) (pa_cons (pv 5) pa_nil))))
    (pss_cons (ps_while own_main (pt_cmpA Like.refl pas_main (pv 2) (pe_int) (nomark _)) (pss_cons (ps_if (pt_cmpA Like.refl pas_main (pe_opA Like.refl pas_main (pv 2) (pe_int)) (pe_int) (nomark _)) (pss_cons (ps_asg (pe_ixA Like.refl pas_main (pv 4) (pv 1)) (pg_tup rfl (pgs_cons (pg_name (i := 6) sc_repeated.nd rfl (Or.inl rfl)) (pgs_cons (pg_name (i := 1) sc_repeated.nd rfl (Or.inl rfl)) pgs_nil))))
    (pss_one (ps_set (i := 3) sc_repeated.nd rfl (Or.inl rfl) (pe_opA Like.refl pas_main (pv 3) (pv 6))))) pss_nil)
    (pss_cons (ps_set (i := 4) sc_repeated.nd rfl (Or.inl rfl) (pe_glA Like.refl pas_main (by rfl) (pa_cons (pv 4) pa_nil)))
    (pss_one (ps_set (i := 2) sc_repeated.nd rfl (Or.inl rfl) (pe_opA Like.refl pas_main (pv 2) (pe_int)))))))
    (pss_one (ps_ret (pe_tup (pa_cons (pv 3) (pa_cons (pv 1) pa_nil)))))))))), ?_⟩
    walk_at "go"
    refine s_prop T.cl_Evening T.pr_Evening_seat_count GE (hr.mono (by decide)) e1 ⟨e, dx, tb, _, rfl, e1, ?_⟩
    walk_at "go"
    rcases bad with ⟨h1, ex⟩ | ⟨h1, h2, h3, ex⟩
    · exact s_fn GMX (hr.mono (by decide)) ⟨m, n, rfl, h1, ex⟩
    · refine s_fn GM (hr.mono (by decide)) ⟨m, n, rfl, h1, h2, ?_⟩
      walk_at "go"
      exact s_fn GTX (hr.mono (by decide)) ⟨t, rfl, h3, ex⟩
def spLongX (a : Ad) : Sp := fun vs H _ E => ∃ (e : Addr) (m : Int) (n : Nat) (bs : List (Int × List Int)), vs = [.ref e, .int m] ∧ EvAt a.c_Evening a.c_Bill H e n bs ∧ ¬ (0 ≤ m ∧ m < (n : Int)) ∧ ExNo E a.c_InvalidMark H
theorem ok_longX (T : Facts K mg a) : FnR P w K mg base (L2.CX P w) 6 a.f_long_run (spLongX a) := by
  obtain ⟨fd, F⟩ := T.u_long_run
  have GE : FnR P w K mg base (L2.CX P w) 1 a.f_Evening_seat_count (spEvCount a.c_Evening) := ok_ev_count T
  have GR : FnR P w K mg base (L2.CX P w) 4 a.f_repeated (spRepX a) := ok_repX T
  refine fnr_ok F sc_long_run (F.binds fun _ _ _ _ _ _ us hl => match us, hl with | [_, _], _ => rfl) (fun vs H Q E h => ?_) (fun cdv A outer s H vs Q E hr h => ?_)
  · obtain ⟨e, m, n, bs, rfl, _⟩ := h
    rfl
  · obtain ⟨e, m, n, bs, rfl, hev, bad, ex⟩ := h
    obtain ⟨dx, tb, ps, e1, e2, e3⟩ := id hev
    refine ⟨_, (pss_cons (ps_asg (pe_glA Like.refl pas_main (by rfl) (pa_cons (pv 0) (pa_cons (pv 1) (pa_cons (pe_atA Like.refl pas_main (pv 0)) pa_nil)))) (pg_tup rfl (pgs_cons (pg_name (i := 2) sc_long_run.nd rfl (Or.inl rfl)) (pgs_cons (pg_name (i := 3) sc_long_run.nd rfl (Or.inl rfl)) pgs_nil))))
    (pss_cons (ps_asg (pe_coA Like.refl pas_main (pv 0) (pa_cons (pv 3) pa_nil)) (pg_tup rfl (pgs_cons (pg_name (i := 4) sc_long_run.nd rfl (Or.inl rfl)) (pgs_cons (pg_name (i := 1) sc_long_run.nd rfl (Or.inl rfl)) pgs_nil))))
    (pss_cons (ps_set (i := 5) sc_long_run.nd rfl (Or.inr rfl) (pe_int))
    (pss_cons (ps_while own_main (pt_cmpA Like.refl pas_main (pv 1) (pv 3) (nomark _)) (pss_cons (ps_asg (pe_coA Like.refl pas_main (pv 0) (pa_cons (pv 1) pa_nil)) (pg_tup rfl (pgs_cons (pg_name (i := 6) sc_long_run.nd rfl (Or.inl rfl)) (pgs_cons (pg_name (i := 1) sc_long_run.nd rfl (Or.inl rfl)) pgs_nil))))
    (pss_cons (ps_set (i := 4) sc_long_run.nd rfl (Or.inl rfl) (pe_opA Like.refl pas_main (pv 4) (pv 6)))
    (pss_one (ps_augA (i := 5) Like.refl pas_main sc_long_run.nd rfl (Or.inr rfl) (pe_int))))))
    (pss_one (ps_ret (pe_tyA (T := "tuple") Like.refl pas_main (by rfl) (by decide +kernel) (pa_cons (pe_lc (own := [("cents", 7)]) (g := gName 7) (tt := tYes) rfl sc_long_run.nd (pi_seqA Like.refl (pe_atA Like.refl pas_main (pv 4))) (blkOk_by (own := [("cents", 7)]) (N := N_long_run) (sc := defScope s_long_run) (by decide +kernel)) (fun _ _ _ _ _ => (pg_name (i := 7) sc_long_run.nd rfl (by first | exact Or.inl rfl | exact Or.inr rfl))) (fun _ _ _ _ _ => pts_nil) (fun _ _ _ _ _ => (pe_glA ⟨rfl, rfl, rfl, rfl, rfl, rfl, rfl⟩ passL (by rfl) (pa_cons (pv 7) (pa_cons (pv 5) pa_nil))))) pa_nil)))))))), ?_⟩
    walk_at "go"
    refine s_prop T.cl_Evening T.pr_Evening_seat_count GE (hr.mono (by decide)) e1 ⟨e, dx, tb, _, rfl, e1, ?_⟩
    walk_at "go"
    exact s_fn GR (hr.mono (by decide)) ⟨e, m, n, n, bs, rfl, hev, .inl ⟨bad, ex⟩⟩
end

end Odd

namespace Odd
open PySem PySem.Spec PyProof.Rows L2 LamX NdefX
/-! tactics of this text: st one step, go as many as go -/
local macro_rules | `(tactic| walk_at "ar") => `(tactic| first | assumption | omega | (show (_ : Int) < _; omega) | decide)
local macro_rules | `(tactic| walk_at "st") => `(tactic| first
  | with_reducible refine' w_seq ?_
  | with_reducible refine' w_asg ?_
  | with_reducible refine' w_name ?_
  | with_reducible refine' w_c ?_
  | with_reducible refine' w_op ?_
  | with_reducible refine' w_ix ?_
  | with_reducible refine' w_at ?_
  | with_reducible refine' w_cons ?_
  | with_reducible refine' w_nil ?_
  | with_reducible refine' w_ret ?_
  | with_reducible refine' w_if ?_
  | with_reducible refine' w_test ?_
  | with_reducible refine' w_tr ?_
  | with_reducible refine' w_un ?_
  | with_reducible refine' w_andV ?_
  | with_reducible refine' w_orV ?_
  | with_reducible refine' w_notA ?_
  | with_reducible refine' w_ch ?_
  | with_reducible refine' w_and ?_
  | with_reducible refine' w_or ?_
  | with_reducible refine' w_not ?_
  | with_reducible refine' w_ifx ?_
  | with_reducible refine' w_tup ?_
  | with_reducible refine' w_lst ?_
  | with_reducible refine' w_next ?_
  | with_reducible refine' w_drop ?_
  | with_reducible refine' w_retN ?_
  | ((with_reducible refine' w_var ?h ?_); (case h => exact rfl))
  | ((with_reducible refine' w_bi ?h ?_); (case h => walk_at "mg"))
  | ((with_reducible refine' w_bv ?h ?_); (case h => walk_at "mg"))
  | ((with_reducible refine' w_gv ?h ?_); (case h => walk_at "mg"))
  | ((with_reducible refine' w_gl ?h ?k ?_); (case h => walk_at "mg"); (case k => walk_at "kp"))
  | ((with_reducible refine' w_glS ?h ?k ?_); (case h => walk_at "mg"); (case k => walk_at "kp"))
  | with_reducible refine' bl_ex ?_
  | with_reducible refine' iteT ?_
  | with_reducible refine' iteF ?_
  | with_reducible refine' ite_nf ?_
  | with_reducible refine' ite_nt ?_
  | with_reducible refine' s_add ?_
  | with_reducible refine' s_sub ?_
  | with_reducible refine' s_lt ?_
  | with_reducible refine' s_le ?_
  | with_reducible refine' s_gt ?_
  | with_reducible refine' s_ge ?_
  | with_reducible refine' s_eqI ?_
  | with_reducible refine' s_neI ?_
  | with_reducible refine' s_eqB ?_
  | with_reducible refine' s_neB ?_
  | with_reducible refine' s_truB ?_
  | with_reducible refine' s_truI ?_
  | with_reducible refine' s_neg ?_
  | ((with_reducible refine' s_mod ?h ?_); (case h => walk_at "ar")))
local macro_rules | `(tactic| walk_at "go") => `(tactic| repeat walk_at "st")

local macro_rules | `(tactic| walk_at "mg") => `(tactic| first | assumption | exact Facts.z_TypeError (by assumption) | exact Facts.z_bool (by assumption) | exact Facts.z_classmethod (by assumption) | exact Facts.z_enumerate (by assumption) | exact Facts.z_int (by assumption) | exact Facts.z_isinstance (by assumption) | exact Facts.z_len (by assumption) | exact Facts.z_list (by assumption) | exact Facts.z_max (by assumption) | exact Facts.z_min (by assumption) | exact Facts.z_property (by assumption) | exact Facts.z_range (by assumption) | exact Facts.z_super (by assumption) | exact Facts.z_tuple (by assumption) | exact Facts.z_zip (by assumption) | exact Facts.g__wall (by assumption) | exact Facts.g_is_between (by assumption) | exact Facts.g_check_amount (by assumption) | exact Facts.g_check_seats (by assumption) | exact Facts.g_check_seat_count (by assumption) | exact Facts.g_check_bills (by assumption) | exact Facts.g_check_mark (by assumption) | exact Facts.g_check_times (by assumption) | exact Facts.g_no_shares (by assumption) | exact Facts.g_seats_behind (by assumption) | exact Facts.g_split_bill (by assumption) | exact Facts.g_twice (by assumption) | exact Facts.g_repeated (by assumption) | exact Facts.g_lowest_terms (by assumption) | exact Facts.g_long_run (by assumption) | exact Facts.g__law_start (by assumption) | exact Facts.g__law_drawn (by assumption) | exact Facts.g__law_same (by assumption) | exact Facts.g__law_outcome (by assumption) | exact Facts.g__law_rows (by assumption) | exact Facts.g__law_bill (by assumption) | exact Facts.g__law_evening (by assumption) | exact Facts.g__law_fault (by assumption) | exact Facts.g__law_is_bill (by assumption) | exact Facts.g__law_refused (by assumption) | exact Facts.g_law (by assumption) | exact Facts.g_Shares (by assumption) | exact Facts.g_Bill (by assumption) | exact Facts.g_Evening (by assumption))
local macro_rules | `(tactic| walk_at "kp") => `(tactic| first | assumption | exact (Facts.mk_Shares (by assumption)).kp | exact (Facts.mk_Bill (by assumption)).kp | exact (Facts.mk_Evening (by assumption)).kp | exact Fun.kp (Facts.u__wall (by assumption)).choose_spec | exact Fun.kp (Facts.u_is_between (by assumption)).choose_spec | exact Fun.kp (Facts.u_check_amount (by assumption)).choose_spec | exact Fun.kp (Facts.u_check_seats (by assumption)).choose_spec | exact Fun.kp (Facts.u_check_seat_count (by assumption)).choose_spec | exact Fun.kp (Facts.u_check_bills (by assumption)).choose_spec | exact Fun.kp (Facts.u_check_mark (by assumption)).choose_spec | exact Fun.kp (Facts.u_check_times (by assumption)).choose_spec | exact Fun.kp (Facts.u_no_shares (by assumption)).choose_spec | exact Fun.kp (Facts.u_seats_behind (by assumption)).choose_spec | exact Fun.kp (Facts.u_split_bill (by assumption)).choose_spec | exact Fun.kp (Facts.u_twice (by assumption)).choose_spec | exact Fun.kp (Facts.u_repeated (by assumption)).choose_spec | exact Fun.kp (Facts.u_lowest_terms (by assumption)).choose_spec | exact Fun.kp (Facts.u_long_run (by assumption)).choose_spec | exact Fun.kp (Facts.u__law_start (by assumption)).choose_spec | exact Fun.kp (Facts.u__law_drawn (by assumption)).choose_spec | exact Fun.kp (Facts.u__law_same (by assumption)).choose_spec | exact Fun.kp (Facts.u__law_outcome (by assumption)).choose_spec | exact Fun.kp (Facts.u__law_rows (by assumption)).choose_spec | exact Fun.kp (Facts.u__law_bill (by assumption)).choose_spec | exact Fun.kp (Facts.u__law_evening (by assumption)).choose_spec | exact Fun.kp (Facts.u__law_fault (by assumption)).choose_spec | exact Fun.kp (Facts.u__law_is_bill (by assumption)).choose_spec | exact Fun.kp (Facts.u__law_refused (by assumption)).choose_spec | exact Fun.kp (Facts.u_law (by assumption)).choose_spec)
/-! ### outcomes of calls -/
section
variable {P : Program} {w : World} {K : PySem.W.Frag} {mg : Str → Option Value} {base : Heap} {a : Ad}
def OutOf (a : Ad) (cls : Value) (d : Option Addr) (H' : Hp) (Q : VK) : Prop :=
    (cls = .ref a.c_InvalidBill ∧ ∃ (dd : Addr) (i : Int), d = some dd ∧ H' dd = some (.xd [(("index" : Str), V.int i)]) ∧ ∀ T H'', Same H' H'' → H'' T = some (.tup [.str "InvalidBill", .int i]) → Q (.ref T) H'') ∨
    (cls = .ref a.c_InvalidEvening ∧ ∃ (dd : Addr) (i : Int), d = some dd ∧ H' dd = some (.xd [(("index" : Str), V.int i)]) ∧ ∀ T H'', Same H' H'' → H'' T = some (.tup [.str "InvalidEvening", .int i]) → Q (.ref T) H'') ∨
    (cls = .ref a.c_InvalidMark ∧ ∀ T H'', Same H' H'' → H'' T = some (.tup [.str "InvalidMark"]) → Q (.ref T) H'') ∨
    (cls = .ref a.c_InvalidNumber ∧ ∀ T H'', Same H' H'' → H'' T = some (.tup [.str "InvalidNumber"]) → Q (.ref T) H'') ∨
    (cls = .ref a.c_OtherTable ∧ ∀ T H'', Same H' H'' → H'' T = some (.tup [.str "OtherTable"]) → Q (.ref T) H'')
def spOut1 (P : Program) (w : World) (K : PySem.W.Frag) (mg : Str → Option Value) (base : Heap) (a : Ad) : Sp := fun vs H Q _ => ∃ (f : Addr) (F : NF) (bd : Expr) (dV : Value) (Ef : XK), vs = [.ref f] ∧ H f = some (LamO f F bd dV) ∧ (∀ R : VK, (∀ v H', Q v H' → R v H') → CallAt P w K mg base 10 f H R Ef) ∧ ∀ cls d H', Ef cls d H' → OutOf a cls d H' Q
theorem ok_outcome1 (T : Facts K mg a) : FnR P w K mg base (L2.CX P w) 11 a.f__law_outcome (spOut1 P w K mg base a) := by
  obtain ⟨fd, F⟩ := T.u__law_outcome
  refine fnr_ok F sc__law_outcome (F.binds fun _ _ _ _ _ _ us hl => match us, hl with | [_], _ => rfl) (fun vs H Q E h => ?_) (fun cdv A outer s H vs Q E hr h => ?_)
  · obtain ⟨f, F', bd, dV, Ef, rfl, _⟩ := h
    rfl
  · obtain ⟨f, F', bd, dV, Ef, rfl, hf, hc, hE⟩ := h
    refine ⟨_, (pss_one (ps_tryM rfl rfl sc__law_outcome.nd L2.takes0 (fun W pn xe tk _ => pss_one (ps_ret (pe_actT (i := 0) (k := 10) ⟨rfl, rfl, rfl, rfl, rfl, rfl, rfl⟩ tk rfl (Or.inl rfl)))) (.named (i := 1) rfl rfl ⟨by rfl, by decide, .inl T.kg_InvalidBill⟩ (fun b oe cls d pn hz hf => (pss_one (ps_ret (pe_tup (pa_cons (pe_str) (pa_cons (pe_xfA likeS hz hf ⟨_, _, rfl⟩ (pv 1)) pa_nil)))))) (.named (i := 1) rfl rfl ⟨by rfl, by decide, .inl T.kg_InvalidEvening⟩ (fun b oe cls d pn hz hf => (pss_one (ps_ret (pe_tup (pa_cons (pe_str) (pa_cons (pe_xfA likeS hz hf ⟨_, _, rfl⟩ (pv 1)) pa_nil)))))) (.plain ⟨by rfl, by decide, .inl T.x_InvalidMark.mg⟩ (fun b oe cls d pn hz hf => (pss_one (ps_ret (pe_tup (pa_cons (pe_str) pa_nil))))) (.plain ⟨by rfl, by decide, .inl T.x_InvalidNumber.mg⟩ (fun b oe cls d pn hz hf => (pss_one (ps_ret (pe_tup (pa_cons (pe_str) pa_nil))))) (.plain ⟨by rfl, by decide, .inl T.x_OtherTable.mg⟩ (fun b oe cls d pn hz hf => (pss_one (ps_ret (pe_tup (pa_cons (pe_str) pa_nil))))) .nil))))))), ?_⟩
    walk_at "go"
    refine w_actT ⟨f, F', bd, dV, Ef, rfl, hf, hc _ (fun v H' z => z), fun cls d H1 e => ?_, hr⟩
    rcases hE cls d H1 e with ⟨rfl, dd, i, rfl, hdd, q⟩ | ⟨rfl, dd, i, rfl, hdd, q⟩ | ⟨rfl, q⟩ | ⟨rfl, q⟩ | ⟨rfl, q⟩
    · refine ⟨true, T.ex_InvalidBill_InvalidBill, fun _ b hb => ?_, fun z => nomatch z⟩
      dsimp only [suiteAt, endsAt]
      walk_at "go"
      refine w_xfA ⟨a.c_InvalidBill, T.kf_InvalidBill, T.kn_InvalidBill_index, ?_⟩
      unfold tXf
      walk_at "go"
      refine ⟨rfl, rfl, dd, _, .int i, rfl, hdd, rfl, ?_⟩
      refine ⟨by show 2 ≤ sizeLine; decide, fun p9 hp9 => ?_⟩
      exact q p9 _ (same_new hp9) upd_same
    · refine ⟨false, T.ex_InvalidEvening_InvalidBill, (fun z => nomatch z), fun _ => ⟨true, T.ex_InvalidEvening_InvalidEvening, fun _ b hb => ?_, fun z => nomatch z⟩⟩
      dsimp only [suiteAt, endsAt]
      walk_at "go"
      refine w_xfA ⟨a.c_InvalidEvening, T.kf_InvalidEvening, T.kn_InvalidEvening_index, ?_⟩
      unfold tXf
      walk_at "go"
      refine ⟨rfl, rfl, dd, _, .int i, rfl, hdd, rfl, ?_⟩
      refine ⟨by show 2 ≤ sizeLine; decide, fun p9 hp9 => ?_⟩
      exact q p9 _ (same_new hp9) upd_same
    · refine ⟨false, T.ex_InvalidMark_InvalidBill, (fun z => nomatch z), fun _ => ⟨false, T.ex_InvalidMark_InvalidEvening, (fun z => nomatch z), fun _ => ⟨true, T.ex_InvalidMark_InvalidMark, fun _ b hb => ?_, fun z => nomatch z⟩⟩⟩
      dsimp only [suiteAt]
      walk_at "go"
      refine ⟨by show 1 ≤ sizeLine; decide, fun p9 hp9 => ?_⟩
      exact q p9 _ (same_new hp9) upd_same
    · refine ⟨false, T.ex_InvalidNumber_InvalidBill, (fun z => nomatch z), fun _ => ⟨false, T.ex_InvalidNumber_InvalidEvening, (fun z => nomatch z), fun _ => ⟨false, T.ex_InvalidNumber_InvalidMark, (fun z => nomatch z), fun _ => ⟨true, T.ex_InvalidNumber_InvalidNumber, fun _ b hb => ?_, fun z => nomatch z⟩⟩⟩⟩
      dsimp only [suiteAt]
      walk_at "go"
      refine ⟨by show 1 ≤ sizeLine; decide, fun p9 hp9 => ?_⟩
      exact q p9 _ (same_new hp9) upd_same
    · refine ⟨false, T.ex_OtherTable_InvalidBill, (fun z => nomatch z), fun _ => ⟨false, T.ex_OtherTable_InvalidEvening, (fun z => nomatch z), fun _ => ⟨false, T.ex_OtherTable_InvalidMark, (fun z => nomatch z), fun _ => ⟨false, T.ex_OtherTable_InvalidNumber, (fun z => nomatch z), fun _ => ⟨true, T.ex_OtherTable_OtherTable, fun _ b hb => ?_, fun z => nomatch z⟩⟩⟩⟩⟩
      dsimp only [suiteAt]
      walk_at "go"
      refine ⟨by show 1 ≤ sizeLine; decide, fun p9 hp9 => ?_⟩
      exact q p9 _ (same_new hp9) upd_same
/-! ### the fault of a bill, found by the law -/
def faultD (i : Int) (ss : List Int) : Option Int := if 0 ≤ i ∧ i ≤ 10 ^ 12 then (faultS 0 0 ss).map fun k => (k : Int) else some (-1)
/-- what the law asks of the seat at k -/
def wrongAt (ss : List Int) (k : Nat) : Prop := ¬ (0 ≤ ss.getD k 0 ∧ ss.getD k 0 < 8) ∨ (0 < k ∧ ss.getD k 0 ≤ ss.getD (k - 1) 0)
end

end Odd

namespace Odd
open PySem PySem.Spec PyProof.Rows L2
/-! tactics of this text: st one step, go as many as go -/
local macro_rules | `(tactic| walk_at "ar") => `(tactic| first | assumption | omega | (show (_ : Int) < _; omega) | decide)
local macro_rules | `(tactic| walk_at "st") => `(tactic| first
  | with_reducible refine' w_seq ?_
  | with_reducible refine' w_asg ?_
  | with_reducible refine' w_name ?_
  | with_reducible refine' w_c ?_
  | with_reducible refine' w_op ?_
  | with_reducible refine' w_ix ?_
  | with_reducible refine' w_at ?_
  | with_reducible refine' w_cons ?_
  | with_reducible refine' w_nil ?_
  | with_reducible refine' w_ret ?_
  | with_reducible refine' w_if ?_
  | with_reducible refine' w_test ?_
  | with_reducible refine' w_tr ?_
  | with_reducible refine' w_un ?_
  | with_reducible refine' w_andV ?_
  | with_reducible refine' w_orV ?_
  | with_reducible refine' w_notA ?_
  | with_reducible refine' w_ch ?_
  | with_reducible refine' w_and ?_
  | with_reducible refine' w_or ?_
  | with_reducible refine' w_not ?_
  | with_reducible refine' w_ifx ?_
  | with_reducible refine' w_tup ?_
  | with_reducible refine' w_lst ?_
  | with_reducible refine' w_next ?_
  | with_reducible refine' w_drop ?_
  | with_reducible refine' w_retN ?_
  | ((with_reducible refine' w_var ?h ?_); (case h => exact rfl))
  | ((with_reducible refine' w_bi ?h ?_); (case h => walk_at "mg"))
  | ((with_reducible refine' w_bv ?h ?_); (case h => walk_at "mg"))
  | ((with_reducible refine' w_gv ?h ?_); (case h => walk_at "mg"))
  | ((with_reducible refine' w_gl ?h ?k ?_); (case h => walk_at "mg"); (case k => walk_at "kp"))
  | ((with_reducible refine' w_glS ?h ?k ?_); (case h => walk_at "mg"); (case k => walk_at "kp"))
  | with_reducible refine' bl_ex ?_
  | with_reducible refine' iteT ?_
  | with_reducible refine' iteF ?_
  | with_reducible refine' ite_nf ?_
  | with_reducible refine' ite_nt ?_
  | with_reducible refine' s_add ?_
  | with_reducible refine' s_sub ?_
  | with_reducible refine' s_lt ?_
  | with_reducible refine' s_le ?_
  | with_reducible refine' s_gt ?_
  | with_reducible refine' s_ge ?_
  | with_reducible refine' s_eqI ?_
  | with_reducible refine' s_neI ?_
  | with_reducible refine' s_eqB ?_
  | with_reducible refine' s_neB ?_
  | with_reducible refine' s_truB ?_
  | with_reducible refine' s_truI ?_
  | with_reducible refine' s_neg ?_
  | ((with_reducible refine' s_mod ?h ?_); (case h => walk_at "ar")))
local macro_rules | `(tactic| walk_at "go") => `(tactic| repeat walk_at "st")

local macro_rules | `(tactic| walk_at "mg") => `(tactic| first | assumption | exact Facts.z_TypeError (by assumption) | exact Facts.z_bool (by assumption) | exact Facts.z_classmethod (by assumption) | exact Facts.z_enumerate (by assumption) | exact Facts.z_int (by assumption) | exact Facts.z_isinstance (by assumption) | exact Facts.z_len (by assumption) | exact Facts.z_list (by assumption) | exact Facts.z_max (by assumption) | exact Facts.z_min (by assumption) | exact Facts.z_property (by assumption) | exact Facts.z_range (by assumption) | exact Facts.z_super (by assumption) | exact Facts.z_tuple (by assumption) | exact Facts.z_zip (by assumption) | exact Facts.g__wall (by assumption) | exact Facts.g_is_between (by assumption) | exact Facts.g_check_amount (by assumption) | exact Facts.g_check_seats (by assumption) | exact Facts.g_check_seat_count (by assumption) | exact Facts.g_check_bills (by assumption) | exact Facts.g_check_mark (by assumption) | exact Facts.g_check_times (by assumption) | exact Facts.g_no_shares (by assumption) | exact Facts.g_seats_behind (by assumption) | exact Facts.g_split_bill (by assumption) | exact Facts.g_twice (by assumption) | exact Facts.g_repeated (by assumption) | exact Facts.g_lowest_terms (by assumption) | exact Facts.g_long_run (by assumption) | exact Facts.g__law_start (by assumption) | exact Facts.g__law_drawn (by assumption) | exact Facts.g__law_same (by assumption) | exact Facts.g__law_outcome (by assumption) | exact Facts.g__law_rows (by assumption) | exact Facts.g__law_bill (by assumption) | exact Facts.g__law_evening (by assumption) | exact Facts.g__law_fault (by assumption) | exact Facts.g__law_is_bill (by assumption) | exact Facts.g__law_refused (by assumption) | exact Facts.g_law (by assumption) | exact Facts.g_Shares (by assumption) | exact Facts.g_Bill (by assumption) | exact Facts.g_Evening (by assumption))
local macro_rules | `(tactic| walk_at "kp") => `(tactic| first | assumption | exact (Facts.mk_Shares (by assumption)).kp | exact (Facts.mk_Bill (by assumption)).kp | exact (Facts.mk_Evening (by assumption)).kp | exact Fun.kp (Facts.u__wall (by assumption)).choose_spec | exact Fun.kp (Facts.u_is_between (by assumption)).choose_spec | exact Fun.kp (Facts.u_check_amount (by assumption)).choose_spec | exact Fun.kp (Facts.u_check_seats (by assumption)).choose_spec | exact Fun.kp (Facts.u_check_seat_count (by assumption)).choose_spec | exact Fun.kp (Facts.u_check_bills (by assumption)).choose_spec | exact Fun.kp (Facts.u_check_mark (by assumption)).choose_spec | exact Fun.kp (Facts.u_check_times (by assumption)).choose_spec | exact Fun.kp (Facts.u_no_shares (by assumption)).choose_spec | exact Fun.kp (Facts.u_seats_behind (by assumption)).choose_spec | exact Fun.kp (Facts.u_split_bill (by assumption)).choose_spec | exact Fun.kp (Facts.u_twice (by assumption)).choose_spec | exact Fun.kp (Facts.u_repeated (by assumption)).choose_spec | exact Fun.kp (Facts.u_lowest_terms (by assumption)).choose_spec | exact Fun.kp (Facts.u_long_run (by assumption)).choose_spec | exact Fun.kp (Facts.u__law_start (by assumption)).choose_spec | exact Fun.kp (Facts.u__law_drawn (by assumption)).choose_spec | exact Fun.kp (Facts.u__law_same (by assumption)).choose_spec | exact Fun.kp (Facts.u__law_outcome (by assumption)).choose_spec | exact Fun.kp (Facts.u__law_rows (by assumption)).choose_spec | exact Fun.kp (Facts.u__law_bill (by assumption)).choose_spec | exact Fun.kp (Facts.u__law_evening (by assumption)).choose_spec | exact Fun.kp (Facts.u__law_fault (by assumption)).choose_spec | exact Fun.kp (Facts.u__law_is_bill (by assumption)).choose_spec | exact Fun.kp (Facts.u__law_refused (by assumption)).choose_spec | exact Fun.kp (Facts.u_law (by assumption)).choose_spec)
/-! ### the fault that the law finds; what it asks of a bill -/
section
variable {P : Program} {w : World} {K : PySem.W.Frag} {mg : Str → Option Value} {base : Heap} {a : Ad}
def spFault (K : PySem.W.Frag) : Sp := fun vs H Q _ => ∃ (i : Int) (t : Addr) (ss : List Int), vs = [.int i, .ref t] ∧ SqT K H t (ss.map V.int) ∧ ss.length ≤ 1000 ∧ (faultD i ss = none → Q .non H) ∧ ∀ j, faultD i ss = some j → ∀ T H', Same H H' → H' T = some (.tup [.str "InvalidBill", .int j]) → Q (.ref T) H'
theorem asc_le7 : ∀ {ss : List Int} {lo : Int}, asc lo ss = true → ∀ s ∈ ss, lo ≤ s ∧ s ≤ 7
  | s :: ss, lo, h, x, hx => by
    simp only [asc, Bool.and_eq_true, decide_eq_true_eq] at h
    rcases List.mem_cons.1 hx with e | e
    · subst e; exact h.1
    · have := asc_le7 h.2 x e; omega
theorem faultS_cons (lo s : Int) (i : Nat) (ss : List Int) : faultS lo i (s :: ss) = if lo ≤ s ∧ s ≤ 7 then faultS (s + 1) (i + 1) ss else some i := rfl
theorem getGet {l : List Int} {i : Nat} (h : i < l.length) : l.getD i 0 = l[i] := by rw [List.getD_eq_getElem?_getD, List.getElem?_eq_getElem h]; rfl
theorem mapGet1 {l : List Int} {i : Nat} (h : i < l.length) : (l.map V.int)[i]? = some (.int (l.getD i 0)) := by rw [List.getElem?_map, List.getElem?_eq_getElem h, getGet h]; rfl
theorem ok_fault (T : Facts K mg a) : FnR P w K mg base (L2.CX P w) 1 a.f__law_fault (spFault K) := by
  obtain ⟨fd, F⟩ := T.u__law_fault
  refine fnr_ok F sc__law_fault (F.binds fun _ _ _ _ _ _ us hl => match us, hl with | [_, _], _ => rfl) (fun vs H Q E h => ?_) (fun cdv A outer s H vs Q E hr h => ?_)
  · obtain ⟨i, t, ss, rfl, _⟩ := h
    rfl
  · obtain ⟨i, t, ss, rfl, ht, hl, q0, q1⟩ := h
    have e12 : (10 : Int) ^ (12 : Int).toNat = 10 ^ 12 := by decide
    refine ⟨_, (pss_cons (ps_if (pt_not (pt_chA Like.refl pas_main (pe_int) (pv 0) (pe_opA Like.refl pas_main (pe_int) (pe_int)))) (pss_one (ps_ret (pe_tup (pa_cons (pe_str) (pa_cons (pe_opA Like.refl pas_main (pe_int) (pe_int)) pa_nil))))) pss_nil)
    (pss_cons (ps_for own_main rfl (pi_range1 (by rfl) T.z_range (pa_cons (pe_biA (id := "len") Like.refl pas_main (by rfl) (by decide +kernel) (pa_cons (pv 1) pa_nil)) pa_nil)) (pg_name (i := 2) sc__law_fault.nd rfl (Or.inl rfl)) (pss_one (ps_if (PW.pt (pw_or (pt_not (pt_chA Like.refl pas_main (pe_int) (pe_ixA Like.refl pas_main (pv 1) (pv 2)) (pe_int))) (pw_or1 (PW.pt (pw_and (pt_cmpA Like.refl pas_main (pv 2) (pe_int) (nomark _)) (pw_and1 (pt_cmpA Like.refl pas_main (pe_ixA Like.refl pas_main (pv 1) (pv 2)) (pe_ixA Like.refl pas_main (pv 1) (pe_biA (id := "max") Like.refl pas_main (by rfl) (by decide +kernel) (pa_cons (pe_opA Like.refl pas_main (pv 2) (pe_int)) (pa_cons (pe_int) pa_nil)))) (nomark _)))))))) (pss_one (ps_ret (pe_tup (pa_cons (pe_str) (pa_cons (pv 2) pa_nil))))) pss_nil)))
    (pss_one (ps_ret (pe_non))))), ?_⟩
    walk_at "go"
    have em : (0 - 1 : Int) = -1 := by decide
    have bad : ¬ (0 ≤ i ∧ i ≤ 10 ^ 12) → ∀ p9, H p9 = none → Q (.ref p9) (upd H p9 (.tup [.str "InvalidBill", .int (0 - 1)])) := fun h p9 hp9 => q1 (-1) (by unfold faultD; rw [if_neg h]) p9 _ (same_new hp9) (by rw [upd_same, em])
    refine ite_d (fun h1 => ?_) (fun h1 => ?_)
    · refine s_pow ⟨by decide, by decide, by decide⟩ ?_
      walk_at "go"
      by_cases h2 : i ≤ 10 ^ 12
      · rw [decide_eq_true (show i ≤ 10 ^ (12 : Int).toNat from h2)]
        walk_at "go"
        have q0 : faultS 0 0 ss = none → Q .non H := fun e => q0 (by unfold faultD; rw [if_pos ⟨h1, h2⟩, e]; rfl)
        have q1 : ∀ j, faultS 0 0 ss = some j → ∀ T H', Same H H' → H' T = some (.tup [.str "InvalidBill", .int (j : Nat)]) → Q (.ref T) H' := fun j e => q1 j (by unfold faultD; rw [if_pos ⟨h1, h2⟩, e]; rfl)
        refine f_rng (n := ss.length) (fun k σ H' => H' = H ∧ ∃ (lo : Int) (x : Option V), σ = [some (.int i), some (.ref t), x] ∧ 0 ≤ lo ∧ (k = 0 → lo = 0) ∧ (0 < k → lo = ss.getD (k - 1) 0 + 1) ∧ faultS 0 0 ss = faultS lo k (ss.drop k)) (fun R k => ?_) (by omega) ⟨rfl, 0, none, rfl, Int.le_refl _, fun _ => rfl, fun z => absurd z (Nat.lt_irrefl 0), rfl⟩ (fun k σ H' hk pv => ?_) (fun σ H' pv => ?_)
        · walk_at "go"
          refine s_lenT ht ?_
          rw [List.length_map]
          exact k
        · obtain ⟨rfl, lo, x, rfl, hlo, hk0, hkp, hf⟩ := pv
          rw [List.drop_eq_getElem_cons hk, ← getGet hk] at hf
          rw [faultS_cons] at hf
          refine w_name ?_
          dsimp only [List.set]
          walk_at "go"
          refine s_ixT ht (v := .int (ss.getD k 0)) (at_of (j := k) rfl (mapGet1 hk)) ?_
          walk_at "go"
          have fin : ¬ (lo ≤ ss.getD k 0 ∧ ss.getD k 0 ≤ 7) → ∀ p9, H' p9 = none → Q (.ref p9) (upd H' p9 (.tup [.str "InvalidBill", .int (k : Nat)])) := fun z p9 hp9 => q1 k (by rw [hf, if_neg z]) p9 _ (same_new hp9) upd_same
          have nxt : lo ≤ ss.getD k 0 ∧ ss.getD k 0 ≤ 7 → faultS 0 0 ss = faultS (ss.getD k 0 + 1) (k + 1) (ss.drop (k + 1)) := fun z => by rw [hf, if_pos z]
          refine ite_d (fun h3 => ?_) (fun h3 => ?_)
          · walk_at "go"
            by_cases h4 : ss.getD k 0 < 8
            · rw [decide_eq_true h4]
              walk_at "go"
              by_cases h5 : k = 0
              · rw [decide_eq_false (show ¬ ((k : Nat) : Int) > 0 by omega)]
                walk_at "go"
                have hl0 := hk0 h5
                exact ⟨rfl, ss.getD k 0 + 1, _, rfl, by omega, fun z => by omega, fun _ => by rw [Nat.add_sub_cancel], nxt ⟨by omega, by omega⟩⟩
              · rw [decide_eq_true (show ((k : Nat) : Int) > 0 by omega)]
                walk_at "go"
                have hl1 := hkp (by omega)
                refine s_ixT ht (v := .int (ss.getD k 0)) (at_of (j := k) rfl (mapGet1 hk)) ?_
                walk_at "go"
                refine s_max2 rfl ?_
                rw [show (if (0 : Int) > (k : Int) - 1 then (0 : Int) else (k : Int) - 1) = ((k - 1 : Nat) : Int) by rw [if_neg (by omega)]; omega]
                refine s_ixT ht (v := .int (ss.getD (k - 1) 0)) (at_of (j := k - 1) rfl (mapGet1 (by omega))) ?_
                walk_at "go"
                by_cases h6 : ss.getD k 0 ≤ ss.getD (k - 1) 0
                · rw [decide_eq_true h6]
                  walk_at "go"
                  refine ⟨by show 2 ≤ sizeLine; decide, fun p9 hp9 => ?_⟩
                  exact fin (by omega) p9 hp9
                · rw [decide_eq_false h6]
                  walk_at "go"
                  exact ⟨rfl, ss.getD k 0 + 1, _, rfl, by omega, fun z => by omega, fun _ => by rw [Nat.add_sub_cancel], nxt ⟨by omega, by omega⟩⟩
            · rw [decide_eq_false h4]
              walk_at "go"
              refine ⟨by show 2 ≤ sizeLine; decide, fun p9 hp9 => ?_⟩
              exact fin (by omega) p9 hp9
          · walk_at "go"
            refine ⟨by show 2 ≤ sizeLine; decide, fun p9 hp9 => ?_⟩
            exact fin (by omega) p9 hp9
        · obtain ⟨rfl, lo, x, rfl, _, _, _, hf⟩ := pv
          rw [List.drop_eq_nil_of_le (Nat.le_refl _)] at hf
          walk_at "go"
          exact q0 hf
      · rw [decide_eq_false (show ¬ i ≤ 10 ^ (12 : Int).toNat from h2)]
        walk_at "go"
        refine ⟨by show 2 ≤ sizeLine; decide, fun p9 hp9 => ?_⟩
        exact bad (fun z => h2 z.2) p9 hp9
    · walk_at "go"
      refine ⟨by show 2 ≤ sizeLine; decide, fun p9 hp9 => ?_⟩
      exact bad (fun z => h1 z.1) p9 hp9
def spHas (C : Addr) : Sp := fun vs H Q _ => ∃ (p : Addr) (s : Int) (b : Int × List Int), vs = [.ref p, .int s] ∧ BiAt C H p b ∧ Q (.bl (decide (0 ≤ s ∧ s ≤ 7) && decide (s ∈ b.2))) H
theorem ok_has (T : Facts K mg a) : FnR P w K mg base (L2.CX P w) 2 a.f_Bill__contains_ (spHas a.c_Bill) := by
  obtain ⟨fd, F⟩ := T.u_Bill__contains_
  have GB : FnR P w K mg base (L2.CX P w) 1 a.f_is_between spBetween := ok_between T
  refine fnr_ok F sc_Bill__contains_ (F.binds fun _ _ _ _ _ _ us hl => match us, hl with | [_, _], _ => rfl) (fun vs H Q E h => ?_) (fun cdv A outer s H vs Q E hr h => ?_)
  · obtain ⟨p, s, b, rfl, _⟩ := h
    rfl
  · obtain ⟨p, s, b, rfl, ⟨dx, t, e1, e2⟩, q⟩ := h
    refine ⟨_, (pss_one (ps_ret (pe_and (pe_glA Like.refl pas_main (by rfl) (pa_cons (pv 1) (pa_cons (pe_int) (pa_cons (pe_opA Like.refl pas_main (pe_atA Like.refl pas_main (pe_gvA Like.refl (by rfl))) (pe_int)) pa_nil)))) (pe_one (pe_cmpA Like.refl pas_main (pv 1) (pe_atA Like.refl pas_main (pv 0)) (by with_unfolding_all rfl)))))), ?_⟩
    walk_at "go"
    refine s_cval T.cr_Bill T.cv_Bill_MAX_SEATS.choose_spec ?_
    walk_at "go"
    by_cases h1 : 0 ≤ s ∧ s ≤ 7
    · rw [decide_eq_true h1] at q
      refine s_btwT GB hr h1.1 (by omega) ?_
      walk_at "go"
      refine s_fld e1 T.cl_Bill T.na_Bill_seats look_seats ?_
      walk_at "go"
      exact s_in (.inr (SqT.of e2)) q
    · rw [decide_eq_false h1] at q
      refine s_btwN GB hr (by omega) ?_
      walk_at "go"
      exact q
theorem bare_in {ss : List Int} {s : Nat} (h : asc 0 ss = true) : (decide (0 ≤ (s : Int) ∧ (s : Int) ≤ 7) && decide ((s : Int) ∈ ss)) = decide ((s : Int) ∈ ss) := by
  by_cases z : (s : Int) ∈ ss
  · have := asc_le7 h _ z
    rw [decide_eq_true z, decide_eq_true (show 0 ≤ (s : Int) ∧ (s : Int) ≤ 7 by omega)]
    rfl
  · rw [decide_eq_false z, Bool.and_false]
def spIsBill (a : Ad) : Sp := fun vs H Q _ => ∃ (p t : Addr) (i : Int) (ss : List Int), vs = [.ref p, .int i, .ref t] ∧ BiAt a.c_Bill H p (i, ss) ∧ H t = some (.tup (ss.map V.int)) ∧ OkBill (i, ss) ∧ ∀ H', Same H H' → Q (.bl true) H'
theorem ok_isbill (T : Facts K mg a) : FnR P w K mg base (L2.CX P w) 4 a.f__law_is_bill (spIsBill a) := by
  obtain ⟨fd, F⟩ := T.u__law_is_bill
  have GA : FnR P w K mg base (L2.CX P w) 1 a.f_Bill_amount (spBiAmount a.c_Bill) := ok_bi_amount T
  have GT : FnR P w K mg base (L2.CX P w) 1 a.f_Bill_seats (spBiSeats a.c_Bill) := ok_bi_seats T
  have GO : FnR P w K mg base (L2.CX P w) 1 a.f_Bill_odd_cents (spBiOdd a.c_Bill) := ok_bi_odd T
  have GH : FnR P w K mg base (L2.CX P w) 2 a.f_Bill__contains_ (spHas a.c_Bill) := ok_has T
  have GS : FnR P w K mg base (L2.CX P w) 2 a.f__law_same (spSame K 1) := ok_same T 1 (by decide)
  refine fnr_ok F sc__law_is_bill (F.binds fun _ _ _ _ _ _ us hl => match us, hl with | [_, _, _], _ => rfl) (fun vs H Q E h => ?_) (fun cdv A outer s H vs Q E hr h => ?_)
  · obtain ⟨p, t, i, ss, rfl, _⟩ := h
    rfl
  · obtain ⟨p, t, i, ss, rfl, bi, ht, ok, q⟩ := h
    have hr' := hr.units
    obtain ⟨dx, u, e1, e2⟩ := id bi
    have hl8 : ss.length ≤ 8 := ok_len ok
    have dS : ∀ {H' : Hp} {t' : Addr}, H' t' = some (.tup (ss.map V.int)) → Dp K H' (.ref t') (.tuple (ss.map PyData.int)) := fun e => .tup (SqT.of e) (dp_ints _)
    have okS : okN 1 (.tuple (ss.map PyData.int)) := by
      simp only [okN]
      refine ⟨by rw [List.length_map]; omega, fun x hx => ?_⟩
      obtain ⟨c, _, rfl⟩ := List.mem_map.1 hx
      simp [okN]
    refine ⟨_, (pss_cons (ps_if (PW.pt (pw_or (pt_cmpA Like.refl pas_main (pe_atA Like.refl pas_main (pv 0)) (pv 1) (nomark _)) (pw_or (pt_not (pt_trA Like.refl pas_main (pe_glA Like.refl pas_main (by rfl) (pa_cons (pe_atA Like.refl pas_main (pv 0)) (pa_cons (pv 2) pa_nil))))) (pw_or1 (pt_cmpA Like.refl pas_main (pe_atA Like.refl pas_main (pv 0)) (pe_opA Like.refl pas_main (pv 1) (pe_biA (id := "len") Like.refl pas_main (by rfl) (by decide +kernel) (pa_cons (pv 2) pa_nil))) (nomark _)))))) (pss_one (ps_ret (pe_bl))) pss_nil)
    (pss_one (ps_ret (pe_cmpA Like.refl pas_main (pe_lc (own := [("_law_seat", 3)]) (g := gName 3) (tt := _) rfl sc__law_is_bill.nd (pi_range1 (by rfl) T.z_range (pa_cons (pe_int) pa_nil)) (blkOk_by (own := [("_law_seat", 3)]) (N := N__law_is_bill) (sc := defScope s__law_is_bill) (by decide +kernel)) (fun _ _ _ _ _ => (pg_name (i := 3) sc__law_is_bill.nd rfl (by first | exact Or.inl rfl | exact Or.inr rfl))) (fun _ _ _ _ _ => pts_one (pt_cmpA ⟨rfl, rfl, rfl, rfl, rfl, rfl, rfl⟩ passL (pe_cmpA ⟨rfl, rfl, rfl, rfl, rfl, rfl, rfl⟩ passL (pv 3) (pv 0) (by with_unfolding_all rfl)) (pe_cmpA ⟨rfl, rfl, rfl, rfl, rfl, rfl, rfl⟩ passL (pv 3) (pv 2) (by with_unfolding_all rfl)) (nomark _))) (fun _ _ _ _ _ => (pv 3))) (pe_lst pa_nil) (nomark _))))), ?_⟩
    walk_at "go"
    refine s_prop T.cl_Bill T.pr_Bill_amount GA (hr.mono (by decide)) e1 ⟨p, dx, u, i, rfl, e1, ?_⟩
    walk_at "go"
    rw [decide_eq_true rfl]
    walk_at "go"
    refine s_prop T.cl_Bill T.pr_Bill_seats GT (hr.mono (by decide)) e1 ⟨p, dx, u, i, rfl, e1, ?_⟩
    walk_at "go"
    refine s_fn GS (hr.mono (by decide)) ⟨_, _, _, _, rfl, dS e2, dS ht, okS, okS, fun bb H1 s1 hbb => ?_⟩
    obtain rfl : bb = true := hbb.2 rfl
    walk_at "go"
    refine s_prop T.cl_Bill T.pr_Bill_odd_cents GO (hr.mono (by decide)) (s1 _ _ e1) ⟨p, (i, ss), rfl, bi.same s1, ok.2.2.2, ?_⟩
    walk_at "go"
    refine s_lenT (SqT.of (s1 _ _ ht)) ?_
    rw [List.length_map]
    have hlp : 0 < ss.length := List.length_pos_iff.2 ok.2.2.2
    walk_at "go"
    rw [decide_eq_true (show (i, ss).fst % (((i, ss).snd.length : Nat) : Int) = i % ((ss.length : Nat) : Int) from rfl)]
    walk_at "go"
    refine c_rng (n := 9) (fun _ => []) rfl (by decide) (fun _ _ => by decide) (fun _ => rfl) (fun j H' hj s2 => ?_) (fun r9 H9 hr9 s9 hL9 => ?_) (fun R k => by walk_at "go"; exact k)
    · have s12 := s1.trans s2
      intro K1 K0 k1 k0
      walk_at "go"
      refine s_inO T.m_Bill__contains_ GH (hr.mono (by decide)) (s12 _ _ e1) ⟨p, (j : Nat), (i, ss), rfl, bi.same s12, _, rfl, ?_⟩
      rw [bare_in ok.2.2.1]
      walk_at "go"
      refine s_in (.inr (SqT.of (s12 _ _ ht))) ?_
      walk_at "go"
      rw [decide_eq_true rfl]
      walk_at "go"
      exact k0 _ (Same.refl _) rfl
    · walk_at "go"
      refine ⟨by show 0 ≤ sizeLine; decide, fun z9 hz9 => ?_⟩
      have s10 := same_new (o := .lst []) hz9
      refine s_eqLsts hr' (cs := []) (ds := []) (SqL.of (s10 _ _ hL9)) (SqL.of upd_same) ?_
      rw [decide_eq_true rfl]
      exact q _ ((s1.trans s9).trans s10)
end

end Odd

namespace Odd
open PySem PySem.Spec PyProof.Rows L2 LamX NdefX
/-! tactics of this text: st one step, go as many as go -/
local macro_rules | `(tactic| walk_at "ar") => `(tactic| first | assumption | omega | (show (_ : Int) < _; omega) | decide)
local macro_rules | `(tactic| walk_at "st") => `(tactic| first
  | with_reducible refine' w_seq ?_
  | with_reducible refine' w_asg ?_
  | with_reducible refine' w_name ?_
  | with_reducible refine' w_c ?_
  | with_reducible refine' w_op ?_
  | with_reducible refine' w_ix ?_
  | with_reducible refine' w_at ?_
  | with_reducible refine' w_cons ?_
  | with_reducible refine' w_nil ?_
  | with_reducible refine' w_ret ?_
  | with_reducible refine' w_if ?_
  | with_reducible refine' w_test ?_
  | with_reducible refine' w_tr ?_
  | with_reducible refine' w_un ?_
  | with_reducible refine' w_andV ?_
  | with_reducible refine' w_orV ?_
  | with_reducible refine' w_notA ?_
  | with_reducible refine' w_ch ?_
  | with_reducible refine' w_and ?_
  | with_reducible refine' w_or ?_
  | with_reducible refine' w_not ?_
  | with_reducible refine' w_ifx ?_
  | with_reducible refine' w_tup ?_
  | with_reducible refine' w_lst ?_
  | with_reducible refine' w_next ?_
  | with_reducible refine' w_drop ?_
  | with_reducible refine' w_retN ?_
  | ((with_reducible refine' w_var ?h ?_); (case h => exact rfl))
  | ((with_reducible refine' w_bi ?h ?_); (case h => walk_at "mg"))
  | ((with_reducible refine' w_bv ?h ?_); (case h => walk_at "mg"))
  | ((with_reducible refine' w_gv ?h ?_); (case h => walk_at "mg"))
  | ((with_reducible refine' w_gl ?h ?k ?_); (case h => walk_at "mg"); (case k => walk_at "kp"))
  | ((with_reducible refine' w_glS ?h ?k ?_); (case h => walk_at "mg"); (case k => walk_at "kp"))
  | with_reducible refine' bl_ex ?_
  | with_reducible refine' iteT ?_
  | with_reducible refine' iteF ?_
  | with_reducible refine' ite_nf ?_
  | with_reducible refine' ite_nt ?_
  | with_reducible refine' s_add ?_
  | with_reducible refine' s_sub ?_
  | with_reducible refine' s_lt ?_
  | with_reducible refine' s_le ?_
  | with_reducible refine' s_gt ?_
  | with_reducible refine' s_ge ?_
  | with_reducible refine' s_eqI ?_
  | with_reducible refine' s_neI ?_
  | with_reducible refine' s_eqB ?_
  | with_reducible refine' s_neB ?_
  | with_reducible refine' s_truB ?_
  | with_reducible refine' s_truI ?_
  | with_reducible refine' s_neg ?_
  | ((with_reducible refine' s_mod ?h ?_); (case h => walk_at "ar")))
local macro_rules | `(tactic| walk_at "go") => `(tactic| repeat walk_at "st")

local macro_rules | `(tactic| walk_at "mg") => `(tactic| first | assumption | exact Facts.z_TypeError (by assumption) | exact Facts.z_bool (by assumption) | exact Facts.z_classmethod (by assumption) | exact Facts.z_enumerate (by assumption) | exact Facts.z_int (by assumption) | exact Facts.z_isinstance (by assumption) | exact Facts.z_len (by assumption) | exact Facts.z_list (by assumption) | exact Facts.z_max (by assumption) | exact Facts.z_min (by assumption) | exact Facts.z_property (by assumption) | exact Facts.z_range (by assumption) | exact Facts.z_super (by assumption) | exact Facts.z_tuple (by assumption) | exact Facts.z_zip (by assumption) | exact Facts.g__wall (by assumption) | exact Facts.g_is_between (by assumption) | exact Facts.g_check_amount (by assumption) | exact Facts.g_check_seats (by assumption) | exact Facts.g_check_seat_count (by assumption) | exact Facts.g_check_bills (by assumption) | exact Facts.g_check_mark (by assumption) | exact Facts.g_check_times (by assumption) | exact Facts.g_no_shares (by assumption) | exact Facts.g_seats_behind (by assumption) | exact Facts.g_split_bill (by assumption) | exact Facts.g_twice (by assumption) | exact Facts.g_repeated (by assumption) | exact Facts.g_lowest_terms (by assumption) | exact Facts.g_long_run (by assumption) | exact Facts.g__law_start (by assumption) | exact Facts.g__law_drawn (by assumption) | exact Facts.g__law_same (by assumption) | exact Facts.g__law_outcome (by assumption) | exact Facts.g__law_rows (by assumption) | exact Facts.g__law_bill (by assumption) | exact Facts.g__law_evening (by assumption) | exact Facts.g__law_fault (by assumption) | exact Facts.g__law_is_bill (by assumption) | exact Facts.g__law_refused (by assumption) | exact Facts.g_law (by assumption) | exact Facts.g_Shares (by assumption) | exact Facts.g_Bill (by assumption) | exact Facts.g_Evening (by assumption))
local macro_rules | `(tactic| walk_at "kp") => `(tactic| first | assumption | exact (Facts.mk_Shares (by assumption)).kp | exact (Facts.mk_Bill (by assumption)).kp | exact (Facts.mk_Evening (by assumption)).kp | exact Fun.kp (Facts.u__wall (by assumption)).choose_spec | exact Fun.kp (Facts.u_is_between (by assumption)).choose_spec | exact Fun.kp (Facts.u_check_amount (by assumption)).choose_spec | exact Fun.kp (Facts.u_check_seats (by assumption)).choose_spec | exact Fun.kp (Facts.u_check_seat_count (by assumption)).choose_spec | exact Fun.kp (Facts.u_check_bills (by assumption)).choose_spec | exact Fun.kp (Facts.u_check_mark (by assumption)).choose_spec | exact Fun.kp (Facts.u_check_times (by assumption)).choose_spec | exact Fun.kp (Facts.u_no_shares (by assumption)).choose_spec | exact Fun.kp (Facts.u_seats_behind (by assumption)).choose_spec | exact Fun.kp (Facts.u_split_bill (by assumption)).choose_spec | exact Fun.kp (Facts.u_twice (by assumption)).choose_spec | exact Fun.kp (Facts.u_repeated (by assumption)).choose_spec | exact Fun.kp (Facts.u_lowest_terms (by assumption)).choose_spec | exact Fun.kp (Facts.u_long_run (by assumption)).choose_spec | exact Fun.kp (Facts.u__law_start (by assumption)).choose_spec | exact Fun.kp (Facts.u__law_drawn (by assumption)).choose_spec | exact Fun.kp (Facts.u__law_same (by assumption)).choose_spec | exact Fun.kp (Facts.u__law_outcome (by assumption)).choose_spec | exact Fun.kp (Facts.u__law_rows (by assumption)).choose_spec | exact Fun.kp (Facts.u__law_bill (by assumption)).choose_spec | exact Fun.kp (Facts.u__law_evening (by assumption)).choose_spec | exact Fun.kp (Facts.u__law_fault (by assumption)).choose_spec | exact Fun.kp (Facts.u__law_is_bill (by assumption)).choose_spec | exact Fun.kp (Facts.u__law_refused (by assumption)).choose_spec | exact Fun.kp (Facts.u_law (by assumption)).choose_spec)
local macro_rules | `(tactic| walk_at "st") => `(tactic| ((with_reducible refine' w_name ?_); (try dsimp only [List.set])))

/-! ### what is refused: lambdas of a second maker -/
section
variable {P : Program} {w : World} {K : PySem.W.Frag} {mg : Str → Option Value} {base : Heap} {a : Ad}
theorem BisAt.extN {CB : Addr} {H H' : Hp} {ps : List Addr} {bs : List (Int × List Int)} (h : BisAt CB H ps bs) (k : ExtN H H') : BisAt CB H' ps bs := ⟨h.1, fun i q b e1 e2 => by
  obtain ⟨dy, u, g1, g2⟩ := h.2 i q b e1 e2
  exact ⟨dy, u, k _ _ g1 (by simp), k _ _ g2 (by simp)⟩⟩
theorem EvAt.extN {CE CB : Addr} {H H' : Hp} {p : Addr} {n : Int} {bs : List (Int × List Int)} (h : EvAt CE CB H p n bs) (k : ExtN H H') : EvAt CE CB H' p n bs := by
  obtain ⟨dx, t, ps, h1, h2, h3⟩ := h
  exact ⟨dx, t, ps, k _ _ h1 (by simp), k _ _ h2 (by simp), h3.extN k⟩
theorem upd_nl {H : Hp} {q wl : Addr} {o : HO} {l l' : List V} (hw : H wl = some (.lst l)) (e : H q = some o) (ne : ∀ l, o ≠ .lst l) : (upd H wl (.lst l')) q = some o := by
  rw [upd_ne (fun z => by rw [z, hw] at e; exact ne l (Option.some.inj e).symm)]
  exact e
theorem lo_nl {f : Addr} {F : NF} {bd : Expr} {dV : Value} (l : List V) : LamO f F bd dV ≠ .lst l := fun z => by unfold LamO at z; cases z
theorem co_nl {c : Addr} {q : Str} (l : List V) : CodeO c q ≠ .lst l := fun z => by unfold CodeO at z; cases z
theorem tabs_l0 {T : List (Addr × Str)} {H : Hp} {p : Addr} {l l' : List V} (t : Tabs T H) (h : H p = some (.lst l)) : Tabs T (upd H p (.lst l')) := tabs_b (st := p) (l := l) t (fun b o n e => by rw [upd_ne n]; exact e) h
/-- an error without fields, and what it leaves -/
abbrev EfN (C : Addr) (H : Hp) : XK := fun cls _ H' => cls = .ref C ∧ Same H H'
theorem EfN.no {C : Addr} {H H1 : Hp} (s : Same H H1) : ExNo (EfN C H) C H1 := fun _ s2 => ⟨rfl, s.trans s2⟩
theorem out_mark {R : VK} {H : Hp} (h : ∀ T H'', H'' T = some (.tup [.str "InvalidMark"]) → Same H H'' → R (.ref T) H'') : ∀ cls d H', EfN a.c_InvalidMark H cls d H' → OutOf a cls d H' R := fun _ _ _ ⟨e1, s⟩ => .inr (.inr (.inl ⟨e1, fun T H'' s2 e => h T H'' e (s.trans s2)⟩))
theorem out_num {R : VK} {H : Hp} (h : ∀ T H'', H'' T = some (.tup [.str "InvalidNumber"]) → Same H H'' → R (.ref T) H'') : ∀ cls d H', EfN a.c_InvalidNumber H cls d H' → OutOf a cls d H' R := fun _ _ _ ⟨e1, s⟩ => .inr (.inr (.inr (.inl ⟨e1, fun T H'' s2 e => h T H'' e (s.trans s2)⟩)))
theorem out_other {R : VK} {H : Hp} (h : ∀ T H'', H'' T = some (.tup [.str "OtherTable"]) → Same H H'' → R (.ref T) H'') : ∀ cls d H', EfN a.c_OtherTable H cls d H' → OutOf a cls d H' R := fun _ _ _ ⟨e1, s⟩ => .inr (.inr (.inr (.inr ⟨e1, fun T H'' s2 e => h T H'' e (s.trans s2)⟩)))
/-- a comprehension over a list that an expression makes -/
theorem c_iter {X : Cx} {g : TG} {te : Heap → TE} {vs : List Nat} {σ : L2.St} {H : Hp} {Q : VK} {tl : TE} (h : tl σ H fun v H1 => tLcB X (iSeq K fun _ H2 R => R v H2) g te vs σ H1 Q) : tLcB X (iSeq K tl) g te vs σ H Q := h
theorem s_intB {X0 : Cx} {E : XK} {H : Hp} {Q : VK} {k : Bool} (q : Q (.int (if k then 1 else 0)) H) : ∃ r, CaD X0 E (.type "int") r ∧ r [.bl k] H Q :=
  ⟨_, fun X _ _ => call_int1, .inr ⟨k, rfl, q⟩⟩
/-- outcomes in a row, each with its own tuple -/
theorem c_outsV {X : Cx} {te : Heap → TE} {vs : List Nat} {σ : L2.St} {H : Hp} {Q : VK} {l : Addr} {j : Nat} {fs : List Addr} (xs : Nat → List V) (hl : H l = some (.lst (fs.map V.ref))) (hn : fs.length ≤ 1000)
    (turn : ∀ B, CellsB X σ B → ∀ (i : Nat) (f : Addr) (H' : Hp), fs[i]? = some f → Same H H' → ∀ R : VK, (∀ T H'', H'' T = some (.tup (xs i)) → Same H' H'' → R (.ref T) H'') → te B ((wipe σ vs).set j (some (.ref f))) H' R)
    (q : ∀ p (Ts : List Addr) H', Same H H' → H' p = some (.lst (Ts.map V.ref)) → Ts.length = fs.length → (∀ k T, Ts[k]? = some T → H' T = some (.tup (xs k))) → Q (.ref p) H')
    (hw : ∀ x, wipe ((wipe σ vs).set j (some x)) vs = wipe σ vs) {tl : TE} (ht : ∀ R : VK, R (.ref l) H → tl σ H R) : tLcB X (iSeq K tl) (gName j) te vs σ H Q := by
  refine c_listB (a := l) (xs := fs.map V.ref) (fun _ => False) (fun i o H' => ∃ Ts : List Addr, o = Ts.map V.ref ∧ Ts.length = i ∧ ∀ k T, Ts[k]? = some T → H' T = some (.tup (xs k))) (fun _ z => z.elim) (fun D hD => ⟨[], rfl, rfl, fun k T z => by simp at z⟩) (fun i o H' hi p => ?_) (fun H' s => SqL.of (s _ _ id hl))
    (fun i o H' D l1 l2 hD hd p => ?_) hw (fun B hB i x H' o hx s p R hR => ?_) (fun p o H' hp s pv hL => ?_) ht
  · obtain ⟨Ts, rfl, h, _⟩ := p
    rw [List.length_map] at hi ⊢
    omega
  · obtain ⟨Ts, rfl, h, hT⟩ := p
    exact ⟨Ts, rfl, h, fun k T m => by rw [upd_ne (fun z => by have e := hT k T m; rw [z, hd] at e; cases e)]; exact hT k T m⟩
  · rw [List.getElem?_map] at hx
    cases e : fs[i]? with
    | none => rw [e] at hx; cases hx
    | some f =>
      rw [e] at hx
      cases hx
      obtain ⟨Ts, rfl, h, hT⟩ := p
      refine turn B hB i f H' e (fun b o eb => s b o id eb) R fun T H'' eT s2 => hR _ _ (Same.b s2) ⟨Ts ++ [T], by rw [List.map_append]; rfl, by rw [List.length_append, h]; rfl, fun k T' m => ?_⟩
      by_cases hk : k < Ts.length
      · rw [List.getElem?_append_left hk] at m
        exact s2 _ _ (hT k T' m)
      · rw [List.getElem?_append_right (by omega)] at m
        cases z : k - Ts.length with
        | zero =>
          rw [z] at m
          cases m
          obtain rfl : k = i := by omega
          exact eT
        | succ y => rw [z] at m; simp at m
  · obtain ⟨Ts, rfl, h, hT⟩ := pv
    exact q p Ts H' (fun b o eb => s b o id eb) hL (by rw [h, List.length_map]) hT
theorem dp_outsV {H : Hp} {xs : Nat → List V} {ds : Nat → List PyData} {p : Addr} {Ts : List Addr} (hp : H p = some (.lst (Ts.map V.ref))) (hT : ∀ k T, Ts[k]? = some T → H T = some (.tup (xs k))) (hx : ∀ k, DpAll K H (xs k) (ds k)) : Dp K H (.ref p) (.list ((List.range Ts.length).map fun k => .tuple (ds k))) := by
  refine .lst (SqL.of hp) ?_
  clear hp
  have go : ∀ (Us : List Addr) (lo : Nat), (∀ k T, Us[k]? = some T → H T = some (.tup (xs (lo + k)))) → DpAll K H (Us.map V.ref) ((List.range' lo Us.length).map fun k => .tuple (ds k)) := fun Us => by
    induction Us with
    | nil => exact fun _ _ => .nil
    | cons U Us ih =>
      intro lo h
      rw [List.length_cons, List.range'_succ, List.map_cons, List.map_cons]
      exact .cons (.tup (SqT.of (h 0 U rfl)) (hx _)) (ih (lo + 1) fun k T m => by rw [show lo + 1 + k = lo + (k + 1) by omega]; exact h (k + 1) T m)
  rw [List.range_eq_range']
  exact go Ts 0 fun k T m => by rw [Nat.zero_add]; exact hT k T m
theorem c_outsX {X : Cx} {te : Heap → TE} {vs : List Nat} {σ : L2.St} {H : Hp} {Q : VK} {l : Addr} {j : Nat} {fs : List Addr} (xs : List V) (hl : H l = some (.lst (fs.map V.ref))) (hn : fs.length ≤ 1000)
    (turn : ∀ B, CellsB X σ B → ∀ (i : Nat) (f : Addr) (H' : Hp), fs[i]? = some f → Same H H' → ∀ R : VK, (∀ T H'', H'' T = some (.tup xs) → Same H' H'' → R (.ref T) H'') → te B ((wipe σ vs).set j (some (.ref f))) H' R)
    (q : ∀ p (Ts : List Addr) H', Same H H' → H' p = some (.lst (Ts.map V.ref)) → Ts.length = fs.length → (∀ T ∈ Ts, H' T = some (.tup xs)) → Q (.ref p) H')
    (hw : ∀ x, wipe ((wipe σ vs).set j (some x)) vs = wipe σ vs) {tl : TE} (ht : ∀ R : VK, R (.ref l) H → tl σ H R) : tLcB X (iSeq K tl) (gName j) te vs σ H Q :=
  c_outsV (fun _ => xs) hl hn turn (fun p Ts H' s hp hL hT => q p Ts H' s hp hL fun T m => by
    obtain ⟨k, e⟩ := List.mem_iff_getElem?.1 m
    exact hT k T e) hw ht
theorem dp_outsX {H : Hp} {xs : List V} {ds : List PyData} {p : Addr} {Ts : List Addr} (hp : H p = some (.lst (Ts.map V.ref))) (hT : ∀ T ∈ Ts, H T = some (.tup xs)) (hx : DpAll K H xs ds) : Dp K H (.ref p) (.list (List.replicate Ts.length (.tuple ds))) := by
  refine .lst (SqL.of hp) ?_
  clear hp
  induction Ts with
  | nil => exact .nil
  | cons T Ts ih => exact .cons (.tup (SqT.of (hT T (List.mem_cons_self ..))) hx) (ih fun T' m => hT T' (List.mem_cons_of_mem _ m))
theorem flatten4 (T : V) : ((List.replicate (4 : Int).toNat [T]).flatten) = [T, T, T, T] := rfl
theorem flatten6 (T : V) : ((List.replicate (6 : Int).toNat [T]).flatten) = [T, T, T, T, T, T] := rfl
def spRefused (a : Ad) : Sp := fun vs H Q _ => ∃ (n : Nat) (ev p : Addr) (rs : List Addr) (rows : List (Int × List Int)), vs = [.int n, .ref ev, .ref p] ∧ Tabs (TL a) H ∧ EvAt a.c_Evening a.c_Bill H ev n rows ∧ H p = some (.lst (rs.map V.ref)) ∧ rs.length = rows.length ∧ OkEv n rows ∧ rows.length ≤ 5 ∧ ∀ H', ExtN H H' → Tabs (TL a) H' → Q (.bl true) H'
set_option maxHeartbeats 20000000 in
theorem ok_refused (T : Facts K mg a) (SP : SupP P mainF) {fd : FuncData} (F : Fun K "_law_refused" "_law_refused" s__law_refused a.f__law_refused fd) (hc : fd.code = .ref a.k__law_refused) (TB__law_refused : TabB base mg a.k__law_refused a.t__law_refused) : FnOk P w K mg base (L2.CX P w) 13 a.f__law_refused fd ["_law_count", "_law_evening_here", "_law_rows_here"] (spRefused a) := by
  have GO : ∀ B : Heap, FnR P w K mg B (L2.CX P w) 11 a.f__law_outcome (spOut1 P w K mg B a) := fun B => ok_outcome1 T
  have GCX : ∀ B : Heap, FnR P w K mg B (L2.CX P w) 4 a.f_Evening__call_ (spCallX a) := fun B => ok_callX T
  have GRX : ∀ B : Heap, FnR P w K mg B (L2.CX P w) 4 a.f_repeated (spRepX a) := fun B => ok_repX T
  have GLX : ∀ B : Heap, FnR P w K mg B (L2.CX P w) 6 a.f_long_run (spLongX a) := fun B => ok_longX T
  have GGX : ∀ B : Heap, FnR P w K mg B (L2.CX P w) 2 a.f_Evening__getitem_ (spGetX a) := fun B => ok_getX T
  have GUX : ∀ B : Heap, FnR P w K mg B (L2.CX P w) 2 a.f_Evening__mul_ (spMulX a) := fun B => ok_mulX T
  have GAX : ∀ B : Heap, FnR P w K mg B (L2.CX P w) 8 a.f_Evening__add_ (spAddX a) := fun B => ok_addX T SP
  have GEM : FnR P w K mg base (L2.CX P w) 6 a.f_Evening__mul_ (spEvMul a.c_Evening a.c_Bill) := ok_ev_mul T
  have GEL : FnR P w K mg base (L2.CX P w) 1 a.f_Evening__len_ (spEvLen a.c_Evening a.c_Bill) := ok_ev_len T
  have GEC : FnR P w K mg base (L2.CX P w) 1 a.f_Evening_seat_count (spEvCount a.c_Evening) := ok_ev_count T
  have GI : FnR P w K mg base (L2.CX P w) 4 a.f_Evening__init_ (InitE a.c_Evening a.c_Bill) := ok_ev_init T
  refine okXC F hc sc__law_refused (fun vs H Q E h => ?_) (fun A outer s H vs Q E hr h => ?_)
  · obtain ⟨n, ev, p, rs, rows, rfl, _⟩ := h
    rfl
  · obtain ⟨n, ev, p, rs, rows, rfl, tab0, hev, hp, hrl, okr, h5, q⟩ := h
    have hr' := hr.units
    have hn2 := okr.1
    have hn8 := okr.2.1
    refine ⟨_, (pss_cons (ps_set (i := 3) sc__law_refused.nd rfl (Or.inl rfl) (pe_lst (pa_cons (pe_lam0 (T := TL a) TB__law_refused rfl (tl_in__law_refused rfl) (tl_one__law_refused T rfl) (lamS_by (by kernel_rfl)) rfl rfl) (pa_cons (pe_lam1 (T := TL a) TB__law_refused rfl (tl_in__law_refused rfl) (tl_one__law_refused T rfl) (lamS_by (by kernel_rfl)) rfl rfl) (pa_cons (pe_lam1 (T := TL a) TB__law_refused rfl (tl_in__law_refused rfl) (tl_one__law_refused T rfl) (lamS_by (by kernel_rfl)) rfl rfl) pa_nil)))))
    (pss_cons (ps_if (pt_cmpA Like.refl pas_main (pe_lcB (own := [("_law_work", 4)]) (g := gName 4) rfl (fun _ => rfl) sc__law_refused.nd (pi_seqA Like.refl (pe_opA Like.refl pas_main (pv 3) (pe_lst (pa_cons (pe_lam1 (T := TL a) TB__law_refused rfl (tl_in__law_refused rfl) (tl_one__law_refused T rfl) (lamS_by (by kernel_rfl)) rfl rfl) pa_nil)))) (blkOk_by (own := [("_law_work", 4)]) (N := N__law_refused) (sc := defScope s__law_refused) (by decide +kernel)) (fun _ _ _ _ _ _ => (pg_name (i := 4) sc__law_refused.nd rfl (by first | exact Or.inl rfl | exact Or.inr rfl))) (fun _ _ _ _ _ B => pe_glA (X0 := rb _ B) ⟨rfl, rfl, rfl, rfl, rfl, rfl, rfl⟩ passL (by rfl) (pa_cons (pv 4) pa_nil))) (pe_opA Like.refl pas_main (pe_lst (pa_cons (pe_tup (pa_cons (pe_str) pa_nil)) pa_nil)) (pe_int)) (nomark _)) (pss_one (ps_ret (pe_bl))) pss_nil)
    (pss_cons (ps_set (i := 3) sc__law_refused.nd rfl (Or.inl rfl) (pe_lst (pa_cons (pe_lam0 (T := TL a) TB__law_refused rfl (tl_in__law_refused rfl) (tl_one__law_refused T rfl) (lamS_by (by kernel_rfl)) rfl rfl) (pa_cons (pe_lam1 (T := TL a) TB__law_refused rfl (tl_in__law_refused rfl) (tl_one__law_refused T rfl) (lamS_by (by kernel_rfl)) rfl rfl) (pa_cons (pe_lam1 (T := TL a) TB__law_refused rfl (tl_in__law_refused rfl) (tl_one__law_refused T rfl) (lamS_by (by kernel_rfl)) rfl rfl) pa_nil)))))
    (pss_cons (ps_set (i := 3) sc__law_refused.nd rfl (Or.inl rfl) (pe_opA Like.refl pas_main (pv 3) (pe_lst (pa_cons (pe_lam1 (T := TL a) TB__law_refused rfl (tl_in__law_refused rfl) (tl_one__law_refused T rfl) (lamS_by (by kernel_rfl)) rfl rfl) (pa_cons (pe_lam1 (T := TL a) TB__law_refused rfl (tl_in__law_refused rfl) (tl_one__law_refused T rfl) (lamS_by (by kernel_rfl)) rfl rfl) pa_nil)))))
    (pss_cons (ps_expr (pe_bm PySem.F.plainAttrs_list PySem.F.slot_list_append PySem.F.type_list_append mt_append (pv 3) (pa_cons (pe_lam1 (T := TL a) TB__law_refused rfl (tl_in__law_refused rfl) (tl_one__law_refused T rfl) (lamS_by (by kernel_rfl)) rfl rfl) pa_nil)))
    (pss_cons (ps_if (pt_cmpA Like.refl pas_main (pe_lcB (own := [("_law_work", 4)]) (g := gName 4) rfl (fun _ => rfl) sc__law_refused.nd (pi_seqA Like.refl (pv 3)) (blkOk_by (own := [("_law_work", 4)]) (N := N__law_refused) (sc := defScope s__law_refused) (by decide +kernel)) (fun _ _ _ _ _ _ => (pg_name (i := 4) sc__law_refused.nd rfl (by first | exact Or.inl rfl | exact Or.inr rfl))) (fun _ _ _ _ _ B => pe_glA (X0 := rb _ B) ⟨rfl, rfl, rfl, rfl, rfl, rfl, rfl⟩ passL (by rfl) (pa_cons (pv 4) pa_nil))) (pe_opA Like.refl pas_main (pe_lst (pa_cons (pe_tup (pa_cons (pe_str) pa_nil)) pa_nil)) (pe_int)) (nomark _)) (pss_one (ps_ret (pe_bl))) pss_nil)
    (pss_cons (ps_if (PW.pt (pw_or (pt_cmpA Like.refl pas_main (pe_biA (id := "len") Like.refl pas_main (by rfl) (by decide +kernel) (pa_cons (pe_opA Like.refl pas_main (pv 1) (pe_int)) pa_nil)) (pe_int) (nomark _)) (pw_or1 (pt_cmpA Like.refl pas_main (pe_atA Like.refl pas_main (pe_opA Like.refl pas_main (pv 1) (pe_int))) (pv 0) (nomark _))))) (pss_one (ps_ret (pe_bl))) pss_nil)
    (pss_cons (ps_set (i := 5) sc__law_refused.nd rfl (Or.inr rfl) (pe_glA Like.refl pas_main (by rfl) (pa_cons (pe_opA Like.refl pas_main (pe_opA Like.refl pas_main (pe_opA Like.refl pas_main (pv 0) (pe_int)) (pe_int)) (pe_tyA (T := "int") Like.refl pas_main (by rfl) (by decide +kernel) (pa_cons (pe_cmpA Like.refl pas_main (pv 0) (pe_int) (nomark _)) pa_nil))) pa_nil)))
    (pss_one (ps_ret (pe_cmpA Like.refl pas_main (pe_glB pas_main (fun _ => rfl) (by rfl) (pa_cons (pe_lam0 (T := TL a) TB__law_refused rfl (tl_in__law_refused rfl) (tl_one__law_refused T rfl) (lamS_by (by kernel_rfl)) rfl rfl) pa_nil)) (pe_tup (pa_cons (pe_str) pa_nil)) (nomark _)))))))))))), ?_⟩
    walk_at "go"
    refine ⟨tab0, fun f0 c0 H1 E1 n1 tab1 _ g0_0 k0_0 => ?_⟩
    try dsimp only [List.set]
    have g0 := g0_0
    have k0 := k0_0
    have EE1 := E1
    clear g0_0 k0_0
    walk_at "go"
    refine ⟨tab1, fun f1 c1 d1 H2 E2 n2 tab2 _ g1_0 k1_0 m1_0 => ?_⟩
    try dsimp only [List.set]
    have g0 := E2 _ _ g0 lamO_ne
    have k0 := E2 _ _ k0 codeO_ne
    have g1 := g1_0
    have k1 := k1_0
    have m1 := m1_0
    have EE2 := EE1.trans E2
    clear g1_0 k1_0 m1_0
    walk_at "go"
    refine ⟨tab2, fun f2 c2 d2 H3 E3 n3 tab3 _ g2_0 k2_0 m2_0 => ?_⟩
    try dsimp only [List.set]
    have g0 := E3 _ _ g0 lamO_ne
    have k0 := E3 _ _ k0 codeO_ne
    have g1 := E3 _ _ g1 lamO_ne
    have k1 := E3 _ _ k1 codeO_ne
    have m1 := E3 _ _ m1 (by simp)
    have g2 := g2_0
    have k2 := k2_0
    have m2 := m2_0
    have EE3 := EE2.trans E3
    clear g2_0 k2_0 m2_0
    walk_at "go"
    refine ⟨by show 3 ≤ sizeLine; decide, fun w1 hw1 => ?_⟩
    have S4 := same_new (o := .lst [.ref f0, .ref f1, .ref f2]) hw1
    have g0 := S4 _ _ g0
    have k0 := S4 _ _ k0
    have g1 := S4 _ _ g1
    have k1 := S4 _ _ k1
    have m1 := S4 _ _ m1
    have g2 := S4 _ _ g2
    have k2 := S4 _ _ k2
    have m2 := S4 _ _ m2
    have EE4 : ExtN H _ := EE3.trans (keepN S4)
    have tab4 := tabs_same tab3 S4
    have hw_w1 : (upd H3 w1 (.lst [.ref f0, .ref f1, .ref f2])) w1 = some (.lst [.ref f0, .ref f1, .ref f2]) := upd_same
    generalize upd H3 w1 (.lst [.ref f0, .ref f1, .ref f2]) = H4 at *
    walk_at "go"
    try dsimp only [List.set]
    walk_at "go"
    refine c_iter ?_
    walk_at "go"
    refine ⟨tab4, fun f3 c3 d3 H5 E5 n5 tab5 _ g3_0 k3_0 m3_0 => ?_⟩
    try dsimp only [List.set]
    have g0 := E5 _ _ g0 lamO_ne
    have k0 := E5 _ _ k0 codeO_ne
    have g1 := E5 _ _ g1 lamO_ne
    have k1 := E5 _ _ k1 codeO_ne
    have m1 := E5 _ _ m1 (by simp)
    have g2 := E5 _ _ g2 lamO_ne
    have k2 := E5 _ _ k2 codeO_ne
    have m2 := E5 _ _ m2 (by simp)
    have g3 := g3_0
    have k3 := k3_0
    have m3 := m3_0
    have EE5 := EE4.trans E5
    clear g3_0 k3_0 m3_0
    have hw_w1 := E5 _ _ hw_w1 (by simp)
    walk_at "go"
    refine ⟨by show 1 ≤ sizeLine; decide, fun w2 hw2 => ?_⟩
    have S6 := same_new (o := .lst [.ref f3]) hw2
    have g0 := S6 _ _ g0
    have k0 := S6 _ _ k0
    have g1 := S6 _ _ g1
    have k1 := S6 _ _ k1
    have m1 := S6 _ _ m1
    have g2 := S6 _ _ g2
    have k2 := S6 _ _ k2
    have m2 := S6 _ _ m2
    have g3 := S6 _ _ g3
    have k3 := S6 _ _ k3
    have m3 := S6 _ _ m3
    have EE6 : ExtN H _ := EE5.trans (keepN S6)
    have tab6 := tabs_same tab5 S6
    have hw_w2 : (upd H5 w2 (.lst [.ref f3])) w2 = some (.lst [.ref f3]) := upd_same
    generalize upd H5 w2 (.lst [.ref f3]) = H6 at *
    have hw_w1 := S6 _ _ hw_w1
    walk_at "go"
    refine s_cat hw_w1 hw_w2 (by show 4 ≤ sizeLine; decide) fun w3 hw3 => ?_
    have S7 := same_new (o := .lst ([.ref f0, .ref f1, .ref f2] ++ [.ref f3])) hw3
    have g0 := S7 _ _ g0
    have k0 := S7 _ _ k0
    have g1 := S7 _ _ g1
    have k1 := S7 _ _ k1
    have m1 := S7 _ _ m1
    have g2 := S7 _ _ g2
    have k2 := S7 _ _ k2
    have m2 := S7 _ _ m2
    have g3 := S7 _ _ g3
    have k3 := S7 _ _ k3
    have m3 := S7 _ _ m3
    have EE7 : ExtN H _ := EE6.trans (keepN S7)
    have tab7 := tabs_same tab6 S7
    have hw_w3 : (upd H6 w3 (.lst ([.ref f0, .ref f1, .ref f2] ++ [.ref f3]))) w3 = some (.lst ([.ref f0, .ref f1, .ref f2] ++ [.ref f3])) := upd_same
    generalize upd H6 w3 (.lst ([.ref f0, .ref f1, .ref f2] ++ [.ref f3])) = H7 at *
    clear hw_w1 hw_w2
    try dsimp only
    have gw : H7 w3 = some (.lst ([f0, f1, f2, f3].map V.ref)) := hw_w3
    refine c_outsX [.str "InvalidMark"] (l := w3) (fs := [f0, f1, f2, f3]) gw (by show 4 ≤ 1000; decide) (fun B hB i f H' hi s R hR => ?_) (fun p8 Ts8 H8 s8 hp8 hlT8 hT8 => ?_) (fun _ => rfl) (fun R k => ?_)
    · have hev9 := hev.extN (EE7.trans (keepN s))
      have hp9 := (EE7.trans (keepN s)) _ _ hp (by simp)
      obtain ⟨dx9, tb9, ps9, i1, i2, i3⟩ := id hev9
      walk_at "go"
      match i, hi with
      | 0, hi =>
        obtain rfl : f0 = f := Option.some.inj hi
        refine s_fn (GO B) (hr.mono (by decide)) ⟨f0, _, _, _, EfN a.c_InvalidMark H', rfl, s _ _ g0, fun R9 hR9 => ?_, out_mark hR⟩
        refine lam_go (k := 9) ["_law_evening_here", "_law_count"] [] ["_law_evening_here", "_law_count"] [1, 0] [some (.ref ev), some (.int n)] hB (by kernel_rfl) (by kernel_rfl) (s _ _ g0) (s _ _ k0) rfl rfl (fun s doc pm ctv _ => lam_bind0 rfl) (fun A2 outer2 s3 hr3 => ⟨_, (pe_coA Like.refl pas_lam (pv 0) (pa_cons (pv 1) pa_nil)), ?_⟩)
        walk_at "go"
        refine w_coA ?_
        walk_at "go"
        refine ⟨ev, rfl, ?_⟩
        walk_at "go"
        exact ⟨⟨_, _, _, i1⟩, s_callO i1 T.co_Evening (GCX B) (hr3.mono (by decide)) ⟨ev, n, n, rows, rfl, hev9, by omega, EfN.no (Same.refl _)⟩⟩
      | 1, hi =>
        obtain rfl : f1 = f := Option.some.inj hi
        refine s_fn (GO B) (hr.mono (by decide)) ⟨f1, _, _, _, EfN a.c_InvalidMark H', rfl, s _ _ g1, fun R9 hR9 => ?_, out_mark hR⟩
        refine lam_go (k := 9) (vs := [.int 0]) ["_law_a", "_law_evening_here"] ["_law_a"] ["_law_evening_here"] [1] [some (.ref ev)] hB (by kernel_rfl) (by kernel_rfl) (s _ _ g1) (s _ _ k1) rfl rfl (fun s4 doc pm ctv hok => lam_bind1 hok (s _ _ m1) rfl (fun _ => rfl)) (fun A2 outer2 s3 hr3 => ⟨_, (pe_coA Like.refl pas_lam (pv 1) (pa_cons (pe_opA Like.refl pas_lam (pe_int) (pe_int)) pa_nil)), ?_⟩)
        walk_at "go"
        refine w_coA ?_
        walk_at "go"
        refine ⟨ev, rfl, ?_⟩
        walk_at "go"
        exact ⟨⟨_, _, _, i1⟩, s_callO i1 T.co_Evening (GCX B) (hr3.mono (by decide)) ⟨ev, _, n, rows, rfl, hev9, by omega, EfN.no (Same.refl _)⟩⟩
      | 2, hi =>
        obtain rfl : f2 = f := Option.some.inj hi
        refine s_fn (GO B) (hr.mono (by decide)) ⟨f2, _, _, _, EfN a.c_InvalidMark H', rfl, s _ _ g2, fun R9 hR9 => ?_, out_mark hR⟩
        refine lam_go (k := 9) (vs := [.int 0]) ["_law_b", "_law_evening_here", "_law_count"] ["_law_b"] ["_law_evening_here", "_law_count"] [1, 0] [some (.ref ev), some (.int n)] hB (by kernel_rfl) (by kernel_rfl) (s _ _ g2) (s _ _ k2) rfl rfl (fun s4 doc pm ctv hok => lam_bind1 hok (s _ _ m2) rfl (fun _ => rfl)) (fun A2 outer2 s3 hr3 => ⟨_, (pe_glA Like.refl pas_lam (by rfl) (pa_cons (pv 1) (pa_cons (pv 2) (pa_cons (pe_opA Like.refl pas_lam (pe_int) (pe_int)) pa_nil)))), ?_⟩)
        walk_at "go"
        exact s_fn (GRX B) (hr3.mono (by decide)) ⟨ev, _, _, n, rows, rfl, hev9, .inl ⟨by omega, EfN.no (Same.refl _)⟩⟩
      | 3, hi =>
        obtain rfl : f3 = f := Option.some.inj hi
        refine s_fn (GO B) (hr.mono (by decide)) ⟨f3, _, _, _, EfN a.c_InvalidMark H', rfl, s _ _ g3, fun R9 hR9 => ?_, out_mark hR⟩
        refine lam_go (k := 9) (vs := [.int 0]) ["_law_c", "_law_evening_here"] ["_law_c"] ["_law_evening_here"] [1] [some (.ref ev)] hB (by kernel_rfl) (by kernel_rfl) (s _ _ g3) (s _ _ k3) rfl rfl (fun s4 doc pm ctv hok => lam_bind1 hok (s _ _ m3) rfl (fun _ => rfl)) (fun A2 outer2 s3 hr3 => ⟨_, (pe_glA Like.refl pas_lam (by rfl) (pa_cons (pv 1) (pa_cons (pe_opA Like.refl pas_lam (pe_int) (pe_int)) pa_nil))), ?_⟩)
        walk_at "go"
        exact s_fn (GLX B) (hr3.mono (by decide)) ⟨ev, _, n, rows, rfl, hev9, by omega, EfN.no (Same.refl _)⟩
      | i + 4, hi => cases hi
    · walk_at "go"
      clear g0 k0
      clear g1 k1 m1
      clear g2 k2 m2
      clear g3 k3 m3
      have tab8 := tabs_same tab7 s8
      have EE8 := EE7.trans (keepN s8)
      refine ⟨by show 1 ≤ sizeLine; decide, fun U8 hU8 => ?_⟩
      have S9 := same_new (o := .tup [.str "InvalidMark"]) hU8
      have EE9 : ExtN H _ := EE8.trans (keepN S9)
      have tab9 := tabs_same tab8 S9
      have hw_U8 : (upd H8 U8 (.tup [.str "InvalidMark"])) U8 = some (.tup [.str "InvalidMark"]) := upd_same
      generalize upd H8 U8 (.tup [.str "InvalidMark"]) = H9 at *
      walk_at "go"
      refine ⟨by show 1 ≤ sizeLine; decide, fun q8 hq8 => ?_⟩
      have S10 := same_new (o := .lst [.ref U8]) hq8
      have EE10 : ExtN H _ := EE9.trans (keepN S10)
      have tab10 := tabs_same tab9 S10
      have hw_q8 : (upd H9 q8 (.lst [.ref U8])) q8 = some (.lst [.ref U8]) := upd_same
      generalize upd H9 q8 (.lst [.ref U8]) = H10 at *
      walk_at "go"
      refine s_rep hw_q8 (by decide) (by decide) (by show 4 ≤ sizeLine; decide) fun r8 hr8 => ?_
      have S11 := same_new (o := .lst (List.replicate (4 : Int).toNat [V.ref U8]).flatten) hr8
      have EE11 : ExtN H _ := EE10.trans (keepN S11)
      have tab11 := tabs_same tab10 S11
      have hw_r8 : (upd H10 r8 (.lst (List.replicate (4 : Int).toNat [V.ref U8]).flatten)) r8 = some (.lst (List.replicate (4 : Int).toNat [V.ref U8]).flatten) := upd_same
      generalize upd H10 r8 (.lst (List.replicate (4 : Int).toNat [V.ref U8]).flatten) = H11 at *
      have hx : DpAll K H11 [.str "InvalidMark"] [.str "InvalidMark"] := .cons (.str _) .nil
      have sT : Same H8 H11 := (S9.trans S10).trans S11
      have eT : H11 U8 = some (.tup [.str "InvalidMark"]) := S11 _ _ (S10 _ _ hw_U8)
      have e9 : H11 r8 = some (.lst ([U8, U8, U8, U8].map V.ref)) := hw_r8
      have dA := dp_outsX (sT _ _ hp8) (fun T9 m => sT _ _ (hT8 T9 m)) hx
      have dB := dp_outsX (p := r8) (Ts := [U8, U8, U8, U8]) e9 (fun T9 m => by
        simp only [List.mem_cons, List.not_mem_nil, or_false, or_self] at m
        rw [m]; exact eT) hx
      rw [hlT8] at dA
      have dA : Dp K H11 (.ref p8) (.list (List.replicate 4 (.tuple [.str "InvalidMark"]))) := dA
      have dB : Dp K H11 (.ref r8) (.list (List.replicate 4 (.tuple [.str "InvalidMark"]))) := dB
      refine s_neD hr' dA dB (by decide +kernel) (by decide +kernel) ?_
      rw [show PyData.eqv (.list (List.replicate 4 (.tuple [.str "InvalidMark"]))) (.list (List.replicate 4 (.tuple [.str "InvalidMark"]))) = true by decide +kernel]
      clear dA dB hx e9 eT sT hw_r8 hw_q8 hw_U8 hlT8 hT8 hp8
      clear gw hw_w3
      walk_at "go"
      walk_at "go"
      refine ⟨tab11, fun f4 c4 H12 E12 n12 tab12 _ g4_0 k4_0 => ?_⟩
      try dsimp only [List.set]
      have g4 := g4_0
      have k4 := k4_0
      have EE12 := EE11.trans E12
      clear g4_0 k4_0
      walk_at "go"
      refine ⟨tab12, fun f5 c5 d5 H13 E13 n13 tab13 _ g5_0 k5_0 m5_0 => ?_⟩
      try dsimp only [List.set]
      have g4 := E13 _ _ g4 lamO_ne
      have k4 := E13 _ _ k4 codeO_ne
      have g5 := g5_0
      have k5 := k5_0
      have m5 := m5_0
      have EE13 := EE12.trans E13
      clear g5_0 k5_0 m5_0
      walk_at "go"
      refine ⟨tab13, fun f6 c6 d6 H14 E14 n14 tab14 _ g6_0 k6_0 m6_0 => ?_⟩
      try dsimp only [List.set]
      have g4 := E14 _ _ g4 lamO_ne
      have k4 := E14 _ _ k4 codeO_ne
      have g5 := E14 _ _ g5 lamO_ne
      have k5 := E14 _ _ k5 codeO_ne
      have m5 := E14 _ _ m5 (by simp)
      have g6 := g6_0
      have k6 := k6_0
      have m6 := m6_0
      have EE14 := EE13.trans E14
      clear g6_0 k6_0 m6_0
      walk_at "go"
      refine ⟨by show 3 ≤ sizeLine; decide, fun w4 hw4 => ?_⟩
      have S15 := same_new (o := .lst [.ref f4, .ref f5, .ref f6]) hw4
      have g4 := S15 _ _ g4
      have k4 := S15 _ _ k4
      have g5 := S15 _ _ g5
      have k5 := S15 _ _ k5
      have m5 := S15 _ _ m5
      have g6 := S15 _ _ g6
      have k6 := S15 _ _ k6
      have m6 := S15 _ _ m6
      have EE15 : ExtN H _ := EE14.trans (keepN S15)
      have tab15 := tabs_same tab14 S15
      have hw_w4 : (upd H14 w4 (.lst [.ref f4, .ref f5, .ref f6])) w4 = some (.lst [.ref f4, .ref f5, .ref f6]) := upd_same
      generalize upd H14 w4 (.lst [.ref f4, .ref f5, .ref f6]) = H15 at *
      walk_at "go"
      try dsimp only [List.set]
      walk_at "go"
      refine ⟨tab15, fun f7 c7 d7 H16 E16 n16 tab16 _ g7_0 k7_0 m7_0 => ?_⟩
      try dsimp only [List.set]
      have g4 := E16 _ _ g4 lamO_ne
      have k4 := E16 _ _ k4 codeO_ne
      have g5 := E16 _ _ g5 lamO_ne
      have k5 := E16 _ _ k5 codeO_ne
      have m5 := E16 _ _ m5 (by simp)
      have g6 := E16 _ _ g6 lamO_ne
      have k6 := E16 _ _ k6 codeO_ne
      have m6 := E16 _ _ m6 (by simp)
      have g7 := g7_0
      have k7 := k7_0
      have m7 := m7_0
      have EE16 := EE15.trans E16
      clear g7_0 k7_0 m7_0
      have hw_w4 := E16 _ _ hw_w4 (by simp)
      walk_at "go"
      refine ⟨tab16, fun f8 c8 d8 H17 E17 n17 tab17 _ g8_0 k8_0 m8_0 => ?_⟩
      try dsimp only [List.set]
      have g4 := E17 _ _ g4 lamO_ne
      have k4 := E17 _ _ k4 codeO_ne
      have g5 := E17 _ _ g5 lamO_ne
      have k5 := E17 _ _ k5 codeO_ne
      have m5 := E17 _ _ m5 (by simp)
      have g6 := E17 _ _ g6 lamO_ne
      have k6 := E17 _ _ k6 codeO_ne
      have m6 := E17 _ _ m6 (by simp)
      have g7 := E17 _ _ g7 lamO_ne
      have k7 := E17 _ _ k7 codeO_ne
      have m7 := E17 _ _ m7 (by simp)
      have g8 := g8_0
      have k8 := k8_0
      have m8 := m8_0
      have EE17 := EE16.trans E17
      clear g8_0 k8_0 m8_0
      have hw_w4 := E17 _ _ hw_w4 (by simp)
      walk_at "go"
      refine ⟨by show 2 ≤ sizeLine; decide, fun w5 hw5 => ?_⟩
      have S18 := same_new (o := .lst [.ref f7, .ref f8]) hw5
      have g4 := S18 _ _ g4
      have k4 := S18 _ _ k4
      have g5 := S18 _ _ g5
      have k5 := S18 _ _ k5
      have m5 := S18 _ _ m5
      have g6 := S18 _ _ g6
      have k6 := S18 _ _ k6
      have m6 := S18 _ _ m6
      have g7 := S18 _ _ g7
      have k7 := S18 _ _ k7
      have m7 := S18 _ _ m7
      have g8 := S18 _ _ g8
      have k8 := S18 _ _ k8
      have m8 := S18 _ _ m8
      have EE18 : ExtN H _ := EE17.trans (keepN S18)
      have tab18 := tabs_same tab17 S18
      have hw_w5 : (upd H17 w5 (.lst [.ref f7, .ref f8])) w5 = some (.lst [.ref f7, .ref f8]) := upd_same
      generalize upd H17 w5 (.lst [.ref f7, .ref f8]) = H18 at *
      have hw_w4 := S18 _ _ hw_w4
      walk_at "go"
      refine s_cat hw_w4 hw_w5 (by show 5 ≤ sizeLine; decide) fun w6 hw6 => ?_
      have S19 := same_new (o := .lst ([.ref f4, .ref f5, .ref f6] ++ [.ref f7, .ref f8])) hw6
      have g4 := S19 _ _ g4
      have k4 := S19 _ _ k4
      have g5 := S19 _ _ g5
      have k5 := S19 _ _ k5
      have m5 := S19 _ _ m5
      have g6 := S19 _ _ g6
      have k6 := S19 _ _ k6
      have m6 := S19 _ _ m6
      have g7 := S19 _ _ g7
      have k7 := S19 _ _ k7
      have m7 := S19 _ _ m7
      have g8 := S19 _ _ g8
      have k8 := S19 _ _ k8
      have m8 := S19 _ _ m8
      have EE19 : ExtN H _ := EE18.trans (keepN S19)
      have tab19 := tabs_same tab18 S19
      have hw_w6 : (upd H18 w6 (.lst ([.ref f4, .ref f5, .ref f6] ++ [.ref f7, .ref f8]))) w6 = some (.lst ([.ref f4, .ref f5, .ref f6] ++ [.ref f7, .ref f8])) := upd_same
      generalize upd H18 w6 (.lst ([.ref f4, .ref f5, .ref f6] ++ [.ref f7, .ref f8])) = H19 at *
      clear hw_w4 hw_w5
      walk_at "go"
      try dsimp only [List.set]
      walk_at "go"
      refine w_bm ?_
      walk_at "go"
      refine ⟨.inl ⟨rfl, _, SqL.of hw_w6⟩, ?_⟩
      have nH6 : H w6 = none := n1 _ (n2 _ (n3 _ (S4.free (n5 _ (S6.free (S7.free (s8.free (S9.free (S10.free (S11.free (n12 _ (n13 _ (n14 _ (S15.free (n16 _ (n17 _ (S18.free (hw6))))))))))))))))))
      walk_at "go"
      refine ⟨tab19, fun f9 c9 d9 H20 E20 n20 tab20 _ g9_0 k9_0 m9_0 => ?_⟩
      try dsimp only [List.set]
      have g4 := E20 _ _ g4 lamO_ne
      have k4 := E20 _ _ k4 codeO_ne
      have g5 := E20 _ _ g5 lamO_ne
      have k5 := E20 _ _ k5 codeO_ne
      have m5 := E20 _ _ m5 (by simp)
      have g6 := E20 _ _ g6 lamO_ne
      have k6 := E20 _ _ k6 codeO_ne
      have m6 := E20 _ _ m6 (by simp)
      have g7 := E20 _ _ g7 lamO_ne
      have k7 := E20 _ _ k7 codeO_ne
      have m7 := E20 _ _ m7 (by simp)
      have g8 := E20 _ _ g8 lamO_ne
      have k8 := E20 _ _ k8 codeO_ne
      have m8 := E20 _ _ m8 (by simp)
      have g9 := g9_0
      have k9 := k9_0
      have m9 := m9_0
      have EE20 := EE19.trans E20
      clear g9_0 k9_0 m9_0
      have hw_w6 := E20 _ _ hw_w6 (by simp)
      walk_at "go"
      refine ⟨w6, _, _, rfl, rfl, hw_w6, by show 5 < sizeLine; decide, ?_⟩
      have g4 := upd_nl (l' := [.ref f4, .ref f5, .ref f6, .ref f7, .ref f8, .ref f9]) hw_w6 g4 lo_nl
      have k4 := upd_nl (l' := [.ref f4, .ref f5, .ref f6, .ref f7, .ref f8, .ref f9]) hw_w6 k4 co_nl
      have g5 := upd_nl (l' := [.ref f4, .ref f5, .ref f6, .ref f7, .ref f8, .ref f9]) hw_w6 g5 lo_nl
      have k5 := upd_nl (l' := [.ref f4, .ref f5, .ref f6, .ref f7, .ref f8, .ref f9]) hw_w6 k5 co_nl
      have m5 := upd_nl (l' := [.ref f4, .ref f5, .ref f6, .ref f7, .ref f8, .ref f9]) hw_w6 m5 (by simp)
      have g6 := upd_nl (l' := [.ref f4, .ref f5, .ref f6, .ref f7, .ref f8, .ref f9]) hw_w6 g6 lo_nl
      have k6 := upd_nl (l' := [.ref f4, .ref f5, .ref f6, .ref f7, .ref f8, .ref f9]) hw_w6 k6 co_nl
      have m6 := upd_nl (l' := [.ref f4, .ref f5, .ref f6, .ref f7, .ref f8, .ref f9]) hw_w6 m6 (by simp)
      have g7 := upd_nl (l' := [.ref f4, .ref f5, .ref f6, .ref f7, .ref f8, .ref f9]) hw_w6 g7 lo_nl
      have k7 := upd_nl (l' := [.ref f4, .ref f5, .ref f6, .ref f7, .ref f8, .ref f9]) hw_w6 k7 co_nl
      have m7 := upd_nl (l' := [.ref f4, .ref f5, .ref f6, .ref f7, .ref f8, .ref f9]) hw_w6 m7 (by simp)
      have g8 := upd_nl (l' := [.ref f4, .ref f5, .ref f6, .ref f7, .ref f8, .ref f9]) hw_w6 g8 lo_nl
      have k8 := upd_nl (l' := [.ref f4, .ref f5, .ref f6, .ref f7, .ref f8, .ref f9]) hw_w6 k8 co_nl
      have m8 := upd_nl (l' := [.ref f4, .ref f5, .ref f6, .ref f7, .ref f8, .ref f9]) hw_w6 m8 (by simp)
      have g9 := upd_nl (l' := [.ref f4, .ref f5, .ref f6, .ref f7, .ref f8, .ref f9]) hw_w6 g9 lo_nl
      have k9 := upd_nl (l' := [.ref f4, .ref f5, .ref f6, .ref f7, .ref f8, .ref f9]) hw_w6 k9 co_nl
      have m9 := upd_nl (l' := [.ref f4, .ref f5, .ref f6, .ref f7, .ref f8, .ref f9]) hw_w6 m9 (by simp)
      have EE21 : ExtN H (upd H20 w6 (.lst [.ref f4, .ref f5, .ref f6, .ref f7, .ref f8, .ref f9])) := fun b o e ne => by rw [upd_ne (ne_of_none e nH6)]; exact EE20 _ _ e ne
      have tab21 : Tabs (TL a) (upd H20 w6 (.lst [.ref f4, .ref f5, .ref f6, .ref f7, .ref f8, .ref f9])) := tabs_l0 tab20 hw_w6
      clear hw_w6
      have hw_w6 : (upd H20 w6 (.lst [.ref f4, .ref f5, .ref f6, .ref f7, .ref f8, .ref f9])) w6 = some (.lst [.ref f4, .ref f5, .ref f6, .ref f7, .ref f8, .ref f9]) := upd_same
      show tSeq _ _ _ _ (upd H20 w6 (.lst [.ref f4, .ref f5, .ref f6, .ref f7, .ref f8, .ref f9]))
      generalize upd H20 w6 (.lst [.ref f4, .ref f5, .ref f6, .ref f7, .ref f8, .ref f9]) = H21 at *
      walk_at "go"
      have gw : H21 w6 = some (.lst ([f4, f5, f6, f7, f8, f9].map V.ref)) := hw_w6
      refine c_outsX [.str "InvalidNumber"] (l := w6) (fs := [f4, f5, f6, f7, f8, f9]) gw (by show 6 ≤ 1000; decide) (fun B hB i f H' hi s R hR => ?_) (fun p22 Ts22 H22 s22 hp22 hlT22 hT22 => ?_) (fun _ => rfl) (fun R k => ?_)
      · have hev9 := hev.extN (EE21.trans (keepN s))
        have hp9 := (EE21.trans (keepN s)) _ _ hp (by simp)
        obtain ⟨dx9, tb9, ps9, i1, i2, i3⟩ := id hev9
        walk_at "go"
        match i, hi with
        | 0, hi =>
          obtain rfl : f4 = f := Option.some.inj hi
          refine s_fn (GO B) (hr.mono (by decide)) ⟨f4, _, _, _, EfN a.c_InvalidNumber H', rfl, s _ _ g4, fun R9 hR9 => ?_, out_num hR⟩
          refine lam_go (k := 9) ["_law_evening_here", "_law_rows_here"] [] ["_law_evening_here", "_law_rows_here"] [1, 2] [some (.ref ev), some (.ref p)] hB (by kernel_rfl) (by kernel_rfl) (s _ _ g4) (s _ _ k4) rfl rfl (fun s doc pm ctv _ => lam_bind0 rfl) (fun A2 outer2 s3 hr3 => ⟨_, (pe_ixA Like.refl pas_lam (pv 0) (pe_biA (id := "len") Like.refl pas_lam (by rfl) (by decide +kernel) (pa_cons (pv 1) pa_nil))), ?_⟩)
          walk_at "go"
          refine s_lenL (SqL.of hp9) ?_
          rw [List.length_map, hrl]
          walk_at "go"
          exact s_ixI T.m_Evening__getitem_ T.u_Evening__getitem_.choose_spec (GGX B) (hr3.mono (by decide)) i1 ⟨ev, _, n, rows, rfl, hev9, by omega, EfN.no (Same.refl _)⟩
        | 1, hi =>
          obtain rfl : f5 = f := Option.some.inj hi
          refine s_fn (GO B) (hr.mono (by decide)) ⟨f5, _, _, _, EfN a.c_InvalidNumber H', rfl, s _ _ g5, fun R9 hR9 => ?_, out_num hR⟩
          refine lam_go (k := 9) (vs := [.int 0]) ["_law_a", "_law_evening_here"] ["_law_a"] ["_law_evening_here"] [1] [some (.ref ev)] hB (by kernel_rfl) (by kernel_rfl) (s _ _ g5) (s _ _ k5) rfl rfl (fun s4 doc pm ctv hok => lam_bind1 hok (s _ _ m5) rfl (fun _ => rfl)) (fun A2 outer2 s3 hr3 => ⟨_, (pe_ixA Like.refl pas_lam (pv 1) (pe_opA Like.refl pas_lam (pe_int) (pe_int))), ?_⟩)
          walk_at "go"
          exact s_ixI T.m_Evening__getitem_ T.u_Evening__getitem_.choose_spec (GGX B) (hr3.mono (by decide)) i1 ⟨ev, _, n, rows, rfl, hev9, by omega, EfN.no (Same.refl _)⟩
        | 2, hi =>
          obtain rfl : f6 = f := Option.some.inj hi
          refine s_fn (GO B) (hr.mono (by decide)) ⟨f6, _, _, _, EfN a.c_InvalidNumber H', rfl, s _ _ g6, fun R9 hR9 => ?_, out_num hR⟩
          refine lam_go (k := 9) (vs := [.int 0]) ["_law_b", "_law_evening_here"] ["_law_b"] ["_law_evening_here"] [1] [some (.ref ev)] hB (by kernel_rfl) (by kernel_rfl) (s _ _ g6) (s _ _ k6) rfl rfl (fun s4 doc pm ctv hok => lam_bind1 hok (s _ _ m6) rfl (fun _ => rfl)) (fun A2 outer2 s3 hr3 => ⟨_, (pe_glA Like.refl pas_lam (by rfl) (pa_cons (pv 1) (pa_cons (pe_int) (pa_cons (pe_opA Like.refl pas_lam (pe_int) (pe_int)) pa_nil)))), ?_⟩)
          walk_at "go"
          exact s_fn (GRX B) (hr3.mono (by decide)) ⟨ev, _, _, n, rows, rfl, hev9, .inr ⟨by omega, by omega, by omega, EfN.no (Same.refl _)⟩⟩
        | 3, hi =>
          obtain rfl : f7 = f := Option.some.inj hi
          refine s_fn (GO B) (hr.mono (by decide)) ⟨f7, _, _, _, EfN a.c_InvalidNumber H', rfl, s _ _ g7, fun R9 hR9 => ?_, out_num hR⟩
          refine lam_go (k := 9) (vs := [.int 0]) ["_law_c", "_law_evening_here"] ["_law_c"] ["_law_evening_here"] [1] [some (.ref ev)] hB (by kernel_rfl) (by kernel_rfl) (s _ _ g7) (s _ _ k7) rfl rfl (fun s4 doc pm ctv hok => lam_bind1 hok (s _ _ m7) rfl (fun _ => rfl)) (fun A2 outer2 s3 hr3 => ⟨_, (pe_glA Like.refl pas_lam (by rfl) (pa_cons (pv 1) (pa_cons (pe_int) (pa_cons (pe_opA Like.refl pas_lam (pe_opA Like.refl pas_lam (pe_int) (pe_int)) (pe_int)) pa_nil)))), ?_⟩)
          walk_at "go"
          refine s_pow ⟨by decide, by decide, by decide⟩ ?_
          walk_at "go"
          exact s_fn (GRX B) (hr3.mono (by decide)) ⟨ev, _, _, n, rows, rfl, hev9, .inr ⟨by omega, by omega, by decide, EfN.no (Same.refl _)⟩⟩
        | 4, hi =>
          obtain rfl : f8 = f := Option.some.inj hi
          refine s_fn (GO B) (hr.mono (by decide)) ⟨f8, _, _, _, EfN a.c_InvalidNumber H', rfl, s _ _ g8, fun R9 hR9 => ?_, out_num hR⟩
          refine lam_go (k := 9) (vs := [.int 0]) ["_law_e", "_law_evening_here"] ["_law_e"] ["_law_evening_here"] [1] [some (.ref ev)] hB (by kernel_rfl) (by kernel_rfl) (s _ _ g8) (s _ _ k8) rfl rfl (fun s4 doc pm ctv hok => lam_bind1 hok (s _ _ m8) rfl (fun _ => rfl)) (fun A2 outer2 s3 hr3 => ⟨_, (pe_opA Like.refl pas_lam (pv 1) (pe_opA Like.refl pas_lam (pe_int) (pe_int))), ?_⟩)
          walk_at "go"
          exact s_opInt T.sf_Evening T.m_Evening__mul_ T.oi_Evening__mul_ (by decide +kernel) (by decide +kernel) (GUX B) (hr3.mono (by decide)) i1 ⟨ev, _, rfl, by omega, EfN.no (Same.refl _)⟩
        | 5, hi =>
          obtain rfl : f9 = f := Option.some.inj hi
          refine s_fn (GO B) (hr.mono (by decide)) ⟨f9, _, _, _, EfN a.c_InvalidNumber H', rfl, s _ _ g9, fun R9 hR9 => ?_, out_num hR⟩
          refine lam_go (k := 9) (vs := [.int 0]) ["_law_f", "_law_evening_here"] ["_law_f"] ["_law_evening_here"] [1] [some (.ref ev)] hB (by kernel_rfl) (by kernel_rfl) (s _ _ g9) (s _ _ k9) rfl rfl (fun s4 doc pm ctv hok => lam_bind1 hok (s _ _ m9) rfl (fun _ => rfl)) (fun A2 outer2 s3 hr3 => ⟨_, (pe_opA Like.refl pas_lam (pv 1) (pe_int)), ?_⟩)
          walk_at "go"
          exact s_opInt T.sf_Evening T.m_Evening__mul_ T.oi_Evening__mul_ (by decide +kernel) (by decide +kernel) (GUX B) (hr3.mono (by decide)) i1 ⟨ev, _, rfl, by omega, EfN.no (Same.refl _)⟩
        | i + 6, hi => cases hi
      · walk_at "go"
        clear g4 k4
        clear g5 k5 m5
        clear g6 k6 m6
        clear g7 k7 m7
        clear g8 k8 m8
        clear g9 k9 m9
        have tab22 := tabs_same tab21 s22
        have EE22 := EE21.trans (keepN s22)
        refine ⟨by show 1 ≤ sizeLine; decide, fun U22 hU22 => ?_⟩
        have S23 := same_new (o := .tup [.str "InvalidNumber"]) hU22
        have EE23 : ExtN H _ := EE22.trans (keepN S23)
        have tab23 := tabs_same tab22 S23
        have hw_U22 : (upd H22 U22 (.tup [.str "InvalidNumber"])) U22 = some (.tup [.str "InvalidNumber"]) := upd_same
        generalize upd H22 U22 (.tup [.str "InvalidNumber"]) = H23 at *
        walk_at "go"
        refine ⟨by show 1 ≤ sizeLine; decide, fun q22 hq22 => ?_⟩
        have S24 := same_new (o := .lst [.ref U22]) hq22
        have EE24 : ExtN H _ := EE23.trans (keepN S24)
        have tab24 := tabs_same tab23 S24
        have hw_q22 : (upd H23 q22 (.lst [.ref U22])) q22 = some (.lst [.ref U22]) := upd_same
        generalize upd H23 q22 (.lst [.ref U22]) = H24 at *
        walk_at "go"
        refine s_rep hw_q22 (by decide) (by decide) (by show 6 ≤ sizeLine; decide) fun r22 hr22 => ?_
        have S25 := same_new (o := .lst (List.replicate (6 : Int).toNat [V.ref U22]).flatten) hr22
        have EE25 : ExtN H _ := EE24.trans (keepN S25)
        have tab25 := tabs_same tab24 S25
        have hw_r22 : (upd H24 r22 (.lst (List.replicate (6 : Int).toNat [V.ref U22]).flatten)) r22 = some (.lst (List.replicate (6 : Int).toNat [V.ref U22]).flatten) := upd_same
        generalize upd H24 r22 (.lst (List.replicate (6 : Int).toNat [V.ref U22]).flatten) = H25 at *
        have hx : DpAll K H25 [.str "InvalidNumber"] [.str "InvalidNumber"] := .cons (.str _) .nil
        have sT : Same H22 H25 := (S23.trans S24).trans S25
        have eT : H25 U22 = some (.tup [.str "InvalidNumber"]) := S25 _ _ (S24 _ _ hw_U22)
        have e9 : H25 r22 = some (.lst ([U22, U22, U22, U22, U22, U22].map V.ref)) := hw_r22
        have dA := dp_outsX (sT _ _ hp22) (fun T9 m => sT _ _ (hT22 T9 m)) hx
        have dB := dp_outsX (p := r22) (Ts := [U22, U22, U22, U22, U22, U22]) e9 (fun T9 m => by
          simp only [List.mem_cons, List.not_mem_nil, or_false, or_self] at m
          rw [m]; exact eT) hx
        rw [hlT22] at dA
        have dA : Dp K H25 (.ref p22) (.list (List.replicate 6 (.tuple [.str "InvalidNumber"]))) := dA
        have dB : Dp K H25 (.ref r22) (.list (List.replicate 6 (.tuple [.str "InvalidNumber"]))) := dB
        refine s_neD hr' dA dB (by decide +kernel) (by decide +kernel) ?_
        rw [show PyData.eqv (.list (List.replicate 6 (.tuple [.str "InvalidNumber"]))) (.list (List.replicate 6 (.tuple [.str "InvalidNumber"]))) = true by decide +kernel]
        clear dA dB hx e9 eT sT hw_r22 hw_q22 hw_U22 hlT22 hT22 hp22
        clear gw hw_w6
        walk_at "go"
        have evA := hev.extN EE25
        obtain ⟨dxA, tbA, psA, a1, a2, a3⟩ := id evA
        have ok0 : OkEv n (List.replicate 0 rows).flatten := ⟨hn2, hn8, by show 0 ≤ 30; decide, fun b hb => by simp at hb⟩
        refine s_opInt T.sf_Evening T.m_Evening__mul_ T.oi_Evening__mul_ (by decide +kernel) (by decide +kernel) GEM (hr.mono (by decide)) a1 ⟨ev, (0 : Nat), n, rows, rfl, evA, by decide, by omega, ok0, fun e0 HA hA sA evB => ?_⟩
        walk_at "go"
        obtain ⟨dxB, tbB, psB, b1, b2, b3⟩ := id evB
        refine s_lenI T.m_Evening__len_ GEL (hr.mono (by decide)) b1 ⟨e0, _, _, rfl, evB, _, rfl, by show (0 : Int) ≤ 0; decide, by show (0 : Int) < _; decide, ?_⟩
        walk_at "go"
        rw [show decide (((List.replicate 0 rows).flatten.length : Int) = 0) = true from rfl]
        walk_at "go"
        refine s_opInt T.sf_Evening T.m_Evening__mul_ T.oi_Evening__mul_ (by decide +kernel) (by decide +kernel) GEM (hr.mono (by decide)) (sA _ _ a1) ⟨ev, (0 : Nat), n, rows, rfl, evA.same sA, by decide, by omega, ok0, fun e00 HB hB sB evC => ?_⟩
        walk_at "go"
        obtain ⟨dxC, tbC, psC, c1, c2, c3⟩ := id evC
        refine s_prop T.cl_Evening T.pr_Evening_seat_count GEC (hr.mono (by decide)) c1 ⟨e00, dxC, tbC, _, rfl, c1, ?_⟩
        walk_at "go"
        rw [decide_eq_true rfl]
        walk_at "go"
        refine s_intB ?_
        walk_at "go"
        obtain ⟨n2, en2, n22, n28, n2n⟩ : ∃ n2 : Nat, ((n : Nat) : Int) % 7 + 2 + (if decide (((n : Nat) : Int) > 7) = true then 1 else 0) = ((n2 : Nat) : Int) ∧ 2 ≤ n2 ∧ n2 ≤ 8 ∧ n ≠ n2 := by
          refine ⟨(((n : Nat) : Int) % 7 + 2 + (if decide (((n : Nat) : Int) > 7) = true then 1 else 0)).toNat, ?_, ?_, ?_, ?_⟩ <;> by_cases z : ((n : Nat) : Int) > 7 <;> simp only [z, decide_true, decide_false, if_true, if_false, Bool.false_eq_true] <;> omega
        rw [en2]
        refine s_evening (ps := []) (bs := []) T GI (hr.mono (by decide)) ⟨rfl, fun i p b z => by simp at z⟩ ⟨n22, n28, by show 0 ≤ 30; decide, fun b hb => by simp at hb⟩ fun ot HC hC sC evD => ?_
        walk_at "go"
        try dsimp only [List.set]
        walk_at "go"
        have sAC := (sA.trans sB).trans sC
        have EEC := EE25.trans (keepN sAC)
        have tabC := tabs_same tab25 sAC
        refine ⟨a.f__law_outcome, T.g__law_outcome, Fun.kp T.u__law_outcome.choose_spec, ?_⟩
        walk_at "go"
        refine ⟨tabC, fun f10 c10 HD ED _ tabD _ g10 k10 => ?_⟩
        walk_at "go"
        refine fun B hB => ⟨11, spOut1 P w K mg B a, ok_outcome1 T, hr.mono (by decide), f10, _, _, _, EfN a.c_OtherTable HD, rfl, g10, fun R9 hR9 => ?_, out_other fun T9 HE hT9 sE => ?_⟩
        · refine lam_go (k := 9) ["_law_evening_here", "_law_other"] [] ["_law_evening_here", "_law_other"] [1, 5] [some (.ref ev), some (.ref ot)] hB (by kernel_rfl) (by kernel_rfl) (g10) (k10) rfl rfl (fun s doc pm ctv _ => lam_bind0 rfl) (fun A2 outer2 s3 hr3 => ⟨_, (pe_opA Like.refl pas_lam (pv 0) (pv 1)), ?_⟩)
          walk_at "go"
          have evE := (hev.extN EEC).extN ED
          have evF := evD.extN ED
          obtain ⟨dxE, tbE, psE, j1, j2, j3⟩ := id evE
          obtain ⟨dxF, tbF, psF, l1, l2, l3⟩ := id evF
          exact s_opSame T.sf_Evening T.m_Evening__add_ (by decide +kernel) (GAX B) (hr3.mono (by decide)) j1 l1 ⟨ev, ot, n, n2, rows, [], rfl, evE, evF, by omega, by show 0 ≤ 100; decide, .inl ⟨n2n, EfN.no (Same.refl _)⟩⟩
        · walk_at "go"
          refine ⟨by show 1 ≤ sizeLine; decide, fun TG hTG => ?_⟩
          have sG := same_new (o := .tup [.str "OtherTable"]) hTG
          walk_at "go"
          have dA : Dp K (upd HE TG (.tup [.str "OtherTable"])) (.ref T9) (.tuple [.str "OtherTable"]) := .tup (SqT.of (sG _ _ hT9)) (.cons (.str _) .nil)
          have dB : Dp K (upd HE TG (.tup [.str "OtherTable"])) (.ref TG) (.tuple [.str "OtherTable"]) := .tup (SqT.of upd_same) (.cons (.str _) .nil)
          refine s_eqD hr' dA dB (by decide +kernel) (by decide +kernel) ?_
          rw [show PyData.eqv (.tuple [.str "OtherTable"]) (.tuple [.str "OtherTable"]) = true by decide +kernel]
          exact q _ (EEC.trans (ED.trans (keepN (sE.trans sG)))) (tabs_same (tabs_same tabD sE) sG)
      · walk_at "go"
        exact k
    · exact k
end

end Odd

namespace Odd
open PySem PySem.Spec PyProof.Rows L2 LamX NdefX
/-! tactics of this text: st one step, go as many as go -/
local macro_rules | `(tactic| walk_at "ar") => `(tactic| first | assumption | omega | (show (_ : Int) < _; omega) | decide)
local macro_rules | `(tactic| walk_at "st") => `(tactic| first
  | with_reducible refine' w_seq ?_
  | with_reducible refine' w_asg ?_
  | with_reducible refine' w_name ?_
  | with_reducible refine' w_c ?_
  | with_reducible refine' w_op ?_
  | with_reducible refine' w_ix ?_
  | with_reducible refine' w_at ?_
  | with_reducible refine' w_cons ?_
  | with_reducible refine' w_nil ?_
  | with_reducible refine' w_ret ?_
  | with_reducible refine' w_if ?_
  | with_reducible refine' w_test ?_
  | with_reducible refine' w_tr ?_
  | with_reducible refine' w_un ?_
  | with_reducible refine' w_andV ?_
  | with_reducible refine' w_orV ?_
  | with_reducible refine' w_notA ?_
  | with_reducible refine' w_ch ?_
  | with_reducible refine' w_and ?_
  | with_reducible refine' w_or ?_
  | with_reducible refine' w_not ?_
  | with_reducible refine' w_ifx ?_
  | with_reducible refine' w_tup ?_
  | with_reducible refine' w_lst ?_
  | with_reducible refine' w_next ?_
  | with_reducible refine' w_drop ?_
  | with_reducible refine' w_retN ?_
  | ((with_reducible refine' w_var ?h ?_); (case h => exact rfl))
  | ((with_reducible refine' w_bi ?h ?_); (case h => walk_at "mg"))
  | ((with_reducible refine' w_bv ?h ?_); (case h => walk_at "mg"))
  | ((with_reducible refine' w_gv ?h ?_); (case h => walk_at "mg"))
  | ((with_reducible refine' w_gl ?h ?k ?_); (case h => walk_at "mg"); (case k => walk_at "kp"))
  | ((with_reducible refine' w_glS ?h ?k ?_); (case h => walk_at "mg"); (case k => walk_at "kp"))
  | with_reducible refine' bl_ex ?_
  | with_reducible refine' iteT ?_
  | with_reducible refine' iteF ?_
  | with_reducible refine' ite_nf ?_
  | with_reducible refine' ite_nt ?_
  | with_reducible refine' s_add ?_
  | with_reducible refine' s_sub ?_
  | with_reducible refine' s_lt ?_
  | with_reducible refine' s_le ?_
  | with_reducible refine' s_gt ?_
  | with_reducible refine' s_ge ?_
  | with_reducible refine' s_eqI ?_
  | with_reducible refine' s_neI ?_
  | with_reducible refine' s_eqB ?_
  | with_reducible refine' s_neB ?_
  | with_reducible refine' s_truB ?_
  | with_reducible refine' s_truI ?_
  | with_reducible refine' s_neg ?_
  | ((with_reducible refine' s_mod ?h ?_); (case h => walk_at "ar")))
local macro_rules | `(tactic| walk_at "go") => `(tactic| repeat walk_at "st")

local macro_rules | `(tactic| walk_at "mg") => `(tactic| first | assumption | exact Facts.z_TypeError (by assumption) | exact Facts.z_bool (by assumption) | exact Facts.z_classmethod (by assumption) | exact Facts.z_enumerate (by assumption) | exact Facts.z_int (by assumption) | exact Facts.z_isinstance (by assumption) | exact Facts.z_len (by assumption) | exact Facts.z_list (by assumption) | exact Facts.z_max (by assumption) | exact Facts.z_min (by assumption) | exact Facts.z_property (by assumption) | exact Facts.z_range (by assumption) | exact Facts.z_super (by assumption) | exact Facts.z_tuple (by assumption) | exact Facts.z_zip (by assumption) | exact Facts.g__wall (by assumption) | exact Facts.g_is_between (by assumption) | exact Facts.g_check_amount (by assumption) | exact Facts.g_check_seats (by assumption) | exact Facts.g_check_seat_count (by assumption) | exact Facts.g_check_bills (by assumption) | exact Facts.g_check_mark (by assumption) | exact Facts.g_check_times (by assumption) | exact Facts.g_no_shares (by assumption) | exact Facts.g_seats_behind (by assumption) | exact Facts.g_split_bill (by assumption) | exact Facts.g_twice (by assumption) | exact Facts.g_repeated (by assumption) | exact Facts.g_lowest_terms (by assumption) | exact Facts.g_long_run (by assumption) | exact Facts.g__law_start (by assumption) | exact Facts.g__law_drawn (by assumption) | exact Facts.g__law_same (by assumption) | exact Facts.g__law_outcome (by assumption) | exact Facts.g__law_rows (by assumption) | exact Facts.g__law_bill (by assumption) | exact Facts.g__law_evening (by assumption) | exact Facts.g__law_fault (by assumption) | exact Facts.g__law_is_bill (by assumption) | exact Facts.g__law_refused (by assumption) | exact Facts.g_law (by assumption) | exact Facts.g_Shares (by assumption) | exact Facts.g_Bill (by assumption) | exact Facts.g_Evening (by assumption))
local macro_rules | `(tactic| walk_at "kp") => `(tactic| first | assumption | exact (Facts.mk_Shares (by assumption)).kp | exact (Facts.mk_Bill (by assumption)).kp | exact (Facts.mk_Evening (by assumption)).kp | exact Fun.kp (Facts.u__wall (by assumption)).choose_spec | exact Fun.kp (Facts.u_is_between (by assumption)).choose_spec | exact Fun.kp (Facts.u_check_amount (by assumption)).choose_spec | exact Fun.kp (Facts.u_check_seats (by assumption)).choose_spec | exact Fun.kp (Facts.u_check_seat_count (by assumption)).choose_spec | exact Fun.kp (Facts.u_check_bills (by assumption)).choose_spec | exact Fun.kp (Facts.u_check_mark (by assumption)).choose_spec | exact Fun.kp (Facts.u_check_times (by assumption)).choose_spec | exact Fun.kp (Facts.u_no_shares (by assumption)).choose_spec | exact Fun.kp (Facts.u_seats_behind (by assumption)).choose_spec | exact Fun.kp (Facts.u_split_bill (by assumption)).choose_spec | exact Fun.kp (Facts.u_twice (by assumption)).choose_spec | exact Fun.kp (Facts.u_repeated (by assumption)).choose_spec | exact Fun.kp (Facts.u_lowest_terms (by assumption)).choose_spec | exact Fun.kp (Facts.u_long_run (by assumption)).choose_spec | exact Fun.kp (Facts.u__law_start (by assumption)).choose_spec | exact Fun.kp (Facts.u__law_drawn (by assumption)).choose_spec | exact Fun.kp (Facts.u__law_same (by assumption)).choose_spec | exact Fun.kp (Facts.u__law_outcome (by assumption)).choose_spec | exact Fun.kp (Facts.u__law_rows (by assumption)).choose_spec | exact Fun.kp (Facts.u__law_bill (by assumption)).choose_spec | exact Fun.kp (Facts.u__law_evening (by assumption)).choose_spec | exact Fun.kp (Facts.u__law_fault (by assumption)).choose_spec | exact Fun.kp (Facts.u__law_is_bill (by assumption)).choose_spec | exact Fun.kp (Facts.u__law_refused (by assumption)).choose_spec | exact Fun.kp (Facts.u_law (by assumption)).choose_spec)
local macro_rules | `(tactic| walk_at "st") => `(tactic| ((with_reducible refine' w_name ?_); (try dsimp only [List.set])))

/-! ### the law k01 -/
def rowD (b : Int × List Int) : PyData := .tuple [.int b.1, .tuple (b.2.map PyData.int)]
section
variable {P : Program} {w : World} {K : PySem.W.Frag} {mg : Str → Option Value} {base : Heap} {a : Ad}
theorem StOk.ext {sc : Addr} {ns : List Int} {H H' : Hp} {st : Addr} (h : StOk K sc ns H st) (E : ExtN H H') : StOk K sc ns H' st := by
  obtain ⟨⟨u1, u2, u3, z1, z2⟩, z3, z4⟩ := h
  refine ⟨⟨u1, u2, u3, E _ _ z1 (fun ps z => by cases z), z2⟩, ?_, z4⟩
  rcases z3 with (z3 | ⟨ob, z3⟩) | z3
  · exact .inl (.inl (E _ _ z3 (fun ps z => by cases z)))
  · exact .inl (.inr ⟨ob, E _ _ z3 (fun ps z => by cases z)⟩)
  · exact .inr z3
theorem rows_dp {H : Hp} : ∀ (rs : List Addr) (rows : List (Int × List Int)), rs.length = rows.length → (∀ (i : Nat) r b, rs[i]? = some r → rows[i]? = some b → RowAt H r b) → DpAll K H (rs.map V.ref) (rows.map rowD)
  | [], [], _, _ => .nil
  | [], _ :: _, e, _ => by simp at e
  | _ :: _, [], e, _ => by simp at e
  | r :: rs, b :: rows, e, h => by
    obtain ⟨t, h1, h2⟩ := h 0 r b rfl rfl
    exact .cons (.tup (SqT.of h1) (.cons (.int _) (.cons (.tup (SqT.of h2) (dp_ints _)) .nil))) (rows_dp rs rows (by simpa using e) fun i r b e1 e2 => h (i + 1) r b e1 e2)
theorem ints_lay : ∀ l : List Int, PyData.canLayAll0 (l.map PyData.int) = true ∧ PyData.depthAll (l.map PyData.int) = 0
  | [] => by simp [PyData.canLayAll0, PyData.depthAll]
  | x :: l => by
    obtain ⟨i1, i2⟩ := ints_lay l
    simp [PyData.canLayAll0, PyData.depthAll, PyData.canLay0, PyData.depth]
    exact ⟨by simpa using i1, by simpa using i2⟩
theorem rowD_lay : ∀ rows : List (Int × List Int), PyData.canLayAll0 (rows.map rowD) = true ∧ PyData.depthAll (rows.map rowD) ≤ 2
  | [] => by simp [PyData.canLayAll0, PyData.depthAll]
  | b :: rows => by
    obtain ⟨i1, i2⟩ := rowD_lay rows
    obtain ⟨j1, j2⟩ := ints_lay b.2
    have c : PyData.canLay0 (rowD b) = true := by simp [rowD, PyData.canLay0, PyData.canLayAll0]; simpa using j1
    have d : PyData.depth (rowD b) ≤ 2 := by
      simp only [rowD, PyData.depth, PyData.depthAll, j2]
      decide
    refine ⟨by rw [List.map_cons]; simp [PyData.canLayAll0, c]; simpa using i1, ?_⟩
    rw [List.map_cons]
    show max (PyData.depth (rowD b)) (PyData.depthAll (rows.map rowD)) ≤ 2
    omega
theorem rowD_shaped (rows : List (Int × List Int)) : SeqAt.shaped (.list (rows.map rowD)) = true := by
  obtain ⟨i1, i2⟩ := rowD_lay rows
  unfold SeqAt.shaped
  rw [Bool.and_eq_true, decide_eq_true_iff]
  refine ⟨by simpa [PyData.canLay0] using i1, ?_⟩
  have : PyData.depth (.list (rows.map rowD)) = PyData.depthAll (rows.map rowD) + 1 := by simp [PyData.depth]
  omega
theorem eqv_rows_nil (rows : List (Int × List Int)) : PyData.eqv (.list (rows.map rowD)) (.list []) = rows.isEmpty := by
  cases rows with
  | nil => decide
  | cons b rows => rfl
def spBool (CE CB : Addr) : Sp := fun vs H Q _ => ∃ (p : Addr) (n : Int) (bs : List (Int × List Int)), vs = [.ref p] ∧ EvAt CE CB H p n bs ∧ Q (.bl (!bs.isEmpty)) H
theorem ok_ev_bool (T : Facts K mg a) : FnR P w K mg base (L2.CX P w) 1 a.f_Evening__bool_ (spBool a.c_Evening a.c_Bill) := by
  obtain ⟨fd, F⟩ := T.u_Evening__bool_
  refine fnr_ok F sc_Evening__bool_ (F.binds fun _ _ _ _ _ _ us hl => match us, hl with | [_], _ => rfl) (fun vs H Q E h => ?_) (fun cdv A outer s H vs Q E hr h => ?_)
  · obtain ⟨p, n, bs, rfl, _⟩ := h
    rfl
  · obtain ⟨p, n, bs, rfl, ⟨dx, t, ps, e1, e2, e3⟩, q⟩ := h
    refine ⟨_, (pss_one (ps_ret (pe_tyA (T := "bool") Like.refl pas_main (by rfl) (by decide +kernel) (pa_cons (pe_atA Like.refl pas_main (pv 0)) pa_nil)))), ?_⟩
    walk_at "go"
    refine s_fld e1 T.cl_Evening T.na_Evening_bills look_bills ?_
    walk_at "go"
    refine s_boolT (SqT.of e2) ?_
    have : (ps.map V.ref).isEmpty = bs.isEmpty := by
      have h := e3.1
      cases ps <;> cases bs <;> simp at h ⊢
    rw [this]
    exact q
/-- what a refused bill, a refused evening leaves -/
abbrev EfX (C : Addr) (i : Int) (H : Hp) : XK := fun cls d H' => cls = .ref C ∧ ∃ dd, d = some dd ∧ H' dd = some (.xd [(("index" : Str), V.int i)]) ∧ Same H H'
theorem EfX.ix {C : Addr} {i : Int} {H H1 : Hp} (s : Same H H1) : ExIx (EfX C i H) C i H1 := fun d _ _ s2 e => ⟨rfl, d, rfl, e, s.trans s2⟩
theorem out_bill {R : VK} {i : Int} {H : Hp} (h : ∀ T H'', H'' T = some (.tup [.str "InvalidBill", .int i]) → Same H H'' → R (.ref T) H'') : ∀ cls d H', EfX a.c_InvalidBill i H cls d H' → OutOf a cls d H' R := fun _ _ _ ⟨e1, dd, e2, e3, s⟩ => .inl ⟨e1, dd, i, e2, e3, fun T H'' s2 e => h T H'' e (s.trans s2)⟩
theorem out_eve {R : VK} {i : Int} {H : Hp} (h : ∀ T H'', H'' T = some (.tup [.str "InvalidEvening", .int i]) → Same H H'' → R (.ref T) H'') : ∀ cls d H', EfX a.c_InvalidEvening i H cls d H' → OutOf a cls d H' R := fun _ _ _ ⟨e1, dd, e2, e3, s⟩ => .inr (.inl ⟨e1, dd, i, e2, e3, fun T H'' s2 e => h T H'' e (s.trans s2)⟩)
theorem EvAt.sb {CE CB : Addr} {H H' : Hp} {p st : Addr} {n : Int} {bs : List (Int × List Int)} {l : List V} (h : EvAt CE CB H p n bs) (s : SameB (· = st) H H') (hl : H st = some (.lst l)) : EvAt CE CB H' p n bs := by
  have k : ∀ b o, H b = some o → (∀ l, o ≠ HO.lst l) → H' b = some o := fun b o e n => s b o (fun z => by rw [z, hl] at e; exact n l (Option.some.inj e).symm) e
  obtain ⟨dx, t, ps, h1, h2, h3, h4⟩ := h
  refine ⟨dx, t, ps, k _ _ h1 (by simp), k _ _ h2 (by simp), h3, fun i q b e1 e2 => ?_⟩
  obtain ⟨dy, u, g1, g2⟩ := h4 i q b e1 e2
  exact ⟨dy, u, k _ _ g1 (by simp), k _ _ g2 (by simp)⟩
theorem s_isN {X0 : Cx} {E : XK} {H : Hp} {Q : VK} {x : V} (q : Q (.bl (decide (x = .non))) H) : ∃ r, OpD X0 E (compareOp .Is) r ∧ r x .non H Q := ⟨_, fun _ _ _ => op_isN, rfl, q⟩
theorem s_notN {X0 : Cx} {E : XK} {H : Hp} {Q : VK} {x : V} (q : Q (.bl (!decide (x = .non))) H) : ∃ r, OpD X0 E (compareOp .IsNot) r ∧ r x .non H Q := ⟨_, fun _ _ _ => op_notN, rfl, q⟩
theorem s_fnJ {X0 : Cx} {E : XK} {k : Nat} {f : Addr} {sp : Sp} {vs : List V} {H : Hp} {Q : VK} (F : Fn X0 k f sp) (hr : Room k X0.A) (G : V → Hp → Prop) (h : ∀ R : VK, (∀ v H', G v H' → R v H') → sp vs H R E) (q : ∀ v H', G v H' → Q v H') : ∃ r, CaD X0 E (.ref f) r ∧ r vs H Q := s_fn F hr (h Q q)
theorem spJ {sp : Sp} {E : XK} {vs : List V} {H : Hp} {Q : VK} (G : V → Hp → Prop) (h : ∀ R : VK, (∀ v H', G v H' → R v H') → sp vs H R E) (q : ∀ v H', G v H' → Q v H') : sp vs H Q E := h Q q
theorem w_ifSJ {t : TT} {A B : TS} {D : Ends} {σ : L2.St} {H : Hp} (G : L2.St → Hp → Prop) (h : ∀ N : L2.St → Hp → Prop, (∀ σ' H', G σ' H' → N σ' H') → tIfS t A B { D with nx := N } σ H) (q : ∀ σ' H', G σ' H' → D.nx σ' H') : tIfS t A B D σ H := h D.nx q
theorem asc_of_fault : ∀ {ss : List Int} {lo : Int} {i : Nat}, faultS lo i ss = none → asc lo ss = true
  | [], _, _, _ => rfl
  | s :: ss, lo, i, h => by
    unfold faultS at h
    split at h
    · rename_i z
      simp only [asc, Bool.and_eq_true, decide_eq_true_eq]
      exact ⟨z, asc_of_fault h⟩
    · cases h
theorem ok_of_fault {i : Int} {ss : List Int} (h : faultD i ss = none) (ne : ss ≠ []) : OkBill (i, ss) := by
  unfold faultD at h
  split at h
  · rename_i z
    refine ⟨z.1, z.2, asc_of_fault (lo := 0) (i := 0) ?_, ne⟩
    cases e : faultS 0 0 ss with
    | none => rfl
    | some k => rw [e] at h; cases h
  · cases h
theorem bad_of_fault {i j : Int} {ss : List Int} (h : faultD i ss = some j) : BadBill i ss j := by
  unfold faultD at h
  split at h
  · rename_i z
    cases e : faultS 0 0 ss with
    | none => rw [e] at h; cases h
    | some k => rw [e] at h; cases h; exact .inr ⟨z.1, z.2, k, rfl, .inl e⟩
  · rename_i z
    cases h
    exact .inl ⟨z, rfl⟩
theorem shaped_ex (j : Int) : SeqAt.shaped (.tuple [.str "InvalidBill", .int j]) = true := by
  unfold SeqAt.shaped
  rw [Bool.and_eq_true, decide_eq_true_iff]
  refine ⟨?_, by simp [PyData.depth, PyData.depthAll]⟩
  simp only [PyData.canLay0, PyData.canLayAll0, Bool.and_true]
  decide +kernel
def farS (n : Nat) : List Int := if n < 8 then [0, (n : Int)] else [0]
theorem far_ok {n : Nat} (h2 : 2 ≤ n) (h8 : n ≤ 8) : OkBill (3, farS n) := by
  unfold farS
  split
  · exact ⟨by show (0 : Int) ≤ 3; decide, by show (3 : Int) ≤ 10 ^ 12; decide, by simp [asc]; omega, by simp⟩
  · exact ⟨by decide, by decide, by decide, by simp⟩
theorem one_ok : OkBill (1, [0]) := ⟨by decide, by decide, by decide, by simp⟩
theorem bis_one {C : Addr} {H : Hp} {p : Addr} {b : Int × List Int} (h : BiAt C H p b) : BisAt C H [p] [b] := ⟨rfl, fun i q c e1 e2 => by
  match i, e1, e2 with
  | 0, e1, e2 => cases e1; cases e2; exact h
  | i + 1, e1, _ => simp at e1⟩
theorem bis_two {C : Addr} {H : Hp} {p q : Addr} {b c : Int × List Int} (h : BiAt C H p b) (h' : BiAt C H q c) : BisAt C H [p, q] [b, c] := ⟨rfl, fun i r d e1 e2 => by
  match i, e1, e2 with
  | 0, e1, e2 => cases e1; cases e2; exact h
  | 1, e1, e2 => cases e1; cases e2; exact h'
  | i + 2, e1, _ => simp at e1⟩
theorem BiAt.extN {C : Addr} {H H' : Hp} {p : Addr} {b : Int × List Int} (h : BiAt C H p b) (E : ExtN H H') : BiAt C H' p b := by
  obtain ⟨dx, t, h1, h2⟩ := h
  exact ⟨dx, t, E _ _ h1 (by simp), E _ _ h2 (by simp)⟩
theorem bad_far {n : Nat} (h2 : 2 ≤ n) (h8 : n < 8) : BadEv n [(1, [0]), (3, farS n)] 1 := .inr (.inl ⟨by omega, by omega, 1, rfl, by show 2 ≤ 30; decide, by show 1 < 2; decide, fun j b hj e => by
  obtain rfl : j = 0 := by omega
  cases e
  exact ⟨by simp, fun s hs => by rw [List.mem_singleton.1 hs]; omega⟩, fun b e => by
  cases e
  unfold farS
  rw [if_pos h8]
  exact ⟨n, rfl, Int.le_refl _⟩⟩)
def thirtyB : List (Int × List Int) := (List.replicate 30 [((1 : Int), [(0 : Int)])]).flatten
theorem thirty_mem {b : Int × List Int} (h : b ∈ thirtyB) : b = (1, [0]) := by
  obtain ⟨l, h1, h2⟩ := List.mem_flatten.1 h
  rw [(List.mem_replicate.1 h1).2] at h2
  exact List.mem_singleton.1 h2
theorem thirty_len : thirtyB.length = 30 := by decide +kernel
theorem thirty_ok {n : Nat} (h2 : 2 ≤ n) (h8 : n ≤ 8) : OkEv n thirtyB := ⟨h2, h8, by rw [thirty_len]; decide, fun b hb => by
  rw [thirty_mem hb]
  exact ⟨one_ok, fun s hs => by rw [List.mem_singleton.1 hs]; omega⟩⟩
theorem w_iteJ {c : Prop} [Decidable c] {t u : TE} {σ : L2.St} {H : Hp} {Q : VK} (G : V → Hp → Prop) (h : ∀ R : VK, (∀ v H', G v H' → R v H') → if c then t σ H R else u σ H R) (q : ∀ v H', G v H' → Q v H') : if c then t σ H Q else u σ H Q := h Q q
theorem w_andJ {c : Prop} [Decidable c] {t : TT} {σ : L2.St} {H : Hp} {QB : Bool → Hp → Prop} (G : Bool → Hp → Prop) (h : ∀ R : Bool → Hp → Prop, (∀ b H', G b H' → R b H') → if c then t σ H R else R false H) (q : ∀ b H', G b H' → QB b H') : if c then t σ H QB else QB false H := h QB q
def spLaw (K : PySem.W.Frag) (a : Ad) : Sp := fun vs H Q _ => ∃ (sc : Addr) (ns : List Int), vs = [.ref sc] ∧ SqL K H sc (ns.map V.int) ∧ ns.length ≤ 63 ∧ H a.t_law = some (.tbl #[]) ∧ H a.t__law_refused = some (.tbl #[]) ∧ ∀ H', Q (.bl true) H'
set_option maxHeartbeats 20000000 in
theorem ok_law (T : Facts K mg a) (SP : SupP P mainF) {fd : FuncData} (F : Fun K "law" "law" s_law a.f_law fd) (hc : fd.code = .ref a.k_law) (TB_law : TabB base mg a.k_law a.t_law) (TB__law_refused : TabB base mg a.k__law_refused a.t__law_refused) : FnOk P w K mg base (L2.CX P w) 15 a.f_law fd ["_law_script"] (spLaw K a) := by
  have GSt : FnR P w K mg base (L2.CX P w) 1 a.f__law_start (spStart K) := ok_start T
  have GD : FnR P w K mg base (L2.CX P w) 1 a.f__law_drawn (spDrawn K) := ok_drawn T
  have GR : FnR P w K mg base (L2.CX P w) 2 a.f__law_rows (spRows K) := ok_rows T
  have GE : FnR P w K mg base (L2.CX P w) 7 a.f__law_evening (spEve a.c_Evening a.c_Bill) := ok_eve T
  have GF : FnR P w K mg base (L2.CX P w) 1 a.f__law_fault (spFault K) := ok_fault T
  have GIs : FnR P w K mg base (L2.CX P w) 4 a.f__law_is_bill (spIsBill a) := ok_isbill T
  have GEC : FnR P w K mg base (L2.CX P w) 1 a.f_Evening_seat_count (spEvCount a.c_Evening) := ok_ev_count T
  have GEB : FnR P w K mg base (L2.CX P w) 1 a.f_Evening_bills (spEvBills a.c_Evening) := ok_ev_bills T
  have GEL : FnR P w K mg base (L2.CX P w) 1 a.f_Evening__len_ (spEvLen a.c_Evening a.c_Bill) := ok_ev_len T
  have GBo : FnR P w K mg base (L2.CX P w) 1 a.f_Evening__bool_ (spBool a.c_Evening a.c_Bill) := ok_ev_bool T
  have GG : FnR P w K mg base (L2.CX P w) 2 a.f_Evening__getitem_ (spEvGet a.c_Evening a.c_Bill) := ok_ev_get T
  have GBi : FnR P w K mg base (L2.CX P w) 3 a.f_Bill__init_ (InitB a.c_Bill) := ok_bi_init T
  have GI : FnR P w K mg base (L2.CX P w) 4 a.f_Evening__init_ (InitE a.c_Evening a.c_Bill) := ok_ev_init T
  have GEM : FnR P w K mg base (L2.CX P w) 6 a.f_Evening__mul_ (spEvMul a.c_Evening a.c_Bill) := ok_ev_mul T
  have GO : ∀ B : Heap, FnR P w K mg B (L2.CX P w) 11 a.f__law_outcome (spOut1 P w K mg B a) := fun B => ok_outcome1 T
  have GBX : ∀ B : Heap, FnR P w K mg B (L2.CX P w) 6 a.f_Bill__init_ (InitBX a) := fun B => ok_bi_initX T SP
  have GBG : ∀ B : Heap, FnR P w K mg B (L2.CX P w) 3 a.f_Bill__init_ (InitB a.c_Bill) := fun B => ok_bi_init T
  have GIX : ∀ B : Heap, FnR P w K mg B (L2.CX P w) 6 a.f_Evening__init_ (InitEX a) := fun B => ok_ev_initX T SP
  have GTX : ∀ B : Heap, FnR P w K mg B (L2.CX P w) 8 a.f_Evening_together (InitTX a) := fun B => ok_togX T SP
  have GAX : ∀ B : Heap, FnR P w K mg B (L2.CX P w) 8 a.f_Evening__add_ (spAddX a) := fun B => ok_addX T SP
  have GRf : FnR P w K mg base (L2.CX P w) 13 a.f__law_refused (spRefused a) := by
    obtain ⟨fd2, F2, hc2⟩ := T.uc__law_refused
    exact ((ok_refused T SP F2 hc2 TB__law_refused).raw (F2.binds fun _ _ _ _ _ _ us hl => match us, hl with | [_, _, _], _ => rfl) .nil).imp fun vs H Q E h => by rw [List.append_nil]; exact h
  refine okXC F hc sc_law (fun vs H Q E h => ?_) (fun A outer s H vs Q E hr h => ?_)
  · obtain ⟨sc, ns, rfl, _⟩ := h
    rfl
  · obtain ⟨sc, ns, rfl, hsc, hlen, htab, htab2, q⟩ := h
    have hr' := hr.units
    refine ⟨_, (pss_cons (ps_set (i := 1) sc_law.nd rfl (Or.inr rfl) (pe_glA Like.refl pas_main (by rfl) (pa_cons (pv 0) pa_nil)))
    (pss_cons (ps_if (pt_cmpA Like.refl pas_main (pe_tup (pa_cons (pe_atA Like.refl pas_main (pe_gvA Like.refl (by rfl))) (pa_cons (pe_atA Like.refl pas_main (pe_gvA Like.refl (by rfl))) pa_nil))) (pe_tup (pa_cons (pe_int) (pa_cons (pe_int) pa_nil))) (nomark _)) (pss_one (ps_ret (pe_bl))) pss_nil)
    (pss_cons (ps_for own_main rfl (pi_range1 (by rfl) T.z_range (pa_cons (pe_int) pa_nil)) (pg_name (i := 2) sc_law.nd rfl (Or.inl rfl)) (pss_cons (ps_set (i := 3) sc_law.nd rfl (Or.inr rfl) (pe_opA Like.refl pas_main (pe_int) (pe_glA Like.refl pas_main (by rfl) (pa_cons (pv 1) (pa_cons (pe_int) pa_nil)))))
    (pss_cons (ps_set (i := 4) sc_law.nd rfl (Or.inl rfl) (pe_glA Like.refl pas_main (by rfl) (pa_cons (pv 1) (pa_cons (pv 3) (pa_cons (pe_int) pa_nil)))))
    (pss_cons (ps_set (i := 5) sc_law.nd rfl (Or.inr rfl) (pe_glA Like.refl pas_main (by rfl) (pa_cons (pv 3) (pa_cons (pv 4) pa_nil))))
    (pss_cons (ps_if (PW.pt (pw_or (pt_cmpA Like.refl pas_main (pe_atA Like.refl pas_main (pv 5)) (pv 3) (nomark _)) (pw_or (pt_cmpA Like.refl pas_main (pe_biA (id := "len") Like.refl pas_main (by rfl) (by decide +kernel) (pa_cons (pv 5) pa_nil)) (pe_biA (id := "len") Like.refl pas_main (by rfl) (by decide +kernel) (pa_cons (pv 4) pa_nil)) (nomark _)) (pw_or1 (pt_cmpA Like.refl pas_main (pe_tyA (T := "bool") Like.refl pas_main (by rfl) (by decide +kernel) (pa_cons (pv 5) pa_nil)) (pe_cmpA Like.refl pas_main (pv 4) (pe_lst pa_nil) (nomark _)) (nomark _)))))) (pss_one (ps_ret (pe_bl))) pss_nil)
    (pss_cons (ps_for own_main rfl (pi_range1 (by rfl) T.z_range (pa_cons (pe_biA (id := "len") Like.refl pas_main (by rfl) (by decide +kernel) (pa_cons (pv 4) pa_nil)) pa_nil)) (pg_name (i := 6) sc_law.nd rfl (Or.inl rfl)) (pss_cons (ps_asg (pe_ixA Like.refl pas_main (pv 4) (pv 6)) (pg_tup rfl (pgs_cons (pg_name (i := 7) sc_law.nd rfl (Or.inr rfl)) (pgs_cons (pg_name (i := 8) sc_law.nd rfl (Or.inl rfl)) pgs_nil))))
    (pss_one (ps_if (PW.pt (pw_or (pt_not (pt_trA Like.refl pas_main (pe_glA Like.refl pas_main (by rfl) (pa_cons (pe_ixA Like.refl pas_main (pv 5) (pv 6)) (pa_cons (pv 7) (pa_cons (pv 8) pa_nil)))))) (pw_or1 (pt_not (pt_trA Like.refl pas_main (pe_glA Like.refl pas_main (by rfl) (pa_cons (pe_ixA Like.refl pas_main (pe_atA Like.refl pas_main (pv 5)) (pv 6)) (pa_cons (pv 7) (pa_cons (pv 8) pa_nil))))))))) (pss_one (ps_ret (pe_bl))) pss_nil))))
    (pss_cons (ps_set (i := 7) sc_law.nd rfl (Or.inr rfl) (pe_ixA Like.refl pas_main (pe_lst (pa_cons (pe_opA Like.refl pas_main (pe_int) (pe_int)) (pa_cons (pe_opA Like.refl pas_main (pe_opA Like.refl pas_main (pe_int) (pe_int)) (pe_int)) (pa_cons (pe_int) (pa_cons (pe_int) pa_nil))))) (pe_glA Like.refl pas_main (by rfl) (pa_cons (pv 1) (pa_cons (pe_int) pa_nil)))))
    (pss_cons (ps_set (i := 9) sc_law.nd rfl (Or.inr rfl) (pe_tyA (T := "tuple") Like.refl pas_main (by rfl) (by decide +kernel) (pa_cons (pe_lc (own := [("_law_k", 6)]) (g := gName 6) (tt := tYes) rfl sc_law.nd (pi_range1 (by rfl) T.z_range (pa_cons (pe_int) pa_nil)) (blkOk_by (own := [("_law_k", 6)]) (N := N_law) (sc := defScope s_law) (by decide +kernel)) (fun _ _ _ _ _ => (pg_name (i := 6) sc_law.nd rfl (by first | exact Or.inl rfl | exact Or.inr rfl))) (fun _ _ _ _ _ => pts_nil) (fun _ _ _ _ _ => (pe_opA ⟨rfl, rfl, rfl, rfl, rfl, rfl, rfl⟩ passL (pe_glA ⟨rfl, rfl, rfl, rfl, rfl, rfl, rfl⟩ passL (by rfl) (pa_cons (pv 1) (pa_cons (pe_int) pa_nil))) (pe_tyA (T := "int") ⟨rfl, rfl, rfl, rfl, rfl, rfl, rfl⟩ passL (by rfl) (by decide +kernel) (pa_cons (pe_cmpA ⟨rfl, rfl, rfl, rfl, rfl, rfl, rfl⟩ passL (pe_glA ⟨rfl, rfl, rfl, rfl, rfl, rfl, rfl⟩ passL (by rfl) (pa_cons (pv 1) (pa_cons (pe_int) pa_nil))) (pe_int) (nomark _)) pa_nil))))) pa_nil)))
    (pss_cons (ps_par (i := 10) (j := 11) rfl sc_law.nd rfl rfl (by decide) rfl rfl (pa_cons (pe_glA Like.refl pas_main (by rfl) (pa_cons (pv 7) (pa_cons (pv 9) pa_nil))) (pa_cons (pe_glB pas_main (fun _ => rfl) (by rfl) (pa_cons (pe_lam0 (T := TL a) TB_law rfl (tl_in_law rfl) (tl_one_law T rfl) (lamS_by (by kernel_rfl)) rfl rfl) pa_nil)) pa_nil)) (by rfl))
    (pss_cons (ps_if (PW.pt (pw_or (PW.pt (pw_and (pt_cmpA Like.refl pas_main (pv 10) (pe_non) (nomark _)) (pw_and1 (pt_cmpA Like.refl pas_main (pv 11) (pv 10) (nomark _))))) (pw_or1 (PW.pt (pw_and (pt_cmpA Like.refl pas_main (pv 10) (pe_non) (nomark _)) (pw_and1 (pt_not (pt_trA Like.refl pas_main (pe_glA Like.refl pas_main (by rfl) (pa_cons (pv 11) (pa_cons (pv 7) (pa_cons (pv 9) pa_nil)))))))))))) (pss_one (ps_ret (pe_bl))) pss_nil)
    (pss_cons (ps_set (i := 12) sc_law.nd rfl (Or.inl rfl) (pe_lst (pa_cons (pe_lam0 (T := TL a) TB_law rfl (tl_in_law rfl) (tl_one_law T rfl) (lamS_by (by kernel_rfl)) rfl rfl) (pa_cons (pe_lam1 (T := TL a) TB_law rfl (tl_in_law rfl) (tl_one_law T rfl) (lamS_by (by kernel_rfl)) rfl rfl) pa_nil))))
    (pss_cons (ps_if (pt_cmpA Like.refl pas_main (pe_lcB (own := [("_law_work", 13)]) (g := gName 13) rfl (fun _ => rfl) sc_law.nd (pi_seqA Like.refl (pv 12)) (blkOk_by (own := [("_law_work", 13)]) (N := N_law) (sc := defScope s_law) (by decide +kernel)) (fun _ _ _ _ _ _ => (pg_name (i := 13) sc_law.nd rfl (by first | exact Or.inl rfl | exact Or.inr rfl))) (fun _ _ _ _ _ B => pe_glA (X0 := rb _ B) ⟨rfl, rfl, rfl, rfl, rfl, rfl, rfl⟩ passL (by rfl) (pa_cons (pv 13) pa_nil))) (pe_lst (pa_cons (pe_tup (pa_cons (pe_str) (pa_cons (pe_int) pa_nil))) (pa_cons (pe_tup (pa_cons (pe_str) (pa_cons (pe_opA Like.refl pas_main (pe_int) (pe_int)) pa_nil))) pa_nil))) (nomark _)) (pss_one (ps_ret (pe_bl))) pss_nil)
    (pss_cons (ps_set (i := 14) sc_law.nd rfl (Or.inr rfl) (pe_ifExp (pt_cmpA Like.refl pas_main (pv 3) (pe_int) (nomark _)) (pe_glA Like.refl pas_main (by rfl) (pa_cons (pe_int) (pa_cons (pe_int) (pa_cons (pv 3) pa_nil)))) (pe_glA Like.refl pas_main (by rfl) (pa_cons (pe_int) (pa_cons (pe_int) pa_nil)))))
    (pss_cons (ps_set (i := 12) sc_law.nd rfl (Or.inl rfl) (pe_lst (pa_cons (pe_lam0 (T := TL a) TB_law rfl (tl_in_law rfl) (tl_one_law T rfl) (lamS_by (by kernel_rfl)) rfl rfl) (pa_cons (pe_lam1 (T := TL a) TB_law rfl (tl_in_law rfl) (tl_one_law T rfl) (lamS_by (by kernel_rfl)) rfl rfl) (pa_cons (pe_lam1 (T := TL a) TB_law rfl (tl_in_law rfl) (tl_one_law T rfl) (lamS_by (by kernel_rfl)) rfl rfl) pa_nil)))))
    (pss_cons (ps_if (pt_cmpA Like.refl pas_main (pe_lcB (own := [("_law_work", 13)]) (g := gName 13) rfl (fun _ => rfl) sc_law.nd (pi_seqA Like.refl (pv 12)) (blkOk_by (own := [("_law_work", 13)]) (N := N_law) (sc := defScope s_law) (by decide +kernel)) (fun _ _ _ _ _ _ => (pg_name (i := 13) sc_law.nd rfl (by first | exact Or.inl rfl | exact Or.inr rfl))) (fun _ _ _ _ _ B => pe_glA (X0 := rb _ B) ⟨rfl, rfl, rfl, rfl, rfl, rfl, rfl⟩ passL (by rfl) (pa_cons (pv 13) pa_nil))) (pe_opA Like.refl pas_main (pe_lst (pa_cons (pe_tup (pa_cons (pe_str) (pa_cons (pe_opA Like.refl pas_main (pe_int) (pe_int)) pa_nil))) pa_nil)) (pe_int)) (nomark _)) (pss_one (ps_ret (pe_bl))) pss_nil)
    (pss_cons (ps_if (PW.pt (pw_and (pt_cmpA Like.refl pas_main (pv 3) (pe_int) (nomark _)) (pw_and1 (pt_cmpA Like.refl pas_main (pe_glB pas_main (fun _ => rfl) (by rfl) (pa_cons (pe_lam0 (T := TL a) TB_law rfl (tl_in_law rfl) (tl_one_law T rfl) (lamS_by (by kernel_rfl)) rfl rfl) pa_nil)) (pe_tup (pa_cons (pe_str) (pa_cons (pe_int) pa_nil))) (nomark _))))) (pss_one (ps_ret (pe_bl))) pss_nil)
    (pss_cons (ps_set (i := 15) sc_law.nd rfl (Or.inr rfl) (pe_opA Like.refl pas_main (pe_glA Like.refl pas_main (by rfl) (pa_cons (pv 3) (pa_cons (pe_glA Like.refl pas_main (by rfl) (pa_cons (pe_int) (pa_cons (pe_int) pa_nil))) pa_nil))) (pe_int)))
    (pss_cons (ps_if (PW.pt (pw_or (pt_cmpA Like.refl pas_main (pe_biA (id := "len") Like.refl pas_main (by rfl) (by decide +kernel) (pa_cons (pv 15) pa_nil)) (pe_int) (nomark _)) (pw_or1 (pt_cmpA Like.refl pas_main (pe_glB pas_main (fun _ => rfl) (by rfl) (pa_cons (pe_lam0 (T := TL a) TB_law rfl (tl_in_law rfl) (tl_one_law T rfl) (lamS_by (by kernel_rfl)) rfl rfl) pa_nil)) (pe_tup (pa_cons (pe_str) (pa_cons (pe_int) pa_nil))) (nomark _))))) (pss_one (ps_ret (pe_bl))) pss_nil)
    (pss_one (ps_if (pt_not (pt_trA Like.refl pas_main (pe_glA Like.refl pas_main (by rfl) (pa_cons (pv 3) (pa_cons (pv 5) (pa_cons (pv 4) pa_nil)))))) (pss_one (ps_ret (pe_bl))) pss_nil))))))))))))))))))))
    (pss_one (ps_ret (pe_bl)))))), ?_⟩
    walk_at "go"
    refine s_fn GSt (hr.mono (by decide)) ⟨sc, ns, rfl, hsc, hlen, fun st H1 hst s1 ok1 => ?_⟩
    walk_at "go"
    have tab1 : Tabs (TL a) H1 := fun p hp => by
      simp only [TL, List.mem_cons, List.not_mem_nil, or_false] at hp
      rcases hp with rfl | rfl
      · first | exact TabS.nil (s1 _ _ htab) | exact TabS.nil (s1 _ _ htab2)
      · first | exact TabS.nil (s1 _ _ htab) | exact TabS.nil (s1 _ _ htab2)
    refine s_cval T.cr_Bill T.cv_Bill_MAX_SEATS.choose_spec ?_
    walk_at "go"
    refine s_cval T.cr_Evening T.cv_Evening_MAX_BILLS.choose_spec ?_
    refine ⟨by show 2 ≤ sizeLine; decide, fun c1 hc1 => ?_⟩
    have z1 := same_new (o := .tup [.int 8, .int 30]) hc1
    have w1 : (upd H1 c1 (.tup [.int 8, .int 30])) c1 = some (.tup [.int 8, .int 30]) := upd_same
    have ok1a := ok1.same z1
    have tab1a := tabs_same tab1 z1
    generalize upd H1 c1 (.tup [.int 8, .int 30]) = H1a at *
    walk_at "go"
    refine ⟨by show 2 ≤ sizeLine; decide, fun c2 hc2 => ?_⟩
    have z2 := same_new (o := .tup [.int 8, .int 30]) hc2
    have w2 : (upd H1a c2 (.tup [.int 8, .int 30])) c2 = some (.tup [.int 8, .int 30]) := upd_same
    have ok1b := ok1a.same z2
    have tab1b := tabs_same tab1a z2
    have w1 := z2 _ _ w1
    generalize upd H1a c2 (.tup [.int 8, .int 30]) = H1b at *
    refine s_neTups hr' (cs := [8, 30]) (ds := [8, 30]) (SqT.of w1) (SqT.of w2) ?_
    rw [decide_eq_true rfl]
    clear w1 w2 z1 z2 hc1 hc2 ok1 ok1a tab1 tab1a hst s1
    walk_at "go"
    refine f_rng (n := 5) (fun k σ H' => StOk K sc ns H' st ∧ Tabs (TL a) H' ∧ ∃ x2 x3 x4 x5 x6 x7 x8 x9 x10 x11 x12 x13 x14 x15, σ = [some (.ref sc), some (.ref st), x2, x3, x4, x5, x6, x7, x8, x9, x10, x11, x12, x13, x14, x15]) (fun R k => ?_) (by decide)
      ⟨ok1b, tab1b, none, none, none, none, none, none, none, none, none, none, none, none, none, none, rfl⟩ (fun k σ H2 hk pv => ?_) (fun σ H' pv => ?_)
    · walk_at "go"
      exact k
    · obtain ⟨ok2, tab2, x2, x3, x4, x5, x6, x7, x8, x9, x10, x11, x12, x13, x14, x15, rfl⟩ := pv
      refine w_name ?_
      dsimp only [List.set]
      walk_at "go"
      refine s_fn GD (hr.mono (by decide)) ⟨st, 7, sc, ns, rfl, ok2, by decide, by decide, fun v H3 v0 v1 sb3 c3 => ?_⟩
      obtain ⟨vn, rfl⟩ := Int.eq_ofNat_of_zero_le v0
      walk_at "go"
      have hn2 : 2 ≤ vn + 2 := by omega
      have hn8 : vn + 2 ≤ 8 := by omega
      rw [show (2 : Int) + (vn : Int) = ((vn + 2 : Nat) : Int) by omega]
      generalize vn + 2 = n at *
      have ok3 := ok2.to sb3 c3
      have tab3 := tabs_b tab2 sb3 ok2.1.lst.choose_spec
      try dsimp only [List.set]
      walk_at "go"
      refine s_fn GR (hr.mono (by decide)) ⟨st, n, 5, sc, ns, rfl, ok3, hn2, hn8, by decide, fun p rs rows H4 hp sb4 c4 hpl hrw hrl hrok => ?_⟩
      have ok4 := ok3.to sb4 c4
      have tab4 := tabs_b tab3 sb4 ok3.1.lst.choose_spec
      have okr : OkEv n rows := ⟨hn2, hn8, by omega, hrok⟩
      walk_at "go"
      dsimp only [List.set]
      walk_at "go"
      refine s_fn GE (hr.mono (by decide)) ⟨n, p, rs, rows, rfl, hpl, hrw, okr, fun ev H5 s5 hev => ?_⟩
      walk_at "go"
      obtain ⟨dxe, tbe, pse, i1, i2, i3⟩ := id hev
      refine s_prop T.cl_Evening T.pr_Evening_seat_count GEC (hr.mono (by decide)) i1 ⟨ev, dxe, tbe, _, rfl, i1, ?_⟩
      walk_at "go"
      rw [decide_eq_true rfl]
      walk_at "go"
      refine s_lenI T.m_Evening__len_ GEL (hr.mono (by decide)) i1 ⟨ev, _, _, rfl, hev, _, rfl, by omega, by omega, ?_⟩
      walk_at "go"
      have hpl5 := s5 _ _ hpl
      refine s_lenL (SqL.of hpl5) ?_
      rw [List.length_map, hrw.1]
      walk_at "go"
      rw [decide_eq_true rfl]
      walk_at "go"
      refine s_boolO T.m_Evening__bool_ GBo (hr.mono (by decide)) i1 ⟨ev, _, _, rfl, hev, _, rfl, ?_⟩
      walk_at "go"
      refine ⟨by show 0 ≤ sizeLine; decide, fun e0 he0 => ?_⟩
      have s6 := same_new (o := .lst []) he0
      have w6 : (upd H5 e0 (.lst [])) e0 = some (.lst []) := upd_same
      have hrw6 : RowsAt (upd H5 e0 (.lst [])) rs rows := hrw.keep fun q xs e => s6 _ _ (s5 _ _ e)
      generalize upd H5 e0 (.lst []) = H6 at *
      refine s_neD hr' (.lst (SqL.of (s6 _ _ hpl5)) (rows_dp rs rows hrw6.1 hrw6.2)) (.lst (SqL.of w6) .nil) (rowD_shaped rows) (by decide +kernel) ?_
      rw [eqv_rows_nil]
      walk_at "go"
      rw [decide_eq_true rfl]
      have s46 := s5.trans s6
      have ok6 := ok4.same s46
      have tab6 := tabs_same tab4 s46
      have hev6 := hev.same s6
      have hpl6 := s6 _ _ hpl5
      clear w6 he0
      walk_at "go"
      try dsimp only [List.set]
      walk_at "go"
      refine f_rng (n := rows.length) (fun j σ H' => Same H6 H' ∧ ∃ y6 y7 y8, σ = [some (.ref sc), some (.ref st), some (.int (k : Nat)), some (.int n), some (.ref p), some (.ref ev), y6, y7, y8, x9, x10, x11, x12, x13, x14, x15]) (fun R k => ?_) (by omega)
        ⟨Same.refl _, _, _, _, rfl⟩ (fun j σ H7 hj pv => ?_) (fun σ H7 pv => ?_)
      · walk_at "go"
        refine s_lenL (SqL.of hpl6) ?_
        rw [List.length_map, hrw.1]
        exact k
      · obtain ⟨s7, y6, y7, y8, rfl⟩ := pv
        refine w_name ?_
        dsimp only [List.set]
        walk_at "go"
        obtain ⟨b, eb⟩ : ∃ b, rows[j]? = some b := ⟨_, List.getElem?_eq_getElem hj⟩
        obtain ⟨r, er⟩ : ∃ r, rs[j]? = some r := ⟨_, List.getElem?_eq_getElem (by rw [hrw.1]; exact hj)⟩
        obtain ⟨t, h1, h2⟩ := hrw6.2 j r b er eb
        have okb : OkBill b := (hrok b (List.mem_of_getElem? eb)).1
        have hev7 := hev6.same s7
        obtain ⟨dx7, tb7, ps7, f1, f2, f3⟩ := id hev7
        refine s_ixL (SqL.of (s7 _ _ hpl6)) (v := .ref r) (at_of (j := j) rfl (by rw [List.getElem?_map, er]; rfl)) ?_
        refine g_pair (SqT.of (s7 _ _ h1)) ?_
        try dsimp only [List.set]
        walk_at "go"
        refine s_ixI T.m_Evening__getitem_ T.u_Evening__getitem_.choose_spec GG (hr.mono (by decide)) f1 ⟨ev, j, n, rows, rfl, hev7, by omega, by omega, fun bp b1 eb1 bi => ?_⟩
        rw [Int.toNat_natCast, eb] at eb1
        cases eb1
        walk_at "go"
        refine s_fn GIs (hr.mono (by decide)) ⟨bp, t, b.1, b.2, rfl, bi, s7 _ _ h2, okb, fun H8 s8 => ?_⟩
        walk_at "go"
        have hev8 := hev7.same s8
        obtain ⟨dx8, tb8, ps8, g1, g2, g3⟩ := id hev8
        refine s_prop T.cl_Evening T.pr_Evening_bills GEB (hr.mono (by decide)) g1 ⟨ev, dx8, tb8, _, rfl, g1, ?_⟩
        walk_at "go"
        obtain ⟨bq, ebq⟩ : ∃ bq, ps8[j]? = some bq := ⟨_, List.getElem?_eq_getElem (by rw [g3.1]; exact hj)⟩
        refine s_ixT (SqT.of g2) (v := .ref bq) (at_of (j := j) rfl (by rw [List.getElem?_map, ebq]; rfl)) ?_
        walk_at "go"
        refine s_fn GIs (hr.mono (by decide)) ⟨bq, t, b.1, b.2, rfl, g3.2 j bq b ebq eb, s8 _ _ (s7 _ _ h2), okb, fun H9 s9 => ?_⟩
        walk_at "go"
        exact ⟨(s7.trans s8).trans s9, _, _, _, rfl⟩
      · obtain ⟨s7, y6, y7, y8, rfl⟩ := pv
        have ok7 := ok6.same s7
        have tab7 := tabs_same tab6 s7
        have hev7 := hev6.same s7
        have hpl7 := s7 _ _ hpl6
        have hrl7 := hrw.1
        clear hrw6 hrw hpl6 hpl5 hpl hev6 hev ok6 ok4 tab6 tab4 tab3 i1 i2 i3
        walk_at "go"
        refine s_pow ⟨by decide, by decide, by decide⟩ ?_
        walk_at "go"
        refine ⟨by show 4 ≤ sizeLine; decide, fun l1 hl1 => ?_⟩
        have z1 := same_new (o := .lst [.int (0 - 1), .int (10 ^ (12 : Int).toNat + 1), .int 0, .int 5]) hl1
        have w1 : (upd H7 l1 (.lst [.int (0 - 1), .int (10 ^ (12 : Int).toNat + 1), .int 0, .int 5])) l1 = some (.lst (([0 - 1, 10 ^ (12 : Int).toNat + 1, 0, 5] : List Int).map V.int)) := upd_same
        have nl1 := ok7.1.ne hl1
        have npst : p ≠ st := ok3.1.ne hp
        have ok8 := ok7.same z1
        have tab8 := tabs_same tab7 z1
        have hev8 := hev7.same z1
        have hpl8 := z1 _ _ hpl7
        generalize upd H7 l1 (.lst [.int (0 - 1), .int (10 ^ (12 : Int).toNat + 1), .int 0, .int 5]) = H8 at *
        clear ok7 tab7 hev7 hpl7 z1 hl1
        walk_at "go"
        refine s_fn GD (hr.mono (by decide)) ⟨st, 4, sc, ns, rfl, ok8, by decide, by decide, fun v9 H9 v0 v1 sb9 c9 => ?_⟩
        obtain ⟨an, rfl⟩ := Int.eq_ofNat_of_zero_le v0
        have w1 := sb9 _ _ nl1 w1
        have ok9 := ok8.to sb9 c9
        have tab9 := tabs_b tab8 sb9 ok8.1.lst.choose_spec
        have hev9 := hev8.sb sb9 ok8.1.lst.choose_spec
        have hpl9 := sb9 _ _ npst hpl8
        refine s_ixL (SqL.of w1) (v := .int (([0 - 1, 10 ^ (12 : Int).toNat + 1, 0, 5] : List Int).getD an 0)) (at_of (j := an) rfl (mapGet1 (by show an < 4; omega))) ?_
        generalize ([0 - 1, 10 ^ (12 : Int).toNat + 1, 0, 5] : List Int).getD an 0 = am
        clear w1 ok8 tab8 hev8 hpl8 v0 v1 nl1
        walk_at "go"
        try dsimp only [List.set]
        walk_at "go"
        refine c_rngI (n := 3) (· = st) (fun i o H' => StC sc H' st ∧ ∃ ss : List Int, o = ss.map V.int ∧ ss.length = i) (by omega) (fun b e => by obtain ⟨l, hl⟩ := c9.lst; rw [e, hl]; simp) (fun D hD => ⟨c9.upd (c9.ne hD), [], rfl, rfl⟩) (fun i o H' hi pv => ?_)
          (fun i o H' D l l' hD hd pv => ⟨pv.1.upd (c9.ne hD), pv.2⟩) (fun _ => rfl) (fun i H' o hi s2 pv => ?_) (fun p10 o H10 hp10 sb10 pv hL => ?_) (fun R k => ?_)
        · obtain ⟨_, ss, rfl, h⟩ := pv
          rw [List.length_map]
          omega
        · obtain ⟨c10, ss, rfl, h⟩ := pv
          refine turnI_map fun R hR => ?_
          walk_at "go"
          refine s_fn GD (hr.mono (by decide)) ⟨st, 10, sc, ns, rfl, ok9.to s2 c10, by decide, by decide, fun v H11 v0 v1 sb11 c11 => ?_⟩
          walk_at "go"
          refine s_fn GD (hr.mono (by decide)) ⟨st, 9, sc, ns, rfl, (ok9.to s2 c10).to sb11 c11, by decide, by decide, fun v2 H12 u0 u1 sb12 c12 => ?_⟩
          walk_at "go"
          refine s_intB ?_
          walk_at "go"
          exact hR _ _ (sb11.trans sb12) ⟨c12, ss ++ [_], by rw [List.map_append]; rfl, by rw [List.length_append, h]; rfl⟩
        · obtain ⟨c10, ss, rfl, hsl⟩ := pv
          have ok10 := ok9.to sb10 c10
          have tab10 := tabs_b tab9 sb10 ok9.1.lst.choose_spec
          have hev10 := hev9.sb sb10 ok9.1.lst.choose_spec
          have hpl10 := sb10 _ _ npst hpl9
          obtain ⟨a0, a1, a2, rfl⟩ : ∃ a0 a1 a2, ss = [a0, a1, a2] := by
            match ss, hsl with
            | [a0, a1, a2], _ => exact ⟨a0, a1, a2, rfl⟩
          clear ok9 tab9 hev9 hpl9 c9
          refine s_tupleL (SqL.of hL) fun so hso => ?_
          have z2 := same_new (o := .tup ([a0, a1, a2].map V.int)) hso
          have gso : (upd H10 so (.tup ([a0, a1, a2].map V.int))) so = some (.tup ([a0, a1, a2].map V.int)) := upd_same
          have ok11 := ok10.same z2
          have tab11 := tabs_same tab10 z2
          have hev11 := hev10.same z2
          have hpl11 := z2 _ _ hpl10
          generalize upd H10 so (.tup ([a0, a1, a2].map V.int)) = H11 at *
          clear ok10 tab10 hev10 hpl10 z2 hL hso hp10
          try dsimp only [List.set]
          walk_at "go"
          try dsimp only [List.set]
          walk_at "go"
          with_reducible refine' w_par ?_
          walk_at "go"
          refine s_fnJ GF (hr.mono (by decide)) (fun v H' => Same H11 H' ∧ ((faultD am [a0, a1, a2] = none ∧ v = .non) ∨ ∃ j u, faultD am [a0, a1, a2] = some j ∧ v = .ref u ∧ H' u = some (.tup [.str "InvalidBill", .int j])))
            (fun R hR => ⟨am, so, [a0, a1, a2], rfl, SqT.of gso, by show 3 ≤ 1000; decide, fun e => hR _ _ ⟨Same.refl _, .inl ⟨e, rfl⟩⟩, fun j e u H' s g => hR _ _ ⟨s, .inr ⟨j, u, e, rfl, g⟩⟩⟩) fun v10 H12 ⟨s12, hx⟩ => ?_
          have tab12 := tabs_same tab11 s12
          have gso12 := s12 _ _ gso
          walk_at "go"
          refine ⟨a.f__law_outcome, T.g__law_outcome, Fun.kp T.u__law_outcome.choose_spec, ?_⟩
          walk_at "go"
          refine ⟨tab12, fun f0 c0 H13 E13 _ tab13 _ g0 k0 => ?_⟩
          have gso13 := E13 _ _ gso12 (by simp)
          walk_at "go"
          refine fun B hB => ⟨11, spOut1 P w K mg B a, ok_outcome1 T, hr.mono (by decide), spJ (fun v H' => Same H13 H' ∧ ((faultD am [a0, a1, a2] = none ∧ ∃ b, v = .ref b ∧ BiAt a.c_Bill H' b (am, [a0, a1, a2])) ∨ ∃ j u, faultD am [a0, a1, a2] = some j ∧ v = .ref u ∧ H' u = some (.tup [.str "InvalidBill", .int j]))) (fun R hR => ?_) (fun v11 H14 ⟨s14, hy⟩ => ?_)⟩
          · cases ef : faultD am [a0, a1, a2] with
            | none =>
              refine ⟨f0, _, _, _, fun _ _ _ => False, rfl, g0, fun R9 hR9 => ?_, fun _ _ _ z => z.elim⟩
              refine lam_go (k := 9) ["_law_amount", "_law_some"] [] ["_law_amount", "_law_some"] [7, 9] [some (.int am), some (.ref so)] hB (by kernel_rfl) (by kernel_rfl) (g0) (k0) rfl rfl (fun s doc pm ctv _ => lam_bind0 rfl) (fun A2 outer2 s3 hr3 => ⟨_, (pe_glA Like.refl pas_lam (by rfl) (pa_cons (pv 0) (pa_cons (pe_ixA Like.refl pas_lam (pv 1) (pe_int)) (pa_cons (pe_ixA Like.refl pas_lam (pv 1) (pe_int)) (pa_cons (pe_ixA Like.refl pas_lam (pv 1) (pe_int)) pa_nil))))), ?_⟩)
              walk_at "go"
              refine s_ixT (SqT.of gso13) (v := .int a0) rfl ?_
              walk_at "go"
              refine s_ixT (SqT.of gso13) (v := .int a1) rfl ?_
              walk_at "go"
              refine s_ixT (SqT.of gso13) (v := .int a2) rfl ?_
              walk_at "go"
              exact s_bill (i := am) (ss := [a0, a1, a2]) T (GBG B) (hr3.mono (by decide)) (ok_of_fault ef (by simp)) (by show 3 ≤ 100000; decide) fun b Hn hb sn bi => hR9 _ _ (hR _ _ ⟨sn, .inl ⟨ef, b, rfl, bi⟩⟩)
            | some j =>
              refine ⟨f0, _, _, _, EfX a.c_InvalidBill j H13, rfl, g0, fun R9 hR9 => ?_, out_bill fun T9 H'' hT s => hR _ _ ⟨s, .inr ⟨j, T9, ef, rfl, hT⟩⟩⟩
              refine lam_go (k := 9) ["_law_amount", "_law_some"] [] ["_law_amount", "_law_some"] [7, 9] [some (.int am), some (.ref so)] hB (by kernel_rfl) (by kernel_rfl) (g0) (k0) rfl rfl (fun s doc pm ctv _ => lam_bind0 rfl) (fun A2 outer2 s3 hr3 => ⟨_, (pe_glA Like.refl pas_lam (by rfl) (pa_cons (pv 0) (pa_cons (pe_ixA Like.refl pas_lam (pv 1) (pe_int)) (pa_cons (pe_ixA Like.refl pas_lam (pv 1) (pe_int)) (pa_cons (pe_ixA Like.refl pas_lam (pv 1) (pe_int)) pa_nil))))), ?_⟩)
              walk_at "go"
              refine s_ixT (SqT.of gso13) (v := .int a0) rfl ?_
              walk_at "go"
              refine s_ixT (SqT.of gso13) (v := .int a1) rfl ?_
              walk_at "go"
              refine s_ixT (SqT.of gso13) (v := .int a2) rfl ?_
              walk_at "go"
              exact s_billX (i := am) (k := j) (ss := [a0, a1, a2]) T (GBX B) (hr3.mono (by decide)) (by show 3 ≤ 1000; decide) (bad_of_fault ef) (EfX.ix (Same.refl _))
          · have EX := (keepN s12).trans (E13.trans (keepN s14))
            have ok14 := ok11.ext EX
            have tab14 := tabs_same tab13 s14
            have hev14 := hev11.extN EX
            have hpl14 := EX _ _ hpl11 (by simp)
            have gso14 := s14 _ _ gso13
            have hx14 : (faultD am [a0, a1, a2] = none ∧ v10 = .non) ∨ ∃ j u, faultD am [a0, a1, a2] = some j ∧ v10 = .ref u ∧ H14 u = some (.tup [.str "InvalidBill", .int j]) := by
              rcases hx with hx | ⟨j, u, e1, e2, e3⟩
              · exact .inl hx
              · exact .inr ⟨j, u, e1, e2, (E13.trans (keepN s14)) _ _ e3 (by simp)⟩
            clear hx g0 k0 gso13 gso12 gso ok11 tab11 tab12 tab13 hev11 hpl11
            walk_at "go"
            refine ⟨_, _, rfl, ?_⟩
            try dsimp only [List.set]
            with_reducible refine' w_seq ?_
            refine w_ifSJ (fun σ' H' => Same H14 H' ∧ σ' = [some (.ref sc), some (.ref st), some (.int (k : Nat)), some (.int n), some (.ref p), some (.ref ev), y6, some (.int am), y8, some (.ref so), some v10, some v11, x12, x13, x14, x15]) (fun N hN => ?_) (fun σ' H15 pv => ?_)
            · walk_at "go"
              rcases hx14 with ⟨e1, rfl⟩ | ⟨j, u, e1, rfl, gu⟩
              · obtain ⟨b, rfl, bi⟩ : ∃ b, v11 = .ref b ∧ BiAt a.c_Bill H14 b (am, [a0, a1, a2]) := by
                  rcases hy with ⟨_, hy⟩ | ⟨j, u, e2, _⟩
                  · exact hy
                  · rw [e1] at e2; cases e2
                refine s_notN ?_
                rw [decide_eq_true rfl]
                walk_at "go"
                refine s_isN ?_
                rw [decide_eq_true rfl]
                walk_at "go"
                refine s_fn GIs (hr.mono (by decide)) ⟨b, so, am, [a0, a1, a2], rfl, bi, gso14, ok_of_fault e1 (by simp), fun H15 s15 => ?_⟩
                walk_at "go"
                exact hN _ _ ⟨s15, rfl⟩
              · obtain ⟨u2, rfl, gu2⟩ : ∃ u2, v11 = .ref u2 ∧ H14 u2 = some (.tup [.str "InvalidBill", .int j]) := by
                  rcases hy with ⟨e2, _⟩ | ⟨j2, u2, e2, e3, e4⟩
                  · rw [e1] at e2; cases e2
                  · rw [e1] at e2; cases e2; exact ⟨u2, e3, e4⟩
                refine s_notN ?_
                rw [decide_eq_false (show ¬ (V.ref u = V.non) by simp)]
                walk_at "go"
                have hd : ∀ {q : Addr}, H14 q = some (.tup [.str "InvalidBill", .int j]) → Dp K H14 (.ref q) (.tuple [.str "InvalidBill", .int j]) := fun e => .tup (SqT.of e) (.cons (.str _) (.cons (.int _) .nil))
                refine s_neD hr' (hd gu2) (hd gu) (shaped_ex j) (shaped_ex j) ?_
                rw [SeqAt.eqv_refl _ (SeqAt.canLay_of_shaped (shaped_ex j))]
                walk_at "go"
                refine s_isN ?_
                rw [decide_eq_false (show ¬ (V.ref u = V.non) by simp)]
                walk_at "go"
                exact hN _ _ ⟨Same.refl _, rfl⟩
            · obtain ⟨s15, rfl⟩ := pv
              have ok15 := ok14.same s15
              have tab15 := tabs_same tab14 s15
              have hev15 := hev14.same s15
              have hpl15 := s15 _ _ hpl14
              clear hx14 hy gso14 ok14 tab14 hev14 hpl14
              walk_at "go"
              walk_at "go"
              refine ⟨tab15, fun f1 c1 H101 E101 n101 tab101 _ g1_0 k1_0 => ?_⟩
              try dsimp only [List.set]
              have g1 := g1_0
              have k1 := k1_0
              have EE101 : ExtN H15 H101 := E101
              clear g1_0 k1_0
              walk_at "go"
              refine ⟨tab101, fun f2 c2 d2 H102 E102 n102 tab102 _ g2_0 k2_0 m2_0 => ?_⟩
              try dsimp only [List.set]
              have g1 := E102 _ _ g1 lamO_ne
              have k1 := E102 _ _ k1 codeO_ne
              have g2 := g2_0
              have k2 := k2_0
              have m2 := m2_0
              have EE102 : ExtN H15 H102 := EE101.trans E102
              clear g2_0 k2_0 m2_0
              walk_at "go"
              refine ⟨by show 2 ≤ sizeLine; decide, fun w1 hw1 => ?_⟩
              have S103 := same_new (o := .lst [.ref f1, .ref f2]) hw1
              have g1 := S103 _ _ g1
              have k1 := S103 _ _ k1
              have g2 := S103 _ _ g2
              have k2 := S103 _ _ k2
              have m2 := S103 _ _ m2
              have EE103 : ExtN H15 _ := EE102.trans (keepN S103)
              have tab103 := tabs_same tab102 S103
              have hw_w1 : (upd H102 w1 (.lst [.ref f1, .ref f2])) w1 = some (.lst [.ref f1, .ref f2]) := upd_same
              generalize upd H102 w1 (.lst [.ref f1, .ref f2]) = H103 at *
              walk_at "go"
              try dsimp only [List.set]
              walk_at "go"
              have gw : H103 w1 = some (.lst ([f1, f2].map V.ref)) := hw_w1
              refine c_outsV (fun i => if i = 0 then [.str "InvalidBill", .int (0)] else [.str "InvalidBill", .int (-1)]) (l := w1) (fs := [f1, f2]) gw (by show 2 ≤ 1000; decide) (fun B hB i f H' hi s R hR => ?_) (fun p104 Ts104 H104 s104 hp104 hlT104 hT104 => ?_) (fun _ => rfl) (fun R k => ?_)
              · have X9 := EE103.trans (keepN s)
                walk_at "go"
                match i, hi with
                | 0, hi =>
                  obtain rfl : f1 = f := Option.some.inj hi
                  refine s_fn (GO B) (hr.mono (by decide)) ⟨f1, _, _, _, EfX a.c_InvalidBill (0) H', rfl, s _ _ g1, fun R9 hR9 => ?_, out_bill hR⟩
                  refine lam_go (k := 9) [] [] [] [] [] hB (by kernel_rfl) (by kernel_rfl) (s _ _ g1) (s _ _ k1) rfl rfl (fun s doc pm ctv _ => lam_bind0 rfl) (fun A2 outer2 s3 hr3 => ⟨_, (pe_glA Like.refl pas_lam (by rfl) (pa_cons (pe_int) pa_nil)), ?_⟩)
                  walk_at "go"
                  exact s_billX (i := 0) (k := 0) (ss := []) T (GBX B) (hr3.mono (by decide)) (by decide) (.inr ⟨by decide, by decide, 0, rfl, .inr ⟨rfl, rfl⟩⟩) (EfX.ix (Same.refl _))
                | 1, hi =>
                  obtain rfl : f2 = f := Option.some.inj hi
                  refine s_fn (GO B) (hr.mono (by decide)) ⟨f2, _, _, _, EfX a.c_InvalidBill (-1) H', rfl, s _ _ g2, fun R9 hR9 => ?_, out_bill hR⟩
                  refine lam_go (k := 9) (vs := [.int 0]) ["_law_a", "_law_count"] ["_law_a"] ["_law_count"] [3] [some (.int n)] hB (by kernel_rfl) (by kernel_rfl) (s _ _ g2) (s _ _ k2) rfl rfl (fun s4 doc pm ctv hok => lam_bind1 hok (s _ _ m2) rfl (fun _ => rfl)) (fun A2 outer2 s3 hr3 => ⟨_, (pe_cmA Like.refl pas_lam (pe_gvA Like.refl (by rfl)) (pa_cons (pv 1) (pa_cons (pe_int) (pa_cons (pe_opA Like.refl pas_lam (pe_int) (pe_int)) pa_nil)))), ?_⟩)
                  walk_at "go"
                  refine w_cmA ?_
                  walk_at "go"
                  refine ⟨a.c_Evening, _, _, _, 8, InitTX a, rfl, T.cr_Evening, T.cm_Evening_together, GTX B, hr3.mono (by decide), ?_⟩
                  walk_at "go"
                  exact ⟨[.ref a.c_Evening, .int n], [.int 1, .int (0 - 1)], rfl, rfl, by show 2 ≤ sizeLine; decide, fun tt htt => ⟨n, tt, [1, 0 - 1], rfl, upd_same, by show 2 ≤ 1000; decide, .inr ⟨by omega, by omega, ⟨0 - 1, by simp, by decide⟩, EfX.ix (same_new htt)⟩⟩⟩
                | i + 2, hi => cases hi
              · walk_at "go"
                clear g1 k1
                clear g2 k2 m2
                have tab104 := tabs_same tab103 s104
                have EE104 := EE103.trans (keepN s104)
                clear gw hw_w1
                refine ⟨by show 2 ≤ sizeLine; decide, fun U1 hU1 => ?_⟩
                have S105 := same_new (o := .tup [.str "InvalidBill", .int 0]) hU1
                have EE105 : ExtN H15 _ := EE104.trans (keepN S105)
                have tab105 := tabs_same tab104 S105
                have hw_U1 : (upd H104 U1 (.tup [.str "InvalidBill", .int 0])) U1 = some (.tup [.str "InvalidBill", .int 0]) := upd_same
                generalize upd H104 U1 (.tup [.str "InvalidBill", .int 0]) = H105 at *
                walk_at "go"
                refine ⟨by show 2 ≤ sizeLine; decide, fun U2 hU2 => ?_⟩
                have S106 := same_new (o := .tup [.str "InvalidBill", .int (0 - 1)]) hU2
                have EE106 : ExtN H15 _ := EE105.trans (keepN S106)
                have tab106 := tabs_same tab105 S106
                have hw_U2 : (upd H105 U2 (.tup [.str "InvalidBill", .int (0 - 1)])) U2 = some (.tup [.str "InvalidBill", .int (0 - 1)]) := upd_same
                generalize upd H105 U2 (.tup [.str "InvalidBill", .int (0 - 1)]) = H106 at *
                walk_at "go"
                refine ⟨by show 2 ≤ sizeLine; decide, fun M1 hM1 => ?_⟩
                have S107 := same_new (o := .lst [.ref U1, .ref U2]) hM1
                have EE107 : ExtN H15 _ := EE106.trans (keepN S107)
                have tab107 := tabs_same tab106 S107
                have hw_M1 : (upd H106 M1 (.lst [.ref U1, .ref U2])) M1 = some (.lst [.ref U1, .ref U2]) := upd_same
                generalize upd H106 M1 (.lst [.ref U1, .ref U2]) = H107 at *
                have sT := (S105.trans S106).trans S107
                have dA := dp_outsV (K := K) (ds := fun i => match i with | 0 => [.str "InvalidBill", .int 0] | _ => [.str "InvalidBill", .int (-1)]) (sT _ _ hp104) (fun k T9 e => sT _ _ (hT104 k T9 e)) (fun k => match k with
                  | 0 => .cons (.str _) (.cons (.int _) .nil)
                  | _ + 1 => .cons (.str _) (.cons (.int _) .nil))
                rw [hlT104] at dA
                have dA : Dp K H107 (.ref p104) (.list [.tuple [.str "InvalidBill", .int 0], .tuple [.str "InvalidBill", .int (-1)]]) := dA
                have dB : Dp K H107 (.ref M1) (.list [.tuple [.str "InvalidBill", .int 0], .tuple [.str "InvalidBill", .int (-1)]]) := .lst (SqL.of hw_M1) (.cons (.tup (SqT.of ((S106.trans S107) _ _ hw_U1)) (.cons (.str _) (.cons (.int _) .nil))) (.cons (.tup (SqT.of (S107 _ _ hw_U2)) (.cons (.str _) (.cons (.int _) .nil))) .nil))
                refine s_neD hr' dA dB (by decide +kernel) (by decide +kernel) ?_
                rw [show PyData.eqv (.list [.tuple [.str "InvalidBill", .int 0], .tuple [.str "InvalidBill", .int (-1)]]) (.list [.tuple [.str "InvalidBill", .int 0], .tuple [.str "InvalidBill", .int (-1)]]) = true by decide +kernel]
                clear dA dB sT hw_M1 hw_U1 hw_U2 hp104 hT104 hlT104
                walk_at "go"
                try dsimp only [List.set]
                try walk_at "go"
                refine w_iteJ (fun v H' => Same H107 H' ∧ ∃ b, v = .ref b ∧ BiAt a.c_Bill H' b (3, farS n)) (fun R hR => ?_) (fun vf H30 hf => ?_)
                · walk_at "go"
                  by_cases h8 : (n : Int) < 8
                  · rw [decide_eq_true h8]
                    walk_at "go"
                    exact s_bill (i := 3) (ss := [0, (n : Int)]) T GBi (hr.mono (by decide)) (by have := far_ok hn2 hn8; unfold farS at this; rw [if_pos (by omega)] at this; exact this) (by show 2 ≤ 100000; decide) fun b Hn hb sn bi => hR _ _ ⟨sn, b, rfl, by unfold farS; rw [if_pos (by omega)]; exact bi⟩
                  · rw [decide_eq_false h8]
                    walk_at "go"
                    exact s_bill (i := 3) (ss := [0]) T GBi (hr.mono (by decide)) (by have := far_ok hn2 hn8; unfold farS at this; rw [if_neg (by omega)] at this; exact this) (by show 1 ≤ 100000; decide) fun b Hn hb sn bi => hR _ _ ⟨sn, b, rfl, by unfold farS; rw [if_neg (by omega)]; exact bi⟩
                obtain ⟨s30, fa, rfl, bfa⟩ := hf
                have ok30 := ok15.ext (EE107.trans (keepN s30))
                have tab30 := tabs_same tab107 s30
                have hev30 := hev15.extN (EE107.trans (keepN s30))
                have hpl30 := (EE107.trans (keepN s30)) _ _ hpl15 (by simp)
                clear ok15 hev15 hpl15 tab15
                try dsimp only [List.set]
                walk_at "go"
                walk_at "go"
                refine ⟨tab30, fun f3 c3 H108 E108 n108 tab108 _ g3_0 k3_0 => ?_⟩
                try dsimp only [List.set]
                have g3 := g3_0
                have k3 := k3_0
                have EE108 : ExtN H30 H108 := E108
                clear g3_0 k3_0
                walk_at "go"
                refine ⟨tab108, fun f4 c4 d4 H109 E109 n109 tab109 _ g4_0 k4_0 m4_0 => ?_⟩
                try dsimp only [List.set]
                have g3 := E109 _ _ g3 lamO_ne
                have k3 := E109 _ _ k3 codeO_ne
                have g4 := g4_0
                have k4 := k4_0
                have m4 := m4_0
                have EE109 : ExtN H30 H109 := EE108.trans E109
                clear g4_0 k4_0 m4_0
                walk_at "go"
                refine ⟨tab109, fun f5 c5 d5 H110 E110 n110 tab110 _ g5_0 k5_0 m5_0 => ?_⟩
                try dsimp only [List.set]
                have g3 := E110 _ _ g3 lamO_ne
                have k3 := E110 _ _ k3 codeO_ne
                have g4 := E110 _ _ g4 lamO_ne
                have k4 := E110 _ _ k4 codeO_ne
                have m4 := E110 _ _ m4 (by simp)
                have g5 := g5_0
                have k5 := k5_0
                have m5 := m5_0
                have EE110 : ExtN H30 H110 := EE109.trans E110
                clear g5_0 k5_0 m5_0
                walk_at "go"
                refine ⟨by show 3 ≤ sizeLine; decide, fun w2 hw2 => ?_⟩
                have S111 := same_new (o := .lst [.ref f3, .ref f4, .ref f5]) hw2
                have g3 := S111 _ _ g3
                have k3 := S111 _ _ k3
                have g4 := S111 _ _ g4
                have k4 := S111 _ _ k4
                have m4 := S111 _ _ m4
                have g5 := S111 _ _ g5
                have k5 := S111 _ _ k5
                have m5 := S111 _ _ m5
                have EE111 : ExtN H30 _ := EE110.trans (keepN S111)
                have tab111 := tabs_same tab110 S111
                have hw_w2 : (upd H110 w2 (.lst [.ref f3, .ref f4, .ref f5])) w2 = some (.lst [.ref f3, .ref f4, .ref f5]) := upd_same
                generalize upd H110 w2 (.lst [.ref f3, .ref f4, .ref f5]) = H111 at *
                walk_at "go"
                try dsimp only [List.set]
                walk_at "go"
                have gw : H111 w2 = some (.lst ([f3, f4, f5].map V.ref)) := hw_w2
                refine c_outsV (fun i => if i = 0 then [.str "InvalidEvening", .int (-1)] else if i = 1 then [.str "InvalidEvening", .int (-1)] else [.str "InvalidEvening", .int (-1)]) (l := w2) (fs := [f3, f4, f5]) gw (by show 3 ≤ 1000; decide) (fun B hB i f H' hi s R hR => ?_) (fun p112 Ts112 H112 s112 hp112 hlT112 hT112 => ?_) (fun _ => rfl) (fun R k => ?_)
                · have X9 := EE111.trans (keepN s)
                  walk_at "go"
                  match i, hi with
                  | 0, hi =>
                    obtain rfl : f3 = f := Option.some.inj hi
                    refine s_fn (GO B) (hr.mono (by decide)) ⟨f3, _, _, _, EfX a.c_InvalidEvening (-1) H', rfl, s _ _ g3, fun R9 hR9 => ?_, out_eve hR⟩
                    refine lam_go (k := 9) [] [] [] [] [] hB (by kernel_rfl) (by kernel_rfl) (s _ _ g3) (s _ _ k3) rfl rfl (fun s doc pm ctv _ => lam_bind0 rfl) (fun A2 outer2 s3 hr3 => ⟨_, (pe_glA Like.refl pas_lam (by rfl) (pa_cons (pe_int) pa_nil)), ?_⟩)
                    walk_at "go"
                    exact s_eveningX (n := 1) (i := -1) (ps := []) (bs := []) T (GIX B) (hr3.mono (by decide)) ⟨rfl, fun i p b z => by simp at z⟩ (by decide) (.inl ⟨by decide, rfl⟩) (EfX.ix (Same.refl _))
                  | 1, hi =>
                    obtain rfl : f4 = f := Option.some.inj hi
                    refine s_fn (GO B) (hr.mono (by decide)) ⟨f4, _, _, _, EfX a.c_InvalidEvening (-1) H', rfl, s _ _ g4, fun R9 hR9 => ?_, out_eve hR⟩
                    refine lam_go (k := 9) (vs := [.int 0]) ["_law_a", "_law_far"] ["_law_a"] ["_law_far"] [14] [some (.ref fa)] hB (by kernel_rfl) (by kernel_rfl) (s _ _ g4) (s _ _ k4) rfl rfl (fun s4 doc pm ctv hok => lam_bind1 hok (s _ _ m4) rfl (fun _ => rfl)) (fun A2 outer2 s3 hr3 => ⟨_, (pe_glA Like.refl pas_lam (by rfl) (pa_cons (pe_int) (pa_cons (pv 1) pa_nil))), ?_⟩)
                    walk_at "go"
                    exact s_eveningX (n := 9) (i := -1) (ps := [fa]) (bs := [(3, farS n)]) T (GIX B) (hr3.mono (by decide)) (bis_one (bfa.extN X9)) (by show 1 ≤ 100000; decide) (.inl ⟨by decide, rfl⟩) (EfX.ix (Same.refl _))
                  | 2, hi =>
                    obtain rfl : f5 = f := Option.some.inj hi
                    refine s_fn (GO B) (hr.mono (by decide)) ⟨f5, _, _, _, EfX a.c_InvalidEvening (-1) H', rfl, s _ _ g5, fun R9 hR9 => ?_, out_eve hR⟩
                    refine lam_go (k := 9) (vs := [.int 0]) ["_law_b"] ["_law_b"] [] [] [] hB (by kernel_rfl) (by kernel_rfl) (s _ _ g5) (s _ _ k5) rfl rfl (fun s4 doc pm ctv hok => lam_bind1 hok (s _ _ m5) rfl (fun _ => rfl)) (fun A2 outer2 s3 hr3 => ⟨_, (pe_cmA Like.refl pas_lam (pe_gvA Like.refl (by rfl)) (pa_cons (pe_int) (pa_cons (pe_opA Like.refl pas_lam (pe_int) (pe_int)) pa_nil))), ?_⟩)
                    walk_at "go"
                    refine w_cmA ?_
                    walk_at "go"
                    refine ⟨a.c_Evening, _, _, _, 8, InitTX a, rfl, T.cr_Evening, T.cm_Evening_together, GTX B, hr3.mono (by decide), ?_⟩
                    walk_at "go"
                    exact ⟨[.ref a.c_Evening, .int 9], [.int (0 - 1)], rfl, rfl, by show 1 ≤ sizeLine; decide, fun tt htt => ⟨9, tt, [0 - 1], rfl, upd_same, by show 1 ≤ 1000; decide, .inl ⟨by decide, EfX.ix (same_new htt)⟩⟩⟩
                  | i + 3, hi => cases hi
                · walk_at "go"
                  clear g3 k3
                  clear g4 k4 m4
                  clear g5 k5 m5
                  have tab112 := tabs_same tab111 s112
                  have EE112 := EE111.trans (keepN s112)
                  clear gw hw_w2
                  refine ⟨by show 2 ≤ sizeLine; decide, fun U3 hU3 => ?_⟩
                  have S113 := same_new (o := .tup [.str "InvalidEvening", .int (0 - 1)]) hU3
                  have EE113 : ExtN H30 _ := EE112.trans (keepN S113)
                  have tab113 := tabs_same tab112 S113
                  have hw_U3 : (upd H112 U3 (.tup [.str "InvalidEvening", .int (0 - 1)])) U3 = some (.tup [.str "InvalidEvening", .int (0 - 1)]) := upd_same
                  generalize upd H112 U3 (.tup [.str "InvalidEvening", .int (0 - 1)]) = H113 at *
                  walk_at "go"
                  refine ⟨by show 1 ≤ sizeLine; decide, fun M2 hM2 => ?_⟩
                  have S114 := same_new (o := .lst [.ref U3]) hM2
                  have EE114 : ExtN H30 _ := EE113.trans (keepN S114)
                  have tab114 := tabs_same tab113 S114
                  have hw_M2 : (upd H113 M2 (.lst [.ref U3])) M2 = some (.lst [.ref U3]) := upd_same
                  generalize upd H113 M2 (.lst [.ref U3]) = H114 at *
                  walk_at "go"
                  refine s_rep hw_M2 (by decide) (by decide) (by show 3 ≤ sizeLine; decide) fun M3 hM3 => ?_
                  have S115 := same_new (o := .lst (List.replicate (3 : Int).toNat [V.ref U3]).flatten) hM3
                  have EE115 : ExtN H30 _ := EE114.trans (keepN S115)
                  have tab115 := tabs_same tab114 S115
                  have hw_M3 : (upd H114 M3 (.lst (List.replicate (3 : Int).toNat [V.ref U3]).flatten)) M3 = some (.lst (List.replicate (3 : Int).toNat [V.ref U3]).flatten) := upd_same
                  generalize upd H114 M3 (.lst (List.replicate (3 : Int).toNat [V.ref U3]).flatten) = H115 at *
                  have sT := (S113.trans S114).trans S115
                  have dA := dp_outsV (K := K) (ds := fun _ => [.str "InvalidEvening", .int (-1)]) (sT _ _ hp112) (fun k T9 e => sT _ _ (hT112 k T9 e)) (fun k => match k with
                    | 0 => .cons (.str _) (.cons (.int _) .nil)
                    | 1 => .cons (.str _) (.cons (.int _) .nil)
                    | _ + 2 => .cons (.str _) (.cons (.int _) .nil))
                  rw [hlT112] at dA
                  have dA : Dp K H115 (.ref p112) (.list [.tuple [.str "InvalidEvening", .int (-1)], .tuple [.str "InvalidEvening", .int (-1)], .tuple [.str "InvalidEvening", .int (-1)]]) := dA
                  have e3 : H115 M3 = some (.lst [.ref U3, .ref U3, .ref U3]) := hw_M3
                  have dT : Dp K H115 (.ref U3) (.tuple [.str "InvalidEvening", .int (-1)]) := .tup (SqT.of ((S114.trans S115) _ _ hw_U3)) (.cons (.str _) (.cons (.int _) .nil))
                  have dB : Dp K H115 (.ref M3) (.list [.tuple [.str "InvalidEvening", .int (-1)], .tuple [.str "InvalidEvening", .int (-1)], .tuple [.str "InvalidEvening", .int (-1)]]) := .lst (SqL.of e3) (.cons dT (.cons dT (.cons dT .nil)))
                  refine s_neD hr' dA dB (by decide +kernel) (by decide +kernel) ?_
                  rw [show PyData.eqv (.list [.tuple [.str "InvalidEvening", .int (-1)], .tuple [.str "InvalidEvening", .int (-1)], .tuple [.str "InvalidEvening", .int (-1)]]) (.list [.tuple [.str "InvalidEvening", .int (-1)], .tuple [.str "InvalidEvening", .int (-1)], .tuple [.str "InvalidEvening", .int (-1)]]) = true by decide +kernel]
                  clear dA dB dT e3 sT hw_M3 hw_M2 hw_U3 hp112 hT112 hlT112
                  walk_at "go"
                  have ok40 := ok30.ext EE115
                  have hev40 := hev30.extN EE115
                  have hpl40 := EE115 _ _ hpl30 (by simp)
                  have bfa40 := bfa.extN EE115
                  have tab40 := tab115
                  clear ok30 hev30 hpl30 tab30 bfa
                  try dsimp only [List.set]
                  refine w_andJ (fun b H' => b = false ∧ ExtN H115 H' ∧ Tabs (TL a) H') (fun N hN => ?_) (fun bb H41 pv => ?_)
                  · by_cases h8 : (n : Int) < 8
                    · rw [decide_eq_true h8]
                      walk_at "go"
                      refine ⟨a.f__law_outcome, T.g__law_outcome, Fun.kp T.u__law_outcome.choose_spec, ?_⟩
                      walk_at "go"
                      refine ⟨tab40, fun f6 c6 H42 E42 _ tab42 _ g6 k6 => ?_⟩
                      have bfa42 := bfa40.extN E42
                      walk_at "go"
                      refine fun B hB => ⟨11, spOut1 P w K mg B a, ok_outcome1 T, hr.mono (by decide), f6, _, _, _, EfX a.c_InvalidEvening 1 H42, rfl, g6, fun R9 hR9 => ?_, out_eve fun T9 H43 hT9 s43 => ?_⟩
                      · refine lam_go (k := 9) ["_law_count", "_law_far"] [] ["_law_count", "_law_far"] [3, 14] [some (.int n), some (.ref fa)] hB (by kernel_rfl) (by kernel_rfl) (g6) (k6) rfl rfl (fun s doc pm ctv _ => lam_bind0 rfl) (fun A2 outer2 s3 hr3 => ⟨_, (pe_glA Like.refl pas_lam (by rfl) (pa_cons (pv 0) (pa_cons (pe_glA Like.refl pas_lam (by rfl) (pa_cons (pe_int) (pa_cons (pe_int) pa_nil))) (pa_cons (pv 1) pa_nil)))), ?_⟩)
                        walk_at "go"
                        refine s_bill (i := 1) (ss := [0]) T (GBG B) (hr3.mono (by decide)) one_ok (by show 1 ≤ 100000; decide) fun b1 H44 hb1 s44 bi1 => ?_
                        walk_at "go"
                        exact s_eveningX (n := n) (i := 1) (ps := [b1, fa]) (bs := [(1, [0]), (3, farS n)]) T (GIX B) (hr3.mono (by decide)) (bis_two bi1 (bfa42.same s44)) (by show 2 ≤ 100000; decide) (bad_far hn2 (by omega)) (EfX.ix s44)
                      · walk_at "go"
                        refine ⟨by show 2 ≤ sizeLine; decide, fun T10 hT10 => ?_⟩
                        have n31 := same_new (o := .tup [.str "InvalidEvening", .int 1]) hT10
                        walk_at "go"
                        have dA : Dp K (upd H43 T10 (.tup [.str "InvalidEvening", .int 1])) (.ref T9) (.tuple [.str "InvalidEvening", .int 1]) := .tup (SqT.of (n31 _ _ hT9)) (.cons (.str _) (.cons (.int _) .nil))
                        have dB : Dp K (upd H43 T10 (.tup [.str "InvalidEvening", .int 1])) (.ref T10) (.tuple [.str "InvalidEvening", .int 1]) := .tup (SqT.of upd_same) (.cons (.str _) (.cons (.int _) .nil))
                        refine s_neD hr' dA dB (by decide +kernel) (by decide +kernel) ?_
                        rw [show PyData.eqv (.tuple [.str "InvalidEvening", .int 1]) (.tuple [.str "InvalidEvening", .int 1]) = true by decide +kernel]
                        walk_at "go"
                        exact hN _ _ ⟨rfl, E42.trans (keepN (s43.trans n31)), tabs_same (tabs_same tab42 s43) n31⟩
                    · rw [decide_eq_false h8]
                      walk_at "go"
                      exact hN _ _ ⟨rfl, fun _ _ e _ => e, tab40⟩
                  · obtain ⟨rfl, E41, tab41⟩ := pv
                    have ok41 := ok40.ext E41
                    have hev41 := hev40.extN E41
                    have hpl41 := E41 _ _ hpl40 (by simp)
                    clear ok40 hev40 hpl40 tab40 bfa40
                    walk_at "go"
                    refine s_bill (i := 1) (ss := [0]) T GBi (hr.mono (by decide)) one_ok (by show 1 ≤ 100000; decide) fun b2 H50 hb2 s50 bi2 => ?_
                    walk_at "go"
                    refine s_evening (ps := [b2]) (bs := [(1, [0])]) T GI (hr.mono (by decide)) (bis_one bi2) ⟨hn2, hn8, by show 1 ≤ 30; decide, fun b hb => by rw [List.mem_singleton.1 hb]; exact ⟨one_ok, fun s hs => by rw [List.mem_singleton.1 hs]; omega⟩⟩ fun e1 H51 he1 s51 ev1 => ?_
                    walk_at "go"
                    obtain ⟨dx1, tb1, ps1, j1, j2, j3⟩ := id ev1
                    refine s_opInt T.sf_Evening T.m_Evening__mul_ T.oi_Evening__mul_ (by decide +kernel) (by decide +kernel) GEM (hr.mono (by decide)) j1 ⟨e1, (30 : Nat), n, [(1, [0])], rfl, ev1, by decide, by show 1 ≤ 1000; decide, thirty_ok hn2 hn8, fun th H52 hth s52 evT => ?_⟩
                    have evT : EvAt a.c_Evening a.c_Bill H52 th n thirtyB := evT
                    have s4 := (s50.trans s51).trans s52
                    have ok52 := ok41.same s4
                    have tab52 := tabs_same tab41 s4
                    have hev52 := hev41.same s4
                    have hpl52 := s4 _ _ hpl41
                    clear ev1 j1 j2 j3 ok41 tab41 hev41 hpl41 bi2
                    try dsimp only [List.set]
                    walk_at "go"
                    try dsimp only [List.set]
                    walk_at "go"
                    obtain ⟨dxT, tbT, psT, l1, l2, l3⟩ := id evT
                    refine s_lenI T.m_Evening__len_ GEL (hr.mono (by decide)) l1 ⟨th, _, _, rfl, evT, _, rfl, by omega, by rw [thirty_len]; decide, ?_⟩
                    rw [thirty_len]
                    walk_at "go"
                    rw [show decide (((30 : Nat) : Int) = 30) = true from rfl]
                    walk_at "go"
                    refine ⟨a.f__law_outcome, T.g__law_outcome, Fun.kp T.u__law_outcome.choose_spec, ?_⟩
                    walk_at "go"
                    refine ⟨tab52, fun f7 c7 H53 E53 _ tab53 _ g7 k7 => ?_⟩
                    have evT53 := evT.extN E53
                    have hev53 := hev52.extN E53
                    walk_at "go"
                    refine fun B hB => ⟨11, spOut1 P w K mg B a, ok_outcome1 T, hr.mono (by decide), f7, _, _, _, EfX a.c_InvalidEvening 30 H53, rfl, g7, fun R9 hR9 => ?_, out_eve fun T9 H54 hT9 s54 => ?_⟩
                    · refine lam_go (k := 9) ["_law_thirty", "_law_evening_here"] [] ["_law_thirty", "_law_evening_here"] [15, 5] [some (.ref th), some (.ref ev)] hB (by kernel_rfl) (by kernel_rfl) (g7) (k7) rfl rfl (fun s doc pm ctv _ => lam_bind0 rfl) (fun A2 outer2 s3 hr3 => ⟨_, (pe_opA Like.refl pas_lam (pe_opA Like.refl pas_lam (pv 0) (pv 1)) (pv 0)), ?_⟩)
                      walk_at "go"
                      obtain ⟨dxA, tbA, psA, q1, q2, q3⟩ := id evT53
                      obtain ⟨dxB, tbB, psB, r1, r2, r3⟩ := id hev53
                      have memT : ∀ b ∈ thirtyB, b.2 ≠ [] ∧ ∀ s ∈ b.2, s < (n : Int) := fun b hb => by
                        rw [thirty_mem hb]
                        exact ⟨by simp, fun s hs => by rw [List.mem_singleton.1 hs]; omega⟩
                      cases rows with
                      | nil =>
                        refine s_opSame T.sf_Evening T.m_Evening__add_ (by decide +kernel) (ok_ev_add T : FnR P w K mg B (L2.CX P w) 6 a.f_Evening__add_ (spEvAdd a.c_Evening a.c_Bill)) (hr3.mono (by decide)) q1 r1 ⟨th, ev, n, thirtyB, [], rfl, evT53, hev53, by rw [List.append_nil]; exact thirty_ok hn2 hn8, fun e5 H55 he5 s55 ev5 => ?_⟩
                        rw [List.append_nil] at ev5
                        walk_at "go"
                        obtain ⟨dxC, tbC, psC, u1, u2, u3⟩ := id ev5
                        exact s_opSame T.sf_Evening T.m_Evening__add_ (by decide +kernel) (GAX B) (hr3.mono (by decide)) u1 (s55 _ _ q1) ⟨e5, th, n, n, thirtyB, thirtyB, rfl, ev5, evT53.same s55, by rw [thirty_len]; decide, by rw [thirty_len]; decide, .inr ⟨rfl, hn2, hn8, by rw [List.length_append, thirty_len]; decide, fun b hb => (List.mem_append.1 hb).elim (memT b) (memT b), EfX.ix s55⟩⟩
                      | cons b0 rows =>
                        exact s_opSame T.sf_Evening T.m_Evening__add_ (by decide +kernel) (GAX B) (hr3.mono (by decide)) q1 r1 ⟨th, ev, n, n, thirtyB, b0 :: rows, rfl, evT53, hev53, by rw [thirty_len]; decide, by omega, .inr ⟨rfl, hn2, hn8, by rw [List.length_append, thirty_len, List.length_cons]; omega, fun b hb => (List.mem_append.1 hb).elim (memT b) fun hb => ⟨(hrok b hb).1.2.2.2, (hrok b hb).2⟩, EfX.ix (Same.refl _)⟩⟩
                    · walk_at "go"
                      refine ⟨by show 2 ≤ sizeLine; decide, fun T10 hT10 => ?_⟩
                      have n55 := same_new (o := .tup [.str "InvalidEvening", .int 30]) hT10
                      walk_at "go"
                      have dA : Dp K (upd H54 T10 (.tup [.str "InvalidEvening", .int 30])) (.ref T9) (.tuple [.str "InvalidEvening", .int 30]) := .tup (SqT.of (n55 _ _ hT9)) (.cons (.str _) (.cons (.int _) .nil))
                      have dB : Dp K (upd H54 T10 (.tup [.str "InvalidEvening", .int 30])) (.ref T10) (.tuple [.str "InvalidEvening", .int 30]) := .tup (SqT.of upd_same) (.cons (.str _) (.cons (.int _) .nil))
                      refine s_neD hr' dA dB (by decide +kernel) (by decide +kernel) ?_
                      rw [show PyData.eqv (.tuple [.str "InvalidEvening", .int 30]) (.tuple [.str "InvalidEvening", .int 30]) = true by decide +kernel]
                      have EX := E53.trans (keepN (s54.trans n55))
                      walk_at "go"
                      refine s_fn GRf (hr.mono (by decide)) ⟨n, ev, p, rs, rows, rfl, tabs_same (tabs_same tab53 s54) n55, hev52.extN EX, EX _ _ hpl52 (by simp), hrl7, okr, hrl, fun H60 E60 tab60 => ?_⟩
                      walk_at "go"
                      exact ⟨ok52.ext (EX.trans E60), tab60, _, _, _, _, _, _, _, _, _, _, _, _, _, _, rfl⟩
                · walk_at "go"
                  exact k
              · walk_at "go"
                exact k
        · walk_at "go"
          exact k
    · obtain ⟨ok2, tab2, x2, x3, x4, x5, x6, x7, x8, x9, x10, x11, x12, x13, x14, x15, rfl⟩ := pv
      walk_at "go"
      exact q _
end

end Odd

namespace Odd
open PySem PySem.Spec PyProof.Rows L2 LamX NdefX
theorem all_fn {l : PySem.W.OpenLaw} {w : World} {K : PySem.W.Frag} {mg : Str → Option Value} {h : Heap} {a : Ad} {fa : Addr} (KX : K.In h) (T : Facts K mg a) (SP : SupP l.prog mainF) (hT : h.get? a.t_law = some { cls := .none, data := .fields #[] }) (hT2 : h.get? a.t__law_refused = some { cls := .none, data := .fields #[] }) (hfa : mg "law" = some (.ref fa)) :
    LawAtS l w K (L2.CX l.prog w) 15 63 "_law_script" mg fa h := by
  have e := hfa.symm.trans T.g_law
  cases e
  obtain ⟨fd, F, hc⟩ := T.uc_law
  refine ⟨fd, [(a.k_law, a.t_law), (a.k__law_refused, a.t__law_refused)], spLaw K a, fun p hp => ?_, fun p hp => ?_, fun p hp => ?_, fun s v => ?_, fun H sc ns hl _ hH hS => ⟨sc, ns, rfl, hS, hl, hH _ (List.mem_cons_self ..), hH _ (List.mem_cons_of_mem _ (List.mem_singleton_self _)), fun _ => rfl⟩, fun base _ _ hB => ok_law T SP F hc (hB _ (List.mem_cons_self ..)) (hB _ (List.mem_cons_of_mem _ (List.mem_singleton_self _)))⟩
  · rcases List.mem_cons.1 hp with rfl | hp
    · exact hT
    · rw [List.mem_singleton.1 hp]; exact hT2
  · rcases List.mem_cons.1 hp with rfl | hp
    · exact T.nt_law
    · rw [List.mem_singleton.1 hp]; exact T.nt__law_refused
  · rcases List.mem_cons.1 hp with rfl | hp
    · exact PySem.W.codeHd_of_K KX T.hd_law
    · rw [List.mem_singleton.1 hp]; exact PySem.W.codeHd_of_K KX T.hd__law_refused
  · obtain ⟨oc, od, kV, doc, pm, an, cdv, ct, osl, rfl, lk, hcd⟩ := F.ex
    exact .of_eq rfl
end Odd
open PySem PySem.W PyProof.Rows
set_option maxRecDepth 100000 in
set_option maxHeartbeats 0 in
theorem PySem.Challenge.cw_oddcents_k01_invalid_bills_and_evenings_holds : PySem.Challenge.rw_oddcents_k01_invalid_bills_and_evenings.Holds := by
  w_on; o_law
  refine HandSHeadRun.head_imp (r := Odd.rowL) (q := Odd.viewL) (H := Odd.hkL.hook) (ob := Odd.hkL.ob) (M := 20000) (loose := Odd.looseL) (d := HandSHeadRun.topDef Odd.rowL.prog 44) (kwd := []) Odd.obM_eq (PySem.W.byRow2 "special-get-raises" Odd.run0 Odd.run1) (by kernel_rfl) (by kernel_rfl) (by kernel_rfl) (by rfl) (by first | assumption | decide +kernel) (by decide +kernel) ⟨rfl, rfl, rfl, rfl, rfl, by decide +kernel⟩ ?hw ?hc
  case hw => w_witness2
  refine LamX.walk_ofTsE (l := PySem.Challenge.rw_oddcents_k01_invalid_bills_and_evenings) (n := 63) (k := 15) (x := "_law_script") (CX := fun w => L2.CX PySem.Challenge.rw_oddcents_k01_invalid_bills_and_evenings.prog w) rfl (by decide) (by kernel_rfl) ⟨rfl, by decide, by decide⟩ ?F (fun _ _ _ _ _ x => by
    obtain ⟨_, _, _, _, _, _, _, _, _, _, _, _, z⟩ := x
    exact z)
  case F =>
    intro w mg fa h Y G hmg0
    refine ⟨Odd.hkL.K w.params, PySem.W.km_in_of Y, ?_⟩
    have KX := PySem.W.km_in_of Y
    have tabs := PySem.W.km_tabs_of Y
    clear Y
    have hmg : mg ("law" : PySem.Str) = some (.ref fa) := by
      rw [← show (HandSHeadRun.topDef Odd.rowL.prog 44).name = ("law" : PySem.Str) by kernel_rfl]
      exact hmg0
    clear hmg0
    unfold Odd.hkL Odd.fetch at KX tabs ⊢
    dsimp only at KX tabs ⊢
    refine' Odd.all_fn KX (Odd.all_mk KX G ?z_TypeError ?z_bool ?z_classmethod ?z_enumerate ?z_int ?z_isinstance ?z_len ?z_list ?z_max ?z_min ?z_property ?z_range ?z_super ?z_tuple ?z_zip ?b_gcd ?g_MAX_AMOUNT ?g_MIN_SEAT_COUNT ?g_MAX_TIMES ?g__wall ?l1 ?c1 ?k1 ?g_is_between ?l2 ?c2 ?k2 ?g_check_amount ?l3 ?c3 ?k3 ?g_check_seats ?l4 ?c4 ?k4 ?g_check_seat_count ?l5 ?c5 ?k5 ?g_check_bills ?l6 ?c6 ?k6 ?g_check_mark ?l7 ?c7 ?k7 ?g_check_times ?l8 ?c8 ?k8 ?g_no_shares ?l9 ?c9 ?k9 ?g_seats_behind ?l10 ?c10 ?k10 ?g_split_bill ?l11 ?c11 ?k11 ?g_twice ?l12 ?c12 ?k12 ?g_repeated ?l13 ?c13 ?k13 ?g_lowest_terms ?l14 ?c14 ?k14 ?g_long_run ?l15 ?c15 ?k15 ?g__law_start ?l16 ?c16 ?k16 ?g__law_drawn ?l17 ?c17 ?k17 ?g__law_same ?l18 ?c18 ?k18 ?g__law_outcome ?l19 ?c19 ?k19 ?g__law_rows ?l20 ?c20 ?k20 ?g__law_bill ?l21 ?c21 ?k21 ?g__law_evening ?l22 ?c22 ?k22 ?g__law_fault ?l23 ?c23 ?k23 ?g__law_is_bill ?l24 ?c24 ?k24 ?g__law_refused ?l25 ?c25 ?k25 ?lc25 ?rt25 ?rh25 ?rn25 ?g_law ?l26 ?c26 ?k26 ?lc26 ?rt26 ?rh26 ?rn26 ?tn__law_refused_law ?g_CentError ?x_CentError ?xk_CentError ?xs_CentError ?xt_CentError ?g_InvalidBill ?kxa_InvalidBill ?kxb_InvalidBill ?kxc_InvalidBill ?xs_InvalidBill ?xt_InvalidBill ?xk_InvalidBill ?kxg_InvalidBill ?kxh_InvalidBill ?kxi_InvalidBill ?kxj_InvalidBill ?kxk_InvalidBill ?kxl_InvalidBill ?kxm_InvalidBill ?kxn_InvalidBill ?kxo_InvalidBill ?kxp_InvalidBill ?kxq_InvalidBill ?kxr_InvalidBill ?kxs_InvalidBill ?kxt_InvalidBill ?kxu_InvalidBill_index ?g_InvalidEvening ?kxa_InvalidEvening ?kxb_InvalidEvening ?kxc_InvalidEvening ?xs_InvalidEvening ?xt_InvalidEvening ?xk_InvalidEvening ?kxg_InvalidEvening ?kxh_InvalidEvening ?kxi_InvalidEvening ?kxj_InvalidEvening ?kxk_InvalidEvening ?kxl_InvalidEvening ?kxm_InvalidEvening ?kxn_InvalidEvening ?kxo_InvalidEvening ?kxp_InvalidEvening ?kxq_InvalidEvening ?kxr_InvalidEvening ?kxs_InvalidEvening ?kxt_InvalidEvening ?kxu_InvalidEvening_index ?g_InvalidMark ?x_InvalidMark ?xk_InvalidMark ?xs_InvalidMark ?xt_InvalidMark ?g_UnknownSeat ?x_UnknownSeat ?xk_UnknownSeat ?xs_UnknownSeat ?xt_UnknownSeat ?g_OtherTable ?x_OtherTable ?xk_OtherTable ?xs_OtherTable ?xt_OtherTable ?g_InvalidNumber ?x_InvalidNumber ?xk_InvalidNumber ?xs_InvalidNumber ?xt_InvalidNumber ?g_Shares ?pg_Shares ?hd_Shares ?po_Shares ?sa_Shares ?ia_Shares ?ib_Shares ?ic_Shares ?id_Shares ?ob_Shares ?sf_Shares ?tyc_Shares ?kit_Shares_tuple ?kit_Shares_list ?kit_Shares_int ?na_Shares_cents ?ma_Shares__init_ ?mb_Shares__init_ ?l27 ?c27 ?k27 ?mk_Shares ?kc_Shares ?pa_Shares_cents ?pb_Shares_cents ?pc_Shares_cents ?pd_Shares_cents ?l28 ?c28 ?k28 ?pa_Shares_whole ?pb_Shares_whole ?pc_Shares_whole ?pd_Shares_whole ?l29 ?c29 ?k29 ?ma_Shares__getitem_ ?mb_Shares__getitem_ ?l30 ?c30 ?k30 ?ma_Shares__iter_ ?mb_Shares__iter_ ?l31 ?c31 ?k31 ?ma_Shares__len_ ?mb_Shares__len_ ?l32 ?c32 ?k32 ?ma_Shares__eq_ ?mb_Shares__eq_ ?l33 ?c33 ?k33 ?na_Shares__eq_ ?nf_Shares__eq_ ?nt_Shares__eq_ ?ma_Shares__add_ ?mb_Shares__add_ ?l34 ?c34 ?k34 ?ma_Shares__sub_ ?mb_Shares__sub_ ?l35 ?c35 ?k35 ?ma_Shares__mul_ ?mb_Shares__mul_ ?l36 ?c36 ?k36 ?oa_Shares__mul_ ?ob_Shares__mul_ ?oc_Shares__mul_ ?od_Shares__mul_ ?ma_Shares__neg_ ?mb_Shares__neg_ ?l37 ?c37 ?k37 ?ma_Shares__abs_ ?mb_Shares__abs_ ?l38 ?c38 ?k38 ?g_Bill ?pg_Bill ?hd_Bill ?po_Bill ?sa_Bill ?ia_Bill ?ib_Bill ?ic_Bill ?id_Bill ?ob_Bill ?sf_Bill ?tyc_Bill ?kit_Bill_tuple ?kit_Bill_list ?kit_Bill_int ?na_Bill_amount ?na_Bill_seats ?cra_Bill ?crb_Bill ?cva_Bill_MAX_SEATS ?ma_Bill__init_ ?mb_Bill__init_ ?l39 ?c39 ?k39 ?mk_Bill ?kc_Bill ?pa_Bill_amount ?pb_Bill_amount ?pc_Bill_amount ?pd_Bill_amount ?l40 ?c40 ?k40 ?pa_Bill_seats ?pb_Bill_seats ?pc_Bill_seats ?pd_Bill_seats ?l41 ?c41 ?k41 ?pa_Bill_odd_cents ?pb_Bill_odd_cents ?pc_Bill_odd_cents ?pd_Bill_odd_cents ?l42 ?c42 ?k42 ?ma_Bill__contains_ ?mb_Bill__contains_ ?l43 ?c43 ?k43 ?g_Evening ?pg_Evening ?hd_Evening ?po_Evening ?sa_Evening ?ia_Evening ?ib_Evening ?ic_Evening ?id_Evening ?ob_Evening ?sf_Evening ?tyc_Evening ?kit_Evening_tuple ?kit_Evening_list ?kit_Evening_int ?na_Evening_seat_count ?na_Evening_bills ?cra_Evening ?crb_Evening ?cva_Evening_MAX_BILLS ?ma_Evening__init_ ?mb_Evening__init_ ?l44 ?c44 ?k44 ?mk_Evening ?kc_Evening ?cma_Evening_together ?cmb_Evening_together ?cmc_Evening_together ?l45 ?c45 ?k45 ?pa_Evening_seat_count ?pb_Evening_seat_count ?pc_Evening_seat_count ?pd_Evening_seat_count ?l46 ?c46 ?k46 ?pa_Evening_bills ?pb_Evening_bills ?pc_Evening_bills ?pd_Evening_bills ?l47 ?c47 ?k47 ?ma_Evening__call_ ?mb_Evening__call_ ?l48 ?c48 ?k48 ?coc_Evening__call_ ?ma_Evening__getitem_ ?mb_Evening__getitem_ ?l49 ?c49 ?k49 ?ma_Evening__iter_ ?mb_Evening__iter_ ?l50 ?c50 ?k50 ?ma_Evening__len_ ?mb_Evening__len_ ?l51 ?c51 ?k51 ?ma_Evening__bool_ ?mb_Evening__bool_ ?l52 ?c52 ?k52 ?ma_Evening__add_ ?mb_Evening__add_ ?l53 ?c53 ?k53 ?ma_Evening__mul_ ?mb_Evening__mul_ ?l54 ?c54 ?k54 ?oa_Evening__mul_ ?ob_Evening__mul_ ?oc_Evening__mul_ ?od_Evening__mul_ ?ic_InvalidBill ?se_CentError_InvalidBill ?se_InvalidBill_InvalidBill ?se_InvalidEvening_InvalidBill ?se_InvalidMark_InvalidBill ?se_UnknownSeat_InvalidBill ?se_OtherTable_InvalidBill ?se_InvalidNumber_InvalidBill ?ic_InvalidEvening ?se_CentError_InvalidEvening ?se_InvalidBill_InvalidEvening ?se_InvalidEvening_InvalidEvening ?se_InvalidMark_InvalidEvening ?se_UnknownSeat_InvalidEvening ?se_OtherTable_InvalidEvening ?se_InvalidNumber_InvalidEvening ?ic_InvalidMark ?se_CentError_InvalidMark ?se_InvalidBill_InvalidMark ?se_InvalidEvening_InvalidMark ?se_InvalidMark_InvalidMark ?se_UnknownSeat_InvalidMark ?se_OtherTable_InvalidMark ?se_InvalidNumber_InvalidMark ?ic_InvalidNumber ?se_CentError_InvalidNumber ?se_InvalidBill_InvalidNumber ?se_InvalidEvening_InvalidNumber ?se_InvalidMark_InvalidNumber ?se_UnknownSeat_InvalidNumber ?se_OtherTable_InvalidNumber ?se_InvalidNumber_InvalidNumber ?ic_OtherTable ?se_CentError_OtherTable ?se_InvalidBill_OtherTable ?se_InvalidEvening_OtherTable ?se_InvalidMark_OtherTable ?se_UnknownSeat_OtherTable ?se_OtherTable_OtherTable ?se_InvalidNumber_OtherTable) ?sp ?tab ?tab2 hmg
    (case z_TypeError => k_is)
    (case z_bool => k_is)
    (case z_classmethod => k_is)
    (case z_enumerate => k_is)
    (case z_int => k_is)
    (case z_isinstance => k_is)
    (case z_len => k_is)
    (case z_list => k_is)
    (case z_max => k_is)
    (case z_min => k_is)
    (case z_property => k_is)
    (case z_range => k_is)
    (case z_super => k_is)
    (case z_tuple => k_is)
    (case z_zip => k_is)
    (case b_gcd => k_is)
    (case g_MAX_AMOUNT => k_is)
    (case g_MIN_SEAT_COUNT => k_is)
    (case g_MAX_TIMES => k_is)
    (case g__wall => k_is)
    (case l1 => k_is)
    (case c1 => k_is)
    (case k1 => k_is)
    (case g_is_between => k_is)
    (case l2 => k_is)
    (case c2 => k_is)
    (case k2 => k_is)
    (case g_check_amount => k_is)
    (case l3 => k_is)
    (case c3 => k_is)
    (case k3 => k_is)
    (case g_check_seats => k_is)
    (case l4 => k_is)
    (case c4 => k_is)
    (case k4 => k_is)
    (case g_check_seat_count => k_is)
    (case l5 => k_is)
    (case c5 => k_is)
    (case k5 => k_is)
    (case g_check_bills => k_is)
    (case l6 => k_is)
    (case c6 => k_is)
    (case k6 => k_is)
    (case g_check_mark => k_is)
    (case l7 => k_is)
    (case c7 => k_is)
    (case k7 => k_is)
    (case g_check_times => k_is)
    (case l8 => k_is)
    (case c8 => k_is)
    (case k8 => k_is)
    (case g_no_shares => k_is)
    (case l9 => k_is)
    (case c9 => k_is)
    (case k9 => k_is)
    (case g_seats_behind => k_is)
    (case l10 => k_is)
    (case c10 => k_is)
    (case k10 => k_is)
    (case g_split_bill => k_is)
    (case l11 => k_is)
    (case c11 => k_is)
    (case k11 => k_is)
    (case g_twice => k_is)
    (case l12 => k_is)
    (case c12 => k_is)
    (case k12 => k_is)
    (case g_repeated => k_is)
    (case l13 => k_is)
    (case c13 => k_is)
    (case k13 => k_is)
    (case g_lowest_terms => k_is)
    (case l14 => k_is)
    (case c14 => k_is)
    (case k14 => k_is)
    (case g_long_run => k_is)
    (case l15 => k_is)
    (case c15 => k_is)
    (case k15 => k_is)
    (case g__law_start => k_is)
    (case l16 => k_is)
    (case c16 => k_is)
    (case k16 => k_is)
    (case g__law_drawn => k_is)
    (case l17 => k_is)
    (case c17 => k_is)
    (case k17 => k_is)
    (case g__law_same => k_is)
    (case l18 => k_is)
    (case c18 => k_is)
    (case k18 => k_is)
    (case g__law_outcome => k_is)
    (case l19 => k_is)
    (case c19 => k_is)
    (case k19 => k_is)
    (case g__law_rows => k_is)
    (case l20 => k_is)
    (case c20 => k_is)
    (case k20 => k_is)
    (case g__law_bill => k_is)
    (case l21 => k_is)
    (case c21 => k_is)
    (case k21 => k_is)
    (case g__law_evening => k_is)
    (case l22 => k_is)
    (case c22 => k_is)
    (case k22 => k_is)
    (case g__law_fault => k_is)
    (case l23 => k_is)
    (case c23 => k_is)
    (case k23 => k_is)
    (case g__law_is_bill => k_is)
    (case l24 => k_is)
    (case c24 => k_is)
    (case k24 => k_is)
    (case g__law_refused => k_is)
    (case l25 => k_is)
    (case c25 => k_is)
    (case k25 => k_is)
    (case lc25 => k_is)
    (case rt25 => exact rfl)
    (case rh25 => exact rfl)
    (case rn25 => exact rfl)
    (case g_law => k_is)
    (case l26 => k_is)
    (case c26 => k_is)
    (case k26 => k_is)
    (case lc26 => k_is)
    (case rt26 => exact rfl)
    (case rh26 => exact rfl)
    (case rn26 => exact rfl)
    (case tn__law_refused_law => decide)
    (case g_CentError => k_is)
    (case x_CentError => k_exc)
    (case xk_CentError => k_is)
    (case xs_CentError => k_is)
    (case xt_CentError => k_is)
    (case g_InvalidBill => k_is)
    (case kxa_InvalidBill => k_is)
    (case kxb_InvalidBill => first | exact rfl | decide +kernel)
    (case kxc_InvalidBill => k_is)
    (case xs_InvalidBill => k_is)
    (case xt_InvalidBill => k_is)
    (case xk_InvalidBill => k_is)
    (case kxg_InvalidBill => k_is)
    (case kxh_InvalidBill => k_is)
    (case kxi_InvalidBill => k_is)
    (case kxj_InvalidBill => k_is)
    (case kxk_InvalidBill => k_is)
    (case kxl_InvalidBill => first | exact rfl | decide +kernel)
    (case kxm_InvalidBill => k_is)
    (case kxn_InvalidBill => k_is)
    (case kxo_InvalidBill => ks_is)
    (case kxp_InvalidBill => k_is)
    (case kxq_InvalidBill => k_is)
    (case kxr_InvalidBill => k_is)
    (case kxs_InvalidBill => k_is)
    (case kxt_InvalidBill => k_is)
    (case kxu_InvalidBill_index => k_is)
    (case g_InvalidEvening => k_is)
    (case kxa_InvalidEvening => k_is)
    (case kxb_InvalidEvening => first | exact rfl | decide +kernel)
    (case kxc_InvalidEvening => k_is)
    (case xs_InvalidEvening => k_is)
    (case xt_InvalidEvening => k_is)
    (case xk_InvalidEvening => k_is)
    (case kxg_InvalidEvening => k_is)
    (case kxh_InvalidEvening => k_is)
    (case kxi_InvalidEvening => k_is)
    (case kxj_InvalidEvening => k_is)
    (case kxk_InvalidEvening => k_is)
    (case kxl_InvalidEvening => first | exact rfl | decide +kernel)
    (case kxm_InvalidEvening => k_is)
    (case kxn_InvalidEvening => k_is)
    (case kxo_InvalidEvening => ks_is)
    (case kxp_InvalidEvening => k_is)
    (case kxq_InvalidEvening => k_is)
    (case kxr_InvalidEvening => k_is)
    (case kxs_InvalidEvening => k_is)
    (case kxt_InvalidEvening => k_is)
    (case kxu_InvalidEvening_index => k_is)
    (case g_InvalidMark => k_is)
    (case x_InvalidMark => k_exc)
    (case xk_InvalidMark => k_is)
    (case xs_InvalidMark => k_is)
    (case xt_InvalidMark => k_is)
    (case g_UnknownSeat => k_is)
    (case x_UnknownSeat => k_exc)
    (case xk_UnknownSeat => k_is)
    (case xs_UnknownSeat => k_is)
    (case xt_UnknownSeat => k_is)
    (case g_OtherTable => k_is)
    (case x_OtherTable => k_exc)
    (case xk_OtherTable => k_is)
    (case xs_OtherTable => k_is)
    (case xt_OtherTable => k_is)
    (case g_InvalidNumber => k_is)
    (case x_InvalidNumber => k_exc)
    (case xk_InvalidNumber => k_is)
    (case xs_InvalidNumber => k_is)
    (case xt_InvalidNumber => k_is)
    (case g_Shares => k_is)
    (case pg_Shares => k_is)
    (case hd_Shares => k_is)
    (case po_Shares => k_is)
    (case sa_Shares => k_is)
    (case ia_Shares => k_is)
    (case ib_Shares => k_is)
    (case ic_Shares => k_is)
    (case id_Shares => k_is)
    (case ob_Shares => k_is)
    (case sf_Shares => k_is)
    (case tyc_Shares => k_is)
    (case kit_Shares_tuple => k_is)
    (case kit_Shares_list => k_is)
    (case kit_Shares_int => k_is)
    (case na_Shares_cents => k_is)
    (case ma_Shares__init_ => k_is)
    (case mb_Shares__init_ => k_is)
    (case l27 => k_is)
    (case c27 => k_is)
    (case k27 => k_is)
    (case mk_Shares => k_is)
    (case kc_Shares => k_is)
    (case pa_Shares_cents => k_is)
    (case pb_Shares_cents => k_is)
    (case pc_Shares_cents => k_is)
    (case pd_Shares_cents => k_is)
    (case l28 => k_is)
    (case c28 => k_is)
    (case k28 => k_is)
    (case pa_Shares_whole => k_is)
    (case pb_Shares_whole => k_is)
    (case pc_Shares_whole => k_is)
    (case pd_Shares_whole => k_is)
    (case l29 => k_is)
    (case c29 => k_is)
    (case k29 => k_is)
    (case ma_Shares__getitem_ => k_is)
    (case mb_Shares__getitem_ => k_is)
    (case l30 => k_is)
    (case c30 => k_is)
    (case k30 => k_is)
    (case ma_Shares__iter_ => k_is)
    (case mb_Shares__iter_ => k_is)
    (case l31 => k_is)
    (case c31 => k_is)
    (case k31 => k_is)
    (case ma_Shares__len_ => k_is)
    (case mb_Shares__len_ => k_is)
    (case l32 => k_is)
    (case c32 => k_is)
    (case k32 => k_is)
    (case ma_Shares__eq_ => k_is)
    (case mb_Shares__eq_ => k_is)
    (case l33 => k_is)
    (case c33 => k_is)
    (case k33 => k_is)
    (case na_Shares__eq_ => k_is)
    (case nf_Shares__eq_ => k_is)
    (case nt_Shares__eq_ => k_is)
    (case ma_Shares__add_ => k_is)
    (case mb_Shares__add_ => k_is)
    (case l34 => k_is)
    (case c34 => k_is)
    (case k34 => k_is)
    (case ma_Shares__sub_ => k_is)
    (case mb_Shares__sub_ => k_is)
    (case l35 => k_is)
    (case c35 => k_is)
    (case k35 => k_is)
    (case ma_Shares__mul_ => k_is)
    (case mb_Shares__mul_ => k_is)
    (case l36 => k_is)
    (case c36 => k_is)
    (case k36 => k_is)
    (case oa_Shares__mul_ => k_is)
    (case ob_Shares__mul_ => k_is)
    (case oc_Shares__mul_ => k_is)
    (case od_Shares__mul_ => k_is)
    (case ma_Shares__neg_ => k_is)
    (case mb_Shares__neg_ => k_is)
    (case l37 => k_is)
    (case c37 => k_is)
    (case k37 => k_is)
    (case ma_Shares__abs_ => k_is)
    (case mb_Shares__abs_ => k_is)
    (case l38 => k_is)
    (case c38 => k_is)
    (case k38 => k_is)
    (case g_Bill => k_is)
    (case pg_Bill => k_is)
    (case hd_Bill => k_is)
    (case po_Bill => k_is)
    (case sa_Bill => k_is)
    (case ia_Bill => k_is)
    (case ib_Bill => k_is)
    (case ic_Bill => k_is)
    (case id_Bill => k_is)
    (case ob_Bill => k_is)
    (case sf_Bill => k_is)
    (case tyc_Bill => k_is)
    (case kit_Bill_tuple => k_is)
    (case kit_Bill_list => k_is)
    (case kit_Bill_int => k_is)
    (case na_Bill_amount => k_is)
    (case na_Bill_seats => k_is)
    (case cra_Bill => k_is)
    (case crb_Bill => k_is)
    (case cva_Bill_MAX_SEATS => k_is)
    (case ma_Bill__init_ => k_is)
    (case mb_Bill__init_ => k_is)
    (case l39 => k_is)
    (case c39 => k_is)
    (case k39 => k_is)
    (case mk_Bill => k_is)
    (case kc_Bill => k_is)
    (case pa_Bill_amount => k_is)
    (case pb_Bill_amount => k_is)
    (case pc_Bill_amount => k_is)
    (case pd_Bill_amount => k_is)
    (case l40 => k_is)
    (case c40 => k_is)
    (case k40 => k_is)
    (case pa_Bill_seats => k_is)
    (case pb_Bill_seats => k_is)
    (case pc_Bill_seats => k_is)
    (case pd_Bill_seats => k_is)
    (case l41 => k_is)
    (case c41 => k_is)
    (case k41 => k_is)
    (case pa_Bill_odd_cents => k_is)
    (case pb_Bill_odd_cents => k_is)
    (case pc_Bill_odd_cents => k_is)
    (case pd_Bill_odd_cents => k_is)
    (case l42 => k_is)
    (case c42 => k_is)
    (case k42 => k_is)
    (case ma_Bill__contains_ => k_is)
    (case mb_Bill__contains_ => k_is)
    (case l43 => k_is)
    (case c43 => k_is)
    (case k43 => k_is)
    (case g_Evening => k_is)
    (case pg_Evening => k_is)
    (case hd_Evening => k_is)
    (case po_Evening => k_is)
    (case sa_Evening => k_is)
    (case ia_Evening => k_is)
    (case ib_Evening => k_is)
    (case ic_Evening => k_is)
    (case id_Evening => k_is)
    (case ob_Evening => k_is)
    (case sf_Evening => k_is)
    (case tyc_Evening => k_is)
    (case kit_Evening_tuple => k_is)
    (case kit_Evening_list => k_is)
    (case kit_Evening_int => k_is)
    (case na_Evening_seat_count => k_is)
    (case na_Evening_bills => k_is)
    (case cra_Evening => k_is)
    (case crb_Evening => k_is)
    (case cva_Evening_MAX_BILLS => k_is)
    (case ma_Evening__init_ => k_is)
    (case mb_Evening__init_ => k_is)
    (case l44 => k_is)
    (case c44 => k_is)
    (case k44 => k_is)
    (case mk_Evening => k_is)
    (case kc_Evening => k_is)
    (case cma_Evening_together => k_is)
    (case cmb_Evening_together => k_is)
    (case cmc_Evening_together => k_is)
    (case l45 => k_is)
    (case c45 => k_is)
    (case k45 => k_is)
    (case pa_Evening_seat_count => k_is)
    (case pb_Evening_seat_count => k_is)
    (case pc_Evening_seat_count => k_is)
    (case pd_Evening_seat_count => k_is)
    (case l46 => k_is)
    (case c46 => k_is)
    (case k46 => k_is)
    (case pa_Evening_bills => k_is)
    (case pb_Evening_bills => k_is)
    (case pc_Evening_bills => k_is)
    (case pd_Evening_bills => k_is)
    (case l47 => k_is)
    (case c47 => k_is)
    (case k47 => k_is)
    (case ma_Evening__call_ => k_is)
    (case mb_Evening__call_ => k_is)
    (case l48 => k_is)
    (case c48 => k_is)
    (case k48 => k_is)
    (case coc_Evening__call_ => k_is)
    (case ma_Evening__getitem_ => k_is)
    (case mb_Evening__getitem_ => k_is)
    (case l49 => k_is)
    (case c49 => k_is)
    (case k49 => k_is)
    (case ma_Evening__iter_ => k_is)
    (case mb_Evening__iter_ => k_is)
    (case l50 => k_is)
    (case c50 => k_is)
    (case k50 => k_is)
    (case ma_Evening__len_ => k_is)
    (case mb_Evening__len_ => k_is)
    (case l51 => k_is)
    (case c51 => k_is)
    (case k51 => k_is)
    (case ma_Evening__bool_ => k_is)
    (case mb_Evening__bool_ => k_is)
    (case l52 => k_is)
    (case c52 => k_is)
    (case k52 => k_is)
    (case ma_Evening__add_ => k_is)
    (case mb_Evening__add_ => k_is)
    (case l53 => k_is)
    (case c53 => k_is)
    (case k53 => k_is)
    (case ma_Evening__mul_ => k_is)
    (case mb_Evening__mul_ => k_is)
    (case l54 => k_is)
    (case c54 => k_is)
    (case k54 => k_is)
    (case oa_Evening__mul_ => k_is)
    (case ob_Evening__mul_ => k_is)
    (case oc_Evening__mul_ => k_is)
    (case od_Evening__mul_ => k_is)
    (case ic_InvalidBill => k_is)
    (case se_CentError_InvalidBill => k_is)
    (case se_InvalidBill_InvalidBill => k_is)
    (case se_InvalidEvening_InvalidBill => k_is)
    (case se_InvalidMark_InvalidBill => k_is)
    (case se_UnknownSeat_InvalidBill => k_is)
    (case se_OtherTable_InvalidBill => k_is)
    (case se_InvalidNumber_InvalidBill => k_is)
    (case ic_InvalidEvening => k_is)
    (case se_CentError_InvalidEvening => k_is)
    (case se_InvalidBill_InvalidEvening => k_is)
    (case se_InvalidEvening_InvalidEvening => k_is)
    (case se_InvalidMark_InvalidEvening => k_is)
    (case se_UnknownSeat_InvalidEvening => k_is)
    (case se_OtherTable_InvalidEvening => k_is)
    (case se_InvalidNumber_InvalidEvening => k_is)
    (case ic_InvalidMark => k_is)
    (case se_CentError_InvalidMark => k_is)
    (case se_InvalidBill_InvalidMark => k_is)
    (case se_InvalidEvening_InvalidMark => k_is)
    (case se_InvalidMark_InvalidMark => k_is)
    (case se_UnknownSeat_InvalidMark => k_is)
    (case se_OtherTable_InvalidMark => k_is)
    (case se_InvalidNumber_InvalidMark => k_is)
    (case ic_InvalidNumber => k_is)
    (case se_CentError_InvalidNumber => k_is)
    (case se_InvalidBill_InvalidNumber => k_is)
    (case se_InvalidEvening_InvalidNumber => k_is)
    (case se_InvalidMark_InvalidNumber => k_is)
    (case se_UnknownSeat_InvalidNumber => k_is)
    (case se_OtherTable_InvalidNumber => k_is)
    (case se_InvalidNumber_InvalidNumber => k_is)
    (case ic_OtherTable => k_is)
    (case se_CentError_OtherTable => k_is)
    (case se_InvalidBill_OtherTable => k_is)
    (case se_InvalidEvening_OtherTable => k_is)
    (case se_InvalidMark_OtherTable => k_is)
    (case se_UnknownSeat_OtherTable => k_is)
    (case se_OtherTable_OtherTable => k_is)
    (case se_InvalidNumber_OtherTable => k_is)
    (case sp => exact ⟨by decide +kernel, by decide +kernel⟩)
    (case tab => exact tabs _ (by simp))
    (case tab2 => exact tabs _ (by simp))

